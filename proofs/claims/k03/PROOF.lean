import PyProof.Rows.All
import Wide.All
import OpenK.AllK
import Wide.FinOn
import HandS.ForMost
import HandS.ForExc
import HandS.AnyAll
import HandS.TupSets
import HandS.Strs
import HandS.Sort
import HandS.SortOrd
import HandS.SortRule
import KE.KSortTup
import PyProof.EqAt
import PyProof.EqKinds
import HandS.DictComp
import HandS.FStr
import HandS.RaiseMore
import HandS.MakeKwOnly
import HandS.EndTab
import KE.KNestM
import HandS.Walk
import PyProof.ReprLen
import HandS.Comp
import KE.GoesComp
import HandS.TryOnly
import HandS.Style
import KE.KRevSl
import HandS.Text
import HandS.TupAny
import HandS.IsInst
import HandS.ExcInit
import PyProof.ReprRoads
import HandS.EndOwn
import KE.KExcSuper
import KE.KExcIs
import HandS.ExcField
import HandS.ExcOwn
import HandS.Codes
import HandS.Star
import HandS.TryMany
import PySem.Challenge.RW_waypapers_k03_maps_edited
set_option Elab.async false
set_option linter.all false
set_option maxRecDepth 100000
set_option maxHeartbeats 4000000
/-! all(test for x in text), where the test reads constants of the module: the walked element knows the base heap and the def's globals. -/
namespace MyG
open PySem PySem.Spec PyProof.Rows L2 GxR
/-- what the element's evaluation may lean on: the base heap stands, the globals are the module's, no exception is handled -/
def EltB (prog : Program) (w : World) (base : Heap) (scope : Scope) (x : Str) (elt : Expr) (pb : Nat → Bool) : Prop :=
  ∀ (ce : Env) (B : Around) (F : Value → Shared → Prop) (c : Nat) (t : Tok) (z : Shared) (m : Str → Option Value),
    ce.scope = scope → ce.globals = mainGlobals → B.handled = none → (∀ b o, base.get? b = some o → z.heap.get? b = some o) →
    z.heap.Ns ce.locals m → m x = some (.str ⟨#[c]⟩ t) → wpAny (model prog w) B (eval elt ce) (fun y z' => y = .bool (pb c) ∧ Keeps z z') F z
section
variable {X : Cx} {pins : List (Addr × Obj)} {σ : L2.St} {H : Hp} {s : Shared}
theorem genB {c P : Addr} {elt iter : Expr} {x : Str} {px gpos : Pos} {scope : Scope} {pb : Nat → Bool} {te : TE} {k : Nat} {Q' : Value → Shared → Prop} {R : Str → Hp → Prop}
    (hr : Room k X.A) (TB : TabB X.base X.mg c P) (hcode : X.env.code = .ref c) (S : GenS X.env scope x) (hi : PE X iter te) (hel : EltB X.prog X.w X.base scope x elt pb)
    (hs : ∀ v, genFold iter X.env v = pure v) (I : Inv X pins σ H s) (h : te σ H fun v H1 => ∃ a : Str, v = .str a ∧ TabG H1 P ∧ R a H1)
    (hQ : ∀ a H1 g z, R a H1 → Ready X pins σ H1 P a pb g z → Q' (.ref g) z) :
    wpAny (model X.prog X.w) X.A (eval (.GeneratorExp elt [⟨.Name x px, iter, [], 0⟩] scope gpos) X.env) Q' X.xe s := by
  refine wpAny_GeneratorExp_walksQ hr.hd S.co (closure_ok S.free) S.cell S.dot S.loc S.kind (by have := hr.dp; omega) ?_ hs
  refine thn (hi.run pins s σ H _ I h) fun xv s1 ⟨v, H1, I1, r1, a, ev, tb, q1⟩ => ?_
  subst ev
  obtain ⟨t, rfl⟩ := _root_.id r1
  obtain ⟨ps, hP, ht⟩ := tb
  refine wpAny_pyIter_str fun o St W hst => ?_
  have eP : s1.heap.get? P = some { cls := .none, data := .fields ps } := I1.hok P _ hP
  have ltP : P < s1.heap.objs.size := Heap.lt_size eP
  have eP2 := Heap.get?_push_of_some o eP
  have cd : PySem.W.CodeHd (s1.heap.push o) c P := TB.code.keeps fun b u e => Heap.get?_push_of_some _ (I1.bk b u e)
  have lim := I1.nolimit.push o
  have szp : (s1.heap.push o).objs.size = s1.heap.objs.size + 1 := Heap.size_push ..
  -- the base is not the table
  have nbP : ∀ b u, X.base.get? b = some u → b ≠ P := fun b u e z => by
    have q := (I1.bs b u e).2
    rw [z, hP] at q
    cases q
  have stP : cStatics ≠ P := fun e => by
    obtain ⟨_, ⟨o', es, ep, ho, hd, _⟩, _⟩ := I1.nolimit
    rw [e, eP] at ho
    cases ho
    cases hd
  have stlt : cStatics < s1.heap.objs.size := let ⟨_, hns, _⟩ := I1.nolimit; hns.lt
  -- behind the code object (made or found): h3, the table ps'
  have go : ∀ (code : Value) (h3 : Heap) (tk : Nat) (more : Array Value), Heap.ExtBut P (s1.heap.push o) h3 → (s1.heap.push o).objs.size ≤ h3.objs.size → h3.get? P = some { cls := .none, data := .fields (ps ++ more) } → TriplesOk (ps ++ more).toList →
      wpAny (model X.prog X.w) X.A (builtinsFor X.env.globals X.env.builtins) (fun bi s₄ =>
        ∃ Ia fp wr n₀ Pf St₀ pz F, Value.ref s1.heap.objs.size = .ref Ia ∧ (∀ A' : Around, A'.handled = none → Walks X.prog X.w A' Ia fp wr n₀ Pf St₀) ∧ St₀ 0 s₄.heap ∧ (∀ b ∈ fp, b < s₄.heap.objs.size) ∧ s₄.heap.NoLimit ∧ cStatics ∉ wr ∧
          (∀ href : Heap, (∀ b o, s₄.heap.get? b = some o → href.get? b = some o) →
            QuietGen X.prog X.w (genEnv scope (cloFrom X.env.cells scope.names []) s₄.heap.objs.size code bi X.env) x [] elt (List.range s₄.heap.objs.size) wr Pf pz F href) ∧
          (∀ a h₅ tk gs, gs.bare = true → s₄.heap.objs.size < a → h₅.objs.size = a + 1 → (∀ b o, s₄.heap.get? b = some o → h₅.get? b = some o) →
            WalksS X.prog X.w X.A.in4 a (a :: s₄.heap.objs.size :: List.range s₄.heap.objs.size) (s₄.heap.objs.size :: wr) (GenOnlyQ s₄.gens.size) (passing pz n₀ 0).length
              (fun j y => ∃ i, (passing pz n₀ 0)[j]? = some i ∧ F i y) (GenAt X.prog X.w X.A.in4 a s₄.gens.size s₄.heap.objs.size (List.range s₄.heap.objs.size) wr pz n₀ F) →
            GenAt X.prog X.w X.A.in4 a s₄.gens.size s₄.heap.objs.size (List.range s₄.heap.objs.size) wr pz n₀ F 0 { s₄ with gens := s₄.gens.push gs, toks := tk, heap := h₅ } →
            Q' (.ref a) { s₄ with gens := s₄.gens.push gs, toks := tk, heap := h₅ })) X.xe { s1 with heap := h3, toks := tk } := by
    intro code h3 tk more hx hsz e3 ht3
    obtain ⟨bm, ob, b1, b2, b3, b4, b5, b6, b7, b8⟩ := TB.bm
    have old : ∀ b u, b ≠ P → s1.heap.get? b = some u → h3.get? b = some u := fun b u hb e => hx b u hb (Heap.get?_push_of_some _ e)
    refine wpAny_builtinsFor (m := X.mg) (by rw [I1.ok.glob]; exact ((I1.mod.glob.keeps I1.bk).push o).extBut hx TB.gP) b1 b2 (old _ _ b4 (I1.bk _ _ b5)) b6 b7 b8 ?_
    refine ⟨s1.heap.objs.size, [s1.heap.objs.size], [s1.heap.objs.size], a.cps.size, SignAt a, St, (fun _ => true), (fun i y => ∃ cc, a.cps[i]? = some cc ∧ y = .bool (pb cc)), rfl, W, ?_, ?_, lim.extBut hx stP, ?_, ?_, ?_⟩
    · refine (W X.A hr.hd).frame _ _ _ hst fun b hb u e => hx b u (fun z => ?_) e
      have hb' : b = s1.heap.objs.size := List.mem_singleton.mp hb
      exact Nat.ne_of_lt ltP (z.symm.trans hb')
    · intro b hb
      have hb' : b = s1.heap.objs.size := List.mem_singleton.mp hb
      rw [hb']
      exact Nat.lt_of_lt_of_le (by rw [szp]; exact Nat.lt_succ_self _) hsz
    · intro z
      exact Nat.ne_of_lt stlt (List.mem_singleton.mp z)
    · intro href hk
      constructor
      · intro A' E' i v s₂ m₂ hA hPv hn hm hk2
        simp only [List.forIn_nil]
        exact wpAny_pure ⟨rfl, keeps_refl _⟩
      · intro A' E' i v s₂ m₂ hA hPv hp hn hm hk2
        obtain ⟨cc, u, hcc, rfl⟩ := hPv
        refine wpAny_mono (hel _ A' E' cc u s₂ m₂ rfl I1.ok.glob hA (fun b w' e => ?_) hn hm) (fun y s3 r => ⟨⟨cc, hcc, r.1⟩, r.2⟩) fun _ _ e => e
        have e1 := I1.bk b w' e
        have e2 := old b w' (nbP b w' e) e1
        have l1 : b < s1.heap.objs.size := Heap.lt_size e1
        refine hk2 b (List.mem_range.mpr (Heap.lt_size e2)) (fun z => ?_) w' (hk b w' e2)
        exact Nat.ne_of_lt l1 (List.mem_singleton.mp z)
    · intro g h5 tk5 gs hgb hag hsz5 hk5 W5 hat
      simp only [GxR.passing_true, List.length_range] at W5
      refine hQ a H1 g _ q1 ⟨_, _, _, _, _, W5.in4_1, hat, ?_, fun s' hm => ?_⟩
      · intro j y sj Qj Ej hy hQj
        obtain ⟨i, hij, cc, hcc, rfl⟩ := hy
        obtain ⟨hj, ej⟩ := List.getElem?_eq_some_iff.mp hij
        rw [List.getElem_range] at ej
        subst ej
        have e9 : a.cps.toList[j]? = some cc := by rw [Array.getElem?_toList]; exact hcc
        have hQ2 : Qj (trF pb a.cps.toList j) sj := hQj
        rw [trF_some e9] at hQ2
        exact wpAny_truthy_bool hQ2
      · have nwr : ∀ b u, s1.heap.get? b = some u → b ∉ h3.objs.size :: [s1.heap.objs.size] := fun b u e hb => by
          have hl := Heap.lt_size e
          rcases List.mem_cons.mp hb with z | z
          · exact Nat.ne_of_lt (Nat.lt_of_lt_of_le (Nat.lt_trans hl (Nat.lt_succ_self _)) (Nat.le_trans (Nat.le_of_eq szp.symm) hsz)) z
          · exact Nat.ne_of_lt hl (List.mem_singleton.mp z)
        have J := inv_tab (more := more) (h' := s'.heap) (g' := s'.gens) (d' := s'.drawn) (t' := s'.toks) I1 hP (fun b u hb e => hm.heap b u (nwr b u e) (hk5 b u (old b u hb e)))
          (hm.heap P _ (nwr P _ eP) (hk5 P _ e3)) (AllBare.movedS (I1.bare.push hgb) hm)
        rw [sh_eta s1 s' hm.os] at J
        exact ⟨upd H1 P (.tbl (ps ++ more)), ⟨⟨ps ++ more, upd_same, ht3⟩, fun b hb => upd_ne hb⟩, J⟩
  refine ⟨lim, ?_⟩
  cases hf : codeAmong gpos ps.toList with
  | none =>
    refine wpAny_genexprCodeX hcode (cd.code eP2 ht) (cd.tab eP2) hf fun c' h' tk hx hge hlt hco' _ htab' _ => ?_
    obtain ⟨o1, vs, f1, tf, fl, tg, inF, tx, tt, op, _, _, _, _, _, _, _, _, _, htr, _⟩ := hco'
    exact go _ h' tk _ hx (Nat.le_trans hge (Nat.le_of_lt hlt)) htab'.2 htr
  | some cv =>
    refine wpAny_genexprCode_hit hcode (cd.code eP2 ht) hf ?_
    refine go cv (s1.heap.push o) s1.toks #[] (Heap.ExtBut.refl _ _) (Nat.le_refl _) ?_ ?_
    · rw [Array.append_empty]; exact eP2
    · rw [Array.append_empty]; exact ht

/-- all(test for x in e), e a text -/
theorem pe_allB {c P : Addr} {elt iter : Expr} {x : Str} {px p pos gpos : Pos} {scope : Scope} {pb : Nat → Bool} {te : TE} {k : Nat}
    (hr : Room k X.A) (hg : Gl X "all") (hm : X.mg "all" = none) (TB : TabB X.base X.mg c P) (hcode : X.env.code = .ref c) (S : GenS X.env scope x) (hi : PE X iter te) (hel : EltB X.prog X.w X.base scope x elt pb)
    (hs : ∀ v, genFold iter X.env v = pure v)
    (he : starEach [.GeneratorExp elt [⟨.Name x px, iter, [], 0⟩] scope gpos] X.env = (false, eval (.GeneratorExp elt [⟨.Name x px, iter, [], 0⟩] scope gpos) X.env) :: starEach [] X.env := by rfl) :
    PE X (.Call (.Name "all" p) [.GeneratorExp elt [⟨.Name x px, iter, [], 0⟩] scope gpos] [] pos) (tAllS P pb te) := by
  refine ⟨fun pins s σ H Q I h => ?_⟩
  refine wpAny_Call_Name_kw (ld_blt I hg hm (by decide +kernel : bootBuiltins "all" = some (.builtin "all")) ?_)
  refine PyProof.Rows.callWith_builtin1 ?_ he (by rfl)
  rw [he]
  refine Calls.spliced_cons (genB (R := fun a H1 => ∀ H2, Tabbed P H1 H2 → Q (.bl (a.cps.toList.all pb)) H2) hr TB hcode S hi hel hs I h fun a H1 g z hR hG => Calls.spliced_nil ?_)
  obtain ⟨fp, wr, G, F, St, W, hst, htr, hI⟩ := hG
  refine call_all_walkS (W.self 0 _ _ _ hst ⟨g, fp, wr, G, _, F, St, _, rfl, W, hst, htr, fun s' hmv => ?_⟩)
  obtain ⟨H2, hT, J⟩ := hI s' hmv
  exact ⟨.bl _, H2, J, rfl, by rw [all_signs a pb]; exact hR H2 hT⟩
end
end MyG

set_option Elab.async false
set_option linter.all false
set_option maxRecDepth 100000
set_option maxHeartbeats 4000000
/-! set(xs) of a list or a tuple, by what one adding does: J i h says what the set at S holds of the first i items in the heap h. -/
namespace MyS
open PySem PySem.Spec PyProof.Rows L2
section
variable {P : Program} {w : World} {A : Around} {E : Value → Shared → Prop} {s : Shared}
/-- one adding -/
def Adds (P : Program) (w : World) (A : Around) (S : Addr) (h0 : Heap) (J : Nat → Heap → Prop) (i : Nat) (v : Value) : Prop :=
  ∀ (z : Shared) (Q : Bool → Shared → Prop) (E : Value → Shared → Prop), J i z.heap → (∀ b o, h0.get? b = some o → z.heap.get? b = some o) →
    (∀ b h' tk, z.toks ≤ tk → Heap.SameBut S z.heap h' → J (i + 1) h' → Q b { z with heap := h', toks := tk }) → wpAny (model P w) A (setAdd S v) Q E z
def KeepsJ (S : Addr) (h0 : Heap) (J : Nat → Heap → Prop) : Prop := ∀ i h h', J i h → (∀ o, h.get? S = some o → h'.get? S = some o) → (∀ b o, h0.get? b = some o → h'.get? b = some o) → J i h'
theorem loopJ {I : Addr} {fp wr : List Addr} {G : Array GenState → Array GenState → Prop} {n : Nat} {Pv : Nat → Value → Prop} {St : Nat → Shared → Prop} {R : Result → Shared → Prop} {J : Nat → Heap → Prop} {S : Addr} {h0 : Heap}
    (W : WalksS P w A.in1 I fp wr G n Pv St) (hSf : S ∉ fp) (hS0 : h0.get? S = none) (hw0 : ∀ b ∈ wr, h0.get? b = none) (kj : KeepsJ S h0 J) (step : ∀ i v, i < n → Pv i v → Adds P w A.in1 S h0 J i v) :
    ∀ (k i : Nat) (z : Shared), n - i = k → i ≤ n → St i z → (∀ b o, h0.get? b = some o → z.heap.get? b = some o) → J i z.heap →
      (∀ z', Moved (S :: wr) G z z' → J n z'.heap → (∀ b o, h0.get? b = some o → z'.heap.get? b = some o) → R (.ok (.ret .none)) z') →
      codeAny (model P w) A (.builtin "set.update.loop" ⟨[.ref S, .ref I], []⟩) R z := by
  have Sw : S ∉ wr := fun h => hSf (W.sub _ h)
  have up : ∀ b ∈ wr, b ∈ S :: wr := fun b hb => List.mem_cons_of_mem _ hb
  have old : ∀ {z z' : Shared}, Moved wr G z z' → (∀ b o, h0.get? b = some o → z.heap.get? b = some o) → ∀ b o, h0.get? b = some o → z'.heap.get? b = some o := fun m k b o e =>
    m.heap b o (fun hb => by rw [hw0 b hb] at e; cases e) (k b o e)
  intro k
  induction k with
  | zero =>
    intro i z hk hi hst hkp hJ hR
    obtain rfl : i = n := by omega
    refine codeAny_builtin F.entry_set_update_loop ?_
    rw [Around.under_plainId F.plain_set_update_loop _]
    show wpAny _ A.in1 (pyNext (.ref I) >>= _) _ _ z
    refine wpAny_bind (W.done z _ _ hst fun z' m => ?_)
    show wpAny _ A.in1 (ret Value.none) _ _ z'
    have o' := old m hkp
    exact wpAny_pure (hR z' (m.mono up) (kj _ _ _ hJ (fun o e => m.heap S o Sw e) o') o')
  | succ k ih =>
    intro i z hk hi hst hkp hJ hR
    have lt : i < n := by omega
    refine codeAny_builtin F.entry_set_update_loop ?_
    rw [Around.under_plainId F.plain_set_update_loop _]
    show wpAny _ A.in1 (pyNext (.ref I) >>= _) _ _ z
    refine wpAny_bind (W.item i z _ _ lt hst fun v z' hP hst' m => ?_)
    have o' := old m hkp
    show wpAny _ A.in1 (holding [v] (setAdd S v) >>= _) _ _ z'
    refine wpAny_bind (wpAny_holding (step i v lt hP z' _ _ (kj _ _ _ hJ (fun o e => m.heap S o Sw e) o') o' fun b h' tk ht sb hJ2 => ?_))
    have nS : ∀ {b : Addr}, b ≠ S → ∀ o, z'.heap.get? b = some o → h'.get? b = some o := fun hb o e => (sb.2 _ hb).trans e
    have o2 : ∀ b o, h0.get? b = some o → h'.get? b = some o := fun b o e => nS (fun q => by rw [q, hS0] at e; cases e) o (o' b o e)
    refine wpAny_pure ⟨plainId_quiet F.plain_set_update_loop _, ih (i + 1) _ (by omega) lt (W.frame _ z' _ _ hst' ht fun b hb o e => nS (fun q => hSf (by rw [← q]; exact hb)) o e) o2 hJ2 fun z2 m2 hJ3 o3 => ?_⟩
    exact hR z2 (Moved.trans W.gtrans ((m.mono up).then_heap ht fun b o hb e => nS (fun q => hb (by rw [q]; exact List.mem_cons_self)) o e) m2) hJ3 o3

abbrev freshSet (w : World) : Obj := { cls := .type "set", dict := none, data := .set #[] 0 (.fresh 0 0 (!w.params.followText "set-order")) }
theorem gone_of {h : Heap} {b : Addr} (hb : h.objs.size ≤ b) : h.get? b = none := by
  cases q : h.get? b with
  | none => rfl
  | some o => exact absurd (Nat.lt_of_lt_of_le (Heap.lt_size q) hb) (Nat.lt_irrefl _)
theorem code_new (a : Value) {Q₁ : Value → Shared → Prop} (h : Q₁ (.ref s.heap.objs.size) { s with heap := s.heap.push (freshSet w) }) :
    codeAny (model P w) A (.call (.builtin "set.__new__") ⟨[.type "set", a], []⟩) (wants Q₁ E) s := code_set_led1 a h
set_option maxHeartbeats 3200000 in
/-- set(l), l a list or a tuple of n items -/
theorem call_setJ {l : Addr} {items : Array Value} {J : Nat → Heap → Prop} {Q : Value → Shared → Prop} (hh : A.handled = none) (hl : s.heap.IsList l items ∨ s.heap.IsTuple l items) (hJ0 : ∀ h, h.get? s.heap.objs.size = some (freshSet w) → J 0 h)
    (kj : KeepsJ s.heap.objs.size s.heap J) (hex : ∀ h, J items.size h → ∃ o, h.get? s.heap.objs.size = some o) (step : ∀ (A' : Around), A'.units ≤ A.units + 4 → ∀ i v, items[i]? = some v → Adds P w A' s.heap.objs.size s.heap J i v)
    (h : ∀ (h' : Heap) (tk : Nat), J items.size h' → (∀ b o, s.heap.get? b = some o → h'.get? b = some o) → (∃ o, h'.get? s.heap.objs.size = some o) → Q (.ref s.heap.objs.size) { s with heap := h', toks := tk }) :
    wpAny (model P w) A (call (.type "set") [.ref l]) Q E s := by
  obtain ⟨c, tl, hmro⟩ := F.called_set.mro
  have hmade := F.called_set.made
  have hsub := F.called_set.sub
  refine wpAny_call (codeAny_of_tree ?_)
  show wpAny _ _ (callAny (.type "set") _) _ _ _
  refine wpAny_pure ⟨Code.quiet_builtin _ (by decide +kernel), codeAny_builtin F.entry_type_call ?_⟩
  rw [Around.under_plain (weight_type_call_type "set" [.ref l] []) rfl]
  have h1 := F.called_set.notType
  have h2 := F.called_set.canCreate
  have hct := F.typeCall_set_1 (.ref l)
  repeat (any_goals (first | assumption | wp_step))

  refine codeAny_mono (code_new (.ref l) (E := E) (Q₁ := fun obj z => obj = .ref s.heap.objs.size ∧ z = { s with heap := s.heap.push (freshSet w) }) ⟨rfl, rfl⟩) fun r z hr => ?_
  cases r with
  | error e => exact hr
  | ok fl =>
    cases fl with
    | ret obj =>
      obtain ⟨rfl, rfl⟩ := hr
      have hS : (s.heap.push (freshSet w)).get? s.heap.objs.size = some (freshSet w) := Heap.get?_push_size _ rfl
      have hT : Shared.TypeIs { s with heap := s.heap.push (freshSet w) } (.ref s.heap.objs.size) "set" := ⟨_, hS, rfl⟩
      have hli := F.called_set.init.lookup
      have hbi := F.called_set.init.bind (.ref s.heap.objs.size)
      repeat (any_goals (first | assumption | wp_step))

      refine codeAny_mono (codeAny_call_builtin (R := wants (fun r z => r = .none ∧ ∃ h' tk, z = { s with heap := h', toks := tk } ∧ J items.size h' ∧ (∀ b o, s.heap.get? b = some o → h'.get? b = some o) ∧ ∃ o, h'.get? s.heap.objs.size = some o) E) F.called_set.init.plain F.entry_set_init (check_set_init_1 hT ?_)) fun r₂ z₂ hr₂ => ?_
      · have hneS : ∀ b o, s.heap.get? b = some o → b ≠ s.heap.objs.size := fun b o e z => Nat.lt_irrefl _ (z ▸ Heap.lt_size e)
        have szp : (s.heap.push (freshSet w)).objs.size = s.heap.objs.size + 1 := Heap.size_push ..
        have hu3 : (A.in1.in1.in1).units ≤ A.units + 4 := by have e : (A.in1.in1.in1).units = A.units + 3 := rfl; omega
        rcases hl with hl | hl
        · obtain ⟨ol, hol, hcl, nl, hdl⟩ := hl
          obtain ⟨ocls, odict, odata, oslots⟩ := ol
          simp only at hcl hdl
          subst hcl; subst hdl
          have hol' : (s.heap.push (freshSet w)).get? l = some { cls := .type "list", dict := odict, data := .seq items nl, slots := oslots } := Heap.get?_push_of_some _ hol
          have hsls := F.sub_list_set
          have hslf := F.sub_list_frozenset
          have hne : (Value.type "list" == Value.type "dict") = false := by decide
          have hl1 : (s.heap.push (freshSet w)).IsList l items := ⟨_, hol', rfl, nl, rfl⟩
          unfold Builtin.«set.__init__» noKeywords Builtin.Frozenset.updateFrom
          generalize hPI : pyIter = PI
          wp_walk
          subst hPI

          refine wpAny_pyIter_list hl1 ?_
          refine wpAny_bind (wpAny_runValue ?_)
          have hlS : l < s.heap.objs.size := Heap.lt_size hol
          have hneI : l ≠ (s.heap.push (freshSet w)).objs.size := by
            rw [szp]; exact Nat.ne_of_lt (Nat.lt_succ_of_lt hlS)
          have hSf : s.heap.objs.size ∉ [(s.heap.push (freshSet w)).objs.size, l] := fun z => by
            rw [szp] at z
            rcases List.mem_cons.mp z with z | z
            · exact Nat.ne_of_lt (Nat.lt_succ_self _) z
            · exact Nat.ne_of_gt hlS (List.mem_singleton.mp z)
          refine loopJ (S := s.heap.objs.size) (h0 := s.heap) (J := J) ((Walks.list (show A.in1.in1.in1.handled = none by simp [hh]) _ l hneI items).toS) hSf (gone_of (Nat.le_refl _)) (fun b hb => gone_of (by
              rw [List.mem_singleton.mp hb, szp]
              exact Nat.le_succ _)) kj (fun i v _ hv => step _ hu3 i v hv) (items.size - 0) 0 _ (by omega) (Nat.zero_le _)
            ⟨⟨_, Heap.get?_push_size _ rfl, rfl, rfl⟩, (hl1.push _)⟩ (fun b o e => Heap.get?_push_of_some _ (Heap.get?_push_of_some _ e)) (hJ0 _ (Heap.get?_push_of_some _ hS)) ?_
          intro z' m hJ o'
          have hso : ∃ o, z'.heap.get? s.heap.objs.size = some o := hex _ hJ
          obtain ⟨h', g2, d', tk', os'⟩ := z'
          have eg : g2 = s.gens := m.gens
          have ed : d' = s.drawn := m.drawn
          have eo : os' = s.os := m.os
          subst eg; subst ed; subst eo
          show wpAny _ _ _ _ _ _
          refine wpAny_pure ?_
          show wpAny _ _ (ret Value.none) _ _ _
          exact wpAny_pure ⟨rfl, h', tk', rfl, hJ, o', hso⟩
        · obtain ⟨ol, hol, hcl, nl, hdl⟩ := hl
          obtain ⟨ocls, odict, odata, oslots⟩ := ol
          simp only at hcl hdl
          subst hcl; subst hdl
          have hol' : (s.heap.push (freshSet w)).get? l = some { cls := .type "tuple", dict := odict, data := .seq items nl, slots := oslots } := Heap.get?_push_of_some _ hol
          have hsls := F.sub_tuple_set
          have hslf := F.sub_tuple_frozenset
          have hne : (Value.type "tuple" == Value.type "dict") = false := by decide
          have hl1 : (s.heap.push (freshSet w)).IsTuple l items := ⟨_, hol', rfl, nl, rfl⟩
          unfold Builtin.«set.__init__» noKeywords Builtin.Frozenset.updateFrom
          generalize hPI : pyIter = PI
          wp_walk
          subst hPI

          refine wpAny_pyIter_tuple hl1 ?_
          refine wpAny_bind (wpAny_runValue ?_)
          have hlS : l < s.heap.objs.size := Heap.lt_size hol
          have hneI : l ≠ (s.heap.push (freshSet w)).objs.size := by
            rw [szp]; exact Nat.ne_of_lt (Nat.lt_succ_of_lt hlS)
          have hSf : s.heap.objs.size ∉ [(s.heap.push (freshSet w)).objs.size, l] := fun z => by
            rw [szp] at z
            rcases List.mem_cons.mp z with z | z
            · exact Nat.ne_of_lt (Nat.lt_succ_self _) z
            · exact Nat.ne_of_gt hlS (List.mem_singleton.mp z)
          refine loopJ (S := s.heap.objs.size) (h0 := s.heap) (J := J) ((Walks.tuple (show A.in1.in1.in1.handled = none by simp [hh]) _ l hneI items).toS) hSf (gone_of (Nat.le_refl _)) (fun b hb => gone_of (by
              rw [List.mem_singleton.mp hb, szp]
              exact Nat.le_succ _)) kj (fun i v _ hv => step _ hu3 i v hv) (items.size - 0) 0 _ (by omega) (Nat.zero_le _)
            ⟨⟨_, Heap.get?_push_size _ rfl, rfl, rfl⟩, (hl1.push _)⟩ (fun b o e => Heap.get?_push_of_some _ (Heap.get?_push_of_some _ e)) (hJ0 _ (Heap.get?_push_of_some _ hS)) ?_
          intro z' m hJ o'
          have hso : ∃ o, z'.heap.get? s.heap.objs.size = some o := hex _ hJ
          obtain ⟨h', g2, d', tk', os'⟩ := z'
          have eg : g2 = s.gens := m.gens
          have ed : d' = s.drawn := m.drawn
          have eo : os' = s.os := m.os
          subst eg; subst ed; subst eo
          show wpAny _ _ _ _ _ _
          refine wpAny_pure ?_
          show wpAny _ _ (ret Value.none) _ _ _
          exact wpAny_pure ⟨rfl, h', tk', rfl, hJ, o', hso⟩
      · cases r₂ with
        | error e => exact hr₂
        | ok fl₂ =>
          cases fl₂ with
          | ret r =>
            obtain ⟨rfl, h', tk, rfl, hJ, hk', ho⟩ := hr₂
            repeat (any_goals (first | assumption | wp_step))
            exact h _ _ hJ hk' ho
          | _ => exact hr₂.elim
    | _ => exact hr.elim
end
end MyS

set_option Elab.async false
set_option linter.all false
set_option maxRecDepth 100000
set_option maxHeartbeats 4000000
/-! len(set(xs)) of a list or a tuple of texts: as many as there are different ones. -/
namespace MyS
open PySem PySem.Spec PyProof.Rows L2
theorem nodup_snoc {α : Type} {l : List α} {x : α} : (l ++ [x]).Nodup ↔ l.Nodup ∧ x ∉ l := by
  rw [List.nodup_append]
  constructor
  · rintro ⟨h1, _, h3⟩
    exact ⟨h1, fun h => h3 x h x (List.mem_singleton.mpr rfl) rfl⟩
  · rintro ⟨h1, h2⟩
    refine ⟨h1, by simp, fun a ha b hb e => ?_⟩
    rw [List.mem_singleton.mp hb] at e
    exact h2 (e ▸ ha)
/-- how many different ones the first i items are: n, whole exactly if they all differ -/
structure Cnt {α : Type} (l : List α) (n : Nat) : Prop where
  le : n ≤ l.length
  eq : n = l.length ↔ l.Nodup
theorem Cnt.nil {α : Type} : Cnt ([] : List α) 0 := ⟨Nat.le_refl _, ⟨fun _ => List.nodup_nil, fun _ => rfl⟩⟩
theorem Cnt.old {α : Type} {l : List α} {n : Nat} {x : α} (c : Cnt l n) (h : x ∈ l) : Cnt (l ++ [x]) n := by
  have h1 := c.le
  refine ⟨by rw [List.length_append]; exact Nat.le_succ_of_le h1, ?_⟩
  rw [List.length_append, List.length_singleton]
  exact ⟨fun e => absurd e (by omega), fun e => absurd h (nodup_snoc.mp e).2⟩
theorem Cnt.new {α : Type} {l : List α} {n : Nat} {x : α} (c : Cnt l n) (h : x ∉ l) : Cnt (l ++ [x]) (n + 1) := by
  have h1 := c.le
  refine ⟨by rw [List.length_append, List.length_singleton]; omega, ?_⟩
  rw [List.length_append, List.length_singleton, nodup_snoc, ← c.eq]
  constructor
  · intro e; exact ⟨by omega, h⟩
  · rintro ⟨e, _⟩; omega
section
variable {P : Program} {w : World} {A : Around} {E : Value → Shared → Prop} {s : Shared}
/-- the set at S behind the first i texts -/
def JT (P : Program) (w : World) (S : Addr) (xs : List Str) (i : Nat) (h : Heap) : Prop := ∃ n M, h.SetOf (PySem.strKind P w) S M n ∧ (∀ k, M k = true ↔ k ∈ xs.take i) ∧ Cnt (xs.take i) n
theorem take_snoc {α : Type} {l : List α} {i : Nat} {x : α} (h : l[i]? = some x) : l.take (i + 1) = l.take i ++ [x] := by rw [List.take_succ, h]; rfl
theorem JT.adds {S : Addr} {xs : List Str} {h0 : Heap} {i : Nat} {x : Str} {t : Tok} (hx : xs[i]? = some x) (hb : xs.length + 1 < scanBound) : Adds P w A S h0 (JT P w S xs) i (.str x t) := by
  intro z Q E hJ hk hQ
  obtain ⟨n, M, hS, hM, hc⟩ := hJ
  have hi : i < xs.length := (List.getElem?_eq_some_iff.mp hx).1
  have hn := hc.le
  rw [List.length_take] at hn
  unfold setAdd
  refine wpAny_holding ?_
  refine wpAny_bind ((PySem.strKind P w).pyHash (k := x) (strKind_is _ _ _ _) ?_)
  refine wpAny_setAddHashed_of (knd := PySem.strKind P w) (s := { z with toks := z.toks + 1 }) (strKind_is _ _ _ _) rfl hS (by omega) fun h' sb hS2 => ?_
  refine hQ _ h' _ (Nat.le_succ _) sb ⟨_, _, hS2, fun k => ?_, ?_⟩
  · rw [take_snoc hx, Bool.or_eq_true, hM k, decide_eq_true_eq, List.mem_append, List.mem_singleton]
  · rw [take_snoc hx]
    by_cases q : M x = true
    · rw [if_pos q]
      exact hc.old ((hM x).mp q)
    · rw [if_neg q]
      exact hc.new fun m => q ((hM x).mpr m)
theorem JT.keeps {S : Addr} {xs : List Str} {h0 : Heap} : KeepsJ S h0 (JT P w S xs) := by
  rintro i h h' ⟨n, M, ⟨o, es, ep, t, ho, r⟩, hM, hc⟩ k1 _
  exact ⟨n, M, ⟨o, es, ep, t, k1 o ho, r⟩, hM, hc⟩
theorem JT.zero {S : Addr} {xs : List Str} {h : Heap} (ho : h.get? S = some (freshSet w)) : JT P w S xs 0 h := by
  refine ⟨0, fun _ => false, ⟨_, #[], 0, _, ho, ⟨rfl, rfl, rfl⟩, rfl, (fun e he => by simp at he), (fun k => by simp), by decide, rfl, rfl⟩, fun k => by simp, Cnt.nil⟩
end
section
variable {X : Cx}
/-- len(set(xs)) -/
def tLenSetS (K : PySem.W.Frag) (ta : TE) : TE := fun σ H Q => ta σ H fun x H1 => ∃ (l : Addr) (xs : List Str), x = .ref l ∧ (SqL K H1 l (xs.map V.str) ∨ SqT K H1 l (xs.map V.str)) ∧ xs.length ≤ 4000 ∧ ∀ n, Cnt xs n → Q (.int (n : Nat)) H1
theorem strs_get {ys : List Str} {us : List Value} (r : Vals (ys.map V.str) us) {i : Nat} {v : Value} (h : us[i]? = some v) : ∃ x t, ys[i]? = some x ∧ v = .str x t := by
  have hl : i < ys.length := by
    have q := (List.getElem?_eq_some_iff.mp h).1
    have e := r.length
    rw [List.length_map] at e
    omega
  obtain ⟨u, e1, e2⟩ := Vals.get r (i := i) (x := V.str ys[i]) (by rw [List.getElem?_map, List.getElem?_eq_getElem hl]; rfl)
  rw [h] at e1
  cases e1
  obtain ⟨t, e⟩ := e2
  exact ⟨ys[i], t, List.getElem?_eq_getElem hl, e⟩
theorem pe_lenSetS {a : Expr} {ta : TE} {p p2 q pos : Pos} (hc : X.calm = true) (hm : X.mg "len" = none) (hm2 : X.mg "set" = none) (ha : PE X a ta) (hg : Gl X "len" := by rfl) (hg2 : Gl X "set" := by rfl)
    (na : starEach [a] X.env = (false, eval a X.env) :: starEach [] X.env := by rfl) : PE X (.Call (.Name "len" p) [.Call (.Name "set" p2) [a] [] q] [] pos) (tLenSetS X.K ta) := by
  refine ⟨fun pins s σ H Q I h => ?_⟩
  refine Call_ (ld_blt I hg hm boot_len ?_)
  refine PyProof.Rows.callWith_builtin1 (PyProof.Rows.args_cons ?_ rfl) rfl rfl
  refine Call_ (ld_blt I hg2 hm2 boot_set ?_)
  refine PyProof.Rows.callWith_type1 (PyProof.Rows.args_cons (thn (ha.run pins s σ H _ I h) fun v s1 ⟨x, H1, I1, r1, q1⟩ => PyProof.Rows.args_nil ?_) na) na rfl
  obtain ⟨l, xs, rfl, hq, h1, q1⟩ := q1
  cases r1
  have go : ∀ (its : List Value), Vals (xs.map V.str) its → (s1.heap.IsList l its.toArray ∨ s1.heap.IsTuple l its.toArray) → wpAny (model X.prog X.w) X.A (call (.type "set") [.ref l])
      (fun v s₂ => wpAny (model X.prog X.w) X.A (spliced (backTo pos (starEach [] X.env))) (fun vs s₃ => wpAny (model X.prog X.w) X.A (call (.builtin "len") (v :: vs)) (EP X pins σ Q) X.xe s₃) X.xe s₂) X.xe s1 := fun its r hl => by
    have hsz : its.toArray.size = xs.length := by rw [List.size_toArray, ← r.length, List.length_map]
    have hbd : xs.length + 1 < scanBound := by unfold scanBound; omega
    refine call_setJ (J := JT X.prog X.w s1.heap.objs.size xs) (I1.ok.hd hc) hl (fun h ho => JT.zero ho) JT.keeps (fun h hJ => ?_) (fun A' _ i v hv => ?_) fun h' tk hJ hk _ => ?_
    · obtain ⟨n, M, ⟨o, es, ep, t, ho, _⟩, _⟩ := hJ
      exact ⟨o, ho⟩
    · obtain ⟨x, t, hx, rfl⟩ := strs_get r (i := i) (v := v) (by simpa using hv)
      exact JT.adds hx hbd
    · rw [hsz] at hJ
      obtain ⟨n, M, ⟨o, es, ep, t, ho, hex, hd, _, _, _, hf, hn⟩, hM, hcn⟩ := hJ
      rw [List.take_length] at hcn
      have I2 : Inv X pins σ H1 { s1 with heap := h', toks := tk } := I1.kept fun b o e => hk b o e
      refine PyProof.Rows.args_nil ?_
      have hle := hcn.le
      refine call_len_set ho hex hd hf (by rw [hn]; omega) ⟨.int (n : Nat), H1, I2.tok _, ⟨_, by rw [hn]⟩, q1 n hcn⟩
  rcases hq with hq | hq
  · obtain ⟨its, r, pl, hz⟩ := I1.list hq
    exact go its r (.inl pl.isList)
  · obtain ⟨its, r, pl, hz⟩ := I1.tuple hq
    exact go its r (.inr (by first | exact pl | exact pl.isTuple))
end
end MyS

set_option Elab.async false
set_option linter.all false
set_option maxRecDepth 100000
set_option maxHeartbeats 4000000
/-! len(set(xs)) of a list of tuples of texts, fewer than 64: over the library's table of a set (TabOk, go_spec, relaid_ok). -/
namespace MyS
open PySem PySem.Spec PyProof.Rows L2
section
variable {P : Program} {w : World} {A : Around} {E : Value → Shared → Prop} {s : Shared}
/-- the tuple at b has the texts k; its hash -/
abbrev IsP (P : Program) (w : World) (h : Heap) (k : List Str) (b : Addr) : Prop := IsTupleKey (PySem.strKind P w) h k b
abbrev hashP (P : Program) (w : World) (k : List Str) : Int := tupleKeyHash (PySem.strKind P w) k
theorem IsP.keep {h h' : Heap} {k : List Str} {b : Addr} (x : IsP P w h k b) (hk : ∀ o, h.get? b = some o → h'.get? b = some o) : IsP P w h' k b :=
  let ⟨o, items, n, ho, r⟩ := x; ⟨o, items, n, hk o ho, r⟩
theorem strs_of {k : List Str} {vs : List Value} (h : ItemsAre (PySem.strKind P w) k vs) : ∀ v ∈ vs, ∃ x t, v = Value.str x t := by
  induction h with
  | nil => intro v hv; cases hv
  | @cons k0 v' ks vs h1 _ ih =>
    intro v hv
    rcases List.mem_cons.mp hv with e | hv
    · obtain ⟨t, e2⟩ := Value.isStrOf_shape h1
      exact ⟨k0, t, e.trans e2⟩
    · exact ih v hv
/-- a text is of no class statement -/
theorem noClass_str (n : Nat) (x : Str) (t : Tok) : ofAClassStatement n (.str x t) = pure false := by cases n <;> rfl
theorem hashBy_str (n : Nat) (x : Str) (t : Tok) : hashByValue n (.str x t) = pure false := by cases n <;> rfl
theorem noClass {k : List Str} {b : Addr} {Q : Bool → Shared → Prop} (hk : IsP P w s.heap k b) (h : Q false s) : wpAny (model P w) A (ofAClassStatement 8 (.ref b)) Q E s := by
  have hT := hk.typeIs
  obtain ⟨o, items, n, ho, _, hd, hi⟩ := hk
  unfold ofAClassStatement
  refine wpAny_bind (wpAny_typeOf hT ?_)
  have e : (("tuple" : String) == "tuple") = true := by decide
  simp only [e, if_true, Bool.not_true, Bool.false_eq_true, if_false]
  try refine wpAny_bind (wpAny_pure ?_)
  try simp only [Bool.not_true, Bool.false_eq_true, if_false]
  show wpAny _ _ (seqItems? (.ref b) >>= _) _ _ s
  refine wpAny_bind (wpAny_seqItems ho hd ?_)
  refine wpAny_bind ?_
  show wpAny _ _ (forIn items _ _) _ _ s
  rw [← Array.forIn_toList]
  refine wpAny_forIn_list _ (fun rest r z => r.1 = none ∧ z = s ∧ ∀ v ∈ rest, ∃ x t, v = Value.str x t) _ ?_ ?_ _ _ ⟨rfl, rfl, strs_of hi⟩
  · rintro v rest r z ⟨hr, rfl, hall⟩
    obtain ⟨x, t, rfl⟩ := hall v List.mem_cons_self
    rw [noClass_str]
    refine wpAny_bind (wpAny_pure ?_)
    simp only [Bool.false_eq_true, if_false]
    exact wpAny_pure ⟨rfl, rfl, fun u hu => hall u (List.mem_cons_of_mem _ hu)⟩
  · rintro ⟨r1, r2⟩ z ⟨hr, rfl, _⟩
    simp only at hr
    subst hr
    exact wpAny_pure h
/-- whether the hash is by value: either answer will do -/
theorem hashBy {k : List Str} {b : Addr} {Q : Bool → Shared → Prop} (hk : IsP P w s.heap k b) (h : ∀ r, Q r s) : wpAny (model P w) A (hashByValue 8 (.ref b)) Q E s := by
  have hT := hk.typeIs
  obtain ⟨o, items, n, ho, _, hd, hi⟩ := hk
  unfold hashByValue
  refine wpAny_bind (wpAny_specialOf hT F.slot_tuple_hash.lookup ?_)
  show wpAny _ _ (seqItems? (.ref b) >>= _) _ _ s
  refine wpAny_bind (wpAny_seqItems ho hd ?_)
  refine wpAny_bind ?_
  show wpAny _ _ (forIn items _ _) _ _ s
  rw [← Array.forIn_toList]
  refine wpAny_forIn_list _ (fun rest r z => r.1 = none ∧ z = s ∧ ∀ v ∈ rest, ∃ x t, v = Value.str x t) _ ?_ ?_ _ _ ⟨rfl, rfl, strs_of hi⟩
  · rintro v rest r z ⟨hr, rfl, hall⟩
    obtain ⟨x, t, rfl⟩ := hall v List.mem_cons_self
    rw [hashBy_str]
    refine wpAny_bind (wpAny_pure ?_)
    simp only [Bool.not_false, if_true]
    exact wpAny_pure (wpAny_pure (h _))
  · rintro ⟨r1, r2⟩ z ⟨hr, rfl, _⟩
    simp only at hr
    subst hr
    exact wpAny_pure (h _)
/-- a search among such tuples shows nothing -/
theorem unseen {k : List Str} {b : Addr} {Q : Bool → Shared → Prop} (hk : IsP P w s.heap k b) {ys : List Value} (hy : ∀ y ∈ ys, ∃ k' c, y = Value.ref c ∧ IsP P w s.heap k' c) (h : Q false s) :
    wpAny (model P w) A (searchCouldBeSeen (.ref b) ys) Q E s := by
  unfold searchCouldBeSeen
  refine wpAny_bind ?_
  refine wpAny_forIn_list _ (fun rest r z => r.1 = none ∧ z = s ∧ ∀ y ∈ rest, ∃ k' c, y = Value.ref c ∧ IsP P w s.heap k' c) _ ?_ ?_ _ _ ⟨rfl, rfl, hy⟩
  · rintro v rest r z ⟨hr, rfl, hall⟩
    obtain ⟨k', c, rfl, hc⟩ := hall v List.mem_cons_self
    have more : ∀ y ∈ rest, ∃ k' c, y = Value.ref c ∧ IsP P w z.heap k' c := fun u hu => hall u (List.mem_cons_of_mem _ hu)
    by_cases hv : (b == c || (carriedByValue (.ref b) && carriedByValue (.ref c))) = true
    · refine wp_if_pos hv ?_
      exact wpAny_pure ⟨rfl, rfl, more⟩
    · refine wp_if_neg hv ?_
      refine wpAny_bind (wpAny_eqIsQuiet_tuple hk ?_)
      simp only [Bool.not_true, Bool.false_eq_true, if_false]
      refine wpAny_bind (wpAny_eqIsQuiet_tuple hc ?_)
      simp only [Bool.not_true, Bool.false_eq_true, if_false]
      refine wpAny_bind (noClass hk ?_)
      simp only [Bool.false_eq_true, if_false]
      refine wpAny_bind (noClass hc ?_)
      simp only [Bool.false_eq_true, if_false]
      exact wpAny_pure ⟨rfl, rfl, more⟩
  · rintro ⟨r1, r2⟩ z ⟨hr, rfl, _⟩
    simp only at hr
    subst hr
    exact wpAny_pure h

/-! ### the set at a, its tuples in the table's order -/
def rowP (P : Program) (w : World) (p : Addr × List Str) : Int × Value := (hashP P w p.2, .ref p.1)
structure PSet (P : Program) (w : World) (h : Heap) (a : Addr) (L : List (Addr × List Str)) (es : Array (Int × Value)) (ep : Nat) (t : SetTable) : Prop where
  ob : ∃ o, h.get? a = some o ∧ o.ExactSet ∧ o.data = .set es ep t
  rows : es.toList = L.map (rowP P w)
  tab : TabOk t (L.map fun p => hashP P w p.2)
  nd : (L.map (·.2)).Nodup
  tup : ∀ p ∈ L, IsP P w h p.2 p.1
  room : L.length * 5 < t.mask * 3
  few : L.length < 64
variable {a : Addr} {L : List (Addr × List Str)} {es : Array (Int × Value)} {ep : Nat} {t : SetTable}
theorem PSet.size (R : PSet P w s.heap a L es ep t) : es.size = L.length := by
  have h := congrArg List.length R.rows
  rwa [Array.length_toList, List.length_map] at h
theorem PSet.fits (R : PSet P w s.heap a L es ep t) : t.fits es.size = true := by
  have h1 := R.tab.sz
  rw [List.length_map] at h1
  have h2 := R.size
  have h3 := R.room
  unfold SetTable.fits SetTable.fill
  rw [R.tab.dm, Bool.and_eq_true, beq_iff_eq, decide_eq_true_eq]
  show t.place.size = es.size ∧ t.place.size + 0 ≤ t.mask
  omega
theorem PSet.entry (R : PSet P w s.heap a L es ep t) {i : Nat} {p : Addr × List Str} (h : L[i]? = some p) : es[i]? = some (rowP P w p) := by
  rw [← Array.getElem?_toList, R.rows, List.getElem?_map, h]
  rfl
/-- the way of the hash g through the table: the probe behind k steps -/
abbrev stepP (m : Nat) (g : Int) (k : Nat) : SetTable.Probe := nth m (runAt m (SetTable.bits g % (m + 1)) (SetTable.bits g)) k
theorem stepP_add (m : Nat) (g : Int) (c q : Nat) : nth m (stepP m g c) q = stepP m g (c + q) := (nth_add m c _ q).symm
theorem stepP_clean (m : Nat) (g : Int) (c : Nat) : (stepP m g c).dummy = none := by
  have key : ∀ (n : Nat) (p : SetTable.Probe), p.dummy = none → (nth m p n).dummy = none := by
    intro n
    induction n with
    | zero => intro p h; exact h
    | succ n ih =>
      intro p h
      refine ih (adv m p) ?_
      unfold adv
      split <;> exact h
  exact key c _ rfl
/-- what is asked of the search for k among L: found, or the first free slot of the way -/
structure Seek (P : Program) (w : World) (t : SetTable) (L : List (Addr × List Str)) (k : List Str) (K : Nat) (Q : SetFound → Shared → Prop) (z : Shared) : Prop where
  few : K < 10 * SetTable.turns t.mask
  free : way t.mask (hashP P w k) K ∉ t.place.toList
  full : ∀ c, c < K → way t.mask (hashP P w k) c ∈ t.place.toList
  hit : k ∈ L.map (·.2) → Q (.there none) z
  miss : k ∉ L.map (·.2) → Q (.free (way t.mask (hashP P w k) K) false) z
theorem seek {x : Addr} {k : List Str} {K : Nat} {Q : SetFound → Shared → Prop} (R : PSet P w s.heap a L es ep t) (hx : IsP P w s.heap k x) (hu : A.units < cLine) (B : Seek P w t L k K Q s) :
    ∀ (f c : Nat) (stand : Option SetTable.Probe), stand.getD (t.probeStart (hashP P w k)) = stepP t.mask (hashP P w k) c → c ≤ K → K - c < f →
      (∀ (i : Nat) p, L[i]? = some p → p.2 = k → ∃ c', c ≤ c' ∧ c' < K ∧ t.place.toList[i]? = some (way t.mask (hashP P w k) c')) →
      wpAny (model P w) A (setSearchFrom a (.ref x) (hashP P w k) true f stand) Q E s
  | 0, c, stand, _, _, hf, _ => absurd hf (Nat.not_lt_zero _)
  | f + 1, c, stand, hst, hc, hf, hre => by
    obtain ⟨o, ho, hex, hd⟩ := R.ob
    rw [setSearchFrom_succ]
    refine wpAny_bind (wpAny_setState_of ho hd R.fits ?_)
    dsimp only
    refine wp_if_neg (by unfold SetTable.gaveWay; rw [mask_odd R.tab.mok]; decide) ?_
    try refine wpAny_bind (wpAny_pure ?_)
    have at_ : ∀ q, (nth t.mask (stepP t.mask (hashP P w k) c) q).j = way t.mask (hashP P w k) (c + q) := fun q => congrArg SetTable.Probe.j (stepP_add _ _ _ _)
    have hashAt : ∀ (i : Nat) p, L[i]? = some p → (fun i => (es[i]?.map (·.1)).getD 0) i = hashP P w p.2 := fun i p hp => by
      show (es[i]?.map (·.1)).getD 0 = _
      rw [R.entry hp]
      rfl
    rcases go_spec t R.tab.ris R.tab.dm (fun i => (es[i]?.map (·.1)).getD 0) (hashP P w k) (10 * SetTable.turns t.mask) (K - c) _ (stepP_clean t.mask (hashP P w k) c) (by have := B.few; omega)
      (fun q hq => by rw [at_]; exact B.full (c + q) (by omega)) (by rw [at_, show c + (K - c) = K by omega]; exact B.free) with ⟨q, i, hq, hi, hh, hno, hpr⟩ | ⟨hno, hpr⟩
    · -- a candidate: the entry i at the slot of the step c + q
      have hpr' : t.probe (fun i => (es[i]?.map (·.1)).getD 0) (hashP P w k) (stand.getD (t.probeStart (hashP P w k))) = some (.candidate (way t.mask (hashP P w k) (c + q)) i (stepP t.mask (hashP P w k) (c + (q + 1)))) := by
        rw [hst, ← at_, ← stepP_add]
        exact hpr
      rw [hpr']
      dsimp only
      rw [at_] at hi
      have hil : i < L.length := by
        have h1 : i < t.place.toList.length := (List.getElem?_eq_some_iff.mp hi).1
        have h2 := R.tab.sz
        rw [List.length_map] at h2
        rw [Array.length_toList] at h1
        omega
      obtain ⟨p, hp⟩ : ∃ p, L[i]? = some p := ⟨_, List.getElem?_eq_getElem hil⟩
      have pm : p ∈ L := List.mem_of_getElem? hp
      have rest : wpAny (model P w) A (searchRest a (.ref x) (hashP P w k) true f es t (way t.mask (hashP P w k) (c + q)) i (stepP t.mask (hashP P w k) (c + (q + 1)))) Q E s := by
        unfold searchRest
        rw [R.entry hp]
        dsimp only [rowP]
        refine wpAny_bind (wpAny_holding (wpAny_eqBool_tuple hu (R.tup p pm) hx ?_))
        refine wpAny_bind (wpAny_setState_of ho hd R.fits ?_)
        dsimp only
        by_cases hkk : p.2 = k
        · refine wp_if_pos (by simp [hkk]) ?_
          exact wpAny_pure (B.hit (List.mem_map.mpr ⟨p, pm, hkk⟩))
        · refine wp_if_neg (by simp [hkk]) ?_
          try refine wpAny_bind (wpAny_pure ?_)
          rw [sameMem]
          dsimp only
          have hsl : t.slot (way t.mask (hashP P w k) (c + q)) = .live i := slot_live R.tab.ris hi
          simp only [if_true, hsl, R.entry hp, rowP]
          refine wpAny_bind (wpAny_isSame_ref_self (wpAny_bind (wpAny_pure ?_)))
          simp only [if_true]
          refine wp_if_neg (by simp [hkk]) ?_
          refine seek R hx hu B f (c + (q + 1)) _ rfl (by omega) (by omega) fun i0 p0 h0 hk0 => ?_
          obtain ⟨c', a1, a2, a3⟩ := hre i0 p0 h0 hk0
          refine ⟨c', ?_, a2, a3⟩
          -- what has k is not behind us
          rcases Nat.lt_trichotomy c' (c + q) with y | y | y
          · exact absurd ((hashAt i0 p0 h0).trans (congrArg (hashP P w) hk0)) (hno (c' - c) i0 (by omega) (by rw [at_, show c + (c' - c) = c' by omega]; exact a3))
          · rw [y] at a3
            have s0 := (slot_live R.tab.ris a3).symm.trans hsl
            injection s0 with s0
            rw [s0, hp] at h0
            cases h0
            exact absurd hk0 hkk
          · omega
      by_cases hl : t.led = true
      · refine wp_if_neg (by simp [hl]) ?_
        try refine wpAny_bind (wpAny_pure ?_)
        exact rest
      · refine wp_if_pos (by simp [hl]) ?_
        refine wpAny_bind (unseen hx (fun y hy => ?_) ?_)
        · obtain ⟨e, he, ee⟩ := List.mem_map.mp hy
          have he1 : e ∈ es ∧ e.1 = hashP P w k := by simpa using he
          have he2 : e ∈ es.toList := by simpa using he1.1
          rw [R.rows] at he2
          obtain ⟨p2, hp2, e2⟩ := List.mem_map.mp he2
          exact ⟨p2.2, p2.1, by rw [← ee, ← e2]; rfl, R.tup p2 hp2⟩
        · refine wp_if_neg (by decide) ?_
          try refine wpAny_bind (wpAny_pure ?_)
          exact rest
    · -- the way's first free slot
      have hpr' : t.probe (fun i => (es[i]?.map (·.1)).getD 0) (hashP P w k) (stand.getD (t.probeStart (hashP P w k))) = some (.empty (way t.mask (hashP P w k) K) none) := by
        have e2 : way t.mask (hashP P w k) K = (nth t.mask (stepP t.mask (hashP P w k) c) (K - c)).j := by rw [at_, show c + (K - c) = K by omega]
        rw [hst, e2]
        exact hpr
      rw [hpr']
      dsimp only
      refine wpAny_pure (B.miss fun hm => ?_)
      obtain ⟨p0, h0, hk0⟩ := List.mem_map.mp hm
      obtain ⟨i0, hi0, e0⟩ := List.getElem_of_mem h0
      have h00 : L[i0]? = some p0 := by rw [List.getElem?_eq_getElem hi0, e0]
      obtain ⟨c', a1, a2, a3⟩ := hre i0 p0 h00 hk0
      exact hno (c' - c) i0 (by omega) (by rw [at_, show c + (c' - c) = c' by omega]; exact a3) ((hashAt i0 p0 h00).trans (congrArg (hashP P w) hk0))
/-- the search as adding asks for it -/
theorem seek_all {x : Addr} {k : List Str} {Q : SetFound → Shared → Prop} (R : PSet P w s.heap a L es ep t) (hx : IsP P w s.heap k x) (hu : A.units < cLine) (hit : k ∈ L.map (·.2) → Q (.there none) s)
    (miss : ∀ K, k ∉ L.map (·.2) → way t.mask (hashP P w k) K ∉ t.place.toList → (∀ c, c < K → way t.mask (hashP P w k) c ∈ t.place.toList) → Q (.free (way t.mask (hashP P w k) K) false) s) :
    wpAny (model P w) A (setSearch a (.ref x) (hashP P w k) true) Q E s := by
  have hroom := R.room
  obtain ⟨K, f1, f2, f3⟩ := R.tab.first (by rw [List.length_map]; omega) (hashP P w k)
  have big : K < 100000 := by
    have : 10 * SetTable.turns t.mask ≤ 1420 := by
      unfold SetTable.turns
      rcases R.tab.mok with e | e | e <;> omega
    omega
  unfold setSearch
  refine seek R hx hu ⟨f1, f2, f3, hit, fun hn => miss K hn f2 f3⟩ 100000 0 none rfl (Nat.zero_le _) (by omega) fun i p hp hk => ?_
  have hi : (L.map fun p => hashP P w p.2)[i]? = some (hashP P w k) := by rw [List.getElem?_map, hp, ← hk]; rfl
  have hil : i < t.place.toList.length := by
    have h1 : i < L.length := (List.getElem?_eq_some_iff.mp hp).1
    have h2 := R.tab.sz
    rw [List.length_map] at h2
    rw [Array.length_toList]
    omega
  obtain ⟨c, hc, e⟩ := R.tab.before f2 hi (List.getElem?_eq_getElem hil)
  exact ⟨c, Nat.zero_le _, hc, by rw [List.getElem?_eq_getElem hil, e]⟩
/-- the entries in another order -/
theorem reorder {α : Type} (row : α → Int × Value) (L : List α) (es : Array (Int × Value)) (order : Array Nat) (hr : es.toList = L.map row) (hp : order.toList.Perm (List.range L.length)) :
    ∃ L2 : List α, (order.filterMap (es[·]?)).toList = L2.map row ∧ L2.Perm L ∧ (L2.map fun p => (row p).1) = order.toList.map fun i => (es.map (·.1)).getD i 0 := by
  have at_ : ∀ i, es[i]? = (L[i]?).map row := fun i => by rw [← Array.getElem?_toList, hr, List.getElem?_map]
  have all : (List.range L.length).filterMap (fun i => L[i]?) = L := by
    have key : ∀ n, n ≤ L.length → (List.range n).filterMap (fun i => L[i]?) = L.take n := by
      intro n
      induction n with
      | zero => intro _; rfl
      | succ n ih =>
        intro hn
        have hlt : n < L.length := hn
        rw [List.range_succ, List.filterMap_append, ih (Nat.le_of_lt hlt), List.take_succ, List.getElem?_eq_getElem hlt]
        simp [List.getElem?_eq_getElem hlt]
    rw [key L.length (Nat.le_refl _), List.take_length]
  refine ⟨order.toList.filterMap (fun i => L[i]?), ?_, ?_, ?_⟩
  · rw [Array.toList_filterMap, List.map_filterMap]
    congr 1
    funext i
    exact at_ i
  · have h := hp.filterMap (fun i => L[i]?)
    rwa [all] at h
  · have hlt : ∀ i ∈ order.toList, i < L.length := fun i hi => List.mem_range.mp (hp.mem_iff.mp hi)
    generalize order.toList = l at hlt
    induction l with
    | nil => rfl
    | cons i l ih =>
      have hi := hlt i List.mem_cons_self
      rw [List.filterMap_cons_some (List.getElem?_eq_getElem hi), List.map_cons, List.map_cons, ih fun j hj => hlt j (List.mem_cons_of_mem _ hj)]
      have e5 : (es.map (·.1))[i]? = some (row L[i]).1 := by rw [Array.getElem?_map, at_, List.getElem?_eq_getElem hi]; rfl
      simp [Array.getD_eq_getD_getElem?, e5]
end
end MyS

set_option Elab.async false
set_option linter.all false
set_option maxRecDepth 100000
set_option maxHeartbeats 4000000
/-! A tuple of texts is added to a set; len(set(xs)) of a list of such. -/
namespace MyS
open PySem PySem.Spec PyProof.Rows L2
section
variable {P : Program} {w : World} {A : Around} {E : Value → Shared → Prop} {s : Shared}
variable {a : Addr} {L : List (Addr × List Str)} {es : Array (Int × Value)} {ep : Nat} {t : SetTable}
theorem IsP.other {h h' : Heap} {k : List Str} {a b : Addr} {o : Obj} {es : Array (Int × Value)} {ep : Nat} {t : SetTable} (hb : IsP P w h k b) (ho : h.get? a = some o) (hd : o.data = .set es ep t) (hs : Heap.SameBut a h h') : IsP P w h' k b := by
  obtain ⟨o', items, n, ho', r⟩ := hb
  have hne : b ≠ a := fun z => by
    rw [z, ho] at ho'
    cases ho'
    rw [hd] at r
    exact nomatch r.2.1
  exact ⟨o', items, n, (hs.2 b hne).trans ho', r⟩
/-- TabOk looks at the places, the dummies and the mask alone -/
theorem tabOk_congr {t u : SetTable} {hs : List Int} (T : TabOk t hs) (e1 : u.place = t.place) (e2 : u.dummies = t.dummies) (e3 : u.mask = t.mask) : TabOk u hs := by
  obtain ⟨h1, h2, h3, h4, h5, h6⟩ := T
  constructor
  · rw [e1]; exact h1
  · rw [e2]; exact h2
  · rw [e1]; exact h3
  · rw [e3]; exact h4
  · intro x hx; rw [e3]; rw [e1] at hx; exact h5 x hx
  · intro i g j hi hj
    rw [e1] at hj
    obtain ⟨k, c1, c2⟩ := h6 i g j hi hj
    exact ⟨k, by rw [e3]; exact c1, fun k' hk' => by rw [e3, e1]; exact c2 k' hk'⟩
/-- the table laid anew, larger -/
theorem relayP {o : Obj} (ho : s.heap.get? a = some o) (hex : o.ExactSet) (hd : o.data = .set es ep t) (rows : es.toList = L.map (rowP P w)) (T : TabOk t (L.map fun p => hashP P w p.2)) (hfl : L.length ≤ t.mask)
    (nd : (L.map (·.2)).Nodup) (tup : ∀ p ∈ L, IsP P w s.heap p.2 p.1) (few : L.length < 64) {wanted M : Nat}
    (hw : SetTable.sizeAbove wanted - 1 = M) (hM : MaskOk M) (hw2 : SetTable.sizeAbove wanted ≤ 128) (hn : L.length * 5 < M * 3) {Q : Unit → Shared → Prop}
    (hQ : ∀ h' L' es' ep' t', Heap.SameBut a s.heap h' → PSet P w h' a L' es' ep' t' → L'.Perm L → Q () { s with heap := h' }) : wpAny (model P w) A (setRelay a wanted) Q E s := by
  have hsl : es.size = L.length := by
    have h := congrArg List.length rows
    rwa [Array.length_toList, List.length_map] at h
  have hsz := T.sz
  rw [List.length_map] at hsz
  have hfits : t.fits es.size = true := by
    unfold SetTable.fits SetTable.fill
    rw [T.dm, Bool.and_eq_true, beq_iff_eq, decide_eq_true_eq]
    show t.place.size = es.size ∧ t.place.size + 0 ≤ t.mask
    omega
  obtain ⟨t', order, e, hp, T', em, el, epl, ed⟩ := relaid_ok t (hs := es.map (·.1)) (wanted := wanted) hw hM (by rw [Array.size_map, hsl]; omega)
  rw [Array.size_map, hsl] at hp
  obtain ⟨L2, r1, r2, r3⟩ := reorder (rowP P w) L es order rows hp
  rw [← r3] at T'
  have hs2 : (order.filterMap (es[·]?)).size = es.size := by
    have h := congrArg List.length r1
    rw [Array.length_toList, List.length_map, r2.length_eq] at h
    rw [h, hsl]
  rw [setRelay_eq]
  refine wpAny_bind (wpAny_setState_of ho hd hfits ?_)
  dsimp only
  refine wp_if_neg (by rw [sizeLine_eq]; omega) ?_
  try refine wpAny_bind (wpAny_pure ?_)
  rw [e]
  dsimp only
  refine wpAny_bind ?_
  refine wp_if_neg (by rw [hs2]; simp) ?_
  try refine wpAny_bind (wpAny_pure ?_)
  refine wpAny_pure ?_
  dsimp only
  refine wpAny_storeSet_of ho hd ?_ (by rw [hs2, hsl, sizeLine_eq]; omega)
  have sb : Heap.SameBut a s.heap (s.heap.update a (Obj.putSet (order.filterMap (es[·]?)) t')) := Heap.SameBut.update ..
  refine hQ _ L2 (order.filterMap (es[·]?)) (ep + 1) t' sb ⟨⟨_, store_at ho hd, ⟨hex.1, hex.2.1, hex.2.2⟩, rfl⟩, r1, T', (r2.map (·.2)).nodup_iff.mpr nd, fun p hpm => (tup p (r2.mem_iff.mp hpm)).other ho hd sb, ?_, by rw [r2.length_eq]; exact few⟩ r2
  rw [r2.length_eq, em]
  exact hn
theorem put_perm' {α : Type} (L : List α) (p : Nat) (x : α) : (L.take p ++ x :: L.drop p).Perm (x :: L) := L2.put_perm L p x
/-- the tail of an adding: the new tuple is laid down, and the table grows where it is too full -/
theorem tailP {o : Obj} (ho : s.heap.get? a = some o) (hex : o.ExactSet) (hd : o.data = .set es ep t) {L1 : List (Addr × List Str)} {es1 : Array (Int × Value)} {u : SetTable} (hsl : es.size = L.length) (hmok : MaskOk t.mask) (hroom : L.length * 5 < t.mask * 3)
    (hin : es1.toList = L1.map (rowP P w)) (T : TabOk u (L1.map fun p => hashP P w p.2)) (hmask : u.mask = t.mask) (hps : u.place.size = L.length + 1) (hlen : L1.length = L.length + 1) (nd1 : (L1.map (·.2)).Nodup) (tup1 : ∀ h', Heap.SameBut a s.heap h' → ∀ p ∈ L1, IsP P w h' p.2 p.1) (hfew : L.length + 1 < 64) {Q : Bool → Shared → Prop}
    (hQ : ∀ h' L' es' ep' t', Heap.SameBut a s.heap h' → PSet P w h' a L' es' ep' t' → L'.Perm L1 → Q true { s with heap := h' }) :
    wpAny (model P w) A (do
      storeSet a es1 u
      if !false && u.tooFull then setRelay a (SetTable.grown (es.size + 1))
      return true) Q E s := by
  have hes : es1.size = L.length + 1 := by
    have h := congrArg List.length hin
    rw [Array.length_toList, List.length_map, hlen] at h
    exact h
  refine wpAny_bind (wpAny_storeSet_of ho hd ?_ (by rw [hes, sizeLine_eq]; omega))
  have sb : Heap.SameBut a s.heap (s.heap.update a (Obj.putSet es1 u)) := Heap.SameBut.update ..
  have ho1 := store_at (es' := es1) (t' := u) ho hd
  have tup2 := tup1 _ sb
  generalize s.heap.update a (Obj.putSet es1 u) = h1 at sb ho1 tup2 ⊢
  have hfill : u.tooFull = true ↔ (L.length + 1) * 5 ≥ u.mask * 3 := by
    unfold SetTable.tooFull SetTable.fill
    rw [decide_eq_true_eq, T.dm]
    show (u.place.size + 0) * 5 ≥ u.mask * 3 ↔ _
    rw [hps]
  by_cases hf : u.tooFull = true
  · first
      | (refine wpAny_bind ?_; refine wp_if_pos (by simp [hf]) ?_)
      | (refine wp_if_pos (by simp [hf]) ?_; refine wpAny_bind ?_)
    have hfull := hfill.mp hf
    rw [hmask] at hfull
    rw [hsl]
    have cases2 : (t.mask = 7 ∧ L.length = 4) ∨ (t.mask = 31 ∧ L.length = 18) := by
      rcases hmok with e | e | e
      · left; rw [e] at hfull hroom; exact ⟨e, by omega⟩
      · right; rw [e] at hfull hroom; exact ⟨e, by omega⟩
      · exfalso; rw [e] at hfull; omega
    have go : ∀ M, SetTable.sizeAbove (SetTable.grown (L.length + 1)) - 1 = M → MaskOk M → SetTable.sizeAbove (SetTable.grown (L.length + 1)) ≤ 128 → (L.length + 1) * 5 < M * 3 →
        wpAny (model P w) A (setRelay a (SetTable.grown (L.length + 1))) (fun _ s' => wpAny (model P w) A (pure true) Q E s') E { s with heap := h1 } := fun M h1' h2' h3' h4' => by
      refine relayP (s := { s with heap := h1 }) ho1 ⟨hex.1, hex.2.1, hex.2.2⟩ rfl hin T (by rw [hlen, hmask]; rcases cases2 with ⟨e, e2⟩ | ⟨e, e2⟩ <;> omega) nd1 tup2 (by rw [hlen]; exact hfew) h1' h2' h3' (by rw [hlen]; exact h4') ?_
      intro h2 L2 es2 ep2 t2 sb2 R2 pm2
      exact wpAny_pure (hQ h2 L2 es2 ep2 t2 (sb.trans sb2) R2 pm2)
    rcases cases2 with ⟨_, e2⟩ | ⟨_, e2⟩
    · refine go 31 (by rw [e2, size_20]) (.inr (.inl rfl)) (by rw [e2, size_20]; decide) (by omega)
    · refine go 127 (by rw [e2, size_76]) (.inr (.inr rfl)) (by rw [e2, size_76]; decide) (by omega)
  · first
      | refine wp_if_neg (by simp [hf]) ?_
      | (refine wpAny_bind ?_; refine wp_if_neg (by simp [hf]) ?_; refine wpAny_pure ?_)
    refine wpAny_pure (hQ h1 L1 es1 (ep + 1) u sb ⟨⟨_, ho1, ⟨hex.1, hex.2.1, hex.2.2⟩, rfl⟩, hin, T, nd1, tup2, ?_, by rw [hlen]; exact hfew⟩ (List.Perm.refl _))
    have h := mt hfill.mpr hf
    rw [hlen]
    omega
/-- ADDING: what is there stays as it is; what isn't comes to it -/
theorem addP (R : PSet P w s.heap a L es ep t) {x : Addr} {k : List Str} (hx : IsP P w s.heap k x) (hu : A.units < cLine) (hfew : L.length + 1 < 64) {Q : Bool → Shared → Prop}
    (hQ : ∀ b h' L' es' ep' t', Heap.SameBut a s.heap h' → PSet P w h' a L' es' ep' t' → (k ∈ L.map (·.2) → L' = L) → (k ∉ L.map (·.2) → L'.Perm ((x, k) :: L)) → Q b { s with heap := h' }) :
    wpAny (model P w) A (setAddHashed a (.ref x) (hashP P w k)) Q E s := by
  obtain ⟨o, ho, hex, hd⟩ := R.ob
  have hsl := R.size
  have hroom := R.room
  unfold setAddHashed
  refine wpAny_holding ?_
  rw [show (100000 : Nat) = 99999 + 1 from rfl, setAddHashedIn_succ]
  refine wpAny_bind (wpAny_setState_of ho hd R.fits ?_)
  dsimp only
  refine wp_if_neg (by simp [byScan, Value.scannable]) ?_
  try refine wpAny_bind (wpAny_pure ?_)
  refine wpAny_bind (seek_all R hx hu (fun hm => ?_) fun K hm hK hb => ?_)
  · exact wpAny_pure (hQ false s.heap L es ep t (Heap.SameBut.refl a s.heap) R (fun _ => rfl) fun z => absurd hm z)
  · dsimp only
    refine wpAny_bind (wpAny_setState_of ho hd R.fits ?_)
    dsimp only
    obtain ⟨q1, q2, q3, q4, q5, q6, q7, q8, q9⟩ := R.tab.put hK hb
    have hin : (SetTable.insertAt es (SetTable.below t.place (way t.mask (hashP P w k) K)) (hashP P w k, Value.ref x)).toList = (L.take (SetTable.below t.place (way t.mask (hashP P w k) K)) ++ (x, k) :: L.drop (SetTable.below t.place (way t.mask (hashP P w k) K))).map (rowP P w) := by
      rw [SetTable.toList_insertAt, R.rows, List.map_append, List.map_cons, List.map_take, List.map_drop]
      rfl
    have pm := put_perm' L (SetTable.below t.place (way t.mask (hashP P w k) K)) (x, k)
    have hhs : (L.take (SetTable.below t.place (way t.mask (hashP P w k) K)) ++ (x, k) :: L.drop (SetTable.below t.place (way t.mask (hashP P w k) K))).map (fun p => hashP P w p.2) = (L.map fun p => hashP P w p.2).take (SetTable.below t.place (way t.mask (hashP P w k) K)) ++ hashP P w k :: (L.map fun p => hashP P w p.2).drop (SetTable.below t.place (way t.mask (hashP P w k) K)) := by
      rw [List.map_append, List.map_cons, List.map_take, List.map_drop]
    generalize hpt : t.put (way t.mask (hashP P w k) K) = pt at q1 q3 q4 q5 q6 q7 q8 q9 ⊢
    obtain ⟨t1, p⟩ := pt
    dsimp only at q1 q3 q4 q5 q6 q7 q8 q9 ⊢
    subst q1
    generalize hpp : SetTable.below t.place (way t.mask (hashP P w k) K) = p at q2 q3 hin pm hhs ⊢
    have hlen : (L.take p ++ (x, k) :: L.drop p).length = L.length + 1 := pm.length_eq
    rw [← hhs] at q3
    have nd1 : ((L.take p ++ (x, k) :: L.drop p).map (·.2)).Nodup := by
      refine (pm.map (·.2)).nodup_iff.mpr ?_
      rw [List.map_cons]
      exact List.nodup_cons.mpr ⟨hm, R.nd⟩
    generalize SetTable.insertAt es p (hashP P w k, Value.ref x) = es1 at hin ⊢
    generalize L.take p ++ (x, k) :: L.drop p = L1 at pm hlen q3 nd1 hin
    have tup1 : ∀ h1, Heap.SameBut a s.heap h1 → ∀ p ∈ L1, IsP P w h1 p.2 p.1 := fun h1 sb p hp => by
      rcases List.mem_cons.mp (pm.mem_iff.mp hp) with e | hp
      · rw [e]; exact IsP.other hx ho hd sb
      · exact IsP.other (R.tup p hp) ho hd sb
    have hps : t1.place.size = L.length + 1 := by
      have h := q3.sz
      rw [List.length_map, hlen] at h
      exact h
    have fin : ∀ u : SetTable, u.place = t1.place → u.dummies = t1.dummies → u.mask = t1.mask → wpAny (model P w) A (do
        storeSet a es1 u
        if !false && u.tooFull then setRelay a (SetTable.grown (es.size + 1))
        return true) Q E s := fun u e1 e2 e3 =>
      tailP ho hex hd hsl R.tab.mok hroom hin (tabOk_congr q3 e1 e2 e3) (e3.trans q4) (by rw [e1]; exact hps) hlen nd1 tup1 hfew fun h' L' es' ep' t' sb R' pm' => hQ true h' L' es' ep' t' sb R' (fun z => absurd z hm) fun _ => pm'.trans pm
    have both : ∀ r : Bool, wpAny (model P w) A (do
        storeSet a es1 (if r then t1 else { t1 with plain := false })
        if !false && (if r then t1 else { t1 with plain := false }).tooFull then setRelay a (SetTable.grown (es.size + 1))
        return true) Q E s := fun r => by
      cases r
      · exact fin _ rfl rfl rfl
      · exact fin _ rfl rfl rfl
    by_cases hp1 : t1.plain = true
    · first
        | (refine wpAny_bind ?_; refine wp_if_pos hp1 ?_; refine hashBy hx fun r => ?_)
        | refine wp_if_pos hp1 (wpAny_bind (hashBy hx fun r => ?_))
      exact both r
    · first
        | (refine wpAny_bind ?_; refine wp_if_neg hp1 ?_; refine wpAny_pure ?_)
        | refine wp_if_neg hp1 (wpAny_bind (wpAny_pure ?_))
        | refine wp_if_neg hp1 ?_
      exact both true
end
end MyS

set_option Elab.async false
set_option linter.all false
set_option maxRecDepth 100000
set_option maxHeartbeats 4000000
/-! len(set(xs)) of a list or a tuple of tuples of texts, fewer than 64. -/
namespace MyS
open PySem PySem.Spec PyProof.Rows L2
section
variable {P : Program} {w : World} {A : Around} {E : Value → Shared → Prop} {s : Shared}
/-- the set at S behind the first i tuples -/
def JP (P : Program) (w : World) (h0 : Heap) (S : Addr) (ks : List (List Str)) (i : Nat) (h : Heap) : Prop :=
  ∃ L es ep t, PSet P w h S L es ep t ∧ (∀ p ∈ L, IsP P w h0 p.2 p.1) ∧ (∀ k, k ∈ L.map (·.2) ↔ k ∈ ks.take i) ∧ Cnt (ks.take i) L.length
theorem JP.adds {S : Addr} {ks : List (List Str)} {h0 : Heap} {i : Nat} {k : List Str} {x : Addr} (hx : ks[i]? = some k) (hb : ks.length < 64) (ht : IsP P w h0 k x) (hu : A.units < cLine) : Adds P w A S h0 (JP P w h0 S ks) i (.ref x) := by
  intro z Q E hJ hk hQ
  obtain ⟨L, es, ep, t, R, h0t, hM, hc⟩ := hJ
  have hi : i < ks.length := (List.getElem?_eq_some_iff.mp hx).1
  have hn := hc.le
  rw [List.length_take] at hn
  have hz : IsP P w z.heap k x := ht.keep fun o e => hk x o e
  unfold setAdd
  refine wpAny_holding ?_
  refine wpAny_bind (wpAny_pyHash_tuple hu hz ?_)
  refine addP (s := { z with toks := z.toks + (k.length + 1) }) R hz hu (by omega) fun b h' L' es' ep' t' sb R' c1 c2 => ?_
  refine hQ _ h' _ (Nat.le_add_right _ _) sb ⟨L', es', ep', t', R', ?_⟩
  rw [take_snoc hx]
  by_cases c : k ∈ L.map (·.2)
  · have e := c1 c
    subst e
    refine ⟨h0t, fun q => ?_, hc.old ((hM k).mp c)⟩
    rw [List.mem_append, List.mem_singleton, hM q]
    exact ⟨.inl, fun h => h.elim id fun e => e ▸ (hM k).mp c⟩
  · have pm := c2 c
    refine ⟨fun p hp => ?_, fun q => ?_, ?_⟩
    · rcases List.mem_cons.mp (pm.mem_iff.mp hp) with e | hp
      · rw [e]; exact ht
      · exact h0t p hp
    · rw [(pm.map (·.2)).mem_iff, List.map_cons, List.mem_cons, List.mem_append, List.mem_singleton, hM q]
      exact ⟨fun h => h.elim .inr .inl, fun h => h.elim .inr .inl⟩
    · rw [pm.length_eq, List.length_cons]
      exact hc.new fun m => c ((hM k).mpr m)
theorem JP.keeps {S : Addr} {ks : List (List Str)} {h0 : Heap} : KeepsJ S h0 (JP P w h0 S ks) := by
  rintro i h h' ⟨L, es, ep, t, R, h0t, r⟩ k1 k2
  obtain ⟨o, ho, r1⟩ := R.ob
  exact ⟨L, es, ep, t, ⟨⟨o, k1 o ho, r1⟩, R.rows, R.tab, R.nd, fun p hp => (h0t p hp).keep fun o e => k2 p.1 o e, R.room, R.few⟩, h0t, r⟩
theorem JP.zero {S : Addr} {ks : List (List Str)} {h h0 : Heap} (ho : h.get? S = some (freshSet w)) : JP P w h0 S ks 0 h := by
  refine ⟨[], #[], 0, _, ⟨⟨_, ho, ⟨rfl, rfl, rfl⟩, rfl⟩, rfl, ⟨List.Pairwise.nil, rfl, rfl, .inl rfl, fun x hx => (by cases hx), fun i h j hi => (by simp at hi)⟩, List.nodup_nil, fun p hp => (by cases hp), (by show 0 * 5 < 7 * 3; decide), (by show 0 < 64; decide)⟩, fun p hp => (by cases hp), fun k => by simp, ?_⟩
  rw [List.take_zero]
  exact Cnt.nil
end
theorem strItems_of_vals (P : Program) (w : World) : ∀ {k : List Str} {us : List Value}, Vals (k.map V.str) us → ItemsAre (PySem.strKind P w) k us
  | [], _, .nil => .nil
  | n :: k, _, .cons r t => by
    obtain ⟨tk, rfl⟩ := r
    exact .cons (strKind_is P w n tk) (strItems_of_vals P w t)
section
variable {X : Cx}
theorem Inv_isP {pins : List (Addr × Obj)} {σ : L2.St} {H : Hp} {s : Shared} {b : Addr} {k : List Str} (I : Inv X pins σ H s) (h : SqT X.K H b (k.map V.str)) : IsP X.prog X.w s.heap k b := by
  obtain ⟨its, r, ⟨o, ho, hc, n, hd⟩, _⟩ := I.tuple h
  exact ⟨o, its.toArray, n, ho, hc, hd, by simpa using strItems_of_vals _ _ r⟩
/-- len(set(xs)), xs tuples of texts -/
def tLenSetP (K : PySem.W.Frag) (ta : TE) : TE := fun σ H Q => ta σ H fun x H1 => ∃ (l : Addr) (ks : List (Addr × List Str)), x = .ref l ∧ (SqL K H1 l (ks.map fun p => V.ref p.1) ∨ SqT K H1 l (ks.map fun p => V.ref p.1)) ∧ (∀ p ∈ ks, SqT K H1 p.1 (p.2.map V.str)) ∧ ks.length < 64 ∧ ∀ n, Cnt (ks.map (·.2)) n → Q (.int (n : Nat)) H1
theorem refsP : ∀ {ks : List (Addr × List Str)} {us : List Value}, Vals (ks.map fun p => V.ref p.1) us → us = ks.map fun p => Value.ref p.1
  | [], _, .nil => rfl
  | p :: ks, _, .cons r t => by
    cases r
    rw [refsP t] <;> rfl
theorem pe_lenSetP {a : Expr} {ta : TE} {p p2 q pos : Pos} (hc : X.calm = true) (hu : X.A.units + 64 < cLine) (hm : X.mg "len" = none) (hm2 : X.mg "set" = none) (ha : PE X a ta) (hg : Gl X "len" := by rfl) (hg2 : Gl X "set" := by rfl)
    (na : starEach [a] X.env = (false, eval a X.env) :: starEach [] X.env := by rfl) : PE X (.Call (.Name "len" p) [.Call (.Name "set" p2) [a] [] q] [] pos) (tLenSetP X.K ta) := by
  refine ⟨fun pins s σ H Q I h => ?_⟩
  refine Call_ (ld_blt I hg hm boot_len ?_)
  refine PyProof.Rows.callWith_builtin1 (PyProof.Rows.args_cons ?_ rfl) rfl rfl
  refine Call_ (ld_blt I hg2 hm2 boot_set ?_)
  refine PyProof.Rows.callWith_type1 (PyProof.Rows.args_cons (thn (ha.run pins s σ H _ I h) fun v s1 ⟨x, H1, I1, r1, q1⟩ => PyProof.Rows.args_nil ?_) na) na rfl
  obtain ⟨l, ks, rfl, hq, ht, h1, q1⟩ := q1
  cases r1
  have go : ∀ (its : List Value), Vals (ks.map fun p => V.ref p.1) its → (s1.heap.IsList l its.toArray ∨ s1.heap.IsTuple l its.toArray) → wpAny (model X.prog X.w) X.A (call (.type "set") [.ref l])
      (fun v s₂ => wpAny (model X.prog X.w) X.A (spliced (backTo pos (starEach [] X.env))) (fun vs s₃ => wpAny (model X.prog X.w) X.A (call (.builtin "len") (v :: vs)) (EP X pins σ Q) X.xe s₃) X.xe s₂) X.xe s1 := fun its r hl => by
    have hits := refsP r
    have hsz : its.toArray.size = ks.length := by rw [List.size_toArray, hits, List.length_map]
    refine call_setJ (J := JP X.prog X.w s1.heap s1.heap.objs.size (ks.map (·.2))) (I1.ok.hd hc) hl (fun h ho => JP.zero ho) JP.keeps (fun h hJ => ?_) (fun A' hA i v hv => ?_) fun h' tk hJ hk _ => ?_
    · obtain ⟨L, es, ep, t, R, _⟩ := hJ
      obtain ⟨o, ho, _⟩ := R.ob
      exact ⟨o, ho⟩
    · have e1 : (ks.map fun p => Value.ref p.1)[i]? = some v := by rw [← hits]; simpa using hv
      rw [List.getElem?_map] at e1
      obtain ⟨p, hp, rfl⟩ := Option.map_eq_some_iff.mp e1
      exact JP.adds (k := p.2) (by rw [List.getElem?_map, hp]; rfl) (by rw [List.length_map]; exact h1) (Inv_isP I1 (ht p (List.mem_of_getElem? hp))) (by omega)
    · rw [hsz] at hJ
      obtain ⟨L, es, ep, t, R, _, hM, hcn⟩ := hJ
      rw [show ks.length = (ks.map (·.2)).length by rw [List.length_map], List.take_length] at hcn
      have I2 : Inv X pins σ H1 { s1 with heap := h', toks := tk } := I1.kept fun b o e => hk b o e
      refine PyProof.Rows.args_nil ?_
      have hle := hcn.le
      obtain ⟨o, ho, hex, hd⟩ := R.ob
      have hfew := R.few
      refine call_len_set ho hex hd (R.fits (s := { s1 with heap := h', toks := tk })) (by rw [R.size (s := { s1 with heap := h', toks := tk })]; omega) ⟨.int (L.length : Nat), H1, I2.tok _, ⟨_, by rw [R.size (s := { s1 with heap := h', toks := tk })]⟩, q1 L.length hcn⟩
  rcases hq with hq | hq
  · obtain ⟨its, r, pl, hz⟩ := I1.list hq
    exact go its r (.inl pl.isList)
  · obtain ⟨its, r, pl, hz⟩ := I1.tuple hq
    exact go its r (.inr (by first | exact pl | exact pl.isTuple))
end
end MyS

set_option Elab.async false
set_option linter.all false
set_option maxRecDepth 100000
set_option maxHeartbeats 4000000
/-! sorted(xs) of a list or a tuple: of texts, of pairs of texts, of tuples told apart by their first text. -/
namespace MyS
open PySem PySem.Spec PyProof.Rows L2
open SrtO hiding Str
/-! ### the order of texts -/
def slt (a b : Str) : Bool := decide (a.cps.toList < b.cps.toList)
theorem str_ext {a b : Str} (h : a.cps.toList = b.cps.toList) : a = b := by
  obtain ⟨x⟩ := a
  obtain ⟨y⟩ := b
  exact congrArg PySem.Str.mk (Array.toList_inj.mp h)
theorem slt_iff {a b : Str} : slt a b = true ↔ a.cps.toList < b.cps.toList := decide_eq_true_iff
theorem slt_no {a b : Str} : slt a b = false ↔ ¬ a.cps.toList < b.cps.toList := decide_eq_false_iff_not
theorem slt_irr (a : Str) : slt a a = false := slt_no.mpr (List.lt_irrefl _)
theorem slt_asym {a b : Str} (h : slt a b = true) : slt b a = false := slt_no.mpr fun k => List.lt_irrefl _ (List.lt_trans (slt_iff.mp h) k)
theorem slt_tri {a b : Str} (h1 : slt a b = false) (h2 : slt b a = false) : a = b :=
  str_ext (List.le_antisymm (List.not_lt.mp (slt_no.mp h2)) (List.not_lt.mp (slt_no.mp h1)))
theorem slt_ntr {x y z : Str} (h1 : slt y x = false) (h2 : slt z y = false) : slt z x = false :=
  slt_no.mpr (List.not_lt.mpr (List.le_trans (List.not_lt.mp (slt_no.mp h1)) (List.not_lt.mp (slt_no.mp h2))))
theorem slt_trans {x y z : Str} (h1 : slt x y = true) (h2 : slt y z = true) : slt x z = true := slt_iff.mpr (List.lt_trans (slt_iff.mp h1) (slt_iff.mp h2))
/-- pairs: the first, then the second -/
def slt2 (p q : Str × Str) : Bool := if p.1 = q.1 then slt p.2 q.2 else slt p.1 q.1
theorem swo_s : Swo slt := ⟨fun x y h => slt_asym h, fun x y z h1 h2 => slt_ntr h1 h2⟩
theorem slt2_eq {p q : Str × Str} (h : p.1 = q.1) : slt2 p q = slt p.2 q.2 := if_pos h
theorem slt2_ne {p q : Str × Str} (h : ¬ p.1 = q.1) : slt2 p q = slt p.1 q.1 := if_neg h
theorem swo_s2 : Swo slt2 := by
  refine ⟨fun x y h => ?_, fun x y z h1 h2 => ?_⟩
  · by_cases e : x.1 = y.1
    · rw [slt2_eq e] at h
      rw [slt2_eq e.symm]
      exact slt_asym h
    · rw [slt2_ne e] at h
      rw [slt2_ne (fun c => e c.symm)]
      exact slt_asym h
  · by_cases e : z.1 = x.1
    · rw [slt2_eq e]
      by_cases e1 : y.1 = x.1
      · rw [slt2_eq e1] at h1
        rw [slt2_eq (e.trans e1.symm)] at h2
        exact slt_ntr h1 h2
      · rw [slt2_ne e1] at h1
        rw [slt2_ne (fun c => e1 (c.symm.trans e)), e] at h2
        exact absurd (slt_tri h1 h2) e1
    · rw [slt2_ne e]
      by_cases e1 : y.1 = x.1
      · rw [slt2_ne (fun c => e (c.trans e1)), e1] at h2
        exact h2
      · rw [slt2_ne e1] at h1
        by_cases e2 : z.1 = y.1
        · rw [e2]; exact h1
        · rw [slt2_ne e2] at h2
          exact slt_ntr h1 h2
theorem swo_of {α β : Type} {lt : β → β → Bool} (O : Swo lt) (f : α → β) : Swo fun x y => lt (f x) (f y) := ⟨fun x y => O.asym (f x) (f y), fun x y z => O.tr (f x) (f y) (f z)⟩
section
variable {prog : Program} {w : World} {A : Around} {E : Value → Shared → Prop} {s : Shared}
/-- collecting a tuple -/
theorem collect_tup {l : Addr} {vs : List Value} {Q : List Value → Shared → Prop} (hl : s.heap.IsTuple l vs.toArray)
    (h : Q vs { s with heap := (s.heap.push (seqObj "list" #[] 0)).update s.heap.objs.size (Obj.mapSeq (· ++ vs.toArray)) }) (hsz : vs.length ≤ sizeLine) :
    wpAny (model prog w) A (collect (.ref l)) Q E s := by
  obtain ⟨o, ho, hc, n, hd⟩ := id hl
  unfold collect
  refine wpAny_bind (wpAny_runValue (codeAny_builtin entry_proto_collect' ?_))
  show wpAny _ _ (do again (.builtin "list.__iadd__" ⟨[← newList [], .ref l], []⟩)) _ _ s
  refine wpAny_bind (wpAny_newList (wpAny_pure ⟨Code.quiet_builtin _ (by decide +kernel), codeAny_builtin entry_list_iadd' ?_⟩))
  show wpAny _ _ (Builtin.List.listExtendWith (.ref s.heap.objs.size) (.ref l) (.ref s.heap.objs.size)) _ _ { s with heap := s.heap.push (seqObj "list" #[] 0) }
  unfold Builtin.List.listExtendWith
  have ho' : (s.heap.push (seqObj "list" #[] 0)).get? l = some o := Heap.get?_push_of_some _ ho
  refine wpAny_bind (wpAny_typeOf (T := "tuple") ⟨o, ho', hc⟩ ?_)
  have ht : (Value.type "tuple" == Value.type "tuple") = true := by rfl
  rw [if_pos (by rw [ht]; simp)]
  refine wpAny_bind (listItems_at ho' hd ?_)
  refine wpAny_bind (listItems_at (xs := #[]) (n := 0) (Heap.get?_push_size _ rfl) rfl ?_)
  rw [if_neg (by simp)]
  refine wpAny_bind (listUpdate_at (xs := #[]) (n := 0) (Heap.get?_push_size _ rfl) rfl ?_ (Nat.zero_le _) (by show (#[] ++ vs.toArray).size ≤ sizeLine + 1; simp only [Array.size_append, List.size_toArray, List.length_nil]; omega))
  refine wpAny_pure ?_
  show wpAny (model prog w) A (do
      let o ← load s.heap.objs.size
      match o.data with
      | .seq xs _ => pure xs.toList
      | _ => unsupported "internal:collect") Q E { s with heap := (s.heap.push (seqObj "list" #[] 0)).update s.heap.objs.size (Obj.mapSeq (· ++ vs.toArray)) }
  refine wpAny_bind (wpAny_load (get?_update_seq (Heap.get?_push_size _ rfl) _) ?_)
  show wpAny _ _ (pure ((#[] : Array Value) ++ vs.toArray).toList) Q E _
  rw [show ((#[] : Array Value) ++ vs.toArray).toList = vs by simp]
  exact wpAny_pure h
/-- sorted(l), l a list or a tuple -/
theorem sorted_seq {l : Addr} {vs : List Value} {ltv : Value → Value → Bool} {Q : Value → Shared → Prop} (O : Swo ltv) (hl : s.heap.IsList l vs.toArray ∨ s.heap.IsTuple l vs.toArray) (hz : vs.length ≤ sizeLine)
    (hS : 2 ≤ vs.length → ∀ (h₁ : Heap) (a : Addr), h₁.get? a = some (seqObj "list" vs.toArray 0) → (∀ b o, s.heap.get? b = some o → b ≠ a ∧ h₁.get? b = some o) → SortableO prog w A.in1.in1 { s with heap := h₁ } a vs ltv)
    (h : ∀ out : List Value, Srtd ltv out → Stb ltv out vs → Q (.ref (s.heap.objs.size + 1)) { s with heap := sortedAll s.heap vs out.toArray }) :
    wpAny (model prog w) A (call (.builtin "sorted") [.ref l]) Q E s := by
  rcases hl with hl | hl
  · exact sorted_ord O hl hz hS h
  refine Calls.call_function_entry kind_sorted plain_sorted entry_sorted (args_sorted1 _) ?_
  unfold Builtin.«sorted»
  refine wpAny_bind (m := checkCount "sorted" 1 1 _) (wpAny_pure ?_)
  refine wpAny_bind (collect_tup hl ?_ hz)
  refine wpAny_bind (wpAny_newList ?_ hz)
  have hsz : ((s.heap.push (seqObj "list" #[] 0)).update s.heap.objs.size (Obj.mapSeq (· ++ vs.toArray))).objs.size = s.heap.objs.size + 1 := by
    rw [Heap.size_update, size_push']
  have hoL : (((s.heap.push (seqObj "list" #[] 0)).update s.heap.objs.size (Obj.mapSeq (· ++ vs.toArray))).push (seqObj "list" vs.toArray 0)).get? (s.heap.objs.size + 1) = some (seqObj "list" vs.toArray 0) := by
    rw [← hsz]; exact Heap.get?_push_size _ rfl
  have keep : ∀ b o, s.heap.get? b = some o → b ≠ s.heap.objs.size + 1 ∧ (((s.heap.push (seqObj "list" #[] 0)).update s.heap.objs.size (Obj.mapSeq (· ++ vs.toArray))).push (seqObj "list" vs.toArray 0)).get? b = some o := fun b o q => by
    have hlt : b < s.heap.objs.size := Heap.lt_size q
    refine ⟨Nat.ne_of_lt (Nat.lt_succ_of_lt hlt), Heap.get?_push_of_some _ ?_⟩
    rw [Heap.get?_update_ne _ _ _ _ (Nat.ne_of_lt hlt)]
    exact Heap.get?_push_of_some _ q
  show wpAny _ _ _ _ _ { s with heap := ((s.heap.push (seqObj "list" #[] 0)).update s.heap.objs.size (Obj.mapSeq (· ++ vs.toArray))).push (seqObj "list" vs.toArray 0) }
  rw [hsz]
  refine wpAny_bind (wpAny_holding (wpAny_call_entry slot_list_sort ⟨_, hoL, rfl⟩ entry_list_sort (list_sort_ord O hoL hz (fun h2 => hS h2 _ _ hoL keep) fun out hs hb => ⟨_, rfl, ?_⟩) (args_list_sort _)))
  exact wpAny_pure ⟨_, rfl, h out hs hb⟩
/-! ### texts -/
def sv : Value → Str
  | .str x _ => x
  | _ => ⟨#[]⟩
theorem strs_cmp {vs : List Value} (hI : ∀ v ∈ vs, ∃ x t, v = Value.str x t) : Cmp prog w A s oneType' (fun p => p.1 ∈ vs) (lt2 fun v u => slt (sv v) (sv u)) := by
  intro p q hm hm'
  obtain ⟨a, t, e⟩ := hI _ hm
  obtain ⟨b, u, e'⟩ := hI _ hm'
  show wpAny (model prog w) A (keyLt' oneType' p.1 q.1) (fun r s' => s' = s ∧ r = slt (sv p.1) (sv q.1)) (fun _ _ => False) s
  rw [e, e', keyLt'_oneType]
  exact oneLt_str ⟨rfl, rfl⟩
theorem strs_sortable {a : Addr} {vs : List Value} {ss : List Str} (hI : StrsAre vs ss) (h2 : 2 ≤ vs.length) : SortableO prog w A s a vs fun v u => slt (sv v) (sv u) := by
  intro h' _
  refine ⟨oneType', fun Q E hq => ?_, strs_cmp hI.all⟩
  match vs, hI, h2 with
  | v1 :: v2 :: rest, hI, _ =>
    rw [keyKind_strs hI]
    exact wpAny_pure hq
  | [], _, h => exact absurd h (by decide)
  | [v], _, h => exact absurd h (by simp)
theorem sv_strs : ∀ {vs : List Value} {ss : List Str}, StrsAre vs ss → vs.map sv = ss
  | _, _, .nil => rfl
  | _, _, .cons n t r => congrArg (n :: ·) (sv_strs r)
theorem strs_sv : ∀ {vs : List Value}, (∀ v ∈ vs, ∃ x t, v = Value.str x t) → StrsAre vs (vs.map sv)
  | [], _ => .nil
  | v :: vs, h => by
    obtain ⟨i, t, e⟩ := h v List.mem_cons_self
    subst e
    exact .cons i t (strs_sv fun u hu => h u (List.mem_cons_of_mem _ hu))
end
/-- ascending -/
def Asc (ys : List Str) : Prop := ys.Pairwise fun a b => slt b a = false
section
variable {X : Cx}
/-- sorted(xs), texts, a list or a tuple of them -/
def rSortSQ (K : PySem.W.Frag) : List V → Hp → VK → Prop := fun vs H Q => ∃ (a : Addr) (xs : List Str), vs = [V.ref a] ∧ (SqL K H a (xs.map V.str) ∨ SqT K H a (xs.map V.str)) ∧
  ∀ (ys : List Str) (p : Addr), ys.Perm xs → Asc ys → H p = none → Q (.ref p) (upd H p (.lst (ys.map V.str)))
theorem cr_sortSQ : CallR X (.builtin "sorted") (rSortSQ X.K) := by
  intro pins s σ H vs us Q I r h
  obtain ⟨a, xs, rfl, hs, q⟩ := h
  rw [Vals.ref1 r]
  have go : ∀ (its : List Value), Vals (xs.map V.str) its → (s.heap.IsList a its.toArray ∨ s.heap.IsTuple a its.toArray) → (xs.map V.str).length ≤ sizeLine → wpAny (model X.prog X.w) X.A (call (.builtin "sorted") [.ref a]) (EP X pins σ Q) X.xe s := fun its rv hl hz => by
    have hi := rv.strs
    refine sorted_seq (swo_of swo_s sv) hl (by rw [← rv.length]; exact hz) (fun h2 h₁ a' _ _ => strs_sortable hi h2) fun out h1 h2 => ?_
    have ho : ∀ v ∈ out, ∃ x t, v = Value.str x t := fun v hv => hi.all v (h2.perm.mem_iff.mp hv)
    have pm : (out.map sv).Perm xs := by
      have q := h2.perm.map sv
      rw [sv_strs hi] at q
      exact q
    obtain ⟨ep, he'⟩ := PyProof.Rows.sortedAll_at s.heap its out.toArray
    have hlen : ((out.map sv).map V.str).length ≤ sizeLine := by
      rw [List.length_map, pm.length_eq]
      rw [List.length_map] at hz
      exact hz
    exact ⟨.ref _, upd H (s.heap.objs.size + 1) (.lst ((out.map sv).map V.str)), I.laid (t' := s.toks) (fun _ _ => PyProof.Rows.sortedAll_old) (Nat.le_succ _) ⟨hlen, out, ep, vals_of_strs (strs_sv ho), he'⟩, rfl, q _ _ pm (List.pairwise_map.mpr h1) (I.hok.fresh (Nat.le_succ _))⟩
  rcases hs with hs | hs
  · obtain ⟨its, rv, pl, hz⟩ := I.list hs
    exact go its rv (.inl pl.isList) (by first | exact hz | (rw [rv.length]; exact hz))
  · obtain ⟨its, rv, pl, hz⟩ := I.tuple hs
    exact go its rv (.inr (by first | exact pl | exact pl.isTuple)) (by first | exact hz | (rw [rv.length]; exact hz))
end
end MyS

set_option Elab.async false
set_option linter.all false
set_option maxRecDepth 100000
set_option maxHeartbeats 4000000
/-! sorted(xs), xs a list of tuples: pairs of texts, or tuples told apart by their first text. -/
namespace MyS
open PySem PySem.Spec PyProof.Rows L2
open SrtO hiding Str
section
variable {prog : Program} {w : World} {A : Around} {E : Value → Shared → Prop} {s : Shared}
/-- v is a tuple with these items -/
def IsTp (h : Heap) (v : Value) (a : Str) (r : List Value) : Prop := ∃ (b : Addr) (o : Obj) (xs : Array Value) (n : Nat) (t : Tok), v = .ref b ∧ h.get? b = some o ∧ o.cls = .type "tuple" ∧ o.data = .seq xs n ∧ xs.toList = .str a t :: r
theorem IsTp.keeps {h h' : Heap} {v : Value} {a : Str} {r : List Value} (x : IsTp h v a r) (k : ∀ b o, h.get? b = some o → o.cls = .type "tuple" → h'.get? b = some o) : IsTp h' v a r := by
  obtain ⟨b, o, xs, n, t, e, ho, hc, q⟩ := x
  exact ⟨b, o, xs, n, t, e, k b o ho hc, hc, q⟩
theorem firstsS {h : Heap} : ∀ {vs : List Value}, (∀ v ∈ vs, ∃ a r, IsTp h v a r) → ∃ fs : List Value, PySem.W.KatTups h vs fs ∧ fs.length = vs.length ∧ ∀ f ∈ fs, ∃ x t, f = Value.str x t
  | [], _ => ⟨[], PySem.W.KatTups.nil, rfl, fun _ hm => by simp at hm⟩
  | v :: vs, hp => by
    obtain ⟨fs, h1, h2, h3⟩ := firstsS (vs := vs) fun v' hm => hp v' (List.mem_cons_of_mem _ hm)
    obtain ⟨a, r, b, o, xs, n, t, e, ho, hc, hd, hx⟩ := hp v (List.mem_cons_self ..)
    subst e
    refine ⟨.str a t :: fs, PySem.W.KatTups.cons ho hc hd (by rw [← Array.getElem?_toList, hx]; rfl) h1, by rw [List.length_cons, List.length_cons, h2], fun f hm => ?_⟩
    rcases List.mem_cons.mp hm with rfl | hm
    · exact ⟨a, t, rfl⟩
    · exact h3 f hm
theorem kat_self {b fin : Bool} {Q : Bool → Shared → Prop} : ∀ (r : List Value) (i : Nat), Q fin s → PySem.W.KatLex prog w A b fin Q (r.zip r) i s
  | [], _, h => PySem.W.kat_nil h
  | v :: r, i, h => PySem.W.kat_cons (SeqAt.EqAt.same v prog w _ _ (PySem.W.kat_yes (kat_self r (i + 1) h)))
theorem slt_eqF {a b : Str} (h : a = b) : slt a b = false := by rw [h]; exact slt_irr b
/-- tuples told apart by their first text -/
theorem first_cmp {vs : List Value} {k : Value → Str} (hp : ∀ v ∈ vs, ∃ r, IsTp s.heap v (k v) r) (ne : ∀ v ∈ vs, ∀ u ∈ vs, k v = k u → v = u) : Cmp prog w A s (tuples' true) (fun p => p.1 ∈ vs) (lt2 fun v u => slt (k v) (k u)) := by
  intro p q hm hm'
  obtain ⟨r, b, o, xs, n, t, e, ho, hc, hd, hx⟩ := hp _ hm
  obtain ⟨r', b', o', xs', n', t', e', ho', hc', hd', hx'⟩ := hp _ hm'
  have hne := ne _ hm _ hm'
  show wpAny (model prog w) A (keyLt' (tuples' true) p.1 q.1) (fun r s' => s' = s ∧ r = slt (k p.1) (k q.1)) (fun _ _ => False) s
  generalize k p.1 = x at *
  generalize k q.1 = y at *
  rw [e, e'] at hne ⊢
  refine PySem.W.kat_lt ho hd ho' hd' ?_
  rw [hx, hx']
  show PySem.W.KatLex prog w A true (decide (xs.size < xs'.size)) _ ((.str x t, .str y t') :: r.zip r') 0 s
  refine PySem.W.kat_cons (SeqAt.EqAt.str_str x t y t' prog w _ _ ?_)
  refine PySem.W.kat_go (fun e1 => ?_) (fun e1 => ?_)
  · have ex : x = y := by simpa using e1
    have eb : Value.ref b = Value.ref b' := hne ex
    injection eb with eb
    subst eb
    obtain rfl : o = o' := Option.some.inj (ho.symm.trans ho')
    have e2 : PySem.Data.seq xs n = PySem.Data.seq xs' n' := hd.symm.trans hd'
    injection e2 with e2 e3
    subst e2
    have e4 := (List.cons.inj (hx.symm.trans hx')).2
    subst e4
    refine PySem.W.kat_yes (kat_self r 1 ⟨rfl, ?_⟩)
    rw [slt_eqF ex]
    exact decide_eq_false (Nat.lt_irrefl _)
  · exact PySem.W.kat_no (oneLt_str ⟨rfl, rfl⟩)
/-- pairs of texts -/
theorem pairs_cmp {vs : List Value} {k : Value → Str × Str} (hp : ∀ v ∈ vs, ∃ t, IsTp s.heap v (k v).1 [.str (k v).2 t]) : Cmp prog w A s (tuples' true) (fun p => p.1 ∈ vs) (lt2 fun v u => slt2 (k v) (k u)) := by
  intro p q hm hm'
  obtain ⟨t2, b, o, xs, n, t, e, ho, hc, hd, hx⟩ := hp _ hm
  obtain ⟨t2', b', o', xs', n', t', e', ho', hc', hd', hx'⟩ := hp _ hm'
  show wpAny (model prog w) A (keyLt' (tuples' true) p.1 q.1) (fun r s' => s' = s ∧ r = slt2 (k p.1) (k q.1)) (fun _ _ => False) s
  generalize k p.1 = x at *
  generalize k q.1 = y at *
  rw [e, e']
  have sz : xs.size = 2 := by rw [← Array.length_toList, hx]; rfl
  have sz' : xs'.size = 2 := by rw [← Array.length_toList, hx']; rfl
  refine PySem.W.kat_lt ho hd ho' hd' ?_
  rw [hx, hx', sz, sz']
  show PySem.W.KatLex prog w A true (decide (2 < 2)) _ [(.str x.1 t, .str y.1 t'), (.str x.2 t2, .str y.2 t2')] 0 s
  refine PySem.W.kat_cons (SeqAt.EqAt.str_str x.1 t y.1 t' prog w _ _ ?_)
  refine PySem.W.kat_go (fun e1 => ?_) (fun e1 => ?_)
  · have ex : x.1 = y.1 := by simpa using e1
    refine PySem.W.kat_yes (PySem.W.kat_cons (SeqAt.EqAt.str_str x.2 t2 y.2 t2' prog w _ _ ?_))
    refine PySem.W.kat_go (fun e2 => ?_) (fun e2 => ?_)
    · have ey : x.2 = y.2 := by simpa using e2
      refine PySem.W.kat_yes (PySem.W.kat_nil ⟨rfl, ?_⟩)
      rw [slt2_eq ex, slt_eqF ey]
      rfl
    · refine PySem.W.kat_no (PySem.W.kat_one _ _ ?_)
      refine PyProof.Rows.lt_str ?_
      exact ⟨rfl, (slt2_eq ex).symm⟩
  · have ex : ¬ x.1 = y.1 := by simpa using e1
    exact PySem.W.kat_no (oneLt_str ⟨rfl, (slt2_ne ex).symm⟩)
theorem tps_kind {vs : List Value} (h0 : 0 < vs.length) (hp : ∀ v ∈ vs, ∃ a r, IsTp s.heap v a r) {Q : SortKind → Shared → Prop} (hq : Q (tuples' true) s) : wpAny (model prog w) A (keyKind' vs.toArray) Q E s := by
  obtain ⟨fs, h1, h2, h3⟩ := firstsS hp
  refine PySem.W.kat_kind (T := .type "str") h1 (by omega) (fun f hm => ?_) (by rfl) ?_
  · obtain ⟨x, t, rfl⟩ := h3 f hm
    exact PySem.W.Looks.now
  · have e : (Value.type "str" != Value.type "tuple") = true := by first | decide +kernel | rfl | decide
    rw [e]
    exact hq
theorem first_sortable {a : Addr} {vs : List Value} {k : Value → Str} (h0 : 0 < vs.length) (hp : ∀ v ∈ vs, ∃ r, IsTp s.heap v (k v) r) (ne : ∀ v ∈ vs, ∀ u ∈ vs, k v = k u → v = u) (ha : ∀ o, s.heap.get? a = some o → o.cls ≠ .type "tuple") : SortableO prog w A s a vs fun v u => slt (k v) (k u) := by
  intro h' keep
  have hp' : ∀ v ∈ vs, ∃ r, IsTp h' v (k v) r := fun v hm => let ⟨r, z⟩ := hp v hm; ⟨r, z.keeps fun b o e c => keep b o (fun z => by subst z; exact ha o e c) e⟩
  exact ⟨tuples' true, fun Q E hq => tps_kind h0 (fun v hm => let ⟨r, z⟩ := hp' v hm; ⟨_, r, z⟩) hq, first_cmp hp' ne⟩
theorem pairs_sortable {a : Addr} {vs : List Value} {k : Value → Str × Str} (h0 : 0 < vs.length) (hp : ∀ v ∈ vs, ∃ t, IsTp s.heap v (k v).1 [.str (k v).2 t]) (ha : ∀ o, s.heap.get? a = some o → o.cls ≠ .type "tuple") : SortableO prog w A s a vs fun v u => slt2 (k v) (k u) := by
  intro h' keep
  have hp' : ∀ v ∈ vs, ∃ t, IsTp h' v (k v).1 [.str (k v).2 t] := fun v hm => let ⟨r, z⟩ := hp v hm; ⟨r, z.keeps fun b o e c => keep b o (fun z => by subst z; exact ha o e c) e⟩
  exact ⟨tuples' true, fun Q E hq => tps_kind h0 (fun v hm => let ⟨r, z⟩ := hp' v hm; ⟨_, _, z⟩) hq, pairs_cmp hp'⟩
end
section
variable {X : Cx}
theorem noTup {h : Heap} {a : Addr} {vs : List Value} (ha : h.get? a = some (seqObj "list" vs.toArray 0)) : ∀ o, h.get? a = some o → o.cls ≠ .type "tuple" := fun o e c => by
  have e' : some o = some (seqObj "list" vs.toArray 0) := e.symm.trans ha
  cases e'
  exact absurd (Value.type.inj c) (by decide)
/-- sorted(xs), xs a list of tuples told apart by their first text -/
def rSortR (K : PySem.W.Frag) : List V → Hp → VK → Prop := fun vs H Q => ∃ (a : Addr) (xs : List V) (k : V → Str), vs = [V.ref a] ∧ SqL K H a xs ∧ (∀ x ∈ xs, ∃ t r, x = V.ref t ∧ SqT K H t (.str (k x) :: r)) ∧ (∀ x ∈ xs, ∀ y ∈ xs, k x = k y → x = y) ∧
  ∀ ys p, ys.Perm xs → ys.Pairwise (fun x y => slt (k y) (k x) = false) → H p = none → Q (.ref p) (upd H p (.lst ys))
theorem cr_sortR : CallR X (.builtin "sorted") (rSortR X.K) := by
  intro pins s σ H vs us Q I r h
  obtain ⟨a, xs, k, rfl, hs, hx, ne, q⟩ := h
  obtain ⟨its, rv, hl, hz⟩ := I.list hs
  rw [Vals.ref1 r]
  obtain ⟨e1, e2⟩ := refs_back rv fun x m => by
    obtain ⟨t, r, e, _⟩ := hx x m
    exact ⟨t, e⟩
  have hp : ∀ v ∈ its, ∃ r, IsTp s.heap v (k (backV v)) r := fun v hv => by
    obtain ⟨t, rfl⟩ := e2 v hv
    have hm : V.ref t ∈ xs := by rw [e1]; exact List.mem_map.mpr ⟨_, hv, rfl⟩
    obtain ⟨t', r, e, ht⟩ := hx _ hm
    cases e
    obtain ⟨its2, r2, ⟨o, ho, hc, n, hd⟩, _⟩ := I.tuple ht
    cases r2 with
    | cons r0 r3 =>
      obtain ⟨tk, rfl⟩ := r0
      exact ⟨_, t, o, _, n, tk, rfl, ho, hc, hd, rfl⟩
  have ne' : ∀ v ∈ its, ∀ u ∈ its, k (backV v) = k (backV u) → v = u := fun v hv u hu e => by
    obtain ⟨t, rfl⟩ := e2 v hv
    obtain ⟨t', rfl⟩ := e2 u hu
    have q := ne (.ref t) (by rw [e1]; exact List.mem_map.mpr ⟨_, hv, rfl⟩) (.ref t') (by rw [e1]; exact List.mem_map.mpr ⟨_, hu, rfl⟩) e
    injection q with q
    rw [q]
  refine sorted_seq (swo_of swo_s fun u => k (backV u)) (.inl hl.isList) (by rw [← rv.length]; exact hz) (fun h2 h₁ a' ha' kk => first_sortable (by omega) (fun v hv => let ⟨r, z⟩ := hp v hv; ⟨r, z.keeps fun b o e _ => (kk b o e).2⟩) ne' (noTup ha')) fun out h1 h2 => ?_
  have h3 : ∀ u ∈ out, ∃ a, u = Value.ref a := fun u hu => e2 u (h2.perm.mem_iff.mp hu)
  obtain ⟨ep, he'⟩ := PyProof.Rows.sortedAll_at s.heap its out.toArray
  have pm : (out.map backV).Perm xs := by
    rw [e1]
    exact h2.perm.map backV
  refine ⟨.ref _, upd H (s.heap.objs.size + 1) (.lst (out.map backV)), I.laid (t' := s.toks) (fun _ _ => PyProof.Rows.sortedAll_old) (Nat.le_succ _) ⟨by rw [pm.length_eq]; exact hz, out, ep, vals_back h3, he'⟩, rfl, q _ _ pm (List.pairwise_map.mpr h1) (I.hok.fresh (Nat.le_succ _))⟩
/-- sorted(xs), xs a list of pairs of texts -/
def rSortB (K : PySem.W.Frag) : List V → Hp → VK → Prop := fun vs H Q => ∃ (a : Addr) (xs : List V) (k : V → Str × Str), vs = [V.ref a] ∧ SqL K H a xs ∧ (∀ x ∈ xs, ∃ t, x = V.ref t ∧ SqT K H t [.str (k x).1, .str (k x).2]) ∧
  ∀ ys p, ys.Perm xs → ys.Pairwise (fun x y => slt2 (k y) (k x) = false) → H p = none → Q (.ref p) (upd H p (.lst ys))
theorem cr_sortB : CallR X (.builtin "sorted") (rSortB X.K) := by
  intro pins s σ H vs us Q I r h
  obtain ⟨a, xs, k, rfl, hs, hx, q⟩ := h
  obtain ⟨its, rv, hl, hz⟩ := I.list hs
  rw [Vals.ref1 r]
  obtain ⟨e1, e2⟩ := refs_back rv fun x m => by
    obtain ⟨t, e, _⟩ := hx x m
    exact ⟨t, e⟩
  have hp : ∀ v ∈ its, ∃ t, IsTp s.heap v (k (backV v)).1 [.str (k (backV v)).2 t] := fun v hv => by
    obtain ⟨t, rfl⟩ := e2 v hv
    have hm : V.ref t ∈ xs := by rw [e1]; exact List.mem_map.mpr ⟨_, hv, rfl⟩
    obtain ⟨t', e, ht⟩ := hx _ hm
    cases e
    obtain ⟨its2, r2, ⟨o, ho, hc, n, hd⟩, _⟩ := I.tuple ht
    obtain ⟨u1, u2, rfl, ri, rj⟩ := vals2 r2
    obtain ⟨t1, rfl⟩ := ri
    obtain ⟨t2, rfl⟩ := rj
    exact ⟨t2, t, o, _, n, t1, rfl, ho, hc, hd, rfl⟩
  refine sorted_seq (swo_of swo_s2 fun u => k (backV u)) (.inl hl.isList) (by rw [← rv.length]; exact hz) (fun h2 h₁ a' ha' kk => pairs_sortable (by omega) (fun v hv => let ⟨r, z⟩ := hp v hv; ⟨r, z.keeps fun b o e _ => (kk b o e).2⟩) (noTup ha')) fun out h1 h2 => ?_
  have h3 : ∀ u ∈ out, ∃ a, u = Value.ref a := fun u hu => e2 u (h2.perm.mem_iff.mp hu)
  obtain ⟨ep, he'⟩ := PyProof.Rows.sortedAll_at s.heap its out.toArray
  have pm : (out.map backV).Perm xs := by
    rw [e1]
    exact h2.perm.map backV
  refine ⟨.ref _, upd H (s.heap.objs.size + 1) (.lst (out.map backV)), I.laid (t' := s.toks) (fun _ _ => PyProof.Rows.sortedAll_old) (Nat.le_succ _) ⟨by rw [pm.length_eq]; exact hz, out, ep, vals_back h3, he'⟩, rfl, q _ _ pm (List.pairwise_map.mpr h1) (I.hok.fresh (Nat.le_succ _))⟩
end
end MyS

set_option Elab.async false
set_option linter.all false
set_option maxRecDepth 100000
set_option maxHeartbeats 4000000
/-! {k: v for x in xs} with tuples as keys (the library's HandS.DictComp is for ints and texts; the steps are its steps, the store is another). -/
namespace MyS
open PySem PySem.Spec PyProof.Rows L2
section
variable {X : Cx}
theorem d_dictSetT {pins : List (Addr × Obj)} {σ : L2.St} {H : Hp} {s : Shared} {E : Value → Shared → Prop} {D b : Addr} {kvs : List (List Key × V)} {k : List Key} {v : V} {u r : Value} {Q : Unit → Shared → Prop} (hu : X.A.units + 1 < cLine) (I : Inv X pins σ H s) (hD : H D = some (.dT kvs)) (hz : kvs.length < sizeLine)
    (eb : H b = some (.tup (k.map kV))) (ry : RelV (.ref b) u) (rv : RelV v r) (h : ∀ s', Inv X pins σ (upd H D (.dT (putK kvs k v))) s' → Q () s') : wpAny (model X.prog X.w) X.A (dictSet D u r) Q E s := by
  cases (show u = Value.ref b from ry)
  obtain ⟨z, hd, xs, rel, dd⟩ := dt_of I.hok hD
  have hxs : xs.length ≤ sizeLine := by rw [← Paired.length rel]; exact z
  have hl : (putK kvs k v).length ≤ sizeLine := by have := length_putK kvs k v; omega
  refine wpAny_dictSet_heap (hsz := hxs) (show X.A.units < cLine from Nat.lt_of_succ_lt hu) (key_of I.hok eb) dd fun h' dd' hs => h _ ?_
  obtain ⟨q, es, ep, hq, h2, h3, h4, _, h5⟩ := dd'
  refine d_write I (by rw [hD]; exact True.intro) hs ⟨q, hq⟩ ⟨hl, hd, _, (rel.put k eb rv).keeps fun c ys ec => ?_, q, es, ep, hq, h2, h3, h4, h5⟩
  rw [upd_ne (ne_of ec hD (fun z => nomatch z))]
  exact ec
/-- {k: v for x in xs}: the tuple keys' own dict D; the loop by W as in a list comprehension -/
def tDcT (wi : TI) (g : TG) (tt : TT) (tk tv : TE) (vs : List Nat) : TE := fun σ H Q => wi σ H fun J H1 => ∀ D, H1 D = none → ∃ W : Nat → Nat → Hp → Prop, (∃ m, W 0 m (upd H1 D (.dT []))) ∧ ∀ i m H, W i m H →
  (J.stop i H ∧ Q (.ref D) H) ∨ (J.go i H ∧ ∃ Nx : Hp → Prop, (∀ H', Nx H' → ∃ m', m' < m ∧ W (i + 1) m' H') ∧ ∀ x H', J.yld i H x H' → g x (wipe σ vs) H' fun σ2 H2 => wipe σ2 vs = wipe σ vs ∧ tt σ2 H2 fun b H3 =>
    if b = true then tk σ2 H3 fun y H4 => tv σ2 H4 fun z H5 => ∃ kvs k c, y = .ref c ∧ H5 c = some (.tup (k.map kV)) ∧ H5 D = some (.dT kvs) ∧ kvs.length < sizeLine ∧ Nx (upd H5 D (.dT (putK kvs k z))) else Nx H3)
theorem pe_dcT {kx vx tg iter : Expr} {ifs : List Expr} {scope : Scope} {own : List (PySem.Str × Nat)} {pos : Pos} {wi : TI} {g : TG} {tt : TT} {tk tv : TE} (hu : X.A.units + 1 < cLine) (hc : X.calm = true) (hN : X.N.Nodup) (hi : PI X tg iter wi) (ok : BlkOk X.N X.env.scope scope own)
    (hg : ∀ (s : Shared) (H : Hp) (C : Addr) (cl : List (PySem.Str × Addr)) (fp : List Addr), PG (X.blk s H scope (compEnvC scope cl C X.env) fp) tg g) (ht : ∀ (s : Shared) (H : Hp) (C : Addr) (cl : List (PySem.Str × Addr)) (fp : List Addr), PTs (X.blk s H scope (compEnvC scope cl C X.env) fp) ifs tt)
    (hk : ∀ (s : Shared) (H : Hp) (C : Addr) (cl : List (PySem.Str × Addr)) (fp : List Addr), PE (X.blk s H scope (compEnvC scope cl C X.env) fp) kx tk)
    (he : ∀ (s : Shared) (H : Hp) (C : Addr) (cl : List (PySem.Str × Addr)) (fp : List Addr), PE (X.blk s H scope (compEnvC scope cl C X.env) fp) vx tv) (hs : ∀ x, foldedSetIterable iter X.env x = pure x := by intro _; rfl) :
    PE X (.DictComp kx vx [⟨tg, iter, ifs, 0⟩] scope pos) (tDcT wi g tt tk tv (own.map (·.2))) := by
  refine ⟨fun pins s σ H Q I h => ?_⟩
  rw [arm_eval_DictComp]
  have hfree : ∀ y ∈ scope.names, y.2 = .free → ∃ c, X.env.cells.lookup y.1 = some c := fun y hy e =>
    (ok.free y hy e).elim (fun k => I.ok.has _ (.inl k)) fun k => I.ok.has _ (.inr k)
  refine wpAny_comprehension_free (use := none) rfl hs (closure_ok hfree) ok.kind (fun y hy e => by rw [ok.uniq y hy, e]) (thn (hi.run pins s σ H _ I h) fun xv s1 hx => thn hx fun itv s2 h2 => ?_)
  obtain ⟨it, fp, tn, J, H2, rfl, I2, T, st2, f2, q⟩ := h2
  refine wpAny_newObj_type (newEnv_comp ?_)
  obtain ⟨W, ⟨m0, w0⟩, turn⟩ := q s2.heap.objs.size (I2.hok.fresh (Nat.le_refl _))
  -- the new dict
  have I3 : Inv X pins σ (upd H2 s2.heap.objs.size (.dT [])) { s2 with heap := s2.heap.push { cls := .type "dict", data := .dict #[] } } :=
    I2.laid (t' := s2.toks) (fun b o e => Heap.get?_push_of_some _ e) (Nat.le_refl _) (dt_empty s2.heap I2.big)
  have below : ∀ b ∈ fp, b < s2.heap.objs.size := fun b hb => let ⟨o, e, _⟩ := T.obj _ _ st2 b hb; Heap.lt_size e
  generalize hs3 : ({ s2 with heap := s2.heap.push { cls := .type "dict", data := .dict #[] } } : Shared) = s3 at I3
  have h3 : s3.heap = s2.heap.push { cls := .type "dict", data := .dict #[] } := by rw [← hs3]
  generalize hD : s2.heap.objs.size = D at I3 w0 turn below ⊢
  have f3 : ∀ b ∈ fp, FpOk X pins (upd H2 D (.dT [])) b ∧ b < s3.heap.objs.size := fun b hb =>
    ⟨⟨by rw [upd_ne (Nat.ne_of_lt (below b hb))]; exact (f2 b hb).1, (f2 b hb).2⟩, by rw [h3, Heap.size_push, hD]; exact Nat.lt_succ_of_lt (below b hb)⟩
  have st3 : tn 0 s3.heap := T.keep _ _ _ st2 fun b _ o e => by rw [h3]; exact Heap.get?_push_of_some _ e
  have I4 := block_start I3 ok hN f3
  generalize hC : cellsFrom (s3.heap.objs.size + 1) scope.names (cloFrom X.env.cells scope.names []) = cl at I4
  have pg := hg s3 (upd H2 D (.dT [])) s3.heap.objs.size cl fp
  have pt := ht s3 (upd H2 D (.dT [])) s3.heap.objs.size cl fp
  have pk := hk s3 (upd H2 D (.dT [])) s3.heap.objs.size cl fp
  have pe := he s3 (upd H2 D (.dT [])) s3.heap.objs.size cl fp
  have goal : codeAny (model X.prog X.w) X.A (.compStart (.DictComp kx vx [⟨tg, iter, ifs, 0⟩] scope pos) 0 (.ref it) (.ref D) (compEnvC scope cl s3.heap.objs.size X.env)) (compPost (model X.prog X.w) X.A X.xe none (EP X pins σ Q) (.ref D) s3.heap.objs.size) { s3 with heap := pushCells (s3.heap.push { cls := .type "dict", data := .dict #[] }) scope.names } := by
    have cL : (compEnvC scope cl s3.heap.objs.size X.env).locals = s3.heap.objs.size := rfl
    generalize compEnvC scope cl s3.heap.objs.size X.env = ce at I4 pg pt pk pe cL ⊢
    generalize hH3 : upd H2 D (.dT []) = H3 at I3 I4 pg pt pk pe w0 f3
    generalize hs4 : ({ s3 with heap := pushCells (s3.heap.push { cls := .type "dict", data := .dict #[] }) scope.names } : Shared) = s4 at I4 ⊢
    have st4 : tn 0 s4.heap := T.keep _ _ _ st3 fun b _ o e => by rw [← hs4]; exact pushCells_keeps _ _ _ _ (Heap.get?_push_of_some _ e)
    have stat : ∀ {σ' : L2.St} {H' : Hp} {s' : Shared}, Inv (X.blk s3 H3 scope ce fp) [] σ' H' s' → (∀ b ∈ fp, H' b = none) → ∀ b ∈ fp, FpOk (X.blk s3 H3 scope ce fp) [] H' b := fun {σ' H' s'} I' hn b hb =>
      ⟨hn b hb, (I'.ok.exf b hb).1, I'.ok.exfs b hb, .inl hb, fun x c e => (I'.ok.exf b hb).2 x c e, fun p hp => absurd (show p ∈ ([] : List (Addr × Obj)) ++ [] from hp) (by simp)⟩
    refine codeAny_compStart_dict ?lp (T.self X.A 0 _ _ _ st4 ?lp)
    refine compLoop_anyD (fun n s' => ∃ i H', Inv (X.blk s3 H3 scope ce fp) [] (wipe σ (own.map (·.2))) H' s' ∧ tn i s'.heap ∧ (∀ b ∈ fp, H' b = none) ∧ W i n H') ?_ m0 ⟨0, H3, I4, st4, fun b hb => (f3 b hb).1.1, w0⟩
    rintro n s5 ⟨i, H5, I5, st5, n5, w5⟩
    rcases turn i n H5 w5 with ⟨stop, qq⟩ | ⟨go, Nx, hNx, step⟩
    · refine thnF (T.done (X.blk s3 H3 scope ce fp) rfl rfl rfl hc i [] s5 _ H5 (fun _ _ => False) I5 (stat I5 n5) st5 stop) fun r s6 ⟨hr, I6⟩ => ?_
      subst hr
      have I7 : Inv X pins σ H5 s6 := I3.call' (ch := fp) I6.os I6.base I6.hok I6.bare fun b hb => ⟨(f3 b hb).1.2.2.2.1, (f3 b hb).1.2.1, (f3 b hb).1.2.2.2.2.1, (f3 b hb).1.2.2.2.2.2⟩
      have nC : H5 s3.heap.objs.size = none := by
        have z : H5 ce.locals = none := I6.free
        rw [cL] at z
        exact z
      obtain ⟨m, hn, _⟩ := I6.loc
      have hn : s6.heap.Ns ce.locals m := hn
      rw [cL] at hn
      obtain ⟨f0, f1, f2, f3, f4, f5⟩ := I3.fpOk (Nat.le_refl _) nC
      exact ⟨m, hn, fun h'' sb => ⟨.ref D, H5, I7.turned (t' := s6.toks) (fun b o hb e => (sb.2 b hb).trans e) f0 f1 f3 f4 f5, rfl, qq⟩⟩
    · refine thnF (T.item (X.blk s3 H3 scope ce fp) rfl rfl rfl hc i [] s5 _ H5 (fun _ _ => False) I5 (stat I5 n5) st5 go) fun r s6 ⟨u, hr, h6⟩ => ?_
      subst hr
      refine thnF h6 fun _ s7 ⟨x, H7, I7, r7, y7, st7, n7⟩ => ?_
      refine thnF (pg.run _ s7 _ H7 x u _ (I7.pinned (stat I7 n7) (T.obj _ _ st7)) r7 (step x H7 y7)) fun _ s8 ⟨σ8, H8, I8, hw8, q8⟩ => ?_
      refine thnF (pt.run _ s8 σ8 H8 _ I8 q8) fun b s9 ⟨H9, I9, q9⟩ => ?_
      have fin : ∀ {s' : Shared} {H' : Hp}, Inv (X.blk s3 H3 scope ce fp) ([] ++ pinsAt fp s7.heap) σ8 H' s' → Nx H' → ∃ m, m < n ∧ ∃ i H', Inv (X.blk s3 H3 scope ce fp) [] (wipe σ (own.map (·.2))) H' s' ∧ tn i s'.heap ∧ (∀ b ∈ fp, H' b = none) ∧ W i m H' := fun {s' H'} I' nx => by
        obtain ⟨m', hm, w'⟩ := hNx H' nx
        have pin' : ∀ b ∈ fp, ∀ o, s7.heap.get? b = some o → s'.heap.get? b = some o ∧ H' b = none := fun b hb o e =>
          have z := I'.pin (b, o) (List.mem_append_right _ (List.mem_append_right _ (mem_pinsAt hb e)))
          ⟨z.1, z.2.1⟩
        have hl : (wipe σ (own.map (·.2))).length = σ8.length := by rw [← hw8, wipe_length]
        refine ⟨m', hm, i + 1, H', (I'.unpinned (pins := [])).weak hl (fun j v e => ?_), T.keep _ _ _ st7 fun b hb o e => (pin' b hb o e).1, fun b hb => ?_, w'⟩
        · rw [← hw8] at e
          exact (wipe_some e).1
        · obtain ⟨o, e, _⟩ := T.obj _ _ st7 b hb
          exact (pin' b hb o e).2
      cases b with
      | false =>
        simp only [Bool.false_eq_true, if_false] at q9 ⊢
        exact fin I9 q9
      | true =>
        simp only [if_true] at q9 ⊢
        refine thnF (pk.run _ s9 σ8 H9 _ I9 q9) fun z s10 ⟨yk, H10, I10, r10, q10⟩ => ?_
        refine thnF (pe.run _ s10 σ8 H10 _ I10 q10) fun z2 s11 ⟨yv, H11, I11, r11, kvs, k, c, ek, ec, hD11, hz11, nx⟩ => ?_
        subst ek
        exact d_dictSetT (X := X.blk s3 H3 scope ce fp) hu I11 hD11 hz11 ec r10 r11 fun s12 I12 => fin I12 nx
  subst hD
  exact goal
/-- over a tuple that stays -/
theorem dcT_tup {K : PySem.W.Frag} {a : Addr} {xs : List V} {g : TG} {tt : TT} {tk tv : TE} {vs : List Nat} {σ : L2.St} {H1 : Hp} {D : Addr} {Qd : Hp → Prop} (Pv : Nat → Hp → Prop) (h0 : Pv 0 (upd H1 D (.dT []))) (hl : ∀ i H, i ≤ xs.length → Pv i H → SqT K H a xs)
    (hs : ∀ i x H, xs[i]? = some x → Pv i H → g x (wipe σ vs) H fun σ2 H2 => wipe σ2 vs = wipe σ vs ∧ tt σ2 H2 fun b H3 =>
      if b = true then tk σ2 H3 fun y H4 => tv σ2 H4 fun z H5 => ∃ kvs k c, y = .ref c ∧ H5 c = some (.tup (k.map kV)) ∧ H5 D = some (.dT kvs) ∧ kvs.length < sizeLine ∧ Pv (i + 1) (upd H5 D (.dT (putK kvs k z))) else Pv (i + 1) H3) (hd : ∀ H, Pv xs.length H → Qd H) :
    ∃ W : Nat → Nat → Hp → Prop, (∃ m, W 0 m (upd H1 D (.dT []))) ∧ ∀ i m H, W i m H →
      ((Itt K a).stop i H ∧ Qd H) ∨ ((Itt K a).go i H ∧ ∃ Nx : Hp → Prop, (∀ H', Nx H' → ∃ m', m' < m ∧ W (i + 1) m' H') ∧ ∀ x H', (Itt K a).yld i H x H' → g x (wipe σ vs) H' fun σ2 H2 => wipe σ2 vs = wipe σ vs ∧ tt σ2 H2 fun b H3 =>
        if b = true then tk σ2 H3 fun y H4 => tv σ2 H4 fun z H5 => ∃ kvs k c, y = .ref c ∧ H5 c = some (.tup (k.map kV)) ∧ H5 D = some (.dT kvs) ∧ kvs.length < sizeLine ∧ Nx (upd H5 D (.dT (putK kvs k z))) else Nx H3) := by
  refine ⟨fun i m H => m = xs.length - i ∧ i ≤ xs.length ∧ Pv i H, ⟨xs.length, by simp, Nat.zero_le _, h0⟩, ?_⟩
  rintro i m H ⟨rfl, hi, p⟩
  have q := hl i H hi p
  rcases Nat.lt_or_ge i xs.length with lt | ge
  · refine .inr ⟨⟨xs, xs[i], q, by simp [lt]⟩, Pv (i + 1), fun H' p' => ⟨xs.length - (i + 1), by omega, rfl, lt, p'⟩, fun x H' y => ?_⟩
    obtain ⟨rfl, y⟩ := y
    exact hs i x _ (y xs q) p
  · obtain rfl : i = xs.length := by omega
    exact .inl ⟨⟨xs, q, Nat.le_refl _⟩, hd H p⟩
end
end MyS

set_option Elab.async false
set_option linter.all false
set_option maxRecDepth 100000
set_option maxHeartbeats 4000000
namespace W
open PySem PySem.Spec PyProof.Rows L2 GxR MyG
/-! ### the text by places -/
def top (i : Nat) : Stmt := PySem.Challenge.pw_waypapers_k03_maps_edited.main.body.getD i (.Pass ⟨0, 0, 0, 0⟩)
abbrev sIsName : Stmt := top 21
abbrev sNames : Stmt := top 23
abbrev sDiff : Stmt := top 24
abbrev sRoads : Stmt := top 25
abbrev sRoad : Stmt := top 26
abbrev sHours : Stmt := top 27
abbrev sBars : Stmt := top 28
abbrev sInit : Stmt := inClass (top 29) 0

/-! ### names -/
def zLet : Str := "abcdefghijklmnopqrstuvwxyz"
def zDig : Str := "0123456789"
def goodC (c : Nat) : Bool := decide (c ∈ zLet.cps.toList) || decide (c ∈ zDig.cps.toList)
def isNm (z : Str) : Bool := decide (1 ≤ z.length) && decide (z.length ≤ 12) && (match z.cps.toList with | [] => false | c :: _ => decide (c ∈ zLet.cps.toList)) && z.cps.toList.all goodC
/-- the element of the generator: x in A or x in B -/
theorem elt_two {prog : Program} {w : World} {base : Heap} {mg : Str → Option Value} {scope : Scope} {x A B : Str} {a b : Str} {ta tb : Tok} {p1 p2 p3 p4 p5 p6 p7 : Pos} (hk : scope.kind = .function) (hl : scope.names.lookup x = some .local)
    (hA : scope.names.lookup A = some .globalImplicit) (hB : scope.names.lookup B = some .globalImplicit) (hns : base.Ns mainGlobals mg) (eA : mg A = some (.str a ta)) (eB : mg B = some (.str b tb))
    (hd : (x == ("__debug__" : Str)) = false := by decide) (hdA : (A == ("__debug__" : Str)) = false := by decide) (hdB : (B == ("__debug__" : Str)) = false := by decide) :
    EltB prog w base scope x (.BoolOp .Or [.Compare (.Name x p1) [.In] [.Name A p2] p3, .Compare (.Name x p4) [.In] [.Name B p5] p6] p7) (fun c => decide (c ∈ a.cps.toList) || decide (c ∈ b.cps.toList)) := by
  intro ce B' F c t z m hs hg hh hb hn hm
  have kf : ce.scope.kind = .function := by rw [hs]; exact hk
  have kx : ce.kindOf x = some .local := by show ce.scope.names.lookup x = _; rw [hs]; exact hl
  have nsz : ∀ (z' : Shared), Keeps z z' → z'.heap.Ns ce.globals mg := fun z' k => by
    rw [hg]
    obtain ⟨h', tk, rfl, kk⟩ := k
    exact (hns.keeps hb).keeps kk
  have one : ∀ (G : Str) (g : Str) (tg : Tok) (q1 q2 q3 : Pos) (Q : Value → Shared → Prop), (G == ("__debug__" : Str)) = false → scope.names.lookup G = some .globalImplicit → mg G = some (.str g tg) → Q (.bool (decide (c ∈ g.cps.toList))) z →
      wpAny (model prog w) B' (eval (.Compare (.Name x q1) [.In] [.Name G q2] q3) ce) Q F z := by
    intro G g tg q1 q2 q3 Q hdG hG eG hQ
    refine wpAny_Compare1 ?_
    refine wpAny_Name (wpAny_loadName_local kf kx hn hm ?_) hd
    refine Calls.Name_function_global kf (by show ce.scope.names.lookup G = _; rw [hs]; exact hG) (Calls.loadGlobal_global (nsz z (keeps_refl z)) eG ?_) hdG
    refine PyProof.Rows.in_str ?_
    rw [PySem.StrLaws.found_one g c]
    exact hQ
  refine BoolOp_or (one A a ta _ _ _ _ hdA hA eA ?_)
  refine wpAny_truthy_bool ?_
  by_cases ca : c ∈ a.cps.toList
  · have ea : decide (c ∈ a.cps.toList) = true := decide_eq_true ca
    rw [if_pos ea]
    refine ⟨?_, keeps_refl z⟩
    show Value.bool (decide (c ∈ a.cps.toList)) = Value.bool (decide (c ∈ a.cps.toList) || decide (c ∈ b.cps.toList))
    rw [ea]; rfl
  · have ea : decide (c ∈ a.cps.toList) = false := decide_eq_false ca
    rw [if_neg (by rw [ea]; exact Bool.false_ne_true)]
    refine BoolOp_one (one B b tb _ _ _ _ hdB hB eB ?_)
    refine ⟨?_, keeps_refl z⟩
    show Value.bool (decide (c ∈ b.cps.toList)) = Value.bool (decide (c ∈ a.cps.toList) || decide (c ∈ b.cps.toList))
    rw [ea]; rfl

theorem pe_gI {X : Cx} {x : Str} {i : Int} {t : Tok} {pos : Pos} (hm : X.mg x = some (.int i t)) (hg : Gl X x := by rfl) (hd : (x == ("__debug__" : Str)) = false := by decide) : PE X (.Name x pos) (tC (.int i)) := pe_glob hg hm ⟨_, rfl⟩ hd
theorem pe_gS {X : Cx} {x z : Str} {t : Tok} {pos : Pos} (hm : X.mg x = some (.str z t)) (hg : Gl X x := by rfl) (hd : (x == ("__debug__" : Str)) = false := by decide) : PE X (.Name x pos) (tC (.str z)) := pe_glob hg hm ⟨_, rfl⟩ hd
theorem nofree {names : List (Str × NameKind)} {Q : Str × NameKind → Prop} (h : names.all (fun y => y.2 != .free) = true) : ∀ y ∈ names, y.2 = .free → Q y := fun y hy e => by
  have q := List.all_eq_true.mp h y hy
  rw [e] at q
  exact absurd q (by decide)
theorem if_t {c : Bool} {A B : Prop} (hc : c = true) (h : A) : if c = true then A else B := by
  rw [if_pos hc]
  exact h
theorem if_f {c : Bool} {A B : Prop} (hc : c = false) (h : B) : if c = true then A else B := by
  rw [hc, if_neg Bool.false_ne_true]
  exact h
/-! ### what the top has written -/
structure Txt (K : PySem.W.Frag) (mg : Str → Option Value) (C P : Addr) : Prop where
  let_ : ∃ t, mg "LETTERS" = some (.str zLet t)
  dig : ∃ t, mg "DIGITS" = some (.str zDig t)
  ln : ∃ t, mg "LONGEST_NAME" = some (.int 12 t)
  len : mg "len" = none
  all : mg "all" = none

def spIsName (P : Addr) : Sp := fun vs H Q _ => ∃ z : Str, vs = [.str z] ∧ z.length ≤ sizeLine ∧ TabG H P ∧ ∀ H', Tabbed P H H' → Q (.bl (isNm z)) H'
section
variable {Pg : Program} {w : World} {K : PySem.W.Frag} {mg : Str → Option Value} {base : Heap} {C P : Addr}
theorem scIsName : FnScope ["text"] ["text"] (defScope sIsName) := ⟨rfl, rfl, rfl, by decide +kernel, rfl, by decide +kernel, by decide +kernel⟩
theorem str_len0 {z : Str} (h : ¬ 1 ≤ z.length) : isNm z = false := by
  unfold isNm
  simp [h]
theorem ok_isName {f c : Addr} {fd : FuncData} (F : Fun K "is_name" "is_name" sIsName f fd) (T : Txt K mg C P) (TB : TabB base mg c P) (hfc : fd.code = .ref c) (hns : base.Ns mainGlobals mg) : FnOk Pg w K mg base CX0 2 f fd ["text"] (spIsName P) := by
  obtain ⟨oc, od, kV, doc, pm, an, cdv, ct, osl, efd, lk, hcd⟩ := F.ex
  subst efd
  have ecd : cdv = .ref c := hfc
  subst ecd
  refine fn_of lk hcd scIsName (fun vs H Q E h => ?_) (fun A outer s H vs Q E hr h => ?_)
  · obtain ⟨z, rfl, _⟩ := h
    rfl
  · obtain ⟨z, rfl, hz, hP, k⟩ := h
    obtain ⟨tl, el⟩ := T.let_
    obtain ⟨td, ed⟩ := T.dig
    obtain ⟨tn, en⟩ := T.ln
    refine ⟨_, PSs.nox (pss_cons (ps_if (PW.pt (pw_or (pt_not (pt_chain op_le op_le pe_int (pe_callB call_len_str (by rfl) T.len PySem.boot_len (pa_cons (pv 0) pa_nil)) (pe_gI en)))
        (pw_or1 (pt_cmpR op_notIn_sign (pe_ix ix_str (pv 0) pe_int (fun _ _ => rfl)) (pe_gS el) (by rfl)))))
        (pss_one (ps_ret pe_bl)) pss_nil)
      (pss_one (ps_ret (pe_allB (scope := _) (P := P) hr rfl T.all TB rfl ⟨rfl, rfl, by decide +kernel, by decide +kernel, by decide +kernel, nofree (by decide +kernel)⟩ (pv 0) (elt_two rfl (by decide +kernel) (by decide +kernel) (by decide +kernel) hns el ed) (fun _ => rfl))))), ?_⟩
    have zl : z.length = z.cps.toList.length := by simp [Str.length]
    refine ⟨_, rfl, z, rfl, hz, 1, _, rfl, rfl, _, rfl, ?_⟩
    by_cases h1 : (1 : Int) ≤ (z.length : Int)
    · refine if_t (decide_eq_true h1) ⟨_, _, rfl, rfl, _, rfl, ?_⟩
      by_cases h2 : (z.length : Int) ≤ 12
      · rw [decide_eq_true h2]
        refine iteF ?_
        have hp : 0 < z.cps.toList.length := by omega
        have e0 : atI z.cps.toList 0 = some (z.cps.toList[0]'hp) := atI_nat (j := 0) (List.getElem?_eq_getElem hp)
        refine ⟨_, rfl, z, 0, _, rfl, rfl, hz, e0, _, _, rfl, rfl, _, rfl, ?_⟩
        by_cases h3 : z.cps.toList[0]'hp ∈ zLet.cps.toList
        · rw [decide_eq_true h3]
          refine iteF ⟨_, rfl, z, rfl, hP, fun H2 hH => ?_⟩
          have e := k H2 hH
          have en : isNm z = z.cps.toList.all goodC := by
            unfold isNm
            cases q : z.cps.toList with
            | nil => rw [q] at hp; exact absurd hp (by decide)
            | cons c r =>
              have h3' : c ∈ zLet.cps.toList := by
                have : z.cps.toList[0]'hp = c := by simp [q]
                rw [← this]; exact h3
              have a1 : 1 ≤ z.length := by omega
              have a2 : z.length ≤ 12 := by omega
              simp [a1, a2, h3']
          rw [en] at e
          exact e
        · rw [decide_eq_false h3]
          refine iteT ?_
          have en : isNm z = false := by
            unfold isNm
            cases q : z.cps.toList with
            | nil => simp
            | cons c r =>
              have h3' : c ∉ zLet.cps.toList := by
                have : z.cps.toList[0]'hp = c := by simp [q]
                rw [← this]; exact h3
              simp [h3']
          have e := k H ⟨hP, fun _ _ => rfl⟩
          rw [en] at e
          exact e
      · rw [decide_eq_false h2]
        refine iteT ?_
        have en : isNm z = false := by
          unfold isNm
          have a2 : ¬ z.length ≤ 12 := by omega
          simp [a2]
        have e := k H ⟨hP, fun _ _ => rfl⟩
        rw [en] at e
        exact e
    · refine if_f (decide_eq_false h1) ⟨_, rfl, ?_⟩
      refine iteT ?_
      have en : isNm z = false := by
        unfold isNm
        have a2 : ¬ 1 ≤ z.length := by omega
        simp [a2]
      have e := k H ⟨hP, fun _ _ => rfl⟩
      rw [en] at e
      exact e
end
end W

set_option Elab.async false
set_option linter.all false
set_option maxRecDepth 100000
set_option maxHeartbeats 400000
namespace W
open PySem PySem.Spec PyProof.Rows L2 GxR MyG MyS
/-! ### heaps that have grown: what stood (but the table at P) stands -/
structure Grew (P : Addr) (H H' : Hp) : Prop where
  tab : TabG H' P
  old : ∀ b o, b ≠ P → (∀ ps, o ≠ .tbl ps) → H b = some o → H' b = some o
  tabs : ∀ b, TabG H b → TabG H' b
  there : ∀ b, H b ≠ none → H' b ≠ none
section
variable {P : Addr} {H H1 H2 H' : Hp} {K : PySem.W.Frag}
theorem Grew.refl (h : TabG H P) : Grew P H H := ⟨h, fun _ _ _ _ e => e, fun _ q => q, fun _ q => q⟩
theorem Grew.trans (a : Grew P H H1) (b : Grew P H1 H2) : Grew P H H2 := ⟨b.tab, fun c o n d e => b.old c o n d (a.old c o n d e), fun c q => b.tabs c (a.tabs c q), fun c q => b.there c (a.there c q)⟩
theorem Grew.of (t : Tabbed P H H') : Grew P H H' := ⟨t.1, fun b o n _ e => by rw [t.2 b n]; exact e, fun b q => by
  by_cases n : b = P
  · rw [n]; exact t.1
  · obtain ⟨ps, e, r⟩ := q
    exact ⟨ps, by rw [t.2 b n]; exact e, r⟩, fun b q => by
  by_cases n : b = P
  · rw [n]
    obtain ⟨ps, e, r⟩ := t.1
    rw [e]
    exact fun z => by cases z
  · rw [t.2 b n]; exact q⟩
/-- another def's table has grown -/
theorem Grew.of2 {P2 : Addr} (h1 : TabG H P) (h2 : TabG H P2) (t : Tabbed P2 H H') : Grew P H H' := by
  have g := Grew.of t
  refine ⟨g.tabs P h1, fun b o n d e => g.old b o (fun z => ?_) d e, g.tabs, g.there⟩
  obtain ⟨ps, q, _⟩ := h2
  rw [z, q] at e
  exact d ps (Option.some.inj e).symm
theorem tabNe (h : TabG H P) {a : Addr} (n : H a = none) : a ≠ P := fun e => by
  obtain ⟨ps, q, _⟩ := h
  rw [e, q] at n
  cases n
theorem tabNe' (h : TabG H P) {a : Addr} {o : HO} (e : H a = some o) (d : ∀ ps, o ≠ .tbl ps) : a ≠ P := fun z => by
  obtain ⟨ps, q, _⟩ := h
  rw [z, q] at e
  exact d ps (Option.some.inj e).symm
theorem tabUpd (h : TabG H P) {a : Addr} {o : HO} (n : a ≠ P) : TabG (upd H a o) P := by
  obtain ⟨ps, q, t⟩ := h
  exact ⟨ps, by rw [upd_ne (Ne.symm n)]; exact q, t⟩
/-- a new object -/
theorem Grew.new (h : TabG H P) {a : Addr} {o : HO} (n : H a = none) : Grew P H (upd H a o) := ⟨tabUpd h (tabNe h n), fun b u _ _ e => by rw [upd_ne (ne_of_none e n)]; exact e, fun b q => by
  obtain ⟨ps, e, r⟩ := q
  exact ⟨ps, by rw [upd_ne (ne_of_none e n)]; exact e, r⟩, fun b q => by
  by_cases z : b = a
  · rw [z, upd_same]; exact fun z => by cases z
  · rw [upd_ne z]; exact q⟩
theorem Grew.put (g : Grew P H H1) {a : Addr} {o : HO} (n : H1 a = none) : Grew P H (L2.upd H1 a o) := g.trans (Grew.new g.tab n)
theorem Grew.get (g : Grew P H H') (h : TabG H P) {b : Addr} {o : HO} (e : H b = some o) (d : ∀ ps, o ≠ .tbl ps) : H' b = some o := g.old b o (tabNe' h e d) d e
theorem Grew.lst (g : Grew P H H') (h : TabG H P) {b : Addr} {xs : List V} (e : H b = some (.lst xs)) : H' b = some (.lst xs) := g.get h e (fun _ z => by cases z)
theorem Grew.tup (g : Grew P H H') (h : TabG H P) {b : Addr} {xs : List V} (e : H b = some (.tup xs)) : H' b = some (.tup xs) := g.get h e (fun _ z => by cases z)
theorem Grew.free (g : Grew P H H') {b : Addr} (n : H' b = none) : H b = none := by
  cases q : H b with
  | none => rfl
  | some o => exact absurd n (g.there b (by rw [q]; exact fun z => by cases z))
theorem Grew.sqL (g : Grew P H H') (h : TabG H P) {a : Addr} {xs : List V} (q : SqL K H a xs) : SqL K H' a xs := by
  rcases q with (q | ⟨o, q⟩) | q
  · exact .inl (.inl (g.lst h q))
  · exact .inl (.inr ⟨o, g.get h q (fun _ z => by cases z)⟩)
  · exact .inr q
theorem Grew.sqT (g : Grew P H H') (h : TabG H P) {a : Addr} {xs : List V} (q : SqT K H a xs) : SqT K H' a xs := by
  rcases q with (q | ⟨o, q⟩) | q
  · exact .inl (.inl (g.tup h q))
  · exact .inl (.inr ⟨o, g.get h q (fun _ z => by cases z)⟩)
  · exact .inr q
/-- an own object that was not there at H may be written -/
theorem Grew.write (g : Grew P H H1) {a : Addr} {o u : HO} (e : H1 a = some u) (d : ∀ ps, u ≠ .tbl ps) (n : H a = none) : Grew P H (L2.upd H1 a o) :=
  ⟨tabUpd g.tab (tabNe' g.tab e d), fun b v hb dv q => by rw [upd_ne (ne_of_none q n)]; exact g.old b v hb dv q, fun b q => by
    have q2 := g.tabs b q
    obtain ⟨ps, eb, _⟩ := q
    exact tabUpd q2 (ne_of_none eb n).symm, fun b q => by
    by_cases z : b = a
    · rw [z, upd_same]; exact fun z => by cases z
    · rw [upd_ne z]; exact g.there b q⟩
end

/-! ### what stands in tuples goes on standing -/
def KeepT (K : PySem.W.Frag) (H H' : Hp) : Prop := ∀ a xs, SqT K H a xs → SqT K H' a xs
theorem KeepT.refl {K : PySem.W.Frag} {H : Hp} : KeepT K H H := fun _ _ h => h
theorem KeepT.trans {K : PySem.W.Frag} {H H1 H2 : Hp} (x : KeepT K H H1) (y : KeepT K H1 H2) : KeepT K H H2 := fun a xs h => y a xs (x a xs h)
theorem KeepT.grew {K : PySem.W.Frag} {P : Addr} {H H' : Hp} (g : Grew P H H') (h : TabG H P) : KeepT K H H' := fun _ _ q => g.sqT h q
theorem KeepT.upd {K : PySem.W.Frag} {H : Hp} {D : Addr} {o : HO} (h1 : ∀ xs, H D ≠ some (.tup xs)) (h2 : ∀ xs u, H D ≠ some (.frz u (.tup xs))) : KeepT K H (L2.upd H D o) := fun a xs q => by
  rcases q with (q | ⟨u, q⟩) | q
  · have ne : a ≠ D := fun e => by subst e; exact h1 xs q
    exact .inl (.inl (by rw [upd_ne ne]; exact q))
  · have ne : a ≠ D := fun e => by subst e; exact h2 xs u q
    exact .inl (.inr ⟨u, by rw [upd_ne ne]; exact q⟩)
  · exact .inr q
theorem KeepT.lst {K : PySem.W.Frag} {H : Hp} {D : Addr} {o : HO} {l : List V} (e : H D = some (.lst l)) : KeepT K H (L2.upd H D o) := .upd (fun xs q => by rw [e] at q; cases q) (fun xs u q => by rw [e] at q; cases q)
theorem KeepT.ins {K : PySem.W.Frag} {H : Hp} {D C dx : Addr} {o : HO} {fs : List (Str × V)} (e : H D = some (.ins C dx fs)) : KeepT K H (L2.upd H D o) := .upd (fun xs q => by rw [e] at q; cases q) (fun xs u q => by rw [e] at q; cases q)
theorem KeepT.dK {K : PySem.W.Frag} {H : Hp} {D : Addr} {o : HO} {l : List (Key × V)} (e : H D = some (.dK l)) : KeepT K H (L2.upd H D o) := .upd (fun xs q => by rw [e] at q; cases q) (fun xs u q => by rw [e] at q; cases q)
theorem KeepT.dT {K : PySem.W.Frag} {H : Hp} {D : Addr} {o : HO} {l : List (List Key × V)} (e : H D = some (.dT l)) : KeepT K H (L2.upd H D o) := .upd (fun xs q => by rw [e] at q; cases q) (fun xs u q => by rw [e] at q; cases q)
theorem KeepT.new {K : PySem.W.Frag} {H : Hp} {D : Addr} {o : HO} (e : H D = none) : KeepT K H (L2.upd H D o) := .upd (fun xs q => by rw [e] at q; cases q) (fun xs u q => by rw [e] at q; cases q)
/-! ### a < b < c <= d -/
section
variable {X : Cx} {a b c e : Expr} {ta tb tc te : TE} {pos : Pos}
def tChain3 (r r' r'' : R2) (ta tb tc te : TE) : TE := fun σ H Q => ta σ H fun x H1 => tb σ H1 fun y H2 => r x y H2 fun k H3 => ∃ i, k = .bl i ∧
  (if i = true then tc σ H3 fun z H4 => r' y z H4 fun k H5 => ∃ i, k = .bl i ∧ (if i = true then te σ H5 fun u H6 => r'' z u H6 Q else Q (.bl false) H5) else Q (.bl false) H3)
theorem pt_chain3 {op op' op'' : CmpOp} {r r' r'' : R2} (ho : OpR X (compareOp op) r) (ho' : OpR X (compareOp op') r') (ho'' : OpR X (compareOp op'') r'') (ha : PE X a ta) (hb : PE X b tb) (hc : PE X c tc) (he : PE X e te)
    (hm : lastMarks [op, op', op''] [b, c, e] = false := by with_unfolding_all rfl) : PT X (.Compare a [op, op', op''] [b, c, e] pos) (tTest (tChain3 r r' r'' ta tb tc te)) := by
  refine ⟨fun pins s σ H Q I h => ?_⟩
  refine isTrue_chain (thn (ha.run pins s σ H _ I h) fun v s1 ⟨x, H1, I1, r1, q1⟩ => test_link (thn (hb.run pins s1 σ H1 _ I1 q1) fun u s2 ⟨y, H2, I2, r2, q2⟩ =>
    thn (ho pins s2 σ H2 x y v u _ I2 r1 r2 q2) fun d s3 ⟨z, H3, I3, r3, k, ek, q3⟩ => ?_)) hm
  subst ek
  cases r3
  refine wpAny_truthy_bool ?_
  cases k with
  | false =>
    obtain ⟨k', e', q'⟩ := q3
    cases e'
    exact ite_ff ⟨H3, I3, q'⟩
  | true =>
    refine ite_tt (test_link (thn (hc.run pins s3 σ H3 _ I3 q3) fun w' s4 ⟨z', H4, I4, r4, q4⟩ => thn (ho' pins s4 σ H4 y z' u w' _ I4 r2 r4 q4) fun d s5 ⟨z5, H5, I5, r5, k5, e5, q5⟩ => ?_))
    subst e5
    cases r5
    refine wpAny_truthy_bool ?_
    cases k5 with
    | false =>
      obtain ⟨k', e', q'⟩ := q5
      cases e'
      exact ite_ff ⟨H5, I5, q'⟩
    | true =>
      refine ite_tt (test_last (thn (he.run pins s5 σ H5 _ I5 q5) fun w6 s6 ⟨z6, H6, I6, r6, q6⟩ => thn (ho'' pins s6 σ H6 z' z6 w' w6 _ I6 r4 r6 q6) fun d s7 ⟨z7, H7, I7, r7, k7, e7, q7⟩ => ?_))
      subst e7
      cases r7
      exact wpAny_truthy_bool ⟨H7, I7, q7⟩
end
def rTupOf (K : PySem.W.Frag) : List V → Hp → VK → Prop := fun xs H Q => ∃ p ys, xs = [.ref p] ∧ ((SqL K H p ys ∧ ∀ l, H l = none → Q (.ref l) (upd H l (.tup ys))) ∨ (SqT K H p ys ∧ Q (.ref p) H))
/-! ### what a map's parts are -/
theorem Paired.snoc {α β : Type} {F : α → β → Prop} {a : α} {b : β} : ∀ {l : List α} {m : List β}, Paired F l m → F a b → Paired F (l ++ [a]) (m ++ [b])
  | _, _, .nil, h => .cons h .nil
  | _, _, .cons r t, h => .cons r (Paired.snoc t h)
theorem Paired.len {α β : Type} {F : α → β → Prop} : ∀ {l : List α} {m : List β}, Paired F l m → l.length = m.length
  | _, _, .nil => rfl
  | _, _, .cons _ t => congrArg Nat.succ (Paired.len t)
theorem Paired.at {α β : Type} {F : α → β → Prop} : ∀ {l : List α} {m : List β} {i : Nat} {b : β}, Paired F l m → m[i]? = some b → ∃ a, l[i]? = some a ∧ F a b
  | _, _, _, _, .nil, e => by simp at e
  | _, _, 0, _, .cons r _, e => ⟨_, rfl, by simp at e; subst e; exact r⟩
  | _, _, i + 1, _, .cons _ t, e => by
    obtain ⟨a, h1, h2⟩ := Paired.at (i := i) t (by simpa using e)
    exact ⟨a, by simpa using h1, h2⟩
theorem Paired.to {α β : Type} {F : α → β → Prop} : ∀ {l : List α} {m : List β} {i : Nat} {a : α}, Paired F l m → l[i]? = some a → ∃ b, m[i]? = some b ∧ F a b
  | _, _, _, _, .nil, e => by simp at e
  | _, _, 0, _, .cons r _, e => ⟨_, rfl, by simp at e; subst e; exact r⟩
  | _, _, i + 1, _, .cons _ t, e => by
    obtain ⟨a, h1, h2⟩ := Paired.to (i := i) t (by simpa using e)
    exact ⟨a, by simpa using h1, h2⟩
theorem Paired.map' {α β : Type} {F G : α → β → Prop} : ∀ {l : List α} {m : List β}, Paired F l m → (∀ a b, F a b → G a b) → Paired G l m
  | _, _, .nil, _ => .nil
  | _, _, .cons r t, f => .cons (f _ _ r) (Paired.map' t f)
structure RoadD where
  name : Str
  start : Str
  goal : Str
  minutes : Int
  users : List Str
  hours : Option (List (Int × Int))
/-- a pair of hours -/
def GPair (K : PySem.W.Frag) (H : Hp) (p : Int × Int) (x : V) : Prop := ∃ t, x = .ref t ∧ SqT K H t [.int p.1, .int p.2]
/-- the hours of a road -/
def GHours (K : PySem.W.Frag) (H : Hp) (hs : Option (List (Int × Int))) (v : V) : Prop := match hs with
  | none => v = .non
  | some ps => ∃ l xs, v = .ref l ∧ SqT K H l xs ∧ Paired (GPair K H) ps xs
def GRoad (K : PySem.W.Frag) (H : Hp) (r : RoadD) (v : V) : Prop := ∃ t u h, v = .ref t ∧ SqT K H t [.str r.name, .str r.start, .str r.goal, .int r.minutes, .ref u, h] ∧ SqT K H u (r.users.map V.str) ∧ GHours K H r.hours h
theorem GPair.keep {K : PySem.W.Frag} {H H' : Hp} {p : Int × Int} {x : V} (k : KeepT K H H') (g : GPair K H p x) : GPair K H' p x := let ⟨t, e, q⟩ := g; ⟨t, e, k _ _ q⟩
theorem GHours.keep {K : PySem.W.Frag} {H H' : Hp} {hs : Option (List (Int × Int))} {v : V} (k : KeepT K H H') (g : GHours K H hs v) : GHours K H' hs v := by
  cases hs with
  | none => exact g
  | some ps =>
    obtain ⟨l, xs, e, q, r⟩ := g
    exact ⟨l, xs, e, k _ _ q, Paired.map' r fun _ _ => GPair.keep k⟩
theorem GRoad.keep {K : PySem.W.Frag} {H H' : Hp} {r : RoadD} {v : V} (k : KeepT K H H') (g : GRoad K H r v) : GRoad K H' r v := by
  obtain ⟨t, u, h, e, q1, q2, q3⟩ := g
  exact ⟨t, u, h, e, k _ _ q1, k _ _ q2, q3.keep k⟩
/-- pairs in order, apart, within the day -/
def hoursOk (d : Int) : Int → List (Int × Int) → Prop
  | _, [] => True
  | c, p :: r => c < p.1 ∧ p.1 < p.2 ∧ p.2 ≤ d ∧ hoursOk d p.2 r
def HoursOk (d : Int) : Option (List (Int × Int)) → Prop
  | none => True
  | some ps => ps.length ≤ 4 ∧ hoursOk d (-1) ps
/-- where the next pair begins behind the first i -/
def lastOf (c : Int) (ps : List (Int × Int)) (i : Nat) : Int := ((ps.take i).getLast?.map (·.2)).getD c
theorem hoursOk_at {d : Int} : ∀ {ps : List (Int × Int)} {c : Int} {i : Nat} {p : Int × Int}, hoursOk d c ps → ps[i]? = some p → lastOf c ps i < p.1 ∧ p.1 < p.2 ∧ p.2 ≤ d
  | [], _, _, _, _, e => by simp at e
  | q :: r, c, 0, p, h, e => by
    simp at e
    subst e
    exact ⟨h.1, h.2.1, h.2.2.1⟩
  | q :: r, c, i + 1, p, h, e => by
    have k := hoursOk_at (i := i) h.2.2.2 (by simpa using e)
    refine ⟨?_, k.2⟩
    have e2 : lastOf c (q :: r) (i + 1) = lastOf q.2 r i := by
      unfold lastOf
      rw [List.take_succ_cons]
      cases r.take i with
      | nil => rfl
      | cons a l => rw [List.getLast?_cons_cons]; cases h : (a :: l).getLast? with
        | none => simp at h
        | some z => rfl
    rw [e2]; exact k.1
theorem lastOf_succ {ps : List (Int × Int)} {c : Int} {i : Nat} {p : Int × Int} (e : ps[i]? = some p) : lastOf c ps (i + 1) = p.2 := by
  unfold lastOf
  rw [List.take_succ, e]
  simp
theorem isNm_len {z : Str} (h : isNm z = true) : z.length ≤ 12 := by
  unfold isNm at h
  simp only [Bool.and_eq_true, decide_eq_true_eq] at h
  exact h.1.1.2
/-! ### _checked_day, _check_different, _checked_hours, _checked_names -/
structure TxtE (X : Str → Option Value) (K : PySem.W.Frag) (C : Addr) : Prop where
  gC : X "InvalidMap" = some (.ref C)
  xC : PySem.W.excIn K C [.type "ValueError", .type "Exception", .type "BaseException", .type "object"] "ValueError.__new__" = true
  kC : PySem.W.keepIn K (.ref C) = true
  bC : PySem.W.subIn K (.ref C) (.type "BaseException") = some true
  tC : PySem.W.typeIn K (.ref C) = some (.type "type")
abbrev sDay : Stmt := top 22
def spDay : Sp := fun vs H Q _ => ∃ d : Int, vs = [.int d] ∧ 1 ≤ d ∧ d ≤ 1440 ∧ Q (.int d) H
def DiffS (K : PySem.W.Frag) (H : Hp) (a : Addr) : Prop := ∃ ns : List Str, (SqL K H a (ns.map V.str) ∨ SqT K H a (ns.map V.str)) ∧ ns.length ≤ 1000 ∧ ns.Nodup
def DiffP (K : PySem.W.Frag) (H : Hp) (a : Addr) : Prop := ∃ ks : List (Addr × List Str), SqL K H a (ks.map fun p => V.ref p.1) ∧ (∀ p ∈ ks, SqT K H p.1 (p.2.map V.str)) ∧ ks.length < 64 ∧ (ks.map (·.2)).Nodup
def spDiff (K : PySem.W.Frag) : Sp := fun vs H Q _ => ∃ a : Addr, vs = [.ref a] ∧ (DiffS K H a ∨ DiffP K H a) ∧ Q .non H
def spHours (K : PySem.W.Frag) (P : Addr) : Sp := fun vs H Q _ => ∃ (d : Int) (hs : Option (List (Int × Int))) (hv : V), vs = [hv, .int d] ∧ GHours K H hs hv ∧ HoursOk d hs ∧ TabG H P ∧ ∀ H' v', Grew P H H' → GHours K H' hs v' → Q v' H'
section
variable {Pg : Program} {w : World} {K : PySem.W.Frag} {mg : Str → Option Value} {base : Heap} {C P : Addr}
theorem scDay : FnScope ["day"] ["day"] (defScope sDay) := ⟨rfl, rfl, rfl, by decide +kernel, rfl, by decide +kernel, by decide +kernel⟩
theorem ok_day {f : Addr} {fd : FuncData} {t : Tok} (F : Fun K "_checked_day" "_checked_day" sDay f fd) (hd : mg "LONGEST_DAY" = some (.int 1440 t)) : FnOk Pg w K mg base CX0 1 f fd ["day"] spDay := by
  refine F.ok scDay (fun vs H Q E h => ?_) (fun cdv A outer s H vs Q E hr h => ?_)
  · obtain ⟨d, rfl, _⟩ := h
    rfl
  · obtain ⟨d, rfl, h1, h2, k⟩ := h
    refine ⟨_, pss_cons (ps_if (pt_not (pt_chain op_le op_le pe_int (pv 0) (pe_gI hd))) (pss_one ps_never) pss_nil) (pss_one (ps_ret (pv 0))), ?_⟩
    refine ⟨_, rfl, _, _, rfl, rfl, _, rfl, if_t (decide_eq_true h1) ⟨_, _, rfl, rfl, _, rfl, ?_⟩⟩
    rw [decide_eq_true h2]
    exact iteF ⟨_, rfl, k⟩
theorem scDiff : FnScope ["parts"] ["parts"] (defScope sDiff) := ⟨rfl, rfl, rfl, by decide +kernel, rfl, by decide +kernel, by decide +kernel⟩
theorem ok_diff {f : Addr} {fd : FuncData} (F : Fun K "_check_different" "_check_different" sDiff f fd) (hl : mg "len" = none) (hs : mg "set" = none) : FnOk Pg w K mg base CX0 1 f fd ["parts"] (spDiff K) := by
  refine F.ok scDiff (fun vs H Q E h => ?_) (fun cdv A outer s H vs Q E hr h => ?_)
  · obtain ⟨a, rfl, _⟩ := h
    rfl
  · obtain ⟨a, rfl, (⟨ns, hS, h1, nd⟩ | ⟨ks, hS, ht, h1, nd⟩), k⟩ := h
    · refine ⟨_, pss_one (ps_if (pt_cmpR op_lt (pe_lenSetS rfl hl hs (pv 0)) (pe_callB call_len_seq (by rfl) hl PySem.boot_len (pa_cons (pv 0) pa_nil)) (nomark _)) (pss_one ps_never) pss_nil), ?_⟩
      refine ⟨_, rfl, a, ns, rfl, hS, by omega, fun n hc => ?_⟩
      have e : n = ns.length := hc.eq.mpr nd
      subst e
      refine ⟨_, rfl, a, _, rfl, hS, _, _, rfl, rfl, _, rfl, ?_⟩
      rw [List.length_map]
      exact if_f (decide_eq_false (Int.lt_irrefl _)) k
    · refine ⟨_, pss_one (ps_if (pt_cmpR op_lt (pe_lenSetP rfl hr.units hl hs (pv 0)) (pe_callB call_len_seq (by rfl) hl PySem.boot_len (pa_cons (pv 0) pa_nil)) (nomark _)) (pss_one ps_never) pss_nil), ?_⟩
      refine ⟨_, rfl, a, ks, rfl, .inl hS, ht, h1, fun n hc => ?_⟩
      have e : n = (ks.map (·.2)).length := hc.eq.mpr nd
      subst e
      refine ⟨_, rfl, a, _, rfl, .inl hS, _, _, rfl, rfl, _, rfl, ?_⟩
      rw [List.length_map, List.length_map]
      exact if_f (decide_eq_false (Int.lt_irrefl _)) k
abbrev nHours : List Str := ["hours", "day", "closed", "pair"]
theorem scHours : FnScope nHours ["hours", "day"] (defScope sHours) := ⟨rfl, rfl, rfl, by decide +kernel, rfl, by decide +kernel, by decide +kernel⟩
theorem ok_hours {f : Addr} {fd : FuncData} {t1 : Tok} (F : Fun K "_checked_hours" "_checked_hours" sHours f fd) (hl : mg "len" = none) (ht : mg "tuple" = none) (hp : mg "MOST_PAIRS" = some (.int 4 t1)) : FnOk Pg w K mg base CX0 1 f fd ["hours", "day"] (spHours K P) := by
  refine F.ok scHours (fun vs H Q E h => ?_) (fun cdv A outer s H vs Q E hr h => ?_)
  · obtain ⟨d, hs, hv, rfl, _⟩ := h
    rfl
  · obtain ⟨d, hs, hv, rfl, g, ok, hP, k⟩ := h
    refine ⟨_, pss_cons (ps_if (pt_cmp (pc_isN (pv 0))) (pss_one (ps_ret pe_non)) pss_nil)
      (pss_cons (ps_if (pt_cmpR op_gt (pe_callB call_len_seq (by rfl) hl PySem.boot_len (pa_cons (pv 0) pa_nil)) (pe_gI hp) (nomark _)) (pss_one ps_never) pss_nil)
      (pss_cons (ps_set (i := 2) scHours.nd rfl (Or.inl rfl) (pe_un un_neg pe_int))
      (pss_cons (ps_for PassesOwn.never rfl (pi_tup (pv 0)) (pg_name (i := 3) scHours.nd rfl (Or.inl rfl))
        (pss_cons (ps_if (pt_cmpR op_ne (pe_callB call_len_seq (by rfl) hl PySem.boot_len (pa_cons (pv 3) pa_nil)) pe_int (nomark _)) (pss_one ps_never) pss_nil)
        (pss_cons (ps_if (pt_not (pt_chain3 op_lt op_lt op_le (pv 2) (pe_ix ix_tup (pv 3) pe_int (fun _ _ => rfl)) (pe_ix ix_tup (pv 3) pe_int (fun _ _ => rfl)) (pv 1))) (pss_one ps_never) pss_nil)
        (pss_one (ps_set (i := 2) scHours.nd rfl (Or.inl rfl) (pe_ix ix_tup (pv 3) pe_int (fun _ _ => rfl)))))))
      (pss_one (ps_ret (pe_callTy call_tuple_of (by rfl) ht (by decide +kernel) (pa_cons (pe_lc (own := [("pair", 3)]) (g := gName 3) (tt := tYes) rfl scHours.nd (pi_tup (pv 0)) (blkOk_by (N := nHours) (sc := defScope sHours) (by decide +kernel)) (fun _ _ _ _ _ => pg_name (i := 3) scHours.nd rfl (Or.inl rfl)) (fun _ _ _ _ _ => pts_nil)
          (fun _ _ _ _ _ => pe_callTy (r := rTupOf K) call_tuple_of (by rfl) ht (by decide +kernel) (pa_cons (pv 3) pa_nil))) pa_nil))))))), ?_⟩
    cases hs with
    | none =>
      obtain rfl : hv = .non := g
      refine ⟨_, rfl, _, rfl, ?_⟩
      exact iteT (k H .non (Grew.refl hP) rfl)
    | some ps =>
      obtain ⟨l, xs, rfl, hS, hG⟩ := g
      obtain ⟨ok4, okc⟩ := ok
      have hlen := Paired.len hG
      refine ⟨_, rfl, _, rfl, ?_⟩
      refine iteF ?_
      refine ⟨_, rfl, l, _, rfl, .inr hS, _, _, rfl, rfl, _, rfl, if_f (decide_eq_false (by omega)) ?_⟩
      refine ⟨1, rfl, ?_⟩
      refine ⟨_, rfl, l, rfl, ⟨_, hS⟩, for_tup (K := K) (a := l) (xs := xs) (fun i σ H' => H' = H ∧ ∃ v, σ = [some (.ref l), some (.int d), some (.int (lastOf (-1) ps i)), v])
        ⟨rfl, none, rfl⟩ (fun i σ H' _ ⟨e, _⟩ => by rw [e]; exact hS) ?_ ?_⟩
      · rintro i y σ H' hi ⟨rfl, v, rfl⟩
        obtain ⟨p, hp, t, rfl, hT⟩ := Paired.at hG hi
        obtain ⟨o1, o2, o3⟩ := hoursOk_at okc hp
        have e0 : atI [V.int p.1, V.int p.2] 0 = some (.int p.1) := rfl
        have e1 : atI [V.int p.1, V.int p.2] 1 = some (.int p.2) := rfl
        refine ⟨_, rfl, t, _, rfl, .inr hT, rfl, _, rfl, if_f (by rfl) ?_⟩
        refine ⟨_, rfl, _, rfl, t, _, 0, _, rfl, rfl, hT, e0, _, _, rfl, rfl, _, rfl, if_t (decide_eq_true o1) ⟨_, rfl, t, _, 1, _, rfl, rfl, hT, e1, _, _, rfl, rfl, _, rfl, if_t (decide_eq_true o2) ⟨_, rfl, _, _, rfl, rfl, _, rfl, ?_⟩⟩⟩
        rw [decide_eq_true o3]
        refine iteF ⟨_, rfl, t, _, 1, _, rfl, rfl, hT, e1, rfl, some (.ref t), ?_⟩
        rw [lastOf_succ hp]
        rfl
      · rintro σ H' ⟨rfl, v, rfl⟩
        refine ⟨_, rfl, l, rfl, ⟨_, hS⟩, fun D nD => lc_tup (K := K) (a := l) (xs := xs) (fun i H1 => Grew P H' H1 ∧ H1 D = some (.lst (xs.take i)))
          ⟨Grew.new hP nD, upd_same⟩ (fun i H1 _ p => p.1.sqT hP hS) (fun i x H1 hx p => ?_) (fun H1 p => ?_)⟩
        · obtain ⟨g, hD⟩ := p
          obtain ⟨p, hp, t, rfl, hT⟩ := Paired.at hG hx
          refine ⟨rfl, _, rfl, t, _, rfl, .inr ⟨g.sqT hP hT, _, hD, ?_, g.write hD (fun _ z => by cases z) nD, ?_⟩⟩
          · rw [List.length_take, sizeLine_eq]; omega
          · rw [upd_same, List.take_succ, hx]; rfl
        · obtain ⟨g, hD⟩ := p
          rw [List.take_length] at hD
          refine ⟨D, _, rfl, .inl ⟨SqL.of hD, fun q nq => ?_⟩⟩
          have gq := g.put (o := .tup xs) nq
          exact k _ _ gq ⟨q, xs, rfl, SqT.of upd_same, Paired.map' hG fun a b m => m.keep (KeepT.grew gq hP)⟩
end
end W

set_option Elab.async false
set_option linter.all false
set_option maxRecDepth 100000
set_option maxHeartbeats 400000
namespace W
open PySem PySem.Spec PyProof.Rows L2 GxR MyG MyS
/-! ### _checked_names, _checked_road -/
def spNames (K : PySem.W.Frag) (P : Addr) : Sp := fun vs H Q _ => ∃ (a : Addr) (ns : List Str) (lo hi : Int), vs = [.ref a, .int lo, .int hi] ∧ SqL K H a (ns.map V.str) ∧ lo ≤ ns.length ∧ (ns.length : Int) ≤ hi ∧ ns.length ≤ 1000 ∧ ns.all isNm = true ∧ ns.Nodup ∧ TabG H P ∧
  ∀ H' p ys, Grew P H H' → H p = none → H' p = some (.tup (ys.map V.str)) → ys.Perm ns → Asc ys → Q (.ref p) H'
section
variable {Pg : Program} {w : World} {K : PySem.W.Frag} {mg : Str → Option Value} {base : Heap} {C P : Addr}
theorem scNames : FnScope ["names", "least", "most", "name"] ["names", "least", "most"] (defScope sNames) := ⟨rfl, rfl, rfl, by decide +kernel, rfl, by decide +kernel, by decide +kernel⟩
theorem ok_names {f fN fD : Addr} {fd fdN fdD : FuncData} (F : Fun K "_checked_names" "_checked_names" sNames f fd) (hl : mg "len" = none) (ht : mg "tuple" = none) (hs : mg "sorted" = none)
    (GN : FnOk Pg w K mg base CX0 2 fN fdN ["text"] (spIsName P)) (gN : mg "is_name" = some (.ref fN)) (kN : PySem.W.keepIn K (.ref fN) = true) (bN : Binds K fdN ["text"] [])
    (GD : FnOk Pg w K mg base CX0 1 fD fdD ["parts"] (spDiff K)) (gD : mg "_check_different" = some (.ref fD)) (kD : PySem.W.keepIn K (.ref fD) = true) (bD : Binds K fdD ["parts"] []) :
    FnOk Pg w K mg base CX0 3 f fd ["names", "least", "most"] (spNames K P) := by
  refine F.ok scNames (fun vs H Q E h => ?_) (fun cdv A outer s H vs Q E hr h => ?_)
  · obtain ⟨a, ns, lo, hi, rfl, _⟩ := h
    rfl
  · obtain ⟨a, ns, lo, hi, rfl, hS, hlo, hhi, h1, hz, nd, hP, kQ⟩ := h
    have hr1 : Room 1 _ := hr.mono (by decide)
    refine ⟨_, pss_cons (ps_if (pt_not (pt_chain op_le op_le (pv 1) (pe_callB call_len_seq (by rfl) hl PySem.boot_len (pa_cons (pv 0) pa_nil)) (pv 2))) (pss_one ps_never) pss_nil)
      (pss_cons (ps_for PassesOwn.never rfl (pi_list (pv 0)) (pg_name (i := 3) scNames.nd rfl (Or.inl rfl))
        (pss_one (ps_if (pt_not (pt_val (pe_call GN hr (by rfl) gN kN bN .nil pass0 (pa_cons (pv 3) pa_nil)))) (pss_one ps_never) pss_nil)))
      (pss_cons (ps_expr (pe_call GD hr1 (by rfl) gD kD bD .nil pass0 (pa_cons (pv 0) pa_nil)))
      (pss_one (ps_ret (pe_callTy call_tuple_of (by rfl) ht (by decide +kernel) (pa_cons (pe_callB cr_sortSQ (by rfl) hs (by decide +kernel) (pa_cons (pv 0) pa_nil)) pa_nil)))))), ?_⟩
    refine ⟨_, rfl, _, rfl, a, _, rfl, .inl hS, _, _, rfl, rfl, _, rfl, ?_⟩
    rw [List.length_map]
    refine if_t (decide_eq_true hlo) ⟨_, rfl, _, _, rfl, rfl, _, rfl, ?_⟩
    rw [decide_eq_true hhi]
    refine iteF ⟨_, rfl, a, rfl, ⟨_, hS⟩, for_list (K := K) (a := a) (xs := ns.map V.str) (fun i σ H' => ∃ v, σ = [some (.ref a), some (.int lo), some (.int hi), v] ∧ Grew P H H')
      ⟨none, rfl, Grew.refl hP⟩ (fun i σ H' _ ⟨_, _, g⟩ => g.sqL hP hS) ?_ ?_⟩
    · rintro i y σ H' hi ⟨v, rfl, g⟩
      obtain ⟨z, hzi, rfl⟩ : ∃ z, ns[i]? = some z ∧ y = V.str z := by
        rw [List.getElem?_map] at hi
        obtain ⟨z, e1, e2⟩ := Option.map_eq_some_iff.mp hi
        exact ⟨z, e1, e2.symm⟩
      have hn : isNm z = true := List.all_eq_true.mp hz z (List.mem_of_getElem? hzi)
      have hzl := isNm_len hn
      refine ⟨_, rfl, z, rfl, by rw [sizeLine_eq]; omega, g.tab, fun H2 t2 => ⟨_, rfl, ?_⟩⟩
      have g2 := g.trans (Grew.of t2)
      rw [hn]
      exact iteF ⟨_, rfl, g2⟩
    · rintro σ H' ⟨v, rfl, g⟩
      refine ⟨_, rfl, a, rfl, .inl ⟨ns, .inl (g.sqL hP hS), h1, nd⟩, ?_⟩
      refine ⟨_, rfl, a, ns, rfl, .inl (g.sqL hP hS), fun ys l hp hso hl => ⟨l, _, rfl, .inl ⟨SqL.of upd_same, fun p hp2 => ?_⟩⟩⟩
      have gl := g.put (o := .lst (ys.map V.str)) hl
      exact kQ _ p ys (gl.put hp2) (gl.free hp2) upd_same hp hso
/-- the road leads from place to place, for kinds of the map -/
structure RoadOk (d : Int) (ps ks : List Str) (r : RoadD) : Prop where
  s : r.start ∈ ps
  g : r.goal ∈ ps
  m1 : 1 ≤ r.minutes
  m2 : r.minutes ≤ 1000
  u : ∀ k ∈ r.users, k ∈ ks
  un : r.users.length ≤ 4
  ud : r.users.Nodup
  h : HoursOk d r.hours
/-- the road as the map keeps it -/
def Kept (r r' : RoadD) : Prop := r'.name = r.name ∧ r'.start = r.start ∧ r'.goal = r.goal ∧ r'.minutes = r.minutes ∧ r'.hours = r.hours ∧ r'.users.Perm r.users ∧ Asc r'.users
def spRoad (K : PySem.W.Frag) (P : Addr) : Sp := fun vs H Q _ => ∃ (x : V) (pl ki : Addr) (d : Int) (ps ks : List Str) (r : RoadD), vs = [x, .int d, .ref pl, .ref ki] ∧ GRoad K H r x ∧ SqT K H pl (ps.map V.str) ∧ SqT K H ki (ks.map V.str) ∧ RoadOk d ps ks r ∧ TabG H P ∧
  ∀ H' p q h r', Grew P H H' → Kept r r' → H p = none → H' p = some (.tup [.str r'.name, .str r'.start, .str r'.goal, .int r'.minutes, .ref q, h]) → H' q = some (.tup (r'.users.map V.str)) → GHours K H' r'.hours h → Q (.ref p) H'
theorem scRoad : FnScope ["road", "day", "places", "kinds", "name", "start", "end", "minutes", "users", "hours", "kind"] ["road", "day", "places", "kinds"] (defScope sRoad) := ⟨rfl, rfl, rfl, by decide +kernel, rfl, by decide +kernel, by decide +kernel⟩
theorem inV_str {x : Str} {xs : List Str} (h : x ∈ xs) : inV (.str x) (xs.map V.str) = true := by
  unfold inV
  rw [List.any_map, List.any_eq_true]
  exact ⟨x, h, by simp [eqV]⟩
theorem flat_strs (xs : List Str) : (xs.map V.str).all flatV = true := by
  rw [List.all_map]
  exact List.all_eq_true.mpr fun _ _ => rfl
theorem ok_road {f fH fD : Addr} {fd fdH fdD : FuncData} {t1 : Tok} (F : Fun K "_checked_road" "_checked_road" sRoad f fd) (ht : mg "tuple" = none) (hs : mg "sorted" = none) (hm : mg "MOST_MINUTES" = some (.int 1000 t1))
    (GD : FnOk Pg w K mg base CX0 1 fD fdD ["parts"] (spDiff K)) (gD : mg "_check_different" = some (.ref fD)) (kD : PySem.W.keepIn K (.ref fD) = true) (bD : Binds K fdD ["parts"] [])
    (GH : FnOk Pg w K mg base CX0 1 fH fdH ["hours", "day"] (spHours K P)) (gH : mg "_checked_hours" = some (.ref fH)) (kH : PySem.W.keepIn K (.ref fH) = true) (bH : Binds K fdH ["hours", "day"] []) :
    FnOk Pg w K mg base CX0 2 f fd ["road", "day", "places", "kinds"] (spRoad K P) := by
  refine F.ok scRoad (fun vs H Q E h => ?_) (fun cdv A outer s H vs Q E hr h => ?_)
  · obtain ⟨x, pl, ki, d, ps, ks, r, rfl, _⟩ := h
    rfl
  · obtain ⟨x, pl, ki, d, ps, ks, r, rfl, ⟨t, u, h, rfl, hT, hU, hH⟩, hPl, hKi, ok, hP, k⟩ := h
    refine ⟨_, pss_cons (ps_asg (pv 0) (pg_tup (by rfl) (pgs_cons (pg_name (i := 4) scRoad.nd rfl (.inl rfl)) (pgs_cons (pg_name (i := 5) scRoad.nd rfl (.inl rfl)) (pgs_cons (pg_name (i := 6) scRoad.nd rfl (.inl rfl))
        (pgs_cons (pg_name (i := 7) scRoad.nd rfl (.inl rfl)) (pgs_cons (pg_name (i := 8) scRoad.nd rfl (.inl rfl)) (pgs_cons (pg_name (i := 9) scRoad.nd rfl (.inl rfl)) pgs_nil))))))))
      (pss_cons (ps_if (PW.pt (pw_or (pt_cmpR op_notIn_seq (pv 5) (pv 2) (by rfl)) (pw_or1 (pt_cmpR op_notIn_seq (pv 6) (pv 2) (by rfl))))) (pss_one ps_never) pss_nil)
      (pss_cons (ps_if (pt_not (pt_chain op_le op_le pe_int (pv 7) (pe_gI hm))) (pss_one ps_never) pss_nil)
      (pss_cons (ps_for PassesOwn.never rfl (pi_tup (pv 8)) (pg_name (i := 10) scRoad.nd rfl (Or.inl rfl)) (pss_one (ps_if (pt_cmpR op_notIn_seq (pv 10) (pv 3) (by rfl)) (pss_one ps_never) pss_nil)))
      (pss_cons (ps_expr (pe_call GD hr (by rfl) gD kD bD .nil pass0 (pa_cons (pv 8) pa_nil)))
      (pss_one (ps_ret (pe_tup (pa_cons (pv 4) (pa_cons (pv 5) (pa_cons (pv 6) (pa_cons (pv 7) (pa_cons (pe_callTy call_tuple_of (by rfl) ht (by decide +kernel) (pa_cons (pe_callB cr_sortSQ (by rfl) hs (by decide +kernel) (pa_cons (pv 8) pa_nil)) pa_nil))
        (pa_cons (pe_call GH hr (by rfl) gH kH bH .nil pass0 (pa_cons (pv 9) (pa_cons (pv 1) pa_nil))) pa_nil))))))))))))), ?_⟩
    refine ⟨_, rfl, t, _, rfl, hT, rfl, _, _, rfl, _, _, rfl, _, _, rfl, _, _, rfl, _, _, rfl, _, _, rfl, rfl, ?_⟩
    have i1 := inV_str ok.s
    have i2 := inV_str ok.g
    refine ⟨_, rfl, _, rfl, pl, _, rfl, .inr hPl, rfl, flat_strs _, _, rfl, ?_⟩
    refine if_f (by simp [i1]) ?_
    refine ⟨_, rfl, _, rfl, pl, _, rfl, .inr hPl, rfl, flat_strs _, _, rfl, ?_⟩
    refine if_f (by simp [i2]) ?_
    refine ⟨_, rfl, _, _, rfl, rfl, _, rfl, if_t (decide_eq_true ok.m1) ⟨_, _, rfl, rfl, _, rfl, ?_⟩⟩
    rw [decide_eq_true ok.m2]
    refine iteF ?_
    refine ⟨_, rfl, u, rfl, ⟨_, hU⟩, for_tup (K := K) (a := u) (xs := r.users.map V.str) (fun i σ H' => H' = H ∧ ∃ v, σ = [some (.ref t), some (.int d), some (.ref pl), some (.ref ki), some (.str r.name), some (.str r.start), some (.str r.goal), some (.int r.minutes), some (.ref u), some h, v])
      ⟨rfl, none, rfl⟩ (fun i σ H' _ ⟨e, _⟩ => by rw [e]; exact hU) ?_ ?_⟩
    · rintro i y σ H' hi ⟨rfl, v, rfl⟩
      obtain ⟨z, hzi, rfl⟩ : ∃ z, r.users[i]? = some z ∧ y = V.str z := by
        rw [List.getElem?_map] at hi
        obtain ⟨z, e1, e2⟩ := Option.map_eq_some_iff.mp hi
        exact ⟨z, e1, e2.symm⟩
      have i3 := inV_str (ok.u z (List.mem_of_getElem? hzi))
      refine ⟨_, rfl, _, rfl, ki, _, rfl, .inr hKi, rfl, flat_strs _, _, rfl, ?_⟩
      refine if_f (by simp [i3]) ⟨rfl, _, rfl⟩
    · rintro σ H' ⟨rfl, v, rfl⟩
      have un := ok.un
      refine ⟨_, rfl, u, rfl, .inl ⟨r.users, .inr hU, by omega, ok.ud⟩, ?_⟩
      refine ⟨_, rfl, _, rfl, _, rfl, _, rfl, _, rfl, u, r.users, rfl, .inr hU, fun ys l hp hso hl => ⟨l, _, rfl, .inl ⟨SqL.of upd_same, fun q hq => ?_⟩⟩⟩
      have gl := Grew.new hP (o := .lst (ys.map V.str)) hl
      have gq := gl.put (o := .tup (ys.map V.str)) hq
      refine ⟨_, rfl, _, rfl, d, r.hours, h, rfl, hH.keep (KeepT.grew gq hP), ok.h, gq.tab, fun H2 v' g2 hv => ⟨by show 6 ≤ sizeLine; decide, fun p hp2 => ?_⟩⟩
      have g3 := gq.trans g2
      have gp := g3.put (o := .tup [.str r.name, .str r.start, .str r.goal, .int r.minutes, .ref q, v']) hp2
      have e2 : H2 q = some (.tup (ys.map V.str)) := g2.tup gq.tab upd_same
      exact k _ p q v' { r with users := ys } gp ⟨rfl, rfl, rfl, rfl, rfl, hp, hso⟩ (g3.free hp2) upd_same (by rw [upd_ne (ne_of_none e2 hp2)]; exact e2) (hv.keep (KeepT.new hp2))
end
end W

set_option Elab.async false
set_option linter.all false
set_option maxRecDepth 100000
set_option maxHeartbeats 400000
namespace W
open PySem PySem.Spec PyProof.Rows L2 GxR MyG MyS
/-! ### _checked_roads -/
/-- a road that was made here: its own tuples stand tracked, none was there at H0 -/
def MadeR (K : PySem.W.Frag) (H0 H : Hp) (r : RoadD) (v : V) : Prop := ∃ r' p q h, v = .ref p ∧ H0 p = none ∧ Kept r r' ∧ H p = some (.tup [.str r'.name, .str r'.start, .str r'.goal, .int r'.minutes, .ref q, h]) ∧ H q = some (.tup (r'.users.map V.str)) ∧ GHours K H r'.hours h
/-- the road v at H -/
def RoadAt (K : PySem.W.Frag) (H : Hp) (r : RoadD) (v : V) : Prop := ∃ p q h, v = .ref p ∧ H p = some (.tup [.str r.name, .str r.start, .str r.goal, .int r.minutes, .ref q, h]) ∧ H q = some (.tup (r.users.map V.str)) ∧ GHours K H r.hours h
theorem RoadAt.grew {K : PySem.W.Frag} {P : Addr} {H H' : Hp} {r : RoadD} {v : V} (g : Grew P H H') (h : TabG H P) (m : RoadAt K H r v) : RoadAt K H' r v := by
  obtain ⟨p, q, hv, e, e1, e2, e3⟩ := m
  exact ⟨p, q, hv, e, g.tup h e1, g.tup h e2, e3.keep (KeepT.grew g h)⟩
theorem RoadAt.upd {K : PySem.W.Frag} {H : Hp} {D : Addr} {o : HO} {r : RoadD} {v : V} (nt : ∀ xs, H D ≠ some (.tup xs)) (kt : KeepT K H (L2.upd H D o)) (m : RoadAt K H r v) : RoadAt K (L2.upd H D o) r v := by
  obtain ⟨p, q, hv, e, e1, e2, e3⟩ := m
  exact ⟨p, q, hv, e, by rw [upd_ne (fun z => nt _ (z ▸ e1))]; exact e1, by rw [upd_ne (fun z => nt _ (z ▸ e2))]; exact e2, e3.keep kt⟩
theorem RoadAt.road {K : PySem.W.Frag} {H : Hp} {r : RoadD} {v : V} (m : RoadAt K H r v) : GRoad K H r v := by
  obtain ⟨p, q, hv, e, e1, e2, e3⟩ := m
  exact ⟨p, q, hv, e, SqT.of e1, SqT.of e2, e3⟩
theorem ex_list {α β : Type} {F : α → β → Prop} : ∀ (l : List α), (∀ a ∈ l, ∃ b, F a b) → ∃ m, Paired F l m
  | [], _ => ⟨[], .nil⟩
  | a :: l, h => by
    obtain ⟨b, hb⟩ := h a List.mem_cons_self
    obtain ⟨m, hm⟩ := ex_list l fun a ha => h a (List.mem_cons_of_mem _ ha)
    exact ⟨b :: m, .cons hb hm⟩
theorem Paired.mem {α β : Type} {F : α → β → Prop} : ∀ {l : List α} {m : List β} {b : β}, Paired F l m → b ∈ m → ∃ a ∈ l, F a b
  | _, _, _, .cons r t, h => by
    rcases List.mem_cons.mp h with e | h
    · exact ⟨_, List.mem_cons_self, e ▸ r⟩
    · obtain ⟨a, ha, f⟩ := Paired.mem t h
      exact ⟨a, List.mem_cons_of_mem _ ha, f⟩
theorem Paired.mem' {α β : Type} {F : α → β → Prop} : ∀ {l : List α} {m : List β} {a : α}, Paired F l m → a ∈ l → ∃ b ∈ m, F a b
  | _, _, _, .cons r t, h => by
    rcases List.mem_cons.mp h with e | h
    · exact ⟨_, List.mem_cons_self, e ▸ r⟩
    · obtain ⟨a, ha, f⟩ := Paired.mem' t h
      exact ⟨a, List.mem_cons_of_mem _ ha, f⟩
theorem Paired.comp {α β γ : Type} {F : α → β → Prop} {G : β → γ → Prop} {E : α → γ → Prop} (h : ∀ a b c, F a b → G b c → E a c) : ∀ {l : List α} {m : List β} {n : List γ}, Paired F l m → Paired G m n → Paired E l n
  | _, _, _, .nil, .nil => .nil
  | _, _, _, .cons r t, .cons r' t' => .cons (h _ _ _ r r') (Paired.comp h t t')
/-- the values in another order: the things behind them too -/
theorem Paired.perm {α β : Type} {F : α → β → Prop} {m m' : List β} (p : m'.Perm m) : ∀ {l : List α}, Paired F l m → ∃ l' : List α, l'.Perm l ∧ Paired F l' m' := by
  induction p with
  | nil => exact fun h => ⟨_, List.Perm.refl _, h⟩
  | cons x p ih =>
    intro l h
    cases h with
    | cons r t =>
      obtain ⟨l', q1, q2⟩ := ih t
      exact ⟨_ :: l', q1.cons _, .cons r q2⟩
  | swap x y l0 =>
    intro l h
    cases h with
    | cons r t =>
      cases t with
      | cons r2 t => exact ⟨_ :: _ :: _, List.Perm.swap .., .cons r2 (.cons r t)⟩
  | trans p q ih1 ih2 =>
    intro l h
    obtain ⟨l1, a1, a2⟩ := ih2 h
    obtain ⟨l2, b1, b2⟩ := ih1 a2
    exact ⟨l2, b1.trans a1, b2⟩
theorem Paired.pair {α β : Type} {F : α → β → Prop} {R : β → β → Prop} {S : α → α → Prop} (h : ∀ a b x y, F a x → F b y → R x y → S a b) : ∀ {l : List α} {m : List β}, Paired F l m → m.Pairwise R → l.Pairwise S
  | _, _, .nil, _ => List.Pairwise.nil
  | _, _, .cons r t, p => by
    have q := List.pairwise_cons.mp p
    refine List.pairwise_cons.mpr ⟨fun a ha => ?_, Paired.pair h t q.2⟩
    obtain ⟨b, hb, f⟩ := Paired.mem' t ha
    exact h _ _ _ _ r f (q.1 b hb)
theorem Paired.inj {α β γ : Type} {F : α → β → Prop} {f : α → γ} {l : List α} {m : List β} (h : Paired F l m) (nd : (l.map f).Nodup) {x y : β} (hx : x ∈ m) (hy : y ∈ m) (hxy : ∀ a b, F a x → F b y → f a = f b) : x = y := by
  obtain ⟨i, hi, ei⟩ := List.getElem_of_mem hx
  obtain ⟨j, hj, ej⟩ := List.getElem_of_mem hy
  obtain ⟨a, ha, fa⟩ := Paired.at h (List.getElem?_eq_some_iff.mpr ⟨hi, ei⟩)
  obtain ⟨b, hb, fb⟩ := Paired.at h (List.getElem?_eq_some_iff.mpr ⟨hj, ej⟩)
  have e := hxy a b fa fb
  obtain ⟨hi', ea⟩ := List.getElem?_eq_some_iff.mp ha
  obtain ⟨hj', eb⟩ := List.getElem?_eq_some_iff.mp hb
  have ij : i = j := by
    rcases Nat.lt_trichotomy i j with c | c | c
    · exact absurd (by rw [List.getElem_map, List.getElem_map, ea, eb]; exact e) (List.pairwise_iff_getElem.mp nd i j (by rw [List.length_map]; exact hi') (by rw [List.length_map]; exact hj') c)
    · exact c
    · exact absurd (by rw [List.getElem_map, List.getElem_map, ea, eb]; exact e.symm) (List.pairwise_iff_getElem.mp nd j i (by rw [List.length_map]; exact hj') (by rw [List.length_map]; exact hi') c)
  subst ij
  exact ei.symm.trans ej
theorem kept_names : ∀ {rs ms : List RoadD}, Paired Kept rs ms → ms.map (·.name) = rs.map (·.name)
  | _, _, .nil => rfl
  | _, _, .cons r t => by
    rw [List.map_cons, List.map_cons, kept_names t, r.1]
/-- the name of a road's tuple -/
def nameAt (H : Hp) : V → Str
  | .ref t => match H t with
    | some (.tup (.str n :: _)) => n
    | _ => Str.empty
  | _ => Str.empty
theorem RoadAt.name {K : PySem.W.Frag} {H : Hp} {r : RoadD} {v : V} (m : RoadAt K H r v) : nameAt H v = r.name := by
  obtain ⟨p, q, hv, e, e1, _⟩ := m
  subst e
  unfold nameAt
  simp only [e1]
/-- the roads as the map keeps them: the same ones, each as it is kept, by their names -/
def KeptAll (rs rs' : List RoadD) : Prop := ∃ l, l.Perm rs' ∧ Paired Kept rs l
def AscR (rs : List RoadD) : Prop := rs.Pairwise fun a b => slt b.name a.name = false
structure RoadsOk (d : Int) (ps ks : List Str) (rs : List RoadD) : Prop where
  len : rs.length ≤ 60
  nm : (rs.map (·.name)).all isNm = true
  nd : (rs.map (·.name)).Nodup
  ok : ∀ r ∈ rs, RoadOk d ps ks r
def spRoads (K : PySem.W.Frag) (P : Addr) : Sp := fun vs H Q _ => ∃ (a pl ki : Addr) (d : Int) (ps ks : List Str) (rs : List RoadD) (xs : List V), vs = [.ref a, .int d, .ref pl, .ref ki] ∧ SqL K H a xs ∧ Paired (GRoad K H) rs xs ∧ SqT K H pl (ps.map V.str) ∧ SqT K H ki (ks.map V.str) ∧ RoadsOk d ps ks rs ∧ TabG H P ∧
  ∀ H' p rs' ys, Grew P H H' → KeptAll rs rs' → AscR rs' → H p = none → H' p = some (.tup ys) → Paired (RoadAt K H') rs' ys → Q (.ref p) H'
section
variable {Pg : Program} {w : World} {K : PySem.W.Frag} {mg : Str → Option Value} {base : Heap} {C P : Addr}
abbrev nRoads : List Str := ["roads", "day", "places", "kinds", "road", "kept"]
theorem scRoads : FnScope nRoads ["roads", "day", "places", "kinds"] (defScope sRoads) := ⟨rfl, rfl, rfl, by decide +kernel, rfl, by decide +kernel, by decide +kernel⟩
theorem ok_roads {f fN fR : Addr} {fd fdN fdR : FuncData} {t1 t2 t3 : Tok} (F : Fun K "_checked_roads" "_checked_roads" sRoads f fd) (hl : mg "len" = none) (ht : mg "tuple" = none) (hs : mg "sorted" = none)
    (hp : mg "PARTS" = some (.int 6 t1)) (hn : mg "NAME" = some (.int 0 t2)) (hm : mg "MOST_ROADS" = some (.int 60 t3))
    (GN : FnOk Pg w K mg base CX0 3 fN fdN ["names", "least", "most"] (spNames K P)) (gN : mg "_checked_names" = some (.ref fN)) (kN : PySem.W.keepIn K (.ref fN) = true) (bN : Binds K fdN ["names", "least", "most"] [])
    (GR : FnOk Pg w K mg base CX0 2 fR fdR ["road", "day", "places", "kinds"] (spRoad K P)) (gR : mg "_checked_road" = some (.ref fR)) (kR : PySem.W.keepIn K (.ref fR) = true) (bR : Binds K fdR ["road", "day", "places", "kinds"] []) :
    FnOk Pg w K mg base CX0 4 f fd ["roads", "day", "places", "kinds"] (spRoads K P) := by
  refine F.ok scRoads (fun vs H Q E h => ?_) (fun cdv A outer s H vs Q E hr h => ?_)
  · obtain ⟨a, pl, ki, d, ps, ks, rs, xs, rfl, _⟩ := h
    rfl
  · obtain ⟨a, pl, ki, d, ps, ks, rs, xs, rfl, hS, hG, hPl, hKi, ok, hP, k⟩ := h
    have hr2 : Room 2 _ := hr.mono (by decide)
    refine ⟨_, pss_cons (ps_for PassesOwn.never rfl (pi_list (pv 0)) (pg_name (i := 4) scRoads.nd rfl (Or.inl rfl)) (pss_one (ps_if (pt_cmpR op_ne (pe_callB call_len_seq (by rfl) hl PySem.boot_len (pa_cons (pv 4) pa_nil)) (pe_gI hp) (nomark _)) (pss_one ps_never) pss_nil)))
      (pss_cons (ps_expr (pe_call GN hr (by rfl) gN kN bN .nil pass0 (pa_cons (pe_lc (own := [("road", 4)]) (g := gName 4) (tt := tYes) rfl scRoads.nd (pi_list (pv 0)) (blkOk_by (N := nRoads) (sc := defScope sRoads) (by decide +kernel)) (fun _ _ _ _ _ => pg_name (i := 4) scRoads.nd rfl (Or.inl rfl)) (fun _ _ _ _ _ => pts_nil)
          (fun _ _ _ _ _ => pe_ix (r := rIxT K) ix_tup (pv 4) (pe_gI hn) (fun _ _ => rfl))) (pa_cons pe_int (pa_cons (pe_gI hm) pa_nil)))))
      (pss_cons (ps_setLc (i := 5) (own := [("road", 4)]) (g := gName 4) (tt := tYes) rfl scRoads.nd rfl rfl (sw_true rfl rfl rfl (by decide +kernel)) (pi_list (pv 0)) (blkOk_by (N := nRoads) (sc := defScope sRoads) (by decide +kernel)) (fun _ _ _ _ _ => pg_name (i := 4) scRoads.nd rfl (Or.inl rfl)) (fun _ _ _ _ _ => pts_nil)
          (fun _ _ _ _ _ => pe_call GR hr2 (by rfl) gR kR bR .nil pass0 (pa_cons (pv 4) (pa_cons (pv 1) (pa_cons (pv 2) (pa_cons (pv 3) pa_nil))))))
      (pss_one (ps_ret (pe_callTy call_tuple_of (by rfl) ht (by decide +kernel) (pa_cons (pe_callB cr_sortR (by rfl) hs (by decide +kernel) (pa_cons (pv 5) pa_nil)) pa_nil)))))), ?_⟩
    have hln : rs.length = xs.length := Paired.len hG
    have hl60 := ok.len
    refine ⟨_, rfl, a, rfl, ⟨_, hS⟩, for_list (K := K) (a := a) (xs := xs) (fun i σ H' => H' = H ∧ ∃ v, σ = [some (.ref a), some (.int d), some (.ref pl), some (.ref ki), v, none])
      ⟨rfl, none, rfl⟩ (fun i σ H' _ ⟨e, _⟩ => by rw [e]; exact hS) ?_ ?_⟩
    · rintro i y σ H' hi ⟨rfl, v, rfl⟩
      obtain ⟨r, hr, t, u, h, rfl, hT, _⟩ := Paired.at hG hi
      refine ⟨_, rfl, t, _, rfl, .inr hT, rfl, _, rfl, ?_⟩
      exact if_f (by rfl) ⟨rfl, _, rfl⟩
    · rintro σ H' ⟨rfl, v, rfl⟩
      refine ⟨_, rfl, a, rfl, ⟨_, hS⟩, fun D nD => lc_list (K := K) (a := a) (xs := xs) (fun i H1 => Grew P H' H1 ∧ H1 D = some (.lst (((rs.map (·.name)).take i).map V.str)))
        ⟨Grew.new hP nD, upd_same⟩ (fun i H1 _ p => p.1.sqL hP hS) (fun i x H1 hx p => ?_) (fun H1 p => ?_)⟩
      · obtain ⟨g, hD⟩ := p
        obtain ⟨r, hr, t, u, h, rfl, hT, _⟩ := Paired.at hG hx
        refine ⟨rfl, _, rfl, t, _, 0, .str r.name, rfl, rfl, g.sqT hP hT, rfl, _, hD, ?_, ?_, ?_⟩
        · rw [List.length_map, List.length_take, List.length_map, sizeLine_eq]
          omega
        · exact g.write hD (fun _ z => by cases z) nD
        · rw [upd_same, List.take_succ, List.getElem?_map, hr, List.map_append]
          rfl
      · obtain ⟨g, hD⟩ := p
        rw [← hln, ← List.length_map (f := (·.name)), List.take_length] at hD
        refine ⟨D, rs.map (·.name), 0, 60, rfl, SqL.of hD, by omega, by rw [List.length_map]; omega, by rw [List.length_map]; omega, ok.nm, ok.nd, g.tab, fun H2 p2 ys2 g2 np e2 _ _ => ?_⟩
        have g3 := g.trans g2
        refine ⟨_, rfl, a, rfl, ⟨_, g3.sqL hP hS⟩, fun D2 nD2 => lc_list (K := K) (a := a) (xs := xs) (fun i H1 => Grew P H' H1 ∧ ∃ acc ms, H1 D2 = some (.lst acc) ∧ Paired Kept (rs.take i) ms ∧ Paired (RoadAt K H1) ms acc)
          ⟨g3.put nD2, [], [], upd_same, .nil, .nil⟩ (fun i H1 _ p => p.1.sqL hP hS) (fun i x H1 hx p => ?_) (fun H1 p => ?_)⟩
        · obtain ⟨g4, acc, ms, hD4, hk4, hm4⟩ := p
          obtain ⟨r, hr, hgr⟩ := Paired.at hG hx
          have nD2' := g3.free nD2
          refine ⟨rfl, _, rfl, _, rfl, _, rfl, _, rfl, x, pl, ki, d, ps, ks, r, rfl, hgr.keep (KeepT.grew g4 hP), g4.sqT hP hPl, g4.sqT hP hKi, ok.ok r (List.mem_of_getElem? hr), g4.tab, fun H5 p5 q5 h5 r5 g5 kp n5 e5 f5 hh5 => ?_⟩
          have hD5 := g5.lst g4.tab hD4
          have g45 := g4.trans g5
          refine ⟨acc, hD5, ?_, g45.write hD5 (fun _ z => by cases z) nD2', acc ++ [.ref p5], ms ++ [r5], upd_same, ?_, ?_⟩
          · rw [← Paired.len hm4, ← Paired.len hk4, List.length_take, sizeLine_eq]
            omega
          · rw [List.take_succ, hr]
            exact Paired.snoc hk4 kp
          · have up : ∀ {r : RoadD} {v : V}, RoadAt K H5 r v → RoadAt K (L2.upd H5 D2 (.lst (acc ++ [.ref p5]))) r v := fun m => m.upd (fun xs z => by rw [hD5] at z; cases z) (KeepT.lst hD5)
            exact Paired.snoc (Paired.map' hm4 fun r v m => up (m.grew g5 g4.tab)) (up ⟨p5, q5, h5, rfl, e5, f5, hh5⟩)
        · obtain ⟨g4, acc, ms, hD4, hk4, hm4⟩ := p
          rw [← hln, List.take_length] at hk4
          have nd : (ms.map (·.name)).Nodup := by rw [kept_names hk4]; exact ok.nd
          refine ⟨_, rfl, D2, acc, nameAt H1, rfl, SqL.of hD4, fun x hx => ?_, fun x hx y hy e => Paired.inj hm4 nd hx hy fun r r' m m' => by rw [← m.name, ← m'.name]; exact e, fun ys l hpm hso hl => ⟨l, _, rfl, .inl ⟨SqL.of upd_same, fun p hp2 => ?_⟩⟩⟩
          · obtain ⟨r, _, m⟩ := Paired.mem hm4 hx
            have nm := m.name
            obtain ⟨p, q, hv, e, e1, _⟩ := m
            exact ⟨p, _, e, by rw [nm]; exact SqT.of e1⟩
          · obtain ⟨rs', pm, hr'⟩ := Paired.perm hpm hm4
            have gl := Grew.new g4.tab (o := .lst ys) hl
            have gp := gl.put (o := .tup ys) hp2
            exact k _ p rs' ys (g4.trans gp) ⟨ms, pm.symm, hk4⟩ (Paired.pair (fun a b x y m m' e => by rw [m.name, m'.name] at e; exact e) hr' hso) (g4.free (gl.free hp2)) upd_same (Paired.map' hr' fun _ _ m => m.grew gp g4.tab)
end
end W

set_option Elab.async false
set_option linter.all false
set_option maxRecDepth 100000
set_option maxHeartbeats 400000
namespace W
open PySem PySem.Spec PyProof.Rows L2 GxR MyG MyS
/-! ### _checked_bars -/
theorem u1 {n : Nat} (h : n + 64 < cLine) : n + 1 < cLine := by omega
def GBar (H : Hp) (b : Str × Str) (v : V) : Prop := ∃ t, v = .ref t ∧ H t = some (.tup [.str b.1, .str b.2])
theorem GBar.grew {P : Addr} {H H' : Hp} {b : Str × Str} {v : V} (g : Grew P H H') (h : TabG H P) (m : GBar H b v) : GBar H' b v := let ⟨t, e, q⟩ := m; ⟨t, e, g.tup h q⟩
theorem GBar.upd {H : Hp} {D : Addr} {o : HO} {b : Str × Str} {v : V} (nt : ∀ xs, H D ≠ some (.tup xs)) (m : GBar H b v) : GBar (L2.upd H D o) b v := by
  obtain ⟨t, e, q⟩ := m
  exact ⟨t, e, by rw [upd_ne (fun z => nt _ (z ▸ q))]; exact q⟩
/-- the pair of a bar's tuple -/
def barAt (H : Hp) : V → Str × Str
  | .ref t => match H t with
    | some (.tup [.str a, .str b]) => (a, b)
    | _ => (Str.empty, Str.empty)
  | _ => (Str.empty, Str.empty)
theorem GBar.at {H : Hp} {b : Str × Str} {v : V} (m : GBar H b v) : barAt H v = b := by
  obtain ⟨t, e, q⟩ := m
  subst e
  unfold barAt
  simp only [q]
theorem bars_keys {H : Hp} {K : PySem.W.Frag} : ∀ {bs : List (Str × Str)} {xs : List V}, Paired (GBar H) bs xs → ∃ ks : List (Addr × List Str), xs = ks.map (fun p => V.ref p.1) ∧ ks.map (·.2) = bs.map (fun b => [b.1, b.2]) ∧ ∀ p ∈ ks, SqT K H p.1 (p.2.map V.str)
  | _, _, .nil => ⟨[], rfl, rfl, fun _ h => by cases h⟩
  | _, _, .cons (a := b) ⟨t, e, q⟩ r => by
    obtain ⟨ks, e1, e2, e3⟩ := bars_keys (K := K) r
    refine ⟨(t, [b.1, b.2]) :: ks, by rw [e, e1]; rfl, by rw [List.map_cons, List.map_cons, e2], fun p hp => ?_⟩
    rcases List.mem_cons.mp hp with z | z
    · rw [z]; exact SqT.of q
    · exact e3 p z
theorem nodup_bars {bs : List (Str × Str)} (h : bs.Nodup) : (bs.map (fun b => [b.1, b.2])).Nodup :=
  List.pairwise_map.mpr (h.imp fun {a b} ne e => ne (Prod.ext (List.cons.inj e).1 (List.cons.inj (List.cons.inj e).2).1))
/-- the dict of the roads by their names -/
def DictR (K : PySem.W.Frag) (H : Hp) (d : Addr) (rs : List RoadD) : Prop := ∃ kvs, H d = some (.dK kvs) ∧ (∀ r ∈ rs, ∃ v, valV kvs (.inr r.name) = some v ∧ RoadAt K H r v) ∧ ∀ z, (∀ r ∈ rs, r.name ≠ z) → valV kvs (.inr z) = none
theorem DictR.grew {K : PySem.W.Frag} {P d : Addr} {H H' : Hp} {rs : List RoadD} (g : Grew P H H') (h : TabG H P) (m : DictR K H d rs) : DictR K H' d rs := by
  obtain ⟨kvs, e, m1, m2⟩ := m
  exact ⟨kvs, g.get h e (fun _ z => by cases z), fun r hr => let ⟨v, a, b⟩ := m1 r hr; ⟨v, a, b.grew g h⟩, m2⟩
structure BarsOk (rs : List RoadD) (bs : List (Str × Str)) : Prop where
  len : bs.length ≤ 40
  nd : bs.Nodup
  ok : ∀ b ∈ bs, ∃ r1 ∈ rs, ∃ r2 ∈ rs, b.1 = r1.name ∧ b.2 = r2.name ∧ r1.goal = r2.start
def AscB (bs : List (Str × Str)) : Prop := bs.Pairwise fun a b => slt2 b a = false
def spBars (K : PySem.W.Frag) (P : Addr) : Sp := fun vs H Q _ => ∃ (a d : Addr) (rs : List RoadD) (bs : List (Str × Str)) (xs : List V), vs = [.ref a, .ref d] ∧ SqL K H a xs ∧ Paired (GBar H) bs xs ∧ DictR K H d rs ∧ BarsOk rs bs ∧ TabG H P ∧
  ∀ H' p bs' ys, Grew P H H' → bs'.Perm bs → AscB bs' → H p = none → H' p = some (.tup ys) → Paired (GBar H') bs' ys → Q (.ref p) H'
section
variable {Pg : Program} {w : World} {K : PySem.W.Frag} {mg : Str → Option Value} {base : Heap} {C P : Addr}
abbrev nBars : List Str := ["bars", "roads_by_name", "bar", "first", "second", "kept"]
theorem scBars : FnScope nBars ["bars", "roads_by_name"] (defScope sBars) := ⟨rfl, rfl, rfl, by decide +kernel, rfl, by decide +kernel, by decide +kernel⟩
theorem ok_bars {f fD : Addr} {fd fdD : FuncData} {t1 t2 t3 : Tok} (F : Fun K "_checked_bars" "_checked_bars" sBars f fd) (hl : mg "len" = none) (ht : mg "tuple" = none) (hs : mg "sorted" = none)
    (hm : mg "MOST_BARS" = some (.int 40 t1)) (he : mg "END" = some (.int 2 t2)) (hst : mg "START" = some (.int 1 t3))
    (GD : FnOk Pg w K mg base CX0 1 fD fdD ["parts"] (spDiff K)) (gD : mg "_check_different" = some (.ref fD)) (kD : PySem.W.keepIn K (.ref fD) = true) (bD : Binds K fdD ["parts"] []) :
    FnOk Pg w K mg base CX0 2 f fd ["bars", "roads_by_name"] (spBars K P) := by
  refine F.ok scBars (fun vs H Q E h => ?_) (fun cdv A outer s H vs Q E hr h => ?_)
  · obtain ⟨a, d, rs, bs, xs, rfl, _⟩ := h
    rfl
  · obtain ⟨a, d, rs, bs, xs, rfl, hS, hG, hD, ok, hP, k⟩ := h
    refine ⟨_, pss_cons (ps_if (pt_cmpR op_gt (pe_callB call_len_seq (by rfl) hl PySem.boot_len (pa_cons (pv 0) pa_nil)) (pe_gI hm) (nomark _)) (pss_one ps_never) pss_nil)
      (pss_cons (ps_for PassesOwn.never rfl (pi_list (pv 0)) (pg_name (i := 2) scBars.nd rfl (Or.inl rfl))
        (pss_cons (ps_if (pt_cmpR op_ne (pe_callB call_len_seq (by rfl) hl PySem.boot_len (pa_cons (pv 2) pa_nil)) pe_int (nomark _)) (pss_one ps_never) pss_nil)
        (pss_cons (ps_asg (pv 2) (pg_tup (by rfl) (pgs_cons (pg_name (i := 3) scBars.nd rfl (.inl rfl)) (pgs_cons (pg_name (i := 4) scBars.nd rfl (.inl rfl)) pgs_nil))))
        (pss_cons (ps_if (PW.pt (pw_or (pt_cmp (pc_dnotin (u1 hr.units) (pv 3) (pv 1))) (pw_or1 (pt_cmp (pc_dnotin (u1 hr.units) (pv 4) (pv 1)))))) (pss_one ps_never) pss_nil)
        (pss_one (ps_if (pt_cmpR op_ne (pe_ix ix_tup (pe_dget (u1 hr.units) (pv 1) (pv 3) (fun _ _ => rfl)) (pe_gI he) (fun _ _ => rfl)) (pe_ix ix_tup (pe_dget (u1 hr.units) (pv 1) (pv 4) (fun _ _ => rfl)) (pe_gI hst) (fun _ _ => rfl)) (nomark _)) (pss_one ps_never) pss_nil))))))
      (pss_cons (ps_setLc (i := 5) (own := [("bar", 2)]) (g := gName 2) (tt := tYes) rfl scBars.nd rfl rfl (sw_true rfl rfl rfl (by decide +kernel)) (pi_list (pv 0)) (blkOk_by (N := nBars) (sc := defScope sBars) (by decide +kernel)) (fun _ _ _ _ _ => pg_name (i := 2) scBars.nd rfl (Or.inl rfl)) (fun _ _ _ _ _ => pts_nil)
          (fun _ _ _ _ _ => pe_callTy (r := rTupOf K) call_tuple_of (by rfl) ht (by decide +kernel) (pa_cons (pv 2) pa_nil)))
      (pss_cons (ps_expr (pe_call GD (hr.mono (by decide)) (by rfl) gD kD bD .nil pass0 (pa_cons (pv 5) pa_nil)))
      (pss_one (ps_ret (pe_callTy call_tuple_of (by rfl) ht (by decide +kernel) (pa_cons (pe_callB cr_sortB (by rfl) hs (by decide +kernel) (pa_cons (pv 5) pa_nil)) pa_nil))))))), ?_⟩
    have hln := Paired.len hG
    have hl40 := ok.len
    refine ⟨_, rfl, a, _, rfl, .inl hS, _, _, rfl, rfl, _, rfl, if_f (decide_eq_false (by omega)) ?_⟩
    refine ⟨_, rfl, a, rfl, ⟨_, hS⟩, for_list (K := K) (a := a) (xs := xs) (fun i σ H' => H' = H ∧ ∃ v1 v2 v3, σ = [some (.ref a), some (.ref d), v1, v2, v3, none])
      ⟨rfl, none, none, none, rfl⟩ (fun i σ H' _ ⟨e, _⟩ => by rw [e]; exact hS) ?_ ?_⟩
    · rintro i y σ H' hi ⟨rfl, v1, v2, v3, rfl⟩
      obtain ⟨b, hb, t, rfl, hT⟩ := Paired.at hG hi
      obtain ⟨r1, hr1, r2, hr2, e1, e2, e3⟩ := ok.ok b (List.mem_of_getElem? hb)
      obtain ⟨kvs, hd, hin, _⟩ := hD
      obtain ⟨w1, l1, p1, q1, h1, rfl, a1, _, _⟩ := hin r1 hr1
      obtain ⟨w2, l2, p2, q2, h2, rfl, a2, _, _⟩ := hin r2 hr2
      rw [← e1] at l1
      rw [← e2] at l2
      have g1 : DGet H' d (.str b.1) (some (.ref p1)) := by rw [← l1]; exact DGet.k (k := .inr b.1) hd
      have g2 : DGet H' d (.str b.2) (some (.ref p2)) := by rw [← l2]; exact DGet.k (k := .inr b.2) hd
      refine ⟨_, rfl, t, _, rfl, .inr (SqT.of hT), rfl, _, rfl, if_f (by rfl) ?_⟩
      refine ⟨_, rfl, t, _, rfl, SqT.of hT, rfl, _, _, rfl, _, _, rfl, rfl, ?_⟩
      refine ⟨_, rfl, _, rfl, d, _, rfl, g1, _, rfl, if_f (by rfl) ?_⟩
      refine ⟨_, rfl, _, rfl, d, _, rfl, g2, _, rfl, if_f (by rfl) ?_⟩
      refine ⟨_, rfl, _, rfl, d, _, rfl, g1, p1, _, 2, .str r1.goal, rfl, rfl, SqT.of a1, rfl, _, rfl, _, rfl, d, _, rfl, g2, p2, _, 1, .str r2.start, rfl, rfl, SqT.of a2, rfl, rfl, _, rfl, if_f ?_ ⟨rfl, _, _, _, rfl⟩⟩
      rw [e3]
      simp
    · rintro σ H' ⟨rfl, v1, v2, v3, rfl⟩
      refine ⟨_, rfl, a, rfl, ⟨_, hS⟩, fun D nD => lc_list (K := K) (a := a) (xs := xs) (fun i H1 => Grew P H' H1 ∧ H1 D = some (.lst (xs.take i)))
        ⟨Grew.new hP nD, upd_same⟩ (fun i H1 _ p => p.1.sqL hP hS) (fun i x H1 hx p => ?_) (fun H1 p => ?_)⟩
      · obtain ⟨g, hD1⟩ := p
        obtain ⟨b, hb, t, rfl, hT⟩ := Paired.at hG hx
        refine ⟨rfl, _, rfl, t, _, rfl, .inr ⟨SqT.of (g.tup hP hT), _, hD1, ?_, g.write hD1 (fun _ z => by cases z) nD, ?_⟩⟩
        · rw [List.length_take, sizeLine_eq]; omega
        · rw [upd_same, List.take_succ, hx]; rfl
      · obtain ⟨g, hD1⟩ := p
        rw [List.take_length] at hD1
        have hG1 : Paired (GBar H1) bs xs := Paired.map' hG fun b v m => m.grew g hP
        obtain ⟨ks, ek1, ek2, ek3⟩ := bars_keys (K := K) hG1
        have lk : ks.length = xs.length := by rw [ek1, List.length_map]
        refine ⟨_, rfl, D, rfl, .inr ⟨ks, by rw [← ek1]; exact SqL.of hD1, ek3, by omega, by rw [ek2]; exact nodup_bars ok.nd⟩, ?_⟩
        refine ⟨_, rfl, D, xs, barAt H1, rfl, SqL.of hD1, fun x hx => ?_, fun ys l hpm hso hl => ⟨l, _, rfl, .inl ⟨SqL.of upd_same, fun p hp2 => ?_⟩⟩⟩
        · obtain ⟨b, _, m⟩ := Paired.mem hG1 hx
          have nm := m.at
          obtain ⟨t, e, q⟩ := m
          exact ⟨t, e, by rw [nm]; exact SqT.of q⟩
        · obtain ⟨bs', pm, hr'⟩ := Paired.perm hpm hG1
          have gl := Grew.new g.tab (o := .lst ys) hl
          have gp := gl.put (o := .tup ys) hp2
          exact k _ p bs' ys (g.trans gp) pm (Paired.pair (fun a b x y m m' e => by rw [m.at, m'.at] at e; exact e) hr' hso) (g.free (gl.free hp2)) upd_same (Paired.map' hr' fun _ _ m => m.grew gp g.tab)
end
end W

set_option Elab.async false
set_option linter.all false
set_option maxRecDepth 100000
set_option maxHeartbeats 800000
namespace W
open PySem PySem.Spec PyProof.Rows L2 GxR MyG MyS
/-! ### Map.__init__ -/
abbrev nInit : List Str := ["self", "day", "kinds", "places", "roads", "bars", "road", "bar"]
abbrev pInit : List Str := ["self", "day", "kinds", "places", "roads", "bars"]
section
variable {K : PySem.W.Frag} {H : Hp} {x C dx : Addr} {fs : List (Str × V)} {o : HO}
theorem insNe (hx : H x = some (.ins C dx fs)) {a : Addr} {u : HO} (e : H a = some u) (d : ∀ C dx fs, u ≠ .ins C dx fs) : a ≠ x := fun z => by
  rw [z, hx] at e
  exact d _ _ _ (Option.some.inj e).symm
theorem tup_ins (hx : H x = some (.ins C dx fs)) {a : Addr} {l : List V} (e : H a = some (.tup l)) : L2.upd H x o a = some (.tup l) := by
  rw [upd_ne (insNe hx e (fun _ _ _ z => by cases z))]
  exact e
theorem RoadAt.ins (hx : H x = some (.ins C dx fs)) {r : RoadD} {v : V} (m : RoadAt K H r v) : RoadAt K (L2.upd H x o) r v := m.upd (fun xs z => by rw [hx] at z; cases z) (KeepT.ins hx)
theorem GBar.ins (hx : H x = some (.ins C dx fs)) {b : Str × Str} {v : V} (m : GBar H b v) : GBar (L2.upd H x o) b v := m.upd (fun xs z => by rw [hx] at z; cases z)
theorem DictR.ins (hx : H x = some (.ins C dx fs)) {d : Addr} {rs : List RoadD} (m : DictR K H d rs) : DictR K (L2.upd H x o) d rs := by
  obtain ⟨kvs, e, m1, m2⟩ := m
  exact ⟨kvs, by rw [upd_ne (insNe hx e (fun _ _ _ z => by cases z))]; exact e, fun r hr => let ⟨v, a, b⟩ := m1 r hr; ⟨v, a, b.ins hx⟩, m2⟩
end
/-- the dict of the bars -/
def DictB (H : Hp) (d : Addr) (bs : List (Str × Str)) : Prop := ∃ kvs : List (List Key × V), H d = some (.dT kvs) ∧ ∀ a b : Str, (valV kvs [.inr a, .inr b]).isSome = true ↔ (a, b) ∈ bs
/-- the fields of a map -/
def nmF : List Str := ["day", "kinds", "places", "roads", "_roads_by_name", "bars", "_barred"]
theorem noF {fs : List (Str × V)} {g : Str} {v : V} (h : ∀ f, f ∉ nmF → fs.lookup f = none) (hg : g ∈ nmF) : ∀ f, f ∉ nmF → (putF g v fs).lookup f = none := fun f hf => by
  rw [lookup_putF, if_neg (by intro e; subst e; exact hf hg)]
  exact h f hf
/-- the map at x -/
structure MapF (K : PySem.W.Frag) (H : Hp) (fs : List (Str × V)) (d : Int) (ks ps : List Str) (rs : List RoadD) (bs : List (Str × Str)) (kk pp rr D bb D2 : Addr) (ys zs : List V) : Prop where
  f0 : ∀ f, f ∉ nmF → fs.lookup f = none
  f1 : fs.lookup ("day" : Str) = some (V.int d)
  f2 : fs.lookup ("kinds" : Str) = some (V.ref kk)
  f3 : fs.lookup ("places" : Str) = some (V.ref pp)
  f4 : fs.lookup ("roads" : Str) = some (V.ref rr)
  f5 : fs.lookup ("_roads_by_name" : Str) = some (V.ref D)
  f6 : fs.lookup ("bars" : Str) = some (V.ref bb)
  f7 : fs.lookup ("_barred" : Str) = some (V.ref D2)
  k : H kk = some (.tup (ks.map V.str))
  p : H pp = some (.tup (ps.map V.str))
  r : H rr = some (.tup ys)
  ry : Paired (RoadAt K H) rs ys
  d : DictR K H D rs
  b : H bb = some (.tup zs)
  bz : Paired (GBar H) bs zs
  db : DictB H D2 bs
def MapAt (K : PySem.W.Frag) (H : Hp) (M x : Addr) (d : Int) (ks ps : List Str) (rs : List RoadD) (bs : List (Str × Str)) : Prop := ∃ dx fs kk pp rr D bb D2 ys zs, H x = some (.ins M dx fs) ∧ MapF K H fs d ks ps rs bs kk pp rr D bb D2 ys zs
structure PartsOk (d : Int) (ks ps : List Str) (rs : List RoadD) (bs : List (Str × Str)) : Prop where
  d1 : 1 ≤ d
  d2 : d ≤ 1440
  k1 : 1 ≤ ks.length
  k2 : ks.length ≤ 4
  p2 : ps.length ≤ 30
  kn : ks.all isNm = true
  pn : ps.all isNm = true
  kd : ks.Nodup
  pd : ps.Nodup
  r : RoadsOk d ps ks rs
  b : BarsOk rs bs
theorem RoadsOk.perm {d : Int} {ps ps' ks ks' : List Str} {rs : List RoadD} (h : RoadsOk d ps ks rs) (hp : ps'.Perm ps) (hk : ks'.Perm ks) : RoadsOk d ps' ks' rs := by
  obtain ⟨a, b, c, e⟩ := h
  refine ⟨a, b, c, fun r hr => ?_⟩
  obtain ⟨h1, h2, h3, h4, h5, h6, h7, h8⟩ := e r hr
  exact ⟨hp.mem_iff.mpr h1, hp.mem_iff.mpr h2, h3, h4, fun k hk' => hk.mem_iff.mpr (h5 k hk'), h6, h7, h8⟩
theorem BarsOk.kept {rs rs' : List RoadD} {bs : List (Str × Str)} (h : BarsOk rs bs) (k : KeptAll rs rs') : BarsOk rs' bs := by
  obtain ⟨a, b, c⟩ := h
  obtain ⟨l, pm, pr⟩ := k
  have f : ∀ r ∈ rs, ∃ r' ∈ rs', r'.name = r.name ∧ r'.start = r.start ∧ r'.goal = r.goal := fun r hr => by
    obtain ⟨r', hr', q⟩ := Paired.mem' pr hr
    exact ⟨r', pm.mem_iff.mp hr', q.1, q.2.1, q.2.2.1⟩
  refine ⟨a, b, fun z hz => ?_⟩
  obtain ⟨r1, h1, r2, h2, e1, e2, e3⟩ := c z hz
  obtain ⟨s1, m1, n1, _, g1⟩ := f r1 h1
  obtain ⟨s2, m2, n2, g2, _⟩ := f r2 h2
  exact ⟨s1, m1, s2, m2, by rw [n1]; exact e1, by rw [n2]; exact e2, by rw [g1, g2]; exact e3⟩
theorem KeptAll.nodup {rs rs' : List RoadD} (k : KeptAll rs rs') (h : (rs.map (·.name)).Nodup) : (rs'.map (·.name)).Nodup := by
  obtain ⟨l, pm, pr⟩ := k
  rw [← kept_names pr] at h
  exact (pm.map (·.name)).nodup_iff.mp h
theorem KeptAll.len {rs rs' : List RoadD} (k : KeptAll rs rs') : rs'.length = rs.length := by
  obtain ⟨l, pm, pr⟩ := k
  rw [← pm.length_eq, ← Paired.len pr]
def spInit (K : PySem.W.Frag) (M P : Addr) : Sp := fun vs H Q _ => ∃ (x dx ki pl ro ba : Addr) (d : Int) (ks ps : List Str) (rs : List RoadD) (bs : List (Str × Str)) (xs zs : List V) (H0 : Hp), vs = [.ref x, .int d, .ref ki, .ref pl, .ref ro, .ref ba] ∧
  Grew P H0 H ∧ TabG H0 P ∧ H0 x = none ∧ H x = some (.ins M dx []) ∧ SqL K H0 ki (ks.map V.str) ∧ SqL K H0 pl (ps.map V.str) ∧ SqL K H0 ro xs ∧ Paired (GRoad K H0) rs xs ∧ SqL K H0 ba zs ∧ Paired (GBar H0) bs zs ∧ PartsOk d ks ps rs bs ∧
  ∀ H' ks' ps' rs' bs', Grew P H0 H' → ks'.Perm ks → Asc ks' → ps'.Perm ps → Asc ps' → KeptAll rs rs' → AscR rs' → bs'.Perm bs → AscB bs' → MapAt K H' M x d ks' ps' rs' bs' → Q .non H'
structure TxtM (K : PySem.W.Frag) (M : Addr) : Prop where
  cl : Cls K M
  n1 : NoAttr K M "day"
  n2 : NoAttr K M "kinds"
  n3 : NoAttr K M "places"
  n4 : NoAttr K M "roads"
  n5 : NoAttr K M "_roads_by_name"
  n6 : NoAttr K M "bars"
  n7 : NoAttr K M "_barred"
section
variable {Pg : Program} {w : World} {K : PySem.W.Frag} {mg : Str → Option Value} {base : Heap} {C P : Addr}
theorem scInit : FnScope nInit pInit (defScope sInit) := ⟨rfl, rfl, rfl, by decide +kernel, rfl, by decide +kernel, by decide +kernel⟩
theorem ok_init {f fY fN fR fB M : Addr} {fd fdY fdN fdR fdB : FuncData} {t1 t2 t3 : Tok} {dvs : List V} {kws : List (Str × V)} (F : FunD K "__init__" "Map.__init__" (defArgs sInit) (defBody sInit) (defScope sInit) dvs kws f fd) (T : TxtM K M)
    (hn : mg "NAME" = some (.int 0 t1)) (hk : mg "MOST_KINDS" = some (.int 4 t2)) (hp : mg "MOST_PLACES" = some (.int 30 t3))
    (GY : FnOk Pg w K mg base CX0 1 fY fdY ["day"] spDay) (gY : mg "_checked_day" = some (.ref fY)) (kY : PySem.W.keepIn K (.ref fY) = true) (bY : Binds K fdY ["day"] [])
    (GN : FnOk Pg w K mg base CX0 3 fN fdN ["names", "least", "most"] (spNames K P)) (gN : mg "_checked_names" = some (.ref fN)) (kN : PySem.W.keepIn K (.ref fN) = true) (bN : Binds K fdN ["names", "least", "most"] [])
    (GR : FnOk Pg w K mg base CX0 4 fR fdR ["roads", "day", "places", "kinds"] (spRoads K P)) (gR : mg "_checked_roads" = some (.ref fR)) (kR : PySem.W.keepIn K (.ref fR) = true) (bR : Binds K fdR ["roads", "day", "places", "kinds"] [])
    (GB : FnOk Pg w K mg base CX0 2 fB fdB ["bars", "roads_by_name"] (spBars K P)) (gB : mg "_checked_bars" = some (.ref fB)) (kB : PySem.W.keepIn K (.ref fB) = true) (bB : Binds K fdB ["bars", "roads_by_name"] []) :
    FnOk Pg w K mg base CX0 5 f fd pInit (spInit K M P) := by
  refine F.ok scInit (fun vs H Q E h => ?_) (fun cdv A outer s H vs Q E hr h => ?_)
  · obtain ⟨x, dx, ki, pl, ro, ba, d, ks, ps, rs, bs, xs, zs, H0, rfl, _⟩ := h
    rfl
  · obtain ⟨x, dx, ki, pl, ro, ba, d, ks, ps, rs, bs, xs, zs, H0, rfl, g0, hP0, nx, hx, hKi, hPl, hRo, hG, hBa, hB, ok, k⟩ := h
    have hr1 : Room 1 _ := hr.mono (by decide)
    have hr2 : Room 2 _ := hr.mono (by decide)
    have hr3 : Room 3 _ := hr.mono (by decide)
    refine ⟨_, pss_cons (ps_fld (pv 0) (pe_call GY hr1 (by rfl) gY kY bY .nil pass0 (pa_cons (pv 1) pa_nil)) rfl)
      (pss_cons (ps_fld (pv 0) (pe_call GN hr3 (by rfl) gN kN bN .nil pass0 (pa_cons (pv 2) (pa_cons pe_int (pa_cons (pe_gI hk) pa_nil)))) rfl)
      (pss_cons (ps_fld (pv 0) (pe_call GN hr3 (by rfl) gN kN bN .nil pass0 (pa_cons (pv 3) (pa_cons pe_int (pa_cons (pe_gI hp) pa_nil)))) rfl)
      (pss_cons (ps_fld (pv 0) (pe_call GR hr (by rfl) gR kR bR .nil pass0 (pa_cons (pv 4) (pa_cons (pv 1) (pa_cons (pe_fld (pv 0) rfl) (pa_cons (pe_fld (pv 0) rfl) pa_nil))))) rfl)
      (pss_cons (ps_fld (pv 0) (pe_dc (own := [("road", 6)]) (g := gName 6) (tt := tYes) rfl scInit.nd (pi_tup (pe_fld (pv 0) rfl)) (blkOk_by (N := nInit) (sc := defScope sInit) (by decide +kernel)) (fun _ _ _ _ _ => pg_name (i := 6) scInit.nd rfl (Or.inl rfl)) (fun _ _ _ _ _ => pts_nil)
          (fun _ _ _ _ _ => pe_ix (r := rIxT K) ix_tup (pv 6) (pe_gI hn) (fun _ _ => rfl)) (fun _ _ _ _ _ => pv 6)) rfl)
      (pss_cons (ps_fld (pv 0) (pe_call GB hr2 (by rfl) gB kB bB .nil pass0 (pa_cons (pv 5) (pa_cons (pe_fld (pv 0) rfl) pa_nil))) rfl)
      (pss_one (ps_fld (pv 0) (pe_dcT (own := [("bar", 7)]) (g := gName 7) (tt := tYes) (u1 hr.units) rfl scInit.nd (pi_tup (pe_fld (pv 0) rfl)) (blkOk_by (N := nInit) (sc := defScope sInit) (by decide +kernel)) (fun _ _ _ _ _ => pg_name (i := 7) scInit.nd rfl (Or.inl rfl)) (fun _ _ _ _ _ => pts_nil)
          (fun _ _ _ _ _ => pv 7) (fun _ _ _ _ _ => pe_bl)) rfl))))))), ?_⟩
    have nins : ∀ (fs : List (Str × V)) (q : Array Value), (HO.ins M dx fs) ≠ .tbl q := fun _ _ z => by cases z
    have k1 := ok.k1
    have k2 := ok.k2
    have p2 := ok.p2
    -- day
    refine ⟨_, rfl, d, rfl, ok.d1, ok.d2, _, rfl, x, M, dx, [], rfl, hx, T.cl, T.n1, by decide, ?_⟩
    have ga := g0.write (o := .ins M dx (putF "day" (.int d) [])) hx (nins _) nx
    have la : (putF ("day" : Str) (V.int d) []).length ≤ 1 := length_putF _ _ []
    -- kinds
    refine ⟨_, rfl, ki, ks, 1, 4, rfl, ga.sqL hP0 hKi, by omega, by omega, by omega, ok.kn, ok.kd, ga.tab, fun Hb kk ks' gb nk ek pk ak => ?_⟩
    have xb := gb.get ga.tab upd_same (nins _)
    refine ⟨_, rfl, x, M, dx, _, rfl, xb, T.cl, T.n2, by omega, ?_⟩
    have gc := (ga.trans gb).write (o := .ins M dx (putF "kinds" (.ref kk) (putF "day" (.int d) []))) xb (nins _) nx
    have lc := length_putF ("kinds" : Str) (V.ref kk) (putF ("day" : Str) (V.int d) [])
    have tk := tup_ins (o := .ins M dx (putF "kinds" (.ref kk) (putF "day" (.int d) []))) xb ek
    -- places
    refine ⟨_, rfl, pl, ps, 0, 30, rfl, gc.sqL hP0 hPl, by omega, by omega, by omega, ok.pn, ok.pd, gc.tab, fun Hd pp ps' gd np ep pp' ap => ?_⟩
    have xd := gd.get gc.tab upd_same (nins _)
    refine ⟨_, rfl, x, M, dx, _, rfl, xd, T.cl, T.n3, by omega, ?_⟩
    have ge := (gc.trans gd).write (o := .ins M dx (putF "places" (.ref pp) (putF "kinds" (.ref kk) (putF "day" (.int d) [])))) xd (nins _) nx
    have le := length_putF ("places" : Str) (V.ref pp) (putF ("kinds" : Str) (V.ref kk) (putF ("day" : Str) (V.int d) []))
    generalize hfs : putF ("places" : Str) (V.ref pp) (putF ("kinds" : Str) (V.ref kk) (putF ("day" : Str) (V.int d) [])) = fs at ge le ⊢
    have f0 : ∀ f, f ∉ nmF → fs.lookup f = none := by rw [← hfs]; exact noF (noF (noF (fun _ _ => rfl) (by decide +kernel)) (by decide +kernel)) (by decide +kernel)
    have f3 : fs.lookup ("places" : Str) = some (V.ref pp) := by rw [← hfs, lookup_putF, if_pos rfl]
    have f2 : fs.lookup ("kinds" : Str) = some (V.ref kk) := by rw [← hfs, lookup_putF, if_neg (by decide +kernel), lookup_putF, if_pos rfl]
    have f1 : fs.lookup ("day" : Str) = some (V.int d) := by rw [← hfs, lookup_putF, if_neg (by decide +kernel), lookup_putF, if_neg (by decide +kernel), lookup_putF, if_pos rfl]
    have tk2 := tup_ins (o := .ins M dx fs) xd (gd.tup gc.tab tk)
    have tp2 := tup_ins (o := .ins M dx fs) xd ep
    -- roads
    have okr := ok.r.perm pp' pk
    refine ⟨_, rfl, _, rfl, _, rfl, x, M, dx, _, _, rfl, upd_same, T.cl, T.n3, f3, _, rfl, x, M, dx, _, _, rfl, upd_same, T.cl, T.n2, f2,
      ro, pp, kk, d, ps', ks', rs, xs, rfl, ge.sqL hP0 hRo, Paired.map' hG (fun r v m => m.keep (KeepT.grew ge hP0)), SqT.of tp2, SqT.of tk2, okr, ge.tab, fun Hf rr rs' ys gf kr ar nr er hm => ?_⟩
    have xf := gf.get ge.tab upd_same (nins _)
    refine ⟨_, rfl, x, M, dx, _, rfl, xf, T.cl, T.n4, by omega, ?_⟩
    have gg := (ge.trans gf).write (o := .ins M dx (putF "roads" (.ref rr) fs)) xf (nins _) nx
    have lg := length_putF ("roads" : Str) (V.ref rr) fs
    have fg4 : (putF ("roads" : Str) (V.ref rr) fs).lookup ("roads" : Str) = some (V.ref rr) := by rw [lookup_putF, if_pos rfl]
    have fg3 : (putF ("roads" : Str) (V.ref rr) fs).lookup ("places" : Str) = some (V.ref pp) := by rw [lookup_putF, if_neg (by decide +kernel)]; exact f3
    have fg2 : (putF ("roads" : Str) (V.ref rr) fs).lookup ("kinds" : Str) = some (V.ref kk) := by rw [lookup_putF, if_neg (by decide +kernel)]; exact f2
    have fg1 : (putF ("roads" : Str) (V.ref rr) fs).lookup ("day" : Str) = some (V.int d) := by rw [lookup_putF, if_neg (by decide +kernel)]; exact f1
    have fg0 := noF (v := V.ref rr) f0 (show ("roads" : Str) ∈ nmF by decide +kernel)
    generalize hgs : putF ("roads" : Str) (V.ref rr) fs = gs at gg lg fg0 fg1 fg2 fg3 fg4 ⊢
    have tr3 := tup_ins (o := .ins M dx gs) xf er
    have tk3 := tup_ins (o := .ins M dx gs) xf (gf.tup ge.tab tk2)
    have tp3 := tup_ins (o := .ins M dx gs) xf (gf.tup ge.tab tp2)
    have hm3 : Paired (RoadAt K (L2.upd Hf x (.ins M dx gs))) rs' ys := Paired.map' hm fun r v m => m.ins xf
    have lys : ys.length ≤ 60 := by rw [← Paired.len hm3, kr.len]; exact ok.r.len
    have ndr := kr.nodup ok.r.nd
    generalize hHg : L2.upd Hf x (.ins M dx gs) = Hg at gg tr3 tk3 tp3 hm3 ⊢
    have xg : Hg x = some (.ins M dx gs) := by rw [← hHg]; exact upd_same
    -- _roads_by_name
    refine ⟨_, rfl, x, M, dx, _, _, rfl, xg, T.cl, T.n4, fg4, rr, rfl, ⟨_, SqT.of tr3⟩, fun D nD => dc_tup (K := K) (a := rr) (xs := ys)
      (fun i H1 => Grew P Hg H1 ∧ ∃ kvs, H1 D = some (.dK kvs) ∧ kvs.length ≤ i ∧ (∀ (j : Nat) r v, j < i → rs'[j]? = some r → ys[j]? = some v → valV kvs (.inr r.name) = some v) ∧ ∀ z : Str, (∀ r ∈ rs'.take i, r.name ≠ z) → valV kvs (.inr z) = none)
      ⟨Grew.new gg.tab nD, [], upd_same, Nat.le_refl _, fun j r v h => absurd h (Nat.not_lt_zero _), fun z _ => rfl⟩ (fun i H1 _ p => SqT.of (p.1.tup gg.tab tr3)) (fun i y H1 hy p => ?_) (fun Hh p => ?_)⟩
    · obtain ⟨g, kvs, hD, hl, hin, hno⟩ := p
      obtain ⟨r, hri, m⟩ := Paired.at hm3 hy
      have hi : i < ys.length := (List.getElem?_eq_some_iff.mp hy).1
      have m1 := m.grew g gg.tab
      obtain ⟨t, q, h, rfl, et, _⟩ := m1
      refine ⟨rfl, _, rfl, t, _, 0, .str r.name, rfl, rfl, SqT.of et, rfl, _, rfl, kvs, .inr r.name, rfl, hD, ?_, g.write hD (fun _ z => by cases z) nD, _, upd_same, ?_, fun j r' v' hj hr' hv' => ?_, fun z hz => ?_⟩
      · rw [sizeLine_eq]; omega
      · exact Nat.le_trans (length_putK kvs (.inr r.name) _) (by omega)
      · rw [valV_put]
        by_cases e : j = i
        · subst e
          rw [hri] at hr'
          rw [hy] at hv'
          cases hr'; cases hv'
          rw [if_pos rfl]
        · have ne : ¬ (Sum.inr r'.name : Key) = .inr r.name := fun z => by
            injection z with z
            have hri' := (List.getElem?_eq_some_iff.mp hri)
            have hrj' := (List.getElem?_eq_some_iff.mp hr')
            obtain ⟨a1, a2⟩ := hri'
            obtain ⟨b1, b2⟩ := hrj'
            refine absurd ?_ (List.pairwise_iff_getElem.mp ndr j i (by rw [List.length_map]; exact b1) (by rw [List.length_map]; exact a1) (by omega))
            rw [List.getElem_map, List.getElem_map, a2, b2]
            exact z
          rw [if_neg ne]
          exact hin j r' v' (by omega) hr' hv'
      · rw [valV_put, if_neg ?_]
        · exact hno z fun r' hr' => hz r' (by rw [List.take_succ]; exact List.mem_append_left _ hr')
        · intro e
          injection e with e
          exact hz r (by rw [List.take_succ, hri]; exact List.mem_append_right _ (List.mem_singleton.mpr rfl)) e.symm
    · obtain ⟨gh, kvs, hD, hl, hin, hno⟩ := p
      have xh := gh.get gg.tab xg (nins _)
      refine ⟨_, rfl, x, M, dx, _, rfl, xh, T.cl, T.n5, by omega, ?_⟩
      have gi := (gg.trans gh).write (o := .ins M dx (putF "_roads_by_name" (.ref D) gs)) xh (nins _) nx
      have li := length_putF ("_roads_by_name" : Str) (V.ref D) gs
      have fi5 : (putF ("_roads_by_name" : Str) (V.ref D) gs).lookup ("_roads_by_name" : Str) = some (V.ref D) := by rw [lookup_putF, if_pos rfl]
      have fi4 : (putF ("_roads_by_name" : Str) (V.ref D) gs).lookup ("roads" : Str) = some (V.ref rr) := by rw [lookup_putF, if_neg (by decide +kernel)]; exact fg4
      have fi3 : (putF ("_roads_by_name" : Str) (V.ref D) gs).lookup ("places" : Str) = some (V.ref pp) := by rw [lookup_putF, if_neg (by decide +kernel)]; exact fg3
      have fi2 : (putF ("_roads_by_name" : Str) (V.ref D) gs).lookup ("kinds" : Str) = some (V.ref kk) := by rw [lookup_putF, if_neg (by decide +kernel)]; exact fg2
      have fi1 : (putF ("_roads_by_name" : Str) (V.ref D) gs).lookup ("day" : Str) = some (V.int d) := by rw [lookup_putF, if_neg (by decide +kernel)]; exact fg1
      have fi0 := noF (v := V.ref D) fg0 (show ("_roads_by_name" : Str) ∈ nmF by decide +kernel)
      generalize his : putF ("_roads_by_name" : Str) (V.ref D) gs = is at gi li fi0 fi1 fi2 fi3 fi4 fi5 ⊢
      have hmh : Paired (RoadAt K Hh) rs' ys := Paired.map' hm3 fun r v m => m.grew gh gg.tab
      have dR : DictR K (L2.upd Hh x (.ins M dx is)) D rs' := by
        refine DictR.ins xh ⟨kvs, hD, fun r hr => ?_, fun z hz => hno z fun r hr => hz r (List.mem_of_mem_take hr)⟩
        obtain ⟨j, hj, ej⟩ := List.getElem_of_mem hr
        have hj' : rs'[j]? = some r := List.getElem?_eq_some_iff.mpr ⟨hj, ej⟩
        obtain ⟨v, hv, m⟩ := Paired.to hmh hj'
        exact ⟨v, hin j r v (List.getElem?_eq_some_iff.mp hv).1 hj' hv, m⟩
      have tr4 := tup_ins (o := .ins M dx is) xh (gh.tup gg.tab tr3)
      have tk4 := tup_ins (o := .ins M dx is) xh (gh.tup gg.tab tk3)
      have tp4 := tup_ins (o := .ins M dx is) xh (gh.tup gg.tab tp3)
      have hm4 : Paired (RoadAt K (L2.upd Hh x (.ins M dx is))) rs' ys := Paired.map' hmh fun r v m => m.ins xh
      generalize hHi : L2.upd Hh x (.ins M dx is) = Hi at gi tr4 tk4 tp4 hm4 dR ⊢
      have xi : Hi x = some (.ins M dx is) := by rw [← hHi]; exact upd_same
      -- bars
      refine ⟨_, rfl, _, rfl, x, M, dx, _, _, rfl, xi, T.cl, T.n5, fi5, ba, D, rs', bs, zs, rfl, gi.sqL hP0 hBa, Paired.map' hB (fun b v m => m.grew gi hP0), dR, ok.b.kept kr, gi.tab, fun Hj bb bs' zs' gj pb ab nb eb hz => ?_⟩
      have xj := gj.get gi.tab xi (nins _)
      refine ⟨_, rfl, x, M, dx, _, rfl, xj, T.cl, T.n6, by omega, ?_⟩
      have gk := (gi.trans gj).write (o := .ins M dx (putF "bars" (.ref bb) is)) xj (nins _) nx
      have lk := length_putF ("bars" : Str) (V.ref bb) is
      have fk6 : (putF ("bars" : Str) (V.ref bb) is).lookup ("bars" : Str) = some (V.ref bb) := by rw [lookup_putF, if_pos rfl]
      have fk5 : (putF ("bars" : Str) (V.ref bb) is).lookup ("_roads_by_name" : Str) = some (V.ref D) := by rw [lookup_putF, if_neg (by decide +kernel)]; exact fi5
      have fk4 : (putF ("bars" : Str) (V.ref bb) is).lookup ("roads" : Str) = some (V.ref rr) := by rw [lookup_putF, if_neg (by decide +kernel)]; exact fi4
      have fk3 : (putF ("bars" : Str) (V.ref bb) is).lookup ("places" : Str) = some (V.ref pp) := by rw [lookup_putF, if_neg (by decide +kernel)]; exact fi3
      have fk2 : (putF ("bars" : Str) (V.ref bb) is).lookup ("kinds" : Str) = some (V.ref kk) := by rw [lookup_putF, if_neg (by decide +kernel)]; exact fi2
      have fk1 : (putF ("bars" : Str) (V.ref bb) is).lookup ("day" : Str) = some (V.int d) := by rw [lookup_putF, if_neg (by decide +kernel)]; exact fi1
      have fk0 := noF (v := V.ref bb) fi0 (show ("bars" : Str) ∈ nmF by decide +kernel)
      generalize hjs : putF ("bars" : Str) (V.ref bb) is = js at gk lk fk0 fk1 fk2 fk3 fk4 fk5 fk6 ⊢
      have tb5 := tup_ins (o := .ins M dx js) xj eb
      have tr5 := tup_ins (o := .ins M dx js) xj (gj.tup gi.tab tr4)
      have tk5 := tup_ins (o := .ins M dx js) xj (gj.tup gi.tab tk4)
      have tp5 := tup_ins (o := .ins M dx js) xj (gj.tup gi.tab tp4)
      have hm5 : Paired (RoadAt K (L2.upd Hj x (.ins M dx js))) rs' ys := Paired.map' hm4 fun r v m => (m.grew gj gi.tab).ins xj
      have hz5 : Paired (GBar (L2.upd Hj x (.ins M dx js))) bs' zs' := Paired.map' hz fun b v m => m.ins xj
      have dR5 : DictR K (L2.upd Hj x (.ins M dx js)) D rs' := (dR.grew gj gi.tab).ins xj
      have lzs : zs'.length ≤ 40 := by rw [← Paired.len hz5, pb.length_eq]; exact ok.b.len
      generalize hHk : L2.upd Hj x (.ins M dx js) = Hk at gk tb5 tr5 tk5 tp5 hm5 hz5 dR5 ⊢
      have xk : Hk x = some (.ins M dx js) := by rw [← hHk]; exact upd_same
      -- _barred
      refine ⟨_, rfl, x, M, dx, _, _, rfl, xk, T.cl, T.n6, fk6, bb, rfl, ⟨_, SqT.of tb5⟩, fun D2 nD2 => dcT_tup (K := K) (a := bb) (xs := zs')
        (fun i H1 => Grew P Hk H1 ∧ ∃ kvs : List (List Key × V), H1 D2 = some (.dT kvs) ∧ kvs.length ≤ i ∧ ∀ a b : Str, (valV kvs [.inr a, .inr b]).isSome = true ↔ (a, b) ∈ bs'.take i)
        ⟨Grew.new gk.tab nD2, [], upd_same, Nat.le_refl _, fun a b => by simp [valV_nil]⟩ (fun i H1 _ p => SqT.of (p.1.tup gk.tab tb5)) (fun i y H1 hy p => ?_) (fun Hl p => ?_)⟩
      · obtain ⟨g, kvs, hD, hl, hin⟩ := p
        obtain ⟨b, hbi, m⟩ := Paired.at hz5 hy
        have hi : i < zs'.length := (List.getElem?_eq_some_iff.mp hy).1
        obtain ⟨t, rfl, et⟩ := m.grew g gk.tab
        refine ⟨rfl, _, rfl, kvs, [.inr b.1, .inr b.2], t, rfl, et, hD, ?_, g.write hD (fun _ z => by cases z) nD2, _, upd_same, ?_, fun a' b' => ?_⟩
        · rw [sizeLine_eq]; omega
        · have := length_putK kvs ([.inr b.1, .inr b.2] : List Key) (V.bl true)
          omega
        · rw [valV_put, List.take_succ, hbi, List.mem_append]
          by_cases e : ([.inr a', .inr b'] : List Key) = [.inr b.1, .inr b.2]
          · rw [if_pos e]
            have e1 : a' = b.1 := Sum.inr.inj (List.cons.inj e).1
            have e2 : b' = b.2 := Sum.inr.inj (List.cons.inj (List.cons.inj e).2).1
            subst e1 e2
            exact ⟨fun _ => .inr (List.mem_singleton.mpr rfl), fun _ => rfl⟩
          · rw [if_neg e, hin a' b']
            refine ⟨.inl, fun h => h.elim id fun h => ?_⟩
            have h' : (a', b') = b := List.mem_singleton.mp h
            subst h'
            exact absurd rfl e
      · obtain ⟨gl, kvs, hD, hl, hin⟩ := p
        have lb : bs'.length = zs'.length := Paired.len hz5
        rw [← lb, List.take_length] at hin
        have xl := gl.get gk.tab xk (nins _)
        refine ⟨_, rfl, x, M, dx, _, rfl, xl, T.cl, T.n7, by omega, ?_⟩
        have gm := (gk.trans gl).write (o := .ins M dx (putF "_barred" (.ref D2) js)) xl (nins _) nx
        refine k _ ks' ps' rs' bs' gm pk ak pp' ap kr ar pb ab ⟨dx, putF "_barred" (.ref D2) js, kk, pp, rr, D, bb, D2, ys, zs', upd_same, ?_⟩
        constructor
        · exact noF fk0 (by decide +kernel)
        · rw [lookup_putF, if_neg (by decide +kernel)]; exact fk1
        · rw [lookup_putF, if_neg (by decide +kernel)]; exact fk2
        · rw [lookup_putF, if_neg (by decide +kernel)]; exact fk3
        · rw [lookup_putF, if_neg (by decide +kernel)]; exact fk4
        · rw [lookup_putF, if_neg (by decide +kernel)]; exact fk5
        · rw [lookup_putF, if_neg (by decide +kernel)]; exact fk6
        · rw [lookup_putF, if_pos rfl]
        · exact tup_ins xl (gl.tup gk.tab tk5)
        · exact tup_ins xl (gl.tup gk.tab tp5)
        · exact tup_ins xl (gl.tup gk.tab tr5)
        · exact Paired.map' hm5 fun r v m => (m.grew gl gk.tab).ins xl
        · exact (dR5.grew gl gk.tab).ins xl
        · exact tup_ins xl (gl.tup gk.tab tb5)
        · exact Paired.map' hz5 fun b v m => (m.grew gl gk.tab).ins xl
        · exact ⟨kvs, by rw [upd_ne (insNe xl hD (fun _ _ _ z => by cases z))]; exact hD, hin⟩
end
end W

set_option Elab.async false
set_option linter.all false
set_option maxRecDepth 100000
set_option maxHeartbeats 400000
namespace W
open PySem PySem.Spec PyProof.Rows L2 GxR MyG
abbrev sRow : Stmt := top 31
abbrev sNumbers : Stmt := top 32
/-- the drawn numbers are small -/
def Sm (ns : List Int) : Prop := ∀ n ∈ ns, 0 ≤ n ∧ n < 1009
theorem Sm.snoc {ns : List Int} {n : Int} (h : Sm ns) (h1 : 0 ≤ n) (h2 : n < 1009) : Sm (ns ++ [n]) := fun z hz => by
  rcases List.mem_append.mp hz with hz | hz
  · exact h z hz
  · rw [List.mem_singleton.mp hz]; exact ⟨h1, h2⟩
theorem mod1009 (a : Int) : 0 ≤ a % 1009 ∧ a % 1009 < 1009 := by omega
def spRow (P : Addr) : Sp := fun vs H Q _ => ∃ (c : Int) (m : Nat), vs = [.int c, .int m] ∧ m ≤ 1000 ∧ TabG H P ∧ ∀ H' p ns, Grew P H H' → H p = none → H' p = some (.lst (ns.map V.int)) → ns.length = m → Sm ns → Q (.ref p) H'
def spNumbers (K : PySem.W.Frag) (P : Addr) : Sp := fun vs H Q _ => ∃ (a : Addr) (zs : List Int) (m : Nat), vs = [.ref a, .int m] ∧ SqL K H a (zs.map V.int) ∧ zs.length ≤ 63 ∧ m ≤ 900 ∧ TabG H P ∧
  ∀ H' p ns, Grew P H H' → H p = none → H' p = some (.lst (ns.map V.int)) → ns.length = m → Sm ns → Q (.ref p) H'
section
variable {Pg : Program} {w : World} {K : PySem.W.Frag} {mg : Str → Option Value} {base : Heap} {C P : Addr}
abbrev nRow : List Str := ["cell", "many", "row", "rest", "mixed", "k"]
theorem scRow : FnScope nRow ["cell", "many"] (defScope sRow) := ⟨rfl, rfl, rfl, by decide +kernel, rfl, by decide +kernel, by decide +kernel⟩
theorem ok_row {f : Addr} {fd : FuncData} (F : Fun K "_law_row" "_law_row" sRow f fd) (ha : mg "abs" = none) (hi : mg "int" = none) (hr' : mg "range" = none) : FnOk Pg w K mg base CX0 1 f fd ["cell", "many"] (spRow P) := by
  refine F.ok scRow (fun vs H Q E h => ?_) (fun cdv A outer s H vs Q E hr h => ?_)
  · obtain ⟨c, m, rfl, _⟩ := h
    rfl
  · obtain ⟨c, m, rfl, hm, hP, k⟩ := h
    refine ⟨_, pss_cons (ps_set (i := 2) scRow.nd rfl (Or.inl rfl) (pe_lst pa_nil))
      (pss_cons (ps_set (i := 3) scRow.nd rfl (Or.inl rfl) (pe_callB call_abs (by rfl) ha (by decide +kernel) (pa_cons (pv 0) pa_nil)))
      (pss_cons (ps_set (i := 4) scRow.nd rfl (Or.inl rfl) (pe_op op_mod (pe_callTy call_int1 (by rfl) hi (by decide +kernel) (pa_cons (pe_op op_add (pe_op op_mul (pv 3) pe_int) pe_int) pa_nil)) pe_int))
      (pss_cons (ps_for PassesOwn.never rfl (pi_range1 rfl hr' (pa_cons (pv 1) pa_nil)) (pg_name (i := 5) scRow.nd rfl (Or.inl rfl))
        (pss_cons (ps_set (i := 4) scRow.nd rfl (Or.inl rfl) (pe_op op_mod (pe_callTy call_int1 (by rfl) hi (by decide +kernel) (pa_cons (pe_op op_add (pe_op op_mul (pv 4) pe_int) (pe_op op_mul pe_int (pe_op op_add (pv 5) pe_int))) pa_nil)) pe_int))
        (pss_one (ps_if (pt_cmpR op_ge (pe_callB call_abs (by rfl) ha (by decide +kernel) (pa_cons (pv 0) pa_nil)) (pe_op op_pow pe_int pe_int) (nomark _))
          (pss_cons (ps_expr (pe_bm PySem.F.plainAttrs_list PySem.F.slot_list_append PySem.F.type_list_append mt_append (pv 2) (pa_cons (pe_op op_mod (pe_callTy call_int1 (by rfl) hi (by decide +kernel) (pa_cons (pv 3) pa_nil)) pe_int) pa_nil)))
            (pss_one (ps_set (i := 3) scRow.nd rfl (Or.inl rfl) (pe_op op_fdiv (pv 3) pe_int))))
          (pss_one (ps_expr (pe_bm PySem.F.plainAttrs_list PySem.F.slot_list_append PySem.F.type_list_append mt_append (pv 2) (pa_cons (pe_op op_mod (pe_callTy call_int1 (by rfl) hi (by decide +kernel) (pa_cons (pe_op op_fdiv (pv 4) pe_int) pa_nil)) pe_int) pa_nil))))))))
      (pss_one (ps_ret (pv 2)))))), ?_⟩
    refine ⟨Nat.zero_le _, fun p np => ?_⟩
    refine ⟨_, rfl, _, rfl, ?_⟩
    refine ⟨_, rfl, _, _, rfl, rfl, .inr ⟨by decide, by decide⟩, _, _, rfl, rfl, .inl ⟨_, rfl, _, _, rfl, rfl, (show (0 : Int) < 2147483647 by decide), ?_⟩⟩
    refine ⟨_, rfl, m, rfl, by omega, by omega, for_range (n := m) (fun i σ H' => ∃ r mx kv, ∃ ns : List Int, σ = [some (.int c), some (.int m), some (.ref p), some (.int r), some (.int mx), kv] ∧ Grew P H H' ∧ H' p = some (.lst (ns.map V.int)) ∧ ns.length = i ∧ Sm ns)
      ⟨_, _, none, [], rfl, Grew.new hP np, upd_same, rfl, fun n hn => by cases hn⟩ ?_ ?_⟩
    · rintro i σ H' hi ⟨r, mx, kv, ns, rfl, g, hp, hl, hsm⟩
      refine ⟨_, rfl, _, _, rfl, rfl, .inr ⟨by decide, by decide⟩, _, rfl, _, _, rfl, rfl, _, _, rfl, rfl, .inl ⟨by decide, by decide⟩, _, _, rfl, rfl, .inl ⟨_, rfl, _, _, rfl, rfl, (show (0 : Int) < 2147483629 by decide), ?_⟩⟩
      refine ⟨_, rfl, _, rfl, _, _, rfl, rfl, ⟨by decide, by decide, by decide⟩, _, _, rfl, rfl, _, rfl, ?_⟩
      have hlen : (ns.map V.int).length < sizeLine := by rw [List.length_map, hl, sizeLine_eq]; omega
      refine ite2 (fun _ => ?_) (fun _ => ?_)
      · refine ⟨_, rfl, .inl ⟨rfl, _, SqL.of hp⟩, _, rfl, .inl ⟨_, rfl, _, _, rfl, rfl, (show (0 : Int) < 1009 by decide), p, _, _, rfl, rfl, hp, hlen, ?_⟩⟩
        refine ⟨_, rfl, _, _, rfl, rfl, ⟨by decide, by decide⟩, _, _, _, ns ++ [_], rfl, g.write hp (fun _ z => by cases z) np, by rw [upd_same, List.map_append]; rfl, by rw [List.length_append, hl]; rfl, hsm.snoc (mod1009 _).1 (mod1009 _).2⟩
      · refine ⟨_, rfl, .inl ⟨rfl, _, SqL.of hp⟩, _, rfl, _, _, rfl, rfl, ⟨by decide, by decide⟩, .inl ⟨_, rfl, _, _, rfl, rfl, (show (0 : Int) < 1009 by decide), p, _, _, rfl, rfl, hp, hlen, ?_⟩⟩
        refine ⟨_, _, _, ns ++ [_], rfl, g.write hp (fun _ z => by cases z) np, by rw [upd_same, List.map_append]; rfl, by rw [List.length_append, hl]; rfl, hsm.snoc (mod1009 _).1 (mod1009 _).2⟩
    · rintro σ H' ⟨r, mx, kv, ns, rfl, g, hp, hl, hsm⟩
      exact ⟨_, rfl, k H' p ns g np hp hl hsm⟩
end
end W

set_option Elab.async false
set_option linter.all false
set_option maxRecDepth 100000
set_option maxHeartbeats 400000
namespace W
open PySem PySem.Spec PyProof.Rows L2 GxR MyG
theorem cutV_pre (xs : List V) (n : Nat) : cutV xs none (some (n : Int)) = xs.take n := by
  unfold cutV
  rw [HT.sIx_none, HT.sIx_nat, List.drop_zero, Nat.sub_zero]
  rcases Nat.le_total n xs.length with h | h
  · rw [Nat.min_eq_left h]
  · rw [Nat.min_eq_right h, List.take_length, List.take_of_length_le h]
theorem Sm.take {ns : List Int} (h : Sm ns) (k : Nat) : Sm (ns.take k) := fun z hz => h z (List.mem_of_mem_take hz)
theorem Sm.app {ns ms : List Int} (h : Sm ns) (h2 : Sm ms) : Sm (ns ++ ms) := fun z hz => by
  rcases List.mem_append.mp hz with hz | hz
  · exact h z hz
  · exact h2 z hz
section
variable {Pg : Program} {w : World} {K : PySem.W.Frag} {mg : Str → Option Value} {base : Heap} {C P : Addr}
abbrev nNumbers : List Str := ["script", "many", "cells", "each", "numbers", "cell", "number"]
theorem scNumbers : FnScope nNumbers ["script", "many"] (defScope sNumbers) := ⟨rfl, rfl, rfl, by decide +kernel, rfl, by decide +kernel, by decide +kernel⟩
theorem ok_numbers {f fR : Addr} {fd fdR : FuncData} (F : Fun K "_law_numbers" "_law_numbers" sNumbers f fd) (hl : mg "len" = none) (hx : mg "max" = none)
    (GR : FnOk Pg w K mg base CX0 1 fR fdR ["cell", "many"] (spRow P)) (gR : mg "_law_row" = some (.ref fR)) (kR : PySem.W.keepIn K (.ref fR) = true) (bR : Binds K fdR ["cell", "many"] []) :
    FnOk Pg w K mg base CX0 2 f fd ["script", "many"] (spNumbers K P) := by
  refine F.ok scNumbers (fun vs H Q E h => ?_) (fun cdv A outer s H vs Q E hr h => ?_)
  · obtain ⟨a, zs, m, rfl, _⟩ := h
    rfl
  · obtain ⟨a, zs, m, rfl, hS, hz, hm, hP, k⟩ := h
    refine ⟨_, pss_cons (ps_set (i := 2) scNumbers.nd rfl (Or.inl rfl) (pe_slice sl_list (pv 0) po_none (po_some pe_int)))
      (pss_cons (ps_set (i := 3) scNumbers.nd rfl (Or.inl rfl) (pe_op op_add pe_int (pe_op op_fdiv (pv 1) (pe_callB (call_max2 rfl) (by rfl) hx (by decide +kernel) (pa_cons pe_int (pa_cons (pe_callB call_len_seq (by rfl) hl PySem.boot_len (pa_cons (pv 2) pa_nil)) pa_nil))))))
      (pss_cons (ps_set (i := 4) scNumbers.nd rfl (Or.inl rfl) (pe_lst pa_nil))
      (pss_cons (ps_for PassesOwn.never rfl (pi_list (pv 2)) (pg_name (i := 5) scNumbers.nd rfl (Or.inl rfl))
        (pss_one (ps_for PassesOwn.never rfl (pi_list (pe_call GR hr (by rfl) gR kR bR .nil pass0 (pa_cons (pv 5) (pa_cons (pv 3) pa_nil)))) (pg_name (i := 6) scNumbers.nd rfl (Or.inl rfl))
          (pss_one (ps_expr (pe_bm PySem.F.plainAttrs_list PySem.F.slot_list_append PySem.F.type_list_append mt_append (pv 4) (pa_cons (pv 6) pa_nil)))))))
      (pss_cons (ps_while PassesOwn.never (pt_cmpR op_lt (pe_callB call_len_seq (by rfl) hl PySem.boot_len (pa_cons (pv 4) pa_nil)) (pv 1) (nomark _))
          (pss_one (ps_expr (pe_bm PySem.F.plainAttrs_list PySem.F.slot_list_append PySem.F.type_list_append mt_append (pv 4) (pa_cons pe_int pa_nil)))))
      (pss_one (ps_ret (pe_slice sl_list (pv 4) po_none (po_some (pv 1))))))))), ?_⟩
    -- cells
    refine ⟨_, rfl, _, rfl, a, _, rfl, hS, fun c nc => ?_⟩
    have ec : cutV (zs.map V.int) none (some 63) = zs.map V.int := by
      have q := cutV_pre (zs.map V.int) 63
      rw [List.take_of_length_le (by rw [List.length_map]; exact hz)] at q
      exact q
    rw [ec]
    have g1 := Grew.new hP (o := .lst (zs.map V.int)) nc
    -- each
    refine ⟨_, rfl, _, rfl, c, _, rfl, .inl (SqL.of upd_same), 1, _, rfl, _, _, rfl, rfl, ?_, _, _, rfl, rfl, ?_⟩
    · rw [List.length_map]
      constructor
      · split <;> omega
      · split <;> omega
    rw [List.length_map]
    generalize hdv : (if ((zs.length : Nat) : Int) > 1 then ((zs.length : Nat) : Int) else 1) = dv
    have hdp : 0 < dv := by rw [← hdv]; split <;> omega
    obtain ⟨e, he, he2⟩ : ∃ e : Nat, 1 + (m : Int) / dv = (e : Int) ∧ e ≤ 1000 := by
      have h1 : 0 ≤ (m : Int) / dv := Int.ediv_nonneg (by omega) (by omega)
      have h2 : (m : Int) / dv ≤ m := Int.ediv_le_self _ (by omega)
      exact ⟨(1 + (m : Int) / dv).toNat, by omega, by omega⟩
    refine ⟨Nat.zero_le _, fun p np => ?_⟩
    have g2 := g1.put (o := .lst []) np
    have hc : L2.upd (L2.upd H c (.lst (zs.map V.int))) p (.lst []) c = some (.lst (zs.map V.int)) := (Grew.new g1.tab np).lst g1.tab upd_same
    have ncp : c ≠ p := ne_of_none upd_same np
    refine ⟨_, rfl, c, rfl, ⟨_, SqL.of hc⟩, for_list (K := K) (a := c) (xs := zs.map V.int) (fun i σ H' => ∃ v5 v6, ∃ ns : List Int, σ = [some (.ref a), some (.int m), some (.ref c), some (.int (1 + (m : Int) / dv)), some (.ref p), v5, v6] ∧ Grew P H H' ∧ H' c = some (.lst (zs.map V.int)) ∧ H' p = some (.lst (ns.map V.int)) ∧ ns.length ≤ 1000 * i ∧ Sm ns)
      ⟨none, none, [], rfl, g2, hc, upd_same, Nat.zero_le _, fun n hn => by cases hn⟩ (fun i σ H' _ ⟨_, _, _, _, _, h, _⟩ => SqL.of h) ?_ ?_⟩
    · rintro i y σ H' hi ⟨v5, v6, ns, rfl, g, hcc, hp, hln, hsm⟩
      obtain ⟨z, rfl⟩ : ∃ z, y = V.int z := by
        rw [List.getElem?_map] at hi
        cases q : zs[i]? with
        | none => rw [q] at hi; cases hi
        | some z => rw [q] at hi; exact ⟨z, (Option.some.inj hi).symm⟩
      have hi63 : i < 63 := by
        have q := (List.getElem?_eq_some_iff.mp hi).1
        rw [List.length_map] at q
        omega
      refine ⟨_, rfl, _, rfl, z, e, by rw [he]; rfl, he2, g.tab, fun H2 q rs gr nq eq hrl hrs => ?_⟩
      have np2 : p ≠ q := ne_of_none hp nq
      have np0 : H p = none := (Grew.new hP nc).free np
      refine ⟨q, rfl, ⟨_, SqL.of eq⟩, for_list (K := K) (a := q) (xs := rs.map V.int) (fun j σ H' => ∃ v5 v6, σ = [some (.ref a), some (.int m), some (.ref c), some (.int (1 + (m : Int) / dv)), some (.ref p), v5, v6] ∧ Grew P H H' ∧ H' c = some (.lst (zs.map V.int)) ∧ H' q = some (.lst (rs.map V.int)) ∧ H' p = some (.lst ((ns ++ rs.take j).map V.int)))
        ⟨_, _, rfl, g.trans gr, gr.lst g.tab hcc, eq, by rw [List.take_zero, List.append_nil]; exact gr.lst g.tab hp⟩ (fun j σ H' _ ⟨_, _, _, _, _, h, _⟩ => SqL.of h) ?_ ?_⟩
      · rintro j y σ H3 hj ⟨w5, w6, rfl, g3, hc3, hq3, hp3⟩
        obtain ⟨z2, hz2, rfl⟩ : ∃ z, rs[j]? = some z ∧ y = V.int z := by
          rw [List.getElem?_map] at hj
          cases q : rs[j]? with
          | none => rw [q] at hj; cases hj
          | some z => rw [q] at hj; exact ⟨z, rfl, (Option.some.inj hj).symm⟩
        refine ⟨_, rfl, .inl ⟨rfl, _, SqL.of hp3⟩, _, rfl, p, _, _, rfl, rfl, hp3, ?_, _, _, rfl, g3.write hp3 (fun _ z => by cases z) np0, ?_, ?_, ?_⟩
        · rw [List.length_map, List.length_append, List.length_take, sizeLine_eq]; omega
        · rw [upd_ne ncp]; exact hc3
        · rw [upd_ne np2.symm]; exact hq3
        · rw [upd_same, List.take_succ, hz2]; simp
      · rintro σ H3 ⟨w5, w6, rfl, g3, hc3, hq3, hp3⟩
        rw [List.length_map, List.take_length] at hp3
        exact ⟨_, _, ns ++ rs, rfl, g3, hc3, hp3, by rw [List.length_append]; omega, hsm.app hrs⟩
    · rintro σ H' ⟨v5, v6, ns, rfl, g, hcc, hp, hln, hsm⟩
      rw [List.length_map] at hln
      have np0 : H p = none := (Grew.new hP nc).free np
      refine ⟨fun n σ H' => ∃ ns : List Int, σ = [some (.ref a), some (.int m), some (.ref c), some (.int (1 + (m : Int) / dv)), some (.ref p), v5, v6] ∧ Grew P H H' ∧ H' p = some (.lst (ns.map V.int)) ∧ ns.length ≤ 70000 ∧ Sm ns ∧ n = m - ns.length,
        ⟨_, ns, rfl, g, hp, by omega, hsm, rfl⟩, ?_⟩
      rintro n σ H3 ⟨ms, rfl, g3, hp3, hl3, hs3, rfl⟩
      refine ⟨_, rfl, p, _, rfl, .inl (SqL.of hp3), _, rfl, _, _, rfl, rfl, _, rfl, ?_⟩
      rw [List.length_map]
      refine ite2 (fun hlt => ?_) (fun hge => ?_)
      · have hlt' : (ms.length : Int) < m := of_decide_eq_true hlt
        refine ⟨_, fun _ _ h => h, _, rfl, .inl ⟨rfl, _, SqL.of hp3⟩, p, _, _, rfl, rfl, hp3, ?_, m - (ms.length + 1), by omega, ms ++ [0], rfl, g3.write hp3 (fun _ z => by cases z) np0, ?_, ?_, hs3.snoc (by decide) (by decide), ?_⟩
        · rw [List.length_map, sizeLine_eq]; omega
        · rw [upd_same, List.map_append]; rfl
        · rw [List.length_append, List.length_singleton]; omega
        · rw [List.length_append, List.length_singleton]
      · have hge' : ¬ (ms.length : Int) < m := fun z => hge (decide_eq_true z)
        refine ⟨_, rfl, _, rfl, _, rfl, p, _, rfl, SqL.of hp3, fun r nr => ?_⟩
        have ec2 := cutV_pre (ms.map V.int) m
        rw [ec2, ← List.map_take]
        exact k _ r (ms.take m) (g3.put nr) (g3.free nr) upd_same (by rw [List.length_take]; omega) (hs3.take m)
end
end W

set_option Elab.async false
set_option linter.all false
set_option maxRecDepth 100000
set_option maxHeartbeats 1000000
/-! a list or a tuple walked; the texts of errors -/
namespace SqX
open PySem PySem.Spec PyProof.Rows L2
/-- a list (true) or a tuple (false) -/
def SqK (c : Bool) (K : PySem.W.Frag) (H : Hp) (a : Addr) (xs : List V) : Prop := match c with
  | true => SqL K H a xs
  | false => SqT K H a xs
theorem SqK.any {c : Bool} {K : PySem.W.Frag} {H : Hp} {a : Addr} {xs : List V} (h : SqK c K H a xs) : SqL K H a xs ∨ SqT K H a xs := by
  cases c with
  | true => exact .inl h
  | false => exact .inr h
def ItK (c : Bool) (K : PySem.W.Frag) (a : Addr) : It := match c with
  | true => Itl K a
  | false => Itt K a
theorem walk_sq {c : Bool} {K : PySem.W.Frag} {a : Addr} {xs : List V} : Walk (ItK c K a) xs.length (fun H => SqK c K H a xs) (YAt xs) := by
  cases c with
  | true => exact walk_list
  | false => exact walk_tup
def iSq (K : PySem.W.Frag) (tl : TE) : TI := fun σ H R => tl σ H fun x H1 => ∃ (c : Bool) (a : Addr), x = .ref a ∧ (∃ xs, SqK c K H1 a xs) ∧ R (ItK c K a) H1
section
variable {X : Cx} {tg : Expr}
theorem pi_sq {l : Expr} {tl : TE} (hl : PE X l tl) : PI X tg l (iSq X.K tl) := by
  refine ⟨fun pins s σ H R I h => ?_⟩
  refine thn (hl.run pins s σ H _ I h) fun v s1 ⟨x, H1, I1, r1, q1⟩ => ?_
  obtain ⟨c, a, e, ⟨xs, hq⟩, q⟩ := q1
  subst e
  cases r1
  cases c with
  | true =>
    obtain ⟨its, rv, p, hz⟩ := I1.list hq
    refine wpAny_pyIter_list p.isList ?_
    refine ⟨s1.heap.objs.size, [s1.heap.objs.size], _, _, H1, rfl, I1.kept (t' := s1.toks) fun b o e => Heap.get?_push_of_some _ e, turn_list a _, ⟨_, Heap.get?_push_size _ rfl, rfl, rfl⟩, fun b hb => ?_, q⟩
    have e : b = s1.heap.objs.size := by simpa using hb
    subst e
    exact I1.fpOk (Nat.le_refl _) (I1.hok.fresh (Nat.le_refl _))
  | false =>
    obtain ⟨its, rv, p, hz⟩ := I1.tuple hq
    refine wpAny_pyIter_tuple (show s1.heap.IsTuple a its.toArray from p) ?_
    refine ⟨s1.heap.objs.size, [s1.heap.objs.size], _, _, H1, rfl, I1.kept (t' := s1.toks) fun b o e => Heap.get?_push_of_some _ e, turn_tuple a _, ⟨_, Heap.get?_push_size _ rfl, rfl, rfl⟩, fun b hb => ?_, q⟩
    have e : b = s1.heap.objs.size := by simpa using hb
    subst e
    exact I1.fpOk (Nat.le_refl _) (I1.hok.fresh (Nat.le_refl _))
end
/-- for over a list or a tuple -/
theorem for_sq {K : PySem.W.Frag} {c : Bool} {a : Addr} {xs : List V} {g : TG} {tb : TS} {D : Ends} {σ : L2.St} {H : Hp} (Pv : Nat → L2.St → Hp → Prop) (h0 : Pv 0 σ H) (hl : ∀ i σ H', i ≤ xs.length → Pv i σ H' → SqK c K H' a xs)
    (hs : ∀ i x σ H', xs[i]? = some x → Pv i σ H' → g x σ H' fun σ2 H2 => tb { D with nx := Pv (i + 1), ct := Pv (i + 1), bk := D.nx } σ2 H2) (hd : ∀ σ H', Pv xs.length σ H' → D.nx σ H') :
    ∃ W : Nat → Nat → L2.St → Hp → Prop, (∃ m, W 0 m σ H) ∧ ∀ i m σ H, W i m σ H →
      ((ItK c K a).stop i H ∧ D.nx σ H) ∨ ((ItK c K a).go i H ∧ ∃ N : L2.St → Hp → Prop, (∀ σ' H', N σ' H' → ∃ m', m' < m ∧ W (i + 1) m' σ' H') ∧ ∀ x H', (ItK c K a).yld i H x H' → g x σ H' fun σ2 H2 => tb { D with nx := N, ct := N, bk := D.nx } σ2 H2) :=
  for_it walk_sq Pv h0 hl (fun i x σ H H' _ p y => by obtain ⟨e, hx⟩ := y; rw [e]; exact hs i x σ H hx p) hd
/-- a comprehension over a list or a tuple -/
theorem lc_sq {K : PySem.W.Frag} {c : Bool} {a : Addr} {xs : List V} {g : TG} {tt : TT} {te : TE} {vs : List Nat} {σ : L2.St} {H1 : Hp} {D : Addr} {Qd : Hp → Prop} (Pv : Nat → Hp → Prop) (h0 : Pv 0 (L2.upd H1 D (.lst []))) (hl : ∀ i H, i ≤ xs.length → Pv i H → SqK c K H a xs)
    (hs : ∀ i x H, xs[i]? = some x → Pv i H → g x (wipe σ vs) H fun σ2 H2 => wipe σ2 vs = wipe σ vs ∧ tt σ2 H2 fun b H3 =>
      if b = true then te σ2 H3 fun y H4 => ∃ acc, H4 D = some (.lst acc) ∧ acc.length < sizeLine ∧ Pv (i + 1) (L2.upd H4 D (.lst (acc ++ [y]))) else Pv (i + 1) H3) (hd : ∀ H, Pv xs.length H → Qd H) :
    ∃ W : Nat → Nat → Hp → Prop, (∃ m, W 0 m (L2.upd H1 D (.lst []))) ∧ ∀ i m H, W i m H →
      ((ItK c K a).stop i H ∧ Qd H) ∨ ((ItK c K a).go i H ∧ ∃ Nx : Hp → Prop, (∀ H', Nx H' → ∃ m', m' < m ∧ W (i + 1) m' H') ∧ ∀ x H', (ItK c K a).yld i H x H' → g x (wipe σ vs) H' fun σ2 H2 => wipe σ2 vs = wipe σ vs ∧ tt σ2 H2 fun b H3 =>
        if b = true then te σ2 H3 fun y H4 => ∃ acc, H4 D = some (.lst acc) ∧ acc.length < sizeLine ∧ Nx (L2.upd H4 D (.lst (acc ++ [y]))) else Nx H3) :=
  lc_it walk_sq Pv h0 hl (fun i x H H' _ p y => by obtain ⟨e, hx⟩ := y; rw [e]; exact hs i x H hx p) hd
/-! ### the texts of errors -/
/-- a part of a short text -/
def Short (t : TE) (σ : L2.St) (H : Hp) : Prop := ∀ Q : VK, (∀ y : Str, y.length ≤ 1000 → Q (.str y) H) → t σ H Q
theorem short_c {z : Str} {σ : L2.St} {H : Hp} (h : z.length ≤ 1000) : Short (tC (.str z)) σ H := fun Q k => k z h
theorem short_s {t : TE} {σ : L2.St} {H : Hp} {y : Str} (h : ∀ Q : VK, Q (.str y) H → t σ H Q) (hy : y.length ≤ 1000) : Short (tFmt t) σ H := fun Q k => h _ (.inl ⟨y, rfl, by rw [sizeLine_eq]; omega, k y hy⟩)
theorem short_i {t : TE} {σ : L2.St} {H : Hp} {n : Int} (h : ∀ Q : VK, Q (.int n) H → t σ H Q) (hn : n.natAbs < 10 ^ 12) : Short (tFmt t) σ H := fun Q k => h _ (.inr ⟨n, rfl, by
  by_cases c : n.natAbs = 0
  · rw [c]; decide
  · refine Nat.lt_of_lt_of_le ((Nat.log2_lt c).mpr (Nat.lt_of_lt_of_le hn (show 10 ^ 12 ≤ 2 ^ 40 by decide))) (by decide), k _ (by
  have q := PyData.shown_int_le (i := n) hn
  rw [PyData.shown_int] at q
  omega)⟩)
theorem short_v {σ : L2.St} {H : Hp} {i : Nat} {y : Str} (e : σ[i]? = some (some (.str y))) (hy : y.length ≤ 1000) : Short (tFmt (tVar i)) σ H := short_s (fun Q q => ⟨_, e, q⟩) hy
theorem short_n {σ : L2.St} {H : Hp} {i : Nat} {n : Int} (e : σ[i]? = some (some (.int n))) (hn : n.natAbs < 10 ^ 12) : Short (tFmt (tVar i)) σ H := short_i (fun Q q => ⟨_, e, q⟩) hn
theorem short_g {σ : L2.St} {H : Hp} {n : Int} (hn : n.natAbs < 10 ^ 12) : Short (tFmt (tC (.int n))) σ H := short_i (fun Q q => q) hn
theorem tJs_ok {σ : L2.St} {H : Hp} {Q : Str → Hp → Prop} (k : ∀ z, Q z H) : ∀ {ts : List TE} {acc : Str} (n : Nat), (∀ t ∈ ts, Short t σ H) → acc.length ≤ n → n + 1000 * ts.length ≤ 100000 → tJs ts acc σ H Q
  | [], acc, n, _, _, _ => k acc
  | t :: ts, acc, n, h, ha, hn => h t List.mem_cons_self _ fun y hy => ⟨y, rfl, by rw [PySem.Str.length_append, sizeLine_eq]; simp only [List.length_cons] at hn; omega,
      tJs_ok k (n + 1000) (fun u hu => h u (List.mem_cons_of_mem _ hu)) (by rw [PySem.Str.length_append]; omega) (by simp only [List.length_cons] at hn; omega)⟩
end SqX

set_option Elab.async false
set_option linter.all false
set_option maxRecDepth 100000
set_option maxHeartbeats 1000000
namespace W
open PySem PySem.Spec PyProof.Rows L2 GxR MyG MyS SqX
/-! ### the checks of a map, of whatever is given: they return, or InvalidMap is raised -/
/-- InvalidMap, the heap grown -/
def BadM (C P : Addr) (H : Hp) (E : XK) : Prop := ∀ H', Grew P H H' → E (.ref C) none H'
theorem BadM.on {C P : Addr} {H H1 : Hp} {E : XK} (h : BadM C P H E) (g : Grew P H H1) : BadM C P H1 E := fun H' g' => h H' (g.trans g')
theorem BadM.here {C P : Addr} {H : Hp} {E : XK} (h : BadM C P H E) (hP : TabG H P) : E (.ref C) none H := h H (Grew.refl hP)
theorem _root_.SqX.SqK.grew {c : Bool} {K : PySem.W.Frag} {P : Addr} {H H' : Hp} {a : Addr} {xs : List V} (h : SqK c K H a xs) (g : Grew P H H') (hP : TabG H P) : SqK c K H' a xs := by
  cases c with
  | true => exact g.sqL hP h
  | false => exact g.sqT hP h
def spDayX (C P : Addr) : Sp := fun vs H Q E => ∃ d : Int, vs = [.int d] ∧ d.natAbs < 10 ^ 12 ∧ TabG H P ∧ (1 ≤ d → d ≤ 1440 → Q (.int d) H) ∧ (¬ (1 ≤ d ∧ d ≤ 1440) → BadM C P H E)
/-- hours as they are given -/
def hoursG (hs : Option (List (Int × Int))) : Option (List (List Int)) := hs.map fun ps => ps.map fun p => [p.1, p.2]
def GPairX (K : PySem.W.Frag) (H : Hp) (p : List Int) (x : V) : Prop := ∃ t, x = .ref t ∧ SqT K H t (p.map V.int)
def GHoursX (K : PySem.W.Frag) (H : Hp) (hs : Option (List (List Int))) (v : V) : Prop := match hs with
  | none => v = .non
  | some ps => ∃ (l : Addr) (xs : List V) (c : Bool), v = .ref l ∧ SqK c K H l xs ∧ Paired (GPairX K H) ps xs
theorem GPairX.keep {K : PySem.W.Frag} {H H' : Hp} {p : List Int} {x : V} (k : KeepT K H H') (h : GPairX K H p x) : GPairX K H' p x := let ⟨t, a, b⟩ := h; ⟨t, a, k _ _ b⟩
theorem GHoursX.grew {K : PySem.W.Frag} {P : Addr} {H H' : Hp} {hs : Option (List (List Int))} {v : V} (g : Grew P H H') (hP : TabG H P) (h : GHoursX K H hs v) : GHoursX K H' hs v := by
  cases hs with
  | none => exact h
  | some ps =>
    obtain ⟨l, xs, c, a, b, d⟩ := h
    exact ⟨l, xs, c, a, b.grew g hP, Paired.map' d fun _ _ m => m.keep (KeepT.grew g hP)⟩
/-- hours that a road may have -/
def HoursGOk (d : Int) (hs : Option (List (List Int))) : Prop := ∃ h, hs = hoursG h ∧ HoursOk d h
def spHoursX (K : PySem.W.Frag) (C P : Addr) : Sp := fun vs H Q E => ∃ (d : Int) (hs : Option (List (List Int))) (hv : V), vs = [hv, .int d] ∧ GHoursX K H hs hv ∧ (∀ ps, hs = some ps → ps.length ≤ 1000) ∧ TabG H P ∧
  (∀ h, hs = hoursG h → HoursOk d h → ∀ H' v', Grew P H H' → GHours K H' h v' → Q v' H') ∧ (¬ HoursGOk d hs → BadM C P H E)
def spDiffX (K : PySem.W.Frag) (C P : Addr) : Sp := fun vs H Q E => ∃ a : Addr, vs = [.ref a] ∧ TabG H P ∧
  ((∃ ns : List Str, (SqL K H a (ns.map V.str) ∨ SqT K H a (ns.map V.str)) ∧ ns.length ≤ 1000 ∧ (ns.Nodup → Q .non H) ∧ (¬ ns.Nodup → BadM C P H E)) ∨
   ∃ ks : List (Addr × List Str), SqL K H a (ks.map fun p => V.ref p.1) ∧ (∀ p ∈ ks, SqT K H p.1 (p.2.map V.str)) ∧ ks.length < 64 ∧ ((ks.map (·.2)).Nodup → Q .non H) ∧ (¬ (ks.map (·.2)).Nodup → BadM C P H E))
/-- pairs one behind the other, from the place at which the last one closed -/
theorem lastOf_cons {q : Int × Int} {r : List (Int × Int)} {c : Int} (i : Nat) : lastOf c (q :: r) (i + 1) = lastOf q.2 r i := by
  unfold lastOf
  rw [List.take_succ_cons]
  cases r.take i with
  | nil => rfl
  | cons a l => rw [List.getLast?_cons_cons]; cases h : (a :: l).getLast? with
    | none => simp at h
    | some z => rfl
theorem hours_snoc {d : Int} : ∀ {ps : List (Int × Int)} {c : Int} {p : Int × Int}, hoursOk d c (ps ++ [p]) ↔ hoursOk d c ps ∧ (lastOf c ps ps.length < p.1 ∧ p.1 < p.2 ∧ p.2 ≤ d)
  | [], c, p => ⟨fun h => ⟨trivial, h.1, h.2.1, h.2.2.1⟩, fun h => ⟨h.2.1, h.2.2.1, h.2.2.2, trivial⟩⟩
  | q :: r, c, p => by
    have ih := hours_snoc (d := d) (ps := r) (c := q.2) (p := p)
    rw [List.length_cons, lastOf_cons]
    constructor
    · rintro ⟨a, b, e, f⟩
      obtain ⟨g, h⟩ := ih.mp f
      exact ⟨⟨a, b, e, g⟩, h⟩
    · rintro ⟨⟨a, b, e, g⟩, h⟩
      exact ⟨a, b, e, ih.mpr ⟨g, h⟩⟩
/-- from the first pairs to more of them -/
theorem hours_take {d : Int} : ∀ {ps : List (Int × Int)} {c : Int} (i : Nat), hoursOk d c ps → hoursOk d c (ps.take i)
  | [], _, i, _ => by cases i <;> exact trivial
  | q :: r, c, 0, _ => trivial
  | q :: r, c, i + 1, h => ⟨h.1, h.2.1, h.2.2.1, hours_take i h.2.2.2⟩
theorem pairs_of {K : PySem.W.Frag} {H : Hp} : ∀ {qs : List (Int × Int)} {xs : List V}, Paired (GPairX K H) (qs.map fun p => [p.1, p.2]) xs → Paired (GPair K H) qs xs
  | [], _, h => by cases h; exact .nil
  | p :: r, _, h => by
    cases h with
    | cons a b => exact .cons a (pairs_of b)
section
variable {Pg : Program} {w : World} {K : PySem.W.Frag} {mg : Str → Option Value} {base : Heap} {C P : Addr}
theorem ok_dayX {f : Addr} {fd : FuncData} {t1 : Tok} (F : Fun K "_checked_day" "_checked_day" sDay f fd) (T : TxtE mg K C) (hd : mg "LONGEST_DAY" = some (.int 1440 t1)) : FnOk Pg w K mg base (L2.CX Pg w) 1 f fd ["day"] (spDayX C P) := by
  refine F.okX scDay (fun vs H Q E h => ?_) (fun cdv A outer s H vs Q E hr h => ?_)
  · obtain ⟨d, rfl, _⟩ := h
    rfl
  · obtain ⟨d, rfl, hd9, hP, kQ, kE⟩ := h
    refine ⟨_, pss_cons (ps_if (pt_not (pt_chain op_le op_le pe_int (pv 0) (pe_gI hd))) (pss_one (ps_raise rfl (takes_of rfl rfl rfl rfl) (SkE.pmk_own1 PySem.F.excBase_ValueError T.xC T.gC T.kC (raises_own T.bC T.tC) (by rfl) (pe_joined (PJ.cons pe_str (PJ.cons (pe_fmt (pv 0)) (PJ.cons pe_str PJ.nil))))))) pss_nil)
      (pss_one (ps_ret (pv 0))), ?_⟩
    have bad : ¬ (1 ≤ d ∧ d ≤ 1440) → ∀ z : Str, E (.ref C) none H := fun h _ => (kE h).here hP
    have parts : ∀ t ∈ [tC (.str "a day has no "), tFmt (tVar 0), tC (.str " minutes")], Short t [some (V.int d)] H := fun t ht => by
      simp only [List.mem_cons, List.not_mem_nil, or_false] at ht
      rcases ht with rfl | rfl | rfl
      · exact short_c (by decide +kernel)
      · exact short_n rfl hd9
      · exact short_c (by decide +kernel)
    refine ⟨_, rfl, _, _, rfl, rfl, _, rfl, ?_⟩
    by_cases h1 : 1 ≤ d
    · refine if_t (decide_eq_true h1) ⟨_, _, rfl, rfl, _, rfl, ?_⟩
      by_cases h2 : d ≤ 1440
      · rw [decide_eq_true h2]
        exact iteF ⟨_, rfl, kQ h1 h2⟩
      · rw [decide_eq_false h2]
        refine iteT ?_
        exact tJs_ok (bad fun h => h2 h.2) 0 parts (Nat.zero_le _) (by decide)
    · rw [decide_eq_false h1]
      refine iteF ⟨_, rfl, iteT ?_⟩
      exact tJs_ok (bad fun h => h1 h.1) 0 parts (Nat.zero_le _) (by decide)
theorem ok_diffX {f : Addr} {fd : FuncData} (F : Fun K "_check_different" "_check_different" sDiff f fd) (T : TxtE mg K C) (hl : mg "len" = none) (hs : mg "set" = none) : FnOk Pg w K mg base (L2.CX Pg w) 1 f fd ["parts"] (spDiffX K C P) := by
  refine F.okX scDiff (fun vs H Q E h => ?_) (fun cdv A outer s H vs Q E hr h => ?_)
  · obtain ⟨a, rfl, _⟩ := h
    rfl
  · obtain ⟨a, rfl, hP, (⟨ns, hS, h1, kQ, kE⟩ | ⟨ks, hS, ht, h1, kQ, kE⟩)⟩ := h
    · refine ⟨_, pss_one (ps_if (pt_cmpR op_lt (pe_lenSetS rfl hl hs (pv 0)) (pe_callB call_len_seq (by rfl) hl PySem.boot_len (pa_cons (pv 0) pa_nil)) (nomark _)) (pss_one (ps_raise rfl (takes_of rfl rfl rfl rfl) (SkE.pmk_own1 PySem.F.excBase_ValueError T.xC T.gC T.kC (raises_own T.bC T.tC) (by rfl) pe_str))) pss_nil), ?_⟩
      refine ⟨_, rfl, a, ns, rfl, hS, by omega, fun n hc => ?_⟩
      refine ⟨_, rfl, a, _, rfl, hS, _, _, rfl, rfl, _, rfl, ?_⟩
      rw [List.length_map]
      by_cases nd : ns.Nodup
      · have e : n = ns.length := hc.eq.mpr nd
        subst e
        exact if_f (decide_eq_false (Int.lt_irrefl _)) (kQ nd)
      · have e : n ≠ ns.length := fun z => nd (hc.eq.mp z)
        have := hc.le
        exact if_t (decide_eq_true (by omega)) ((kE nd).here hP)
    · refine ⟨_, pss_one (ps_if (pt_cmpR op_lt (pe_lenSetP rfl hr.units hl hs (pv 0)) (pe_callB call_len_seq (by rfl) hl PySem.boot_len (pa_cons (pv 0) pa_nil)) (nomark _)) (pss_one (ps_raise rfl (takes_of rfl rfl rfl rfl) (SkE.pmk_own1 PySem.F.excBase_ValueError T.xC T.gC T.kC (raises_own T.bC T.tC) (by rfl) pe_str))) pss_nil), ?_⟩
      refine ⟨_, rfl, a, ks, rfl, .inl hS, ht, h1, fun n hc => ?_⟩
      refine ⟨_, rfl, a, _, rfl, .inl hS, _, _, rfl, rfl, _, rfl, ?_⟩
      rw [List.length_map]
      by_cases nd : (ks.map (·.2)).Nodup
      · have e : n = (ks.map (·.2)).length := hc.eq.mpr nd
        rw [List.length_map] at e
        subst e
        exact if_f (decide_eq_false (Int.lt_irrefl _)) (kQ nd)
      · have e : n ≠ (ks.map (·.2)).length := fun z => nd (hc.eq.mp z)
        have := hc.le
        rw [List.length_map] at e this
        exact if_t (decide_eq_true (by omega)) ((kE nd).here hP)
theorem ok_hoursX {f : Addr} {fd : FuncData} {t1 : Tok} (F : Fun K "_checked_hours" "_checked_hours" sHours f fd) (T : TxtE mg K C) (hl : mg "len" = none) (ht : mg "tuple" = none) (hp : mg "MOST_PAIRS" = some (.int 4 t1)) : FnOk Pg w K mg base (L2.CX Pg w) 1 f fd ["hours", "day"] (spHoursX K C P) := by
  refine F.okX scHours (fun vs H Q E h => ?_) (fun cdv A outer s H vs Q E hr h => ?_)
  · obtain ⟨d, hs, hv, rfl, _⟩ := h
    rfl
  · obtain ⟨d, hs, hv, rfl, g, hsmall, hP, kQ, kE⟩ := h
    refine ⟨_, pss_cons (ps_if (pt_cmp (pc_isN (pv 0))) (pss_one (ps_ret pe_non)) pss_nil)
      (pss_cons (ps_if (pt_cmpR op_gt (pe_callB call_len_seq (by rfl) hl PySem.boot_len (pa_cons (pv 0) pa_nil)) (pe_gI hp) (nomark _)) (pss_one (ps_raise rfl (takes_of rfl rfl rfl rfl) (SkE.pmk_own1 PySem.F.excBase_ValueError T.xC T.gC T.kC (raises_own T.bC T.tC) (by rfl) (pe_joined (PJ.cons pe_str (PJ.cons (pe_fmt (pe_gI hp)) (PJ.cons pe_str PJ.nil))))))) pss_nil)
      (pss_cons (ps_set (i := 2) scHours.nd rfl (Or.inl rfl) (pe_un un_neg pe_int))
      (pss_cons (ps_for (passes_of rfl) rfl (pi_sq (pv 0)) (pg_name (i := 3) scHours.nd rfl (Or.inl rfl))
        (pss_cons (ps_if (pt_cmpR op_ne (pe_callB call_len_seq (by rfl) hl PySem.boot_len (pa_cons (pv 3) pa_nil)) pe_int (nomark _)) (pss_one (ps_raise rfl (takes_of rfl rfl rfl rfl) (SkE.pmk_own1 PySem.F.excBase_ValueError T.xC T.gC T.kC (raises_own T.bC T.tC) (by rfl) pe_str))) pss_nil)
        (pss_cons (ps_if (pt_not (pt_chain3 op_lt op_lt op_le (pv 2) (pe_ix ix_tup (pv 3) pe_int (fun _ _ => rfl)) (pe_ix ix_tup (pv 3) pe_int (fun _ _ => rfl)) (pv 1))) (pss_one (ps_raise rfl (takes_of rfl rfl rfl rfl) (SkE.pmk_own1 PySem.F.excBase_ValueError T.xC T.gC T.kC (raises_own T.bC T.tC) (by rfl) pe_str))) pss_nil)
        (pss_one (ps_set (i := 2) scHours.nd rfl (Or.inl rfl) (pe_ix ix_tup (pv 3) pe_int (fun _ _ => rfl)))))))
      (pss_one (ps_ret (pe_callTy call_tuple_of (by rfl) ht (by decide +kernel) (pa_cons (pe_lc (own := [("pair", 3)]) (g := gName 3) (tt := tYes) rfl scHours.nd (pi_sq (pv 0)) (blkOk_by (N := nHours) (sc := defScope sHours) (by decide +kernel)) (fun _ _ _ _ _ => pg_name (i := 3) scHours.nd rfl (Or.inl rfl)) (fun _ _ _ _ _ => pts_nil)
          (fun _ _ _ _ _ => pe_callTy (r := rTupOf K) call_tuple_of (by rfl) ht (by decide +kernel) (pa_cons (pv 3) pa_nil))) pa_nil))))))), ?_⟩
    cases hs with
    | none =>
      obtain rfl : hv = .non := g
      refine ⟨_, rfl, _, rfl, ?_⟩
      exact iteT (kQ none rfl trivial H .non (Grew.refl hP) rfl)
    | some ps =>
      obtain ⟨l, xs, c, rfl, hS, hG⟩ := g
      have hlen := Paired.len hG
      have hps := hsmall ps rfl
      have bad : ¬ HoursGOk d (some ps) → E (.ref C) none H := fun h => (kE h).here hP
      refine ⟨_, rfl, _, rfl, ?_⟩
      refine iteF ?_
      refine ⟨_, rfl, l, _, rfl, hS.any, _, _, rfl, rfl, _, rfl, ?_⟩
      by_cases c4 : ps.length ≤ 4
      case neg =>
        refine if_t (decide_eq_true (by omega)) ?_
        refine tJs_ok (fun _ => bad fun ⟨h, e, o⟩ => ?_) 0 (fun t ht => ?_) (Nat.zero_le _) (by decide)
        · cases h with
          | none => cases e
          | some qs =>
            have e' := Option.some.inj e
            have := o.1
            rw [e', List.length_map] at c4
            exact c4 this
        · simp only [List.mem_cons, List.not_mem_nil, or_false] at ht
          rcases ht with rfl | rfl | rfl
          · exact short_c (by decide +kernel)
          · exact short_g (by decide)
          · exact short_c (by decide +kernel)
      refine if_f (decide_eq_false (by omega)) ?_
      refine ⟨1, rfl, ?_⟩
      refine ⟨_, rfl, c, l, rfl, ⟨_, hS⟩, for_sq (K := K) (c := c) (a := l) (xs := xs) (fun i σ H' => H' = H ∧ ∃ (v : Option V) (qs : List (Int × Int)), ps.take i = qs.map (fun p => [p.1, p.2]) ∧ hoursOk d (-1) qs ∧ σ = [some (.ref l), some (.int d), some (.int (lastOf (-1) qs qs.length)), v])
        ⟨rfl, none, [], by rw [List.take_zero]; rfl, trivial, rfl⟩ (fun i σ H' _ ⟨e, _⟩ => by rw [e]; exact hS) ?_ ?_⟩
      · rintro i y σ H' hi ⟨rfl, v, qs, eqs, hok, rfl⟩
        obtain ⟨p, hp, t, rfl, hT⟩ := Paired.at hG hi
        have enext : ps.take (i + 1) = qs.map (fun p => [p.1, p.2]) ++ [p] := by rw [List.take_succ, hp, eqs]; rfl
        refine ⟨_, rfl, t, _, rfl, .inr hT, rfl, _, rfl, ?_⟩
        rw [List.length_map]
        by_cases c2 : p.length = 2
        case neg =>
          refine if_t (by rw [decide_eq_false (fun e => c2 (by injection e with e; omega))]; rfl) (bad fun ⟨h, e, o⟩ => ?_)
          cases h with
          | none => cases e
          | some rs =>
            have e' := Option.some.inj e
            have hm : p ∈ ps := List.mem_of_getElem? hp
            rw [e'] at hm
            obtain ⟨z, _, ez⟩ := List.mem_map.mp hm
            rw [← ez] at c2
            exact c2 rfl
        refine if_f (by rw [decide_eq_true (by rw [c2]; rfl)]; rfl) ?_
        obtain ⟨a0, b0, rfl⟩ : ∃ a0 b0, p = [a0, b0] := by
          match p, c2 with
          | [a0, b0], _ => exact ⟨a0, b0, rfl⟩
        have e0 : atI (([a0, b0] : List Int).map V.int) 0 = some (.int a0) := rfl
        have e1 : atI (([a0, b0] : List Int).map V.int) 1 = some (.int b0) := rfl
        have hqn : ¬ (lastOf (-1) qs qs.length < a0 ∧ a0 < b0 ∧ b0 ≤ d) → E (.ref C) none H' := fun hn => bad fun ⟨h, e, o⟩ => by
          cases h with
          | none => cases e
          | some rs =>
            have e' : ps = rs.map (fun p => [p.1, p.2]) := Option.some.inj e
            have o2 := hours_take (i + 1) o.2
            have e3 : (rs.take (i + 1)).map (fun p => [p.1, p.2]) = (qs ++ [(a0, b0)]).map (fun p => [p.1, p.2]) := by
              rw [List.map_take, ← e', enext, List.map_append]
              rfl
            have inj : ∀ x y : Int × Int, [x.1, x.2] = [y.1, y.2] → x = y := fun x y h => by
              have h1 := (List.cons.inj h).1
              have h2 := (List.cons.inj (List.cons.inj h).2).1
              exact Prod.ext h1 h2
            have e4 : rs.take (i + 1) = qs ++ [(a0, b0)] := List.map_inj_right inj |>.mp e3
            rw [e4] at o2
            exact hn (hours_snoc.mp o2).2
        refine ⟨_, rfl, _, rfl, t, _, 0, _, rfl, rfl, hT, e0, _, _, rfl, rfl, _, rfl, ?_⟩
        by_cases o1 : lastOf (-1) qs qs.length < a0
        case neg =>
          rw [decide_eq_false o1]
          exact iteF ⟨_, rfl, iteT (hqn fun h => o1 h.1)⟩
        refine if_t (decide_eq_true o1) ⟨_, rfl, t, _, 1, _, rfl, rfl, hT, e1, _, _, rfl, rfl, _, rfl, ?_⟩
        by_cases o2 : a0 < b0
        case neg =>
          rw [decide_eq_false o2]
          exact iteF ⟨_, rfl, iteT (hqn fun h => o2 h.2.1)⟩
        refine if_t (decide_eq_true o2) ⟨_, rfl, _, _, rfl, rfl, _, rfl, ?_⟩
        by_cases o3 : b0 ≤ d
        case neg =>
          rw [decide_eq_false o3]
          exact iteT (hqn fun h => o3 h.2.2)
        rw [decide_eq_true o3]
        refine iteF ⟨_, rfl, t, _, 1, _, rfl, rfl, hT, e1, rfl, some (.ref t), qs ++ [(a0, b0)], ?_, hours_snoc.mpr ⟨hok, o1, o2, o3⟩, ?_⟩
        · rw [enext, List.map_append]
          rfl
        · have e5 : lastOf (-1) (qs ++ [(a0, b0)]) (qs ++ [(a0, b0)]).length = b0 := by
            unfold lastOf
            rw [List.take_length]
            simp
          rw [e5]
          rfl
      · rintro σ H' ⟨rfl, v, qs, eqs, hok, rfl⟩
        rw [← hlen, List.take_length] at eqs
        refine ⟨_, rfl, c, l, rfl, ⟨_, hS⟩, fun D nD => lc_sq (K := K) (c := c) (a := l) (xs := xs) (fun i H1 => Grew P H' H1 ∧ H1 D = some (.lst (xs.take i)) ∨ False)
          (.inl ⟨Grew.new hP nD, upd_same⟩) (fun i H1 _ p => p.elim (fun p => hS.grew p.1 hP) False.elim) (fun i x H1 hx p => ?_) (fun H1 p => ?_)⟩
        · obtain ⟨g, hD⟩ := p.elim id False.elim
          obtain ⟨p, hp, t, rfl, hT⟩ := Paired.at hG hx
          refine ⟨rfl, _, rfl, t, _, rfl, .inr ⟨g.sqT hP hT, _, hD, ?_, .inl ⟨g.write hD (fun _ z => by cases z) nD, ?_⟩⟩⟩
          · rw [List.length_take, sizeLine_eq]; omega
          · rw [upd_same, List.take_succ, hx]; rfl
        · obtain ⟨g, hD⟩ := p.elim id False.elim
          rw [List.take_length] at hD
          refine ⟨D, _, rfl, .inl ⟨SqL.of hD, fun q nq => ?_⟩⟩
          have gq := g.put (o := .tup xs) nq
          have hG2 : Paired (GPair K (L2.upd H1 q (.tup xs))) qs xs := pairs_of (by
            rw [eqs] at hG
            exact Paired.map' hG fun a b m => m.keep (KeepT.grew gq hP))
          refine kQ (some qs) (by rw [eqs]; rfl) ⟨?_, hok⟩ _ _ gq ⟨q, xs, rfl, SqT.of upd_same, hG2⟩
          rw [eqs, List.length_map] at c4
          exact c4
end
end W

set_option Elab.async false
set_option linter.all false
set_option maxRecDepth 100000
set_option maxHeartbeats 1000000
namespace W
open PySem PySem.Spec PyProof.Rows L2 GxR MyG MyS SqX
def NamesOk (lo hi : Int) (ns : List Str) : Prop := lo ≤ ns.length ∧ (ns.length : Int) ≤ hi ∧ ns.all isNm = true ∧ ns.Nodup
def spNamesX (K : PySem.W.Frag) (C P : Addr) : Sp := fun vs H Q E => ∃ (a : Addr) (c : Bool) (ns : List Str) (lo hi : Int), vs = [.ref a, .int lo, .int hi] ∧ SqK c K H a (ns.map V.str) ∧ ns.length ≤ 1000 ∧ (∀ z ∈ ns, z.length ≤ 1000) ∧ lo.natAbs < 1000 ∧ hi.natAbs < 1000 ∧ TabG H P ∧
  (NamesOk lo hi ns → ∀ H' p ys, Grew P H H' → H p = none → H' p = some (.tup (ys.map V.str)) → ys.Perm ns → Asc ys → Q (.ref p) H') ∧ (¬ NamesOk lo hi ns → BadM C P H E)
/-- a road as it is given -/
structure RoadG where
  name : Str
  start : Str
  goal : Str
  minutes : Int
  users : List Str
  hours : Option (List (List Int))
def rG (r : RoadD) : RoadG := ⟨r.name, r.start, r.goal, r.minutes, r.users, hoursG r.hours⟩
def GRoadX (K : PySem.W.Frag) (H : Hp) (r : RoadG) (v : V) : Prop := ∃ (t u : Addr) (h : V) (c : Bool), v = .ref t ∧ SqT K H t [.str r.name, .str r.start, .str r.goal, .int r.minutes, .ref u, h] ∧ SqK c K H u (r.users.map V.str) ∧ GHoursX K H r.hours h
theorem GRoadX.grew {K : PySem.W.Frag} {P : Addr} {H H' : Hp} {r : RoadG} {v : V} (g : Grew P H H') (hP : TabG H P) (h : GRoadX K H r v) : GRoadX K H' r v := by
  obtain ⟨t, u, x, c, a, b, d, e⟩ := h
  exact ⟨t, u, x, c, a, g.sqT hP b, d.grew g hP, e.grew g hP⟩
/-- of a size that is told -/
structure SmallG (r : RoadG) : Prop where
  n : r.name.length ≤ 1000
  s : r.start.length ≤ 1000
  g : r.goal.length ≤ 1000
  m : r.minutes.natAbs < 10 ^ 12
  ul : r.users.length ≤ 1000
  u : ∀ z ∈ r.users, z.length ≤ 1000
  h : ∀ ps, r.hours = some ps → ps.length ≤ 1000
def RoadGOk (d : Int) (ps ks : List Str) (r : RoadG) : Prop := ∃ r0, r = rG r0 ∧ RoadOk d ps ks r0
def spRoadX (K : PySem.W.Frag) (C P : Addr) : Sp := fun vs H Q E => ∃ (x : V) (pl ki : Addr) (d : Int) (ps ks : List Str) (r : RoadG), vs = [x, .int d, .ref pl, .ref ki] ∧ GRoadX K H r x ∧ SmallG r ∧ SqT K H pl (ps.map V.str) ∧ SqT K H ki (ks.map V.str) ∧ ks.length ≤ 4 ∧ TabG H P ∧
  (∀ r0, r = rG r0 → RoadOk d ps ks r0 → ∀ H' p q h r', Grew P H H' → Kept r0 r' → H p = none → H' p = some (.tup [.str r'.name, .str r'.start, .str r'.goal, .int r'.minutes, .ref q, h]) → H' q = some (.tup (r'.users.map V.str)) → GHours K H' r'.hours h → Q (.ref p) H') ∧
  (¬ RoadGOk d ps ks r → BadM C P H E)
theorem inV_dec (z : Str) (xs : List Str) : inV (.str z) (xs.map V.str) = decide (z ∈ xs) := by
  by_cases h : z ∈ xs
  · rw [inV_str h, decide_eq_true h]
  · rw [decide_eq_false h]
    unfold inV
    rw [List.any_map, List.any_eq_false]
    intro y hy e
    have q : y = z := by simpa [eqV] using e
    exact h (q ▸ hy)
theorem nodup_sub_len {α : Type} : ∀ {l m : List α}, l.Nodup → (∀ x ∈ l, x ∈ m) → l.length ≤ m.length
  | [], m, _, _ => Nat.zero_le _
  | a :: l, m, nd, h => by
    obtain ⟨s, t, rfl⟩ := List.append_of_mem (h a List.mem_cons_self)
    have nd' := List.nodup_cons.mp nd
    have := nodup_sub_len (l := l) (m := s ++ t) nd'.2 fun x hx => by
      have hm := h x (List.mem_cons_of_mem _ hx)
      rcases List.mem_append.mp hm with q | q
      · exact List.mem_append_left _ q
      · rcases List.mem_cons.mp q with e | q
        · rw [e] at hx; exact absurd hx nd'.1
        · exact List.mem_append_right _ q
    simp only [List.length_append, List.length_cons] at this ⊢
    omega
section
variable {Pg : Program} {w : World} {K : PySem.W.Frag} {mg : Str → Option Value} {base : Heap} {C P : Addr}
theorem ok_namesX {f fN fD : Addr} {fd fdN fdD : FuncData} (F : Fun K "_checked_names" "_checked_names" sNames f fd) (T : TxtE mg K C) (hl : mg "len" = none) (ht : mg "tuple" = none) (hs : mg "sorted" = none)
    (GN : FnOk Pg w K mg base CX0 2 fN fdN ["text"] (spIsName P)) (gN : mg "is_name" = some (.ref fN)) (kN : PySem.W.keepIn K (.ref fN) = true) (bN : Binds K fdN ["text"] [])
    (GD : FnOk Pg w K mg base (L2.CX Pg w) 1 fD fdD ["parts"] (spDiffX K C P)) (gD : mg "_check_different" = some (.ref fD)) (kD : PySem.W.keepIn K (.ref fD) = true) (bD : Binds K fdD ["parts"] []) :
    FnOk Pg w K mg base (L2.CX Pg w) 3 f fd ["names", "least", "most"] (spNamesX K C P) := by
  refine F.okX scNames (fun vs H Q E h => ?_) (fun cdv A outer s H vs Q E hr h => ?_)
  · obtain ⟨a, c, ns, lo, hi, rfl, _⟩ := h
    rfl
  · obtain ⟨a, c, ns, lo, hi, rfl, hS, h1, hz, hlo9, hhi9, hP, kQ, kE⟩ := h
    have hr1 : Room 1 _ := hr.mono (by decide)
    refine ⟨_, pss_cons (ps_if (pt_not (pt_chain op_le op_le (pv 1) (pe_callB call_len_seq (by rfl) hl PySem.boot_len (pa_cons (pv 0) pa_nil)) (pv 2))) (pss_one (ps_raise rfl (takes_of rfl rfl rfl rfl) (SkE.pmk_own1 PySem.F.excBase_ValueError T.xC T.gC T.kC (raises_own T.bC T.tC) (by rfl)
          (pe_joined (PJ.cons pe_str (PJ.cons (pe_fmt (pv 1)) (PJ.cons pe_str (PJ.cons (pe_fmt (pv 2)) (PJ.cons pe_str (PJ.cons (pe_fmt (pe_callB call_len_seq (by rfl) hl PySem.boot_len (pa_cons (pv 0) pa_nil))) PJ.nil)))))))))) pss_nil)
      (pss_cons (ps_for (passes_of rfl) rfl (pi_sq (pv 0)) (pg_name (i := 3) scNames.nd rfl (Or.inl rfl))
        (pss_one (ps_if (pt_not (pt_val (pe_call GN (hr.mono (by decide)) (by rfl) gN kN bN .nil pass0 (pa_cons (pv 3) pa_nil)))) (pss_one (ps_raise rfl (takes_of rfl rfl rfl rfl) (SkE.pmk_own1 PySem.F.excBase_ValueError T.xC T.gC T.kC (raises_own T.bC T.tC) (by rfl) (pe_joined (PJ.cons pe_str (PJ.cons (pe_fmt (pv 3)) PJ.nil)))))) pss_nil)))
      (pss_cons (ps_expr (pe_call (E := E) GD hr1 (by rfl) gD kD bD .nil (passes_call (takes_of rfl rfl rfl rfl) (fun _ _ _ _ h => h)) (pa_cons (pv 0) pa_nil)))
      (pss_one (ps_ret (pe_callTy call_tuple_of (by rfl) ht (by decide +kernel) (pa_cons (pe_callB cr_sortSQ (by rfl) hs (by decide +kernel) (pa_cons (pv 0) pa_nil)) pa_nil)))))), ?_⟩
    have parts : ∀ t ∈ [tC (.str "not from "), tFmt (tVar 1), tC (.str " to "), tFmt (tVar 2), tC (.str " names: "), tFmt (tCB (fun xs H Q => ∃ p ys, xs = [V.ref p] ∧ (SqL K H p ys ∨ SqT K H p ys) ∧ Q (V.int ys.length) H) (tCons (tVar 0) tNil))], Short t [some (V.ref a), some (V.int lo), some (V.int hi), none] H := fun t ht => by
      simp only [List.mem_cons, List.not_mem_nil, or_false] at ht
      rcases ht with rfl | rfl | rfl | rfl | rfl | rfl
      · exact short_c (by decide +kernel)
      · exact short_n rfl (by omega)
      · exact short_c (by decide +kernel)
      · exact short_n rfl (by omega)
      · exact short_c (by decide +kernel)
      · exact short_i (n := (ns.length : Int)) (fun Q q => ⟨_, rfl, a, _, rfl, hS.any, by rw [List.length_map]; exact q⟩) (by omega)
    have bad : ¬ NamesOk lo hi ns → ∀ z : Str, E (.ref C) none H := fun h _ => (kE h).here hP
    refine ⟨_, rfl, _, rfl, a, _, rfl, hS.any, _, _, rfl, rfl, _, rfl, ?_⟩
    rw [List.length_map]
    by_cases q1 : lo ≤ ns.length
    case neg =>
      rw [decide_eq_false q1]
      refine iteF ⟨_, rfl, iteT ?_⟩
      exact tJs_ok (bad fun h => q1 h.1) 0 parts (Nat.zero_le _) (by show 0 + 1000 * 6 ≤ 100000; decide)
    refine if_t (decide_eq_true q1) ⟨_, rfl, _, _, rfl, rfl, _, rfl, ?_⟩
    by_cases q2 : (ns.length : Int) ≤ hi
    case neg =>
      rw [decide_eq_false q2]
      refine iteT ?_
      exact tJs_ok (bad fun h => q2 h.2.1) 0 parts (Nat.zero_le _) (by show 0 + 1000 * 6 ≤ 100000; decide)
    rw [decide_eq_true q2]
    refine iteF ⟨_, rfl, c, a, rfl, ⟨_, hS⟩, for_sq (K := K) (c := c) (a := a) (xs := ns.map V.str) (fun i σ H' => ∃ v, σ = [some (.ref a), some (.int lo), some (.int hi), v] ∧ Grew P H H' ∧ (ns.take i).all isNm = true)
      ⟨none, rfl, Grew.refl hP, by rw [List.take_zero]; rfl⟩ (fun i σ H' _ ⟨_, _, g, _⟩ => hS.grew g hP) ?_ ?_⟩
    · rintro i y σ H' hi ⟨v, rfl, g, hall⟩
      obtain ⟨z, hzi, rfl⟩ : ∃ z, ns[i]? = some z ∧ y = V.str z := by
        rw [List.getElem?_map] at hi
        obtain ⟨z, e1, e2⟩ := Option.map_eq_some_iff.mp hi
        exact ⟨z, e1, e2.symm⟩
      have hzl := hz z (List.mem_of_getElem? hzi)
      refine ⟨_, rfl, z, rfl, by rw [sizeLine_eq]; omega, g.tab, fun H2 t2 => ⟨_, rfl, ?_⟩⟩
      have g2 := g.trans (Grew.of t2)
      cases hn : isNm z with
      | true => exact iteF ⟨_, rfl, g2, by rw [List.take_succ, hzi, List.all_append, hall]; simp [hn]⟩
      | false =>
        refine iteT ?_
        refine tJs_ok (fun _ => kE (fun h => ?_) _ g2) 0 (fun t ht => ?_) (Nat.zero_le _) (by decide)
        · have := List.all_eq_true.mp h.2.2.1 z (List.mem_of_getElem? hzi)
          rw [hn] at this
          cases this
        · simp only [List.mem_cons, List.not_mem_nil, or_false] at ht
          rcases ht with rfl | rfl
          · exact short_c (by decide +kernel)
          · exact short_v rfl hzl
    · rintro σ H' ⟨v, rfl, g, hall⟩
      rw [List.length_map, List.take_length] at hall
      refine ⟨_, rfl, a, rfl, g.tab, .inl ⟨ns, (hS.grew g hP).any, h1, fun nd => ?_, fun nd => (kE fun h => nd h.2.2.2).on g⟩⟩
      refine ⟨_, rfl, a, ns, rfl, (hS.grew g hP).any, fun ys l hp hso hl => ⟨l, _, rfl, .inl ⟨SqL.of upd_same, fun p hp2 => ?_⟩⟩⟩
      have gl := g.put (o := .lst (ys.map V.str)) hl
      exact kQ ⟨q1, q2, hall, nd⟩ _ p ys (gl.put hp2) (gl.free hp2) upd_same hp hso
theorem ok_roadX {f fH fD : Addr} {fd fdH fdD : FuncData} {t1 : Tok} (F : Fun K "_checked_road" "_checked_road" sRoad f fd) (T : TxtE mg K C) (ht : mg "tuple" = none) (hs : mg "sorted" = none) (hm : mg "MOST_MINUTES" = some (.int 1000 t1))
    (GD : FnOk Pg w K mg base (L2.CX Pg w) 1 fD fdD ["parts"] (spDiffX K C P)) (gD : mg "_check_different" = some (.ref fD)) (kD : PySem.W.keepIn K (.ref fD) = true) (bD : Binds K fdD ["parts"] [])
    (GH : FnOk Pg w K mg base (L2.CX Pg w) 1 fH fdH ["hours", "day"] (spHoursX K C P)) (gH : mg "_checked_hours" = some (.ref fH)) (kH : PySem.W.keepIn K (.ref fH) = true) (bH : Binds K fdH ["hours", "day"] []) :
    FnOk Pg w K mg base (L2.CX Pg w) 2 f fd ["road", "day", "places", "kinds"] (spRoadX K C P) := by
  refine F.okX scRoad (fun vs H Q E h => ?_) (fun cdv A outer s H vs Q E hr h => ?_)
  · obtain ⟨x, pl, ki, d, ps, ks, r, rfl, _⟩ := h
    rfl
  · obtain ⟨x, pl, ki, d, ps, ks, r, rfl, ⟨t, u, h, c, rfl, hT, hU, hH⟩, sm, hPl, hKi, hk4, hP, kQ, kE⟩ := h
    refine ⟨_, pss_cons (ps_asg (pv 0) (pg_tup (by rfl) (pgs_cons (pg_name (i := 4) scRoad.nd rfl (.inl rfl)) (pgs_cons (pg_name (i := 5) scRoad.nd rfl (.inl rfl)) (pgs_cons (pg_name (i := 6) scRoad.nd rfl (.inl rfl))
        (pgs_cons (pg_name (i := 7) scRoad.nd rfl (.inl rfl)) (pgs_cons (pg_name (i := 8) scRoad.nd rfl (.inl rfl)) (pgs_cons (pg_name (i := 9) scRoad.nd rfl (.inl rfl)) pgs_nil))))))))
      (C8.pss_cut (ps_if (PW.pt (pw_or (pt_cmpR op_notIn_seq (pv 5) (pv 2) (by rfl)) (pw_or1 (pt_cmpR op_notIn_seq (pv 6) (pv 2) (by rfl))))) (pss_one (ps_raise rfl (takes_of rfl rfl rfl rfl) (SkE.pmk_own1 PySem.F.excBase_ValueError T.xC T.gC T.kC (raises_own T.bC T.tC) (by rfl) (pe_joined (PJ.cons pe_str (PJ.cons (pe_fmt (pv 4)) (PJ.cons pe_str PJ.nil))))))) pss_nil)
      (pss_cons (ps_if (pt_not (pt_chain op_le op_le pe_int (pv 7) (pe_gI hm))) (pss_one (ps_raise rfl (takes_of rfl rfl rfl rfl) (SkE.pmk_own1 PySem.F.excBase_ValueError T.xC T.gC T.kC (raises_own T.bC T.tC) (by rfl) (pe_joined (PJ.cons pe_str (PJ.cons (pe_fmt (pv 4)) (PJ.cons pe_str (PJ.cons (pe_fmt (pv 7)) (PJ.cons pe_str PJ.nil))))))))) pss_nil)
      (pss_cons (ps_for (passes_of rfl) rfl (pi_sq (pv 8)) (pg_name (i := 10) scRoad.nd rfl (Or.inl rfl)) (pss_one (ps_if (pt_cmpR op_notIn_seq (pv 10) (pv 3) (by rfl)) (pss_one (ps_raise rfl (takes_of rfl rfl rfl rfl) (SkE.pmk_own1 PySem.F.excBase_ValueError T.xC T.gC T.kC (raises_own T.bC T.tC) (by rfl) (pe_joined (PJ.cons pe_str (PJ.cons (pe_fmt (pv 4)) (PJ.cons pe_str (PJ.cons (pe_fmt (pv 10)) PJ.nil)))))))) pss_nil)))
      (pss_cons (ps_expr (pe_call (E := E) GD (hr.mono (by decide)) (by rfl) gD kD bD .nil (passes_call (takes_of rfl rfl rfl rfl) (fun _ _ _ _ h => h)) (pa_cons (pv 8) pa_nil)))
      (pss_one (ps_ret (pe_tup (pa_cons (pv 4) (pa_cons (pv 5) (pa_cons (pv 6) (pa_cons (pv 7) (pa_cons (pe_callTy call_tuple_of (by rfl) ht (by decide +kernel) (pa_cons (pe_callB cr_sortSQ (by rfl) hs (by decide +kernel) (pa_cons (pv 8) pa_nil)) pa_nil))
        (pa_cons (pe_call (E := E) GH (hr.mono (by decide)) (by rfl) gH kH bH .nil (passes_call (takes_of rfl rfl rfl rfl) (fun _ _ _ _ h => h)) (pa_cons (pv 9) (pa_cons (pv 1) pa_nil))) pa_nil))))))))))))), ?_⟩
    have bad : ¬ RoadGOk d ps ks r → E (.ref C) none H := fun h => (kE h).here hP
    refine ⟨_, rfl, t, _, rfl, hT, rfl, _, _, rfl, _, _, rfl, _, _, rfl, _, _, rfl, _, _, rfl, _, _, rfl, rfl, ?_⟩
    obtain ⟨S, eS⟩ : ∃ S : L2.St, S = [some (V.ref t), some (.int d), some (.ref pl), some (.ref ki), some (.str r.name), some (.str r.start), some (.str r.goal), some (.int r.minutes), some (.ref u), some h, none] := ⟨_, rfl⟩
    refine ⟨fun σ H' => σ = S ∧ H' = H ∧ r.start ∈ ps ∧ r.goal ∈ ps, ?_, ?_⟩
    · have parts : ∀ t ∈ [tC (.str "the road "), tFmt (tVar 4), tC (.str " does not lead from a place to a place")], Short t S H := fun t ht => by
        simp only [List.mem_cons, List.not_mem_nil, or_false] at ht
        rcases ht with rfl | rfl | rfl
        · exact short_c (by decide +kernel)
        · exact short_v (y := r.name) (by rw [eS]; rfl) sm.n
        · exact short_c (by decide +kernel)
      rw [eS] at parts
      refine ⟨_, rfl, _, rfl, pl, _, rfl, .inr hPl, rfl, flat_strs _, _, rfl, ?_⟩
      rw [inV_dec]
      by_cases q1 : r.start ∈ ps
      case neg =>
        refine if_t (by rw [decide_eq_false q1]; rfl) ?_
        exact tJs_ok (fun _ => bad fun ⟨r0, e, o⟩ => q1 (by rw [e]; exact o.s)) 0 parts (Nat.zero_le _) (by decide)
      refine if_f (by rw [decide_eq_true q1]; rfl) ?_
      refine ⟨_, rfl, _, rfl, pl, _, rfl, .inr hPl, rfl, flat_strs _, _, rfl, ?_⟩
      rw [inV_dec]
      by_cases q2 : r.goal ∈ ps
      case neg =>
        refine if_t (by rw [decide_eq_false q2]; rfl) ?_
        exact tJs_ok (fun _ => bad fun ⟨r0, e, o⟩ => q2 (by rw [e]; exact o.g)) 0 parts (Nat.zero_le _) (by decide)
      exact if_f (by rw [decide_eq_true q2]; rfl) ⟨eS.symm, rfl, q1, q2⟩
    rintro σ H' ⟨eσ, eH, hs1, hs2⟩
    rw [eσ, eS, eH]
    have parts : ∀ t ∈ [tC (.str "the road "), tFmt (tVar 4), tC (.str " cannot take "), tFmt (tVar 7), tC (.str " minutes")], Short t S H := fun t ht => by
      simp only [List.mem_cons, List.not_mem_nil, or_false] at ht
      rcases ht with rfl | rfl | rfl | rfl | rfl
      · exact short_c (by decide +kernel)
      · exact short_v (y := r.name) (by rw [eS]; rfl) sm.n
      · exact short_c (by decide +kernel)
      · exact short_n (n := r.minutes) (by rw [eS]; rfl) sm.m
      · exact short_c (by decide +kernel)
    rw [eS] at parts
    refine ⟨_, rfl, _, _, rfl, rfl, _, rfl, ?_⟩
    by_cases m1 : 1 ≤ r.minutes
    case neg =>
      rw [decide_eq_false m1]
      refine iteF ⟨_, rfl, iteT ?_⟩
      exact tJs_ok (fun _ => bad fun ⟨r0, e, o⟩ => m1 (by rw [e]; exact o.m1)) 0 parts (Nat.zero_le _) (by decide)
    refine if_t (decide_eq_true m1) ⟨_, _, rfl, rfl, _, rfl, ?_⟩
    by_cases m2 : r.minutes ≤ 1000
    case neg =>
      rw [decide_eq_false m2]
      refine iteT ?_
      exact tJs_ok (fun _ => bad fun ⟨r0, e, o⟩ => m2 (by rw [e]; exact o.m2)) 0 parts (Nat.zero_le _) (by decide)
    rw [decide_eq_true m2]
    refine iteF ?_
    refine ⟨_, rfl, c, u, rfl, ⟨_, hU⟩, for_sq (K := K) (c := c) (a := u) (xs := r.users.map V.str) (fun i σ H' => H' = H ∧ (∃ v, σ = [some (.ref t), some (.int d), some (.ref pl), some (.ref ki), some (.str r.name), some (.str r.start), some (.str r.goal), some (.int r.minutes), some (.ref u), some h, v]) ∧ ∀ z ∈ r.users.take i, z ∈ ks)
      ⟨rfl, ⟨none, rfl⟩, fun z hz => by rw [List.take_zero] at hz; cases hz⟩ (fun i σ H' _ ⟨e, _⟩ => by rw [e]; exact hU) ?_ ?_⟩
    · rintro i y σ H' hi ⟨rfl, ⟨v, rfl⟩, hin⟩
      obtain ⟨z, hzi, rfl⟩ : ∃ z, r.users[i]? = some z ∧ y = V.str z := by
        rw [List.getElem?_map] at hi
        obtain ⟨z, e1, e2⟩ := Option.map_eq_some_iff.mp hi
        exact ⟨z, e1, e2.symm⟩
      have hzm := List.mem_of_getElem? hzi
      refine ⟨_, rfl, _, rfl, ki, _, rfl, .inr hKi, rfl, flat_strs _, _, rfl, ?_⟩
      rw [inV_dec]
      by_cases q : z ∈ ks
      case neg =>
        refine if_t (by rw [decide_eq_false q]; rfl) ?_
        refine tJs_ok (fun _ => bad fun ⟨r0, e, o⟩ => q (o.u z (by rw [e] at hzm; exact hzm))) 0 (fun t ht => ?_) (Nat.zero_le _) (by decide)
        simp only [List.mem_cons, List.not_mem_nil, or_false] at ht
        rcases ht with rfl | rfl | rfl | rfl
        · exact short_c (by decide +kernel)
        · exact short_v (y := r.name) rfl sm.n
        · exact short_c (by decide +kernel)
        · exact short_v (y := z) rfl (sm.u z hzm)
      refine if_f (by rw [decide_eq_true q]; rfl) ⟨rfl, ⟨_, rfl⟩, fun x hx => ?_⟩
      rw [List.take_succ, hzi] at hx
      rcases List.mem_append.mp hx with hx | hx
      · exact hin x hx
      · rw [List.mem_singleton.mp hx]; exact q
    · rintro σ H' ⟨rfl, ⟨v, rfl⟩, hin⟩
      rw [List.length_map, List.take_length] at hin
      refine ⟨_, rfl, u, rfl, hP, .inl ⟨r.users, hU.any, sm.ul, fun nd => ?_, fun nd => kE fun ⟨r0, e, o⟩ => nd (by rw [e]; exact o.ud)⟩⟩
      have un : r.users.length ≤ 4 := Nat.le_trans (nodup_sub_len nd hin) hk4
      refine ⟨_, rfl, _, rfl, _, rfl, _, rfl, _, rfl, u, r.users, rfl, hU.any, fun ys l hp hso hl => ⟨l, _, rfl, .inl ⟨SqL.of upd_same, fun q hq => ?_⟩⟩⟩
      have gl := Grew.new hP (o := .lst (ys.map V.str)) hl
      have gq := gl.put (o := .tup (ys.map V.str)) hq
      refine ⟨_, rfl, _, rfl, d, r.hours, h, rfl, hH.grew gq hP, sm.h, gq.tab, fun hh ehh okh H2 v' g2 hv => ⟨by show 6 ≤ sizeLine; decide, fun p hp2 => ?_⟩, fun nh => (kE fun ⟨r0, e, o⟩ => nh ⟨r0.hours, by rw [e]; rfl, o.h⟩).on gq⟩
      have g3 := gq.trans g2
      have gp := g3.put (o := .tup [.str r.name, .str r.start, .str r.goal, .int r.minutes, .ref q, v']) hp2
      have e2 : H2 q = some (.tup (ys.map V.str)) := g2.tup gq.tab upd_same
      have er : r = rG ⟨r.name, r.start, r.goal, r.minutes, r.users, hh⟩ := by
        unfold rG
        rw [← ehh]
      exact kQ ⟨r.name, r.start, r.goal, r.minutes, r.users, hh⟩ er ⟨hs1, hs2, m1, m2, hin, un, nd, okh⟩ _ p q v' ⟨r.name, r.start, r.goal, r.minutes, ys, hh⟩ gp ⟨rfl, rfl, rfl, rfl, rfl, hp, hso⟩ (g3.free hp2) upd_same (by rw [upd_ne (ne_of_none e2 hp2)]; exact e2) (hv.keep (KeepT.new hp2))
end
end W

set_option Elab.async false
set_option linter.all false
set_option maxRecDepth 100000
set_option maxHeartbeats 2000000
/-! a comprehension whose element (or test) may let an exception out -/
namespace CpX
open PySem PySem.Spec PyProof.Rows L2
/-- what a block lets out: an exception over the frames, and the block's own state without it -/
def OutB (X : Cx) (s : Shared) (H : Hp) (scope : Scope) (ce : Env) (fp : List Addr) (E : XK) (u : Value) (s' : Shared) : Prop :=
  ∃ (a : Addr) (B : Heap) (sI : Shared) (pb : List (Addr × Obj)) (σb : L2.St) (H' : Hp) (cls : Value) (d : Option Addr), u = .ref a ∧ Inv (X.blk s H scope ce fp) pb σb H' sI ∧ (∀ b o, sI.heap.get? b = some o → b ∉ frs X.stack → B.get? b = some o) ∧
    sI.heap.UpToSlots s'.heap ∧ HandSPX.FlyingZ B X.stack a (Zc cls d) s'.heap ∧ H' a = none ∧ s'.os = sI.os ∧ AllBare s'.gens ∧ E cls d H'
/-- the block with its wish -/
abbrev blkE (X : Cx) (E : XK) (s : Shared) (H : Hp) (scope : Scope) (ce : Env) (fp : List Addr) : Cx := (X.blk s H scope ce fp).wish (OutB X s H scope ce fp E)
/-- what a call lets out, over the state at the call without the exception's objects -/
theorem fly_of {X : Cx} {pins : List (Addr × Obj)} {σ : L2.St} {H : Hp} {s s' : Shared} {E : XK} {u : Value} (I : Inv X pins σ H s) (c : L2.CX X.prog X.w X.stack H s E u s') :
    ∃ (a : Addr) (B : Heap) (sI : Shared) (H' : Hp) (cls : Value) (d : Option Addr), u = .ref a ∧ Inv X pins σ H' sI ∧ (∀ b o, sI.heap.get? b = some o → b ∉ frs X.stack → B.get? b = some o) ∧ sI.heap.UpToSlots s'.heap ∧ HandSPX.FlyingZ B X.stack a (Zc cls d) s'.heap ∧ H' a = none ∧ s'.os = sI.os ∧ AllBare s'.gens ∧ E cls d H' := by
  obtain ⟨a, B, H', cls, d, rfl, fl, hok, ub, na, os, ag, hE⟩ := c
  obtain ⟨G, in1, out1⟩ := restrict s'.heap fun b => decide (b ∈ frs X.stack) || (B.get? b).isSome
  have here : ∀ b o, G.get? b = some o → s'.heap.get? b = some o ∧ (b ∈ frs X.stack ∨ (B.get? b).isSome = true) := fun b o e => by
    by_cases q : (decide (b ∈ frs X.stack) || (B.get? b).isSome) = true
    · rw [in1 b q] at e
      rw [Bool.or_eq_true, decide_eq_true_iff] at q
      exact ⟨e, q⟩
    · rw [out1 b (by simpa using q)] at e
      cases e
  have low : ∀ b o, B.get? b = some o → G.get? b = some o := fun b o e => (in1 b (by rw [e]; simp)).trans (fl.1 b o e)
  have frm : ∀ b, b ∈ frs X.stack → G.get? b = s'.heap.get? b := fun b hb => in1 b (by rw [decide_eq_true hb]; rfl)
  have un : Un (frs X.stack) [] H H' s.heap G := by
    refine ⟨fun b o e n hb _ => low b o (ub.keep b o e n hb), fun b o e _ hb _ => ?_, fun b o e n _ => ub.free b o e n, fun b o e _ => ?_, ub.tups, ub.frzs, ub.tbls⟩
    · obtain ⟨sl, q⟩ := ub.slot b o e hb
      exact ⟨sl, (frm b hb).trans q⟩
    · by_cases hb : b ∈ frs X.stack
      · obtain ⟨sl, q⟩ := ub.slot b o e hb
        exact ⟨_, (frm b hb).trans q⟩
      · obtain ⟨o', q⟩ := ub.there b o e hb
        exact ⟨o', low b o' q⟩
  have J := I.call (g' := s'.gens) (d' := s'.drawn) (t' := s'.toks) un (hok.kept low) ag (fun _ z => nomatch z)
  refine ⟨a, B, _, H', cls, d, rfl, J, fun b o e hb => ?_, fun b o e _ => ⟨o.slots, (here b o e).1⟩, fl, na, os, ag, hE⟩
  obtain ⟨e1, e2⟩ := here b o e
  rcases e2 with h | h
  · exact absurd h hb
  · obtain ⟨o', q⟩ := Option.isSome_iff_exists.mp h
    have z := fl.1 b o' q
    rw [e1] at z
    cases z
    exact q
/-- what a call in the block may let out -/
theorem passB {X : Cx} {E : XK} {s : Shared} {H : Hp} {scope : Scope} {ce : Env} {fp : List Addr} {Pg : Program} {w : World} (hP : X.prog = Pg) (hw : X.w = w) : Passes (L2.CX Pg w) (blkE X E s H scope ce fp) E := by
  subst hP hw
  intro pins σ Hc sc u s' I c
  obtain ⟨a, B, sI, H', cls, d, e, J, nb, up, fl, na, os, ag, hE⟩ := fly_of (X := X.blk s H scope ce fp) I.unwish c
  exact ⟨a, B, sI, pins, σ, H', cls, d, e, J, nb, up, fl, na, os, ag, hE⟩
theorem note_same {x : Value} {ce env : Env} (h : ce.frame = env.frame) : noteFrame x ce = noteFrame x env := by
  unfold noteFrame PySem.frameOf
  rw [h]
theorem ns_up {h h' : Heap} {a : Addr} {m : Str → Option Value} (n : h.Ns a m) (u : h.UpToSlots h') : h'.Ns a m := by
  obtain ⟨o, es, ep, ho, hd, r⟩ := n
  obtain ⟨sl, q⟩ := u a o ho (fun vs z => by rw [hd] at z; cases z)
  exact ⟨_, es, ep, q, hd, r⟩
theorem fun_at {base B h h' : Heap} (nn : ∀ b, base.get? b = none → B.get? b = none) : ∀ {l : List Env}, h.FunFrames base l → (∀ b ∈ frs l, h'.get? b = h.get? b) → h'.FunFrames B l
  | [], _, _ => trivial
  | e :: l, ⟨hk, ⟨L, o, hf, nb, ho, hd⟩, hr⟩, k => ⟨hk, ⟨L, o, hf, nn L nb, (k L (List.mem_filterMap.mpr ⟨e, List.mem_cons_self, hf⟩)).trans ho, hd⟩, fun_at nn hr fun b hb => k b (by
      obtain ⟨e2, m, q⟩ := List.mem_filterMap.mp hb
      exact List.mem_filterMap.mpr ⟨e2, List.mem_cons_of_mem _ m, q⟩)⟩
/-- the exception leaves the block: noted, the block's names let go, on in the def's frame -/
theorem leaves_block {X : Cx} {E : XK} {pins : List (Addr × Obj)} {σ : L2.St} {s : Shared} {H : Hp} {scope : Scope} {ce : Env} {fp : List Addr} {u : Value} {s' : Shared} {use : Option (Value → Sem Unit)} {Qf : Value → Shared → Prop} {acc : Value}
    (hs : X.stack = X.env :: X.outer) (hf : X.env.frame = some X.env.locals) (tk : Takes X (fun cls d _ H => E cls d H)) (I : Inv X pins σ H s) (hl : ce.locals = s.heap.objs.size) (hfr : ce.frame = X.env.frame)
    (hfp : ∀ b ∈ fp, FpOk X pins H b) (x : OutB X s H scope ce fp E u s') :
    notedBy (model X.prog X.w) X.A ce (fun e s'' => compEnds (model X.prog X.w) X.A X.xe use Qf acc ce (.error e) s'') u s' := by
  obtain ⟨a, B, sI, pb, σb, H', cls, d, rfl, J, nb, up, fl, na, os, ag, hE⟩ := x
  have frA : X.A.frames = some (X.env :: X.outer) := by rw [I.ok.frames, hs]
  show wpAny _ _ (noteFrame (.ref a) ce) _ _ _
  rw [note_same hfr]
  rw [hs] at fl
  refine HandSPX.looks_onZ Zc.steady frA hf fl fun h1 held up1 => ?_
  obtain ⟨m, nsI, _⟩ := J.loc
  have ns1 := ns_up (ns_up nsI up) up1
  have ends : CompFails (model X.prog X.w) X.A X.xe ce (.ref a) { s' with heap := h1 } := by
    refine ⟨m, ns1, fun h2 m2 ns2 same => ?_⟩
    obtain ⟨k1, k2, k3, oe, vs, T, oT, ts, he, hz, hd, hv, hnT, hTe, hT, hdT, h3⟩ := held
    have dict1 : ∃ o es ep, h1.get? ce.locals = some o ∧ o.data = .dict es ep := by
      obtain ⟨o, es, ep, ho, hdo, _⟩ := ns1
      exact ⟨o, es, ep, ho, hdo⟩
    obtain ⟨oc, es, ep, hoc, hdc⟩ := dict1
    have neA : a ≠ ce.locals := fun z => by
      rw [z, hoc] at he
      cases he
      rw [hd] at hdc
      cases hdc
    have neT : T ≠ ce.locals := fun z => by
      rw [z, hoc] at hT
      cases hT
      rw [hdT] at hdc
      cases hdc
    have neF : ∀ b ∈ frs X.stack, b ≠ ce.locals := fun b hb z => by
      obtain ⟨_, o, e, _⟩ := I.stack.mem hb
      have := Heap.lt_size e
      rw [z, hl] at this
      exact absurd this (Nat.lt_irrefl _)
    have hid : ∀ b o, (PySem.W.hideAll B [ce.locals]).get? b = some o → B.get? b = some o ∧ b ≠ ce.locals := fun b o e => by
      refine ⟨PySem.W.of_hideAll _ e, fun z => ?_⟩
      have q := PySem.W.of_hideAll _ e
      rw [PySem.W.hideAll_none _ (List.mem_singleton.mpr z)] at e
      cases e
    have none2 : ∀ b, B.get? b = none → (PySem.W.hideAll B [ce.locals]).get? b = none := fun b n => by
      cases q : (PySem.W.hideAll B [ce.locals]).get? b with
      | none => rfl
      | some o => rw [(hid b o q).1] at n; cases n
    have held2 : HandSPX.HeldZ (PySem.W.hideAll B [ce.locals]) (X.env :: X.outer) a (Zc cls d) X.env.locals h2 := by
      refine ⟨fun b o e => ?_, none2 a k2, ?_, oe, vs, T, oT, ts, (same.2 a neA).trans he, hz, hd, hv, none2 T hnT, hTe, (same.2 T neT).trans hT, hdT, h3⟩
      · obtain ⟨e1, n1⟩ := hid b o e
        exact (same.2 b n1).trans (k1 b o e1)
      · rw [← hs] at k3 ⊢
        exact fun_at none2 k3 fun b hb => same.2 b (neF b hb)
    -- the state of the def, without the block's names
    have un : Un (frs X.stack) fp H H' s.heap (PySem.W.hideAll sI.heap [ce.locals]) := by
      have at_ : ∀ b o, s.heap.get? b = some o → (PySem.W.hideAll sI.heap [ce.locals]).get? b = sI.heap.get? b := fun b o e => by
        have lt := Heap.lt_size e
        have nb : b ∉ [ce.locals] := fun z => by
          rw [List.mem_singleton.mp z, hl] at lt
          exact absurd lt (Nat.lt_irrefl _)
        cases q : sI.heap.get? b with
        | some o2 => exact PySem.W.hideAll_get _ q nb
        | none =>
          cases q2 : (PySem.W.hideAll sI.heap [ce.locals]).get? b with
          | none => rfl
          | some o2 => rw [PySem.W.of_hideAll _ q2] at q; cases q
      have bs : Un (frs X.stack) fp H H' s.heap sI.heap := J.base
      refine ⟨fun b o e n hb hx => (at_ b o e).trans (bs.keep b o e n hb hx), fun b o e n hb hx => ?_, bs.free, fun b o e hx => ?_, bs.tups, bs.frzs, bs.tbls⟩
      · obtain ⟨sl, q⟩ := bs.slot b o e n hb hx
        exact ⟨sl, (at_ b o e).trans q⟩
      · obtain ⟨o2, q⟩ := bs.there b o e hx
        exact ⟨o2, (at_ b o e).trans q⟩
    have cNone : H' ce.locals = none := J.free
    have hok2 : HOk X.prog X.w H' (PySem.W.hideAll sI.heap [ce.locals]) := fun b o q => (J.hok b o q).stay (fun c w hc r => PySem.W.hideAll_get _ r fun z => by
      rw [List.mem_singleton.mp z] at hc
      rcases hc with hc | hc
      · rw [← hc, cNone] at q; cases q
      · rw [cNone] at hc; cases hc) (fun _ r => r) fun _ _ r => r
    have I2 : Inv X pins σ H' { sI with heap := PySem.W.hideAll sI.heap [ce.locals] } := I.call' (ch := fp) J.os un hok2 J.bare fun b hb => ⟨(hfp b hb).2.2.2.1, (hfp b hb).2.1, (hfp b hb).2.2.2.2.1, (hfp b hb).2.2.2.2.2⟩
    have up2 : (PySem.W.hideAll sI.heap [ce.locals]).UpToSlots h2 := fun b o e hn => by
      have e1 := PySem.W.of_hideAll _ e
      have nb : b ≠ ce.locals := fun z => by
        rw [PySem.W.hideAll_none _ (List.mem_singleton.mpr z)] at e
        cases e
      obtain ⟨sl, q⟩ := (up.trans up1) b o e1 hn
      exact ⟨sl, (same.2 b nb).trans q⟩
    have nb2 : ∀ b o, (PySem.W.hideAll sI.heap [ce.locals]).get? b = some o → b ∉ frs X.stack → (PySem.W.hideAll B [ce.locals]).get? b = some o := fun b o e hb => by
      have e1 := PySem.W.of_hideAll _ e
      have nc : b ∉ [ce.locals] := fun z => by
        rw [PySem.W.hideAll_none _ z] at e
        cases e
      exact PySem.W.hideAll_get _ (nb b o e1 hb) nc
    obtain ⟨_, _, _, oe2, vs2, T2, _, _, he2, _, hd2, hv2, _⟩ := id held2
    unfold PySem.passOn
    refine wpAny_bind (wpAny_field he2 hd2 hv2 ?_)
    rw [if_neg (show ¬ ((Value.ref T2 == Value.none) = true) from by simp)]
    have fin : wpAny (model X.prog X.w) X.A (setFlight (.ref a) ce.frame) (fun _ s4 => wpAny (model X.prog X.w) X.A (throw (.ref a) : Sem Value) (fun _ _ => False) X.xe s4) X.xe { s' with heap := h2 } := by
      rw [hfr, hf]
      refine HandSPX.setFlight_onZ held2 fun h4 held4 up4 => wpAny_throw (tk _ _ ?_)
      exact ⟨a, _, _, pins, σ, H', cls, d, rfl, I2, nb2, up2.trans up4, .inr (.inr (by rw [hs]; exact held4)), na, os, ag, hE⟩
    first
      | exact wpAny_bind (wpAny_pure (wpAny_bind fin))
      | exact wpAny_bind fin
  cases use <;> exact ends
section
variable {X : Cx}
theorem core {E : XK} {pins : List (Addr × Obj)} {s : Shared} {σ : L2.St} {H : Hp} {Q : VK} {elt tg iter : Expr} {ifs : List Expr} {scope : Scope} {own : List (Str × Nat)} {pos pos' : Pos} {wi : TI} {g : TG} {tt : TT} {te : TE} {use : Option (Value → Sem Unit)} {Qf : Value → Shared → Prop}
    (hs : X.stack = X.env :: X.outer) (hf : X.env.frame = some X.env.locals) (tk : Takes X (fun cls d _ H => E cls d H)) (hc : X.calm = true) (hN : X.N.Nodup) (I : Inv X pins σ H s) (hi : PI X tg iter wi) (ok : BlkOk X.N X.env.scope scope own)
    (hg : ∀ (s : Shared) (H : Hp) (C : Addr) (cl : List (Str × Addr)) (fp : List Addr), PG (blkE X E s H scope (compEnvC scope cl C X.env) fp) tg g)
    (ht : ∀ (s : Shared) (H : Hp) (C : Addr) (cl : List (Str × Addr)) (fp : List Addr), PTs (blkE X E s H scope (compEnvC scope cl C X.env) fp) ifs tt)
    (he : ∀ (s : Shared) (H : Hp) (C : Addr) (cl : List (Str × Addr)) (fp : List Addr), PE (blkE X E s H scope (compEnvC scope cl C X.env) fp) elt te) (hset : ∀ x, foldedSetIterable iter X.env x = pure x)
    (h : tLc wi g tt te (own.map (·.2)) σ H Q)
    (done : ∀ N ce s' m H', Inv X pins σ H' s' → Q (.ref N) H' → s'.heap.Ns ce.locals m → FpOk X pins H' ce.locals → compEnds (model X.prog X.w) X.A X.xe use Qf (.ref N) ce (.ok .next) s') :
    wpAny (model X.prog X.w) X.A (comprehension (.ListComp elt [⟨tg, iter, ifs, 0⟩] scope pos) scope X.env pos' (newList []) false (eval iter X.env) use) Qf X.xe s := by
  have frees : ∀ y ∈ scope.names, y.2 = .free → ∃ c, X.env.cells.lookup y.1 = some c := fun y hy e => I.ok.has _ (ok.free y hy e)
  refine comprehension_at (use := use) rfl hset (closure_ok frees) ok.kind (fun y hy e => (ok.uniq y hy).trans (congrArg some e))
    (thn (hi.run pins s σ H _ I h) fun xv s1 hx => thn hx fun itv s2 h2 => ?_)
  obtain ⟨it, fp, tn, J, H2, rfl, I2, T, st2, f2, q⟩ := h2
  refine wpAny_newObj_type (newEnv_comp ?_) (by show 0 ≤ sizeLine; decide)
  generalize hD : s2.heap.objs.size = N
  have hDn : H2 N = none := I2.hok.fresh (Nat.le_of_eq hD)
  obtain ⟨W, ⟨m0, w0⟩, turn⟩ := q N hDn
  generalize hs3 : ({ s2 with heap := s2.heap.push { cls := .type "list", data := .seq ([] : List Value).toArray } } : Shared) = sN
  have h3 : sN.heap = s2.heap.push { cls := .type "list", data := .seq ([] : List Value).toArray } := by rw [← hs3]
  have IN : Inv X pins σ (upd H2 N (.lst [])) sN := by
    rw [← hs3]
    exact I2.laid (t' := s2.toks) (fun b o e => Heap.get?_push_of_some _ e) (Nat.le_of_eq hD) ⟨Nat.zero_le _, [], 0, .nil, by rw [← hD]; exact Heap.get?_push_size _ rfl⟩
  have fN : ∀ b ∈ fp, FpOk X pins (upd H2 N (.lst [])) b ∧ b < sN.heap.objs.size := fun b hb => by
    obtain ⟨o, e, _⟩ := T.obj _ _ st2 b hb
    have lt := Heap.lt_size e
    refine ⟨⟨?_, (f2 b hb).2⟩, by rw [h3, Heap.size_push]; exact Nat.lt_succ_of_lt lt⟩
    rw [upd_ne (by rw [← hD]; exact Nat.ne_of_lt lt)]
    exact (f2 b hb).1
  have stN : tn 0 sN.heap := T.keep _ _ _ st2 fun b _ o e => by rw [h3]; exact Heap.get?_push_of_some _ e
  have IB := block_start IN ok hN fN
  have pg := hg sN (upd H2 N (.lst [])) sN.heap.objs.size (cellsFrom (sN.heap.objs.size + 1) scope.names (cloFrom X.env.cells scope.names [])) fp
  have pt := ht sN (upd H2 N (.lst [])) sN.heap.objs.size (cellsFrom (sN.heap.objs.size + 1) scope.names (cloFrom X.env.cells scope.names [])) fp
  have pe := he sN (upd H2 N (.lst [])) sN.heap.objs.size (cellsFrom (sN.heap.objs.size + 1) scope.names (cloFrom X.env.cells scope.names [])) fp
  show codeAny _ _ (.compStart (.ListComp elt [⟨tg, iter, ifs, 0⟩] scope pos) 0 (.ref it) (.ref N) (compEnvC scope (cellsFrom (sN.heap.objs.size + 1) scope.names (cloFrom X.env.cells scope.names [])) sN.heap.objs.size X.env)) (compEnds (model X.prog X.w) X.A X.xe use Qf (.ref N) (compEnvC scope (cellsFrom (sN.heap.objs.size + 1) scope.names (cloFrom X.env.cells scope.names [])) sN.heap.objs.size X.env)) { sN with heap := pushCells (sN.heap.push { cls := .type "dict", data := .dict #[] }) scope.names }
  have nfp : ∀ b ∈ fp, (upd H2 N (.lst [])) b = none := fun b hb => (fN b hb).1.1
  generalize hce : compEnvC scope (cellsFrom (sN.heap.objs.size + 1) scope.names (cloFrom X.env.cells scope.names [])) sN.heap.objs.size X.env = ce at IB pg pt pe ⊢
  have cL : ce.locals = sN.heap.objs.size := by subst hce; rfl
  have cF : ce.frame = X.env.frame := by subst hce; rfl
  generalize hH3 : upd H2 N (.lst []) = HN at IN IB pg pt pe w0 nfp fN
  generalize hs4 : ({ sN with heap := pushCells (sN.heap.push { cls := .type "dict", data := .dict #[] }) scope.names } : Shared) = sB at IB ⊢
  have stB : tn 0 sB.heap := T.keep _ _ _ stN fun b _ o e => by rw [← hs4]; exact pushCells_keeps _ _ _ _ (Heap.get?_push_of_some _ e)
  have lv : ∀ {u : Value} {s' : Shared}, OutB X sN HN scope ce fp E u s' → notedBy (model X.prog X.w) X.A ce (fun e s'' => compEnds (model X.prog X.w) X.A X.xe use Qf (.ref N) ce (.error e) s'') u s' := fun x =>
    leaves_block hs hf tk IN cL cF (fun b hb => (fN b hb).1) x
  have stat : ∀ {σ' : L2.St} {H' : Hp} {s' : Shared}, Inv (X.blk sN HN scope ce fp) [] σ' H' s' → (∀ b ∈ fp, H' b = none) → ∀ b ∈ fp, FpOk (X.blk sN HN scope ce fp) [] H' b := fun I' hn b hb =>
    ⟨hn b hb, (I'.ok.exf b hb).1, I'.ok.exfs b hb, .inl hb, fun x c e => (I'.ok.exf b hb).2 x c e, fun p hp => absurd (show p ∈ ([] : List (Addr × Obj)) ++ [] from hp) (by simp)⟩
  have loop : codeAny (model X.prog X.w) X.A (.compLoop (.ListComp elt [⟨tg, iter, ifs, 0⟩] scope pos) 0 (.ref it) (.ref N) ce) (compEnds (model X.prog X.w) X.A X.xe use Qf (.ref N) ce) sB := by
    refine compLoop_any (fun n s' => ∃ i H', Inv (X.blk sN HN scope ce fp) [] (wipe σ (own.map (·.2))) H' s' ∧ tn i s'.heap ∧ (∀ b ∈ fp, H' b = none) ∧ W i n H') ?_ m0 ⟨0, HN, IB, stB, nfp, w0⟩
    rintro n s5 ⟨i, H5, I5, st5, n5, w5⟩
    rcases turn i n H5 w5 with ⟨stop, qq⟩ | ⟨go, Nx, hNx, step⟩
    · have td := T.done (X.blk sN HN scope ce fp) rfl rfl rfl hc i [] s5 _ H5 (fun _ _ => False) I5 (stat I5 n5) st5 stop
      refine thnF td fun r s6 ⟨hr, I6⟩ => ?_
      subst hr
      have I7 : Inv X pins σ H5 s6 := IN.call' (ch := fp) I6.os I6.base I6.hok I6.bare fun b hb => ⟨(fN b hb).1.2.2.2.1, (fN b hb).1.2.1, (fN b hb).1.2.2.2.2.1, (fN b hb).1.2.2.2.2.2⟩
      have nC : H5 ce.locals = none := I6.free
      obtain ⟨m, hn, _⟩ := I6.loc
      exact done N ce s6 m H5 I7 qq hn (IN.fpOk (Nat.le_of_eq cL.symm) nC)
    · have ti := T.item (X.blk sN HN scope ce fp) rfl rfl rfl hc i [] s5 _ H5 (fun _ _ => False) I5 (stat I5 n5) st5 go
      refine thnF ti fun r s6 ⟨u, hr, h6⟩ => ?_
      subst hr
      refine thnF h6 fun _ s7 ⟨x, H7, I7, r7, y7, st7, n7⟩ => ?_
      have I7' := I7.pinned (stat I7 n7) (T.obj _ _ st7)
      refine wpAny_mono (pg.run _ s7 _ H7 x u _ (I7'.wish _) r7 (step x H7 y7)) (fun _ s8 ⟨σ8, H8, I8, hw8, q8⟩ => ?_) fun _ _ x => lv x
      refine wpAny_mono (pt.run _ s8 σ8 H8 _ I8 q8) (fun b s9 ⟨H9, I9, q9⟩ => ?_) fun _ _ x => lv x
      have fin : ∀ {s' : Shared} {H' : Hp}, Inv (X.blk sN HN scope ce fp) ([] ++ pinsAt fp s7.heap) σ8 H' s' → Nx H' → ∃ m, m < n ∧ ∃ i H', Inv (X.blk sN HN scope ce fp) [] (wipe σ (own.map (·.2))) H' s' ∧ tn i s'.heap ∧ (∀ b ∈ fp, H' b = none) ∧ W i m H' := fun {s' H'} I' nx => by
        obtain ⟨m', hm, w'⟩ := hNx H' nx
        have pin' : ∀ b ∈ fp, ∀ o, s7.heap.get? b = some o → s'.heap.get? b = some o ∧ H' b = none := fun b hb o e => by
          have z := I'.pin (b, o) (List.mem_append_right _ (List.mem_append_right _ (mem_pinsAt hb e)))
          exact ⟨z.1, z.2.1⟩
        have hl : (wipe σ (own.map (·.2))).length = σ8.length := by rw [← hw8, wipe_length]
        refine ⟨m', hm, i + 1, H', (I'.unpinned (pins := [])).weak hl (fun j v e => ?_), T.keep _ _ _ st7 fun b hb o e => (pin' b hb o e).1, fun b hb => ?_, w'⟩
        · rw [← hw8] at e; exact (wipe_some e).1
        · obtain ⟨o, e, _⟩ := T.obj _ _ st7 b hb; exact (pin' b hb o e).2
      cases b with
      | false =>
        simp only [Bool.false_eq_true, if_false] at q9 ⊢
        exact fin I9.unwish q9
      | true =>
        simp only [if_true] at q9 ⊢
        refine wpAny_mono (pe.run _ s9 σ8 H9 _ I9 q9) (fun z s10 ⟨yv, H10, I10, r10, acc, hD10, hz10, nx⟩ => ?_) fun _ _ x => lv x
        exact app_ok (X := X.blk sN HN scope ce fp) I10.unwish hD10 hz10 r10 fun s11 I11 => fin I11 nx
  exact codeAny_compStart_list loop (T.self X.A 0 _ _ _ stB loop)
/-- as a value -/
theorem pe_lcX {E : XK} {elt tg iter : Expr} {ifs : List Expr} {scope : Scope} {own : List (Str × Nat)} {pos : Pos} {wi : TI} {g : TG} {tt : TT} {te : TE} (hs : X.stack = X.env :: X.outer) (hf : X.env.frame = some X.env.locals) (tk : Takes X (fun cls d _ H => E cls d H)) (hc : X.calm = true) (hN : X.N.Nodup) (hi : PI X tg iter wi) (ok : BlkOk X.N X.env.scope scope own)
    (hg : ∀ (s : Shared) (H : Hp) (C : Addr) (cl : List (Str × Addr)) (fp : List Addr), PG (blkE X E s H scope (compEnvC scope cl C X.env) fp) tg g)
    (ht : ∀ (s : Shared) (H : Hp) (C : Addr) (cl : List (Str × Addr)) (fp : List Addr), PTs (blkE X E s H scope (compEnvC scope cl C X.env) fp) ifs tt)
    (he : ∀ (s : Shared) (H : Hp) (C : Addr) (cl : List (Str × Addr)) (fp : List Addr), PE (blkE X E s H scope (compEnvC scope cl C X.env) fp) elt te) (hset : ∀ x, foldedSetIterable iter X.env x = pure x := by intro _; rfl) :
    PE X (.ListComp elt [⟨tg, iter, ifs, 0⟩] scope pos) (tLc wi g tt te (own.map (·.2))) := by
  refine ⟨fun pins s σ H Q I h => ?_⟩
  rw [eval_ListComp]
  refine core hs hf tk hc hN I hi ok hg ht he hset h fun N ce s' m H' I' q hn f => ⟨m, hn, fun h'' sb => ?_⟩
  obtain ⟨f0, f1, f2, f3, f4, f5⟩ := f
  exact ⟨.ref N, H', I'.turned (t' := s'.toks) (fun b o hb e => (sb.2 b hb).trans e) f0 f1 f3 f4 f5, rfl, q⟩
/-- given to a local on one row -/
theorem ps_setLcX {E : XK} {i : Nat} {y : Str} {py : Pos} {elt tg iter : Expr} {ifs : List Expr} {scope : Scope} {own : List (Str × Nat)} {pos spos : Pos} {wi : TI} {g : TG} {tt : TT} {te : TE} (hs : X.stack = X.env :: X.outer) (hf : X.env.frame = some X.env.locals) (tk : Takes X (fun cls d _ H => E cls d H)) (hc : X.calm = true) (hN : X.N.Nodup) (hy : X.N[i]? = some y) (hyl : X.env.scope.names.lookup y = some .local)
    (hsw : swapsWith (.ListComp elt [⟨tg, iter, ifs, 0⟩] scope pos) (some (.Name y py)) spos.line X.env = pure true) (hi : PI X tg iter wi) (ok : BlkOk X.N X.env.scope scope own)
    (hg : ∀ (s : Shared) (H : Hp) (C : Addr) (cl : List (Str × Addr)) (fp : List Addr), PG (blkE X E s H scope (compEnvC scope cl C X.env) fp) tg g)
    (ht : ∀ (s : Shared) (H : Hp) (C : Addr) (cl : List (Str × Addr)) (fp : List Addr), PTs (blkE X E s H scope (compEnvC scope cl C X.env) fp) ifs tt)
    (he : ∀ (s : Shared) (H : Hp) (C : Addr) (cl : List (Str × Addr)) (fp : List Addr), PE (blkE X E s H scope (compEnvC scope cl C X.env) fp) elt te) (hset : ∀ x, foldedSetIterable iter X.env x = pure x := by intro _; rfl) :
    PS X (.Assign [.Name y py] (.ListComp elt [⟨tg, iter, ifs, 0⟩] scope pos) spos) (tAsg (tLc wi g tt te (own.map (·.2))) (gName i)) := by
  refine ⟨fun pins s σ H D I h => ?_⟩
  rw [exec_Assign_Name_used _ _ _ _ hsw]
  refine wpAny_bind (wpAny_standAt (wpAny_bind ?_))
  have h' : tLc wi g tt te (own.map (·.2)) σ H (fun x H1 => gName i x σ H1 D.nx) := h
  refine wpAny_bind (thn (core (Qf := fun _ s' => SP X pins D .next s') hs hf tk hc hN I hi ok hg ht he hset h' fun N ce s' m H' I' q hn f => ?_) fun _ s' hq => wpAny_pure (wpAny_pure hq))
  show wpAny _ _ (assign (.Name y py) X.env (.ref N)) _ _ _
  obtain ⟨f0, f1, f2, f3, f4, f5⟩ := f
  refine wpAny_assign_Name (store_ok2 (v := V.ref N) I' hN hy (.inl hyl) rfl (fun s2 I2 ⟨a, sb, ha⟩ => ?_) (.inr hyl))
  have apart : ce.locals ≠ a := by
    rcases ha with z | z
    · rw [z]; exact f1
    · exact fun e => f4 y a z e.symm
  refine ⟨m, hn.sameBut sb apart, fun h3 sb3 => ⟨_, H', ?_, q⟩⟩
  exact I2.turned (t' := s2.toks) (fun b o hb e => (sb3.2 b hb).trans e) f0 f1 f3 f4 f5
end
end CpX

set_option Elab.async false
set_option linter.all false
set_option maxRecDepth 100000
set_option maxHeartbeats 1000000
namespace W
open PySem PySem.Spec PyProof.Rows L2 GxR MyG MyS SqX
/-- one of the roads that are given: of six parts, or of another number -/
abbrev RoadI := RoadG ⊕ Nat
def GItem (K : PySem.W.Frag) (H : Hp) (i : RoadI) (v : V) : Prop := match i with
  | .inl r => GRoadX K H r v
  | .inr n => ∃ t xs, v = .ref t ∧ SqT K H t xs ∧ xs.length = n ∧ n ≠ 6
theorem GItem.grew {K : PySem.W.Frag} {P : Addr} {H H' : Hp} {i : RoadI} {v : V} (g : Grew P H H') (hP : TabG H P) (h : GItem K H i v) : GItem K H' i v := by
  cases i with
  | inl r => exact GRoadX.grew g hP h
  | inr n =>
    obtain ⟨t, xs, a, b, c, d⟩ := h
    exact ⟨t, xs, a, g.sqT hP b, c, d⟩
def itemG (r : RoadD) : RoadI := .inl (rG r)
def RoadsGOk (d : Int) (ps ks : List Str) (gs : List RoadI) : Prop := ∃ rs, gs = rs.map itemG ∧ RoadsOk d ps ks rs
def spRoadsX (K : PySem.W.Frag) (C P : Addr) : Sp := fun vs H Q E => ∃ (a pl ki : Addr) (c : Bool) (d : Int) (ps ks : List Str) (gs : List RoadI) (xs : List V), vs = [.ref a, .int d, .ref pl, .ref ki] ∧ SqK c K H a xs ∧ Paired (GItem K H) gs xs ∧ (∀ r, Sum.inl r ∈ gs → SmallG r) ∧ gs.length ≤ 1000 ∧ SqT K H pl (ps.map V.str) ∧ SqT K H ki (ks.map V.str) ∧ ks.length ≤ 4 ∧ TabG H P ∧
  (∀ rs, gs = rs.map itemG → RoadsOk d ps ks rs → ∀ H' p rs' ys, Grew P H H' → KeptAll rs rs' → AscR rs' → H p = none → H' p = some (.tup ys) → Paired (RoadAt K H') rs' ys → Q (.ref p) H') ∧ (¬ RoadsGOk d ps ks gs → BadM C P H E)
theorem rG_inj {a b : RoadD} (h : rG a = rG b) : a = b := by
  obtain ⟨a1, a2, a3, a4, a5, a6⟩ := a
  obtain ⟨b1, b2, b3, b4, b5, b6⟩ := b
  unfold rG at h
  injection h with h1 h2 h3 h4 h5 h6
  have e : a6 = b6 := by
    have inj : ∀ x y : Int × Int, [x.1, x.2] = [y.1, y.2] → x = y := fun x y h => Prod.ext (List.cons.inj h).1 (List.cons.inj (List.cons.inj h).2).1
    cases a6 with
    | none => cases b6 with
      | none => rfl
      | some _ => cases h6
    | some x => cases b6 with
      | none => cases h6
      | some y => exact congrArg some (List.map_inj_right inj |>.mp (Option.some.inj h6))
  simp only at h1 h2 h3 h4 h5
  rw [h1, h2, h3, h4, h5, e]
theorem all_inl : ∀ {gs : List RoadI}, (∀ i ∈ gs, ∃ r, i = Sum.inl r) → ∃ gg : List RoadG, gs = gg.map Sum.inl
  | [], _ => ⟨[], rfl⟩
  | i :: gs, h => by
    obtain ⟨r, e⟩ := h i List.mem_cons_self
    obtain ⟨gg, e2⟩ := all_inl (gs := gs) fun x hx => h x (List.mem_cons_of_mem _ hx)
    exact ⟨r :: gg, by rw [e, e2]; rfl⟩
theorem paired_inl {K : PySem.W.Frag} {H : Hp} : ∀ {gg : List RoadG} {xs : List V}, Paired (GItem K H) (gg.map Sum.inl) xs → Paired (GRoadX K H) gg xs
  | [], _, h => by cases h; exact .nil
  | r :: gg, _, h => by
    cases h with
    | cons a b => exact .cons a (paired_inl b)
section
variable {Pg : Program} {w : World} {K : PySem.W.Frag} {mg : Str → Option Value} {base : Heap} {C P : Addr}
theorem ok_roadsX {f fN fR : Addr} {fd fdN fdR : FuncData} {t1 t2 t3 : Tok} (F : Fun K "_checked_roads" "_checked_roads" sRoads f fd) (T : TxtE mg K C) (hl : mg "len" = none) (ht : mg "tuple" = none) (hs : mg "sorted" = none)
    (hp : mg "PARTS" = some (.int 6 t1)) (hn : mg "NAME" = some (.int 0 t2)) (hm : mg "MOST_ROADS" = some (.int 60 t3))
    (GN : FnOk Pg w K mg base (L2.CX Pg w) 3 fN fdN ["names", "least", "most"] (spNamesX K C P)) (gN : mg "_checked_names" = some (.ref fN)) (kN : PySem.W.keepIn K (.ref fN) = true) (bN : Binds K fdN ["names", "least", "most"] [])
    (GR : FnOk Pg w K mg base (L2.CX Pg w) 2 fR fdR ["road", "day", "places", "kinds"] (spRoadX K C P)) (gR : mg "_checked_road" = some (.ref fR)) (kR : PySem.W.keepIn K (.ref fR) = true) (bR : Binds K fdR ["road", "day", "places", "kinds"] []) :
    FnOk Pg w K mg base (L2.CX Pg w) 4 f fd ["roads", "day", "places", "kinds"] (spRoadsX K C P) := by
  refine F.okX scRoads (fun vs H Q E h => ?_) (fun cdv A outer s H vs Q E hr h => ?_)
  · obtain ⟨a, pl, ki, c, d, ps, ks, gs, xs, rfl, _⟩ := h
    rfl
  · obtain ⟨a, pl, ki, c, d, ps, ks, gs, xs, rfl, hS, hG, hsm, hgl, hPl, hKi, hk4, hP, kQ, kE⟩ := h
    refine ⟨_, C8.pss_cut (ps_for (passes_of rfl) rfl (pi_sq (pv 0)) (pg_name (i := 4) scRoads.nd rfl (Or.inl rfl)) (pss_one (ps_if (pt_cmpR op_ne (pe_callB call_len_seq (by rfl) hl PySem.boot_len (pa_cons (pv 4) pa_nil)) (pe_gI hp) (nomark _)) (pss_one (ps_raise rfl (takes_of rfl rfl rfl rfl) (SkE.pmk_own1 PySem.F.excBase_ValueError T.xC T.gC T.kC (raises_own T.bC T.tC) (by rfl) (pe_joined (PJ.cons pe_str (PJ.cons (pe_fmt (pe_gI hp)) (PJ.cons pe_str PJ.nil))))))) pss_nil)))
      (pss_cons (ps_expr (pe_call (E := E) GN (hr.mono (by decide)) (by rfl) gN kN bN .nil (passes_call (takes_of rfl rfl rfl rfl) (fun _ _ _ _ h => h)) (pa_cons (pe_lc (own := [("road", 4)]) (g := gName 4) (tt := tYes) rfl scRoads.nd (pi_sq (pv 0)) (blkOk_by (N := nRoads) (sc := defScope sRoads) (by decide +kernel)) (fun _ _ _ _ _ => pg_name (i := 4) scRoads.nd rfl (Or.inl rfl)) (fun _ _ _ _ _ => pts_nil)
          (fun _ _ _ _ _ => pe_ix (r := rIxT K) ix_tup (pv 4) (pe_gI hn) (fun _ _ => rfl))) (pa_cons pe_int (pa_cons (pe_gI hm) pa_nil)))))
      (pss_cons (CpX.ps_setLcX (E := E) (i := 5) (own := [("road", 4)]) (g := gName 4) (tt := tYes) rfl rfl (takes_of rfl rfl rfl rfl) rfl scRoads.nd rfl rfl (sw_true rfl rfl rfl (by decide +kernel)) (pi_sq (pv 0)) (blkOk_by (N := nRoads) (sc := defScope sRoads) (by decide +kernel)) (fun _ _ _ _ _ => pg_name (i := 4) scRoads.nd rfl (Or.inl rfl)) (fun _ _ _ _ _ => pts_nil)
          (fun _ _ _ _ _ => pe_call (E := E) GR (hr.mono (by decide)) (by rfl) gR kR bR .nil (CpX.passB rfl rfl) (pa_cons (pv 4) (pa_cons (pv 1) (pa_cons (pv 2) (pa_cons (pv 3) pa_nil))))))
      (pss_one (ps_ret (pe_callTy call_tuple_of (by rfl) ht (by decide +kernel) (pa_cons (pe_callB cr_sortR (by rfl) hs (by decide +kernel) (pa_cons (pv 5) pa_nil)) pa_nil)))))), ?_⟩
    have hln : gs.length = xs.length := Paired.len hG
    refine ⟨fun σ H' => H' = H ∧ (∃ v, σ = [some (.ref a), some (.int d), some (.ref pl), some (.ref ki), v, none]) ∧ ∀ i ∈ gs, ∃ r, i = Sum.inl r, ?_, ?_⟩
    · refine ⟨_, rfl, c, a, rfl, ⟨_, hS⟩, for_sq (K := K) (c := c) (a := a) (xs := xs) (fun i σ H' => H' = H ∧ (∃ v, σ = [some (.ref a), some (.int d), some (.ref pl), some (.ref ki), v, none]) ∧ ∀ q ∈ gs.take i, ∃ r, q = Sum.inl r)
        ⟨rfl, ⟨none, rfl⟩, fun q hq => by rw [List.take_zero] at hq; cases hq⟩ (fun i σ H' _ ⟨e, _⟩ => by rw [e]; exact hS) ?_ ?_⟩
      · rintro i y σ H' hi ⟨rfl, ⟨v, rfl⟩, hin⟩
        obtain ⟨q, hq, hgq⟩ := Paired.at hG hi
        have hqm := List.mem_of_getElem? hq
        cases q with
        | inl r =>
          obtain ⟨t, u, h, cc, rfl, hT, _⟩ := hgq
          refine ⟨_, rfl, t, _, rfl, .inr hT, rfl, _, rfl, ?_⟩
          refine if_f (by rfl) ⟨rfl, ⟨_, rfl⟩, fun x hx => ?_⟩
          rw [List.take_succ, hq] at hx
          rcases List.mem_append.mp hx with hx | hx
          · exact hin x hx
          · exact ⟨r, List.mem_singleton.mp hx⟩
        | inr n =>
          obtain ⟨t, ys, rfl, hT, el, n6⟩ := hgq
          refine ⟨_, rfl, t, _, rfl, .inr hT, rfl, _, rfl, ?_⟩
          refine if_t (by rw [decide_eq_false (fun e => n6 (by injection e with e; omega))]; rfl) ?_
          refine tJs_ok (fun _ => (kE fun ⟨rs, e, _⟩ => ?_).here hP) 0 (fun t ht => ?_) (Nat.zero_le _) (by decide)
          · rw [e] at hqm
            obtain ⟨z, _, ez⟩ := List.mem_map.mp hqm
            cases ez
          · simp only [List.mem_cons, List.not_mem_nil, or_false] at ht
            rcases ht with rfl | rfl | rfl
            · exact short_c (by decide +kernel)
            · exact short_g (by decide)
            · exact short_c (by decide +kernel)
      · rintro σ H' ⟨rfl, hv, hin⟩
        rw [← hln, List.take_length] at hin
        exact ⟨rfl, hv, hin⟩
    rintro σ H' ⟨rfl, ⟨v, rfl⟩, hin⟩
    obtain ⟨gg, rfl⟩ := all_inl hin
    have hG := paired_inl hG
    have hln : gg.length = xs.length := Paired.len hG
    rw [List.length_map] at hgl
    have hsm' : ∀ r ∈ gg, SmallG r := fun r hr => hsm r (List.mem_map.mpr ⟨r, hr, rfl⟩)
    -- the roads, where each of them is good
    have back : ∀ rs : List RoadD, gg.map Sum.inl = rs.map itemG ↔ gg = rs.map rG := fun rs => by
      have e : rs.map itemG = (rs.map rG).map (Sum.inl : RoadG → RoadI) := by rw [List.map_map]; rfl
      rw [e]
      exact List.map_inj_right fun x y h => Sum.inl.inj h
    have kE' : (∀ rs, gg = rs.map rG → ¬ RoadsOk d ps ks rs) → BadM C P H' E := fun h => kE fun ⟨rs, e, o⟩ => h rs ((back rs).mp e) o
    refine ⟨_, rfl, c, a, rfl, ⟨_, hS⟩, fun D nD => lc_sq (K := K) (c := c) (a := a) (xs := xs) (fun i H1 => Grew P H' H1 ∧ H1 D = some (.lst (((gg.map (·.name)).take i).map V.str)))
      ⟨Grew.new hP nD, upd_same⟩ (fun i H1 _ p => hS.grew p.1 hP) (fun i x H1 hx p => ?_) (fun H1 p => ?_)⟩
    · obtain ⟨g, hD⟩ := p
      obtain ⟨r, hr, t, u, h, cc, rfl, hT, _⟩ := Paired.at hG hx
      refine ⟨rfl, _, rfl, t, _, 0, .str r.name, rfl, rfl, g.sqT hP hT, rfl, _, hD, ?_, ?_, ?_⟩
      · rw [List.length_map, List.length_take, List.length_map, sizeLine_eq]
        omega
      · exact g.write hD (fun _ z => by cases z) nD
      · rw [upd_same, List.take_succ, List.getElem?_map, hr, List.map_append]
        rfl
    · obtain ⟨g, hD⟩ := p
      rw [← hln, ← List.length_map (f := (·.name)), List.take_length] at hD
      refine ⟨D, true, gg.map (·.name), 0, 60, rfl, SqL.of hD, by rw [List.length_map]; omega, fun z hz => ?_, by decide, by decide, g.tab, fun hok H2 p2 ys2 g2 np e2 _ _ => ?_, fun nok => (kE' fun rs e o => nok ?_).on g⟩
      · obtain ⟨r, hr, rfl⟩ := List.mem_map.mp hz
        exact (hsm' r hr).n
      case refine_3 =>
        have e3 : gg.map (·.name) = rs.map (·.name) := by rw [e, List.map_map]; rfl
        rw [e3]
        exact ⟨by omega, by rw [List.length_map]; have := o.len; omega, o.nm, o.nd⟩
      have g3 := g.trans g2
      refine ⟨_, rfl, c, a, rfl, ⟨_, hS.grew g3 hP⟩, fun D2 nD2 => lc_sq (K := K) (c := c) (a := a) (xs := xs) (fun i H1 => Grew P H' H1 ∧ ∃ acc ms rs, gg.take i = rs.map rG ∧ (∀ r ∈ rs, RoadOk d ps ks r) ∧ H1 D2 = some (.lst acc) ∧ Paired Kept rs ms ∧ Paired (RoadAt K H1) ms acc)
        ⟨g3.put nD2, [], [], [], by rw [List.take_zero]; rfl, fun r hr => (by cases hr), upd_same, .nil, .nil⟩ (fun i H1 _ p => hS.grew p.1 hP) (fun i x H1 hx p => ?_) (fun H1 p => ?_)⟩
      · obtain ⟨g4, acc, ms, rs, ers, hall, hD4, hk4', hm4⟩ := p
        obtain ⟨r, hr, hgr⟩ := Paired.at hG hx
        have hrm := List.mem_of_getElem? hr
        have nD2' := g3.free nD2
        refine ⟨rfl, _, rfl, _, rfl, _, rfl, _, rfl, x, pl, ki, d, ps, ks, r, rfl, hgr.grew g4 hP, hsm' r hrm, g4.sqT hP hPl, g4.sqT hP hKi, hk4, g4.tab, fun r0 er0 ok0 H5 p5 q5 h5 r5 g5 kp n5 e5 f5 hh5 => ?_, fun nok => (kE' fun rs' e o => nok ?_).on g4⟩
        · have hD5 := g5.lst g4.tab hD4
          have g45 := g4.trans g5
          have lrs : rs.length ≤ 1000 := by
            have := congrArg List.length ers
            rw [List.length_take, List.length_map] at this
            omega
          refine ⟨acc, hD5, ?_, g45.write hD5 (fun _ z => by cases z) nD2', acc ++ [.ref p5], ms ++ [r5], rs ++ [r0], ?_, fun r hr => ?_, upd_same, Paired.snoc hk4' kp, ?_⟩
          · rw [← Paired.len hm4, ← Paired.len hk4', sizeLine_eq]
            omega
          · rw [List.take_succ, hr, ers, List.map_append, er0]
            rfl
          · rcases List.mem_append.mp hr with hr | hr
            · exact hall r hr
            · rw [List.mem_singleton.mp hr]; exact ok0
          · have up : ∀ {r : RoadD} {v : V}, RoadAt K H5 r v → RoadAt K (L2.upd H5 D2 (.lst (acc ++ [.ref p5]))) r v := fun m => m.upd (fun xs z => by rw [hD5] at z; cases z) (KeepT.lst hD5)
            exact Paired.snoc (Paired.map' hm4 fun r v m => up (m.grew g5 g4.tab)) (up ⟨p5, q5, h5, rfl, e5, f5, hh5⟩)
        · rw [e] at hrm
          obtain ⟨z, hz, ez⟩ := List.mem_map.mp hrm
          exact ⟨z, ez.symm, o.ok z hz⟩
      · obtain ⟨g4, acc, ms, rs, ers, hall, hD4, hk4', hm4⟩ := p
        rw [← hln, List.take_length] at ers
        have e3 : gg.map (·.name) = rs.map (·.name) := by rw [ers, List.map_map]; rfl
        rw [e3] at hok
        have ok : RoadsOk d ps ks rs := ⟨by have := hok.2.1; rw [List.length_map] at this; omega, hok.2.2.1, hok.2.2.2, hall⟩
        have hl60 := ok.len
        have nd : (ms.map (·.name)).Nodup := by rw [kept_names hk4']; exact ok.nd
        refine ⟨_, rfl, D2, acc, nameAt H1, rfl, SqL.of hD4, fun x hx => ?_, fun x hx y hy e => Paired.inj hm4 nd hx hy fun r r' m m' => by rw [← m.name, ← m'.name]; exact e, fun ys l hpm hso hl => ⟨l, _, rfl, .inl ⟨SqL.of upd_same, fun p hp2 => ?_⟩⟩⟩
        · obtain ⟨r, _, m⟩ := Paired.mem hm4 hx
          have nm := m.name
          obtain ⟨p, q, hv, e, e1, _⟩ := m
          exact ⟨p, _, e, by rw [nm]; exact SqT.of e1⟩
        · obtain ⟨rs', pm, hr'⟩ := Paired.perm hpm hm4
          have gl := Grew.new g4.tab (o := .lst ys) hl
          have gp := gl.put (o := .tup ys) hp2
          exact kQ rs ((back rs).mpr ers) ok _ p rs' ys (g4.trans gp) ⟨ms, pm.symm, hk4'⟩ (Paired.pair (fun a b x y m m' e => by rw [m.name, m'.name] at e; exact e) hr' hso) (g4.free (gl.free hp2)) upd_same (Paired.map' hr' fun _ _ m => m.grew gp g4.tab)
end
end W

set_option Elab.async false
set_option linter.all false
set_option maxRecDepth 100000
set_option maxHeartbeats 1000000
namespace W
open PySem PySem.Spec PyProof.Rows L2 GxR MyG MyS SqX
theorem uniqN : ∀ {rs : List RoadD} {r r' : RoadD}, (rs.map (·.name)).Nodup → r ∈ rs → r' ∈ rs → r.name = r'.name → r = r'
  | a :: rs, r, r', nd, h, h', e => by
    rw [List.map_cons, List.nodup_cons] at nd
    rcases List.mem_cons.mp h with h | h <;> rcases List.mem_cons.mp h' with h' | h'
    · rw [h, h']
    · rw [h] at e; exact absurd (List.mem_map.mpr ⟨r', h', e.symm⟩) nd.1
    · rw [h'] at e; exact absurd (List.mem_map.mpr ⟨r, h, e⟩) nd.1
    · exact uniqN nd.2 h h' e
def p2 (b : Str × Str) : List Str := [b.1, b.2]
theorem p2_inj : ∀ x y : Str × Str, p2 x = p2 y → x = y := fun x y h => Prod.ext (List.cons.inj h).1 (List.cons.inj (List.cons.inj h).2).1
/-- unpacking of a tuple or of a list -/
def gAny (K : PySem.W.Frag) (n : Nat) (t : TGs) : TG := fun v σ H Q => ∃ a xs, v = .ref a ∧ (SqL K H a xs ∨ SqT K H a xs) ∧ xs.length = n ∧ t xs σ H Q
theorem pg_any {X : Cx} {pos : Pos} {es : List Expr} {k : Nat} {t : TGs} {n : Nat} (hc : X.calm = true) (h : PGs X es t)
    (hn : (assignEach es X.env).length = n := by rfl) (hst : (assignEach es X.env).findIdx? (·.1) = none := by rfl) : PG X (.Tuple es k pos) (gAny X.K n t) := by
  refine ⟨fun pins s σ H v u Q I r hw => ?_⟩
  obtain ⟨a, xs, e1, hq | hq, hl, hw⟩ := hw
  · exact (pg_lst hc h hn hst).run pins s σ H v u Q I r ⟨a, xs, e1, hq, hl, hw⟩
  · exact (pg_tup hc h hn hst).run pins s σ H v u Q I r ⟨a, xs, e1, hq, hl, hw⟩
/-- a bar as it is given: a tuple or a list -/
def GBarX (H : Hp) (b : List Str) (v : V) : Prop := ∃ t, v = .ref t ∧ (H t = some (.lst (b.map V.str)) ∨ H t = some (.tup (b.map V.str)))
theorem GBarX.grew {P : Addr} {H H' : Hp} {b : List Str} {v : V} (g : Grew P H H') (h : TabG H P) (m : GBarX H b v) : GBarX H' b v := let ⟨t, e, q⟩ := m; ⟨t, e, q.imp (g.lst h) (g.tup h)⟩
theorem paired_p2 {H : Hp} : ∀ {bs : List (Str × Str)} {xs : List V}, Paired (GBarX H) (bs.map p2) xs → Paired (fun b v => GBarX H (p2 b) v) bs xs
  | [], _, h => by cases h; exact .nil
  | b :: bs, _, h => by
    cases h with
    | cons a r => exact .cons a (paired_p2 r)
def BarsGOk (rs : List RoadD) (gs : List (List Str)) : Prop := ∃ bs, gs = bs.map p2 ∧ BarsOk rs bs
def spBarsX (K : PySem.W.Frag) (C P : Addr) : Sp := fun vs H Q E => ∃ (a d : Addr) (c : Bool) (rs : List RoadD) (gs : List (List Str)) (xs : List V), vs = [.ref a, .ref d] ∧ SqK c K H a xs ∧ Paired (GBarX H) gs xs ∧ gs.length ≤ 1000 ∧ (∀ b ∈ gs, ∀ z ∈ b, z.length ≤ 1000) ∧ DictR K H d rs ∧ (rs.map (·.name)).Nodup ∧ TabG H P ∧
  (∀ bs, gs = bs.map p2 → BarsOk rs bs → ∀ H' p bs' ys, Grew P H H' → bs'.Perm bs → AscB bs' → H p = none → H' p = some (.tup ys) → Paired (GBar H') bs' ys → Q (.ref p) H') ∧ (¬ BarsGOk rs gs → BadM C P H E)
theorem nodup_p2 {bs : List (Str × Str)} : (bs.map fun b => [b.1, b.2]).Nodup ↔ bs.Nodup :=
  ⟨fun h => (List.pairwise_map.mp h).imp fun {a b} ne e => ne (by rw [e]), nodup_bars⟩
section
variable {Pg : Program} {w : World} {K : PySem.W.Frag} {mg : Str → Option Value} {base : Heap} {C P : Addr}
theorem ok_barsX {f fD : Addr} {fd fdD : FuncData} {t1 t2 t3 : Tok} (F : Fun K "_checked_bars" "_checked_bars" sBars f fd) (T : TxtE mg K C) (hl : mg "len" = none) (ht : mg "tuple" = none) (hs : mg "sorted" = none)
    (hm : mg "MOST_BARS" = some (.int 40 t1)) (he : mg "END" = some (.int 2 t2)) (hst : mg "START" = some (.int 1 t3))
    (GD : FnOk Pg w K mg base (L2.CX Pg w) 1 fD fdD ["parts"] (spDiffX K C P)) (gD : mg "_check_different" = some (.ref fD)) (kD : PySem.W.keepIn K (.ref fD) = true) (bD : Binds K fdD ["parts"] []) :
    FnOk Pg w K mg base (L2.CX Pg w) 2 f fd ["bars", "roads_by_name"] (spBarsX K C P) := by
  refine F.okX scBars (fun vs H Q E h => ?_) (fun cdv A outer s H vs Q E hr h => ?_)
  · obtain ⟨a, d, c, rs, gs, xs, rfl, _⟩ := h
    rfl
  · obtain ⟨a, d, c, rs, gs, xs, rfl, hS, hG, hgl, hsm, hD, hnd, hP, kQ, kE⟩ := h
    refine ⟨_, pss_cons (ps_if (pt_cmpR op_gt (pe_callB call_len_seq (by rfl) hl PySem.boot_len (pa_cons (pv 0) pa_nil)) (pe_gI hm) (nomark _)) (pss_one (ps_raise rfl (takes_of rfl rfl rfl rfl) (SkE.pmk_own1 PySem.F.excBase_ValueError T.xC T.gC T.kC (raises_own T.bC T.tC) (by rfl) (pe_joined (PJ.cons pe_str (PJ.cons (pe_fmt (pe_gI hm)) (PJ.cons pe_str PJ.nil))))))) pss_nil)
      (pss_cons (ps_for (passes_of rfl) rfl (pi_sq (pv 0)) (pg_name (i := 2) scBars.nd rfl (Or.inl rfl))
        (pss_cons (ps_if (pt_cmpR op_ne (pe_callB call_len_seq (by rfl) hl PySem.boot_len (pa_cons (pv 2) pa_nil)) pe_int (nomark _)) (pss_one (ps_raise rfl (takes_of rfl rfl rfl rfl) (SkE.pmk_own1 PySem.F.excBase_ValueError T.xC T.gC T.kC (raises_own T.bC T.tC) (by rfl) pe_str))) pss_nil)
        (pss_cons (ps_asg (pv 2) (pg_any (by rfl) (pgs_cons (pg_name (i := 3) scBars.nd rfl (.inl rfl)) (pgs_cons (pg_name (i := 4) scBars.nd rfl (.inl rfl)) pgs_nil))))
        (C8.pss_cut (ps_if (PW.pt (pw_or (pt_cmp (pc_dnotin (u1 hr.units) (pv 3) (pv 1))) (pw_or1 (pt_cmp (pc_dnotin (u1 hr.units) (pv 4) (pv 1)))))) (pss_one (ps_raise rfl (takes_of rfl rfl rfl rfl) (SkE.pmk_own1 PySem.F.excBase_ValueError T.xC T.gC T.kC (raises_own T.bC T.tC) (by rfl) (pe_joined (PJ.cons pe_str (PJ.cons (pe_fmt (pv 3)) (PJ.cons pe_str (PJ.cons (pe_fmt (pv 4)) PJ.nil)))))))) pss_nil)
        (pss_one (ps_if (pt_cmpR op_ne (pe_ix ix_tup (pe_dget (u1 hr.units) (pv 1) (pv 3) (fun _ _ => rfl)) (pe_gI he) (fun _ _ => rfl)) (pe_ix ix_tup (pe_dget (u1 hr.units) (pv 1) (pv 4) (fun _ _ => rfl)) (pe_gI hst) (fun _ _ => rfl)) (nomark _)) (pss_one (ps_raise rfl (takes_of rfl rfl rfl rfl) (SkE.pmk_own1 PySem.F.excBase_ValueError T.xC T.gC T.kC (raises_own T.bC T.tC) (by rfl) (pe_joined (PJ.cons pe_str (PJ.cons (pe_fmt (pv 3)) (PJ.cons pe_str (PJ.cons (pe_fmt (pv 4)) PJ.nil)))))))) pss_nil))))))
      (pss_cons (ps_setLc (i := 5) (own := [("bar", 2)]) (g := gName 2) (tt := tYes) rfl scBars.nd rfl rfl (sw_true rfl rfl rfl (by decide +kernel)) (pi_sq (pv 0)) (blkOk_by (N := nBars) (sc := defScope sBars) (by decide +kernel)) (fun _ _ _ _ _ => pg_name (i := 2) scBars.nd rfl (Or.inl rfl)) (fun _ _ _ _ _ => pts_nil)
          (fun _ _ _ _ _ => pe_callTy (r := rTupOf K) call_tuple_of (by rfl) ht (by decide +kernel) (pa_cons (pv 2) pa_nil)))
      (pss_cons (ps_expr (pe_call (E := E) GD (hr.mono (by decide)) (by rfl) gD kD bD .nil (passes_call (takes_of rfl rfl rfl rfl) (fun _ _ _ _ h => h)) (pa_cons (pv 5) pa_nil)))
      (pss_one (ps_ret (pe_callTy call_tuple_of (by rfl) ht (by decide +kernel) (pa_cons (pe_callB cr_sortB (by rfl) hs (by decide +kernel) (pa_cons (pv 5) pa_nil)) pa_nil))))))), ?_⟩
    have hln := Paired.len hG
    have bad : ¬ BarsGOk rs gs → ∀ z : Str, E (.ref C) none H := fun h _ => (kE h).here hP
    refine ⟨_, rfl, a, _, rfl, hS.any, _, _, rfl, rfl, _, rfl, ?_⟩
    by_cases c40 : gs.length ≤ 40
    case neg =>
      refine if_t (decide_eq_true (by omega)) ?_
      refine tJs_ok (bad fun ⟨bs, e, o⟩ => c40 (by rw [e, List.length_map]; exact o.len)) 0 (fun t ht => ?_) (Nat.zero_le _) (by decide)
      simp only [List.mem_cons, List.not_mem_nil, or_false] at ht
      rcases ht with rfl | rfl | rfl
      · exact short_c (by decide +kernel)
      · exact short_g (by decide)
      · exact short_c (by decide +kernel)
    refine if_f (decide_eq_false (by omega)) ?_
    refine ⟨_, rfl, c, a, rfl, ⟨_, hS⟩, for_sq (K := K) (c := c) (a := a) (xs := xs) (fun i σ H' => H' = H ∧ (∃ v1 v2 v3, σ = [some (.ref a), some (.ref d), v1, v2, v3, none]) ∧ ∃ bs, gs.take i = bs.map p2 ∧ ∀ b ∈ bs, ∃ r1 ∈ rs, ∃ r2 ∈ rs, b.1 = r1.name ∧ b.2 = r2.name ∧ r1.goal = r2.start)
      ⟨rfl, ⟨none, none, none, rfl⟩, [], by rw [List.take_zero]; rfl, fun b hb => (by cases hb)⟩ (fun i σ H' _ ⟨e, _⟩ => by rw [e]; exact hS) ?_ ?_⟩
    · rintro i y σ H' hi ⟨rfl, ⟨v1, v2, v3, rfl⟩, bs, ebs, hall⟩
      obtain ⟨b, hb, t, rfl, hT⟩ := Paired.at hG hi
      have hbm := List.mem_of_getElem? hb
      have hTT : SqL K H' t (b.map V.str) ∨ SqT K H' t (b.map V.str) := hT.imp SqL.of SqT.of
      refine ⟨_, rfl, t, _, rfl, hTT, rfl, _, rfl, ?_⟩
      rw [List.length_map]
      by_cases cb : b.length = 2
      case neg =>
        refine if_t (by rw [decide_eq_false (fun e => cb (by injection e with e; omega))]; rfl) ?_
        refine bad (fun ⟨bs2, e, o⟩ => ?_) Str.empty
        rw [e] at hbm
        obtain ⟨z, _, ez⟩ := List.mem_map.mp hbm
        rw [← ez] at cb
        exact cb rfl
      refine if_f (by rw [decide_eq_true (by rw [cb]; rfl)]; rfl) ?_
      obtain ⟨x1, x2, rfl⟩ : ∃ x1 x2, b = [x1, x2] := by
        match b, cb with
        | [x1, x2], _ => exact ⟨x1, x2, rfl⟩
      have s1 := hsm _ hbm x1 (by simp)
      have s2 := hsm _ hbm x2 (by simp)
      have need : BarsGOk rs gs → ∃ r1 ∈ rs, ∃ r2 ∈ rs, x1 = r1.name ∧ x2 = r2.name ∧ r1.goal = r2.start := fun ⟨bs2, e, o⟩ => by
        have hbm' := hbm
        rw [e] at hbm'
        obtain ⟨z, hz, ez⟩ := List.mem_map.mp hbm'
        obtain rfl : z = (x1, x2) := p2_inj _ _ ez
        exact o.ok _ hz
      obtain ⟨kvs, hd, hdin, hdno⟩ := hD
      refine ⟨_, rfl, t, _, rfl, hTT, rfl, _, _, rfl, _, _, rfl, rfl, ?_⟩
      obtain ⟨S, eS⟩ : ∃ S : L2.St, S = [some (V.ref a), some (.ref d), some (.ref t), some (.str x1), some (.str x2), none] := ⟨_, rfl⟩
      have parts : ∀ tt ∈ [tC (.str "a bar of strange roads: "), tFmt (tVar 3), tC (.str " "), tFmt (tVar 4)], SqX.Short tt [some (V.ref a), some (.ref d), some (.ref t), some (.str x1), some (.str x2), none] H' := fun tt ht => by
        simp only [List.mem_cons, List.not_mem_nil, or_false] at ht
        rcases ht with rfl | rfl | rfl | rfl
        · exact short_c (by decide +kernel)
        · exact short_v (y := x1) rfl s1
        · exact short_c (by decide +kernel)
        · exact short_v (y := x2) rfl s2
      have parts2 : ∀ tt ∈ [tC (.str "a bar of roads that do not touch: "), tFmt (tVar 3), tC (.str " "), tFmt (tVar 4)], SqX.Short tt [some (V.ref a), some (.ref d), some (.ref t), some (.str x1), some (.str x2), none] H' := fun tt ht => by
        simp only [List.mem_cons, List.not_mem_nil, or_false] at ht
        rcases ht with rfl | rfl | rfl | rfl
        · exact short_c (by decide +kernel)
        · exact short_v (y := x1) rfl s1
        · exact short_c (by decide +kernel)
        · exact short_v (y := x2) rfl s2
      have gd : ∀ z : Str, DGet H' d (.str z) (valV kvs (.inr z)) := fun z => DGet.k (k := .inr z) hd
      refine ⟨fun σ2 H2 => σ2 = S ∧ H2 = H' ∧ (∃ r1 ∈ rs, r1.name = x1) ∧ ∃ r2 ∈ rs, r2.name = x2, ?_, ?_⟩
      · refine ⟨_, rfl, _, rfl, d, _, rfl, gd x1, _, rfl, ?_⟩
        by_cases q1 : ∃ r1 ∈ rs, r1.name = x1
        case neg =>
          refine if_t (by rw [hdno x1 fun r hr e => q1 ⟨r, hr, e⟩]; rfl) ?_
          exact tJs_ok (bad fun h => by obtain ⟨r1, h1, _, _, e1, _⟩ := need h; exact q1 ⟨r1, h1, e1.symm⟩) 0 parts (Nat.zero_le _) (by decide)
        obtain ⟨r1, h1, e1⟩ := q1
        obtain ⟨w1, l1, _⟩ := hdin r1 h1
        rw [e1] at l1
        refine if_f (by rw [l1]; rfl) ?_
        refine ⟨_, rfl, _, rfl, d, _, rfl, gd x2, _, rfl, ?_⟩
        by_cases q2 : ∃ r2 ∈ rs, r2.name = x2
        case neg =>
          refine if_t (by rw [hdno x2 fun r hr e => q2 ⟨r, hr, e⟩]; rfl) ?_
          exact tJs_ok (bad fun h => by obtain ⟨_, _, r2, h2, _, e2, _⟩ := need h; exact q2 ⟨r2, h2, e2.symm⟩) 0 parts (Nat.zero_le _) (by decide)
        obtain ⟨r2, h2, e2⟩ := q2
        obtain ⟨w2, l2, _⟩ := hdin r2 h2
        rw [e2] at l2
        exact if_f (by rw [l2]; rfl) ⟨eS.symm, rfl, ⟨r1, h1, e1⟩, r2, h2, e2⟩
      rintro σ2 H2 ⟨eσ, eH, ⟨r1, h1, e1⟩, r2, h2, e2⟩
      rw [eσ, eS, eH]
      obtain ⟨w1, l1, p1, q1, hh1, rfl, a1, _, _⟩ := hdin r1 h1
      obtain ⟨w2, l2, p2', q2, hh2, rfl, a2, _, _⟩ := hdin r2 h2
      rw [e1] at l1
      rw [e2] at l2
      have g1 := gd x1
      have g2 := gd x2
      rw [l1] at g1
      rw [l2] at g2
      refine ⟨_, rfl, _, rfl, d, _, rfl, g1, p1, _, 2, .str r1.goal, rfl, rfl, SqT.of a1, rfl, _, rfl, _, rfl, d, _, rfl, g2, p2', _, 1, .str r2.start, rfl, rfl, SqT.of a2, rfl, rfl, _, rfl, ?_⟩
      by_cases c3 : r1.goal = r2.start
      case neg =>
        refine if_t (by rw [decide_eq_false (fun e => c3 (by injection e with e))]; rfl) ?_
        refine tJs_ok (bad fun h => ?_) 0 parts2 (Nat.zero_le _) (by decide)
        obtain ⟨r1', h1', r2', h2', e1', e2', e3'⟩ := need h
        have u1 : r1 = r1' := uniqN hnd h1 h1' (e1.trans e1')
        have u2 : r2 = r2' := uniqN hnd h2 h2' (e2.trans e2')
        rw [u1, u2] at c3
        exact c3 e3'
      refine if_f (by rw [c3]; simp) ⟨rfl, ⟨_, _, _, rfl⟩, bs ++ [(x1, x2)], ?_, fun b hb => ?_⟩
      · rw [List.take_succ, hb, ebs, List.map_append]
        rfl
      · rcases List.mem_append.mp hb with hb | hb
        · exact hall b hb
        · rw [List.mem_singleton.mp hb]
          exact ⟨r1, h1, r2, h2, e1.symm, e2.symm, c3⟩
    · rintro σ H' ⟨rfl, ⟨v1, v2, v3, rfl⟩, bs, ebs, hall⟩
      rw [← hln, List.take_length] at ebs
      have hGB : Paired (fun b v => GBarX H' (p2 b) v) bs xs := paired_p2 (by rw [← ebs]; exact hG)
      have kE' : ¬ BarsOk rs bs → BadM C P H' E := fun h => kE fun ⟨bs2, e, o⟩ => h (by
        have : bs2 = bs := List.map_inj_right p2_inj |>.mp (e.symm.trans ebs)
        rw [← this]; exact o)
      have hl40 : bs.length ≤ 40 := by rw [ebs, List.length_map] at c40; exact c40
      have hlb : bs.length = xs.length := Paired.len hGB
      refine ⟨_, rfl, c, a, rfl, ⟨_, hS⟩, fun D nD => lc_sq (K := K) (c := c) (a := a) (xs := xs) (fun i H1 => Grew P H' H1 ∧ ∃ acc, H1 D = some (.lst acc) ∧ Paired (GBar H1) (bs.take i) acc)
        ⟨Grew.new hP nD, [], upd_same, .nil⟩ (fun i H1 _ p => hS.grew p.1 hP) (fun i x H1 hx p => ?_) (fun H1 p => ?_)⟩
      · obtain ⟨g, acc, hD1, hacc⟩ := p
        obtain ⟨b, hb, t, rfl, hT⟩ := Paired.at hGB hx
        have la := Paired.len hacc
        rw [List.length_take] at la
        have et : bs.take (i + 1) = bs.take i ++ [b] := by rw [List.take_succ, hb]; rfl
        have kb : ∀ {H2 : Hp} {ys zs : List V} {b : Str × Str} {v : V}, H2 D = some (.lst ys) → GBar H2 b v → GBar (L2.upd H2 D (.lst zs)) b v := fun h m => m.upd (fun xs z => by rw [h] at z; cases z)
        rcases hT with hT | hT
        · refine ⟨rfl, _, rfl, t, _, rfl, .inl ⟨SqL.of (g.lst hP hT), fun u nu => ?_⟩⟩
          have gu := Grew.new g.tab (o := .tup ((p2 b).map V.str)) nu
          have hD2 := gu.lst g.tab hD1
          refine ⟨_, hD2, by rw [sizeLine_eq]; omega, (g.trans gu).write hD2 (fun _ z => by cases z) nD, acc ++ [.ref u], upd_same, ?_⟩
          rw [et]
          exact Paired.snoc (Paired.map' hacc fun _ _ m => kb hD2 (m.grew gu g.tab)) (kb hD2 ⟨u, rfl, upd_same⟩)
        · refine ⟨rfl, _, rfl, t, _, rfl, .inr ⟨SqT.of (g.tup hP hT), _, hD1, by rw [sizeLine_eq]; omega, g.write hD1 (fun _ z => by cases z) nD, acc ++ [.ref t], upd_same, ?_⟩⟩
          rw [et]
          exact Paired.snoc (Paired.map' hacc fun _ _ m => kb hD1 m) (kb hD1 ⟨t, rfl, g.tup hP hT⟩)
      · obtain ⟨g, acc, hD1, hG1⟩ := p
        rw [← hlb, List.take_length] at hG1
        have lacc := Paired.len hG1
        obtain ⟨ks, ek1, ek2, ek3⟩ := bars_keys (K := K) hG1
        have lk : ks.length = acc.length := by rw [ek1, List.length_map]
        refine ⟨_, rfl, D, rfl, g.tab, .inr ⟨ks, by rw [← ek1]; exact SqL.of hD1, ek3, by omega, fun nd => ?_, fun nd => (kE' fun o => nd (by rw [ek2]; exact nodup_bars o.nd)).on g⟩⟩
        rw [ek2] at nd
        have ok : BarsOk rs bs := ⟨hl40, nodup_p2.mp nd, hall⟩
        refine ⟨_, rfl, D, acc, barAt H1, rfl, SqL.of hD1, fun x hx => ?_, fun ys l hpm hso hl => ⟨l, _, rfl, .inl ⟨SqL.of upd_same, fun p hp2 => ?_⟩⟩⟩
        · obtain ⟨b, _, m⟩ := Paired.mem hG1 hx
          have nm := m.at
          obtain ⟨t, e, q⟩ := m
          exact ⟨t, e, by rw [nm]; exact SqT.of q⟩
        · obtain ⟨bs', pm, hr'⟩ := Paired.perm hpm hG1
          have gl := Grew.new g.tab (o := .lst ys) hl
          have gp := gl.put (o := .tup ys) hp2
          exact kQ bs ebs ok _ p bs' ys (g.trans gp) pm (Paired.pair (fun a b x y m m' e => by rw [m.at, m'.at] at e; exact e) hr' hso) (g.free (gl.free hp2)) upd_same (Paired.map' hr' fun _ _ m => m.grew gp g.tab)
end
end W

set_option Elab.async false
set_option linter.all false
set_option maxRecDepth 100000
set_option maxHeartbeats 1000000
namespace W
open PySem PySem.Spec PyProof.Rows L2 GxR MyG MyS SqX
/-! ### Map.__init__ of whatever is given -/
structure GivenSm (d : Int) (ks ps : List Str) (gs : List RoadI) (bg : List (List Str)) : Prop where
  d : d.natAbs < 10 ^ 12
  kl : ks.length ≤ 1000
  k : ∀ z ∈ ks, z.length ≤ 1000
  pl : ps.length ≤ 1000
  p : ∀ z ∈ ps, z.length ≤ 1000
  rl : gs.length ≤ 1000
  r : ∀ r, Sum.inl r ∈ gs → SmallG r
  bl : bg.length ≤ 1000
  b : ∀ b ∈ bg, ∀ z ∈ b, z.length ≤ 1000
def GivenOk (d : Int) (ks ps : List Str) (gs : List RoadI) (bg : List (List Str)) : Prop := ∃ rs bs, gs = rs.map itemG ∧ bg = bs.map p2 ∧ PartsOk d ks ps rs bs
theorem BarsOk.keptR {rs rs' : List RoadD} {bs : List (Str × Str)} (h : BarsOk rs' bs) (k : KeptAll rs rs') : BarsOk rs bs := by
  obtain ⟨a, b, c⟩ := h
  obtain ⟨l, pm, pr⟩ := k
  have f : ∀ r' ∈ rs', ∃ r ∈ rs, r.name = r'.name ∧ r.start = r'.start ∧ r.goal = r'.goal := fun r' hr' => by
    obtain ⟨r, hr, q⟩ := Paired.mem pr (pm.mem_iff.mpr hr')
    exact ⟨r, hr, q.1.symm, q.2.1.symm, q.2.2.1.symm⟩
  refine ⟨a, b, fun z hz => ?_⟩
  obtain ⟨r1, h1, r2, h2, e1, e2, e3⟩ := c z hz
  obtain ⟨s1, m1, n1, _, g1⟩ := f r1 h1
  obtain ⟨s2, m2, n2, g2, _⟩ := f r2 h2
  exact ⟨s1, m1, s2, m2, by rw [n1]; exact e1, by rw [n2]; exact e2, by rw [g1, g2]; exact e3⟩
def spInitX (K : PySem.W.Frag) (M C P : Addr) : Sp := fun vs H Q E => ∃ (x dx ki pl ro ba : Addr) (ck cp cr cb : Bool) (d : Int) (ks ps : List Str) (gs : List RoadI) (bg : List (List Str)) (xs zs : List V) (H0 : Hp), vs = [.ref x, .int d, .ref ki, .ref pl, .ref ro, .ref ba] ∧
  Grew P H0 H ∧ TabG H0 P ∧ H0 x = none ∧ H x = some (.ins M dx []) ∧ SqK ck K H0 ki (ks.map V.str) ∧ SqK cp K H0 pl (ps.map V.str) ∧ SqK cr K H0 ro xs ∧ Paired (GItem K H0) gs xs ∧ SqK cb K H0 ba zs ∧ Paired (GBarX H0) bg zs ∧ GivenSm d ks ps gs bg ∧
  (∀ rs bs, gs = rs.map itemG → bg = bs.map p2 → PartsOk d ks ps rs bs → ∀ H' ks' ps' rs' bs', Grew P H0 H' → ks'.Perm ks → Asc ks' → ps'.Perm ps → Asc ps' → KeptAll rs rs' → AscR rs' → bs'.Perm bs → AscB bs' → MapAt K H' M x d ks' ps' rs' bs' → Q .non H') ∧
  (¬ GivenOk d ks ps gs bg → BadM C P H0 E)
section
variable {Pg : Program} {w : World} {K : PySem.W.Frag} {mg : Str → Option Value} {base : Heap} {C P : Addr}
theorem ok_initX {f fY fN fR fB M : Addr} {fd fdY fdN fdR fdB : FuncData} {t1 t2 t3 : Tok} {dvs : List V} {kws : List (Str × V)} (F : FunD K "__init__" "Map.__init__" (defArgs sInit) (defBody sInit) (defScope sInit) dvs kws f fd) (T : TxtM K M) (TE : TxtE mg K C)
    (hn : mg "NAME" = some (.int 0 t1)) (hk : mg "MOST_KINDS" = some (.int 4 t2)) (hp : mg "MOST_PLACES" = some (.int 30 t3))
    (GY : FnOk Pg w K mg base (L2.CX Pg w) 1 fY fdY ["day"] (spDayX C P)) (gY : mg "_checked_day" = some (.ref fY)) (kY : PySem.W.keepIn K (.ref fY) = true) (bY : Binds K fdY ["day"] [])
    (GN : FnOk Pg w K mg base (L2.CX Pg w) 3 fN fdN ["names", "least", "most"] (spNamesX K C P)) (gN : mg "_checked_names" = some (.ref fN)) (kN : PySem.W.keepIn K (.ref fN) = true) (bN : Binds K fdN ["names", "least", "most"] [])
    (GR : FnOk Pg w K mg base (L2.CX Pg w) 4 fR fdR ["roads", "day", "places", "kinds"] (spRoadsX K C P)) (gR : mg "_checked_roads" = some (.ref fR)) (kR : PySem.W.keepIn K (.ref fR) = true) (bR : Binds K fdR ["roads", "day", "places", "kinds"] [])
    (GB : FnOk Pg w K mg base (L2.CX Pg w) 2 fB fdB ["bars", "roads_by_name"] (spBarsX K C P)) (gB : mg "_checked_bars" = some (.ref fB)) (kB : PySem.W.keepIn K (.ref fB) = true) (bB : Binds K fdB ["bars", "roads_by_name"] []) :
    FnOk Pg w K mg base (L2.CX Pg w) 5 f fd pInit (spInitX K M C P) := by
  refine F.ok scInit (fun vs H Q E h => ?_) (fun cdv A outer s H vs Q E hr h => ?_)
  · obtain ⟨x, dx, ki, pl, ro, ba, ck, cp, cr, cb, d, ks, ps, gs, bg, xs, zs, H0, rfl, _⟩ := h
    rfl
  · obtain ⟨x, dx, ki, pl, ro, ba, ck, cp, cr, cb, d, ks, ps, gs, bg, xs, zs, H0, rfl, g0, hP0, nx, hx, hKi, hPl, hRo, hG, hBa, hB, sm, kQ, kE⟩ := h
    have hr1 : Room 1 _ := hr.mono (by decide)
    have hr2 : Room 2 _ := hr.mono (by decide)
    have hr3 : Room 3 _ := hr.mono (by decide)
    refine ⟨_, pss_cons (ps_fld (pv 0) (pe_call (E := E) GY hr1 (by rfl) gY kY bY .nil (passes_call (takes_of rfl rfl rfl rfl) (fun _ _ _ _ h => h)) (pa_cons (pv 1) pa_nil)) rfl)
      (pss_cons (ps_fld (pv 0) (pe_call (E := E) GN hr3 (by rfl) gN kN bN .nil (passes_call (takes_of rfl rfl rfl rfl) (fun _ _ _ _ h => h)) (pa_cons (pv 2) (pa_cons pe_int (pa_cons (pe_gI hk) pa_nil)))) rfl)
      (pss_cons (ps_fld (pv 0) (pe_call (E := E) GN hr3 (by rfl) gN kN bN .nil (passes_call (takes_of rfl rfl rfl rfl) (fun _ _ _ _ h => h)) (pa_cons (pv 3) (pa_cons pe_int (pa_cons (pe_gI hp) pa_nil)))) rfl)
      (pss_cons (ps_fld (pv 0) (pe_call (E := E) GR hr (by rfl) gR kR bR .nil (passes_call (takes_of rfl rfl rfl rfl) (fun _ _ _ _ h => h)) (pa_cons (pv 4) (pa_cons (pv 1) (pa_cons (pe_fld (pv 0) rfl) (pa_cons (pe_fld (pv 0) rfl) pa_nil))))) rfl)
      (pss_cons (ps_fld (pv 0) (pe_dc (own := [("road", 6)]) (g := gName 6) (tt := tYes) rfl scInit.nd (pi_tup (pe_fld (pv 0) rfl)) (blkOk_by (N := nInit) (sc := defScope sInit) (by decide +kernel)) (fun _ _ _ _ _ => pg_name (i := 6) scInit.nd rfl (Or.inl rfl)) (fun _ _ _ _ _ => pts_nil)
          (fun _ _ _ _ _ => pe_ix (r := rIxT K) ix_tup (pv 6) (pe_gI hn) (fun _ _ => rfl)) (fun _ _ _ _ _ => pv 6)) rfl)
      (pss_cons (ps_fld (pv 0) (pe_call (E := E) GB hr2 (by rfl) gB kB bB .nil (passes_call (takes_of rfl rfl rfl rfl) (fun _ _ _ _ h => h)) (pa_cons (pv 5) (pa_cons (pe_fld (pv 0) rfl) pa_nil))) rfl)
      (pss_one (ps_fld (pv 0) (pe_dcT (own := [("bar", 7)]) (g := gName 7) (tt := tYes) (u1 hr.units) rfl scInit.nd (pi_tup (pe_fld (pv 0) rfl)) (blkOk_by (N := nInit) (sc := defScope sInit) (by decide +kernel)) (fun _ _ _ _ _ => pg_name (i := 7) scInit.nd rfl (Or.inl rfl)) (fun _ _ _ _ _ => pts_nil)
          (fun _ _ _ _ _ => pv 7) (fun _ _ _ _ _ => pe_bl)) rfl))))))), ?_⟩
    have nins : ∀ (fs : List (Str × V)) (q : Array Value), (HO.ins M dx fs) ≠ .tbl q := fun _ _ z => by cases z
    -- day
    refine ⟨_, rfl, d, rfl, sm.d, g0.tab, fun d1 d2 => ?_, fun nd => (kE fun ⟨_, _, _, _, o⟩ => nd ⟨o.d1, o.d2⟩).on g0⟩
    refine ⟨_, rfl, x, M, dx, [], rfl, hx, T.cl, T.n1, by decide, ?_⟩
    have ga := g0.write (o := .ins M dx (putF "day" (.int d) [])) hx (nins _) nx
    have la : (putF ("day" : Str) (V.int d) []).length ≤ 1 := length_putF _ _ []
    -- kinds
    refine ⟨_, rfl, ki, ck, ks, 1, 4, rfl, hKi.grew ga hP0, sm.kl, sm.k, by decide, by decide, ga.tab, fun kok Hb kk ks' gb nk ek pk ak => ?_, fun nok => (kE fun ⟨_, _, _, _, o⟩ => nok ⟨by have := o.k1; omega, by have := o.k2; omega, o.kn, o.kd⟩).on ga⟩
    have xb := gb.get ga.tab upd_same (nins _)
    refine ⟨_, rfl, x, M, dx, _, rfl, xb, T.cl, T.n2, by omega, ?_⟩
    have gc := (ga.trans gb).write (o := .ins M dx (putF "kinds" (.ref kk) (putF "day" (.int d) []))) xb (nins _) nx
    have lc := length_putF ("kinds" : Str) (V.ref kk) (putF ("day" : Str) (V.int d) [])
    have tk := tup_ins (o := .ins M dx (putF "kinds" (.ref kk) (putF "day" (.int d) []))) xb ek
    -- places
    refine ⟨_, rfl, pl, cp, ps, 0, 30, rfl, hPl.grew gc hP0, sm.pl, sm.p, by decide, by decide, gc.tab, fun pok Hd pp ps' gd np ep pp' ap => ?_, fun nok => (kE fun ⟨_, _, _, _, o⟩ => nok ⟨by omega, by have := o.p2; omega, o.pn, o.pd⟩).on gc⟩
    have xd := gd.get gc.tab upd_same (nins _)
    refine ⟨_, rfl, x, M, dx, _, rfl, xd, T.cl, T.n3, by omega, ?_⟩
    have ge := (gc.trans gd).write (o := .ins M dx (putF "places" (.ref pp) (putF "kinds" (.ref kk) (putF "day" (.int d) [])))) xd (nins _) nx
    have le := length_putF ("places" : Str) (V.ref pp) (putF ("kinds" : Str) (V.ref kk) (putF ("day" : Str) (V.int d) []))
    generalize hfs : putF ("places" : Str) (V.ref pp) (putF ("kinds" : Str) (V.ref kk) (putF ("day" : Str) (V.int d) [])) = fs at ge le ⊢
    have f0 : ∀ f, f ∉ nmF → fs.lookup f = none := by rw [← hfs]; exact noF (noF (noF (fun _ _ => rfl) (by decide +kernel)) (by decide +kernel)) (by decide +kernel)
    have f3 : fs.lookup ("places" : Str) = some (V.ref pp) := by rw [← hfs, lookup_putF, if_pos rfl]
    have f2 : fs.lookup ("kinds" : Str) = some (V.ref kk) := by rw [← hfs, lookup_putF, if_neg (by decide +kernel), lookup_putF, if_pos rfl]
    have f1 : fs.lookup ("day" : Str) = some (V.int d) := by rw [← hfs, lookup_putF, if_neg (by decide +kernel), lookup_putF, if_neg (by decide +kernel), lookup_putF, if_pos rfl]
    have tk2 := tup_ins (o := .ins M dx fs) xd (gd.tup gc.tab tk)
    have tp2 := tup_ins (o := .ins M dx fs) xd ep
    -- roads
    refine ⟨_, rfl, _, rfl, _, rfl, x, M, dx, _, _, rfl, upd_same, T.cl, T.n3, f3, _, rfl, x, M, dx, _, _, rfl, upd_same, T.cl, T.n2, f2,
      ro, pp, kk, cr, d, ps', ks', gs, xs, rfl, hRo.grew ge hP0, Paired.map' hG (fun r v m => GItem.grew ge hP0 m), sm.r, sm.rl, SqT.of tp2, SqT.of tk2, by have := kok.2.1; rw [pk.length_eq]; omega, ge.tab, fun rs ers okr' Hf rr rs' ys gf kr ar nr er hm => ?_, fun nok => (kE fun ⟨rs, _, e, _, o⟩ => nok ⟨rs, e, o.r.perm pp' pk⟩).on ge⟩
    have okr : RoadsOk d ps ks rs := okr'.perm pp'.symm pk.symm
    have xf := gf.get ge.tab upd_same (nins _)
    refine ⟨_, rfl, x, M, dx, _, rfl, xf, T.cl, T.n4, by omega, ?_⟩
    have gg := (ge.trans gf).write (o := .ins M dx (putF "roads" (.ref rr) fs)) xf (nins _) nx
    have lg := length_putF ("roads" : Str) (V.ref rr) fs
    have fg4 : (putF ("roads" : Str) (V.ref rr) fs).lookup ("roads" : Str) = some (V.ref rr) := by rw [lookup_putF, if_pos rfl]
    have fg3 : (putF ("roads" : Str) (V.ref rr) fs).lookup ("places" : Str) = some (V.ref pp) := by rw [lookup_putF, if_neg (by decide +kernel)]; exact f3
    have fg2 : (putF ("roads" : Str) (V.ref rr) fs).lookup ("kinds" : Str) = some (V.ref kk) := by rw [lookup_putF, if_neg (by decide +kernel)]; exact f2
    have fg1 : (putF ("roads" : Str) (V.ref rr) fs).lookup ("day" : Str) = some (V.int d) := by rw [lookup_putF, if_neg (by decide +kernel)]; exact f1
    have fg0 := noF (v := V.ref rr) f0 (show ("roads" : Str) ∈ nmF by decide +kernel)
    generalize hgs : putF ("roads" : Str) (V.ref rr) fs = gs at gg lg fg0 fg1 fg2 fg3 fg4 ⊢
    have tr3 := tup_ins (o := .ins M dx gs) xf er
    have tk3 := tup_ins (o := .ins M dx gs) xf (gf.tup ge.tab tk2)
    have tp3 := tup_ins (o := .ins M dx gs) xf (gf.tup ge.tab tp2)
    have hm3 : Paired (RoadAt K (L2.upd Hf x (.ins M dx gs))) rs' ys := Paired.map' hm fun r v m => m.ins xf
    have lys : ys.length ≤ 60 := by rw [← Paired.len hm3, kr.len]; exact okr.len
    have ndr := kr.nodup okr.nd
    generalize hHg : L2.upd Hf x (.ins M dx gs) = Hg at gg tr3 tk3 tp3 hm3 ⊢
    have xg : Hg x = some (.ins M dx gs) := by rw [← hHg]; exact upd_same
    -- _roads_by_name
    refine ⟨_, rfl, x, M, dx, _, _, rfl, xg, T.cl, T.n4, fg4, rr, rfl, ⟨_, SqT.of tr3⟩, fun D nD => dc_tup (K := K) (a := rr) (xs := ys)
      (fun i H1 => Grew P Hg H1 ∧ ∃ kvs, H1 D = some (.dK kvs) ∧ kvs.length ≤ i ∧ (∀ (j : Nat) r v, j < i → rs'[j]? = some r → ys[j]? = some v → valV kvs (.inr r.name) = some v) ∧ ∀ z : Str, (∀ r ∈ rs'.take i, r.name ≠ z) → valV kvs (.inr z) = none)
      ⟨Grew.new gg.tab nD, [], upd_same, Nat.le_refl _, fun j r v h => absurd h (Nat.not_lt_zero _), fun z _ => rfl⟩ (fun i H1 _ p => SqT.of (p.1.tup gg.tab tr3)) (fun i y H1 hy p => ?_) (fun Hh p => ?_)⟩
    · obtain ⟨g, kvs, hD, hl, hin, hno⟩ := p
      obtain ⟨r, hri, m⟩ := Paired.at hm3 hy
      have hi : i < ys.length := (List.getElem?_eq_some_iff.mp hy).1
      have m1 := m.grew g gg.tab
      obtain ⟨t, q, h, rfl, et, _⟩ := m1
      refine ⟨rfl, _, rfl, t, _, 0, .str r.name, rfl, rfl, SqT.of et, rfl, _, rfl, kvs, .inr r.name, rfl, hD, ?_, g.write hD (fun _ z => by cases z) nD, _, upd_same, ?_, fun j r' v' hj hr' hv' => ?_, fun z hz => ?_⟩
      · rw [sizeLine_eq]; omega
      · exact Nat.le_trans (length_putK kvs (.inr r.name) _) (by omega)
      · rw [valV_put]
        by_cases e : j = i
        · subst e
          rw [hri] at hr'
          rw [hy] at hv'
          cases hr'; cases hv'
          rw [if_pos rfl]
        · have ne : ¬ (Sum.inr r'.name : Key) = .inr r.name := fun z => by
            injection z with z
            have hri' := (List.getElem?_eq_some_iff.mp hri)
            have hrj' := (List.getElem?_eq_some_iff.mp hr')
            obtain ⟨a1, a2⟩ := hri'
            obtain ⟨b1, b2⟩ := hrj'
            refine absurd ?_ (List.pairwise_iff_getElem.mp ndr j i (by rw [List.length_map]; exact b1) (by rw [List.length_map]; exact a1) (by omega))
            rw [List.getElem_map, List.getElem_map, a2, b2]
            exact z
          rw [if_neg ne]
          exact hin j r' v' (by omega) hr' hv'
      · rw [valV_put, if_neg ?_]
        · exact hno z fun r' hr' => hz r' (by rw [List.take_succ]; exact List.mem_append_left _ hr')
        · intro e
          injection e with e
          exact hz r (by rw [List.take_succ, hri]; exact List.mem_append_right _ (List.mem_singleton.mpr rfl)) e.symm
    · obtain ⟨gh, kvs, hD, hl, hin, hno⟩ := p
      have xh := gh.get gg.tab xg (nins _)
      refine ⟨_, rfl, x, M, dx, _, rfl, xh, T.cl, T.n5, by omega, ?_⟩
      have gi := (gg.trans gh).write (o := .ins M dx (putF "_roads_by_name" (.ref D) gs)) xh (nins _) nx
      have li := length_putF ("_roads_by_name" : Str) (V.ref D) gs
      have fi5 : (putF ("_roads_by_name" : Str) (V.ref D) gs).lookup ("_roads_by_name" : Str) = some (V.ref D) := by rw [lookup_putF, if_pos rfl]
      have fi4 : (putF ("_roads_by_name" : Str) (V.ref D) gs).lookup ("roads" : Str) = some (V.ref rr) := by rw [lookup_putF, if_neg (by decide +kernel)]; exact fg4
      have fi3 : (putF ("_roads_by_name" : Str) (V.ref D) gs).lookup ("places" : Str) = some (V.ref pp) := by rw [lookup_putF, if_neg (by decide +kernel)]; exact fg3
      have fi2 : (putF ("_roads_by_name" : Str) (V.ref D) gs).lookup ("kinds" : Str) = some (V.ref kk) := by rw [lookup_putF, if_neg (by decide +kernel)]; exact fg2
      have fi1 : (putF ("_roads_by_name" : Str) (V.ref D) gs).lookup ("day" : Str) = some (V.int d) := by rw [lookup_putF, if_neg (by decide +kernel)]; exact fg1
      have fi0 := noF (v := V.ref D) fg0 (show ("_roads_by_name" : Str) ∈ nmF by decide +kernel)
      generalize his : putF ("_roads_by_name" : Str) (V.ref D) gs = is at gi li fi0 fi1 fi2 fi3 fi4 fi5 ⊢
      have hmh : Paired (RoadAt K Hh) rs' ys := Paired.map' hm3 fun r v m => m.grew gh gg.tab
      have dR : DictR K (L2.upd Hh x (.ins M dx is)) D rs' := by
        refine DictR.ins xh ⟨kvs, hD, fun r hr => ?_, fun z hz => hno z fun r hr => hz r (List.mem_of_mem_take hr)⟩
        obtain ⟨j, hj, ej⟩ := List.getElem_of_mem hr
        have hj' : rs'[j]? = some r := List.getElem?_eq_some_iff.mpr ⟨hj, ej⟩
        obtain ⟨v, hv, m⟩ := Paired.to hmh hj'
        exact ⟨v, hin j r v (List.getElem?_eq_some_iff.mp hv).1 hj' hv, m⟩
      have tr4 := tup_ins (o := .ins M dx is) xh (gh.tup gg.tab tr3)
      have tk4 := tup_ins (o := .ins M dx is) xh (gh.tup gg.tab tk3)
      have tp4 := tup_ins (o := .ins M dx is) xh (gh.tup gg.tab tp3)
      have hm4 : Paired (RoadAt K (L2.upd Hh x (.ins M dx is))) rs' ys := Paired.map' hmh fun r v m => m.ins xh
      generalize hHi : L2.upd Hh x (.ins M dx is) = Hi at gi tr4 tk4 tp4 hm4 dR ⊢
      have xi : Hi x = some (.ins M dx is) := by rw [← hHi]; exact upd_same
      -- bars
      refine ⟨_, rfl, _, rfl, x, M, dx, _, _, rfl, xi, T.cl, T.n5, fi5, ba, D, cb, rs', bg, zs, rfl, hBa.grew gi hP0, Paired.map' hB (fun b v m => GBarX.grew gi hP0 m), sm.bl, sm.b, dR, ndr, gi.tab, fun bs ebs okb' Hj bb bs' zs' gj pb ab nb eb hz => ?_, fun nok => (kE fun ⟨rs2, bs, e2, e, o⟩ => nok ⟨bs, e, by
        have q : rs2 = rs := List.map_inj_right (fun a b h => rG_inj (Sum.inl.inj h)) |>.mp (e2.symm.trans ers)
        rw [q] at o
        exact o.b.kept kr⟩).on gi⟩
      have okb : BarsOk rs bs := okb'.keptR kr
      have xj := gj.get gi.tab xi (nins _)
      refine ⟨_, rfl, x, M, dx, _, rfl, xj, T.cl, T.n6, by omega, ?_⟩
      have gk := (gi.trans gj).write (o := .ins M dx (putF "bars" (.ref bb) is)) xj (nins _) nx
      have lk := length_putF ("bars" : Str) (V.ref bb) is
      have fk6 : (putF ("bars" : Str) (V.ref bb) is).lookup ("bars" : Str) = some (V.ref bb) := by rw [lookup_putF, if_pos rfl]
      have fk5 : (putF ("bars" : Str) (V.ref bb) is).lookup ("_roads_by_name" : Str) = some (V.ref D) := by rw [lookup_putF, if_neg (by decide +kernel)]; exact fi5
      have fk4 : (putF ("bars" : Str) (V.ref bb) is).lookup ("roads" : Str) = some (V.ref rr) := by rw [lookup_putF, if_neg (by decide +kernel)]; exact fi4
      have fk3 : (putF ("bars" : Str) (V.ref bb) is).lookup ("places" : Str) = some (V.ref pp) := by rw [lookup_putF, if_neg (by decide +kernel)]; exact fi3
      have fk2 : (putF ("bars" : Str) (V.ref bb) is).lookup ("kinds" : Str) = some (V.ref kk) := by rw [lookup_putF, if_neg (by decide +kernel)]; exact fi2
      have fk1 : (putF ("bars" : Str) (V.ref bb) is).lookup ("day" : Str) = some (V.int d) := by rw [lookup_putF, if_neg (by decide +kernel)]; exact fi1
      have fk0 := noF (v := V.ref bb) fi0 (show ("bars" : Str) ∈ nmF by decide +kernel)
      generalize hjs : putF ("bars" : Str) (V.ref bb) is = js at gk lk fk0 fk1 fk2 fk3 fk4 fk5 fk6 ⊢
      have tb5 := tup_ins (o := .ins M dx js) xj eb
      have tr5 := tup_ins (o := .ins M dx js) xj (gj.tup gi.tab tr4)
      have tk5 := tup_ins (o := .ins M dx js) xj (gj.tup gi.tab tk4)
      have tp5 := tup_ins (o := .ins M dx js) xj (gj.tup gi.tab tp4)
      have hm5 : Paired (RoadAt K (L2.upd Hj x (.ins M dx js))) rs' ys := Paired.map' hm4 fun r v m => (m.grew gj gi.tab).ins xj
      have hz5 : Paired (GBar (L2.upd Hj x (.ins M dx js))) bs' zs' := Paired.map' hz fun b v m => m.ins xj
      have dR5 : DictR K (L2.upd Hj x (.ins M dx js)) D rs' := (dR.grew gj gi.tab).ins xj
      have lzs : zs'.length ≤ 40 := by rw [← Paired.len hz5, pb.length_eq]; exact okb.len
      generalize hHk : L2.upd Hj x (.ins M dx js) = Hk at gk tb5 tr5 tk5 tp5 hm5 hz5 dR5 ⊢
      have xk : Hk x = some (.ins M dx js) := by rw [← hHk]; exact upd_same
      -- _barred
      refine ⟨_, rfl, x, M, dx, _, _, rfl, xk, T.cl, T.n6, fk6, bb, rfl, ⟨_, SqT.of tb5⟩, fun D2 nD2 => dcT_tup (K := K) (a := bb) (xs := zs')
        (fun i H1 => Grew P Hk H1 ∧ ∃ kvs : List (List Key × V), H1 D2 = some (.dT kvs) ∧ kvs.length ≤ i ∧ ∀ a b : Str, (valV kvs [.inr a, .inr b]).isSome = true ↔ (a, b) ∈ bs'.take i)
        ⟨Grew.new gk.tab nD2, [], upd_same, Nat.le_refl _, fun a b => by simp [valV_nil]⟩ (fun i H1 _ p => SqT.of (p.1.tup gk.tab tb5)) (fun i y H1 hy p => ?_) (fun Hl p => ?_)⟩
      · obtain ⟨g, kvs, hD, hl, hin⟩ := p
        obtain ⟨b, hbi, m⟩ := Paired.at hz5 hy
        have hi : i < zs'.length := (List.getElem?_eq_some_iff.mp hy).1
        obtain ⟨t, rfl, et⟩ := m.grew g gk.tab
        refine ⟨rfl, _, rfl, kvs, [.inr b.1, .inr b.2], t, rfl, et, hD, ?_, g.write hD (fun _ z => by cases z) nD2, _, upd_same, ?_, fun a' b' => ?_⟩
        · rw [sizeLine_eq]; omega
        · have := length_putK kvs ([.inr b.1, .inr b.2] : List Key) (V.bl true)
          omega
        · rw [valV_put, List.take_succ, hbi, List.mem_append]
          by_cases e : ([.inr a', .inr b'] : List Key) = [.inr b.1, .inr b.2]
          · rw [if_pos e]
            have e1 : a' = b.1 := Sum.inr.inj (List.cons.inj e).1
            have e2 : b' = b.2 := Sum.inr.inj (List.cons.inj (List.cons.inj e).2).1
            subst e1 e2
            exact ⟨fun _ => .inr (List.mem_singleton.mpr rfl), fun _ => rfl⟩
          · rw [if_neg e, hin a' b']
            refine ⟨.inl, fun h => h.elim id fun h => ?_⟩
            have h' : (a', b') = b := List.mem_singleton.mp h
            subst h'
            exact absurd rfl e
      · obtain ⟨gl, kvs, hD, hl, hin⟩ := p
        have lb : bs'.length = zs'.length := Paired.len hz5
        rw [← lb, List.take_length] at hin
        have xl := gl.get gk.tab xk (nins _)
        refine ⟨_, rfl, x, M, dx, _, rfl, xl, T.cl, T.n7, by omega, ?_⟩
        have gm := (gk.trans gl).write (o := .ins M dx (putF "_barred" (.ref D2) js)) xl (nins _) nx
        refine kQ rs bs ers ebs ⟨d1, d2, by have := kok.1; omega, by have := kok.2.1; omega, by have := pok.2.1; omega, kok.2.2.1, pok.2.2.1, kok.2.2.2, pok.2.2.2, okr, okb⟩ _ ks' ps' rs' bs' gm pk ak pp' ap kr ar pb ab ⟨dx, putF "_barred" (.ref D2) js, kk, pp, rr, D, bb, D2, ys, zs', upd_same, ?_⟩
        constructor
        · exact noF fk0 (by decide +kernel)
        · rw [lookup_putF, if_neg (by decide +kernel)]; exact fk1
        · rw [lookup_putF, if_neg (by decide +kernel)]; exact fk2
        · rw [lookup_putF, if_neg (by decide +kernel)]; exact fk3
        · rw [lookup_putF, if_neg (by decide +kernel)]; exact fk4
        · rw [lookup_putF, if_neg (by decide +kernel)]; exact fk5
        · rw [lookup_putF, if_neg (by decide +kernel)]; exact fk6
        · rw [lookup_putF, if_pos rfl]
        · exact tup_ins xl (gl.tup gk.tab tk5)
        · exact tup_ins xl (gl.tup gk.tab tp5)
        · exact tup_ins xl (gl.tup gk.tab tr5)
        · exact Paired.map' hm5 fun r v m => (m.grew gl gk.tab).ins xl
        · exact (dR5.grew gl gk.tab).ins xl
        · exact tup_ins xl (gl.tup gk.tab tb5)
        · exact Paired.map' hz5 fun b v m => (m.grew gl gk.tab).ins xl
        · exact ⟨kvs, by rw [upd_ne (insNe xl hD (fun _ _ _ z => by cases z))]; exact hD, hin⟩
end
end W

set_option Elab.async false
set_option linter.all false
set_option maxRecDepth 100000
set_option maxHeartbeats 1000000
/-! xs[::n], n positive -/
namespace StS
open PySem PySem.Spec PyProof.Rows L2
theorem pick_sub {α : Type} {xs : List α} : ∀ {idx : List Nat} (m : Nat), idx.Pairwise (· < ·) → (∀ i ∈ idx, m ≤ i) → List.Sublist (idx.filterMap (xs[·]?)) (xs.drop m)
  | [], m, _, _ => List.nil_sublist _
  | i :: r, m, p, h => by
    have hi := h i List.mem_cons_self
    have q := List.pairwise_cons.mp p
    have ih := pick_sub (xs := xs) (i + 1) q.2 fun j hj => q.1 j hj
    cases e : xs[i]? with
    | none =>
      rw [List.filterMap_cons_none e]
      refine ih.trans ?_
      have : xs.drop (i + 1) = (xs.drop m).drop (i + 1 - m) := by rw [List.drop_drop]; congr 1; omega
      rw [this]
      exact List.drop_sublist _ _
    | some v =>
      rw [List.filterMap_cons_some e]
      obtain ⟨hl, ev⟩ := List.getElem?_eq_some_iff.mp e
      have e1 : xs.drop i = v :: xs.drop (i + 1) := by rw [List.drop_eq_getElem_cons hl, ev]
      have e2 : xs.drop i = (xs.drop m).drop (i - m) := by rw [List.drop_drop]; congr 1; omega
      refine List.Sublist.trans (?_ : List.Sublist _ (xs.drop i)) (by rw [e2]; exact List.drop_sublist _ _)
      rw [e1]
      exact List.Sublist.cons₂ v ih
theorem vals_pick : ∀ {idx : List Nat} {xs : List V} {us : List Value}, Vals xs us → Vals (idx.filterMap (xs[·]?)) (idx.filterMap (us[·]?))
  | [], _, _, _ => .nil
  | i :: r, xs, us, h => by
    have ih := vals_pick (idx := r) h
    cases e : xs[i]? with
    | none =>
      have e2 : us[i]? = none := by
        rw [List.getElem?_eq_none_iff] at e ⊢
        rw [← h.length]; exact e
      rw [List.filterMap_cons_none e, List.filterMap_cons_none e2]
      exact ih
    | some v =>
      obtain ⟨u, e2, rv⟩ := Vals.get h e
      rw [List.filterMap_cons_some e, List.filterMap_cons_some e2]
      exact .cons rv ih
theorem step_idx {n : Nat} {c : Int} (hc : 0 < c) : ∃ idx : List Nat, idx.Pairwise (· < ·) ∧ sliceRange (sliceBounds none none (some c) n).1 (sliceBounds none none (some c) n).2.1 (sliceBounds none none (some c) n).2.2 = idx := by
  refine ⟨_, ?_, rfl⟩
  have e : sliceBounds none none (some c) n = (0, (n : Int), c) := by
    unfold sliceBounds
    simp [show ¬ c < 0 by omega, hc]
  rw [e]
  unfold sliceRange
  refine List.pairwise_map.mpr ((List.pairwise_lt_range).imp fun {a b} h => ?_)
  have h1 : c * (a : Int) < c * (b : Int) := Int.mul_lt_mul_of_pos_left (by omega) hc
  have h2 : 0 ≤ c * (a : Int) := Int.mul_nonneg (by omega) (by omega)
  simp only [Int.zero_add]
  omega
def tStepL (K : PySem.W.Frag) (te ts : TE) : TE := fun σ H Q => te σ H fun x H1 => ∃ a xs, x = .ref a ∧ SqL K H1 a xs ∧ tPart ts σ H1 fun y H2 => ∃ c : Int, y = some c ∧ 0 < c ∧ SqL K H2 a xs ∧ ∀ p ys, List.Sublist ys xs → H2 p = none → Q (.ref p) (upd H2 p (.lst ys))
section
variable {X : Cx}
theorem pe_stepL {e st : Expr} {te ts : TE} {p3 pos : Pos} (he : PE X e te) (hst0 : PE X st ts) (hsub : ∀ v w, subscriptTail e (.Slice none none (some st) p3) v w = subscriptTail e (.Slice none none (some st) p3) v w := by intro _ _; rfl) : PE X (.Subscript e (.Slice none none (some st) p3) pos) (tStepL X.K te ts) := by
  refine ⟨fun pins s σ H Q I h => ?_⟩
  refine Subscript_ (thn (he.run pins s σ H _ I h) fun v s1 ⟨x, H1, I1, r1, q1⟩ => ?_)
  obtain ⟨a, xs, ex, hx, q⟩ := q1
  subst ex
  cases r1
  have hst : PO X (some st) (tPart ts) := po_some hst0
  refine wpAny_Slice (thn (po_none.run pins s1 σ H1 (fun o H2 => o = none ∧ H2 = H1) I1 ⟨rfl, rfl⟩) fun vl s2 ⟨l, H2, I2, pl, el, e2⟩ => ?_)
  subst el e2
  refine thn (po_none.run pins s2 σ H2 (fun o H3 => o = none ∧ H3 = H2) I2 ⟨rfl, rfl⟩) fun vu s3 ⟨u, H3, I3, pu, eu, e3⟩ => ?_
  subst eu e3
  refine thn (hst.run pins s3 σ H3 (fun o H4 => ∃ c : Int, o = some c ∧ 0 < c ∧ SqL X.K H4 a xs ∧ ∀ p ys, List.Sublist ys xs → H4 p = none → Q (.ref p) (upd H4 p (.lst ys))) I3 q) fun vs s4 ⟨o, H4, I4, ps, c, eo, hc, hx4, q4⟩ => ?_
  subst eo
  have I5 : Inv X pins σ H4 { s4 with heap := s4.heap.push { cls := .type "slice", data := .fields #[vl, vu, vs] } } := I4.kept (t' := s4.toks) fun b ob q => Heap.get?_push_of_some _ q
  obtain ⟨its, r, ht, hz⟩ := I5.list hx4
  have hlen := r.length
  show wpAny (model X.prog X.w) X.A (subscriptTail e (.Slice none none (some st) p3) (.ref a) (.ref s4.heap.objs.size)) (EP X pins σ Q) X.xe { s4 with heap := s4.heap.push { cls := .type "slice", data := .fields #[vl, vu, vs] } }
  refine tail_any (ops := [.ref a, .ref s4.heap.objs.size]) ht.isList.typeIs (PySem.slot_list_getitem.lookup) ?_ (by with_unfolding_all rfl)
  refine wpAny_getItem_list_slice ht.isList (Heap.IsSliceOf.new _ vl vu vs) pl pu ps (by intro z; injection z with z; omega) ?_ (by rw [List.size_toArray]; omega)
  obtain ⟨idx, hidx, eidx⟩ := step_idx (n := its.toArray.size) hc
  have epick : slicePick its.toArray none none (some c) = (idx.filterMap (its[·]?)).toArray := by
    unfold slicePick
    rw [eidx]
    simp
  rw [epick]
  have sub : List.Sublist (idx.filterMap (xs[·]?)) xs := by
    have := pick_sub (xs := xs) 0 hidx fun _ _ => Nat.zero_le _
    rwa [List.drop_zero] at this
  refine ⟨.ref _, _, I5.laid (t' := s4.toks) (o := .lst (idx.filterMap (xs[·]?))) (fun b ob q => Heap.get?_push_of_some _ q) (Nat.le_refl _) ?_, rfl, q4 _ _ sub (I5.hok.fresh (Nat.le_refl _))⟩
  exact ⟨Nat.le_trans sub.length_le hz, _, 0, vals_pick r, Heap.get?_push_size _ rfl⟩
end
end StS

set_option Elab.async false
set_option linter.all false
set_option maxRecDepth 100000
set_option maxHeartbeats 1000000
namespace W
open PySem PySem.Spec PyProof.Rows L2 GxR MyG MyS SqX
/-! ### drawn names, of the maps' laws -/
abbrev sLPick : Stmt := top 33
abbrev sLNames : Stmt := top 34
abbrev sLCount : Stmt := top 35
def rInt1 : List V → Hp → VK → Prop := fun xs H Q => (∃ i, xs = [.int i] ∧ Q (.int i) H) ∨ ∃ k, xs = [.bl k] ∧ Q (.int (if k then 1 else 0)) H
def rLenK (K : PySem.W.Frag) : List V → Hp → VK → Prop := fun xs H Q => ∃ p ys, xs = [V.ref p] ∧ (SqL K H p ys ∨ SqT K H p ys) ∧ Q (V.int ys.length) H
def zGood : Str := "abcdefghijklmnopqrstuvwxyz0123456789"
theorem good_all : ∀ c ∈ zGood.cps.toList, goodC c = true := by decide +kernel
theorem good_len : zGood.cps.toList.length = 36 := by decide +kernel
theorem good_nodup : zGood.cps.toList.Nodup := by decide +kernel
theorem good_let : ∀ c ∈ zGood.cps.toList.take 26, c ∈ zLet.cps.toList := by decide +kernel
theorem str_len (x : Str) : x.length = x.cps.toList.length := by simp [Str.length]
def chC (i : Int) : Nat := zGood.cps.toList.getD i.toNat 0
def chS (i : Int) : Str := ⟨#[chC i]⟩
theorem ch_at {i : Int} (h0 : 0 ≤ i) (h1 : i < 36) : atI zGood.cps.toList i = some (chC i) ∧ chC i ∈ zGood.cps.toList := by
  obtain ⟨n, rfl⟩ := Int.eq_ofNat_of_zero_le h0
  have hn : n < zGood.cps.toList.length := by rw [good_len]; omega
  have e : zGood.cps.toList[n]? = some (chC (n : Int)) := by
    unfold chC
    rw [Int.toNat_natCast, List.getD_eq_getElem?_getD, List.getElem?_eq_getElem hn]
    rfl
  exact ⟨atI_nat e, List.mem_of_getElem? e⟩
theorem ch_let {i : Int} (h0 : 0 ≤ i) (h1 : i < 26) : chC i ∈ zLet.cps.toList := by
  obtain ⟨n, rfl⟩ := Int.eq_ofNat_of_zero_le h0
  refine good_let _ ?_
  have hn : n < zGood.cps.toList.length := by rw [good_len]; omega
  unfold chC
  rw [Int.toNat_natCast, List.getD_eq_getElem?_getD, List.getElem?_eq_getElem hn, Option.getD_some]
  exact List.mem_take_iff_getElem.mpr ⟨n, by rw [good_len]; omega, rfl⟩
theorem ch_inj {i j : Int} (i0 : 0 ≤ i) (i1 : i < 36) (j0 : 0 ≤ j) (j1 : j < 36) (e : chC i = chC j) : i = j := by
  obtain ⟨n, rfl⟩ := Int.eq_ofNat_of_zero_le i0
  obtain ⟨m, rfl⟩ := Int.eq_ofNat_of_zero_le j0
  have hn : n < zGood.cps.toList.length := by rw [good_len]; omega
  have hm : m < zGood.cps.toList.length := by rw [good_len]; omega
  unfold chC at e
  rw [Int.toNat_natCast, Int.toNat_natCast, List.getD_eq_getElem?_getD, List.getD_eq_getElem?_getD, List.getElem?_eq_getElem hn, List.getElem?_eq_getElem hm] at e
  have e2 : zGood.cps.toList[n] = zGood.cps.toList[m] := by simpa using e
  rcases Nat.lt_trichotomy n m with c | c | c
  · exact absurd e2 (List.pairwise_iff_getElem.mp good_nodup n m hn hm c)
  · omega
  · exact absurd e2.symm (List.pairwise_iff_getElem.mp good_nodup m n hm hn c)
theorem tl_ch (i : Int) : TL.tl (chS i) = [chC i] := rfl
def nv (ns : List Int) (i : Nat) : Int := ns.getD i 0
theorem nv_at {ns : List Int} (hs : Sm ns) {i : Nat} (h : i < ns.length) : atI (ns.map V.int) (i : Int) = some (.int (nv ns i)) ∧ 0 ≤ nv ns i ∧ nv ns i < 1009 := by
  have e : nv ns i = ns[i] := by
    unfold nv
    rw [List.getD_eq_getElem?_getD, List.getElem?_eq_getElem h]; rfl
  rw [e]
  exact ⟨atI_nat (by rw [List.getElem?_map, List.getElem?_eq_getElem h]; rfl), hs _ (List.getElem_mem h)⟩
/-- the part that all names of a sort have -/
def preS (ns : List Int) (at_ : Nat) : Nat → Str
  | 0 => chS (nv ns at_ % 26)
  | k + 1 => preS ns at_ k ++ chS ((nv ns (at_ + 2) + (k : Int) * nv ns (at_ + 3)) % 36)
theorem pre_len (ns : List Int) (at_ : Nat) : ∀ k, (preS ns at_ k).length = k + 1
  | 0 => rfl
  | k + 1 => by
    show (preS ns at_ k ++ chS _).length = _
    rw [PySem.Str.length_append, pre_len ns at_ k]
    rfl
theorem pre_good {ns : List Int} (at_ : Nat) : ∀ k, ∀ c ∈ TL.tl (preS ns at_ k), c ∈ zGood.cps.toList
  | 0, c, h => by
    rw [show TL.tl (preS ns at_ 0) = [chC (nv ns at_ % 26)] from rfl] at h
    rw [List.mem_singleton.mp h]
    exact (ch_at (by omega) (by omega)).2
  | k + 1, c, h => by
    rw [show preS ns at_ (k + 1) = preS ns at_ k ++ chS ((nv ns (at_ + 2) + (k : Int) * nv ns (at_ + 3)) % 36) from rfl, TL.tl_append] at h
    rcases List.mem_append.mp h with h | h
    · exact pre_good at_ k c h
    · rw [tl_ch] at h
      rw [List.mem_singleton.mp h]
      exact (ch_at (by omega) (by omega)).2
theorem pre_head {ns : List Int} (at_ : Nat) : ∀ k, ∃ r, TL.tl (preS ns at_ k) = chC (nv ns at_ % 26) :: r
  | 0 => ⟨[], rfl⟩
  | k + 1 => by
    obtain ⟨r, e⟩ := pre_head (ns := ns) at_ k
    rw [show preS ns at_ (k + 1) = preS ns at_ k ++ chS ((nv ns (at_ + 2) + (k : Int) * nv ns (at_ + 3)) % 36) from rfl, TL.tl_append, e]
    exact ⟨_, rfl⟩
def tailS (k : Nat) : Str := if 36 ≤ k then "q" else ""
/-- the k-th name -/
def nameS (pre : Str) (place : Nat) (shift : Int) (k : Nat) : Str := ((cutS pre none (some (place : Int)) ++ chS ((shift + 5 * (k : Int)) % 36)) ++ tailS k) ++ cutS pre (some (place : Int)) none
theorem cut_pre {z : Str} {k : Nat} (h : k ≤ z.length) : (cutS z none (some (k : Int))).cps.toList = z.cps.toList.take k := by
  unfold cutS
  rw [HT.sIx_none, HT.sIx_nat, List.drop_zero, Nat.sub_zero, Nat.min_eq_left h]
theorem cut_suf {z : Str} {k : Nat} (h : k ≤ z.length) : (cutS z (some (k : Int)) none).cps.toList = z.cps.toList.drop k := by
  unfold cutS
  rw [HT.sIx_none, HT.sIx_nat, Nat.min_eq_left h]
  show (z.cps.toList.drop k).take (z.length - k) = z.cps.toList.drop k
  refine List.take_of_length_le ?_
  rw [List.length_drop, str_len]
  exact Nat.le_refl _
theorem name_tl {pre : Str} {place : Nat} {shift : Int} {k : Nat} (h : place ≤ pre.length) : TL.tl (nameS pre place shift k) = (TL.tl pre).take place ++ [chC ((shift + 5 * (k : Int)) % 36)] ++ TL.tl (tailS k) ++ (TL.tl pre).drop place := by
  unfold nameS
  rw [TL.tl_append, TL.tl_append, TL.tl_append, tl_ch, show TL.tl (cutS pre none (some (place : Int))) = (TL.tl pre).take place from cut_pre h, show TL.tl (cutS pre (some (place : Int)) none) = (TL.tl pre).drop place from cut_suf h]
theorem tail_len (k : Nat) : (TL.tl (tailS k)).length = if 36 ≤ k then 1 else 0 := by
  unfold tailS
  split <;> decide +kernel
theorem name_len {pre : Str} {place : Nat} {shift : Int} {k : Nat} (h : place ≤ pre.length) : (nameS pre place shift k).length = pre.length + 1 + if 36 ≤ k then 1 else 0 := by
  rw [TL.len_tl, name_tl h]
  simp only [List.length_append, List.length_take, List.length_drop, List.length_singleton, tail_len]
  rw [TL.len_tl] at h
  rw [TL.len_tl pre]
  omega
theorem name_ok {ns : List Int} {at_ m place : Nat} {shift : Int} {k : Nat} (hm : m ≤ 9) (h0 : 1 ≤ place) (h : place ≤ m + 1) : isNm (nameS (preS ns at_ m) place shift k) = true := by
  have hl := pre_len ns at_ m
  have hp : place ≤ (preS ns at_ m).length := by omega
  have e := name_tl (shift := shift) (k := k) hp
  have nl := name_len (shift := shift) (k := k) hp
  obtain ⟨r, er⟩ := pre_head (ns := ns) at_ m
  unfold isNm
  obtain ⟨p', rfl⟩ : ∃ p', place = p' + 1 := ⟨place - 1, by omega⟩
  have e2 : (nameS (preS ns at_ m) (p' + 1) shift k).cps.toList = chC (nv ns at_ % 26) :: (r.take p' ++ [chC ((shift + 5 * (k : Int)) % 36)] ++ TL.tl (tailS k) ++ (TL.tl (preS ns at_ m)).drop (p' + 1)) := by
    show TL.tl _ = _
    rw [e, er]
    rfl
  have hall : ∀ c ∈ TL.tl (nameS (preS ns at_ m) (p' + 1) shift k), goodC c = true := fun c hc => by
    rw [e] at hc
    rcases List.mem_append.mp hc with hc | hc
    · rcases List.mem_append.mp hc with hc | hc
      · rcases List.mem_append.mp hc with hc | hc
        · exact good_all c (pre_good at_ m c (List.mem_of_mem_take hc))
        · rw [List.mem_singleton.mp hc]
          exact good_all _ (ch_at (by omega) (by omega)).2
      · unfold tailS at hc
        split at hc
        · have a : ∀ c ∈ TL.tl ("q" : Str), goodC c = true := by decide +kernel
          exact a c hc
        · have a : ∀ c ∈ TL.tl ("" : Str), goodC c = true := by decide +kernel
          exact a c hc
    · exact good_all c (pre_good at_ m c (List.mem_of_mem_drop hc))
  simp only [Bool.and_eq_true, decide_eq_true_eq]
  refine ⟨⟨⟨?_, ?_⟩, ?_⟩, List.all_eq_true.mpr hall⟩
  · rw [nl]; omega
  · rw [nl]; split <;> omega
  · rw [e2]
    exact decide_eq_true (ch_let (i := nv ns at_ % 26) (by omega) (by omega))
theorem name_inj {pre : Str} {place : Nat} {shift : Int} {k l : Nat} (h : place ≤ pre.length) (hk : k < 72) (hl : l < 72) (e : nameS pre place shift k = nameS pre place shift l) : k = l := by
  have e1 := congrArg Str.length e
  rw [name_len h, name_len h] at e1
  have e2 := congrArg TL.tl e
  rw [name_tl h, name_tl h] at e2
  have et : tailS k = tailS l := by
    unfold tailS
    by_cases a : 36 ≤ k <;> by_cases b : 36 ≤ l
    · rw [if_pos a, if_pos b]
    · rw [if_pos a, if_neg b] at e1; omega
    · rw [if_neg a, if_pos b] at e1; omega
    · rw [if_neg a, if_neg b]
  rw [et, List.append_assoc, List.append_assoc, List.append_assoc, List.append_assoc, List.append_cancel_left_eq] at e2
  have e3 : chC ((shift + 5 * (k : Int)) % 36) = chC ((shift + 5 * (l : Int)) % 36) := (List.cons.inj e2).1
  have e4 := ch_inj (by omega) (by omega) (by omega) (by omega) e3
  by_cases a : 36 ≤ k <;> by_cases b : 36 ≤ l
  · omega
  · rw [if_pos a, if_neg b] at e1; omega
  · rw [if_neg a, if_pos b] at e1; omega
  · omega
def atOf (ns : List Int) (a : Nat) : Nat := if nv ns 1 % 5 = 1 then 2 else a
def sizeOf' (ns : List Int) (a : Nat) : Nat := (nv ns (a + 1) % 10).toNat
/-- the drawn names -/
def nameK (ns : List Int) (a0 k : Nat) : Str :=
  let a := atOf ns a0
  let m := sizeOf' ns a
  nameS (preS ns a m) (1 + (nv ns (a + 4) % ((m : Int) + 1)).toNat) (nv ns (a + 5)) k
def namesL (ns : List Int) (a0 many : Nat) : List Str := (List.range many).map (nameK ns a0)
theorem size_le (ns : List Int) (a : Nat) : sizeOf' ns a ≤ 9 := by unfold sizeOf'; omega
theorem place_le (ns : List Int) (a m : Nat) : (nv ns (a + 4) % ((m : Int) + 1)).toNat ≤ m := by
  have := Int.emod_lt_of_pos (nv ns (a + 4)) (show (0 : Int) < (m : Int) + 1 by omega)
  have := Int.emod_nonneg (nv ns (a + 4)) (show (m : Int) + 1 ≠ 0 by omega)
  omega
theorem nameK_ok (ns : List Int) (a0 k : Nat) : isNm (nameK ns a0 k) = true := name_ok (size_le ns _) (by omega) (by have := place_le ns (atOf ns a0) (sizeOf' ns (atOf ns a0)); omega)
theorem nameK_inj {ns : List Int} {a0 k l : Nat} (hk : k < 72) (hl : l < 72) (e : nameK ns a0 k = nameK ns a0 l) : k = l :=
  name_inj (by rw [pre_len]; have := place_le ns (atOf ns a0) (sizeOf' ns (atOf ns a0)); omega) hk hl e
theorem namesL_ok (ns : List Int) (a0 many : Nat) : (namesL ns a0 many).all isNm = true := List.all_eq_true.mpr fun z hz => by
  obtain ⟨k, _, rfl⟩ := List.mem_map.mp hz
  exact nameK_ok ns a0 k
theorem namesL_nodup {ns : List Int} {a0 many : Nat} (h : many ≤ 72) : (namesL ns a0 many).Nodup := by
  refine List.pairwise_map.mpr ?_
  refine List.Pairwise.imp_of_mem (R := (· ≠ ·)) ?_ (List.nodup_range (n := many))
  intro x y hx hy ne e
  exact ne (nameK_inj (by have := List.mem_range.mp hx; omega) (by have := List.mem_range.mp hy; omega) e)
theorem namesL_len (ns : List Int) (a0 many : Nat) : (namesL ns a0 many).length = many := by unfold namesL; rw [List.length_map, List.length_range]
theorem namesL_take {ns : List Int} {a0 many i : Nat} (h : i ≤ many) : (namesL ns a0 many).take i = namesL ns a0 i := by
  unfold namesL
  rw [← List.map_take, List.take_range, Nat.min_eq_left h]
end W

set_option Elab.async false
set_option linter.all false
set_option maxRecDepth 100000
set_option maxHeartbeats 2000000
namespace W
open PySem PySem.Spec PyProof.Rows L2 GxR MyG MyS SqX
def spLPick (K : PySem.W.Frag) : Sp := fun vs H Q _ => ∃ (a : Addr) (ns : List Int) (k : Int), vs = [.ref a, .int k] ∧ SqL K H a (ns.map V.int) ∧ Sm ns ∧ 0 < ns.length ∧ ns.length ≤ 1000 ∧ 0 ≤ k ∧ ∀ v : Int, 0 ≤ v → Q (.int v) H
def spLCount : Sp := fun vs H Q _ => ∃ n lo hi : Int, vs = [.int n, .int lo, .int hi] ∧ 0 ≤ n ∧ lo ≤ hi ∧ ∀ v : Int, lo ≤ v → v ≤ hi → Q (.int v) H
def spLNames (K : PySem.W.Frag) (P : Addr) : Sp := fun vs H Q _ => ∃ (a : Addr) (ns : List Int) (at_ many : Nat), vs = [.ref a, .int (at_ : Int), .int (many : Int)] ∧ SqL K H a (ns.map V.int) ∧ Sm ns ∧ at_ + 6 ≤ ns.length ∧ 8 ≤ ns.length ∧ many ≤ 72 ∧ TabG H P ∧
  ∀ H' p, Grew P H H' → H p = none → H' p = some (.lst ((namesL ns at_ many).map V.str)) → Q (.ref p) H'
section
variable {Pg : Program} {w : World} {K : PySem.W.Frag} {mg : Str → Option Value} {base : Heap} {C P : Addr}
theorem scLPick : FnScope ["numbers", "k"] ["numbers", "k"] (defScope sLPick) := ⟨rfl, rfl, rfl, by decide +kernel, rfl, by decide +kernel, by decide +kernel⟩
theorem ok_lpick {f : Addr} {fd : FuncData} (F : Fun K "_law_pick" "_law_pick" sLPick f fd) (hi : mg "int" = none) (hl : mg "len" = none) : FnOk Pg w K mg base CX0 1 f fd ["numbers", "k"] (spLPick K) := by
  refine F.ok scLPick (fun vs H Q E h => ?_) (fun cdv A outer s H vs Q E hr h => ?_)
  · obtain ⟨a, ns, k, rfl, _⟩ := h
    rfl
  · obtain ⟨a, ns, k, rfl, hA, hsm, hpos, hl9, hk, kQ⟩ := h
    refine ⟨_, pss_one (ps_ret (pe_op op_add (pe_callTy (r := rInt1) call_int1 (by rfl) hi (by decide +kernel) (pa_cons (pe_ix (r := rIxL K) ix_list (pv 0) (pe_op op_mod (pv 1) (pe_callB (r := rLenK K) call_len_seq (by rfl) hl PySem.boot_len (pa_cons (pv 0) pa_nil))) (fun _ _ => rfl)) pa_nil))
      (pe_op op_mul pe_int (pe_op op_fdiv (pv 1) (pe_callB (r := rLenK K) call_len_seq (by rfl) hl PySem.boot_len (pa_cons (pv 0) pa_nil)))))), ?_⟩
    have hpz : (0 : Int) < ((ns.map V.int).length : Int) := by rw [List.length_map]; omega
    have b0 := Int.emod_nonneg k (show ((ns.map V.int).length : Int) ≠ 0 by omega)
    have b1 := Int.emod_lt_of_pos k hpz
    obtain ⟨i, ei⟩ := Int.eq_ofNat_of_zero_le b0
    have hi2 : i < ns.length := by rw [ei, List.length_map] at b1; omega
    obtain ⟨e, e0, _⟩ := nv_at hsm hi2
    have hd : (0 : Int) ≤ k / ((ns.map V.int).length : Int) := Int.ediv_nonneg hk (by omega)
    refine ⟨_, rfl, _, rfl, _, rfl, a, _, rfl, .inl hA, _, _, rfl, rfl, hpz, a, _, _, .int (nv ns i), rfl, rfl, hA, (show atI (ns.map V.int) (k % ((ns.map V.int).length : Int)) = _ by rw [ei]; exact e), ?_⟩
    refine .inl ⟨_, rfl, ?_⟩
    refine ⟨_, rfl, _, rfl, a, _, rfl, .inl hA, _, _, rfl, rfl, ⟨hpz, by rw [List.length_map]; omega⟩, _, _, rfl, rfl, .inl ⟨by decide, by decide⟩, _, _, rfl, rfl, ?_⟩
    exact kQ _ (by have := Int.mul_nonneg (show (0 : Int) ≤ 31 by decide) hd; omega)
theorem scLCount : FnScope ["number", "least", "most"] ["number", "least", "most"] (defScope sLCount) := ⟨rfl, rfl, rfl, by decide +kernel, rfl, by decide +kernel, by decide +kernel⟩
theorem ok_lcount {f : Addr} {fd : FuncData} (F : Fun K "_law_count" "_law_count" sLCount f fd) (hi : mg "int" = none) (hm : mg "min" = none) : FnOk Pg w K mg base CX0 1 f fd ["number", "least", "most"] spLCount := by
  refine F.ok scLCount (fun vs H Q E h => ?_) (fun cdv A outer s H vs Q E hr h => ?_)
  · obtain ⟨n, lo, hi, rfl, _⟩ := h
    rfl
  · obtain ⟨n, lo, hi', rfl, hn, hlh, kQ⟩ := h
    refine ⟨_, pss_cons (ps_if (pt_cmpR op_eq (pe_op op_mod (pe_callTy (r := rInt1) call_int1 (by rfl) hi (by decide +kernel) (pa_cons (pv 0) pa_nil)) pe_int) pe_int (nomark _)) (pss_one (ps_ret (pv 1))) pss_nil)
      (pss_cons (ps_if (pt_cmpR op_eq (pe_op op_mod (pe_callTy (r := rInt1) call_int1 (by rfl) hi (by decide +kernel) (pa_cons (pv 0) pa_nil)) pe_int) pe_int (nomark _)) (pss_one (ps_ret (pv 2))) pss_nil)
      (pss_one (ps_ret (pe_op op_add (pv 1) (pe_op op_mod (pe_op op_fdiv (pe_callTy (r := rInt1) call_int1 (by rfl) hi (by decide +kernel) (pa_cons (pv 0) pa_nil)) pe_int)
        (pe_op op_add (pe_op op_sub (pe_callB (call_min2 rfl) (by rfl) hm (by decide +kernel) (pa_cons (pv 2) (pa_cons (pe_op op_add (pv 1) pe_int) pa_nil))) (pv 1)) pe_int)))))), ?_⟩
    refine ⟨_, rfl, .inl ⟨_, rfl, _, _, rfl, rfl, (show (0 : Int) < 9 by decide), rfl, _, rfl, ?_⟩⟩
    refine ite2 (fun _ => ⟨_, rfl, kQ lo (Int.le_refl _) hlh⟩) (fun _ => ?_)
    refine ⟨_, rfl, .inl ⟨_, rfl, _, _, rfl, rfl, (show (0 : Int) < 9 by decide), rfl, _, rfl, ?_⟩⟩
    refine ite2 (fun _ => ⟨_, rfl, kQ hi' hlh (Int.le_refl _)⟩) (fun _ => ?_)
    refine ⟨_, rfl, _, rfl, .inl ⟨_, rfl, _, _, rfl, rfl, ⟨by decide, by decide⟩, ?_⟩⟩
    refine ⟨_, rfl, _, rfl, _, _, rfl, rfl, _, _, rfl, ?_⟩
    dsimp only []
    obtain ⟨m, em, m1, m2⟩ : ∃ m : Int, (if lo + 8 < hi' then lo + 8 else hi') = m ∧ lo ≤ m ∧ m ≤ hi' := by
      by_cases c : lo + 8 < hi'
      · exact ⟨lo + 8, by rw [if_pos c], by omega, by omega⟩
      · exact ⟨hi', by rw [if_neg c], hlh, Int.le_refl _⟩
    rw [em]
    refine ⟨_, rfl, _, _, rfl, rfl, _, _, rfl, rfl, ?_⟩
    dsimp only []
    have p : (0 : Int) < m - lo + 1 := by omega
    refine ⟨_, _, rfl, rfl, p, _, _, rfl, rfl, ?_⟩
    have q0 := Int.emod_nonneg (n / 9) (show m - lo + 1 ≠ 0 by omega)
    have q1 := Int.emod_lt_of_pos (n / 9) p
    exact kQ _ (by omega) (by omega)
abbrev nLN : List Str := ["numbers", "at", "many", "chars", "prefix", "k", "place", "shift", "names", "tail"]
theorem scLN : FnScope nLN ["numbers", "at", "many"] (defScope sLNames) := ⟨rfl, rfl, rfl, by decide +kernel, rfl, by decide +kernel, by decide +kernel⟩
theorem ok_lnames {f : Addr} {fd : FuncData} (F : Fun K "_law_names" "_law_names" sLNames f fd) (hi : mg "int" = none) (hrg : mg "range" = none) (hl : mg "len" = none) : FnOk Pg w K mg base CX0 1 f fd ["numbers", "at", "many"] (spLNames K P) := by
  refine F.ok scLN (fun vs H Q E h => ?_) (fun cdv A outer s H vs Q E hr h => ?_)
  · obtain ⟨a, ns, at_, many, rfl, _⟩ := h
    rfl
  · obtain ⟨a, ns, at0, many, rfl, hA, hsm, hl6, hl8, hm72, hP, k⟩ := h
    have num : ∀ e, PE (cxOf CX0 Pg w K mg base nLN "_law_names" (defScope sLNames) f cdv A outer s H E) e = PE (cxOf CX0 Pg w K mg base nLN "_law_names" (defScope sLNames) f cdv A outer s H E) e := fun _ => rfl
    refine ⟨_, C8.pss_cut (ps_if (pt_cmpR op_eq (pe_op op_mod (pe_callTy (r := rInt1) call_int1 (by rfl) hi (by decide +kernel) (pa_cons (pe_ix (r := rIxL K) ix_list (pv 0) pe_int (fun _ _ => rfl)) pa_nil)) pe_int) pe_int (nomark _)) (pss_one (ps_set (i := 1) scLN.nd rfl (Or.inl rfl) pe_int)) pss_nil)
      (pss_cons (ps_set (i := 3) scLN.nd rfl (Or.inl rfl) pe_str)
      (pss_cons (ps_set (i := 4) scLN.nd rfl (Or.inl rfl) (pe_ix (r := rIxS) ix_str (pv 3) (pe_op op_mod (pe_callTy (r := rInt1) call_int1 (by rfl) hi (by decide +kernel) (pa_cons (pe_ix (r := rIxL K) ix_list (pv 0) (pv 1) (fun _ _ => rfl)) pa_nil)) pe_int) (fun _ _ => rfl)))
      (C8.pss_cut (ps_for PassesOwn.never rfl (pi_range1 rfl hrg (pa_cons (pe_op op_mod (pe_callTy (r := rInt1) call_int1 (by rfl) hi (by decide +kernel) (pa_cons (pe_ix (r := rIxL K) ix_list (pv 0) (pe_op op_add (pv 1) pe_int) (fun _ _ => rfl)) pa_nil)) pe_int) pa_nil)) (pg_name (i := 5) scLN.nd rfl (Or.inl rfl))
        (pss_one (ps_set (i := 4) scLN.nd rfl (Or.inl rfl) (pe_op op_add_str (pv 4) (pe_ix (r := rIxS) ix_str (pv 3) (pe_op op_mod (pe_callTy (r := rInt1) call_int1 (by rfl) hi (by decide +kernel) (pa_cons (pe_op op_add (pe_ix (r := rIxL K) ix_list (pv 0) (pe_op op_add (pv 1) pe_int) (fun _ _ => rfl)) (pe_op op_mul (pv 5) (pe_ix (r := rIxL K) ix_list (pv 0) (pe_op op_add (pv 1) pe_int) (fun _ _ => rfl)))) pa_nil)) pe_int) (fun _ _ => rfl))))))
      (pss_cons (ps_set (i := 6) scLN.nd rfl (Or.inl rfl) (pe_op op_add pe_int (pe_op op_mod (pe_callTy (r := rInt1) call_int1 (by rfl) hi (by decide +kernel) (pa_cons (pe_ix (r := rIxL K) ix_list (pv 0) (pe_op op_add (pv 1) pe_int) (fun _ _ => rfl)) pa_nil)) (pe_callB call_len_str (by rfl) hl PySem.boot_len (pa_cons (pv 4) pa_nil)))))
      (pss_cons (ps_set (i := 7) scLN.nd rfl (Or.inl rfl) (pe_callTy (r := rInt1) call_int1 (by rfl) hi (by decide +kernel) (pa_cons (pe_ix (r := rIxL K) ix_list (pv 0) (pe_op op_add (pv 1) pe_int) (fun _ _ => rfl)) pa_nil)))
      (pss_cons (ps_set (i := 8) scLN.nd rfl (Or.inl rfl) (pe_lst pa_nil))
      (C8.pss_cut (ps_for PassesOwn.never rfl (pi_range1 rfl hrg (pa_cons (pv 2) pa_nil)) (pg_name (i := 5) scLN.nd rfl (Or.inl rfl))
        (pss_cons (ps_set (i := 9) scLN.nd rfl (Or.inl rfl) (pe_ix (r := rIxL K) ix_list (pe_lst (pa_cons pe_str (pa_cons pe_str pa_nil))) (pe_callTy (r := rInt1) call_int1 (by rfl) hi (by decide +kernel) (pa_cons (pe_cmpR op_ge (pv 5) pe_int (nomark _)) pa_nil)) (fun _ _ => rfl)))
        (pss_one (ps_expr (pe_bm PySem.F.plainAttrs_list PySem.F.slot_list_append PySem.F.type_list_append mt_append (pv 8) (pa_cons
          (pe_op op_add_str (pe_op op_add_str (pe_op op_add_str (pe_slice sl_str (pv 4) po_none (po_some (pv 6))) (pe_ix (r := rIxS) ix_str (pv 3) (pe_op op_mod (pe_callTy (r := rInt1) call_int1 (by rfl) hi (by decide +kernel) (pa_cons (pe_op op_add (pv 7) (pe_op op_mul pe_int (pv 5))) pa_nil)) pe_int) (fun _ _ => rfl))) (pv 9)) (pe_slice sl_str (pv 4) (po_some (pv 6)) po_none)) pa_nil))))))
      (pss_one (ps_ret (pv 8)))))))))), ?_⟩
    have nat := fun (i : Nat) (h : i < ns.length) => nv_at hsm h
    obtain ⟨f1, _, _⟩ := nat 1 (by omega)
    refine ⟨fun σ H' => H' = H ∧ σ = [some (.ref a), some (.int (atOf ns at0 : Int)), some (.int (many : Int)), none, none, none, none, none, none, none], ?_, ?_⟩
    · refine ⟨_, rfl, a, _, 1, _, rfl, rfl, hA, f1, .inl ⟨_, rfl, _, _, rfl, rfl, (show (0 : Int) < 5 by decide), rfl, _, rfl, ?_⟩⟩
      by_cases c : nv ns 1 % 5 = 1
      · refine if_t (decide_eq_true (congrArg V.int c)) ⟨rfl, ?_⟩
        unfold atOf
        rw [if_pos c]
        rfl
      · refine if_f (decide_eq_false (fun e => c (by injection e with e))) ⟨rfl, ?_⟩
        unfold atOf
        rw [if_neg c]
        rfl
    rintro σ H' ⟨rfl, rfl⟩
    obtain ⟨at_, eat⟩ : ∃ at_, at_ = atOf ns at0 := ⟨_, rfl⟩
    have hat : at_ + 6 ≤ ns.length := by
      rw [eat]
      unfold atOf
      split <;> omega
    rw [← eat]
    have atn : ∀ j : Nat, j < 6 → atI (ns.map V.int) ((at_ : Int) + (j : Int)) = some (.int (nv ns (at_ + j))) := fun j hj => by
      have := (nat (at_ + j) (by omega)).1
      rw [show ((at_ + j : Nat) : Int) = (at_ : Int) + (j : Int) from by omega] at this
      exact this
    have zlen : zGood.length ≤ sizeLine := by decide +kernel
    have ezg : (Str.ofString "abcdefghijklmnopqrstuvwxyz0123456789") = zGood := rfl
    obtain ⟨f0, p0, _⟩ := nat at_ (by omega)
    obtain ⟨c0, _⟩ := ch_at (i := nv ns at_ % 26) (by omega) (by omega)
    refine ⟨_, rfl, _, rfl, _, rfl, a, _, _, _, rfl, rfl, hA, f0, .inl ⟨_, rfl, _, _, rfl, rfl, (show (0 : Int) < 26 by decide), _, _, _, rfl, rfl, zlen, c0, ?_⟩⟩
    obtain ⟨m, em⟩ : ∃ m, m = sizeOf' ns at_ := ⟨_, rfl⟩
    have m9 : m ≤ 9 := by rw [em]; exact size_le ns at_
    refine ⟨fun σ H2 => H2 = H' ∧ ∃ kv, σ = [some (.ref a), some (.int (at_ : Int)), some (.int (many : Int)), some (.str zGood), some (.str (preS ns at_ m)), kv, none, none, none, none], ?_, ?_⟩
    · have p1 := (nat (at_ + 1) (by omega)).2.1
      rw [em]
      refine ⟨_, rfl, _, rfl, _, _, rfl, rfl, a, _, _, _, rfl, rfl, hA, atn 1 (by decide), .inl ⟨_, rfl, _, _, rfl, rfl, (show (0 : Int) < 10 by decide), nv ns (at_ + 1) % 10, rfl, by omega, by omega, for_range (n := sizeOf' ns at_) (fun j σ H2 => H2 = H' ∧ ∃ kv, σ = [some (.ref a), some (.int (at_ : Int)), some (.int (many : Int)), some (.str zGood), some (.str (preS ns at_ j)), kv, none, none, none, none]) ⟨rfl, none, rfl⟩ ?_ ?_⟩⟩
      · rintro j σ H2 hj ⟨rfl, kv, rfl⟩
        obtain ⟨cc, _⟩ := ch_at (i := (nv ns (at_ + 2) + (j : Int) * nv ns (at_ + 3)) % 36) (by omega) (by omega)
        have n3 := (nat (at_ + 3) (by omega)).2
        refine ⟨_, rfl, _, rfl, _, rfl, _, rfl, _, _, rfl, rfl, a, _, _, _, rfl, rfl, hA, atn 2 (by decide), _, rfl, _, rfl, _, rfl, _, _, rfl, rfl, a, _, _, _, rfl, rfl, hA, atn 3 (by decide), _, _, rfl, rfl, .inl ⟨by omega, by omega⟩, _, _, rfl, rfl, .inl ⟨_, rfl, _, _, rfl, rfl, (show (0 : Int) < 36 by decide), ?_⟩⟩
        dsimp only []
        rw [Int.zero_add]
        refine ⟨_, _, _, rfl, rfl, zlen, cc, preS ns at_ j, _, rfl, rfl, ?_, rfl, _, rfl⟩
        have := pre_len ns at_ j
        rw [this, sizeLine_eq]
        show _ + 1 ≤ _
        omega
      · rintro σ H2 ⟨rfl, kv, rfl⟩
        exact ⟨rfl, kv, rfl⟩
    rintro σ H2 ⟨rfl, kv, rfl⟩
    obtain ⟨pre, epre⟩ : ∃ pre, pre = preS ns at_ m := ⟨_, rfl⟩
    rw [← epre]
    have hpl : pre.length = m + 1 := by rw [epre]; exact pre_len ns at_ m
    have hml : (0 : Int) < (m : Int) + 1 := by omega
    refine ⟨_, rfl, _, rfl, _, _, rfl, rfl, a, _, _, _, rfl, rfl, hA, atn 4 (by decide), .inl ⟨_, rfl, _, rfl, _, rfl, by rw [hpl, sizeLine_eq]; omega, _, _, rfl, rfl, ?_⟩⟩
    rw [hpl]
    refine ⟨by omega, _, _, rfl, rfl, ?_⟩
    obtain ⟨place, epl, pl1, pl2⟩ : ∃ place : Nat, 1 + nv ns (at_ + 4) % ((m + 1 : Nat) : Int) = (place : Int) ∧ 1 ≤ place ∧ place ≤ m + 1 := by
      have q0 := Int.emod_nonneg (nv ns (at_ + 4)) (show ((m + 1 : Nat) : Int) ≠ 0 by omega)
      have q1 := Int.emod_lt_of_pos (nv ns (at_ + 4)) (show (0 : Int) < ((m + 1 : Nat) : Int) by omega)
      exact ⟨(1 + nv ns (at_ + 4) % ((m + 1 : Nat) : Int)).toNat, by omega, by omega, by omega⟩
    dsimp only []
    rw [epl]
    refine ⟨_, rfl, _, rfl, _, _, rfl, rfl, a, _, _, _, rfl, rfl, hA, atn 5 (by decide), .inl ⟨_, rfl, ?_⟩⟩
    refine ⟨Nat.zero_le _, fun L nL => ?_⟩
    have gL := Grew.new hP (o := .lst []) nL
    have hfin : ∀ j, nameK ns at0 j = nameS pre place (nv ns (at_ + 5)) j := fun j => by
      show nameS (preS ns (atOf ns at0) (sizeOf' ns (atOf ns at0))) (1 + (nv ns (atOf ns at0 + 4) % ((sizeOf' ns (atOf ns at0) : Int) + 1)).toNat) (nv ns (atOf ns at0 + 5)) j = _
      rw [← eat, ← em, ← epre]
      have ec : ((m + 1 : Nat) : Int) = (m : Int) + 1 := by omega
      have epl' := epl
      rw [ec] at epl'
      have : 1 + (nv ns (at_ + 4) % ((m : Int) + 1)).toNat = place := by omega
      rw [this]
    refine ⟨fun σ H3 => ∃ v5 v9, σ = [some (.ref a), some (.int (at_ : Int)), some (.int (many : Int)), some (.str zGood), some (.str pre), v5, some (.int (place : Int)), some (.int (nv ns (at_ + 5))), some (.ref L), v9] ∧ Grew P H2 H3 ∧ H3 L = some (.lst ((namesL ns at0 many).map V.str)), ?_, ?_⟩
    · refine ⟨_, rfl, (many : Int), rfl, by omega, by omega, for_range (n := many) (fun j σ H3 => ∃ v5 v9, σ = [some (.ref a), some (.int (at_ : Int)), some (.int (many : Int)), some (.str zGood), some (.str pre), v5, some (.int (place : Int)), some (.int (nv ns (at_ + 5))), some (.ref L), v9] ∧ Grew P H2 H3 ∧ H3 L = some (.lst ((namesL ns at0 j).map V.str)))
        ⟨_, _, rfl, gL, upd_same⟩ ?_ ?_⟩
      · rintro j σ H3 hj ⟨v5, v9, rfl, g3, hL3⟩
        refine ⟨(show 2 ≤ sizeLine by decide), fun T nT => ?_⟩
        have gT := Grew.new g3.tab (o := .lst [V.str "", V.str "q"]) nT
        have hL4 := gT.lst g3.tab hL3
        have hT : (L2.upd H3 T (.lst [V.str "", V.str "q"])) T = some (.lst [V.str "", V.str "q"]) := upd_same
        have g4 := g3.trans gT
        have e1 : L2.upd H3 T (.lst [V.str (Str.ofString ""), V.str (Str.ofString "q")]) = L2.upd H3 T (.lst [V.str "", V.str "q"]) := rfl
        rw [e1]
        generalize L2.upd H3 T (.lst [V.str "", V.str "q"]) = H4 at g4 hL4 hT ⊢
        have tl : atI [V.str "", V.str "q"] (if decide ((36 : Int) ≤ 0 + (j : Int)) = true then 1 else 0) = some (.str (tailS j)) := by
          unfold tailS
          by_cases c : 36 ≤ j
          · rw [if_pos (decide_eq_true (by omega)), if_pos c]; rfl
          · rw [if_neg (by rw [decide_eq_false (by omega)]; simp), if_neg c]; rfl
        refine ⟨_, rfl, _, _, rfl, rfl, .inr ⟨_, rfl, T, _, _, _, rfl, rfl, SqL.of hT, tl, ?_⟩⟩
        obtain ⟨cc, _⟩ := ch_at (i := (nv ns (at_ + 5) + 5 * (j : Int)) % 36) (by omega) (by omega)
        have nl := name_len (pre := pre) (place := place) (shift := nv ns (at_ + 5)) (k := j) (by omega)
        have l1 : (cutS pre none (some (place : Int))).length ≤ 20 := by
          rw [str_len, cut_pre (by omega), List.length_take, ← str_len]
          omega
        have l2 : (cutS pre (some (place : Int)) none).length ≤ 20 := by
          rw [str_len, cut_suf (by omega), List.length_drop, ← str_len]
          omega
        have l3 : (tailS j).length ≤ 1 := by
          have := tail_len j
          rw [← TL.len_tl] at this
          rw [this]
          split <;> omega
        refine ⟨_, rfl, .inl ⟨rfl, _, SqL.of hL4⟩, _, rfl, _, rfl, _, rfl, _, rfl, by rw [hpl, sizeLine_eq]; omega, _, rfl, _, rfl, _, rfl, _, _, rfl, rfl, .inl ⟨by decide, by decide⟩, _, _, rfl, rfl, .inl ⟨_, rfl, _, _, rfl, rfl, (show (0 : Int) < 36 by decide), ?_⟩⟩
        dsimp only []
        rw [Int.zero_add]
        refine ⟨_, _, _, rfl, rfl, zlen, cc, _, chS _, rfl, rfl, ?_, ?_⟩
        · rw [sizeLine_eq]
          show _ + 1 ≤ _
          omega
        refine ⟨_, rfl, _, _, rfl, rfl, ?_, ?_⟩
        · rw [PySem.Str.length_append, sizeLine_eq]
          show _ + 1 + _ ≤ _
          omega
        refine ⟨_, rfl, _, rfl, _, rfl, _, rfl, by rw [hpl, sizeLine_eq]; omega, _, _, rfl, rfl, ?_, ?_⟩
        · rw [PySem.Str.length_append, PySem.Str.length_append, sizeLine_eq]
          show _ + 1 + _ + _ ≤ _
          omega
        refine ⟨L, _, _, rfl, rfl, hL4, by rw [List.length_map, namesL_len, sizeLine_eq]; omega, ?_⟩
        refine ⟨_, _, rfl, g4.write hL4 (fun _ z => by cases z) nL, ?_⟩
        rw [upd_same]
        have el : namesL ns at0 (j + 1) = namesL ns at0 j ++ [nameK ns at0 j] := by
          unfold namesL
          rw [List.range_succ, List.map_append]
          rfl
        rw [el, List.map_append, hfin j]
        rfl
      · rintro σ H3 ⟨v5, v9, rfl, g3, hL3⟩
        exact ⟨v5, v9, rfl, g3, hL3⟩
    rintro σ H3 ⟨v5, v9, rfl, g3, hL3⟩
    exact ⟨_, rfl, k H3 L g3 nL hL3⟩
end
end W

set_option Elab.async false
set_option linter.all false
set_option maxRecDepth 100000
set_option maxHeartbeats 2000000
namespace W
open PySem PySem.Spec PyProof.Rows L2 GxR MyG MyS SqX
/-! ### drawn hours -/
abbrev sLHours : Stmt := top 36
def PairT (H : Hp) (p : Int × Int) (v : V) : Prop := ∃ t, v = .ref t ∧ H t = some (.tup [.int p.1, .int p.2])
theorem PairT.grew {P : Addr} {H H' : Hp} {p : Int × Int} {v : V} (g : Grew P H H') (hP : TabG H P) (h : PairT H p v) : PairT H' p v := let ⟨t, a, b⟩ := h; ⟨t, a, g.tup hP b⟩
/-- hours: none, or a list of pairs -/
def HoursL (H : Hp) (h : Option (List (Int × Int))) (v : V) : Prop := match h with
  | none => v = .non
  | some gs => ∃ l xs, v = .ref l ∧ H l = some (.lst xs) ∧ Paired (PairT H) gs xs
theorem HoursL.grew {P : Addr} {H H' : Hp} {h : Option (List (Int × Int))} {v : V} (g : Grew P H H') (hP : TabG H P) (m : HoursL H h v) : HoursL H' h v := by
  cases h with
  | none => exact m
  | some gs =>
    obtain ⟨l, xs, a, b, c⟩ := m
    exact ⟨l, xs, a, g.lst hP b, Paired.map' c fun _ _ q => q.grew g hP⟩
def spLHours (K : PySem.W.Frag) (P : Addr) : Sp := fun vs H Q _ => ∃ (a : Addr) (ns : List Int) (k d : Int), vs = [.ref a, .int k, .int d] ∧ SqL K H a (ns.map V.int) ∧ Sm ns ∧ 0 < ns.length ∧ ns.length ≤ 1000 ∧ 0 ≤ k ∧ 1 ≤ d ∧ d ≤ 1440 ∧ TabG H P ∧
  ∀ H' v h, Grew P H H' → HoursL H' h v → HoursOk d h → (∀ l, v = .ref l → H l = none) → Q v H'
theorem last_le {d : Int} : ∀ {gs : List (Int × Int)} {c : Int}, c ≤ d → hoursOk d c gs → lastOf c gs gs.length ≤ d
  | [], c, h, _ => h
  | q :: r, c, h, o => by
    rw [List.length_cons, lastOf_cons]
    exact last_le o.2.2.1 o.2.2.2
/-- what the rounds keep: the pairs that will stay are good, and end ahead of the next one -/
structure HRound (d : Int) (qs gs : List (Int × Int)) (at_ : Int) : Prop where
  f : qs.filter (fun p => decide (p.1 < d)) = gs
  o : hoursOk d (-1) gs
  l : lastOf (-1) gs gs.length < at_
  z : 0 ≤ at_
theorem HRound.add {d : Int} {qs gs : List (Int × Int)} {at_ close y : Int} (h : HRound d qs gs at_) (hd : 1 ≤ d) (hc : close ≤ d) (hk : at_ < close ∨ close = d) (hy : 0 ≤ y) : ∃ gs', HRound d (qs ++ [(at_, close)]) gs' (close + 1 + y) := by
  by_cases c : at_ < d
  · have hl : at_ < close := by omega
    refine ⟨gs ++ [(at_, close)], ?_, hours_snoc.mpr ⟨h.o, h.l, hl, hc⟩, ?_, by have := h.z; omega⟩
    · rw [List.filter_append, h.f]
      simp [c]
    · have e5 : lastOf (-1) (gs ++ [(at_, close)]) (gs ++ [(at_, close)]).length = close := by
        unfold lastOf
        rw [List.take_length]
        simp
      rw [e5]; omega
  · have ec : close = d := by omega
    refine ⟨gs, ?_, h.o, ?_, by omega⟩
    · rw [List.filter_append, h.f]
      simp [c]
    · have := last_le (show (-1 : Int) ≤ d by omega) h.o
      omega
section
variable {Pg : Program} {w : World} {K : PySem.W.Frag} {mg : Str → Option Value} {base : Heap} {C P : Addr}
abbrev nLH : List Str := ["numbers", "k", "day", "hours", "at", "pair", "close"]
theorem scLH : FnScope nLH ["numbers", "k", "day"] (defScope sLHours) := ⟨rfl, rfl, rfl, by decide +kernel, rfl, by decide +kernel, by decide +kernel⟩
theorem ok_lhours {f fP : Addr} {fd fdP : FuncData} (F : Fun K "_law_hours" "_law_hours" sLHours f fd) (hrg : mg "range" = none) (hm : mg "max" = none)
    (GP : FnOk Pg w K mg base CX0 1 fP fdP ["numbers", "k"] (spLPick K)) (gP : mg "_law_pick" = some (.ref fP)) (kP : PySem.W.keepIn K (.ref fP) = true) (bP : Binds K fdP ["numbers", "k"] []) :
    FnOk Pg w K mg base CX0 2 f fd ["numbers", "k", "day"] (spLHours K P) := by
  refine F.ok scLH (fun vs H Q E h => ?_) (fun cdv A outer s H vs Q E hr h => ?_)
  · obtain ⟨a, ns, k, d, rfl, _⟩ := h
    rfl
  · obtain ⟨a, ns, k, d, rfl, hA, hsm, hpos, hl9, hk, hd1, hd2, hP, kQ⟩ := h
    refine ⟨_, pss_cons (ps_if (pt_cmpR op_eq (pe_op op_mod (pe_call GP hr (by rfl) gP kP bP .nil pass0 (pa_cons (pv 0) (pa_cons (pv 1) pa_nil))) pe_int) pe_int (nomark _)) (pss_one (ps_ret pe_non)) pss_nil)
      (pss_cons (ps_set (i := 3) scLH.nd rfl (Or.inl rfl) (pe_lst pa_nil))
      (pss_cons (ps_set (i := 4) scLH.nd rfl (Or.inl rfl) (pe_op op_mod (pe_op op_fdiv (pe_call GP hr (by rfl) gP kP bP .nil pass0 (pa_cons (pv 0) (pa_cons (pe_op op_add (pv 1) pe_int) pa_nil))) pe_int) pe_int))
      (C8.pss_cut (ps_if (pt_cmpR op_eq (pe_op op_mod (pe_call GP hr (by rfl) gP kP bP .nil pass0 (pa_cons (pv 0) (pa_cons (pe_op op_add (pv 1) pe_int) pa_nil))) pe_int) pe_int (nomark _)) (pss_one (ps_set (i := 4) scLH.nd rfl (Or.inl rfl) (pe_op op_mod (pe_call GP hr (by rfl) gP kP bP .nil pass0 (pa_cons (pv 0) (pa_cons (pe_op op_add (pv 1) pe_int) pa_nil))) (pv 2)))) pss_nil)
      (C8.pss_cut (ps_for PassesOwn.never rfl (pi_range1 rfl hrg (pa_cons (pe_op op_mod (pe_call GP hr (by rfl) gP kP bP .nil pass0 (pa_cons (pv 0) (pa_cons (pe_op op_add (pv 1) pe_int) pa_nil))) pe_int) pa_nil)) (pg_name (i := 5) scLH.nd rfl (Or.inl rfl))
        (pss_cons (ps_set (i := 6) scLH.nd rfl (Or.inl rfl) (pe_op op_add (pe_op op_add (pv 4) pe_int) (pe_op op_mod (pe_op op_fdiv (pe_call GP hr (by rfl) gP kP bP .nil pass0 (pa_cons (pv 0) (pa_cons (pe_op op_add (pe_op op_add (pv 1) pe_int) (pv 5)) pa_nil))) pe_int)
            (pe_callB (call_max2 rfl) (by rfl) hm (by decide +kernel) (pa_cons pe_int (pa_cons (pe_ix (r := rIxL K) ix_list (pe_lst (pa_cons pe_int (pa_cons (pe_op op_fdiv (pv 2) pe_int) (pa_cons (pv 2) pa_nil)))) (pe_op op_mod (pe_call GP hr (by rfl) gP kP bP .nil pass0 (pa_cons (pv 0) (pa_cons (pe_op op_add (pe_op op_add (pv 1) pe_int) (pv 5)) pa_nil))) pe_int) (fun _ _ => rfl)) pa_nil))))))
        (C8.pss_cut (ps_if (pt_cmpR op_eq (pe_op op_mod (pe_call GP hr (by rfl) gP kP bP .nil pass0 (pa_cons (pv 0) (pa_cons (pe_op op_add (pe_op op_add (pv 1) pe_int) (pv 5)) pa_nil))) pe_int) pe_int (nomark _)) (pss_one (ps_set (i := 6) scLH.nd rfl (Or.inl rfl) (pv 2))) pss_nil)
        (pss_one (ps_if (pt_cmpR op_le (pv 6) (pv 2) (nomark _))
          (pss_cons (ps_expr (pe_bm PySem.F.plainAttrs_list PySem.F.slot_list_append PySem.F.type_list_append mt_append (pv 3) (pa_cons (pe_tup (pa_cons (pv 4) (pa_cons (pv 6) pa_nil))) pa_nil)))
          (pss_one (ps_set (i := 4) scLH.nd rfl (Or.inl rfl) (pe_op op_add (pe_op op_add (pv 6) pe_int) (pe_op op_mod (pe_call GP hr (by rfl) gP kP bP .nil pass0 (pa_cons (pv 0) (pa_cons (pe_op op_add (pe_op op_add (pv 1) pe_int) (pv 5)) pa_nil))) pe_int))))) pss_nil)))))
      (pss_one (ps_ret (pe_lc (own := [("pair", 5)]) (g := gName 5) rfl scLH.nd (pi_list (pv 3)) (blkOk_by (N := nLH) (sc := defScope sLHours) (by decide +kernel)) (fun _ _ _ _ _ => pg_name (i := 5) scLH.nd rfl (Or.inl rfl))
          (fun _ _ _ _ _ => pts_one (pt_cmpR op_lt (pe_ix (r := rIxT K) ix_tup (pv 5) pe_int (fun _ _ => rfl)) (pv 2) (nomark _))) (fun _ _ _ _ _ => pv 5)))))))), ?_⟩
    refine ⟨_, rfl, _, rfl, a, ns, k, rfl, hA, hsm, hpos, hl9, hk, fun v0 h0 => ⟨_, _, rfl, rfl, (show (0 : Int) < 3 by decide), rfl, _, rfl, ?_⟩⟩
    refine ite2 (fun _ => kQ H .non none (Grew.refl hP) rfl trivial (fun _ e => by cases e)) (fun _ => ?_)
    refine ⟨Nat.zero_le _, fun L nL => ?_⟩
    have gL := Grew.new hP (o := .lst []) nL
    have hL0 : (L2.upd H L (.lst [])) L = some (.lst []) := upd_same
    generalize L2.upd H L (.lst []) = H1 at gL hL0 ⊢
    have hA1 := gL.sqL hP hA
    refine ⟨_, rfl, _, rfl, _, _, rfl, rfl, a, ns, _, rfl, hA1, hsm, hpos, hl9, by omega, fun v1 h1 => ⟨_, _, rfl, rfl, ⟨by decide, by decide⟩, _, _, rfl, rfl, (show (0 : Int) < 3 by decide), ?_⟩⟩
    dsimp only []
    have z3 : 0 ≤ v1 / 5 % 3 := by omega
    refine ⟨fun σ H' => H' = H1 ∧ ∃ at_ : Int, 0 ≤ at_ ∧ σ = [some (.ref a), some (.int k), some (.int d), some (.ref L), some (.int at_), none, none], ?_, ?_⟩
    · refine ⟨_, rfl, _, rfl, _, _, rfl, rfl, a, ns, _, rfl, hA1, hsm, hpos, hl9, by omega, fun v2 h2 => ⟨_, _, rfl, rfl, (show (0 : Int) < 4 by decide), rfl, _, rfl, ?_⟩⟩
      refine ite2 (fun _ => ?_) (fun _ => ⟨rfl, _, z3, rfl⟩)
      refine ⟨_, rfl, _, rfl, _, _, rfl, rfl, a, ns, _, rfl, hA1, hsm, hpos, hl9, by omega, fun v3 h3 => ⟨_, rfl, _, _, rfl, rfl, (show (0 : Int) < d by omega), ?_⟩⟩
      exact ⟨rfl, _, Int.emod_nonneg v3 (by omega), rfl⟩
    rintro σ H' ⟨rfl, at0, ha0, rfl⟩
    refine ⟨fun σ H2 => ∃ (v4 v5 v6 : Option V) (qs gs : List (Int × Int)) (xs : List V) (at_ : Int), σ = [some (.ref a), some (.int k), some (.int d), some (.ref L), v4, v5, v6] ∧ Grew P H H2 ∧ H2 L = some (.lst xs) ∧ Paired (PairT H2) qs xs ∧ qs.length ≤ 4 ∧ HRound d qs gs at_, ?_, ?_⟩
    · refine ⟨_, rfl, _, rfl, _, _, rfl, rfl, a, ns, _, rfl, hA1, hsm, hpos, hl9, by omega, fun v4 h4 => ⟨_, _, rfl, rfl, (show (0 : Int) < 5 by decide), v4 % 5, rfl, by omega, by omega, for_range (n := (v4 % 5).toNat) (fun i σ H2 => ∃ (v5 v6 : Option V) (qs gs : List (Int × Int)) (xs : List V) (at_ : Int), σ = [some (.ref a), some (.int k), some (.int d), some (.ref L), some (.int at_), v5, v6] ∧ Grew P H H2 ∧ H2 L = some (.lst xs) ∧ Paired (PairT H2) qs xs ∧ qs.length ≤ i ∧ HRound d qs gs at_)
        ⟨none, none, [], [], [], at0, rfl, gL, hL0, .nil, Nat.le_refl _, ⟨rfl, trivial, by show (-1 : Int) < at0; omega, ha0⟩⟩ ?_ ?_⟩⟩
      · rintro i σ H2 hi ⟨v5, v6, qs, gs, xs, at_, rfl, g2, hL2, hqs, hql, hR⟩
        have hA2 := g2.sqL hP hA
        have hxl := Paired.len hqs
        refine ⟨_, rfl, _, _, rfl, rfl, _, rfl, _, rfl, _, _, rfl, rfl, _, rfl, _, _, rfl, rfl, a, ns, _, rfl, hA2, hsm, hpos, hl9, by omega, fun w1 q1 => ⟨_, _, rfl, rfl, ⟨by decide, by decide⟩, _, rfl, _, _, rfl, rfl, ⟨by decide, by decide⟩, _, rfl, (show 3 ≤ sizeLine by decide), fun T nT => ?_⟩⟩
        have gT := Grew.new g2.tab (o := .lst [.int 2, .int (d / 4), .int d]) nT
        have g3 := g2.trans gT
        have hA3 := gT.sqL g2.tab hA2
        have hL3 := gT.lst g2.tab hL2
        have hqs3 : Paired (PairT _) qs xs := Paired.map' hqs fun _ _ m => m.grew gT g2.tab
        have hT : (L2.upd H2 T (.lst [.int 2, .int (d / 4), .int d])) T = some (.lst [.int 2, .int (d / 4), .int d]) := upd_same
        generalize L2.upd H2 T (.lst [.int 2, .int (d / 4), .int d]) = H3 at g3 hA3 hL3 hqs3 hT ⊢
        refine ⟨_, rfl, _, rfl, _, _, rfl, rfl, _, rfl, _, _, rfl, rfl, a, ns, _, rfl, hA3, hsm, hpos, hl9, by omega, fun w2 q2 => ⟨_, _, rfl, rfl, (show (0 : Int) < 3 by decide), ?_⟩⟩
        obtain ⟨e, ee, e0⟩ : ∃ e : Int, atI [V.int 2, V.int (d / 4), V.int d] (w2 % 3) = some (.int e) ∧ 0 ≤ e := by
          have : w2 % 3 = 0 ∨ w2 % 3 = 1 ∨ w2 % 3 = 2 := by omega
          rcases this with c | c | c <;> rw [c]
          · exact ⟨2, rfl, by decide⟩
          · exact ⟨d / 4, rfl, by omega⟩
          · exact ⟨d, rfl, by omega⟩
        refine ⟨T, _, _, _, rfl, rfl, SqL.of hT, ee, _, _, rfl, ?_⟩
        dsimp only []
        obtain ⟨mx, emx, m1⟩ : ∃ mx : Int, (if e > 1 then e else 1) = mx ∧ 1 ≤ mx := by
          by_cases c : e > 1
          · exact ⟨e, by rw [if_pos c], by omega⟩
          · exact ⟨1, by rw [if_neg c], by omega⟩
        rw [emx]
        refine ⟨_, _, rfl, rfl, (show (0 : Int) < mx by omega), _, _, rfl, rfl, ?_⟩
        dsimp only []
        have c0 := Int.emod_nonneg (w1 / 3) (show mx ≠ 0 by omega)
        obtain ⟨cl, ecl⟩ : ∃ cl, cl = at_ + 1 + w1 / 3 % mx := ⟨_, rfl⟩
        rw [← ecl]
        refine ⟨fun σ H4 => H4 = H3 ∧ ∃ c : Int, (at_ < c ∨ c = d) ∧ σ = [some (.ref a), some (.int k), some (.int d), some (.ref L), some (.int at_), some (.int (0 + (i : Int))), some (.int c)], ?_, ?_⟩
        · refine ⟨_, rfl, _, rfl, _, _, rfl, rfl, _, rfl, _, _, rfl, rfl, a, ns, _, rfl, hA3, hsm, hpos, hl9, by omega, fun w3 q3 => ⟨_, _, rfl, rfl, (show (0 : Int) < 7 by decide), rfl, _, rfl, ?_⟩⟩
          refine ite2 (fun _ => ⟨_, rfl, rfl, d, .inr rfl, rfl⟩) (fun _ => ⟨rfl, cl, .inl (by omega), rfl⟩)
        rintro σ H4 ⟨rfl, c, hc, rfl⟩
        refine ⟨_, rfl, _, rfl, _, _, rfl, rfl, _, rfl, ?_⟩
        by_cases cd : c ≤ d
        case neg =>
          refine if_f (decide_eq_false cd) ?_
          exact ⟨_, _, qs, gs, xs, at_, rfl, g3, hL3, hqs3, by omega, hR⟩
        refine if_t (decide_eq_true cd) ?_
        refine ⟨_, rfl, .inl ⟨rfl, _, SqL.of hL3⟩, _, rfl, _, rfl, (show 2 ≤ sizeLine by decide), fun U nU => ?_⟩
        have gU := Grew.new g3.tab (o := .tup [.int at_, .int c]) nU
        have hL5 := gU.lst g3.tab hL3
        refine ⟨L, _, _, rfl, rfl, hL5, by rw [sizeLine_eq]; omega, ?_⟩
        have g5 : Grew P H (L2.upd (L2.upd H4 U (.tup [.int at_, .int c])) L (.lst (xs ++ [.ref U]))) := (g3.trans gU).write hL5 (fun _ z => by cases z) nL
        have hA5 := g5.sqL hP hA
        refine ⟨_, rfl, _, _, rfl, rfl, _, rfl, _, rfl, _, _, rfl, rfl, _, rfl, _, _, rfl, rfl, a, ns, _, rfl, hA5, hsm, hpos, hl9, by omega, fun w4 q4 => ⟨_, _, rfl, rfl, (show (0 : Int) < 3 by decide), _, _, rfl, rfl, ?_⟩⟩
        obtain ⟨gs', hR'⟩ := hR.add hd1 cd hc (y := w4 % 3) (by omega)
        have up : ∀ {p : Int × Int} {v : V}, PairT (L2.upd H4 U (.tup [.int at_, .int c])) p v → PairT (L2.upd (L2.upd H4 U (.tup [.int at_, .int c])) L (.lst (xs ++ [.ref U]))) p v := fun ⟨t, e1, e2⟩ => ⟨t, e1, by rw [upd_ne (fun z => by rw [z, hL5] at e2; cases e2)]; exact e2⟩
        refine ⟨_, _, qs ++ [(at_, c)], gs', xs ++ [.ref U], _, rfl, g5, upd_same, ?_, by rw [List.length_append]; show _ + 1 ≤ _; omega, hR'⟩
        exact Paired.snoc (Paired.map' hqs3 fun _ _ m => up (m.grew gU g3.tab)) (up ⟨U, rfl, upd_same⟩)
      · rintro σ H2 ⟨v5, v6, qs, gs, xs, at_, rfl, g2, hL2, hqs, hql, hR⟩
        exact ⟨_, v5, v6, qs, gs, xs, at_, rfl, g2, hL2, hqs, by omega, hR⟩
    rintro σ H2 ⟨v4, v5, v6, qs, gs, xs, at_, rfl, g2, hL2, hqs, hql, hR⟩
    refine ⟨_, rfl, L, rfl, ⟨_, SqL.of hL2⟩, fun D nD => lc_list (K := K) (a := L) (xs := xs) (fun i H3 => Grew P H2 H3 ∧ ∃ acc, H3 D = some (.lst acc) ∧ Paired (PairT H3) ((qs.take i).filter (fun p => decide (p.1 < d))) acc ∧ acc.length ≤ i)
      ⟨Grew.new g2.tab nD, [], upd_same, by rw [List.take_zero]; exact .nil, Nat.le_refl _⟩ (fun i H3 _ h => SqL.of (h.1.lst g2.tab hL2)) (fun i v H3 hv h => ?_) (fun H3 h => ?_)⟩
    · obtain ⟨g, acc, hD, hacc, hal⟩ := h
      obtain ⟨p, hp, m⟩ := Paired.at hqs hv
      have hi := (List.getElem?_eq_some_iff.mp hp).1
      obtain ⟨t, rfl, ht⟩ := m.grew g g2.tab
      have et : (qs.take (i + 1)).filter (fun p => decide (p.1 < d)) = (qs.take i).filter (fun p => decide (p.1 < d)) ++ (if p.1 < d then [p] else []) := by
        rw [List.take_succ, hp, List.filter_append]
        congr 1
        by_cases c : p.1 < d <;> simp [c]
      refine ⟨rfl, _, rfl, t, _, 0, _, rfl, rfl, SqT.of ht, rfl, _, rfl, _, _, rfl, rfl, _, rfl, ?_⟩
      by_cases c : p.1 < d
      · refine if_t (decide_eq_true c) ⟨_, rfl, acc, hD, by rw [sizeLine_eq]; omega, g.write hD (fun _ z => by cases z) nD, acc ++ [.ref t], upd_same, ?_, by rw [List.length_append]; show _ + 1 ≤ _; omega⟩
        have up : ∀ {p : Int × Int} {v : V}, PairT H3 p v → PairT (L2.upd H3 D (.lst (acc ++ [.ref t]))) p v := fun ⟨t, e1, e2⟩ => ⟨t, e1, by rw [upd_ne (fun z => by rw [z, hD] at e2; cases e2)]; exact e2⟩
        rw [et, if_pos c]
        exact Paired.snoc (Paired.map' hacc fun _ _ m => up m) (up ⟨t, rfl, ht⟩)
      · refine if_f (decide_eq_false c) ⟨g, acc, hD, ?_, by omega⟩
        rw [et, if_neg c, List.append_nil]
        exact hacc
    · obtain ⟨g, acc, hD, hacc, hal⟩ := h
      rw [← Paired.len hqs, List.take_length, hR.f] at hacc
      refine kQ H3 (.ref D) (some gs) (g2.trans g) ⟨D, acc, rfl, hD, hacc⟩ ⟨?_, hR.o⟩ (fun l e => by injection e with e; rw [← e]; exact g2.free nD)
      rw [← hR.f]
      exact Nat.le_trans (List.length_filter_le _ _) hql
end
end W

set_option Elab.async false
set_option linter.all false
set_option maxRecDepth 100000
set_option maxHeartbeats 2000000
namespace W
open PySem PySem.Spec PyProof.Rows L2 GxR MyG MyS SqX
/-! ### drawn roads -/
abbrev sLRoad : Stmt := top 37
/-- a road as the law draws it: its kinds are a list, its hours none or a list -/
def RoadL (H : Hp) (r : RoadD) (v : V) : Prop := ∃ t u h, v = .ref t ∧ H t = some (.tup [.str r.name, .str r.start, .str r.goal, .int r.minutes, .ref u, h]) ∧ H u = some (.lst (r.users.map V.str)) ∧ HoursL H r.hours h
theorem RoadL.grew {P : Addr} {H H' : Hp} {r : RoadD} {v : V} (g : Grew P H H') (hP : TabG H P) (m : RoadL H r v) : RoadL H' r v := by
  obtain ⟨t, u, h, a, b, c, d⟩ := m
  exact ⟨t, u, h, a, g.tup hP b, g.lst hP c, d.grew g hP⟩
/-- a road all of whose lists are new -/
def RoadF (H0 H : Hp) (r : RoadD) (v : V) : Prop := ∃ t u h, v = .ref t ∧ H t = some (.tup [.str r.name, .str r.start, .str r.goal, .int r.minutes, .ref u, h]) ∧ H u = some (.lst (r.users.map V.str)) ∧ HoursL H r.hours h ∧ H0 u = none ∧ ∀ l, h = .ref l → H0 l = none
/-- a road none of whose lists is D -/
def RoadU (D : Addr) (H : Hp) (r : RoadD) (v : V) : Prop := ∃ t u h, v = .ref t ∧ H t = some (.tup [.str r.name, .str r.start, .str r.goal, .int r.minutes, .ref u, h]) ∧ H u = some (.lst (r.users.map V.str)) ∧ HoursL H r.hours h ∧ u ≠ D ∧ ∀ l, h = .ref l → l ≠ D
theorem RoadF.un {H0 H : Hp} {r : RoadD} {v : V} {D : Addr} {o : HO} (m : RoadF H0 H r v) (hD : H0 D = some o) : RoadU D H r v := by
  obtain ⟨t, u, h, a, b, c, d, e, f⟩ := m
  exact ⟨t, u, h, a, b, c, d, fun z => (by rw [z, hD] at e; cases e), fun l q z => by rw [z] at q; have := f D q; rw [hD] at this; cases this⟩
theorem RoadF.base {H00 H0 H : Hp} {P : Addr} {r : RoadD} {v : V} (m : RoadF H0 H r v) (g : Grew P H00 H0) : RoadF H00 H r v := by
  obtain ⟨t, u, h, a, b, c, d, e, f⟩ := m
  exact ⟨t, u, h, a, b, c, d, g.free e, fun l q => g.free (f l q)⟩
theorem RoadU.road {D : Addr} {H : Hp} {r : RoadD} {v : V} (m : RoadU D H r v) : RoadL H r v := let ⟨t, u, h, a, b, c, d, _, _⟩ := m; ⟨t, u, h, a, b, c, d⟩
theorem RoadF.road {H0 H : Hp} {r : RoadD} {v : V} (m : RoadF H0 H r v) : RoadL H r v := let ⟨t, u, h, a, b, c, d, _, _⟩ := m; ⟨t, u, h, a, b, c, d⟩
theorem RoadU.grew {D P : Addr} {H H' : Hp} {r : RoadD} {v : V} (g : Grew P H H') (hP : TabG H P) (m : RoadU D H r v) : RoadU D H' r v := by
  obtain ⟨t, u, h, a, b, c, d, e, f⟩ := m
  exact ⟨t, u, h, a, g.tup hP b, g.lst hP c, d.grew g hP, e, f⟩
theorem HoursL.upd {H : Hp} {hs : Option (List (Int × Int))} {h : V} {D : Addr} {ys zs : List V} (hD : H D = some (.lst ys)) (m : HoursL H hs h) (n : ∀ l, h = .ref l → l ≠ D) : HoursL (L2.upd H D (.lst zs)) hs h := by
  cases hs with
  | none => exact m
  | some gs =>
    obtain ⟨l, xs, e, a, b⟩ := m
    exact ⟨l, xs, e, by rw [upd_ne (n l e)]; exact a, Paired.map' b fun _ _ ⟨t, e1, e2⟩ => ⟨t, e1, by rw [upd_ne (fun z => by rw [z, hD] at e2; cases e2)]; exact e2⟩⟩
theorem RoadU.upd {D : Addr} {H : Hp} {r : RoadD} {v : V} {ys zs : List V} (hD : H D = some (.lst ys)) (m : RoadU D H r v) : RoadU D (L2.upd H D (.lst zs)) r v := by
  obtain ⟨t, u, h, a, b, c, d, e, f⟩ := m
  exact ⟨t, u, h, a, by rw [upd_ne (fun z => by rw [z, hD] at b; cases b)]; exact b, by rw [upd_ne e]; exact c, d.upd hD f, e, f⟩
def spLRoad (K : PySem.W.Frag) (P : Addr) : Sp := fun vs H Q _ => ∃ (a pl ki : Addr) (ns : List Int) (k d : Int) (nm : Str) (ps ks : List Str), vs = [.ref a, .int k, .str nm, .ref pl, .ref ki, .int d] ∧ SqL K H a (ns.map V.int) ∧ Sm ns ∧ 0 < ns.length ∧ ns.length ≤ 1000 ∧ 0 ≤ k ∧ 1 ≤ d ∧ d ≤ 1440 ∧
  SqL K H pl (ps.map V.str) ∧ SqL K H ki (ks.map V.str) ∧ 1 ≤ ps.length ∧ ks.length ≤ 4 ∧ ks.Nodup ∧ TabG H P ∧ ∀ H' v r, Grew P H H' → RoadF H H' r v → r.name = nm → RoadOk d ps ks r → Q v H'
theorem sub_mem {α : Type} {l m : List α} (h : List.Sublist l m) {x : α} (hx : x ∈ l) : x ∈ m := h.subset hx
theorem str_at' {ps : List Str} {x : Int} (h : 1 ≤ ps.length) : ∃ z, atI (ps.map V.str) (x % ((ps.map V.str).length : Int)) = some (.str z) ∧ z ∈ ps := by
  have hp : (0 : Int) < ((ps.map V.str).length : Int) := by rw [List.length_map]; omega
  have b0 := Int.emod_nonneg x (show ((ps.map V.str).length : Int) ≠ 0 by omega)
  have b1 := Int.emod_lt_of_pos x hp
  obtain ⟨i, ei⟩ := Int.eq_ofNat_of_zero_le b0
  have hi : i < ps.length := by rw [ei, List.length_map] at b1; omega
  rw [ei]
  exact ⟨ps[i], atI_nat (by rw [List.getElem?_map, List.getElem?_eq_getElem hi]; rfl), List.getElem_mem hi⟩
theorem cutV_pre' (xs : List V) (n : Nat) : cutV xs none (some (n : Int)) = xs.take n := cutV_pre xs n
theorem cutV_suf (xs : List V) (n : Nat) : cutV xs (some (n : Int)) none = xs.drop n := by
  unfold cutV
  rw [HT.sIx_none, HT.sIx_nat]
  rcases Nat.le_total n xs.length with h | h
  · rw [Nat.min_eq_left h]
    exact List.take_of_length_le (by rw [List.length_drop]; exact Nat.le_refl _)
  · rw [Nat.min_eq_right h, List.drop_length, List.drop_eq_nil_of_le h, List.take_nil]
section
variable {Pg : Program} {w : World} {K : PySem.W.Frag} {mg : Str → Option Value} {base : Heap} {C P : Addr}
abbrev nLR : List Str := ["numbers", "k", "name", "places", "kinds", "day", "start", "end", "minutes", "used", "n", "turn"]
theorem scLR : FnScope nLR ["numbers", "k", "name", "places", "kinds", "day"] (defScope sLRoad) := ⟨rfl, rfl, rfl, by decide +kernel, rfl, by decide +kernel, by decide +kernel⟩
theorem ok_lroad {f fP fH : Addr} {fd fdP fdH : FuncData} (F : Fun K "_law_road" "_law_road" sLRoad f fd) (hrg : mg "range" = none) (hm : mg "max" = none) (hl : mg "len" = none)
    (GP : FnOk Pg w K mg base CX0 1 fP fdP ["numbers", "k"] (spLPick K)) (gP : mg "_law_pick" = some (.ref fP)) (kP : PySem.W.keepIn K (.ref fP) = true) (bP : Binds K fdP ["numbers", "k"] [])
    (GH : FnOk Pg w K mg base CX0 2 fH fdH ["numbers", "k", "day"] (spLHours K P)) (gH : mg "_law_hours" = some (.ref fH)) (kH : PySem.W.keepIn K (.ref fH) = true) (bH : Binds K fdH ["numbers", "k", "day"] []) :
    FnOk Pg w K mg base CX0 3 f fd ["numbers", "k", "name", "places", "kinds", "day"] (spLRoad K P) := by
  refine F.ok scLR (fun vs H Q E h => ?_) (fun cdv A outer s H vs Q E hr h => ?_)
  · obtain ⟨a, pl, ki, ns, k, d, nm, ps, ks, rfl, _⟩ := h
    rfl
  · obtain ⟨a, pl, ki, ns, k, d, nm, ps, ks, rfl, hA, hsm, hpos, hl9, hk, hd1, hd2, hPl, hKi, hp1, hk4, hkd, hP, kQ⟩ := h
    refine ⟨_, pss_cons (ps_set (i := 6) scLR.nd rfl (Or.inl rfl) (pe_ix (r := rIxL K) ix_list (pv 3) (pe_op op_mod (pe_call GP (hr.mono (by decide)) (by rfl) gP kP bP .nil pass0 (pa_cons (pv 0) (pa_cons (pv 1) pa_nil))) (pe_callB (r := rLenK K) call_len_seq (by rfl) hl PySem.boot_len (pa_cons (pv 3) pa_nil))) (fun _ _ => rfl)))
      (pss_cons (ps_set (i := 7) scLR.nd rfl (Or.inl rfl) (pe_ix (r := rIxL K) ix_list (pv 3) (pe_op op_mod (pe_op op_fdiv (pe_call GP (hr.mono (by decide)) (by rfl) gP kP bP .nil pass0 (pa_cons (pv 0) (pa_cons (pe_op op_add (pv 1) pe_int) pa_nil))) pe_int) (pe_callB (r := rLenK K) call_len_seq (by rfl) hl PySem.boot_len (pa_cons (pv 3) pa_nil))) (fun _ _ => rfl)))
      (pss_cons (ps_set (i := 8) scLR.nd rfl (Or.inl rfl) (pe_ix (r := rIxL K) ix_list (pe_lst (pa_cons pe_int (pa_cons pe_int (pa_cons (pe_op op_add pe_int (pe_op op_mod (pe_call GP (hr.mono (by decide)) (by rfl) gP kP bP .nil pass0 (pa_cons (pv 0) (pa_cons (pe_op op_add (pv 1) pe_int) pa_nil))) pe_int)) (pa_cons (pe_op op_add pe_int (pe_op op_mod (pe_call GP (hr.mono (by decide)) (by rfl) gP kP bP .nil pass0 (pa_cons (pv 0) (pa_cons (pe_op op_add (pv 1) pe_int) pa_nil))) pe_int)) pa_nil)))))
          (pe_op op_mod (pe_call GP (hr.mono (by decide)) (by rfl) gP kP bP .nil pass0 (pa_cons (pv 0) (pa_cons (pe_op op_add (pv 1) pe_int) pa_nil))) pe_int) (fun _ _ => rfl)))
      (C8.pss_cut (ps_setLc (i := 9) (own := [("n", 10)]) (g := gName 10) rfl scLR.nd rfl rfl (sw_true rfl rfl rfl (by decide +kernel)) (pi_range1 rfl hrg (pa_cons (pe_callB (r := rLenK K) call_len_seq (by rfl) hl PySem.boot_len (pa_cons (pv 4) pa_nil)) pa_nil)) (blkOk_by (N := nLR) (sc := defScope sLRoad) (by decide +kernel)) (fun _ _ _ _ _ => pg_name (i := 10) scLR.nd rfl (Or.inl rfl))
          (fun _ _ _ _ _ => pts_one (pt_cmpR op_eq (pe_op op_mod (pe_op op_fdiv (pe_call GP (hr.mono (by decide)) (by rfl) gP kP bP .nil pass0 (pa_cons (pv 0) (pa_cons (pe_op op_add (pv 1) pe_int) pa_nil))) (pe_ix (r := rIxL K) ix_list (pe_lst (pa_cons pe_int (pa_cons pe_int (pa_cons pe_int (pa_cons pe_int pa_nil))))) (pv 10) (fun _ _ => rfl))) pe_int) pe_int (nomark _)))
          (fun _ _ _ _ _ => pe_ix (r := rIxL K) ix_list (pv 4) (pv 10) (fun _ _ => rfl)))
      (pss_cons (ps_set (i := 11) scLR.nd rfl (Or.inl rfl) (pe_op op_mod (pe_op op_fdiv (pe_call GP (hr.mono (by decide)) (by rfl) gP kP bP .nil pass0 (pa_cons (pv 0) (pa_cons (pe_op op_add (pv 1) pe_int) pa_nil))) pe_int) (pe_callB (call_max2 rfl) (by rfl) hm (by decide +kernel) (pa_cons pe_int (pa_cons (pe_callB (r := rLenK K) call_len_seq (by rfl) hl PySem.boot_len (pa_cons (pv 9) pa_nil)) pa_nil)))))
      (pss_one (ps_ret (pe_tup (pa_cons (pv 2) (pa_cons (pv 6) (pa_cons (pv 7) (pa_cons (pv 8) (pa_cons (pe_op op_cat (pe_slice sl_list (pv 9) (po_some (pv 11)) po_none) (pe_slice sl_list (pv 9) po_none (po_some (pv 11))))
          (pa_cons (pe_call GH (hr.mono (by decide)) (by rfl) gH kH bH .nil pass0 (pa_cons (pv 0) (pa_cons (pe_op op_add (pv 1) pe_int) (pa_cons (pv 5) pa_nil)))) pa_nil))))))))))))), ?_⟩
    have hpz : (0 : Int) < ((ps.map V.str).length : Int) := by rw [List.length_map]; omega
    refine ⟨_, rfl, _, rfl, _, rfl, a, ns, k, rfl, hA, hsm, hpos, hl9, hk, fun v0 h0 => ⟨_, rfl, pl, _, rfl, .inl hPl, _, _, rfl, rfl, hpz, ?_⟩⟩
    obtain ⟨s0, es0, ms0⟩ := str_at' (x := v0) hp1
    refine ⟨pl, _, _, _, rfl, rfl, hPl, es0, ?_⟩
    refine ⟨_, rfl, _, rfl, _, rfl, _, _, rfl, rfl, a, ns, _, rfl, hA, hsm, hpos, hl9, by omega, fun v1 h1 => ⟨_, _, rfl, rfl, ⟨by decide, by decide⟩, _, rfl, pl, _, rfl, .inl hPl, _, _, rfl, rfl, hpz, ?_⟩⟩
    obtain ⟨s1, es1, ms1⟩ := str_at' (x := v1 / 2) hp1
    refine ⟨pl, _, _, _, rfl, rfl, hPl, es1, ?_⟩
    refine ⟨_, rfl, _, rfl, _, _, rfl, rfl, a, ns, _, rfl, hA, hsm, hpos, hl9, by omega, fun v2 h2 => ⟨_, _, rfl, rfl, (show (0 : Int) < 30 by decide), _, _, rfl, rfl, ?_⟩⟩
    refine ⟨_, rfl, _, rfl, _, _, rfl, rfl, a, ns, _, rfl, hA, hsm, hpos, hl9, by omega, fun v3 h3 => ⟨_, _, rfl, rfl, (show (0 : Int) < 1000 by decide), _, _, rfl, rfl, (show 4 ≤ sizeLine by decide), fun T nT => ?_⟩⟩
    have gT := Grew.new hP (o := .lst [.int 1, .int 1000, .int (1 + v2 % 30), .int (1 + v3 % 1000)]) nT
    have hT : (L2.upd H T (.lst [.int 1, .int 1000, .int (1 + v2 % 30), .int (1 + v3 % 1000)])) T = some (.lst [.int 1, .int 1000, .int (1 + v2 % 30), .int (1 + v3 % 1000)]) := upd_same
    generalize L2.upd H T (.lst [.int 1, .int 1000, .int (1 + v2 % 30), .int (1 + v3 % 1000)]) = H1 at gT hT ⊢
    have hA1 := gT.sqL hP hA
    have hKi1 := gT.sqL hP hKi
    refine ⟨_, rfl, _, rfl, _, _, rfl, rfl, a, ns, _, rfl, hA1, hsm, hpos, hl9, by omega, fun v4 h4 => ⟨_, _, rfl, rfl, (show (0 : Int) < 4 by decide), ?_⟩⟩
    obtain ⟨mi, emi, mi1, mi2⟩ : ∃ mi : Int, atI [V.int 1, V.int 1000, V.int (1 + v2 % 30), V.int (1 + v3 % 1000)] (v4 % 4) = some (.int mi) ∧ 1 ≤ mi ∧ mi ≤ 1000 := by
      have : v4 % 4 = 0 ∨ v4 % 4 = 1 ∨ v4 % 4 = 2 ∨ v4 % 4 = 3 := by omega
      rcases this with c | c | c | c <;> rw [c]
      · exact ⟨1, rfl, by decide, by decide⟩
      · exact ⟨1000, rfl, by decide, by decide⟩
      · exact ⟨_, rfl, by omega, by omega⟩
      · exact ⟨_, rfl, by omega, by omega⟩
    refine ⟨T, _, _, _, rfl, rfl, SqL.of hT, emi, ?_⟩
    refine ⟨fun σ H' => ∃ (D : Addr) (us : List Str), σ = [some (.ref a), some (.int k), some (.str nm), some (.ref pl), some (.ref ki), some (.int d), some (.str s0), some (.str s1), some (.int mi), some (.ref D), none, none] ∧ Grew P H H' ∧ H' D = some (.lst (us.map V.str)) ∧ List.Sublist us ks, ?_, ?_⟩
    · refine ⟨_, rfl, ki, _, rfl, .inl hKi1, _, rfl, by omega, by rw [List.length_map]; omega, fun D nD => lc_range (n := (ks.map V.str).length) (fun i H' => Grew P H1 H' ∧ ∃ us : List Str, H' D = some (.lst (us.map V.str)) ∧ List.Sublist us (ks.take i))
        ⟨Grew.new gT.tab nD, [], upd_same, List.nil_sublist _⟩ (fun i H' hi p => ?_) (fun H' p => ?_)⟩
      · obtain ⟨g, us, hD, hs⟩ := p
        have hi' : i < ks.length := by rw [List.length_map] at hi; exact hi
        have g0 := gT.trans g
        have hA2 := g0.sqL hP hA
        refine ⟨rfl, _, rfl, _, rfl, _, _, rfl, rfl, a, ns, _, rfl, hA2, hsm, hpos, hl9, by omega, fun v5 h5 => ⟨(show 4 ≤ sizeLine by decide), fun U nU => ?_⟩⟩
        have gU := g.put (o := .lst [.int 1, .int 2, .int 4, .int 8]) nU
        have hD2 := (Grew.new g.tab (o := .lst [.int 1, .int 2, .int 4, .int 8]) nU).lst g.tab hD
        have hU : (L2.upd H' U (.lst [.int 1, .int 2, .int 4, .int 8])) U = some (.lst [.int 1, .int 2, .int 4, .int 8]) := upd_same
        generalize L2.upd H' U (.lst [.int 1, .int 2, .int 4, .int 8]) = H2 at gU hD2 hU ⊢
        obtain ⟨p2, ep2, p20, p21⟩ : ∃ p2 : Int, atI [V.int 1, V.int 2, V.int 4, V.int 8] (0 + (i : Int)) = some (.int p2) ∧ 0 < p2 ∧ p2 < 1073741824 := by
          rw [Int.zero_add]
          match i, hi' with
          | 0, _ => exact ⟨1, rfl, by decide, by decide⟩
          | 1, _ => exact ⟨2, rfl, by decide, by decide⟩
          | 2, _ => exact ⟨4, rfl, by decide, by decide⟩
          | 3, _ => exact ⟨8, rfl, by decide, by decide⟩
          | n + 4, h => omega
        have hsl := hs.length_le
        rw [List.length_take] at hsl
        refine ⟨_, rfl, U, _, _, _, rfl, rfl, SqL.of hU, ep2, _, _, rfl, rfl, ⟨p20, p21⟩, _, _, rfl, rfl, (show (0 : Int) < 2 by decide), rfl, _, rfl, ?_⟩
        have ek : ks[i]? = some ks[i] := List.getElem?_eq_getElem hi'
        refine ite2 (fun _ => ?_) (fun _ => ?_)
        · have hKi2 := (gT.trans gU).sqL hP hKi
          refine ⟨_, rfl, _, rfl, ki, _, _, .str ks[i], rfl, rfl, hKi2, by rw [Int.zero_add]; exact atI_nat (by rw [List.getElem?_map, ek]; rfl), _, hD2, by rw [List.length_map, sizeLine_eq]; omega, gU.write hD2 (fun _ z => by cases z) nD, us ++ [ks[i]], by rw [upd_same, List.map_append]; rfl, ?_⟩
          rw [List.take_succ, ek]
          exact List.Sublist.append hs (List.Sublist.refl _)
        · refine ⟨gU, us, hD2, ?_⟩
          rw [List.take_succ, ek]
          exact hs.trans (List.sublist_append_left _ _)
      · obtain ⟨g, us, hD, hs⟩ := p
        rw [List.length_map, List.take_length] at hs
        exact ⟨D, us, rfl, gT.trans g, hD, hs⟩
    rintro σ H2 ⟨D, us, rfl, g2, hD, hsub⟩
    have hA2 := g2.sqL hP hA
    have ul := hsub.length_le
    refine ⟨_, rfl, _, rfl, _, _, rfl, rfl, a, ns, _, rfl, hA2, hsm, hpos, hl9, by omega, fun v6 h6 => ⟨_, _, rfl, rfl, ⟨by decide, by decide⟩, _, rfl, D, _, rfl, .inl (SqL.of hD), _, _, rfl, ?_⟩⟩
    dsimp only []
    obtain ⟨mx, emx, m1⟩ : ∃ mx : Int, (if ((us.map V.str).length : Int) > 1 then ((us.map V.str).length : Int) else 1) = mx ∧ 1 ≤ mx := by
      by_cases c : ((us.map V.str).length : Int) > 1
      · exact ⟨_, by rw [if_pos c], by omega⟩
      · exact ⟨1, by rw [if_neg c], by omega⟩
    rw [emx]
    refine ⟨_, _, rfl, rfl, (show (0 : Int) < mx by omega), ?_⟩
    dsimp only []
    obtain ⟨tn, etn⟩ : ∃ tn : Nat, v6 / 16 % mx = (tn : Int) := by
      obtain ⟨n, e⟩ := Int.eq_ofNat_of_zero_le (Int.emod_nonneg (v6 / 16) (show mx ≠ 0 by omega))
      exact ⟨n, e⟩
    rw [etn]
    refine ⟨_, rfl, _, rfl, _, rfl, _, rfl, _, rfl, _, rfl, _, rfl, D, _, rfl, SqL.of hD, fun U1 n1 => ?_⟩
    rw [cutV_suf]
    have g3 := Grew.new g2.tab (o := .lst ((us.map V.str).drop tn)) n1
    have hD3 := g3.lst g2.tab hD
    have hU1 : (L2.upd H2 U1 (.lst ((us.map V.str).drop tn))) U1 = some (.lst ((us.map V.str).drop tn)) := upd_same
    generalize L2.upd H2 U1 (.lst ((us.map V.str).drop tn)) = H3 at g3 hD3 hU1 ⊢
    refine ⟨_, rfl, _, rfl, _, rfl, D, _, rfl, SqL.of hD3, fun U2 n2 => ?_⟩
    rw [cutV_pre']
    have g4 := Grew.new g3.tab (o := .lst ((us.map V.str).take tn)) n2
    have hU1' := g4.lst g3.tab hU1
    have hU2 : (L2.upd H3 U2 (.lst ((us.map V.str).take tn))) U2 = some (.lst ((us.map V.str).take tn)) := upd_same
    generalize L2.upd H3 U2 (.lst ((us.map V.str).take tn)) = H4 at g4 hU1' hU2 ⊢
    refine ⟨U1, U2, _, _, rfl, rfl, hU1', hU2, by rw [List.length_drop, List.length_take, List.length_map, sizeLine_eq]; omega, fun W nW => ?_⟩
    have eu : (us.map V.str).drop tn ++ (us.map V.str).take tn = (us.drop tn ++ us.take tn).map V.str := by rw [List.map_append, List.map_drop, List.map_take]
    rw [eu]
    have g24 := (g2.trans g3).trans g4
    have g5 := Grew.new g24.tab (o := .lst ((us.drop tn ++ us.take tn).map V.str)) nW
    have hW : (L2.upd H4 W (.lst ((us.drop tn ++ us.take tn).map V.str))) W = some (.lst ((us.drop tn ++ us.take tn).map V.str)) := upd_same
    generalize L2.upd H4 W (.lst ((us.drop tn ++ us.take tn).map V.str)) = H5 at g5 hW ⊢
    have g05 := g24.trans g5
    refine ⟨_, rfl, _, rfl, _, _, rfl, rfl, _, rfl, a, ns, _, d, rfl, g05.sqL hP hA, hsm, hpos, hl9, by omega, hd1, hd2, g05.tab, fun H6 hv h g6 hh hok hfr => ⟨(show 6 ≤ sizeLine by decide), fun t nt => ?_⟩⟩
    have g7 := Grew.new (g05.trans g6).tab (o := .tup [.str nm, .str s0, .str s1, .int mi, .ref W, hv]) nt
    have pm : (us.drop tn ++ us.take tn).Perm us := (List.perm_append_comm).trans (by rw [List.take_append_drop])
    refine kQ _ (.ref t) ⟨nm, s0, s1, mi, us.drop tn ++ us.take tn, h⟩ ((g05.trans g6).trans g7) ⟨t, W, hv, rfl, upd_same, (g6.trans g7).lst g05.tab hW, hh.grew g7 (g05.trans g6).tab, g24.free nW, fun l e => g05.free (hfr l e)⟩ rfl ⟨ms0, ms1, mi1, mi2, fun z hz => hsub.subset (pm.mem_iff.mp hz), by show (us.drop tn ++ us.take tn).length ≤ 4; rw [pm.length_eq]; omega, pm.nodup_iff.mpr (hkd.sublist hsub), hok⟩
end
end W

set_option Elab.async false
set_option linter.all false
set_option maxRecDepth 100000
set_option maxHeartbeats 2000000
namespace W
open PySem PySem.Spec PyProof.Rows L2 GxR MyG MyS SqX
/-! ### drawn bars -/
abbrev sLBars : Stmt := top 38
def spLBars (K : PySem.W.Frag) (P : Addr) : Sp := fun vs H Q _ => ∃ (a ro : Addr) (ns : List Int) (k many : Int) (rs : List RoadD) (xs : List V), vs = [.ref a, .int k, .ref ro, .int many] ∧ SqL K H a (ns.map V.int) ∧ Sm ns ∧ 0 < ns.length ∧ ns.length ≤ 1000 ∧ 0 ≤ k ∧ 0 ≤ many ∧ many ≤ 40 ∧ H ro = some (.lst xs) ∧ Paired (RoadL H) rs xs ∧ rs.length ≤ 60 ∧ (rs.map (·.name)).Nodup ∧ TabG H P ∧
  ∀ H' p bs ys, Grew P H H' → H p = none → H' p = some (.lst ys) → Paired (GBar H') bs ys → BarsOk rs bs → Q (.ref p) H'
theorem Paired.subl {α β : Type} {F : α → β → Prop} : ∀ {l : List α} {m m' : List β}, Paired F l m → List.Sublist m' m → ∃ l', List.Sublist l' l ∧ Paired F l' m'
  | _, _, _, .nil, h => by cases h; exact ⟨[], .slnil, .nil⟩
  | _, _, _, .cons a r, h => by
    cases h with
    | cons _ h =>
      obtain ⟨l', s, q⟩ := Paired.subl r h
      exact ⟨l', s.cons _, q⟩
    | cons_cons _ h =>
      obtain ⟨l', s, q⟩ := Paired.subl r h
      exact ⟨_, s.cons_cons _, .cons a q⟩
theorem Paired.drop' {α β : Type} {F : α → β → Prop} : ∀ {l : List α} {m : List β} (n : Nat), Paired F l m → Paired F (l.drop n) (m.drop n)
  | _, _, 0, h => h
  | _, _, n + 1, .nil => .nil
  | _, _, n + 1, .cons _ r => Paired.drop' n r
theorem Paired.take' {α β : Type} {F : α → β → Prop} : ∀ {l : List α} {m : List β} (n : Nat), Paired F l m → Paired F (l.take n) (m.take n)
  | _, _, 0, _ => .nil
  | _, _, n + 1, .nil => .nil
  | _, _, n + 1, .cons a r => .cons a (Paired.take' n r)
theorem Paired.app {α β : Type} {F : α → β → Prop} : ∀ {l l2 : List α} {m m2 : List β}, Paired F l m → Paired F l2 m2 → Paired F (l ++ l2) (m ++ m2)
  | _, _, _, _, .nil, h => h
  | _, _, _, _, .cons a r, h => .cons a (Paired.app r h)
/-- what the rounds keep -/
structure BRound (rs : List RoadD) (i j : Nat) (bs : List (Str × Str)) : Prop where
  nd : bs.Nodup
  len : bs.length ≤ i * rs.length + j
  ok : ∀ b ∈ bs, ∃ r1 ∈ rs, ∃ r2 ∈ rs, b.1 = r1.name ∧ b.2 = r2.name ∧ r1.goal = r2.start
  at_ : ∀ b ∈ bs, b.1 ∈ (rs.take i).map (·.name) ∨ (∃ r, rs[i]? = some r ∧ b.1 = r.name ∧ b.2 ∈ (rs.take j).map (·.name))
theorem take_next {rs : List RoadD} {i : Nat} {r : RoadD} (h : rs[i]? = some r) : (rs.take (i + 1)).map (·.name) = (rs.take i).map (·.name) ++ [r.name] := by rw [List.take_succ, h, List.map_append]; rfl
theorem not_ahead {rs : List RoadD} {i : Nat} {r : RoadD} (nd : (rs.map (·.name)).Nodup) (h : rs[i]? = some r) : r.name ∉ (rs.take i).map (·.name) := fun hm => by
  obtain ⟨hl, e⟩ := List.getElem?_eq_some_iff.mp h
  obtain ⟨r', hr', e'⟩ := List.mem_map.mp hm
  obtain ⟨j, hj, ej⟩ := List.getElem_of_mem hr'
  rw [List.length_take] at hj
  rw [List.getElem_take] at ej
  refine absurd ?_ (List.pairwise_iff_getElem.mp nd j i (by rw [List.length_map]; omega) (by rw [List.length_map]; exact hl) (by omega))
  rw [List.getElem_map, List.getElem_map, e, ej, e']
theorem BRound.skip {rs : List RoadD} {i j : Nat} {bs : List (Str × Str)} {r2 : RoadD} (h : BRound rs i j bs) (h2 : rs[j]? = some r2) : BRound rs i (j + 1) bs :=
  ⟨h.nd, by have := h.len; omega, h.ok, fun b hb => (h.at_ b hb).imp id fun ⟨r, a, c, d⟩ => ⟨r, a, c, by rw [take_next h2]; exact List.mem_append_left _ d⟩⟩
theorem BRound.add {rs : List RoadD} {i j : Nat} {bs : List (Str × Str)} {r1 r2 : RoadD} (nd : (rs.map (·.name)).Nodup) (h : BRound rs i j bs) (h1 : rs[i]? = some r1) (h2 : rs[j]? = some r2) (e : r1.goal = r2.start) : BRound rs i (j + 1) (bs ++ [(r1.name, r2.name)]) := by
  refine ⟨?_, by rw [List.length_append]; have := h.len; show _ + 1 ≤ _; omega, fun b hb => ?_, fun b hb => ?_⟩
  · refine List.nodup_append.mpr ⟨h.nd, by simp, fun a ha b hb => ?_⟩
    rw [List.mem_singleton.mp hb]
    intro q
    rw [q] at ha
    rcases h.at_ _ ha with x | ⟨r, x1, x2, x3⟩
    · exact not_ahead nd h1 x
    · exact not_ahead nd h2 x3
  · rcases List.mem_append.mp hb with hb | hb
    · exact h.ok b hb
    · rw [List.mem_singleton.mp hb]
      exact ⟨r1, List.mem_of_getElem? h1, r2, List.mem_of_getElem? h2, rfl, rfl, e⟩
  · rcases List.mem_append.mp hb with hb | hb
    · exact (h.at_ b hb).imp id fun ⟨r, a, c, d⟩ => ⟨r, a, c, by rw [take_next h2]; exact List.mem_append_left _ d⟩
    · rw [List.mem_singleton.mp hb]
      exact .inr ⟨r1, h1, rfl, by rw [take_next h2]; exact List.mem_append_right _ (List.mem_singleton.mpr rfl)⟩
theorem BRound.row {rs : List RoadD} {i : Nat} {bs : List (Str × Str)} {r1 : RoadD} (h : BRound rs i rs.length bs) (h1 : rs[i]? = some r1) : BRound rs (i + 1) 0 bs := by
  refine ⟨h.nd, by have := h.len; rw [Nat.succ_mul]; omega, h.ok, fun b hb => ?_⟩
  rcases h.at_ b hb with x | ⟨r, x1, x2, x3⟩
  · exact .inl (by rw [take_next h1]; exact List.mem_append_left _ x)
  · rw [h1] at x1
    obtain rfl := Option.some.inj x1
    exact .inl (by rw [take_next h1, x2]; exact List.mem_append_right _ (List.mem_singleton.mpr rfl))
section
variable {Pg : Program} {w : World} {K : PySem.W.Frag} {mg : Str → Option Value} {base : Heap} {C P : Addr}
abbrev nLBa : List Str := ["numbers", "k", "roads", "many", "found", "first", "second", "turn", "step"]
theorem scLBa : FnScope nLBa ["numbers", "k", "roads", "many"] (defScope sLBars) := ⟨rfl, rfl, rfl, by decide +kernel, rfl, by decide +kernel, by decide +kernel⟩
theorem ok_lbars {f fP : Addr} {fd fdP : FuncData} (F : Fun K "_law_bars" "_law_bars" sLBars f fd) (hm : mg "max" = none) (hl : mg "len" = none)
    (GP : FnOk Pg w K mg base CX0 1 fP fdP ["numbers", "k"] (spLPick K)) (gP : mg "_law_pick" = some (.ref fP)) (kP : PySem.W.keepIn K (.ref fP) = true) (bP : Binds K fdP ["numbers", "k"] []) :
    FnOk Pg w K mg base CX0 2 f fd ["numbers", "k", "roads", "many"] (spLBars K P) := by
  refine F.ok scLBa (fun vs H Q E h => ?_) (fun cdv A outer s H vs Q E hr h => ?_)
  · obtain ⟨a, ro, ns, k, many, rs, xs, rfl, _⟩ := h
    rfl
  · obtain ⟨a, ro, ns, k, many, rs, xs, rfl, hA, hsm, hpos, hl9, hk, hm0, hm40, hRo, hG, h60, hnd, hP, kQ⟩ := h
    refine ⟨_, pss_cons (ps_set (i := 4) scLBa.nd rfl (Or.inl rfl) (pe_lst pa_nil))
      (C8.pss_cut (ps_for PassesOwn.never rfl (pi_list (pv 2)) (pg_name (i := 5) scLBa.nd rfl (Or.inl rfl)) (pss_one (ps_for PassesOwn.never rfl (pi_list (pv 2)) (pg_name (i := 6) scLBa.nd rfl (Or.inl rfl))
        (pss_one (ps_if (pt_cmpR op_eq (pe_ix (r := rIxT K) ix_tup (pv 5) pe_int (fun _ _ => rfl)) (pe_ix (r := rIxT K) ix_tup (pv 6) pe_int (fun _ _ => rfl)) (nomark _))
          (pss_one (ps_expr (pe_bm PySem.F.plainAttrs_list PySem.F.slot_list_append PySem.F.type_list_append mt_append (pv 4) (pa_cons (pe_tup (pa_cons (pe_ix (r := rIxT K) ix_tup (pv 5) pe_int (fun _ _ => rfl)) (pa_cons (pe_ix (r := rIxT K) ix_tup (pv 6) pe_int (fun _ _ => rfl)) pa_nil))) pa_nil)))) pss_nil)))))
      (pss_cons (ps_set (i := 7) scLBa.nd rfl (Or.inl rfl) (pe_op op_mod (pe_call GP hr (by rfl) gP kP bP .nil pass0 (pa_cons (pv 0) (pa_cons (pv 1) pa_nil))) (pe_callB (call_max2 rfl) (by rfl) hm (by decide +kernel) (pa_cons pe_int (pa_cons (pe_callB (r := rLenK K) call_len_seq (by rfl) hl PySem.boot_len (pa_cons (pv 4) pa_nil)) pa_nil)))))
      (pss_cons (ps_set (i := 4) scLBa.nd rfl (Or.inl rfl) (pe_op op_cat (pe_slice sl_list (pv 4) (po_some (pv 7)) po_none) (pe_slice sl_list (pv 4) po_none (po_some (pv 7)))))
      (pss_cons (ps_set (i := 8) scLBa.nd rfl (Or.inl rfl) (pe_op op_add pe_int (pe_op op_mod (pe_call GP hr (by rfl) gP kP bP .nil pass0 (pa_cons (pv 0) (pa_cons (pe_op op_add (pv 1) pe_int) pa_nil))) pe_int)))
      (pss_one (ps_ret (pe_slice sl_list (StS.pe_stepL (pv 4) (pv 8)) po_none (po_some (pv 3))))))))), ?_⟩
    refine ⟨Nat.zero_le _, fun L nL => ?_⟩
    have gL := Grew.new hP (o := .lst []) nL
    have hL0 : (L2.upd H L (.lst [])) L = some (.lst []) := upd_same
    generalize L2.upd H L (.lst []) = H1 at gL hL0 ⊢
    have hRo1 := gL.lst hP hRo
    have hln := Paired.len hG
    have roNe : ro ≠ L := fun e => by rw [e, nL] at hRo; cases hRo
    have keepR : ∀ {H' : Hp}, Grew P H H' → Paired (RoadL H') rs xs := fun g => Paired.map' hG fun _ _ m => m.grew g hP
    refine ⟨fun σ H' => ∃ (v5 v6 : Option V) (bs : List (Str × Str)) (ys : List V), σ = [some (.ref a), some (.int k), some (.ref ro), some (.int many), some (.ref L), v5, v6, none, none] ∧ Grew P H H' ∧ H' L = some (.lst ys) ∧ Paired (GBar H') bs ys ∧ BRound rs rs.length 0 bs, ?_, ?_⟩
    · refine ⟨_, rfl, ro, rfl, ⟨_, SqL.of hRo1⟩, for_list (K := K) (a := ro) (xs := xs) (fun i σ H' => ∃ (v5 v6 : Option V) (bs : List (Str × Str)) (ys : List V), σ = [some (.ref a), some (.int k), some (.ref ro), some (.int many), some (.ref L), v5, v6, none, none] ∧ Grew P H H' ∧ H' ro = some (.lst xs) ∧ H' L = some (.lst ys) ∧ Paired (GBar H') bs ys ∧ BRound rs i 0 bs)
        ⟨none, none, [], [], rfl, gL, hRo1, hL0, .nil, ⟨List.nodup_nil, Nat.zero_le _, fun b hb => (by cases hb), fun b hb => (by cases hb)⟩⟩ (fun i σ H' _ h => by obtain ⟨_, _, _, _, _, _, q, _⟩ := h; exact SqL.of q) ?_ ?_⟩
      · rintro i y σ H2 hy ⟨v5, v6, bs, ys, rfl, g2, hRo2, hL2, hB2, hR2⟩
        obtain ⟨r1, hr1, hm1⟩ := Paired.at (keepR g2) hy
        obtain ⟨t1, u1, h1, rfl, e1, _, _⟩ := hm1
        have hi1 := (List.getElem?_eq_some_iff.mp hr1).1
        refine ⟨_, rfl, ro, rfl, ⟨_, SqL.of hRo2⟩, for_list (K := K) (a := ro) (xs := xs) (fun j σ H' => ∃ (v6 : Option V) (bs : List (Str × Str)) (ys : List V), σ = [some (.ref a), some (.int k), some (.ref ro), some (.int many), some (.ref L), some (.ref t1), v6, none, none] ∧ Grew P H H' ∧ H' ro = some (.lst xs) ∧ H' L = some (.lst ys) ∧ Paired (GBar H') bs ys ∧ BRound rs i j bs ∧ H' t1 = some (.tup [.str r1.name, .str r1.start, .str r1.goal, .int r1.minutes, .ref u1, h1]))
          ⟨v6, bs, ys, rfl, g2, hRo2, hL2, hB2, hR2, e1⟩ (fun i σ H' _ h => by obtain ⟨_, _, _, _, _, q, _⟩ := h; exact SqL.of q) ?_ ?_⟩
        · rintro j y2 σ H3 hy2 ⟨v6, bs, ys, rfl, g3, hRo3, hL3, hB3, hR3, e13⟩
          obtain ⟨r2, hr2, hm2⟩ := Paired.at (keepR g3) hy2
          obtain ⟨t2, u2, h2, rfl, e2, _, _⟩ := hm2
          have hj1 := (List.getElem?_eq_some_iff.mp hr2).1
          refine ⟨_, rfl, t1, _, 2, _, rfl, rfl, SqT.of e13, rfl, _, rfl, t2, _, 1, _, rfl, rfl, SqT.of e2, rfl, rfl, _, rfl, ?_⟩
          by_cases c : r1.goal = r2.start
          case neg =>
            refine if_f (decide_eq_false (fun e => c (by injection e with e))) ?_
            exact ⟨_, bs, ys, rfl, g3, hRo3, hL3, hB3, hR3.skip hr2, e13⟩
          refine if_t (decide_eq_true (congrArg V.str c)) ?_
          refine ⟨_, rfl, .inl ⟨rfl, _, SqL.of hL3⟩, _, rfl, t1, _, 0, _, rfl, rfl, SqT.of e13, rfl, _, rfl, t2, _, 0, _, rfl, rfl, SqT.of e2, rfl, (show 2 ≤ sizeLine by decide), fun U nU => ?_⟩
          have gU := Grew.new g3.tab (o := .tup [.str r1.name, .str r2.name]) nU
          have hL4 := gU.lst g3.tab hL3
          have hlen := hR3.len
          have hyl := Paired.len hB3
          have hmul : i * rs.length ≤ 60 * 60 := Nat.mul_le_mul (by omega) h60
          refine ⟨L, _, _, rfl, rfl, hL4, by rw [sizeLine_eq]; omega, ?_⟩
          have up : ∀ {p : Str × Str} {v : V}, GBar (L2.upd H3 U (.tup [.str r1.name, .str r2.name])) p v → GBar (L2.upd (L2.upd H3 U (.tup [.str r1.name, .str r2.name])) L (.lst (ys ++ [.ref U]))) p v := fun ⟨t, e1, e2⟩ => ⟨t, e1, by rw [upd_ne (fun z => by rw [z, hL4] at e2; cases e2)]; exact e2⟩
          have e14 := gU.tup g3.tab e13
          refine ⟨_, bs ++ [(r1.name, r2.name)], ys ++ [.ref U], rfl, (g3.trans gU).write hL4 (fun _ z => by cases z) nL, by rw [upd_ne roNe]; exact gU.lst g3.tab hRo3, upd_same, ?_, hR3.add hnd hr1 hr2 c, by rw [upd_ne (fun z => by rw [z, hL4] at e14; cases e14)]; exact e14⟩
          exact Paired.snoc (Paired.map' hB3 fun _ _ m => up (m.grew gU g3.tab)) (up ⟨U, rfl, upd_same⟩)
        · rintro σ H3 ⟨v6, bs, ys, rfl, g3, hRo3, hL3, hB3, hR3, e13⟩
          rw [← hln] at hR3
          exact ⟨_, _, bs, ys, rfl, g3, hRo3, hL3, hB3, hR3.row hr1⟩
      · rintro σ H2 ⟨v5, v6, bs, ys, rfl, g2, hRo2, hL2, hB2, hR2⟩
        rw [← hln] at hR2
        exact ⟨v5, v6, bs, ys, rfl, g2, hL2, hB2, hR2⟩
    rintro σ H2 ⟨v5, v6, bs, ys, rfl, g2, hL2, hB2, hR2⟩
    have hA2 := g2.sqL hP hA
    have hyl := Paired.len hB2
    have hlen := hR2.len
    have hmul : rs.length * rs.length ≤ 60 * 60 := Nat.mul_le_mul h60 h60
    refine ⟨_, rfl, _, rfl, a, ns, k, rfl, hA2, hsm, hpos, hl9, hk, fun v0 h0 => ⟨_, rfl, L, _, rfl, .inl (SqL.of hL2), _, _, rfl, ?_⟩⟩
    dsimp only []
    obtain ⟨mx, emx, m1⟩ : ∃ mx : Int, (if (ys.length : Int) > 1 then (ys.length : Int) else 1) = mx ∧ 1 ≤ mx := by
      by_cases c : (ys.length : Int) > 1
      · exact ⟨_, by rw [if_pos c], by omega⟩
      · exact ⟨1, by rw [if_neg c], by omega⟩
    rw [emx]
    refine ⟨_, _, rfl, rfl, (show (0 : Int) < mx by omega), ?_⟩
    dsimp only []
    obtain ⟨tn, etn⟩ : ∃ tn : Nat, v0 % mx = (tn : Int) := by
      obtain ⟨n, e⟩ := Int.eq_ofNat_of_zero_le (Int.emod_nonneg v0 (show mx ≠ 0 by omega))
      exact ⟨n, e⟩
    rw [etn]
    refine ⟨_, rfl, _, rfl, _, rfl, L, _, rfl, SqL.of hL2, fun U1 n1 => ?_⟩
    rw [cutV_suf]
    have g3 := Grew.new g2.tab (o := .lst (ys.drop tn)) n1
    have hL3 := g3.lst g2.tab hL2
    have hU1 : (L2.upd H2 U1 (.lst (ys.drop tn))) U1 = some (.lst (ys.drop tn)) := upd_same
    generalize L2.upd H2 U1 (.lst (ys.drop tn)) = H3 at g3 hL3 hU1 ⊢
    refine ⟨_, rfl, _, rfl, _, rfl, L, _, rfl, SqL.of hL3, fun U2 n2 => ?_⟩
    rw [cutV_pre']
    have g4 := Grew.new g3.tab (o := .lst (ys.take tn)) n2
    have hU1' := g4.lst g3.tab hU1
    have hU2 : (L2.upd H3 U2 (.lst (ys.take tn))) U2 = some (.lst (ys.take tn)) := upd_same
    generalize L2.upd H3 U2 (.lst (ys.take tn)) = H4 at g4 hU1' hU2 ⊢
    refine ⟨U1, U2, _, _, rfl, rfl, hU1', hU2, by rw [List.length_drop, List.length_take, sizeLine_eq]; omega, fun W nW => ?_⟩
    have g24 := (g2.trans g3).trans g4
    have g5 := Grew.new g24.tab (o := .lst (ys.drop tn ++ ys.take tn)) nW
    have hW : (L2.upd H4 W (.lst (ys.drop tn ++ ys.take tn))) W = some (.lst (ys.drop tn ++ ys.take tn)) := upd_same
    generalize L2.upd H4 W (.lst (ys.drop tn ++ ys.take tn)) = H5 at g5 hW ⊢
    have g05 := g24.trans g5
    have gB : ∀ {H' : Hp}, Grew P H2 H' → Paired (GBar H') (bs.drop tn ++ bs.take tn) (ys.drop tn ++ ys.take tn) := fun g => by
      have := Paired.map' hB2 fun _ _ m => m.grew g g2.tab
      exact Paired.app (Paired.drop' tn this) (Paired.take' tn this)
    have pm : (bs.drop tn ++ bs.take tn).Perm bs := (List.perm_append_comm).trans (by rw [List.take_append_drop])
    have g25 := (g3.trans g4).trans g5
    refine ⟨_, rfl, _, rfl, _, _, rfl, rfl, a, ns, _, rfl, g05.sqL hP hA, hsm, hpos, hl9, by omega, fun v1 h1 => ⟨_, _, rfl, rfl, (show (0 : Int) < 3 by decide), _, _, rfl, rfl, ?_⟩⟩
    refine ⟨_, rfl, W, _, rfl, SqL.of hW, _, rfl, _, rfl, _, rfl, by omega, SqL.of hW, fun Z zs hsub nZ => ?_⟩
    have gZ := Grew.new g05.tab (o := .lst zs) nZ
    have hZ : (L2.upd H5 Z (.lst zs)) Z = some (.lst zs) := upd_same
    generalize L2.upd H5 Z (.lst zs) = H6 at gZ hZ ⊢
    obtain ⟨mn, emn⟩ := Int.eq_ofNat_of_zero_le hm0
    refine ⟨_, rfl, _, rfl, Z, _, rfl, SqL.of hZ, fun p np => ?_⟩
    rw [emn, cutV_pre']
    have gp := Grew.new gZ.tab (o := .lst (zs.take mn)) np
    have hsub2 : List.Sublist (zs.take mn) (ys.drop tn ++ ys.take tn) := (List.take_sublist mn zs).trans hsub
    obtain ⟨bs', sb, hB'⟩ := Paired.subl (gB (g25.trans (gZ.trans gp))) hsub2
    have lb : bs'.length ≤ mn := by
      rw [Paired.len hB', List.length_take]
      omega
    refine kQ _ p bs' _ (g05.trans (gZ.trans gp)) ((g05.trans gZ).free np) upd_same hB' ⟨by omega, (pm.nodup_iff.mpr hR2.nd).sublist sb, fun b hb => hR2.ok b (pm.mem_iff.mp (sb.subset hb))⟩
end
end W

set_option Elab.async false
set_option linter.all false
set_option maxRecDepth 100000
set_option maxHeartbeats 2000000
namespace W
open PySem PySem.Spec PyProof.Rows L2 GxR MyG MyS SqX
/-! ### drawn parts -/
abbrev sLParts : Stmt := top 39
/-- parts as the law draws them: a tuple of the day and four lists -/
def PartsL (H : Hp) (p : Addr) (d : Int) (ks ps : List Str) (rs : List RoadD) (bs : List (Str × Str)) : Prop := ∃ pl ki ro ba xs zs, H p = some (.tup [.int d, .ref pl, .ref ki, .ref ro, .ref ba]) ∧
  H pl = some (.lst (ps.map V.str)) ∧ H ki = some (.lst (ks.map V.str)) ∧ H ro = some (.lst xs) ∧ Paired (RoadL H) rs xs ∧ H ba = some (.lst zs) ∧ Paired (GBar H) bs zs
theorem PartsL.grew {P : Addr} {H H' : Hp} {p : Addr} {d : Int} {ks ps : List Str} {rs : List RoadD} {bs : List (Str × Str)} (m : PartsL H p d ks ps rs bs) (g : Grew P H H') (h : TabG H P) : PartsL H' p d ks ps rs bs := by
  obtain ⟨pl, ki, ro, ba, xs, zs, e0, e1, e2, e3, e4, e5, e6⟩ := m
  exact ⟨pl, ki, ro, ba, xs, zs, g.tup h e0, g.lst h e1, g.lst h e2, g.lst h e3, Paired.map' e4 fun _ _ m => m.grew g h, g.lst h e5, Paired.map' e6 fun _ _ m => m.grew g h⟩
def spLParts (K : PySem.W.Frag) (P : Addr) : Sp := fun vs H Q _ => ∃ (a : Addr) (ns : List Int), vs = [.ref a] ∧ SqL K H a (ns.map V.int) ∧ Sm ns ∧ 150 ≤ ns.length ∧ ns.length ≤ 1000 ∧ TabG H P ∧
  ∀ H' p d ks ps rs bs, Grew P H H' → H p = none → PartsL H' p d ks ps rs bs → PartsOk d ks ps rs bs → ps = namesL ns 10 ps.length → ks = namesL ns 17 ks.length → rs.map (·.name) = namesL ns 24 rs.length → Q (.ref p) H'
theorem namesL_get {ns : List Int} {a0 many i : Nat} (h : i < many) : (namesL ns a0 many)[i]? = some (nameK ns a0 i) := by
  unfold namesL
  rw [List.getElem?_map, List.getElem?_range h]
  rfl
theorem namesL_succ (ns : List Int) (a0 i : Nat) : namesL ns a0 (i + 1) = namesL ns a0 i ++ [nameK ns a0 i] := by
  unfold namesL
  rw [List.range_succ, List.map_append]
  rfl
section
variable {Pg : Program} {w : World} {K : PySem.W.Frag} {mg : Str → Option Value} {base : Heap} {C P : Addr}
abbrev nLP : List Str := ["numbers", "day", "places", "kinds", "names", "roads", "k", "bars"]
theorem scLP : FnScope nLP ["numbers"] (defScope sLParts) := ⟨rfl, rfl, rfl, by decide +kernel, rfl, by decide +kernel, by decide +kernel⟩
theorem ok_lparts {f fN fC fR fB : Addr} {fd fdN fdC fdR fdB : FuncData} (F : Fun K "_law_parts" "_law_parts" sLParts f fd) (hi : mg "int" = none) (hrg : mg "range" = none) (hl : mg "len" = none)
    (GN : FnOk Pg w K mg base CX0 1 fN fdN ["numbers", "at", "many"] (spLNames K P)) (gN : mg "_law_names" = some (.ref fN)) (kN : PySem.W.keepIn K (.ref fN) = true) (bN : Binds K fdN ["numbers", "at", "many"] [])
    (GC : FnOk Pg w K mg base CX0 1 fC fdC ["number", "least", "most"] spLCount) (gC : mg "_law_count" = some (.ref fC)) (kC : PySem.W.keepIn K (.ref fC) = true) (bC : Binds K fdC ["number", "least", "most"] [])
    (GR : FnOk Pg w K mg base CX0 3 fR fdR ["numbers", "k", "name", "places", "kinds", "day"] (spLRoad K P)) (gR : mg "_law_road" = some (.ref fR)) (kR : PySem.W.keepIn K (.ref fR) = true) (bR : Binds K fdR ["numbers", "k", "name", "places", "kinds", "day"] [])
    (GB : FnOk Pg w K mg base CX0 2 fB fdB ["numbers", "k", "roads", "many"] (spLBars K P)) (gB : mg "_law_bars" = some (.ref fB)) (kB : PySem.W.keepIn K (.ref fB) = true) (bB : Binds K fdB ["numbers", "k", "roads", "many"] []) :
    FnOk Pg w K mg base CX0 4 f fd ["numbers"] (spLParts K P) := by
  refine F.ok scLP (fun vs H Q E h => ?_) (fun cdv A outer s H vs Q E hr h => ?_)
  · obtain ⟨a, ns, rfl, _⟩ := h
    rfl
  · obtain ⟨a, ns, rfl, hA, hsm, hl150, hl9, hP, kQ⟩ := h
    have hr1 : Room 1 _ := hr.mono (by decide)
    have hr2 : Room 2 _ := hr.mono (by decide)
    have hr3 : Room 3 _ := hr.mono (by decide)
    refine ⟨_, C8.pss_cut (ps_set (i := 1) scLP.nd rfl (Or.inr rfl) (pe_ix (r := rIxL K) ix_list (pe_lst (pa_cons pe_int (pa_cons pe_int (pa_cons pe_int (pa_cons (pe_op op_add pe_int (pe_op op_mod (pe_callTy (r := rInt1) call_int1 (by rfl) hi (by decide +kernel) (pa_cons (pe_ix (r := rIxL K) ix_list (pv 0) pe_int (fun _ _ => rfl)) pa_nil)) pe_int)) pa_nil)))))
        (pe_op op_mod (pe_callTy (r := rInt1) call_int1 (by rfl) hi (by decide +kernel) (pa_cons (pe_ix (r := rIxL K) ix_list (pv 0) pe_int (fun _ _ => rfl)) pa_nil)) pe_int) (fun _ _ => rfl)))
      (pss_cons (ps_set (i := 2) scLP.nd rfl (Or.inr rfl) (pe_call GN hr1 (by rfl) gN kN bN .nil pass0 (pa_cons (pv 0) (pa_cons pe_int (pa_cons (pe_call GC hr1 (by rfl) gC kC bC .nil pass0 (pa_cons (pe_ix (r := rIxL K) ix_list (pv 0) pe_int (fun _ _ => rfl)) (pa_cons pe_int (pa_cons pe_int pa_nil)))) pa_nil)))))
      (pss_cons (ps_set (i := 3) scLP.nd rfl (Or.inr rfl) (pe_call GN hr1 (by rfl) gN kN bN .nil pass0 (pa_cons (pv 0) (pa_cons pe_int (pa_cons (pe_op op_add pe_int (pe_op op_mod (pe_callTy (r := rInt1) call_int1 (by rfl) hi (by decide +kernel) (pa_cons (pe_ix (r := rIxL K) ix_list (pv 0) pe_int (fun _ _ => rfl)) pa_nil)) pe_int)) pa_nil)))))
      (pss_cons (ps_set (i := 4) scLP.nd rfl (Or.inr rfl) (pe_call GN hr1 (by rfl) gN kN bN .nil pass0 (pa_cons (pv 0) (pa_cons pe_int (pa_cons (pe_op op_mul (pe_call GC hr1 (by rfl) gC kC bC .nil pass0 (pa_cons (pe_ix (r := rIxL K) ix_list (pv 0) pe_int (fun _ _ => rfl)) (pa_cons pe_int (pa_cons pe_int pa_nil))))
          (pe_callTy (r := rInt1) call_int1 (by rfl) hi (by decide +kernel) (pa_cons (pe_cmpR op_gt (pe_callB (r := rLenK K) call_len_seq (by rfl) hl PySem.boot_len (pa_cons (pv 2) pa_nil)) pe_int (nomark _)) pa_nil))) pa_nil)))))
      (C8.pss_cut (ps_setLc (i := 5) (own := [("k", 6)]) (g := gName 6) (tt := tYes) rfl scLP.nd rfl rfl (sw_true rfl rfl rfl (by decide +kernel)) (pi_range1 rfl hrg (pa_cons (pe_callB (r := rLenK K) call_len_seq (by rfl) hl PySem.boot_len (pa_cons (pv 4) pa_nil)) pa_nil)) (blkOk_by (N := nLP) (sc := defScope sLParts) (by decide +kernel)) (fun _ _ _ _ _ => pg_name (i := 6) scLP.nd rfl (Or.inl rfl))
          (fun _ _ _ _ _ => pts_nil)
          (fun _ _ _ _ _ => pe_call GR hr3 (by rfl) gR kR bR .nil pass0 (pa_cons (pv 0) (pa_cons (pe_op op_add pe_int (pe_op op_mul pe_int (pv 6))) (pa_cons (pe_ix (r := rIxL K) ix_list (pv 4) (pv 6) (fun _ _ => rfl)) (pa_cons (pv 2) (pa_cons (pv 3) (pa_cons (pv 1) pa_nil))))))))
      (pss_cons (ps_set (i := 7) scLP.nd rfl (Or.inl rfl) (pe_call GB hr2 (by rfl) gB kB bB .nil pass0 (pa_cons (pv 0) (pa_cons pe_int (pa_cons (pv 5) (pa_cons (pe_call GC hr1 (by rfl) gC kC bC .nil pass0 (pa_cons (pe_ix (r := rIxL K) ix_list (pv 0) pe_int (fun _ _ => rfl)) (pa_cons pe_int (pa_cons pe_int pa_nil)))) pa_nil))))))
      (pss_one (ps_ret (pe_tup (pa_cons (pv 1) (pa_cons (pv 2) (pa_cons (pv 3) (pa_cons (pv 5) (pa_cons (pv 7) pa_nil))))))))))))), ?_⟩
    have nat := fun (i : Nat) (h : i < ns.length) => nv_at hsm h
    obtain ⟨f8, p8, _⟩ := nat 8 (by omega)
    obtain ⟨f9, p9, _⟩ := nat 9 (by omega)
    obtain ⟨f16, p16, _⟩ := nat 16 (by omega)
    obtain ⟨f23, p23, _⟩ := nat 23 (by omega)
    obtain ⟨f30, p30, _⟩ := nat 30 (by omega)
    obtain ⟨f31, p31, _⟩ := nat 31 (by omega)
    refine ⟨fun σ H' => ∃ d : Int, σ = [some (.ref a), some (.int d), none, none, none, none, none, none] ∧ Grew P H H' ∧ 1 ≤ d ∧ d ≤ 1440, ?_, ?_⟩
    · refine ⟨_, rfl, a, _, _, _, rfl, rfl, hA, f9, .inl ⟨_, rfl, _, _, rfl, rfl, (show (0 : Int) < 1440 by decide), _, _, rfl, rfl, (show 4 ≤ sizeLine by decide), fun T nT => ?_⟩⟩
      have gT := Grew.new hP (o := .lst [.int 1, .int 1440, .int 60, .int (1 + nv ns 9 % 1440)]) nT
      have hT : (L2.upd H T (.lst [.int 1, .int 1440, .int 60, .int (1 + nv ns 9 % 1440)])) T = some (.lst [.int 1, .int 1440, .int 60, .int (1 + nv ns 9 % 1440)]) := upd_same
      generalize L2.upd H T (.lst [.int 1, .int 1440, .int 60, .int (1 + nv ns 9 % 1440)]) = H1 at gT hT ⊢
      obtain ⟨d, ed, d1, d2⟩ : ∃ d : Int, atI [V.int 1, V.int 1440, V.int 60, V.int (1 + nv ns 9 % 1440)] (nv ns 8 % 4) = some (.int d) ∧ 1 ≤ d ∧ d ≤ 1440 := by
        have : nv ns 8 % 4 = 0 ∨ nv ns 8 % 4 = 1 ∨ nv ns 8 % 4 = 2 ∨ nv ns 8 % 4 = 3 := by omega
        rcases this with c | c | c | c <;> rw [c]
        · exact ⟨1, rfl, by decide, by decide⟩
        · exact ⟨1440, rfl, by decide, by decide⟩
        · exact ⟨60, rfl, by decide, by decide⟩
        · exact ⟨_, rfl, by omega, by omega⟩
      exact ⟨_, rfl, a, _, _, _, rfl, rfl, gT.sqL hP hA, f8, .inl ⟨_, rfl, _, _, rfl, rfl, (show (0 : Int) < 4 by decide), T, _, _, _, rfl, rfl, SqL.of hT, ed, d, rfl, gT, d1, d2⟩⟩
    rintro σ H1 ⟨d, rfl, g1, d1, d2⟩
    have hA1 := g1.sqL hP hA
    -- places
    refine ⟨_, rfl, _, rfl, a, _, _, _, rfl, rfl, hA1, f16, _, 0, 30, rfl, p16, by decide, fun v v0 v30 => ?_⟩
    obtain ⟨np, rfl⟩ := Int.eq_ofNat_of_zero_le v0
    refine ⟨a, ns, 10, np, rfl, hA1, hsm, by omega, by omega, by omega, g1.tab, fun H2 pl g12 npl hPl => ?_⟩
    have g2 := g1.trans g12
    have hA2 := g2.sqL hP hA
    -- kinds
    obtain ⟨nk, enk⟩ := Int.eq_ofNat_of_zero_le (show (0 : Int) ≤ 1 + nv ns 23 % 4 by omega)
    refine ⟨_, rfl, _, rfl, a, _, _, _, rfl, rfl, hA2, f23, .inl ⟨_, rfl, _, _, rfl, rfl, (show (0 : Int) < 4 by decide), _, _, rfl, rfl, ?_⟩⟩
    dsimp only []
    rw [enk]
    refine ⟨a, ns, 17, nk, rfl, hA2, hsm, by omega, by omega, by omega, g2.tab, fun H3 ki g23 nki hKi => ?_⟩
    have g3 := g2.trans g23
    have hA3 := g3.sqL hP hA
    have hPl3 := g23.lst g2.tab hPl
    -- names
    refine ⟨_, rfl, _, rfl, a, _, _, _, rfl, rfl, hA3, f30, _, 0, 60, rfl, p30, by decide, fun u u0 u60 => ?_⟩
    refine ⟨_, rfl, pl, _, rfl, .inl (SqL.of hPl3), _, _, rfl, rfl, .inr ⟨_, rfl, ?_⟩⟩
    obtain ⟨b, eb⟩ : ∃ b : Int, (if decide (((List.map V.str (namesL ns 10 np)).length : Int) > 0) = true then (1 : Int) else 0) = b := ⟨_, rfl⟩
    have hb : (b = 1 ∧ 0 < np) ∨ b = 0 := by
      rw [List.length_map, namesL_len] at eb
      by_cases c : 0 < np
      · exact .inl ⟨by rw [← eb, if_pos (decide_eq_true (by omega))], c⟩
      · exact .inr (by rw [← eb, if_neg (by rw [decide_eq_false (by omega)]; simp)])
    rw [eb]
    obtain ⟨nn, en, en60, enp⟩ : ∃ nn : Nat, u * b = (nn : Int) ∧ nn ≤ 60 ∧ (0 < nn → 0 < np) := by
      rcases hb with ⟨rfl, c⟩ | rfl
      · exact ⟨u.toNat, by omega, by omega, fun _ => c⟩
      · exact ⟨0, by omega, by omega, fun h => absurd h (by omega)⟩
    refine ⟨_, _, rfl, rfl, ?_, ?_⟩
    · rcases hb with ⟨rfl, _⟩ | rfl <;> exact .inl ⟨by omega, by omega⟩
    dsimp only []
    rw [en]
    refine ⟨a, ns, 24, nn, rfl, hA3, hsm, by omega, by omega, by omega, g3.tab, fun H4 nmA g34 nnm hN => ?_⟩
    have g4 := g3.trans g34
    have hPl4 := g34.lst g3.tab hPl3
    have hKi4 := g34.lst g3.tab hKi
    have knd : (namesL ns 17 nk).Nodup := namesL_nodup (by omega)
    have pnd : (namesL ns 10 np).Nodup := namesL_nodup (by omega)
    -- roads
    refine ⟨fun σ H' => ∃ (D : Addr) (rs : List RoadD) (xs : List V), σ = [some (.ref a), some (.int d), some (.ref pl), some (.ref ki), some (.ref nmA), some (.ref D), none, none] ∧ Grew P H4 H' ∧ H' D = some (.lst xs) ∧ Paired (RoadU D H') rs xs ∧ rs.map (·.name) = namesL ns 24 nn ∧ ∀ r ∈ rs, RoadOk d (namesL ns 10 np) (namesL ns 17 nk) r, ?_, ?_⟩
    · refine ⟨_, rfl, nmA, _, rfl, .inl (SqL.of hN), _, rfl, by omega, by rw [List.length_map, namesL_len]; omega, fun D nD => lc_range (n := ((namesL ns 24 nn).map V.str).length) (fun i H' => Grew P H4 H' ∧ ∃ (rs : List RoadD) (xs : List V), H' D = some (.lst xs) ∧ Paired (RoadU D H') rs xs ∧ rs.map (·.name) = namesL ns 24 i ∧ ∀ r ∈ rs, RoadOk d (namesL ns 10 np) (namesL ns 17 nk) r)
        ⟨Grew.new g4.tab nD, [], [], upd_same, .nil, rfl, fun r hr => (by cases hr)⟩ (fun i H' hi p => ?_) (fun H' p => ?_)⟩
      · obtain ⟨g, rs, xs, hD, hR, hnm, hok⟩ := p
        rw [List.length_map, namesL_len] at hi
        have g0 := g4.trans g
        have hA5 := g0.sqL hP hA
        have hN5 := g.lst g4.tab hN
        have np1 := enp (by omega)
        have lrs : rs.length = i := by
          have := congrArg List.length hnm
          rw [List.length_map, namesL_len] at this
          exact this
        refine ⟨rfl, _, rfl, _, rfl, _, _, rfl, rfl, .inl ⟨by decide, by decide⟩, _, _, rfl, rfl, _, rfl, _, rfl, nmA, _, _, .str (nameK ns 24 i), rfl, rfl, SqL.of hN5, by rw [Int.zero_add]; exact atI_nat (by rw [List.getElem?_map, namesL_get hi]; rfl), _, rfl, _, rfl, _, rfl,
          a, pl, ki, ns, _, d, _, namesL ns 10 np, namesL ns 17 nk, rfl, hA5, hsm, by omega, hl9, by omega, d1, d2, SqL.of (g.lst g4.tab hPl4), SqL.of (g.lst g4.tab hKi4), by rw [namesL_len]; omega, by rw [namesL_len]; omega, knd, g.tab, fun H6 v r g56 m en' ok => ?_⟩
        have hD6 := g56.lst g.tab hD
        have lxs := Paired.len hR
        refine ⟨_, hD6, by rw [sizeLine_eq]; omega, (g.trans g56).write hD6 (fun _ z => by cases z) nD, rs ++ [r], xs ++ [v], upd_same, Paired.snoc (Paired.map' hR fun _ _ q => (q.grew g56 g.tab).upd hD6) ((m.un hD).upd hD6), by rw [List.map_append, hnm, namesL_succ, ← en']; rfl, fun r' hr' => ?_⟩
        rcases List.mem_append.mp hr' with q | q
        · exact hok r' q
        · rw [List.mem_singleton.mp q]
          exact ok
      · obtain ⟨g, rs, xs, hD, hR, hnm, hok⟩ := p
        rw [List.length_map, namesL_len] at hnm
        exact ⟨D, rs, xs, rfl, g, hD, hR, hnm, hok⟩
    rintro σ H5 ⟨D, rs, xs, rfl, g45, hD, hRU, hnm, hok⟩
    have hR : Paired (RoadL H5) rs xs := Paired.map' hRU fun _ _ q => q.road
    have g5 := g4.trans g45
    have hA5 := g5.sqL hP hA
    have lrs : rs.length = nn := by
      have := congrArg List.length hnm
      rw [List.length_map, namesL_len] at this
      exact this
    have rnd : (rs.map (·.name)).Nodup := by rw [hnm]; exact namesL_nodup (by omega)
    refine ⟨_, rfl, _, rfl, _, rfl, a, _, _, _, rfl, rfl, hA5, f31, _, 0, 40, rfl, p31, by decide, fun v v0 v40 => ?_⟩
    refine ⟨a, D, ns, 130, v, rs, xs, rfl, hA5, hsm, by omega, hl9, by decide, v0, v40, hD, hR, by omega, rnd, g5.tab, fun H6 ba bs zs g56 nba hB hzs okb => ?_⟩
    have g6 := g5.trans g56
    refine ⟨_, rfl, _, rfl, _, rfl, _, rfl, _, rfl, (show 5 ≤ sizeLine by decide), fun p np' => ?_⟩
    have g7 := Grew.new g6.tab (o := .tup [.int d, .ref pl, .ref ki, .ref D, .ref ba]) np'
    have g47 := (g45.trans g56).trans g7
    refine kQ _ p d (namesL ns 17 nk) (namesL ns 10 np) rs bs (g6.trans g7) (g6.free np') ⟨pl, ki, D, ba, xs, zs, upd_same, g47.lst g4.tab hPl4, g47.lst g4.tab hKi4, (g56.trans g7).lst g5.tab hD, Paired.map' hR fun _ _ m => m.grew (g56.trans g7) g5.tab, g7.lst g6.tab hB, Paired.map' hzs fun _ _ m => m.grew g7 g6.tab⟩
      ⟨d1, d2, by rw [namesL_len]; omega, by rw [namesL_len]; omega, by rw [namesL_len]; omega, namesL_ok _ _ _, namesL_ok _ _ _, knd, pnd, ⟨by omega, by rw [hnm]; exact namesL_ok _ _ _, rnd, hok⟩, okb⟩ (by rw [namesL_len]) (by rw [namesL_len]) (by rw [lrs]; exact hnm)
end
end W

set_option Elab.async false
set_option linter.all false
set_option maxRecDepth 100000
set_option maxHeartbeats 2000000
namespace W
open PySem PySem.Spec PyProof.Rows L2 GxR MyG MyS SqX
/-! ### parts as a map keeps them: there is one way only -/
structure Srt (ks ps : List Str) (rs : List RoadD) (bs : List (Str × Str)) (ks' ps' : List Str) (rs' : List RoadD) (bs' : List (Str × Str)) : Prop where
  k : ks'.Perm ks
  ka : Asc ks'
  p : ps'.Perm ps
  pa : Asc ps'
  r : KeptAll rs rs'
  ra : AscR rs'
  b : bs'.Perm bs
  ba : AscB bs'
theorem asc_one {l m n : List Str} (h1 : l.Perm n) (h2 : m.Perm n) (a1 : Asc l) (a2 : Asc m) : l = m :=
  List.Perm.eq_of_pairwise (le := fun a b => slt b a = false) (fun a b _ _ x y => slt_tri y x) a1 a2 (h1.trans h2.symm)
theorem slt2_tri {a b : Str × Str} (h1 : slt2 a b = false) (h2 : slt2 b a = false) : a = b := by
  by_cases e : a.1 = b.1
  · rw [slt2_eq e] at h1
    rw [slt2_eq e.symm] at h2
    exact Prod.ext e (slt_tri h1 h2)
  · rw [slt2_ne e] at h1
    rw [slt2_ne (fun c => e c.symm)] at h2
    exact absurd (slt_tri h1 h2) e
theorem ascB_one {l m n : List (Str × Str)} (h1 : l.Perm n) (h2 : m.Perm n) (a1 : AscB l) (a2 : AscB m) : l = m :=
  List.Perm.eq_of_pairwise (le := fun a b => slt2 b a = false) (fun a b _ _ x y => slt2_tri y x) a1 a2 (h1.trans h2.symm)
theorem kept_one {r a b : RoadD} (h1 : Kept r a) (h2 : Kept r b) : a = b := by
  obtain ⟨a1, a2, a3, a4, a5, a6, a7⟩ := h1
  obtain ⟨b1, b2, b3, b4, b5, b6, b7⟩ := h2
  have e := asc_one a6 b6 a7 b7
  cases a
  cases b
  simp_all
theorem paired_one {α β : Type} {F : α → β → Prop} (u : ∀ a b c, F a b → F a c → b = c) : ∀ {l : List α} {m n : List β}, Paired F l m → Paired F l n → m = n
  | _, _, _, .nil, h => by cases h; rfl
  | _, _, _, .cons x r, h => by
    cases h with
    | cons y s => rw [u _ _ _ x y, paired_one u r s]
theorem roads_one {rs l m : List RoadD} (nd : (rs.map (·.name)).Nodup) (h1 : KeptAll rs l) (h2 : KeptAll rs m) (a1 : AscR l) (a2 : AscR m) : l = m := by
  have n1 := h1.nodup nd
  obtain ⟨x, px, qx⟩ := h1
  obtain ⟨y, py, qy⟩ := h2
  have e : x = y := paired_one (F := Kept) (fun _ _ _ a b => kept_one a b) qx qy
  subst e
  have pm : l.Perm m := px.symm.trans py
  exact List.Perm.eq_of_pairwise (le := fun a b : RoadD => slt b.name a.name = false) (fun a b ha hb p q => uniqN n1 ha (pm.mem_iff.mpr hb) (slt_tri q p)) a1 a2 pm
theorem Srt.one {ks ps ks1 ps1 ks2 ps2 : List Str} {rs rs1 rs2 : List RoadD} {bs bs1 bs2 : List (Str × Str)} (nd : (rs.map (·.name)).Nodup) (h1 : Srt ks ps rs bs ks1 ps1 rs1 bs1) (h2 : Srt ks ps rs bs ks2 ps2 rs2 bs2) : ks1 = ks2 ∧ ps1 = ps2 ∧ rs1 = rs2 ∧ bs1 = bs2 :=
  ⟨asc_one h1.k h2.k h1.ka h2.ka, asc_one h1.p h2.p h1.pa h2.pa, roads_one nd h1.r h2.r h1.ra h2.ra, ascB_one h1.b h2.b h1.ba h2.ba⟩
/-! ### data -/
def pairP (p : Int × Int) : PyData := .tuple [.int p.1, .int p.2]
def hoursP : Option (List (Int × Int)) → PyData
  | none => .none
  | some gs => .tuple (gs.map pairP)
def roadP (r : RoadD) : PyData := .tuple [.str r.name, .str r.start, .str r.goal, .int r.minutes, .tuple (r.users.map .str), hoursP r.hours]
def barP (b : Str × Str) : PyData := .tuple [.str b.1, .str b.2]
theorem dpAll_of {α : Type} {F : α → V → Prop} {f : α → PyData} {K : PySem.W.Frag} {H : Hp} (u : ∀ a v, F a v → Dp K H v (f a)) : ∀ {l : List α} {xs : List V}, Paired F l xs → DpAll K H xs (l.map f)
  | _, _, .nil => .nil
  | _, _, .cons a r => .cons (u _ _ a) (dpAll_of u r)
theorem dpAll_strs {K : PySem.W.Frag} {H : Hp} : ∀ ns : List Str, DpAll K H (ns.map V.str) (ns.map PyData.str)
  | [] => .nil
  | n :: ns => .cons (.str n) (dpAll_strs ns)
theorem GPair.dp {K : PySem.W.Frag} {H : Hp} {p : Int × Int} {v : V} (h : GPair K H p v) : Dp K H v (pairP p) := by
  obtain ⟨t, rfl, e⟩ := h
  exact .tup e (.cons (.int _) (.cons (.int _) .nil))
theorem GHours.dp {K : PySem.W.Frag} {H : Hp} {hs : Option (List (Int × Int))} {v : V} (h : GHours K H hs v) : Dp K H v (hoursP hs) := by
  cases hs with
  | none =>
    have e : v = .non := h
    rw [e]
    exact .non
  | some gs =>
    obtain ⟨l, xs, rfl, q, r⟩ := h
    exact .tup q (dpAll_of (fun _ _ m => m.dp) r)
theorem RoadAt.dp {K : PySem.W.Frag} {H : Hp} {r : RoadD} {v : V} (h : RoadAt K H r v) : Dp K H v (roadP r) := by
  obtain ⟨p, q, h, rfl, e, e2, g⟩ := h
  exact .tup (SqT.of e) (.cons (.str _) (.cons (.str _) (.cons (.str _) (.cons (.int _) (.cons (.tup (SqT.of e2) (dpAll_strs _)) (.cons g.dp .nil))))))
theorem GBar.dp {K : PySem.W.Frag} {H : Hp} {b : Str × Str} {v : V} (h : GBar H b v) : Dp K H v (barP b) := by
  obtain ⟨t, rfl, e⟩ := h
  exact .tup (SqT.of e) (.cons (.str _) (.cons (.str _) .nil))
def Lay (n : Nat) (d : PyData) : Prop := d.canLay0 = true ∧ d.depth ≤ n
theorem lay_all {n : Nat} : ∀ {ds : List PyData}, (∀ d ∈ ds, Lay n d) → PyData.canLayAll0 ds = true ∧ PyData.depthAll ds ≤ n
  | [], _ => ⟨rfl, Nat.zero_le _⟩
  | d :: ds, h => by
    obtain ⟨a, b⟩ := h d List.mem_cons_self
    obtain ⟨c, e⟩ := lay_all fun x hx => h x (List.mem_cons_of_mem _ hx)
    refine ⟨by simp [PyData.canLayAll0, a, c], ?_⟩
    simp only [PyData.depthAll]
    omega
theorem Lay.tuple {n : Nat} {ds : List PyData} (h : ∀ d ∈ ds, Lay n d) : Lay (n + 1) (.tuple ds) := by
  obtain ⟨a, b⟩ := lay_all h
  refine ⟨by simpa [PyData.canLay0] using a, ?_⟩
  simp only [PyData.depth]
  omega
theorem Lay.mono {n m : Nat} {d : PyData} (h : Lay n d) (hm : n ≤ m) : Lay m d := ⟨h.1, Nat.le_trans h.2 hm⟩
theorem Lay.int (i : Int) : Lay 1 (.int i) := ⟨rfl, by simp [PyData.depth]⟩
theorem Lay.none : Lay 1 .none := ⟨rfl, by simp [PyData.depth]⟩
theorem Lay.str {z : Str} (h : PyData.strOk z = true) : Lay 1 (.str z) := ⟨by simpa [PyData.canLay0] using h, by simp [PyData.depth]⟩
theorem Lay.shaped {n : Nat} {d : PyData} (h : Lay n d) (hn : n ≤ 64) : SeqAt.shaped d = true := by
  unfold SeqAt.shaped
  rw [Bool.and_eq_true]
  exact ⟨h.1, decide_eq_true (Nat.le_trans h.2 hn)⟩
theorem Lay.refl {n : Nat} {d : PyData} (h : Lay n d) : PyData.eqv d d = true := SeqAt.eqv_refl _ h.1
structure TxtR (r : RoadD) : Prop where
  n : PyData.strOk r.name = true
  s : PyData.strOk r.start = true
  g : PyData.strOk r.goal = true
  u : ∀ z ∈ r.users, PyData.strOk z = true
theorem lay_strs {ns : List Str} (h : ∀ z ∈ ns, PyData.strOk z = true) : Lay 2 (.tuple (ns.map .str)) := Lay.tuple fun d hd => by
  obtain ⟨z, hz, rfl⟩ := List.mem_map.mp hd
  exact Lay.str (h z hz)
theorem lay_hours (hs : Option (List (Int × Int))) : Lay 3 (hoursP hs) := by
  cases hs with
  | none => exact Lay.none.mono (by decide)
  | some gs =>
    refine Lay.tuple fun d hd => ?_
    obtain ⟨p, _, rfl⟩ := List.mem_map.mp hd
    refine Lay.tuple fun d hd => ?_
    simp only [List.mem_cons, List.not_mem_nil, or_false] at hd
    rcases hd with rfl | rfl <;> exact Lay.int _
theorem TxtR.lay {r : RoadD} (h : TxtR r) : Lay 4 (roadP r) := Lay.tuple fun d hd => by
  simp only [List.mem_cons, List.not_mem_nil, or_false] at hd
  rcases hd with rfl | rfl | rfl | rfl | rfl | rfl
  · exact (Lay.str h.n).mono (by decide)
  · exact (Lay.str h.s).mono (by decide)
  · exact (Lay.str h.g).mono (by decide)
  · exact (Lay.int _).mono (by decide)
  · exact (lay_strs h.u).mono (by decide)
  · exact lay_hours _
theorem lay_roads {rs : List RoadD} (h : ∀ r ∈ rs, TxtR r) : Lay 5 (.tuple (rs.map roadP)) := Lay.tuple fun d hd => by
  obtain ⟨r, hr, rfl⟩ := List.mem_map.mp hd
  exact (h r hr).lay
theorem lay_bars {bs : List (Str × Str)} (h : ∀ b ∈ bs, PyData.strOk b.1 = true ∧ PyData.strOk b.2 = true) : Lay 3 (.tuple (bs.map barP)) := Lay.tuple fun d hd => by
  obtain ⟨b, hb, rfl⟩ := List.mem_map.mp hd
  refine Lay.tuple fun d hd => ?_
  simp only [List.mem_cons, List.not_mem_nil, or_false] at hd
  rcases hd with rfl | rfl
  · exact Lay.str (h b hb).1
  · exact Lay.str (h b hb).2
theorem nm_ok {z : Str} (h : isNm z = true) : PyData.strOk z = true := by
  unfold isNm at h
  simp only [Bool.and_eq_true] at h
  have h4 := h.2
  unfold PyData.strOk
  rw [← Array.all_toList]
  refine List.all_eq_true.mpr fun c hc => ?_
  have g := List.all_eq_true.mp h4 c hc
  have a1 : ∀ c ∈ zLet.cps.toList, decide (c < 0x110000) = true := by decide +kernel
  have a2 : ∀ c ∈ zDig.cps.toList, decide (c < 0x110000) = true := by decide +kernel
  unfold goodC at g
  rcases Bool.or_eq_true_iff.mp g with g | g
  · exact a1 c (of_decide_eq_true g)
  · exact a2 c (of_decide_eq_true g)
/-- texts that may be compared -/
structure TxtP (ks ps : List Str) (rs : List RoadD) (bs : List (Str × Str)) : Prop where
  k : ∀ z ∈ ks, PyData.strOk z = true
  p : ∀ z ∈ ps, PyData.strOk z = true
  r : ∀ r ∈ rs, TxtR r
  b : ∀ b ∈ bs, PyData.strOk b.1 = true ∧ PyData.strOk b.2 = true
theorem all_nm {ns : List Str} (h : ns.all isNm = true) : ∀ z ∈ ns, PyData.strOk z = true := fun z hz => nm_ok (List.all_eq_true.mp h z hz)
theorem PartsOk.txt {d : Int} {ks ps : List Str} {rs : List RoadD} {bs : List (Str × Str)} (h : PartsOk d ks ps rs bs) : TxtP ks ps rs bs := by
  have hn : ∀ r ∈ rs, PyData.strOk r.name = true := fun r hr => all_nm h.r.nm _ (List.mem_map.mpr ⟨r, hr, rfl⟩)
  refine ⟨all_nm h.kn, all_nm h.pn, fun r hr => ?_, fun b hb => ?_⟩
  · have o := h.r.ok r hr
    exact ⟨hn r hr, all_nm h.pn _ o.s, all_nm h.pn _ o.g, fun z hz => all_nm h.kn _ (o.u z hz)⟩
  · obtain ⟨r1, h1, r2, h2, e1, e2, _⟩ := h.b.ok b hb
    rw [e1, e2]
    exact ⟨hn r1 h1, hn r2 h2⟩
theorem TxtP.srt {ks ps ks' ps' : List Str} {rs rs' : List RoadD} {bs bs' : List (Str × Str)} (h : TxtP ks ps rs bs) (s : Srt ks ps rs bs ks' ps' rs' bs') : TxtP ks' ps' rs' bs' := by
  refine ⟨fun z hz => h.k z (s.k.mem_iff.mp hz), fun z hz => h.p z (s.p.mem_iff.mp hz), fun r hr => ?_, fun b hb => h.b b (s.b.mem_iff.mp hb)⟩
  obtain ⟨l, pm, q⟩ := s.r
  obtain ⟨r0, h0, a1, a2, a3, _, _, a6, _⟩ := Paired.mem q (pm.mem_iff.mpr hr)
  have o := h.r r0 h0
  exact ⟨by rw [a1]; exact o.n, by rw [a2]; exact o.s, by rw [a3]; exact o.g, fun z hz => o.u z (a6.mem_iff.mp hz)⟩
/-! ### of the size that the map's checks ask for -/
theorem parts_small {d : Int} {ks ps : List Str} {rs : List RoadD} {bs : List (Str × Str)} (h : PartsOk d ks ps rs bs) : GivenSm d ks ps (rs.map itemG) (bs.map p2) := by
  have ln : ∀ {ns : List Str}, ns.all isNm = true → ∀ z ∈ ns, z.length ≤ 1000 := fun h z hz => Nat.le_trans (isNm_len (List.all_eq_true.mp h z hz)) (by decide)
  have hn : ∀ r ∈ rs, r.name.length ≤ 1000 := fun r hr => ln h.r.nm _ (List.mem_map.mpr ⟨r, hr, rfl⟩)
  refine ⟨by have := h.d1; have := h.d2; omega, by have := h.k2; omega, ln h.kn, by have := h.p2; omega, ln h.pn, by rw [List.length_map]; have := h.r.len; omega, fun g hg => ?_, by rw [List.length_map]; have := h.b.len; omega, fun b hb z hz => ?_⟩
  · obtain ⟨r, hr, e⟩ := List.mem_map.mp hg
    have e' : rG r = g := Sum.inl.inj e
    subst e'
    have o := h.r.ok r hr
    refine ⟨hn r hr, ln h.pn _ o.s, ln h.pn _ o.g, by show r.minutes.natAbs < _; have := o.m1; have := o.m2; omega, by show r.users.length ≤ _; have := o.un; omega, fun z hz => ln h.kn _ (o.u z hz), fun ps hps => ?_⟩
    have oh := o.h
    obtain ⟨hs, ehs⟩ : ∃ hs, hs = r.hours := ⟨_, rfl⟩
    rw [← ehs] at oh
    have hps' : hoursG hs = some ps := by rw [ehs]; exact hps
    cases hs with
    | none => cases hps'
    | some gs =>
      have e : gs.map (fun p => [p.1, p.2]) = ps := Option.some.inj hps'
      rw [← e, List.length_map]
      have := oh.1
      omega
  · obtain ⟨b0, h0, rfl⟩ := List.mem_map.mp hb
    obtain ⟨r1, h1, r2, h2, e1, e2, _⟩ := h.b.ok b0 h0
    have : z = b0.1 ∨ z = b0.2 := by simpa [p2] using hz
    rcases this with rfl | rfl
    · rw [e1]; exact hn r1 h1
    · rw [e2]; exact hn r2 h2
end W

set_option Elab.async false
set_option linter.all false
set_option maxRecDepth 100000
set_option maxHeartbeats 1000000
namespace W
open PySem PySem.Spec PyProof.Rows L2 GxR MyG MyS SqX
/-! ### a map made of parts that are as they should be -/
abbrev sLMade : Stmt := top 40
theorem passF {P : Program} {w : World} {X : Cx} (hP : X.prog = P) (hw : X.w = w) : Passes (L2.CX P w) X E0 := fun pins σ H s e s' I c => by
  obtain ⟨_, _, _, _, _, _, _, _, _, _, _, _, q⟩ := c
  exact q.elim
abbrev kMapA : List Str := ["day", "places", "kinds", "roads", "bars"]
def gMapA {α : Type} (us mv ws : List α) : List α := us ++ ((match ws with | [a, b, c, d, e] => [a, c, b, d, e] | _ => []) ++ mv)
abbrev kMapB : List Str := ["day", "kinds"]
def gMapB {α : Type} (us mv ws : List α) : List α := us ++ (ws ++ mv)
theorem paired_mapl {α β γ : Type} {F : α → γ → Prop} {G : β → γ → Prop} {f : α → β} (u : ∀ a c, F a c → G (f a) c) : ∀ {l : List α} {m : List γ}, Paired F l m → Paired G (l.map f) m
  | _, _, .nil => .nil
  | _, _, .cons a r => .cons (u _ _ a) (paired_mapl u r)
theorem HoursL.gen {K : PySem.W.Frag} {H : Hp} {hs : Option (List (Int × Int))} {v : V} (m : HoursL H hs v) : GHoursX K H (hoursG hs) v := by
  cases hs with
  | none => exact m
  | some gs =>
    obtain ⟨l, xs, e, a, b⟩ := m
    exact ⟨l, xs, true, e, SqL.of a, paired_mapl (fun p c ⟨t, e1, e2⟩ => ⟨t, e1, SqT.of e2⟩) b⟩
theorem GHours.gen {K : PySem.W.Frag} {H : Hp} {hs : Option (List (Int × Int))} {v : V} (m : GHours K H hs v) : GHoursX K H (hoursG hs) v := by
  cases hs with
  | none => exact m
  | some gs =>
    obtain ⟨l, xs, e, a, b⟩ := m
    exact ⟨l, xs, false, e, a, paired_mapl (fun p c ⟨t, e1, e2⟩ => ⟨t, e1, e2⟩) b⟩
theorem RoadL.gen {K : PySem.W.Frag} {H : Hp} {r : RoadD} {v : V} (m : RoadL H r v) : GItem K H (itemG r) v := by
  obtain ⟨t, u, h, a, b, c, d⟩ := m
  exact ⟨t, u, h, true, a, SqT.of b, SqL.of c, d.gen⟩
theorem RoadAt.gen {K : PySem.W.Frag} {H : Hp} {r : RoadD} {v : V} (m : RoadAt K H r v) : GItem K H (itemG r) v := by
  obtain ⟨t, u, h, a, b, c, d⟩ := m
  exact ⟨t, u, h, false, a, SqT.of b, SqT.of c, d.gen⟩
theorem GBar.gen {H : Hp} {b : Str × Str} {v : V} (m : GBar H b v) : GBarX H (p2 b) v := let ⟨t, e, q⟩ := m; ⟨t, e, .inr q⟩
def MadeQ (K : PySem.W.Frag) (M P x : Addr) (H : Hp) (d : Int) (ks ps : List Str) (rs : List RoadD) (bs : List (Str × Str)) (R : Hp → Prop) : Prop := ∀ H' ks' ps' rs' bs', Grew P H H' → H x = none → Srt ks ps rs bs ks' ps' rs' bs' → MapAt K H' M x d ks' ps' rs' bs' → R H'
/-- parts that are not too large for Map -/
structure PartsSm (d : Int) (ks ps : List Str) (rs : List RoadD) (bs : List (Str × Str)) : Prop where
  sm : GivenSm d ks ps (rs.map itemG) (bs.map p2)
theorem PartsOk.sm {d : Int} {ks ps : List Str} {rs : List RoadD} {bs : List (Str × Str)} (h : PartsOk d ks ps rs bs) : PartsSm d ks ps rs bs := ⟨parts_small h⟩
theorem initG_of {K : PySem.W.Frag} {M C P x dx ki pl ro ba : Addr} {H : Hp} {ck cp cr cb : Bool} {d : Int} {ks ps : List Str} {rs : List RoadD} {bs : List (Str × Str)} {xs zs : List V} {Q : VK} {E : XK} (hP : TabG H P) (nx : H x = none) (ndx : H dx = none) (nex : dx ≠ x)
    (hk : SqK ck K H ki (ks.map V.str)) (hp : SqK cp K H pl (ps.map V.str)) (hr : SqK cr K H ro xs) (hrs : Paired (GItem K H) (rs.map itemG) xs) (hb : SqK cb K H ba zs) (hbs : Paired (fun b v => GBarX H (p2 b) v) bs zs) (sm : PartsSm d ks ps rs bs)
    (k : PartsOk d ks ps rs bs → MadeQ K M P x H d ks ps rs bs fun H' => Q .non H') (kE : ¬ PartsOk d ks ps rs bs → BadM C P H E) : spInitX K M C P [.ref x, .int d, .ref ki, .ref pl, .ref ro, .ref ba] (L2.upd (L2.upd H dx (.own x)) x (.ins M dx [])) Q E := by
  have gx : Grew P H (L2.upd (L2.upd H dx (.own x)) x (.ins M dx [])) := (Grew.new hP ndx).put (by rw [upd_ne nex.symm]; exact nx)
  have inj : ∀ {rs0 : List RoadD} {bs0 : List (Str × Str)}, rs.map itemG = rs0.map itemG → bs.map p2 = bs0.map p2 → rs = rs0 ∧ bs = bs0 := fun e1 e2 =>
    ⟨List.map_inj_right (fun a b h => rG_inj (Sum.inl.inj h)) |>.mp e1, List.map_inj_right (fun a b h => p2_inj a b h) |>.mp e2⟩
  refine ⟨x, dx, ki, pl, ro, ba, ck, cp, cr, cb, d, ks, ps, rs.map itemG, bs.map p2, xs, zs, H, rfl, gx, hP, nx, upd_same, hk, hp, hr, hrs, hb, paired_mapl (f := p2) (G := GBarX H) (fun _ _ m => m) hbs, sm.sm, fun rs0 bs0 e1 e2 ok' H' ks' ps' rs' bs' g a1 a2 a3 a4 a5 a6 a7 a8 m => ?_, fun no => kE fun o => no ⟨rs, bs, rfl, rfl, o⟩⟩
  obtain ⟨q1, q2⟩ := inj e1 e2
  subst q1 q2
  exact k ok' H' ks' ps' rs' bs' g nx ⟨a1, a2, a3, a4, a5, a6, a7, a8⟩ m
theorem initX_of {K : PySem.W.Frag} {M C P x dx ki pl ro ba : Addr} {H : Hp} {ck cp cr cb : Bool} {d : Int} {ks ps : List Str} {rs : List RoadD} {bs : List (Str × Str)} {xs zs : List V} {Q : VK} {E : XK} (hP : TabG H P) (nx : H x = none) (ndx : H dx = none) (nex : dx ≠ x)
    (hk : SqK ck K H ki (ks.map V.str)) (hp : SqK cp K H pl (ps.map V.str)) (hr : SqK cr K H ro xs) (hrs : Paired (GItem K H) (rs.map itemG) xs) (hb : SqK cb K H ba zs) (hbs : Paired (GBar H) bs zs) (ok : PartsOk d ks ps rs bs)
    (k : MadeQ K M P x H d ks ps rs bs fun H' => Q .non H') : spInitX K M C P [.ref x, .int d, .ref ki, .ref pl, .ref ro, .ref ba] (L2.upd (L2.upd H dx (.own x)) x (.ins M dx [])) Q E :=
  initG_of hP nx ndx nex hk hp hr hrs hb (Paired.map' hbs fun _ _ m => m.gen) ok.sm (fun _ => k) (fun no => absurd ok no)
def spLMade (K : PySem.W.Frag) (M P : Addr) : Sp := fun vs H Q _ => ∃ (p : Addr) (d : Int) (ks ps : List Str) (rs : List RoadD) (bs : List (Str × Str)), vs = [.ref p] ∧ PartsL H p d ks ps rs bs ∧ PartsOk d ks ps rs bs ∧ TabG H P ∧
  ∀ x, MadeQ K M P x H d ks ps rs bs fun H' => Q (.ref x) H'
section
variable {Pg : Program} {w : World} {K : PySem.W.Frag} {mg : Str → Option Value} {base : Heap} {C P : Addr}
theorem mapA_binds {f : Addr} {fd : FuncData} {T1 T2 T : Addr} (F : FunD K "__init__" "Map.__init__" (defArgs sInit) (defBody sInit) (defScope sInit) [] [("places", V.ref T1), ("roads", V.ref T2), ("bars", V.ref T)] f fd) :
    ∃ mv : List Value, KBn K fd pInit 1 kMapA (fun us ws => gMapA us mv ws) (fun vs zs => gMapA vs (([] : List (Str × V)).map (·.2)) zs) := by
  refine FunD.kbinds0 F 1 kMapA [] gMapA (by simp) (by simp) ?_ ?_
  · intro vs mz zs us mv ws r1 r2 r3
    unfold gMapA
    refine r1.append (Vals.append ?_ r2)
    cases r3 with
    | nil => exact .nil
    | cons a r3 =>
      cases r3 with
      | nil => exact .nil
      | cons b r3 =>
        cases r3 with
        | nil => exact .nil
        | cons c r3 =>
          cases r3 with
          | nil => exact .nil
          | cons d r3 =>
            cases r3 with
            | nil => exact .nil
            | cons e r3 =>
              cases r3 with
              | nil => exact .cons a (.cons c (.cons b (.cons d (.cons e .nil))))
              | cons g r3 => exact .nil
  · intro D doc pm an cdv ct us mv ws h1 h2 h3
    match us, mv, ws, h1, h2, h3 with
    | [u], [], [a, b, c, d, e], _, _, _ =>
      exact rfl
theorem mapB_binds {f : Addr} {fd : FuncData} {T1 T2 T : Addr} (F : FunD K "__init__" "Map.__init__" (defArgs sInit) (defBody sInit) (defScope sInit) [] [("places", V.ref T1), ("roads", V.ref T2), ("bars", V.ref T)] f fd) :
    ∃ mv : List Value, KBn K fd pInit 1 kMapB (fun us ws => gMapB us mv ws) (fun vs zs => gMapB vs ([(("places" : Str), V.ref T1), ("roads", V.ref T2), ("bars", V.ref T)].map (·.2)) zs) := by
  refine FunD.kbinds0 F 1 kMapB [(("places" : Str), V.ref T1), ("roads", V.ref T2), ("bars", V.ref T)] gMapB (by simp) (by simp) ?_ ?_
  · intro vs mz zs us mv ws r1 r2 r3
    exact r1.append (Vals.append r3 r2)
  · intro D doc pm an cdv ct us mv ws h1 h2 h3
    match us, mv, ws, h1, h2, h3 with
    | [u], [m1, m2, m3], [a, b], _, _, _ =>
      exact ⟨_, _, _, _, _, _, rfl, rfl, _, _, _, _, _, _, rfl, rfl, _, _, _, _, _, _, rfl, rfl, rfl⟩
theorem scLMade : FnScope ["parts"] ["parts"] (defScope sLMade) := ⟨rfl, rfl, rfl, by decide +kernel, rfl, by decide +kernel, by decide +kernel⟩
theorem ok_lmade {f fI M : Addr} {fd fdI : FuncData} {mv : List Value} (F : Fun K "_law_made" "_law_made" sLMade f fd) (TM : TxtM K M) (hls : mg "list" = none) (Mk : L2.Mk K M fI) (gM : mg "Map" = some (.ref M))
    (GI : FnOk Pg w K mg base (L2.CX Pg w) 5 fI fdI pInit (spInitX K M C P)) (kb : KBn K fdI pInit 1 kMapA (fun us ws => gMapA us mv ws) (fun vs zs => gMapA vs (([] : List (Str × V)).map (·.2)) zs)) :
    FnOk Pg w K mg base CX0 7 f fd ["parts"] (spLMade K M P) := by
  refine F.ok scLMade (fun vs H Q E h => ?_) (fun cdv A outer s H vs Q E hr h => ?_)
  · obtain ⟨p, d, ks, ps, rs, bs, rfl, _⟩ := h
    rfl
  · obtain ⟨p, d, ks, ps, rs, bs, rfl, ⟨pl, ki, ro, ba, xs, zs, hp, hpl, hki, hro, hrs, hba, hbs⟩, ok, hP, k⟩ := h
    refine ⟨_, pss_one (ps_ret (pe_makeK0 (E := E0) Mk GI hr (by rfl) gM kb (passF rfl rfl) (pk_cons (pe_ix (r := rIxT K) ix_tup (pv 0) pe_int (fun _ _ => rfl)) (pk_cons (pe_callTy call_list_of (by rfl) hls (by decide +kernel) (pa_cons (pe_ix (r := rIxT K) ix_tup (pv 0) pe_int (fun _ _ => rfl)) pa_nil)) (pk_cons (pe_callTy call_list_of (by rfl) hls (by decide +kernel) (pa_cons (pe_ix (r := rIxT K) ix_tup (pv 0) pe_int (fun _ _ => rfl)) pa_nil))
        (pk_cons (pe_callTy call_list_of (by rfl) hls (by decide +kernel) (pa_cons (pe_ix (r := rIxT K) ix_tup (pv 0) pe_int (fun _ _ => rfl)) pa_nil)) (pk_cons (pe_callTy call_list_of (by rfl) hls (by decide +kernel) (pa_cons (pe_ix (r := rIxT K) ix_tup (pv 0) pe_int (fun _ _ => rfl)) pa_nil)) pk_nil))))))), ?_⟩
    refine ⟨_, rfl, p, _, 0, _, rfl, rfl, SqT.of hp, rfl, ?_⟩
    refine ⟨_, rfl, p, _, 1, _, rfl, rfl, SqT.of hp, rfl, pl, _, rfl, .inl (SqL.of hpl), fun k1 n1 => ?_⟩
    have g1 := Grew.new hP (o := .lst (ps.map V.str)) n1
    refine ⟨_, rfl, p, _, 2, _, rfl, rfl, SqT.of (g1.tup hP hp), rfl, ki, _, rfl, .inl (SqL.of (g1.lst hP hki)), fun k2 n2 => ?_⟩
    have g2 := Grew.new g1.tab (o := .lst (ks.map V.str)) n2
    have g12 := g1.trans g2
    refine ⟨_, rfl, p, _, 3, _, rfl, rfl, SqT.of (g12.tup hP hp), rfl, ro, _, rfl, .inl (SqL.of (g12.lst hP hro)), fun k3 n3 => ?_⟩
    have g3 := Grew.new g12.tab (o := .lst xs) n3
    have g13 := g12.trans g3
    refine ⟨_, rfl, p, _, 4, _, rfl, rfl, SqT.of (g13.tup hP hp), rfl, ba, _, rfl, .inl (SqL.of (g13.lst hP hba)), fun k4 n4 => ?_⟩
    have g4 := Grew.new g13.tab (o := .lst zs) n4
    have g14 := g13.trans g4
    refine ⟨rfl, rfl, fun x dx nx ndx nex => ?_⟩
    have e1 := (g2.trans (g3.trans g4)).lst g1.tab (b := k1) (xs := ps.map V.str) upd_same
    have e2 := (g3.trans g4).lst g12.tab (b := k2) (xs := ks.map V.str) upd_same
    have e3 := g4.lst g13.tab (b := k3) (xs := xs) upd_same
    refine initX_of (ck := true) (cp := true) (cr := true) (cb := true) (xs := xs) (zs := zs) g14.tab nx ndx nex (SqL.of e2) (SqL.of e1) (SqL.of e3) (paired_mapl (fun _ _ m => (m.grew g14 hP).gen) hrs) (SqL.of upd_same) (Paired.map' hbs fun _ _ m => m.grew g14 hP) ok (fun H' ks' ps' rs' bs' g5 nx' q hm => ⟨rfl, ?_⟩)
    exact k x H' ks' ps' rs' bs' (g14.trans g5) (g14.free nx) q hm
end
end W

set_option Elab.async false
set_option linter.all false
set_option maxRecDepth 100000
set_option maxHeartbeats 2000000
namespace W
open PySem PySem.Spec PyProof.Rows L2 GxR MyG MyS SqX
/-! ### parts as a map keeps them, made by the law -/
abbrev sLFrozen : Stmt := top 41
/-- parts as a tuple of tuples -/
def FrozAt (K : PySem.W.Frag) (H : Hp) (p : Addr) (d : Int) (ks ps : List Str) (rs : List RoadD) (bs : List (Str × Str)) : Prop := ∃ pl ki ro ba xs zs, H p = some (.tup [.int d, .ref pl, .ref ki, .ref ro, .ref ba]) ∧
  H pl = some (.tup (ps.map V.str)) ∧ H ki = some (.tup (ks.map V.str)) ∧ H ro = some (.tup xs) ∧ Paired (RoadAt K H) rs xs ∧ H ba = some (.tup zs) ∧ Paired (GBar H) bs zs
theorem FrozAt.grew {K : PySem.W.Frag} {P : Addr} {H H' : Hp} {p : Addr} {d : Int} {ks ps : List Str} {rs : List RoadD} {bs : List (Str × Str)} (m : FrozAt K H p d ks ps rs bs) (g : Grew P H H') (h : TabG H P) : FrozAt K H' p d ks ps rs bs := by
  obtain ⟨pl, ki, ro, ba, xs, zs, e0, e1, e2, e3, e4, e5, e6⟩ := m
  exact ⟨pl, ki, ro, ba, xs, zs, g.tup h e0, g.tup h e1, g.tup h e2, g.tup h e3, Paired.map' e4 fun _ _ m => m.grew g h, g.tup h e5, Paired.map' e6 fun _ _ m => m.grew g h⟩
def spLFrozen (K : PySem.W.Frag) (P : Addr) : Sp := fun vs H Q _ => ∃ (p : Addr) (d : Int) (ks ps : List Str) (rs : List RoadD) (bs : List (Str × Str)), vs = [.ref p] ∧ PartsL H p d ks ps rs bs ∧ PartsOk d ks ps rs bs ∧ TabG H P ∧
  ∀ H' q ks' ps' rs' bs', Grew P H H' → H q = none → Srt ks ps rs bs ks' ps' rs' bs' → FrozAt K H' q d ks' ps' rs' bs' → Q (.ref q) H'
theorem paired_flip {α β : Type} {F : α → β → Prop} {G : β → α → Prop} (u : ∀ a b, F a b → G b a) : ∀ {l : List α} {m : List β}, Paired F l m → Paired G m l
  | _, _, .nil => .nil
  | _, _, .cons a r => .cons (u _ _ a) (paired_flip u r)
def roadOf (rs : List RoadD) (n : Str) : RoadD := match rs.find? (fun r => decide (r.name = n)) with
  | some r => r
  | none => ⟨"", "", "", 0, [], none⟩
theorem roadOf_name {rs : List RoadD} (nd : (rs.map (·.name)).Nodup) {r : RoadD} (h : r ∈ rs) : roadOf rs r.name = r := by
  unfold roadOf
  cases e : rs.find? (fun x => decide (x.name = r.name)) with
  | none =>
    have q := List.find?_eq_none.mp e r h
    simp at q
  | some x =>
    have q : decide (x.name = r.name) = true := List.find?_some (p := fun y : RoadD => decide (y.name = r.name)) e
    show x = r
    exact uniqN nd (List.mem_of_find?_eq_some e) h (of_decide_eq_true q)
theorem back_of {rs l : List RoadD} (nd : (rs.map (·.name)).Nodup) (h : ∀ r ∈ l, r ∈ rs) : (l.map (·.name)).map (roadOf rs) = l := by
  rw [List.map_map]
  conv => rhs; rw [← List.map_id l]
  exact List.map_congr_left fun r hr => roadOf_name nd (h r hr)
theorem keptAll_of {rs l rs1 : List RoadD} (nd : (rs.map (·.name)).Nodup) (hsub : ∀ r ∈ l, r ∈ rs) (pm : (l.map (·.name)).Perm (rs.map (·.name))) (pk : Paired Kept l rs1) : KeptAll rs rs1 := by
  have p : rs.Perm l := by
    have := (pm.map (roadOf rs)).symm
    rw [back_of nd hsub, back_of nd fun r h => h] at this
    exact this
  obtain ⟨l0, p0, q0⟩ := Paired.perm p (paired_flip (G := fun b a => Kept a b) (fun _ _ h => h) pk)
  exact ⟨l0, p0, paired_flip (fun _ _ h => h) q0⟩
theorem paired_names {l rs1 : List RoadD} (pk : Paired Kept l rs1) : rs1.map (·.name) = l.map (·.name) := by
  induction pk with
  | nil => rfl
  | cons a _ ih => rw [List.map_cons, List.map_cons, ih, a.1]
section
variable {Pg : Program} {w : World} {K : PySem.W.Frag} {mg : Str → Option Value} {base : Heap} {C P : Addr}
abbrev nLF : List Str := ["parts", "roads", "road", "name", "hours", "pair", "bar", "bars"]
theorem scLF : FnScope nLF ["parts"] (defScope sLFrozen) := ⟨rfl, rfl, rfl, by decide +kernel, rfl, by decide +kernel, by decide +kernel⟩
theorem ok_lfrozen {f : Addr} {fd : FuncData} (F : Fun K "_law_frozen" "_law_frozen" sLFrozen f fd) (hs : mg "sorted" = none) (ht : mg "tuple" = none) :
    FnOk Pg w K mg base CX0 1 f fd ["parts"] (spLFrozen K P) := by
  refine F.ok scLF (fun vs H Q E h => ?_) (fun cdv A outer s H vs Q E hr h => ?_)
  · obtain ⟨p, d, ks, ps, rs, bs, rfl, _⟩ := h
    rfl
  · obtain ⟨p, d, ks, ps, rs, bs, rfl, ⟨pl, ki, ro, ba, xs, zs, hp, hpl, hki, hro, hrs, hba, hbs⟩, ok, hP, kQ⟩ := h
    refine ⟨_, pss_cons (ps_set (i := 1) scLF.nd rfl (Or.inl rfl) (pe_lst pa_nil))
      (C8.pss_cut (ps_for PassesOwn.never rfl (pi_list (pe_callB cr_sortSQ (by rfl) hs (by decide +kernel) (pa_cons (pe_lc (own := [("road", 2)]) (g := gName 2) (tt := tYes) rfl scLF.nd (pi_list (pe_ix (r := rIxT K) ix_tup (pv 0) pe_int (fun _ _ => rfl))) (blkOk_by (N := nLF) (sc := defScope sLFrozen) (by decide +kernel)) (fun _ _ _ _ _ => pg_name (i := 2) scLF.nd rfl (Or.inl rfl)) (fun _ _ _ _ _ => pts_nil)
            (fun _ _ _ _ _ => pe_ix (r := rIxT K) ix_tup (pv 2) pe_int (fun _ _ => rfl))) pa_nil))) (pg_name (i := 3) scLF.nd rfl (Or.inl rfl))
        (pss_one (ps_for PassesOwn.never rfl (pi_list (pe_ix (r := rIxT K) ix_tup (pv 0) pe_int (fun _ _ => rfl))) (pg_name (i := 2) scLF.nd rfl (Or.inl rfl))
          (pss_one (ps_if (pt_cmpR op_eq (pe_ix (r := rIxT K) ix_tup (pv 2) pe_int (fun _ _ => rfl)) (pv 3) (nomark _))
            (pss_cons (ps_set (i := 4) scLF.nd rfl (Or.inl rfl) (pe_ix (r := rIxT K) ix_tup (pv 2) pe_int (fun _ _ => rfl)))
            (C8.pss_cut (ps_if (pt_cmp (pc_notN (pv 4))) (pss_one (ps_set (i := 4) scLF.nd rfl (Or.inl rfl) (pe_callTy call_tuple_of (by rfl) ht (by decide +kernel) (pa_cons (pe_lc (own := [("pair", 5)]) (g := gName 5) (tt := tYes) rfl scLF.nd (pi_list (pv 4)) (blkOk_by (N := nLF) (sc := defScope sLFrozen) (by decide +kernel)) (fun _ _ _ _ _ => pg_name (i := 5) scLF.nd rfl (Or.inl rfl)) (fun _ _ _ _ _ => pts_nil)
                (fun _ _ _ _ _ => pe_callTy (r := rTupOf K) call_tuple_of (by rfl) ht (by decide +kernel) (pa_cons (pv 5) pa_nil))) pa_nil)))) pss_nil)
            (pss_one (ps_expr (pe_bm PySem.F.plainAttrs_list PySem.F.slot_list_append PySem.F.type_list_append mt_append (pv 1) (pa_cons (pe_op op_catA (pe_slice sl_tupA (pv 2) po_none (po_some pe_int)) (pe_tup (pa_cons (pe_callTy call_tuple_of (by rfl) ht (by decide +kernel) (pa_cons (pe_callB cr_sortSQ (by rfl) hs (by decide +kernel) (pa_cons (pe_ix (r := rIxT K) ix_tup (pv 2) pe_int (fun _ _ => rfl)) pa_nil)) pa_nil)) (pa_cons (pv 4) pa_nil)))) pa_nil))))))
            pss_nil)))))
      (pss_cons (ps_set (i := 7) scLF.nd rfl (Or.inl rfl) (pe_callTy call_tuple_of (by rfl) ht (by decide +kernel) (pa_cons (pe_callB cr_sortB (by rfl) hs (by decide +kernel) (pa_cons (pe_lc (own := [("bar", 6)]) (g := gName 6) (tt := tYes) rfl scLF.nd (pi_list (pe_ix (r := rIxT K) ix_tup (pv 0) pe_int (fun _ _ => rfl))) (blkOk_by (N := nLF) (sc := defScope sLFrozen) (by decide +kernel)) (fun _ _ _ _ _ => pg_name (i := 6) scLF.nd rfl (Or.inl rfl)) (fun _ _ _ _ _ => pts_nil)
            (fun _ _ _ _ _ => pe_callTy (r := rTupOf K) call_tuple_of (by rfl) ht (by decide +kernel) (pa_cons (pv 6) pa_nil))) pa_nil)) pa_nil)))
      (pss_one (ps_ret (pe_tup (pa_cons (pe_ix (r := rIxT K) ix_tup (pv 0) pe_int (fun _ _ => rfl)) (pa_cons (pe_callTy call_tuple_of (by rfl) ht (by decide +kernel) (pa_cons (pe_callB cr_sortSQ (by rfl) hs (by decide +kernel) (pa_cons (pe_ix (r := rIxT K) ix_tup (pv 0) pe_int (fun _ _ => rfl)) pa_nil)) pa_nil)) (pa_cons (pe_callTy call_tuple_of (by rfl) ht (by decide +kernel) (pa_cons (pe_callB cr_sortSQ (by rfl) hs (by decide +kernel) (pa_cons (pe_ix (r := rIxT K) ix_tup (pv 0) pe_int (fun _ _ => rfl)) pa_nil)) pa_nil))
          (pa_cons (pe_callTy call_tuple_of (by rfl) ht (by decide +kernel) (pa_cons (pv 1) pa_nil)) (pa_cons (pv 7) pa_nil)))))))))), ?_⟩
    have hln := Paired.len hrs
    have h60 := ok.r.len
    have hnd := ok.r.nd
    refine ⟨Nat.zero_le _, fun L nL => ?_⟩
    have gL := Grew.new hP (o := .lst []) nL
    have hL0 : (L2.upd H L (.lst [])) L = some (.lst []) := upd_same
    generalize L2.upd H L (.lst []) = H1 at gL hL0 ⊢
    have hro1 := gL.lst hP hro
    refine ⟨fun σ H' => ∃ (v2 v3 v4 : Option V) (rs' : List RoadD) (ys : List V), σ = [some (.ref p), some (.ref L), v2, v3, v4, none, none, none] ∧ Grew P H H' ∧ H' L = some (.lst ys) ∧ Paired (RoadAt K H') rs' ys ∧ KeptAll rs rs' ∧ AscR rs', ?_, ?_⟩
    · refine ⟨_, rfl, p, _, 3, .ref ro, rfl, rfl, SqT.of (gL.tup hP hp), rfl, ro, rfl, ⟨_, SqL.of hro1⟩, fun D nD => lc_list (K := K) (a := ro) (xs := xs) (fun i H' => Grew P H1 H' ∧ H' D = some (.lst (((rs.take i).map (·.name)).map V.str)))
        ⟨Grew.new gL.tab nD, upd_same⟩ (fun i H' _ q => SqL.of (q.1.lst gL.tab hro1)) (fun i v H' hv q => ?_) (fun H' q => ?_)⟩
      · obtain ⟨g, hD⟩ := q
        obtain ⟨r, hr, m⟩ := Paired.at hrs hv
        obtain ⟨t, u, h, rfl, et, _, _⟩ := m.grew (gL.trans g) hP
        have hi := (List.getElem?_eq_some_iff.mp hr).1
        refine ⟨rfl, _, rfl, t, _, 0, .str r.name, rfl, rfl, SqT.of et, rfl, _, hD, ?_, g.write hD (fun _ z => by cases z) nD, ?_⟩
        · rw [List.length_map, List.length_map, List.length_take, sizeLine_eq]; omega
        · rw [upd_same, List.take_succ, hr, List.map_append, List.map_append]; rfl
      obtain ⟨g, hD⟩ := q
      rw [← hln, List.take_length] at hD
      refine ⟨D, rs.map (·.name), rfl, .inl (SqL.of hD), fun nms q pm asc nq => ?_⟩
      have gq := g.put (o := .lst (nms.map V.str)) nq
      have hL2 : (L2.upd H' q (.lst (nms.map V.str))) L = some (.lst []) := gq.lst gL.tab hL0
      have hq : (L2.upd H' q (.lst (nms.map V.str))) q = some (.lst (nms.map V.str)) := upd_same
      have qL : q ≠ L := fun e => by rw [e, g.lst gL.tab hL0] at nq; cases nq
      have g0q := gL.trans gq
      generalize L2.upd H' q (.lst (nms.map V.str)) = H2 at gq hL2 hq g0q ⊢
      have ndn : nms.Nodup := pm.nodup_iff.mpr hnd
      have ln : nms.length ≤ 60 := by rw [pm.length_eq, List.length_map]; exact h60
      refine ⟨q, rfl, ⟨_, SqL.of hq⟩, for_list (K := K) (a := q) (xs := nms.map V.str) (fun i σ H' => ∃ (v2 v3 v4 : Option V) (l rs1 : List RoadD) (ys : List V), σ = [some (.ref p), some (.ref L), v2, v3, v4, none, none, none] ∧ Grew P H H' ∧ H' L = some (.lst ys) ∧ Paired (RoadAt K H') rs1 ys ∧ Paired Kept l rs1 ∧ (∀ r ∈ l, r ∈ rs) ∧ H' q = some (.lst (nms.map V.str)) ∧ l.map (·.name) = nms.take i)
        ⟨none, none, none, [], [], [], rfl, g0q, hL2, .nil, .nil, fun r h => (by cases h), hq, rfl⟩ (fun i σ H' _ h => by obtain ⟨_, _, _, _, _, _, _, _, _, _, _, _, e, _⟩ := h; exact SqL.of e) ?_ ?_⟩
      · rintro i y σ H3 hy ⟨v2, v3, v4, l, rs1, ys, rfl, g3, hL3, hR3, hK3, hl3, hq3, hn3⟩
        rw [List.getElem?_map] at hy
        obtain ⟨nm, hnm, rfl⟩ := Option.map_eq_some_iff.mp hy
        have nmi : nm ∈ rs.map (·.name) := pm.mem_iff.mp (List.mem_of_getElem? hnm)
        have hi := (List.getElem?_eq_some_iff.mp hnm).1
        refine ⟨_, rfl, p, _, 3, .ref ro, rfl, rfl, SqT.of (g3.tup hP hp), rfl, ro, rfl, ⟨_, SqL.of (g3.lst hP hro)⟩, for_list (K := K) (a := ro) (xs := xs) (fun j σ H' => ∃ (v2 v4 : Option V) (l rs1 : List RoadD) (ys : List V), σ = [some (.ref p), some (.ref L), v2, some (.str nm), v4, none, none, none] ∧ Grew P H H' ∧ H' L = some (.lst ys) ∧ Paired (RoadAt K H') rs1 ys ∧ Paired Kept l rs1 ∧ (∀ r ∈ l, r ∈ rs) ∧ H' q = some (.lst (nms.map V.str)) ∧
            ((l.map (·.name) = nms.take i ∧ nm ∉ (rs.take j).map (·.name)) ∨ (l.map (·.name) = nms.take (i + 1) ∧ nm ∈ (rs.take j).map (·.name))))
          ⟨v2, v4, l, rs1, ys, rfl, g3, hL3, hR3, hK3, hl3, hq3, .inl ⟨hn3, by simp⟩⟩ (fun j σ H' _ h => by obtain ⟨_, _, _, _, _, _, g, _⟩ := h; exact SqL.of (g.lst hP hro)) ?_ ?_⟩
        · rintro j y σ H4 hy4 ⟨v2, v4, l, rs1, ys, rfl, g4, hL4, hR4, hK4, hl4, hq4, hc⟩
          obtain ⟨r, hr, m⟩ := Paired.at hrs hy4
          obtain ⟨t, u, h, rfl, et, eu, hh⟩ := m.grew g4 hP
          have tk := take_next hr
          refine ⟨_, rfl, t, _, 0, .str r.name, rfl, rfl, SqT.of et, rfl, _, rfl, rfl, _, rfl, ?_⟩
          by_cases c : r.name = nm
          case neg =>
            refine if_f (decide_eq_false fun e => c (by injection e with e)) ?_
            refine ⟨_, _, l, rs1, ys, rfl, g4, hL4, hR4, hK4, hl4, hq4, ?_⟩
            rw [tk]
            rcases hc with ⟨a, b⟩ | ⟨a, b⟩
            · exact .inl ⟨a, fun z => (List.mem_append.mp z).elim b fun z => c (List.mem_singleton.mp z).symm⟩
            · exact .inr ⟨a, List.mem_append_left _ b⟩
          refine if_t (decide_eq_true (congrArg V.str c)) ?_
          have nah := not_ahead hnd hr
          rw [c] at nah
          have hc' : l.map (·.name) = nms.take i := hc.elim (fun h => h.1) fun h => absurd h.2 nah
          refine ⟨_, rfl, t, _, 5, h, rfl, rfl, SqT.of et, rfl, ?_⟩
          refine ⟨fun σ H' => ∃ hv, σ = [some (.ref p), some (.ref L), some (.ref t), some (.str nm), some hv, none, none, none] ∧ Grew P H4 H' ∧ GHours K H' r.hours hv, ?_, ?_⟩
          · refine ⟨_, rfl, _, rfl, ?_⟩
            obtain ⟨hs0, ehs⟩ : ∃ hs0, hs0 = r.hours := ⟨_, rfl⟩
            rw [← ehs] at hh ⊢
            cases hs0 with
            | none =>
              have eh : h = .non := hh
              subst eh
              exact if_f rfl ⟨_, rfl, Grew.refl g4.tab, rfl⟩
            | some gs =>
              obtain ⟨hl, hx, rfl, ehl, ehx⟩ := hh
              refine if_t rfl ⟨_, rfl, hl, rfl, ⟨_, SqL.of ehl⟩, fun D5 nD5 => lc_list (K := K) (a := hl) (xs := hx) (fun k H' => Grew P H4 H' ∧ H' D5 = some (.lst (hx.take k)))
                ⟨Grew.new g4.tab nD5, upd_same⟩ (fun k H' _ z => SqL.of (z.1.lst g4.tab ehl)) (fun k v H' hv z => ?_) (fun H' z => ?_)⟩
              · obtain ⟨g, hD5⟩ := z
                obtain ⟨pr, hpr, m⟩ := Paired.at ehx hv
                obtain ⟨t5, rfl, et5⟩ := m.grew g g4.tab
                have oh : HoursOk d (some gs) := by rw [ehs]; exact (ok.r.ok r (List.mem_of_getElem? hr)).h
                have gl4 := oh.1
                have glx := Paired.len ehx
                refine ⟨rfl, _, rfl, t5, _, rfl, .inr ⟨SqT.of et5, _, hD5, ?_, g.write hD5 (fun _ z => by cases z) nD5, ?_⟩⟩
                · rw [List.length_take, sizeLine_eq]; omega
                · rw [upd_same, List.take_succ, hv]; rfl
              · obtain ⟨g, hD5⟩ := z
                rw [List.take_length] at hD5
                refine ⟨D5, _, rfl, .inl ⟨SqL.of hD5, fun w nw => ?_⟩⟩
                have gw := g.put (o := .tup hx) nw
                exact ⟨_, rfl, gw, w, hx, rfl, SqT.of upd_same, Paired.map' ehx fun a b m => let ⟨t, e1, e2⟩ := m.grew gw g4.tab; ⟨t, e1, SqT.of e2⟩⟩
          rintro σ H5 ⟨hv, rfl, g5, hg5⟩
          have hL5 := g5.lst g4.tab hL4
          have et5 := g5.tup g4.tab et
          have eu5 := g5.lst g4.tab eu
          refine ⟨_, rfl, .inl ⟨rfl, _, SqL.of hL5⟩, _, rfl, _, rfl, t, _, rfl, SqT.of et5, fun e => absurd e (show ¬ (HT.sIx 6 0 none = 0 ∧ HT.sIx 6 6 (some 4) = 6) by decide), fun _ w1 nw1 => ?_⟩
          have gw1 := Grew.new g5.tab (o := .tup [.str r.name, .str r.start, .str r.goal, .int r.minutes]) nw1
          have ec : cutV [V.str r.name, .str r.start, .str r.goal, .int r.minutes, .ref u, h] none (some 4) = [.str r.name, .str r.start, .str r.goal, .int r.minutes] := rfl
          rw [ec]
          have hw1 : (L2.upd H5 w1 (.tup [.str r.name, .str r.start, .str r.goal, .int r.minutes])) w1 = some (.tup [.str r.name, .str r.start, .str r.goal, .int r.minutes]) := upd_same
          generalize L2.upd H5 w1 (.tup [.str r.name, .str r.start, .str r.goal, .int r.minutes]) = H6 at gw1 hw1 ⊢
          refine ⟨_, rfl, t, _, 4, .ref u, rfl, rfl, SqT.of (gw1.tup g5.tab et5), rfl, u, r.users, rfl, .inl (SqL.of (gw1.lst g5.tab eu5)), fun us q2 pm2 asc2 nq2 => ⟨q2, _, rfl, .inl ⟨SqL.of upd_same, fun w2 nw2 => ?_⟩⟩⟩
          have gq2 := Grew.new gw1.tab (o := .lst (us.map V.str)) nq2
          have gw2 := gq2.put (o := .tup (us.map V.str)) nw2
          have hw2 : (L2.upd (L2.upd H6 q2 (.lst (us.map V.str))) w2 (.tup (us.map V.str))) w2 = some (.tup (us.map V.str)) := upd_same
          generalize L2.upd (L2.upd H6 q2 (.lst (us.map V.str))) w2 (.tup (us.map V.str)) = H7 at gw2 hw2 ⊢
          refine ⟨_, rfl, (show 2 ≤ sizeLine by decide), fun w3 nw3 => ?_⟩
          have gw3 := Grew.new gw2.tab (o := .tup [.ref w2, hv]) nw3
          have hw3 : (L2.upd H7 w3 (.tup [.ref w2, hv])) w3 = some (.tup [.ref w2, hv]) := upd_same
          have g67 := gw2.trans gw3
          have hw1' := g67.tup gw1.tab hw1
          have hw2' := gw3.tup gw2.tab hw2
          generalize L2.upd H7 w3 (.tup [.ref w2, hv]) = H8 at gw3 hw3 g67 hw1' hw2' ⊢
          refine ⟨w1, w3, _, _, rfl, rfl, SqT.of hw1', SqT.of hw3, (show 4 + 2 ≤ sizeLine by decide), fun e => (by cases e), fun _ e => (by cases e), fun _ _ w4 nw4 => ?_⟩
          have g58 := gw1.trans g67
          have gw4 := Grew.new g58.tab (o := .tup [.str r.name, .str r.start, .str r.goal, .int r.minutes, .ref w2, hv]) nw4
          have hw4 : (L2.upd H8 w4 (.tup [.str r.name, .str r.start, .str r.goal, .int r.minutes, .ref w2, hv])) w4 = some (.tup [.str r.name, .str r.start, .str r.goal, .int r.minutes, .ref w2, hv]) := upd_same
          have hw2'' := gw4.tup g58.tab hw2'
          have g59 := g58.trans gw4
          have g49 := g5.trans g59
          have eap : [V.str r.name, .str r.start, .str r.goal, .int r.minutes] ++ [.ref w2, hv] = [.str r.name, .str r.start, .str r.goal, .int r.minutes, .ref w2, hv] := rfl
          rw [eap]
          generalize L2.upd H8 w4 (.tup [.str r.name, .str r.start, .str r.goal, .int r.minutes, .ref w2, hv]) = H9 at gw4 hw4 hw2'' g59 g49 ⊢
          have hL9 := g59.lst g5.tab hL5
          have hR9 : Paired (RoadAt K H9) rs1 ys := Paired.map' hR4 fun _ _ m => m.grew g49 g4.tab
          have hq9 := g49.lst g4.tab hq4
          have kp : Kept r ⟨r.name, r.start, r.goal, r.minutes, us, r.hours⟩ := ⟨rfl, rfl, rfl, rfl, rfl, pm2, asc2⟩
          have at9 : RoadAt K H9 ⟨r.name, r.start, r.goal, r.minutes, us, r.hours⟩ (.ref w4) := ⟨w4, w2, hv, rfl, hw4, hw2'', hg5.keep (KeepT.grew g59 g5.tab)⟩
          have ly := Paired.len hR9
          have lk := Paired.len hK4
          have ll : l.length ≤ 60 := by
            have := congrArg List.length hc'
            rw [List.length_map, List.length_take] at this
            omega
          have nt9 : ∀ xs, H9 L ≠ some (.tup xs) := fun xs z => by rw [hL9] at z; cases z
          refine ⟨L, _, _, rfl, rfl, hL9, by rw [sizeLine_eq]; omega, _, _, l ++ [r], rs1 ++ [⟨r.name, r.start, r.goal, r.minutes, us, r.hours⟩], ys ++ [.ref w4], rfl, (g4.trans g49).write hL9 (fun _ z => by cases z) nL, upd_same, Paired.snoc (Paired.map' hR9 fun _ _ m => m.upd nt9 (KeepT.lst hL9)) (at9.upd nt9 (KeepT.lst hL9)), Paired.snoc hK4 kp, fun r' hr' => ?_, by rw [upd_ne qL]; exact hq9, .inr ⟨?_, ?_⟩⟩
          · rcases List.mem_append.mp hr' with z | z
            · exact hl4 r' z
            · rw [List.mem_singleton.mp z]; exact List.mem_of_getElem? hr
          · rw [List.map_append, hc', List.take_succ, hnm, ← c]; rfl
          · rw [tk, c]; exact List.mem_append_right _ (List.mem_singleton.mpr rfl)
        · rintro σ H4 ⟨v2, v4, l, rs1, ys, rfl, g4, hL4, hR4, hK4, hl4, hq4, hc⟩
          rw [← hln, List.take_length] at hc
          refine ⟨_, _, _, l, rs1, ys, rfl, g4, hL4, hR4, hK4, hl4, hq4, hc.elim (fun h => absurd nmi h.2) fun h => h.1⟩
      · rintro σ H3 ⟨v2, v3, v4, l, rs1, ys, rfl, g3, hL3, hR3, hK3, hl3, hq3, hn3⟩
        rw [List.length_map, List.take_length] at hn3
        refine ⟨v2, v3, v4, rs1, ys, rfl, g3, hL3, hR3, keptAll_of hnd hl3 (by rw [hn3]; exact pm) hK3, ?_⟩
        have : Asc (rs1.map (·.name)) := by rw [paired_names hK3, hn3]; exact asc
        exact List.pairwise_map.mp this
    rintro σ H2 ⟨v2, v3, v4, rs', ys, rfl, g2, hL2, hR2, hK2, hA2⟩
    have hba2 := g2.lst hP hba
    have hbs2 : Paired (GBar H2) bs zs := Paired.map' hbs fun _ _ m => m.grew g2 hP
    have lz := Paired.len hbs
    have b40 := ok.b.len
    refine ⟨_, rfl, p, _, 4, .ref ba, rfl, rfl, SqT.of (g2.tup hP hp), rfl, ba, rfl, ⟨_, SqL.of hba2⟩, fun D nD => lc_list (K := K) (a := ba) (xs := zs) (fun i H' => Grew P H2 H' ∧ H' D = some (.lst (zs.take i)))
      ⟨Grew.new g2.tab nD, upd_same⟩ (fun i H' _ z => SqL.of (z.1.lst g2.tab hba2)) (fun i x H' hx z => ?_) (fun H' z => ?_)⟩
    · obtain ⟨g, hD⟩ := z
      obtain ⟨b, hb, t, rfl, hT⟩ := Paired.at hbs2 hx
      refine ⟨rfl, _, rfl, t, _, rfl, .inr ⟨SqT.of (g.tup g2.tab hT), _, hD, ?_, g.write hD (fun _ z => by cases z) nD, ?_⟩⟩
      · rw [List.length_take, sizeLine_eq]; omega
      · rw [upd_same, List.take_succ, hx]; rfl
    obtain ⟨g, hD⟩ := z
    rw [List.take_length] at hD
    have hG1 : Paired (GBar H') bs zs := Paired.map' hbs2 fun b v m => m.grew g g2.tab
    refine ⟨D, zs, barAt H', rfl, SqL.of hD, fun x hx => ?_, fun zs' l hpm hso hl => ⟨l, _, rfl, .inl ⟨SqL.of upd_same, fun p2 hp2 => ?_⟩⟩⟩
    · obtain ⟨b, _, m⟩ := Paired.mem hG1 hx
      have nm := m.at
      obtain ⟨t, e, q⟩ := m
      exact ⟨t, e, by rw [nm]; exact SqT.of q⟩
    obtain ⟨bs', pm, hr'⟩ := Paired.perm hpm hG1
    have gl := Grew.new g.tab (o := .lst zs') hl
    have gp := gl.put (o := .tup zs') hp2
    have ascb : AscB bs' := Paired.pair (fun a b x y m m' e => by rw [m.at, m'.at] at e; exact e) hr' hso
    have hp2' : (L2.upd (L2.upd H' l (.lst zs')) p2 (.tup zs')) p2 = some (.tup zs') := upd_same
    have g2p := g.trans gp
    have hz3 : Paired (GBar (L2.upd (L2.upd H' l (.lst zs')) p2 (.tup zs'))) bs' zs' := Paired.map' hr' fun _ _ m => m.grew gp g.tab
    generalize L2.upd (L2.upd H' l (.lst zs')) p2 (.tup zs') = H3 at gp hp2' g2p hz3 ⊢
    have g3 := g2.trans g2p
    refine ⟨_, rfl, p, _, 0, .int d, rfl, rfl, SqT.of (g3.tup hP hp), rfl, _, rfl, p, _, 1, .ref pl, rfl, rfl, SqT.of (g3.tup hP hp), rfl, pl, ps, rfl, .inl (SqL.of (g3.lst hP hpl)), fun ps' q1 pm1 as1 nq1 => ⟨q1, _, rfl, .inl ⟨SqL.of upd_same, fun t1 nt1 => ?_⟩⟩⟩
    have h1 := (Grew.new g3.tab (o := .lst (ps'.map V.str)) nq1).put (o := .tup (ps'.map V.str)) nt1
    have ht1 : (L2.upd (L2.upd H3 q1 (.lst (ps'.map V.str))) t1 (.tup (ps'.map V.str))) t1 = some (.tup (ps'.map V.str)) := upd_same
    generalize L2.upd (L2.upd H3 q1 (.lst (ps'.map V.str))) t1 (.tup (ps'.map V.str)) = H4 at h1 ht1 ⊢
    have g4 := g3.trans h1
    refine ⟨_, rfl, p, _, 2, .ref ki, rfl, rfl, SqT.of (g4.tup hP hp), rfl, ki, ks, rfl, .inl (SqL.of (g4.lst hP hki)), fun ks' q2 pm2 as2 nq2 => ⟨q2, _, rfl, .inl ⟨SqL.of upd_same, fun t2 nt2 => ?_⟩⟩⟩
    have h2 := (Grew.new g4.tab (o := .lst (ks'.map V.str)) nq2).put (o := .tup (ks'.map V.str)) nt2
    have ht2 : (L2.upd (L2.upd H4 q2 (.lst (ks'.map V.str))) t2 (.tup (ks'.map V.str))) t2 = some (.tup (ks'.map V.str)) := upd_same
    generalize L2.upd (L2.upd H4 q2 (.lst (ks'.map V.str))) t2 (.tup (ks'.map V.str)) = H5 at h2 ht2 ⊢
    have g25 := g2p.trans (h1.trans h2)
    refine ⟨_, rfl, L, _, rfl, .inl ⟨SqL.of (g25.lst g2.tab hL2), fun t3 nt3 => ?_⟩⟩
    have h3 := Grew.new h2.tab (o := .tup ys) nt3
    have ht3 : (L2.upd H5 t3 (.tup ys)) t3 = some (.tup ys) := upd_same
    generalize L2.upd H5 t3 (.tup ys) = H6 at h3 ht3 ⊢
    refine ⟨_, rfl, (show 5 ≤ sizeLine by decide), fun w nw => ?_⟩
    have h4 := Grew.new h3.tab (o := .tup [.int d, .ref t1, .ref t2, .ref t3, .ref p2]) nw
    have h46 := h3.trans h4
    have h06 := g4.trans (h2.trans h3)
    refine kQ _ w ks' ps' rs' bs' (h06.trans h4) (h06.free nw) ⟨pm2, as2, pm1, as1, hK2, hA2, pm, ascb⟩ ⟨t1, t2, t3, p2, ys, zs', upd_same, (h2.trans h46).tup h1.tab ht1, h46.tup h2.tab ht2, h4.tup h3.tab ht3, Paired.map' hR2 fun _ _ m => m.grew (g25.trans h46) g2.tab, (h1.trans (h2.trans h46)).tup g2p.tab hp2', Paired.map' hz3 fun _ _ m => m.grew (h1.trans (h2.trans h46)) g2p.tab⟩
end
end W

set_option Elab.async false
set_option linter.all false
set_option maxRecDepth 100000
set_option maxHeartbeats 2000000
namespace W
open PySem PySem.Spec PyProof.Rows L2 GxR MyG MyS SqX
/-! ### a map that has the parts told -/
abbrev sLSame : Stmt := top 42
def spLSame (K : PySem.W.Frag) (M P : Addr) : Sp := fun vs H Q _ => ∃ (x p : Addr) (d : Int) (ks ps : List Str) (rs : List RoadD) (bs : List (Str × Str)), vs = [.ref x, .ref p] ∧ MapAt K H M x d ks ps rs bs ∧ FrozAt K H p d ks ps rs bs ∧ TxtP ks ps rs bs ∧ Q (.bl true) H
section
variable {Pg : Program} {w : World} {K : PySem.W.Frag} {mg : Str → Option Value} {base : Heap} {C P : Addr}
theorem scLS : FnScope ["chart", "due"] ["chart", "due"] (defScope sLSame) := ⟨rfl, rfl, rfl, by decide +kernel, rfl, by decide +kernel, by decide +kernel⟩
theorem ok_lsame {f M : Addr} {fd : FuncData} (F : Fun K "_law_same" "_law_same" sLSame f fd) (TM : TxtM K M) (his : mg "isinstance" = none) (hbo : mg "bool" = none) :
    FnOk Pg w K mg base CX0 1 f fd ["chart", "due"] (spLSame K M P) := by
  refine F.ok scLS (fun vs H Q E h => ?_) (fun cdv A outer s H vs Q E hr h => ?_)
  · obtain ⟨x, p, d, ks, ps, rs, bs, rfl, _⟩ := h
    rfl
  · obtain ⟨x, p, d, ks, ps, rs, bs, rfl, ⟨dx, fs, kk, pp, rr, D, bb, D2, ys, zs, hx, m⟩, ⟨pl, ki, ro, ba, xs, ws, hp, hpl, hki, hro, hrs, hba, hbs⟩, tx, kQ⟩ := h
    refine ⟨_, pss_cons (ps_if (PW.pt (pw_or (pt_val (pe_callB call_isi (by rfl) his (by decide +kernel) (pa_cons (pe_fld (pv 0) rfl) (pa_cons (pe_bltn (v := .ty "bool") (by rfl) hbo (by decide +kernel) rfl) pa_nil))))
        (pw_or (pt_cmpR op_ne (pe_fld (pv 0) rfl) (pe_ix (r := rIxT K) ix_tup (pv 1) pe_int (fun _ _ => rfl)) (nomark _))
        (pw_or (pt_cmpR (r := rNeD K) (op_neD hr.units) (pe_fld (pv 0) rfl) (pe_ix (r := rIxT K) ix_tup (pv 1) pe_int (fun _ _ => rfl)) (nomark _))
          (pw_or1 (pt_cmpR (r := rNeD K) (op_neD hr.units) (pe_fld (pv 0) rfl) (pe_ix (r := rIxT K) ix_tup (pv 1) pe_int (fun _ _ => rfl)) (nomark _))))))) (pss_one (ps_ret pe_bl)) pss_nil)
      (pss_one (ps_ret (pe_and (pe_cmpR (r := rEqD K) (op_eqD hr.units) (pe_fld (pv 0) rfl) (pe_ix (r := rIxT K) ix_tup (pv 1) pe_int (fun _ _ => rfl)) (nomark _)) (pe_one (pe_cmpR (r := rEqD K) (op_eqD hr.units) (pe_fld (pv 0) rfl) (pe_ix (r := rIxT K) ix_tup (pv 1) pe_int (fun _ _ => rfl)) (nomark _)))))), ?_⟩
    have lp := lay_strs tx.p
    have lk := lay_strs tx.k
    have lr := lay_roads tx.r
    have lb := lay_bars tx.b
    refine ⟨_, rfl, x, M, dx, fs, _, rfl, hx, TM.cl, TM.n1, m.f1, _, _, _, _, false, rfl, .ty "bool", .base (.int _), rfl, _, rfl, if_f rfl ?_⟩
    refine ⟨_, rfl, x, M, dx, fs, _, rfl, hx, TM.cl, TM.n1, m.f1, _, rfl, p, _, 0, .int d, rfl, rfl, SqT.of hp, rfl, rfl, _, rfl, if_f (by simp) ?_⟩
    refine ⟨_, rfl, x, M, dx, fs, _, rfl, hx, TM.cl, TM.n3, m.f3, _, rfl, p, _, 1, .ref pl, rfl, rfl, SqT.of hp, rfl, .tuple (ps.map .str), .tuple (ps.map .str), .tup (SqT.of m.p) (dpAll_strs ps), .tup (SqT.of hpl) (dpAll_strs ps), lp.shaped (by decide), lp.shaped (by decide), _, rfl, if_f (by rw [lp.refl]; rfl) ?_⟩
    refine ⟨_, rfl, x, M, dx, fs, _, rfl, hx, TM.cl, TM.n2, m.f2, _, rfl, p, _, 2, .ref ki, rfl, rfl, SqT.of hp, rfl, .tuple (ks.map .str), .tuple (ks.map .str), .tup (SqT.of m.k) (dpAll_strs ks), .tup (SqT.of hki) (dpAll_strs ks), lk.shaped (by decide), lk.shaped (by decide), _, rfl, if_f (by rw [lk.refl]; rfl) ?_⟩
    refine ⟨_, rfl, x, M, dx, fs, _, rfl, hx, TM.cl, TM.n4, m.f4, _, rfl, p, _, 3, .ref ro, rfl, rfl, SqT.of hp, rfl, .tuple (rs.map roadP), .tuple (rs.map roadP), .tup (SqT.of m.r) (dpAll_of (fun _ _ q => q.dp) m.ry), .tup (SqT.of hro) (dpAll_of (fun _ _ q => q.dp) hrs), lr.shaped (by decide), lr.shaped (by decide), _, rfl, ?_⟩
    rw [lr.refl]
    refine iteT ?_
    refine ⟨_, rfl, x, M, dx, fs, _, rfl, hx, TM.cl, TM.n6, m.f6, _, rfl, p, _, 4, .ref ba, rfl, rfl, SqT.of hp, rfl, .tuple (bs.map barP), .tuple (bs.map barP), .tup (SqT.of m.b) (dpAll_of (fun _ _ q => q.dp) m.bz), .tup (SqT.of hba) (dpAll_of (fun _ _ q => q.dp) hbs), lb.shaped (by decide), lb.shaped (by decide), ?_⟩
    rw [lb.refl]
    exact kQ
end
end W

set_option Elab.async false
set_option linter.all false
set_option maxRecDepth 100000
set_option maxHeartbeats 400000
namespace W
open PySem PySem.Spec PyProof.Rows L2 GxR MyG MyS
/-! ### Map.check_road, Map.road -/
abbrev sRoadM : Stmt := inClass (top 29) 2
abbrev sCheck : Stmt := inClass (top 29) 3
/-- an UnknownName with this name flies -/
def Unk (U : Addr) (H : Hp) (E : XK) (z : Str) : Prop := ∀ e, H e = none → E (.ref U) (some e) (L2.upd H e (.xd [("name", V.str z)]))
/-- UnknownName.__init__ -/
def spUInit (K : PySem.W.Frag) (U : Addr) : Sp := fun vs H Q _ => ∃ (a : Addr) (z : Str), vs = [.ref a, .str z] ∧ z.length ≤ 1000 ∧ H a = some (exo a U none) ∧ ∀ dx, H dx = none → dx ≠ a → Q .non (L2.upd (L2.upd H dx (exd dx [("name", V.str z)])) a (exo a U (some dx)))
def spCheck (K : PySem.W.Frag) (M U : Addr) : Sp := fun vs H Q E => ∃ (x : Addr) (z : Str) (d : Int) (ks ps : List Str) (rs : List RoadD) (bs : List (Str × Str)), vs = [.ref x, .str z] ∧ z.length ≤ 1000 ∧ MapAt K H M x d ks ps rs bs ∧
  ((∃ r ∈ rs, r.name = z) → Q .non H) ∧ ((∀ r ∈ rs, r.name ≠ z) → Unk U H E z)
def spRoadM (K : PySem.W.Frag) (M U : Addr) : Sp := fun vs H Q E => ∃ (x : Addr) (z : Str) (d : Int) (ks ps : List Str) (rs : List RoadD) (bs : List (Str × Str)), vs = [.ref x, .str z] ∧ z.length ≤ 1000 ∧ MapAt K H M x d ks ps rs bs ∧
  (∀ r ∈ rs, r.name = z → ∀ v, RoadAt K H r v → Q v H) ∧ ((∀ r ∈ rs, r.name ≠ z) → Unk U H E z)
theorem flown {H : Hp} {U a dx : Addr} {fs : List (Str × V)} (na : H a = none) (ndx : (L2.upd H a (exo a U none)) dx = none) : L2.upd (del (L2.upd (L2.upd (L2.upd H a (exo a U none)) dx (exd dx fs)) a (exo a U (some dx))) a) dx (.xd fs) = L2.upd H dx (.xd fs) := by
  funext b
  by_cases h1 : b = dx
  · subst h1; rw [upd_same, upd_same]
  · rw [upd_ne h1, upd_ne h1]
    by_cases h2 : b = a
    · subst h2; rw [del_same, na]
    · rw [del_ne h2, upd_ne h2, upd_ne h1, upd_ne h2]
section
variable {Pg : Program} {w : World} {K : PySem.W.Frag} {mg : Str → Option Value} {base : Heap} {C P : Addr}
theorem scCheck : FnScope ["self", "name"] ["self", "name"] (defScope sCheck) := ⟨rfl, rfl, rfl, by decide +kernel, rfl, by decide +kernel, by decide +kernel⟩
theorem ok_check {f M U fU : Addr} {fd fdU : FuncData} (F : Fun K "check_road" "Map.check_road" sCheck f fd) (TM : TxtM K M) (gU : mg "UnknownName" = some (.ref U)) (TU : OexC K U) (iU : PySem.W.findIn K (.ref U) "__init__" = some (some (.ref fU))) (tU : PySem.W.typeIn K (.ref fU) = some (.type "function"))
    (GU : FnOk Pg w K mg base CX0 1 fU fdU ["self", "name"] (spUInit K U)) (bU : Binds K fdU ["self", "name"] []) :
    FnOk Pg w K mg base (L2.CX Pg w) 3 f fd ["self", "name"] (spCheck K M U) := by
  refine F.okX scCheck (fun vs H Q E h => ?_) (fun cdv A outer s H vs Q E hr h => ?_)
  · obtain ⟨x, z, d, ks, ps, rs, bs, rfl, _⟩ := h
    rfl
  · obtain ⟨x, z, d, ks, ps, rs, bs, rfl, hz, hM, kQ, kE⟩ := h
    refine ⟨_, pss_one (ps_if (pt_cmp (pc_dnotin (u1 hr.units) (pv 1) (pe_fld (pv 0) rfl))) (pss_one (ps_raise rfl (takes_of rfl rfl rfl rfl) (pmk_oex TU iU tU GU (hr.mono (by decide)) bU .nil pass0 (by rfl) gU (pa_cons (pv 1) pa_nil)))) pss_nil), ?_⟩
    obtain ⟨dx, fs, kk, pp, rr, D, bb, D2, ys, zs, hx, F7⟩ := hM
    obtain ⟨kvs, hD, hin, hno⟩ := F7.d
    refine ⟨_, rfl, _, rfl, x, M, dx, fs, _, rfl, hx, TM.cl, TM.n5, F7.f5, D, _, rfl, DGet.k (k := .inr z) hD, _, rfl, ?_⟩
    by_cases ex : ∃ r ∈ rs, r.name = z
    · obtain ⟨r, hr1, hr2⟩ := ex
      obtain ⟨v, hv, _⟩ := hin r hr1
      rw [hr2] at hv
      rw [hv]
      exact iteF (kQ ⟨r, hr1, hr2⟩)
    · have no : ∀ r ∈ rs, r.name ≠ z := fun r hr e => ex ⟨r, hr, e⟩
      rw [hno z no]
      refine iteT ⟨_, rfl, by simp, fun a na => ⟨a, z, rfl, hz, upd_same, fun dx2 nd ne => ⟨rfl, dx2, [("name", .str z)], upd_same, ?_, ?_, ?_⟩⟩⟩
      · rw [upd_ne ne]; exact upd_same
      · rw [upd_ne ne] at nd; exact nd
      · rw [flown na nd]
        rw [upd_ne ne] at nd
        exact kE no dx2 nd
theorem scRoadM : FnScope ["self", "name"] ["self", "name"] (defScope sRoadM) := ⟨rfl, rfl, rfl, by decide +kernel, rfl, by decide +kernel, by decide +kernel⟩
theorem ok_roadM {f M U fC : Addr} {fd fdC : FuncData} (F : Fun K "road" "Map.road" sRoadM f fd) (TM : TxtM K M) (mC : Meth K M "check_road" fC)
    (GC : FnOk Pg w K mg base (L2.CX Pg w) 3 fC fdC ["self", "name"] (spCheck K M U)) (bC : Binds K fdC ["self", "name"] []) :
    FnOk Pg w K mg base (L2.CX Pg w) 4 f fd ["self", "name"] (spRoadM K M U) := by
  refine F.okX scRoadM (fun vs H Q E h => ?_) (fun cdv A outer s H vs Q E hr h => ?_)
  · obtain ⟨x, z, d, ks, ps, rs, bs, rfl, _⟩ := h
    rfl
  · obtain ⟨x, z, d, ks, ps, rs, bs, rfl, hz, hM, kQ, kE⟩ := h
    refine ⟨_, pss_cons (ps_expr (pe_meth (E := E) (pv 0) TM.cl mC GC hr bC .nil (passes_call (takes_of rfl rfl rfl rfl) (fun _ _ _ _ h => h)) (pa_cons (pv 1) pa_nil)))
      (pss_one (ps_ret (pe_dget (u1 hr.units) (pe_fld (pv 0) rfl) (pv 1) (fun _ _ => rfl)))), ?_⟩
    have hM2 := hM
    obtain ⟨dx, fs, kk, pp, rr, D, bb, D2, ys, zs, hx, F7⟩ := hM
    obtain ⟨kvs, hD, hin, hno⟩ := F7.d
    refine ⟨_, rfl, x, dx, fs, rfl, hx, F7.f0 _ (by decide +kernel), _, rfl, x, z, d, ks, ps, rs, bs, rfl, hz, hM2, fun ⟨r, hr1, hr2⟩ => ?_, kE⟩
    obtain ⟨v, hv, m⟩ := hin r hr1
    rw [hr2] at hv
    refine ⟨_, rfl, x, M, dx, fs, _, rfl, hx, TM.cl, TM.n5, F7.f5, _, rfl, D, v, rfl, ?_, kQ r hr1 hr2 v m⟩
    rw [← hv]
    exact DGet.k (k := .inr z) hD
end
end W

set_option Elab.async false
set_option linter.all false
set_option maxRecDepth 100000
set_option maxHeartbeats 800000
namespace MyR
open PySem PySem.Spec PyProof.Rows L2
/-! ### repr of data, where no repr is under way -/
def rRep (K : PySem.W.Frag) : List V → Hp → VK → Prop := fun xs H Q => ∃ (a : Addr) (d : PyData), xs = [.ref a] ∧ Dp K H (.ref a) d ∧ d.showable = true ∧ d.hasDict = false ∧ d.depth ≤ 8 ∧ d.shown.length ≤ sizeLine ∧ Q (.str d.shown) H
theorem call_repD {X : Cx} (hg : X.A.guards = some []) (hu : X.A.units + 64 < cLine) : CallR X (.builtin "repr") (rRep X.K) := by
  intro pins s σ H xs us Q I r h
  obtain ⟨a, d, rfl, hd, hs, hn, hp, hz, q⟩ := h
  obtain ⟨u, rfl, r1⟩ := vals1 r
  obtain rfl : u = Value.ref a := r1
  obtain ⟨as, rd⟩ := Dp.reads I d _ _ hd rfl
  exact repr_of_reads' rd hs (fun e => by rw [hn] at e; cases e) hg (by omega) (fun _ _ e => e) (fun h' u tk k => ⟨.str _, H, I.kept k, ⟨u, rfl⟩, q⟩) hz
end MyR

set_option Elab.async false
set_option linter.all false
set_option maxRecDepth 100000
set_option maxHeartbeats 2000000
namespace MyR
open PySem PySem.Spec PyProof.Rows L2
/-! ### the law's own call: here, and only here, it is known that no repr is under way -/
/-- f called by the caller of the law keeps sp -/
def RunG (P : Program) (w : World) (K : PySem.W.Frag) (mg : Str → Option Value) (base : Heap) (CX : CXT) (f : Addr) (sp : Sp) : Prop :=
  ∀ (s : Shared) (H : Hp) (a : Addr) (Q : VK) (E : XK), Env0 P w K mg base callerA [] s H → sp [.ref a] H Q E → codeAny (model P w) callerA (.call (.ref f) ⟨[.ref a], []⟩) (CR CX [] P w H s Q E) s
section
variable {P : Program} {w : World} {K : PySem.W.Frag} {mg : Str → Option Value} {base : Heap}
theorem runG_of {CX : CXT} {f : Addr} {name qual x : Str} {params : Arguments} {body : List Stmt} {scope : Scope} {dV kV doc pm cdv ct oc : Value} {an od : Option Addr} {osl : Array (Option Value)} {N : List Str} {sp : Sp}
    (lk : K.lookup f = some ⟨oc, od, .func (PySem.W.fnOf name qual params body scope dV kV doc pm an cdv ct), osl⟩) (hcd : PySem.W.codeIn K cdv qual = true) (S : FnScope N [x] scope)
    (hb : ∀ (s : Shared) (u : Value), BindsTo s (PySem.W.fnOf name qual params body scope dV kV doc pm an cdv ct) ⟨[u], []⟩ [(x, u)]) (hr : Room 8 callerA)
    (hbody : ∀ (s : Shared) (H : Hp) (a : Addr) (Q : VK) (E : XK), sp [.ref a] H Q E → ∃ t, PSs (cxOf CX P w K mg base N qual scope f cdv callerA [] s H E) body t ∧ t { nx := fun _ H' => Q .non H', rt := Q } (start N [.ref a]) H) :
    RunG P w K mg base CX f sp := fun s H a Q E e0 hsp => by
  have up : ∀ b o, base.get? b = some o → s.heap.get? b = some o := fun b o e => (e0.bs b o e).1
  have KX : K.In s.heap := e0.mod.kin.keeps up
  have hx : scope.names.lookup x = some .local ∨ (scope.names.lookup x = some .cell ∧ ((cellsFrom (s.heap.objs.size + 1) scope.names []).lookup x).isSome = true) :=
    (S.par x (List.mem_singleton.mpr rfl)).imp id fun q => ⟨q, PySem.W.cellsFrom_some _ _ _ (.inl q)⟩
  refine codeAny_call_function hr.depth (KX _ _ lk) rfl S.co S.gen rfl (PySem.W.codeRec_of KX hcd) (hb s (.ref a) _ _ _ _ ?_)
  refine wpAny_newFunctionEnv_cells S.kind (fun y hy => by rw [List.mem_singleton.mp hy]; exact hx) fun env he s1 st => ?_
  subst he
  refine ⟨(e0.mod.nolimit.keeps up).keeps st.toInCall.keep, codeAny_func ?_⟩
  obtain ⟨t, ht, hq⟩ := hbody s H a Q E hsp
  have I : Inv (cxOf CX P w K mg base N qual scope f cdv callerA [] s H E) [] (start N [.ref a]) H s1 := inv_start S hr.hd e0 rfl (.cons rfl .nil) st
  have out : ∀ {σ2 : L2.St} {H2 : Hp} {s2 : Shared} {v : V} {u : Value}, Inv (cxOf CX P w K mg base N qual scope f cdv callerA [] s H E) [] σ2 H2 s2 → RelV v u → Q v H2 → CE [] P w H s Q u s2 :=
    fun {σ2 H2 s2 v u} J rv q => ⟨v, H2, J.os, J.bare, J.base, J.hok, rv, q⟩
  refine wpAny_mono (ht.run [] s1 _ H _ I hq) (fun fl s2 hs => ?_) fun _ _ z => z
  match fl, hs with
  | .ret u, ⟨v, σ2, H2, J, rv, q⟩ => exact out J rv q
  | .next, ⟨σ2, H2, J, q⟩ => exact out (v := V.non) (u := Value.none) J rfl q
  | .brk, ⟨_, _, _, z⟩ => exact z.elim
  | .cont, ⟨_, _, _, z⟩ => exact z.elim
/-- what is tracked at the top: the one table, and the script where it is not written down -/
def topH (K : PySem.W.Frag) (T a : Addr) (o : Obj) (xs : List V) : Hp := fun b => if b = T then some (.tbl #[]) else if b = a ∧ K.lookup a = none then some (.frz o (.lst xs)) else none
theorem topH_cases {T a b : Addr} {o : Obj} {xs : List V} {u : HO} (h : topH K T a o xs b = some u) : (b = T ∧ u = .tbl #[]) ∨ (b ≠ T ∧ b = a ∧ K.lookup a = none ∧ u = .frz o (.lst xs)) := by
  unfold topH at h
  by_cases h1 : b = T
  · rw [if_pos h1] at h
    exact .inl ⟨h1, (Option.some.inj h).symm⟩
  · rw [if_neg h1] at h
    by_cases h2 : b = a ∧ K.lookup a = none
    · rw [if_pos h2] at h
      exact .inr ⟨h1, h2.1, h2.2, (Option.some.inj h).symm⟩
    · rw [if_neg h2] at h
      cases h
theorem top_call {mb : Str → Option Value} {CX : CXT} {f a c T : Addr} {sp : Sp} {s : Shared} {vs : List Value} {ns : List Int} (KX : K.In s.heap) (G : s.heap.Ns mainGlobals mg) (B : s.heap.Ns builtinsNs mb) (hB : ∀ x : Str, x ≠ "__name__" → mb x = bootBuiltins x) (lim : s.heap.NoLimit) (ng : s.gens = #[])
    (eT : s.heap.get? T = some { cls := .none, data := .fields #[] }) (nT : K.lookup T = none) (C : PySem.W.CodeHd s.heap c T)
    (hbm : ∃ (bm : Addr) (ob : Obj), mg "__builtins__" = some (.ref bm) ∧ bm ≠ builtinsNs ∧ s.heap.get? bm = some ob ∧ ob.cls = .type "module" ∧ ob.dict = some builtinsNs ∧ ob.data = .plain)
    (ea : s.heap.get? a = some { cls := .type "list", data := .seq vs.toArray }) (hi : IntsAre vs ns) (hl : ns.length ≤ sizeLine)
    (R : ∀ base : Heap, K.In base → base.Ns mainGlobals mg → LamX.TabB base mg c T → RunG P w K mg base CX f sp)
    (hsp : ∀ H : Hp, H T = some (.tbl #[]) → SqL K H a (ns.map V.int) → sp [.ref a] H (fun v _ => v = .bl true) fun _ _ _ => False)
    (no : ∀ H e s', CX [] H s (fun _ _ _ => False) e s' → False) :
    codeAny (model P w) callerA (.call (.ref f) ⟨[.ref a], []⟩) (fun r s' => r = .ok (.ret (.bool true)) ∧ OldK s.heap s'.heap ∧ s'.os = s.os ∧ AllBare s'.gens) s := by
  have rv := vals_ints hi
  have nz : a ≠ T := fun z => by
    rw [z, eT] at ea
    cases ea
  obtain ⟨H, eH⟩ : ∃ H, H = topH K T a { cls := .type "list", data := .seq vs.toArray } (ns.map V.int) := ⟨_, rfl⟩
  have tr : ∀ {b : Addr} {u : HO}, H b = some u → _ := fun {b u} h => topH_cases (by rw [eH] at h; exact h)
  have HT : H T = some (.tbl #[]) := by
    rw [eH]
    exact if_pos rfl
  have hS : SqL K H a (ns.map V.int) := by
    cases q : K.lookup a with
    | none => exact .inl (.inr ⟨_, by rw [eH]; exact (if_neg nz).trans (if_pos ⟨rfl, q⟩)⟩)
    | some o =>
      have e := KX a o q
      rw [ea] at e
      cases e
      exact .inr ⟨_, vs.toArray, _, q, rfl, rfl, rfl, by rw [List.size_toArray, hi.length]; exact hl, by simpa using rv⟩
  have ok : HOk P w H s.heap := fun b u h => by
    rcases tr h with ⟨rfl, rfl⟩ | ⟨_, rfl, _, rfl⟩
    · exact eT
    · exact ⟨ea, by rw [List.length_map]; exact hl, vs, _, rv, ea⟩
  have gone : ∀ {b : Addr} {o : Obj}, s.heap.get? b = some o → (∀ xs n, o.data ≠ .seq xs n) → o.data ≠ .fields #[] → H b = none := fun {b o} e d1 d2 => by
    cases h : H b with
    | none => rfl
    | some u =>
      rcases tr h with ⟨rfl, _⟩ | ⟨_, rfl, _, _⟩
      · rw [eT] at e
        cases e
        exact (d2 rfl).elim
      · rw [ea] at e
        cases e
        exact (d1 _ _ rfl).elim
  have toB : ∀ {b : Addr} {m : Str → Option Value}, s.heap.Ns b m → (hidT s.heap H).Ns b m := fun {b m} ⟨o, es, ep, e, d, r⟩ =>
    ⟨o, es, ep, hidT_get e (gone e (fun xs n z => by rw [d] at z; cases z) (fun z => by rw [d] at z; cases z)), d, r⟩
  have KB : K.In (hidT s.heap H) := fun b o e => hidT_get (KX b o e) (by
    cases h : H b with
    | none => rfl
    | some u =>
      rcases tr h with ⟨rfl, _⟩ | ⟨_, rfl, k, _⟩
      · rw [nT] at e; cases e
      · rw [k] at e; cases e)
  have TB : LamX.TabB (hidT s.heap H) mg c T := by
    refine ⟨?_, ?_, fun z => ?_⟩
    · obtain ⟨o, us, file, tf, flags, tg, inF, text, tt, e1, r1, r2, r3, r⟩ := C
      exact ⟨o, us, file, tf, flags, tg, inF, text, tt, hidT_get e1 (gone e1 (fun xs n z => by rw [r2] at z; cases z) (fun z => by rw [r2] at z; cases z; simp at r3)), r1, r2, r3, r⟩
    · obtain ⟨bm, ob, b1, b2, b3, b4, b5, b6⟩ := hbm
      refine ⟨bm, ob, b1, b2, fun z => ?_, fun z => ?_, hidT_get b3 (gone b3 (fun xs n z => by rw [b6] at z; cases z) (fun z => by rw [b6] at z; cases z)), b4, b5, b6⟩
      · obtain ⟨o, es, ep, e, d, _⟩ := G
        rw [z, e] at b3
        cases b3
        rw [d] at b6
        cases b6
      · rw [z, eT] at b3
        cases b3
        cases b6
    · obtain ⟨o, es, ep, e, d, _⟩ := G
      rw [z, eT] at e
      cases e
      cases d
  have e0 : Env0 P w K mg (hidT s.heap H) callerA [] s H :=
    ⟨rfl, ⟨KB, toB G, ⟨mb, toB B, hB⟩, let ⟨mc, h1, h2⟩ := lim; ⟨mc, toB h1, h2⟩⟩, fun b o e => of_hidT e, Nat.le_of_eq (hidT_size _ _), trivial, fun b hb => absurd (show b ∈ ([] : List Addr) from hb) (by simp), ok, .of_eq ng⟩
  refine codeAny_mono (R _ KB (toB G) TB s H a _ _ e0 (hsp H HT hS)) fun r s' h => ?_
  match r, h with
  | .error e, h => exact (no H e s' h).elim
  | .ok .next, h => exact False.elim h
  | .ok .brk, h => exact False.elim h
  | .ok .cont, h => exact False.elim h
  | .ok (.ret u), ⟨v, H', os, bare, un, ok', r', q⟩ =>
    obtain rfl : v = .bl true := q
    obtain rfl : u = Value.bool true := r'
    obtain ⟨more, hm⟩ : ∃ more : Array Value, s'.heap.get? T = some { cls := .none, data := .fields more } := by
      obtain ⟨more, z⟩ := un.tbls T #[] HT
      exact ⟨_, ok' T _ z⟩
    have old : ∀ b o, b ≠ T → s.heap.get? b = some o → s'.heap.get? b = some o := fun b o ne e => by
      cases h : H b with
      | none => exact un.keep b o e h (fun z => absurd (show b ∈ ([] : List Addr) from z) (by simp)) (by simp)
      | some u =>
        rcases tr h with ⟨z, _⟩ | ⟨_, rfl, _, rfl⟩
        · exact absurd z ne
        · obtain ⟨e2, _⟩ := ok' b _ (un.frzs b _ _ h)
          rw [ea] at e
          cases e
          exact e2
    refine ⟨rfl, ⟨fun b o e => ?_, fun b o e => ?_⟩, os, bare⟩
    · by_cases hb : b = T
      · subst hb
        rw [eT] at e
        cases e
        exact .inr (.inl ⟨(C.tab eT).isCodeTable, rfl, #[], more, rfl, by rw [Array.empty_append]; exact hm⟩)
      · exact .inl (old b o hb e)
    · by_cases hb : b = T
      · rw [hb]
        exact ⟨_, hm⟩
      · exact ⟨o, old b o hb e⟩
end

/-- what the law's end asks: the table T of the code object c, and the promise sp -/
def LawG (l : PySem.W.OpenLaw) (w : World) (K : PySem.W.Frag) (CX : CXT) (n : Nat) (mg : Str → Option Value) (fa : Addr) (h : Heap) : Prop :=
  ∃ (c T : Addr) (sp : Sp), h.get? T = some { cls := .none, data := .fields #[] } ∧ K.lookup T = none ∧ PySem.W.CodeHd h c T ∧
    (∀ (H : Hp) (a : Addr) (ns : List Int), ns.length ≤ n → H T = some (.tbl #[]) → SqL K H a (ns.map V.int) → sp [.ref a] H (fun v _ => v = .bl true) fun _ _ _ => False) ∧
    ∀ base : Heap, K.In base → base.Ns mainGlobals mg → LamX.TabB base mg c T → RunG l.prog w K mg base CX fa sp
theorem walk_ofG {l : PySem.W.OpenLaw} {n : Nat} {q : Program} {loose : List Str} {XP : (Str → Option Value) → Heap → Prop} {YP : World → Heap → Prop} {d : DefRec} {K : Params → PySem.W.Frag} {CX : World → CXT} (names : List Str)
    (hn : l.most = some n) (hn2 : n ≤ sizeLine) (hdf : d.params.defaults = []) (hrec : names.all (fun y => (recsOf q).any fun e => e.name == y) = true) (hY : ∀ (w : World) (h : Heap), YP w h → (K w.params).In h)
    (F : ∀ (w : World) (mg : Str → Option Value) (fa : Addr) (h : Heap), YP w h → (K w.params).In h → h.Ns mainGlobals mg → mg d.name = some (.ref fa) → (∀ y ∈ names, ∀ f, mg y = some (.ref f) → LamX.OwnTab (K w.params) f h) → LawG l w (K w.params) (CX w) n mg fa h)
    (no : ∀ (w : World) (H : Hp) (s : Shared) (e : Value) (s' : Shared), CX w [] H s (fun _ _ _ => False) e s' → False) :
    PySem.W.WalkO q loose XP YP l.row.toRowW d [] (fun f vs => PySem.call f vs) := by
  refine Att.attach_callB hn hdf fun w s₀ s₁ mg mb fa o pm cd doc a vs ns G Y ho hd hcd hmg hobj hints hlen hbits hg => ?_
  have KX := hY w _ Y
  obtain ⟨c, T, sp, eT, nT, C, hsp, R⟩ := F w mg fa _ Y KX G.T.g hmg (fun y hy f hf c P o1 fd1 e dd vs1 sl k1 k2 k3 k4 k5 => by
    obtain ⟨dL, hm, hn1⟩ := List.any_eq_true.mp (List.all_eq_true.mp hrec y hy)
    obtain ⟨a', o', fd', c', P', h1, h2, h3, h4, h5, h6⟩ := G.T.tab dL hm
    rw [beq_iff_eq.mp hn1, hf] at h1
    cases h1
    have g1 := KX _ _ k1
    rw [g1] at h2
    cases h2
    rw [k2] at h3
    cases h3
    rw [k3] at h4
    cases h4
    obtain ⟨⟨oc, vc, e1, _, e3, e4⟩, hP⟩ := h6
    have g2 := KX _ _ k4
    rw [g2] at e1
    cases e1
    cases e3
    rw [k5] at e4
    cases e4
    exact hP)
  exact top_call KX G.T.g G.T.b G.T.builtins G.T.nolimit hg eT nT C G.T.bmain hobj hints (Nat.le_trans hlen hn2) R (fun H hH hS => hsp H a ns hlen hH hS) fun H e s' => no w H s₁ e s'
end MyR

set_option Elab.async false
set_option linter.all false
set_option maxRecDepth 100000
set_option maxHeartbeats 800000
namespace W
open PySem PySem.Spec PyProof.Rows L2 GxR MyG MyS
/-! ### isinstance of a caught error with fields -/
structure ExcD (K : PySem.W.Frag) (D : Addr) : Prop where
  cl : (PySem.W.clsIn K D).isSome = true
  hg : PySem.W.findIn K (.ref D) "__getattribute__" = some (some (.builtin "BaseException.__getattribute__"))
  hk : PySem.W.findIn K (.ref D) "__getattr__" = some none
  hs : PySem.W.subIn K (.ref D) (.type "BaseException") = some true
  ha : PySem.W.findIn K (.ref D) "__class__" = some (some (.builtin "object.__class__"))
  hn : PySem.W.specialIn K (.builtin "object.__class__") "__get__" = some (some (.builtin "getset_descriptor.__get__"))
  ht : PySem.W.takesIn K (.builtin "object.__class__") = some true
  hm : PySem.W.mroIn K D (.type "object") = some true
def rIsD (K : PySem.W.Frag) (D a : Addr) (cls : Value) (d : Option Addr) : List V → Hp → VK → Prop := fun xs H Q => ∃ (c : V) (cv : Value) (dd : Addr) (fs : List (Str × V)) (b : Bool), xs = [.ref a, c] ∧ cls = .ref D ∧ d = some dd ∧ (∀ u, RelV c u → u = cv) ∧ H dd = some (.xd fs) ∧ PySem.W.kitOne K (.ref D) cv = some b ∧ Q (.bl b) H
theorem call_isD {X : Cx} {a D : Addr} {cls : Value} {d : Option Addr} {oe : Obj} {pn : List (Addr × Obj)} (C : ExcD X.K D) (hz : Zc cls d oe) (hf : ∃ vs, oe.data = .fields vs) : CallR (X.suite a ((a, oe) :: pn)) (.builtin "isinstance") (rIsD X.K D a cls d) := by
  intro pins s σ H xs us Q I r h
  obtain ⟨c, cv, dd, fs, b, rfl, rfl, rfl, hcv, ed, e, q⟩ := h
  obtain ⟨u1, u2, rfl, r1, r2⟩ := vals2 r
  obtain rfl : u1 = Value.ref a := r1
  obtain rfl : u2 = cv := hcv _ r2
  obtain ⟨hget, _⟩ := I.pin (a, oe) (List.mem_append.mpr (.inl List.mem_cons_self))
  obtain ⟨vs, hd⟩ := hf
  have hx : ObjOk X.prog X.w H s.heap dd (.xd fs) := I.hok dd _ ed
  obtain ⟨mA, hns, hr⟩ := hx
  obtain ⟨od, ho, hl⟩ := lookIn_ns hns
  have J : PySem.W.InstAt s.heap a oe D (some od) := ⟨hget, hz.1, by unfold PySem.W.notCls; rw [hd] <;> rfl, by rw [hz.2]; exact ho⟩
  exact PySem.W.kia_one (PySem.W.kitx_exc C.cl C.hg C.hk C.hs C.ha C.hn C.ht C.hm) I.kIn J e (fun z => nomatch z) fun tk => ⟨.bl b, H, I.kept (t' := tk) fun _ _ z => z, rfl, q⟩
/-! ### super().__init__(..) of an own error: the bound __init__ called -/
section
variable {prog : Program} {w : World} {A : Around} {E : Value → Shared → Prop} {h : Heap} {g : Array GenState} {d : Drawn} {t : Nat} {os : OsState}
variable {nm q : Str} {C N : Addr} {bs bm bmB : List Value} {hdct : Bool} {sn : List Str} {sub : List Value} {ab : Bool} {col : Option Bool} {dd : Option Addr} {k0 k1 k2 k3 k5 : Option Value} {newId initId : String} {B : String}
theorem call_mw (FB : ExcBaseFacts B newId initId bmB) {u a t0 : Addr} {rest : List Value} {Q : Value → Shared → Prop} (hu : h.get? u = some (PySem.W.kxs_mw initId a)) (hC : h.get? C = some (excClassObj nm q C N bs bm hdct sn sub ab col dd k0 k1 k2 k3 k5 newId)) (he : h.get? a = some (PySem.HandSPX.excO C t0)) (hz : rest.length ≤ sizeLine)
    (hq : ∀ h' t1, (∀ b o, b ≠ a → h.get? b = some o → h'.get? b = some o) → h'.get? a = some (PySem.HandSPX.excO C t1) → Q .none ⟨h', g, d, t, os⟩) :
    wpAny (model prog w) A (call (.ref u) rest) Q E ⟨h, g, d, t, os⟩ := by
  refine wpAny_call (codeAny_of_tree ?_)
  show wpAny _ A.in1 (callAny (.ref u) ⟨rest, []⟩) _ _ _
  simp only [callAny]
  refine wpAny_bind (wpAny_load hu ?_)
  simp only [PySem.W.kxs_mw, show (Value.type "method-wrapper" == Value.type "method" || Value.type "method-wrapper" == Value.type "builtin_function_or_method" || Value.type "method-wrapper" == Value.type "method-wrapper") = true by decide, if_true]
  refine PySem.W.KFB.if_so (by decide) ?_
  refine wpAny_bind (PySem.W.check_bound_init FB.toExcCallFacts hC he rfl ?_)
  refine wpAny_bind (wpAny_pure (wpAny_pure ?_))
  refine ⟨plainId_quiet FB.init.plain _, codeAny_builtin FB.initEntry ?_⟩
  exact PySem.W.exc_init_tree (cls := .ref C) (t0 := t0) (dv := none) (c2 := .none) (c3 := .none) (b4 := .bool false) he hz fun h' k e1 _ => hq h' _ k e1
end
end W

set_option Elab.async false
set_option linter.all false
set_option maxRecDepth 100000
set_option maxHeartbeats 1000000
namespace W
open PySem PySem.Spec PyProof.Rows L2 GxR MyG MyS SqX
/-! ### the questions of a map: answered, or UnknownName -/
abbrev sCheckP : Stmt := inClass (top 29) 4
abbrev sCheckK : Stmt := inClass (top 29) 5
abbrev sRFrom : Stmt := inClass (top 29) 6
abbrev sRTo : Stmt := inClass (top 29) 7
abbrev sBarred : Stmt := inClass (top 29) 8
abbrev sMayF : Stmt := inClass (top 29) 9
abbrev sFoll : Stmt := inClass (top 29) 10
abbrev sMayU : Stmt := inClass (top 29) 11
theorem pe_fldK {X : Cx} {e : Expr} {f : Str} {pos : Pos} {ta : TE} {K : PySem.W.Frag} (hK : X.K = K) (he : PE X e ta) (hb : attributeBase e f X.env (eval e X.env) = eval e X.env) : PE X (.Attribute e f pos) (tFld K ta f) := by
  subst hK
  exact pe_fld he hb
theorem MapAt.grew {K : PySem.W.Frag} {H H' : Hp} {M x P : Addr} {d : Int} {ks ps : List Str} {rs : List RoadD} {bs : List (Str × Str)} (g : Grew P H H') (h : TabG H P) (m : MapAt K H M x d ks ps rs bs) : MapAt K H' M x d ks ps rs bs := by
  obtain ⟨dx, fs, kk, pp, rr, D, bb, D2, ys, zs, hx, F⟩ := m
  obtain ⟨kvs, hd, hin⟩ := F.db
  exact ⟨dx, fs, kk, pp, rr, D, bb, D2, ys, zs, g.get h hx (fun _ z => by cases z), ⟨F.f0, F.f1, F.f2, F.f3, F.f4, F.f5, F.f6, F.f7, g.tup h F.k, g.tup h F.p, g.tup h F.r, Paired.map' F.ry (fun _ _ m => m.grew g h), F.d.grew g h, g.tup h F.b, Paired.map' F.bz (fun _ _ m => m.grew g h), ⟨kvs, g.get h hd (fun _ z => by cases z), hin⟩⟩⟩
def namesV (rs : List RoadD) : List V := (rs.map (·.name)).map V.str
theorem filter_take {α : Type} {p : α → Bool} {l : List α} {i : Nat} {a : α} (h : l[i]? = some a) : (l.take (i + 1)).filter p = if p a = true then (l.take i).filter p ++ [a] else (l.take i).filter p := by
  rw [List.take_succ, h, List.filter_append]
  by_cases c : p a = true
  · rw [if_pos c]
    simp [c]
  · rw [if_neg c]
    simp [c]
theorem namesV_app (a b : List RoadD) : namesV (a ++ b) = namesV a ++ namesV b := by
  unfold namesV
  rw [List.map_append, List.map_append]
theorem namesV_len (a : List RoadD) : (namesV a).length ≤ a.length := by
  unfold namesV
  rw [List.length_map, List.length_map]
  exact Nat.le_refl _
def Known (rs : List RoadD) (z : Str) : Prop := ∃ r ∈ rs, r.name = z
theorem unknown {rs : List RoadD} {z : Str} (h : ¬ Known rs z) : ∀ r ∈ rs, r.name ≠ z := fun r hr e => h ⟨r, hr, e⟩
structure MIn (K : PySem.W.Frag) (H : Hp) (M P x : Addr) (d : Int) (ks ps : List Str) (rs : List RoadD) (bs : List (Str × Str)) : Prop where
  m : MapAt K H M x d ks ps rs bs
  t : TabG H P
  ok : PartsOk d ks ps rs bs
theorem MIn.nd {K : PySem.W.Frag} {H : Hp} {M P x : Addr} {d : Int} {ks ps : List Str} {rs : List RoadD} {bs : List (Str × Str)} (h : MIn K H M P x d ks ps rs bs) : (rs.map (·.name)).Nodup := h.ok.r.nd
theorem MIn.l60 {K : PySem.W.Frag} {H : Hp} {M P x : Addr} {d : Int} {ks ps : List Str} {rs : List RoadD} {bs : List (Str × Str)} (h : MIn K H M P x d ks ps rs bs) : rs.length ≤ 60 := h.ok.r.len
theorem MIn.nl {K : PySem.W.Frag} {H : Hp} {M P x : Addr} {d : Int} {ks ps : List Str} {rs : List RoadD} {bs : List (Str × Str)} (h : MIn K H M P x d ks ps rs bs) : ∀ r ∈ rs, r.name.length ≤ 1000 := fun r hr => Nat.le_trans (isNm_len (List.all_eq_true.mp h.ok.r.nm _ (List.mem_map.mpr ⟨r, hr, rfl⟩))) (by decide)
theorem MIn.gl {K : PySem.W.Frag} {H : Hp} {M P x : Addr} {d : Int} {ks ps : List Str} {rs : List RoadD} {bs : List (Str × Str)} (h : MIn K H M P x d ks ps rs bs) : ∀ r ∈ rs, r.goal.length ≤ 1000 := fun r hr => Nat.le_trans (isNm_len (List.all_eq_true.mp h.ok.pn _ (h.ok.r.ok r hr).g)) (by decide)
theorem MIn.grew {K : PySem.W.Frag} {H H' : Hp} {M P x : Addr} {d : Int} {ks ps : List Str} {rs : List RoadD} {bs : List (Str × Str)} (h : MIn K H M P x d ks ps rs bs) (g : Grew P H H') : MIn K H' M P x d ks ps rs bs :=
  ⟨MapAt.grew g h.t h.m, g.tab, h.ok⟩
def spChkL (K : PySem.W.Frag) (M U : Addr) (f : List Str → List Str → List Str) : Sp := fun vs H Q E => ∃ (x : Addr) (z : Str) (d : Int) (ks ps : List Str) (rs : List RoadD) (bs : List (Str × Str)), vs = [.ref x, .str z] ∧ z.length ≤ 1000 ∧ MapAt K H M x d ks ps rs bs ∧
  (z ∈ f ks ps → Q .non H) ∧ (z ∉ f ks ps → Unk U H E z)
def selK (ks _ps : List Str) : List Str := ks
def selP (_ks ps : List Str) : List Str := ps
def spBarredB (K : PySem.W.Frag) (M U P : Addr) : Sp := fun vs H Q E => ∃ (x : Addr) (a b : Str) (d : Int) (ks ps : List Str) (rs : List RoadD) (bs : List (Str × Str)), vs = [.ref x, .str a, .str b] ∧ a.length ≤ 1000 ∧ b.length ≤ 1000 ∧ MIn K H M P x d ks ps rs bs ∧
  (Known rs a → Known rs b → ∀ H', Grew P H H' → Q (.bl (decide ((a, b) ∈ bs))) H') ∧ (¬ Known rs a → Unk U H E a) ∧ (Known rs a → ¬ Known rs b → Unk U H E b)
def spMayFB (K : PySem.W.Frag) (M U P : Addr) : Sp := fun vs H Q E => ∃ (x : Addr) (a b : Str) (d : Int) (ks ps : List Str) (rs : List RoadD) (bs : List (Str × Str)), vs = [.ref x, .str a, .str b] ∧ a.length ≤ 1000 ∧ b.length ≤ 1000 ∧ MIn K H M P x d ks ps rs bs ∧
  (∀ r1 ∈ rs, r1.name = a → ∀ r2 ∈ rs, r2.name = b → ∀ H', Grew P H H' → Q (.bl (decide (r1.goal = r2.start) && !decide ((a, b) ∈ bs))) H') ∧ (¬ Known rs a → Unk U H E a) ∧ (Known rs a → ¬ Known rs b → Unk U H E b)
def spMayUB (K : PySem.W.Frag) (M U P : Addr) : Sp := fun vs H Q E => ∃ (x : Addr) (a b : Str) (d : Int) (ks ps : List Str) (rs : List RoadD) (bs : List (Str × Str)), vs = [.ref x, .str a, .str b] ∧ a.length ≤ 1000 ∧ b.length ≤ 1000 ∧ MIn K H M P x d ks ps rs bs ∧
  (a ∈ ks → ∀ r ∈ rs, r.name = b → Q (.bl (decide (a ∈ r.users))) H) ∧ (a ∉ ks → Unk U H E a) ∧ (a ∈ ks → ¬ Known rs b → Unk U H E b)
def spPlaceB (K : PySem.W.Frag) (M U P : Addr) (f : RoadD → Str) : Sp := fun vs H Q E => ∃ (x : Addr) (z : Str) (d : Int) (ks ps : List Str) (rs : List RoadD) (bs : List (Str × Str)), vs = [.ref x, .str z] ∧ z.length ≤ 1000 ∧ MIn K H M P x d ks ps rs bs ∧
  (z ∈ ps → ∀ H' p, Grew P H H' → H p = none → H' p = some (.lst (namesV (rs.filter fun r => decide (f r = z)))) → Q (.ref p) H') ∧ (z ∉ ps → Unk U H E z)
def spFollB (K : PySem.W.Frag) (M U P : Addr) : Sp := fun vs H Q E => ∃ (x : Addr) (z : Str) (d : Int) (ks ps : List Str) (rs : List RoadD) (bs : List (Str × Str)), vs = [.ref x, .str z] ∧ z.length ≤ 1000 ∧ MIn K H M P x d ks ps rs bs ∧
  (∀ r0 ∈ rs, r0.name = z → ∀ H' p, Grew P H H' → H p = none → H' p = some (.lst (namesV (rs.filter fun r => decide (r.start = r0.goal) && !decide ((z, r.name) ∈ bs)))) → Q (.ref p) H') ∧ (¬ Known rs z → Unk U H E z)
section
variable {Pg : Program} {w : World} {K : PySem.W.Frag} {mg : Str → Option Value} {base : Heap} {C P : Addr}
theorem raise_end {H : Hp} {U a : Addr} {E : XK} {z : Str} (na : H a = none) (kE : Unk U H E z) :
    ∀ dx, (L2.upd H a (exo a U none)) dx = none → dx ≠ a → ∀ H2, H2 = L2.upd (del (L2.upd (L2.upd (L2.upd H a (exo a U none)) dx (exd dx [("name", V.str z)])) a (exo a U (some dx))) a) dx (.xd [("name", V.str z)]) → E (.ref U) (some dx) H2 := fun dx nd ne H2 e2 => by
  rw [e2, flown na nd]
  rw [upd_ne ne] at nd
  exact kE dx nd
theorem scCheckP : FnScope ["self", "place"] ["self", "place"] (defScope sCheckP) := ⟨rfl, rfl, rfl, by decide +kernel, rfl, by decide +kernel, by decide +kernel⟩
theorem ok_checkP {f M U fU : Addr} {fd fdU : FuncData} (F : Fun K "check_place" "Map.check_place" sCheckP f fd) (TM : TxtM K M) (gU : mg "UnknownName" = some (.ref U)) (TU : OexC K U) (iU : PySem.W.findIn K (.ref U) "__init__" = some (some (.ref fU))) (tU : PySem.W.typeIn K (.ref fU) = some (.type "function"))
    (GU : FnOk Pg w K mg base CX0 1 fU fdU ["self", "name"] (spUInit K U)) (bU : Binds K fdU ["self", "name"] []) :
    FnOk Pg w K mg base (L2.CX Pg w) 3 f fd ["self", "place"] (spChkL K M U selP) := by
  refine F.okX scCheckP (fun vs H Q E h => ?_) (fun cdv A outer s H vs Q E hr h => ?_)
  · obtain ⟨x, z, d, ks, ps, rs, bs, rfl, _⟩ := h
    rfl
  · obtain ⟨x, z, d, ks, ps, rs, bs, rfl, hz, hM, kQ, kE⟩ := h
    refine ⟨_, pss_one (ps_if (pt_cmpR op_notIn_seq (pv 1) (pe_fld (pv 0) rfl) (by rfl)) (pss_one (ps_raise rfl (takes_of rfl rfl rfl rfl) (pmk_oex TU iU tU GU (hr.mono (by decide)) bU .nil pass0 (by rfl) gU (pa_cons (pv 1) pa_nil)))) pss_nil), ?_⟩
    obtain ⟨dx, fs, kk, pp, rr, D, bb, D2, ys, zs, hx, F7⟩ := hM
    refine ⟨_, rfl, _, rfl, x, M, dx, fs, _, rfl, hx, TM.cl, TM.n3, F7.f3, pp, _, rfl, .inr (SqT.of F7.p), rfl, flat_strs _, _, rfl, ?_⟩
    by_cases hin : z ∈ ps
    · exact if_f (by simp [inV_dec, hin]) (kQ hin)
    · refine if_t (by simp [inV_dec, hin]) ⟨_, rfl, by simp, fun a na => ⟨a, z, rfl, hz, upd_same, fun dx2 nd ne => ⟨rfl, dx2, [("name", .str z)], upd_same, ?_, ?_, ?_⟩⟩⟩
      · rw [upd_ne ne]; exact upd_same
      · rw [upd_ne ne] at nd; exact nd
      · exact raise_end na (kE hin) dx2 nd ne _ rfl
theorem scBarred : FnScope ["self", "first", "second"] ["self", "first", "second"] (defScope sBarred) := ⟨rfl, rfl, rfl, by decide +kernel, rfl, by decide +kernel, by decide +kernel⟩
theorem ok_barred {f M U fC : Addr} {fd fdC : FuncData} (F : Fun K "is_barred" "Map.is_barred" sBarred f fd) (TM : TxtM K M) (mC : Meth K M "check_road" fC)
    (GC : FnOk Pg w K mg base (L2.CX Pg w) 3 fC fdC ["self", "name"] (spCheck K M U)) (bC : Binds K fdC ["self", "name"] []) :
    FnOk Pg w K mg base (L2.CX Pg w) 4 f fd ["self", "first", "second"] (spBarredB K M U P) := by
  refine F.okX scBarred (fun vs H Q E h => ?_) (fun cdv A outer s H vs Q E hr h => ?_)
  · obtain ⟨x, a, b, d, ks, ps, rs, bs, rfl, _⟩ := h
    rfl
  · obtain ⟨x, a, b, d, ks, ps, rs, bs, rfl, hla, hlb, hM, kQ, kE1, kE2⟩ := h
    refine ⟨_, pss_cons (ps_expr (pe_meth (E := E) (pv 0) TM.cl mC GC hr bC .nil (passes_call (takes_of rfl rfl rfl rfl) (fun _ _ _ _ h => h)) (pa_cons (pv 1) pa_nil)))
      (pss_cons (ps_expr (pe_meth (E := E) (pv 0) TM.cl mC GC hr bC .nil (passes_call (takes_of rfl rfl rfl rfl) (fun _ _ _ _ h => h)) (pa_cons (pv 2) pa_nil)))
      (pss_one (ps_ret (pe_cmp (pc_din (u1 hr.units) (pe_tup (pa_cons (pv 1) (pa_cons (pv 2) pa_nil))) (pe_fld (pv 0) rfl)))))), ?_⟩
    obtain ⟨dx, fs, kk, pp, rr, D, bb, D2, ys, zs, hx, F7⟩ := hM.m
    refine ⟨_, rfl, x, dx, fs, rfl, hx, F7.f0 _ (by decide +kernel), _, rfl, x, a, d, ks, ps, rs, bs, rfl, hla, hM.m, fun h1 => ?_, fun no => kE1 fun ⟨r, hr, e⟩ => no r hr e⟩
    refine ⟨_, rfl, x, dx, fs, rfl, hx, F7.f0 _ (by decide +kernel), _, rfl, x, b, d, ks, ps, rs, bs, rfl, hlb, hM.m, fun h2 => ?_, fun no => kE2 h1 fun ⟨r, hr, e⟩ => no r hr e⟩
    refine ⟨_, rfl, _, rfl, by show 2 ≤ sizeLine; decide, fun q nq => ?_⟩
    have g := Grew.new hM.t (o := .tup [.str a, .str b]) nq
    obtain ⟨kvs, hd, hin⟩ := F7.db
    refine ⟨_, rfl, x, M, dx, fs, _, rfl, g.get hM.t hx (fun _ z => by cases z), TM.cl, TM.n7, F7.f7, D2, _, rfl, DGet.t (k := [.inr a, .inr b]) (g.get hM.t hd (fun _ z => by cases z)) upd_same, ?_⟩
    have e : (valV kvs [.inr a, .inr b]).isSome = decide ((a, b) ∈ bs) := by
      by_cases hb : (a, b) ∈ bs
      · rw [(hin _ _).mpr hb, decide_eq_true hb]
      · rw [decide_eq_false hb]
        cases c : (valV kvs [.inr a, .inr b]).isSome with
        | false => rfl
        | true => exact absurd ((hin _ _).mp c) hb
    rw [e]
    exact kQ h1 h2 _ g
end
end W

set_option Elab.async false
set_option linter.all false
set_option maxRecDepth 100000
set_option maxHeartbeats 4000000
namespace W
open PySem PySem.Spec PyProof.Rows L2 GxR MyG MyS SqX
/-! ### Map._with_parts of whatever parts -/
abbrev sWithP : Stmt := inClass (top 29) 19
abbrev kMapC : List Str := ["day", "kinds", "places", "roads", "bars"]
def gMapC {α : Type} (us mv ws : List α) : List α := us ++ (ws ++ mv)
theorem filter_nodup_map {α β : Type} {f : α → β} {p : α → Bool} : ∀ {l : List α}, (l.map f).Nodup → ((l.filter p).map f).Nodup := fun {l} h => (List.Sublist.map f List.filter_sublist).nodup h
theorem filter_takeA {α : Type} {p : α → Bool} {l : List α} {i : Nat} {a : α} (e : l[i]? = some a) : (l.take (i + 1)).filter p = (l.take i).filter p ++ if p a then [a] else [] := by
  rw [List.take_succ, e, List.filter_append]
  by_cases h : p a = true
  · rw [if_pos h]; simp [h]
  · rw [if_neg h]; simp [h]
/-- the roads but one -/
def butR (z : Str) (rs : List RoadD) : List RoadD := rs.filter fun r => !decide (r.name = z)
def butB (z : Str) (bs : List (Str × Str)) : List (Str × Str) := bs.filter fun b => !decide (z = b.1 ∨ z = b.2)
theorem mem_butR {z : Str} {rs : List RoadD} {r : RoadD} : r ∈ butR z rs ↔ r ∈ rs ∧ r.name ≠ z := by
  unfold butR
  rw [List.mem_filter]
  simp
theorem mem_butB {z : Str} {bs : List (Str × Str)} {b : Str × Str} : b ∈ butB z bs ↔ b ∈ bs ∧ z ≠ b.1 ∧ z ≠ b.2 := by
  unfold butB
  rw [List.mem_filter]
  simp
theorem PartsOk.but {d : Int} {ks ps : List Str} {rs : List RoadD} {bs : List (Str × Str)} (h : PartsOk d ks ps rs bs) (z : Str) : PartsOk d ks ps (butR z rs) (butB z bs) := by
  obtain ⟨d1, d2, k1, k2, p2, kn, pn, kd, pd, hr, hb⟩ := h
  refine ⟨d1, d2, k1, k2, p2, kn, pn, kd, pd, ?_, ?_⟩
  · obtain ⟨a, b, c, e⟩ := hr
    refine ⟨Nat.le_trans (List.length_filter_le _ _) a, ?_, filter_nodup_map c, fun r hr => e r (mem_butR.mp hr).1⟩
    refine List.all_eq_true.mpr fun n hn => ?_
    obtain ⟨r, hr, rfl⟩ := List.mem_map.mp hn
    exact List.all_eq_true.mp b _ (List.mem_map.mpr ⟨r, (mem_butR.mp hr).1, rfl⟩)
  · obtain ⟨a, b, c⟩ := hb
    refine ⟨Nat.le_trans (List.length_filter_le _ _) a, List.filter_sublist.nodup b, fun x hx => ?_⟩
    obtain ⟨x1, x2, x3⟩ := mem_butB.mp hx
    obtain ⟨r1, h1, r2, h2, e1, e2, e3⟩ := c x x1
    exact ⟨r1, mem_butR.mpr ⟨h1, fun e => x2 (by rw [e1, e])⟩, r2, mem_butR.mpr ⟨h2, fun e => x3 (by rw [e2, e])⟩, e1, e2, e3⟩
/-- a map of these parts, or InvalidMap -/
def EitherM (K : PySem.W.Frag) (M C P : Addr) (H : Hp) (d : Int) (ks ps : List Str) (rs : List RoadD) (bs : List (Str × Str)) (Q : VK) (E : XK) : Prop :=
  (PartsOk d ks ps rs bs → ∀ y, MadeQ K M P y H d ks ps rs bs fun H' => Q (.ref y) H') ∧ (¬ PartsOk d ks ps rs bs → BadM C P H E)
theorem EitherM.on {K : PySem.W.Frag} {M C P : Addr} {H H1 : Hp} {d : Int} {ks ps : List Str} {rs : List RoadD} {bs : List (Str × Str)} {Q : VK} {E : XK} (h : EitherM K M C P H d ks ps rs bs Q E) (g : Grew P H H1) : EitherM K M C P H1 d ks ps rs bs Q E :=
  ⟨fun ok y H' ks' ps' rs' bs' g' nx s m => h.1 ok y H' ks' ps' rs' bs' (g.trans g') (g.free nx) s m, fun no => (h.2 no).on g⟩
def spWithPX (K : PySem.W.Frag) (M C P : Addr) : Sp := fun vs H Q E => ∃ (x pl ro ba : Addr) (cp cr cb : Bool) (d : Int) (ks ps ps0 : List Str) (rs rs0 : List RoadD) (bs bs0 : List (Str × Str)) (xs zs : List V), vs = [.ref x, .ref pl, .ref ro, .ref ba] ∧ MapAt K H M x d ks ps0 rs0 bs0 ∧ TabG H P ∧
  SqK cp K H pl (ps.map V.str) ∧ SqK cr K H ro xs ∧ Paired (fun r v => GRoadX K H (rG r) v) rs xs ∧ SqK cb K H ba zs ∧ Paired (GBar H) bs zs ∧ PartsSm d ks ps rs bs ∧ EitherM K M C P H d ks ps rs bs Q E
section
variable {Pg : Program} {w : World} {K : PySem.W.Frag} {mg : Str → Option Value} {base : Heap} {C P : Addr}
theorem mapC_binds {f : Addr} {fd : FuncData} {T1 T2 T : Addr} (F : FunD K "__init__" "Map.__init__" (defArgs sInit) (defBody sInit) (defScope sInit) [] [("places", V.ref T1), ("roads", V.ref T2), ("bars", V.ref T)] f fd) :
    ∃ mv : List Value, KBn K fd pInit 1 kMapC (fun us ws => gMapC us mv ws) (fun vs zs => gMapC vs (([] : List (Str × V)).map (·.2)) zs) := by
  refine FunD.kbinds0 F 1 kMapC [] gMapC (by simp) (by simp) ?_ ?_
  · intro vs mz zs us mv ws r1 r2 r3
    exact r1.append (Vals.append r3 r2)
  · intro D doc pm an cdv ct us mv ws h1 h2 h3
    match us, mv, ws, h1, h2, h3 with
    | [u], [], [a, b, c, d, e], _, _, _ => exact rfl
theorem scWithP : FnScope ["self", "places", "roads", "bars"] ["self", "places", "roads", "bars"] (defScope sWithP) := ⟨rfl, rfl, rfl, by decide +kernel, rfl, by decide +kernel, by decide +kernel⟩
theorem ok_withPX {f fI M : Addr} {fd fdI : FuncData} {mv : List Value} (F : Fun K "_with_parts" "Map._with_parts" sWithP f fd) (TM : TxtM K M) (Mk : L2.Mk K M fI) (gM : mg "Map" = some (.ref M))
    (GI : FnOk Pg w K mg base (L2.CX Pg w) 5 fI fdI pInit (spInitX K M C P)) (kb : KBn K fdI pInit 1 kMapC (fun us ws => gMapC us mv ws) (fun vs zs => gMapC vs (([] : List (Str × V)).map (·.2)) zs)) :
    FnOk Pg w K mg base (L2.CX Pg w) 7 f fd ["self", "places", "roads", "bars"] (spWithPX K M C P) := by
  refine F.okX scWithP (fun vs H Q E h => ?_) (fun cdv A outer s H vs Q E hr h => ?_)
  · obtain ⟨x, pl, ro, ba, cp, cr, cb, d, ks, ps, ps0, rs, rs0, bs, bs0, xs, zs, rfl, _⟩ := h
    rfl
  · obtain ⟨x, pl, ro, ba, cp, cr, cb, d, ks, ps, ps0, rs, rs0, bs, bs0, xs, zs, rfl, hM, hP, hpl, hro, hrs, hba, hbs, sm, k, kE⟩ := h
    refine ⟨_, pss_one (ps_ret (pe_makeK0 (E := E) Mk GI (hr.mono (by decide)) (by rfl) gM kb (passes_call (takes_of rfl rfl rfl rfl) (fun _ _ _ _ h => h)) (pk_cons (pe_fld (pv 0) rfl) (pk_cons (pe_fld (pv 0) rfl) (pk_cons (pv 1) (pk_cons (pv 2) (pk_cons (pv 3) pk_nil))))))), ?_⟩
    obtain ⟨dx0, fs, kk, pp, rr, D, bb, D2, ys, zs0, hx, F7⟩ := id hM
    refine ⟨_, rfl, x, M, dx0, fs, .int d, rfl, hx, TM.cl, TM.n1, F7.f1, ?_⟩
    refine ⟨_, rfl, x, M, dx0, fs, .ref kk, rfl, hx, TM.cl, TM.n2, F7.f2, ?_⟩
    refine ⟨_, rfl, _, rfl, _, rfl, rfl, rfl, fun y dx ny ndx nex => ?_⟩
    exact initG_of (ck := false) (cp := cp) (cr := cr) (cb := cb) (xs := xs) (zs := zs) hP ny ndx nex (SqT.of F7.k) hpl hro (paired_mapl (f := itemG) (G := GItem K H) (fun _ _ m => m) hrs) hba (Paired.map' hbs fun _ _ m => m.gen) sm (fun ok H' ks' ps' rs' bs' g5 ny' q hm => ⟨rfl, k ok y H' ks' ps' rs' bs' g5 ny' q hm⟩) kE
end
end W

set_option Elab.async false
set_option linter.all false
set_option maxRecDepth 100000
set_option maxHeartbeats 4000000
namespace W
open PySem PySem.Spec PyProof.Rows L2 GxR MyG MyS SqX
/-! ### Map.with_road, Map.with_hours -/
abbrev sWithR : Stmt := inClass (top 29) 12
abbrev sWithH : Stmt := inClass (top 29) 14
def putR (r : RoadD) (rs : List RoadD) : List RoadD := butR r.name rs ++ [r]
def spWithRX (K : PySem.W.Frag) (M C P : Addr) : Sp := fun vs H Q E => ∃ (x : Addr) (v : V) (r : RoadD) (d : Int) (ks ps : List Str) (rs : List RoadD) (bs : List (Str × Str)), vs = [.ref x, v] ∧ GRoadX K H (rG r) v ∧ MapAt K H M x d ks ps rs bs ∧ rs.length ≤ 60 ∧ TabG H P ∧ PartsSm d ks ps (putR r rs) bs ∧
  EitherM K M C P H d ks ps (putR r rs) bs Q E
def spWithHX (K : PySem.W.Frag) (M C U P : Addr) : Sp := fun vs H Q E => ∃ (x : Addr) (z : Str) (v : V) (hs : Option (List (Int × Int))) (d : Int) (ks ps : List Str) (rs : List RoadD) (bs : List (Str × Str)), vs = [.ref x, .str z, v] ∧ z.length ≤ 1000 ∧ GHoursX K H (hoursG hs) v ∧ MapAt K H M x d ks ps rs bs ∧ rs.length ≤ 60 ∧ TabG H P ∧
  (∀ r ∈ rs, r.name = z → PartsSm d ks ps (putR { r with hours := hs } rs) bs ∧ EitherM K M C P H d ks ps (putR { r with hours := hs } rs) bs Q E) ∧ (¬ Known rs z → Unk U H E z)
section
variable {Pg : Program} {w : World} {K : PySem.W.Frag} {mg : Str → Option Value} {base : Heap} {C P : Addr}
abbrev nWR : List Str := ["self", "road", "others", "other"]
theorem scWR : FnScope nWR ["self", "road"] (defScope sWithR) := ⟨rfl, rfl, rfl, by decide +kernel, rfl, by decide +kernel, by decide +kernel⟩
theorem ok_withRX {f fW M : Addr} {fd fdW : FuncData} {t1 : Tok} (F : Fun K "with_road" "Map.with_road" sWithR f fd) (TM : TxtM K M) (i_NAME : mg "NAME" = some (.int 0 t1))
    (mW : Meth K M "_with_parts" fW) (GW : FnOk Pg w K mg base (L2.CX Pg w) 7 fW fdW ["self", "places", "roads", "bars"] (spWithPX K M C P)) (bW : Binds K fdW ["self", "places", "roads", "bars"] []) :
    FnOk Pg w K mg base (L2.CX Pg w) 8 f fd ["self", "road"] (spWithRX K M C P) := by
  refine F.okX scWR (fun vs H Q E h => ?_) (fun cdv A outer s H vs Q E hr h => ?_)
  · obtain ⟨x, v, r, d, ks, ps, rs, bs, rfl, _⟩ := h
    rfl
  · obtain ⟨x, v, r, d, ks, ps, rs, bs, rfl, hv, hM, l60, hP, sm, k⟩ := h
    refine ⟨_, (pss_cons (ps_setLc (i := 2) (own := [("other", 3)]) (g := (gName 3)) rfl scWR.nd rfl rfl (sw_true rfl rfl rfl (by decide +kernel)) (pi_tup (pe_fld (pv 0) rfl)) (blkOk_by (N := nWR) (sc := defScope sWithR) (by decide +kernel)) (fun _ _ _ _ _ => pg_name (i := 3) scWR.nd rfl (Or.inl rfl)) (fun _ _ _ _ _ => pts_one (pt_cmpR op_ne (pe_ix (r := rIxT K) ix_tup (pv 3) (pe_gI i_NAME) (fun _ _ => rfl)) (pe_ix (r := rIxT K) ix_tup (pv 1) (pe_gI i_NAME) (fun _ _ => rfl)) (nomark _))) (fun _ _ _ _ _ => (pv 3)))
      (pss_one (ps_ret (pe_meth (E := E) (pv 0) TM.cl mW GW (hr.mono (by decide)) bW .nil (passes_call (takes_of rfl rfl rfl rfl) (fun _ _ _ _ h => h)) (pa_cons (pe_fld (pv 0) rfl) (pa_cons (pe_lst (StX.pa_star (pv 2) (pa_cons (pv 1) pa_nil))) (pa_cons (pe_fld (pv 0) rfl) pa_nil))))))), ?_⟩
    obtain ⟨dx, fs, kk, pp, rr, D, bb, D2, ys, zs, hx, m⟩ := id hM
    obtain ⟨t, u, hh, cu, rfl, et, eu, eh⟩ := id hv
    have lys := Paired.len m.ry
    refine ⟨_, rfl, x, M, dx, fs, _, rfl, hx, TM.cl, TM.n4, m.f4, rr, rfl, ⟨_, SqT.of m.r⟩, fun N nN => lc_tup (K := K) (a := rr) (xs := ys) (fun j H2 => Grew P H H2 ∧ ∃ acc, H2 N = some (.lst acc) ∧ Paired (RoadAt K H2) ((rs.take j).filter fun q => !decide (q.name = r.name)) acc)
      ⟨Grew.new hP nN, [], upd_same, .nil⟩ (fun j H2 _ p => SqT.of (p.1.tup hP m.r)) (fun j y H2 hj p => ?_) (fun H2 p => ?_)⟩
    · obtain ⟨g2, acc, hN, hacc⟩ := p
      obtain ⟨q, hqj, hqm0⟩ := Paired.at m.ry hj
      have hqm := hqm0.grew g2 hP
      have ft := filter_takeA (p := fun q : RoadD => !decide (q.name = r.name)) hqj
      have ly := Paired.len hacc
      have lj : ((rs.take j).filter fun q => !decide (q.name = r.name)).length ≤ 60 := by
        refine Nat.le_trans (List.length_filter_le _ _) ?_
        rw [List.length_take]; omega
      obtain ⟨tq, uq, hq, rfl, etq, _, _⟩ := id hqm
      refine ⟨rfl, _, rfl, tq, _, 0, .str q.name, rfl, rfl, SqT.of etq, rfl, _, rfl, t, _, 0, .str r.name, rfl, rfl, g2.sqT hP et, rfl, rfl, _, rfl, ?_⟩
      have kb : ∀ {o : HO} {b : RoadD} {v : V}, RoadAt K H2 b v → RoadAt K (L2.upd H2 N o) b v := fun m => m.upd (fun xs z => by rw [hN] at z; cases z) (KeepT.lst hN)
      by_cases c : q.name = r.name
      · refine if_f (by rw [c]; simp) ⟨g2, acc, hN, ?_⟩
        rw [ft, if_neg (by rw [c]; simp), List.append_nil]
        exact hacc
      · have c' : ¬ V.str q.name = V.str r.name := fun e => c (by injection e)
        refine if_t (by rw [decide_eq_false c']; rfl) ⟨_, rfl, acc, hN, by rw [sizeLine_eq]; omega, g2.write hN (fun _ z => by cases z) nN, _, upd_same, ?_⟩
        rw [ft, if_pos (by simp [c])]
        exact Paired.snoc (Paired.map' hacc fun _ _ m => kb m) (kb hqm)
    obtain ⟨g1, acc, hN, hacc⟩ := p
    rw [← lys, List.take_length] at hacc
    have hacc' : Paired (RoadAt K H2) (butR r.name rs) acc := hacc
    have la := Paired.len hacc'
    have lb : (butR r.name rs).length ≤ 60 := Nat.le_trans (List.length_filter_le _ _) l60
    have hx1 := g1.get hP hx (fun _ z => by cases z)
    refine ⟨_, rfl, x, dx, fs, rfl, hx1, m.f0 _ (by decide +kernel), ?_⟩
    refine ⟨_, rfl, x, M, dx, fs, _, rfl, hx1, TM.cl, TM.n3, m.f3, ?_⟩
    refine ⟨_, rfl, N, _, rfl, .inr (SqL.of hN), _, rfl, by simp only [List.length_append, List.length_cons, List.length_nil]; rw [sizeLine_eq]; omega, fun L nL => ?_⟩
    have gL := Grew.new g1.tab (o := .lst (acc ++ [V.ref t])) nL
    have g2 := g1.trans gL
    refine ⟨_, rfl, x, M, dx, fs, _, rfl, gL.get g1.tab hx1 (fun _ z => by cases z), TM.cl, TM.n6, m.f6, ?_⟩
    refine ⟨x, pp, L, bb, false, true, false, d, ks, ps, ps, putR r rs, rs, bs, bs, acc ++ [.ref t], zs, rfl, MapAt.grew g2 hP hM, g2.tab, SqT.of (g2.tup hP m.p), SqL.of upd_same, ?_, SqT.of (g2.tup hP m.b), Paired.map' m.bz fun _ _ m => m.grew g2 hP, sm, k.on g2⟩
    exact Paired.app (Paired.map' hacc' fun _ _ m => (m.grew gL g1.tab).gen) (.cons (GRoadX.grew g2 hP hv) .nil)
abbrev nWH : List Str := ["self", "name", "hours"]
theorem scWH : FnScope nWH ["self", "name", "hours"] (defScope sWithH) := ⟨rfl, rfl, rfl, by decide +kernel, rfl, by decide +kernel, by decide +kernel⟩
theorem ok_withHX {f fR fD M U : Addr} {fd fdR fdD : FuncData} {t1 : Tok} (F : Fun K "with_hours" "Map.with_hours" sWithH f fd) (TM : TxtM K M) (i_HOURS : mg "HOURS" = some (.int 5 t1))
    (mR : Meth K M "with_road" fR) (GR : FnOk Pg w K mg base (L2.CX Pg w) 8 fR fdR ["self", "road"] (spWithRX K M C P)) (bR : Binds K fdR ["self", "road"] [])
    (mD : Meth K M "road" fD) (GD : FnOk Pg w K mg base (L2.CX Pg w) 4 fD fdD ["self", "name"] (spRoadM K M U)) (bD : Binds K fdD ["self", "name"] []) :
    FnOk Pg w K mg base (L2.CX Pg w) 9 f fd ["self", "name", "hours"] (spWithHX K M C U P) := by
  refine F.okX scWH (fun vs H Q E h => ?_) (fun cdv A outer s H vs Q E hr h => ?_)
  · obtain ⟨x, z, v, hs, d, ks, ps, rs, bs, rfl, _⟩ := h
    rfl
  · obtain ⟨x, z, v, hs, d, ks, ps, rs, bs, rfl, hz, hv, hM, l60, hP, kQ, kE⟩ := h
    refine ⟨_, (pss_one (ps_ret (pe_meth (E := E) (pv 0) TM.cl mR GR (hr.mono (by decide)) bR .nil (passes_call (takes_of rfl rfl rfl rfl) (fun _ _ _ _ h => h)) (pa_cons (pe_op op_catA (pe_slice sl_tupA (pe_meth (E := E) (pv 0) TM.cl mD GD (hr.mono (by decide)) bD .nil (passes_call (takes_of rfl rfl rfl rfl) (fun _ _ _ _ h => h)) (pa_cons (pv 1) pa_nil)) po_none (po_some (pe_gI i_HOURS))) (pe_tup (pa_cons (pv 2) pa_nil))) pa_nil)))), ?_⟩
    obtain ⟨dx, fs, kk, pp, rr, D, bb, D2, ys, zs, hx, m⟩ := id hM
    refine ⟨_, rfl, x, dx, fs, rfl, hx, m.f0 _ (by decide +kernel), ?_⟩
    refine ⟨_, rfl, x, dx, fs, rfl, hx, m.f0 _ (by decide +kernel), _, rfl, x, z, d, ks, ps, rs, bs, rfl, hz, hM, fun r hr1 en v2 mv => ?_, fun no => kE fun ⟨r, hr, e⟩ => no r hr e⟩
    obtain ⟨t, u, hh, rfl, et, eu, eh⟩ := id mv
    obtain ⟨sm, k⟩ := kQ r hr1 en
    refine ⟨_, rfl, t, _, rfl, SqT.of et, fun w => ?_, fun _ A1 a1 => ?_⟩
    · exact absurd (show HT.sIx 6 6 (some 5) = 6 from w.2) (by decide)
    have ga := Grew.new hP (o := .tup [.str r.name, .str r.start, .str r.goal, .int r.minutes, .ref u]) a1
    refine ⟨_, rfl, (show 1 ≤ sizeLine by decide), fun A2 a2 => ?_⟩
    have gb := Grew.new ga.tab (o := .tup [v]) a2
    have g12 := ga.trans gb
    refine ⟨A1, A2, [.str r.name, .str r.start, .str r.goal, .int r.minutes, .ref u], [v], rfl, rfl, SqT.of (gb.tup ga.tab (b := A1) upd_same), SqT.of upd_same, by simp only [List.length_cons, List.length_nil]; decide, fun e => (by cases e), fun _ e => (by cases e), fun _ _ A3 a3 => ?_⟩
    have gc := Grew.new g12.tab (o := .tup [.str r.name, .str r.start, .str r.goal, .int r.minutes, .ref u, v]) a3
    have g13 := g12.trans gc
    exact ⟨x, .ref A3, { r with hours := hs }, d, ks, ps, rs, bs, rfl, ⟨A3, u, v, false, rfl, SqT.of upd_same, SqT.of (g13.tup hP eu), hv.grew g13 hP⟩, MapAt.grew g13 hP hM, l60, g13.tab, sm, k.on g13⟩
end
end W

set_option Elab.async false
set_option linter.all false
set_option maxRecDepth 100000
set_option maxHeartbeats 4000000
namespace W
open PySem PySem.Spec PyProof.Rows L2 GxR MyG MyS SqX
theorem eqvAll_strs : ∀ (xs ys : List Str), PyData.eqvAll (xs.map .str) (ys.map .str) = decide (xs = ys)
  | [], [] => by simp [PyData.eqvAll]
  | [], y :: ys => by simp [PyData.eqvAll]
  | x :: xs, [] => by simp [PyData.eqvAll]
  | x :: xs, y :: ys => by
    rw [List.map_cons, List.map_cons, PyData.eqvAll, eqvAll_strs xs ys]
    have e : PyData.eqv (.str x) (.str y) = decide (x = y) := by
      rw [PyData.eqv]
      exact Bool.beq_eq_decide_eq ..
    rw [e, Bool.eq_iff_iff, Bool.and_eq_true, decide_eq_true_eq, decide_eq_true_eq, decide_eq_true_eq, List.cons.injEq]
theorem eqv_lists (xs ys : List Str) : PyData.eqv (.list (xs.map .str)) (.list (ys.map .str)) = decide (xs = ys) := by
  rw [PyData.eqv]
  exact eqvAll_strs xs ys
/-! ### Map.without_road, with_place, without_place, with_bar, without_bar -/
abbrev sWithoutR : Stmt := inClass (top 29) 13
abbrev sWithPl : Stmt := inClass (top 29) 15
abbrev sWoutPl : Stmt := inClass (top 29) 16
abbrev sWithB : Stmt := inClass (top 29) 17
abbrev sWoutB : Stmt := inClass (top 29) 18
def spWithoutRX (K : PySem.W.Frag) (M C U P : Addr) : Sp := fun vs H Q E => ∃ (x : Addr) (z : Str) (d : Int) (ks ps : List Str) (rs : List RoadD) (bs : List (Str × Str)), vs = [.ref x, .str z] ∧ z.length ≤ 1000 ∧ MIn K H M P x d ks ps rs bs ∧
  (Known rs z → EitherM K M C P H d ks ps (butR z rs) (butB z bs) Q E) ∧ (¬ Known rs z → Unk U H E z)
def spWithPlX (K : PySem.W.Frag) (M C P : Addr) : Sp := fun vs H Q E => ∃ (x : Addr) (z : Str) (d : Int) (ks ps : List Str) (rs : List RoadD) (bs : List (Str × Str)), vs = [.ref x, .str z] ∧ MIn K H M P x d ks ps rs bs ∧ PartsSm d ks (ps ++ [z]) rs bs ∧
  EitherM K M C P H d ks (ps ++ [z]) rs bs Q E
def outP (z : Str) (ps : List Str) : List Str := ps.filter fun q => !decide (q = z)
def spWoutPlX (K : PySem.W.Frag) (M C U P : Addr) : Sp := fun vs H Q E => ∃ (x : Addr) (z : Str) (d : Int) (ks ps : List Str) (rs : List RoadD) (bs : List (Str × Str)), vs = [.ref x, .str z] ∧ z.length ≤ 1000 ∧ MIn K H M P x d ks ps rs bs ∧
  (z ∈ ps → EitherM K M C P H d ks (outP z ps) rs bs Q E) ∧ (z ∉ ps → Unk U H E z)
def spWithBX (K : PySem.W.Frag) (M C U P : Addr) : Sp := fun vs H Q E => ∃ (x : Addr) (a b : Str) (d : Int) (ks ps : List Str) (rs : List RoadD) (bs : List (Str × Str)), vs = [.ref x, .str a, .str b] ∧ a.length ≤ 1000 ∧ b.length ≤ 1000 ∧ MIn K H M P x d ks ps rs bs ∧
  (Known rs a → Known rs b → EitherM K M C P H d ks ps rs (bs ++ [(a, b)]) Q E) ∧ (¬ Known rs a → Unk U H E a) ∧ (Known rs a → ¬ Known rs b → Unk U H E b)
def outB (a b : Str) (bs : List (Str × Str)) : List (Str × Str) := bs.filter fun q => !decide (q = (a, b))
def spWoutBX (K : PySem.W.Frag) (M C U P : Addr) : Sp := fun vs H Q E => ∃ (x : Addr) (a b : Str) (d : Int) (ks ps : List Str) (rs : List RoadD) (bs : List (Str × Str)), vs = [.ref x, .str a, .str b] ∧ a.length ≤ 1000 ∧ b.length ≤ 1000 ∧ PyData.strOk a = true ∧ PyData.strOk b = true ∧ MIn K H M P x d ks ps rs bs ∧
  (Known rs a → Known rs b → (a, b) ∈ bs → EitherM K M C P H d ks ps rs (outB a b bs) Q E) ∧ (Known rs a → Known rs b → (a, b) ∉ bs → BadM C P H E) ∧ (¬ Known rs a → Unk U H E a) ∧ (Known rs a → ¬ Known rs b → Unk U H E b)
theorem sm_less {d : Int} {ks ps ps' : List Str} {rs rs' : List RoadD} {bs bs' : List (Str × Str)} (h : PartsSm d ks ps rs bs) (hp : ∀ z ∈ ps', z ∈ ps) (hr : ∀ r ∈ rs', r ∈ rs) (hb : ∀ b ∈ bs', b ∈ bs) (lp : ps'.length ≤ ps.length) (lr : rs'.length ≤ rs.length) (lb : bs'.length ≤ bs.length) : PartsSm d ks ps' rs' bs' := by
  obtain ⟨s⟩ := h
  have q1 := s.pl
  have q2 := s.rl
  have q3 := s.bl
  rw [List.length_map] at q2 q3
  refine ⟨⟨s.d, s.kl, s.k, by omega, fun z hz => s.p z (hp z hz), by rw [List.length_map]; omega, fun r hr' => s.r r ?_, by rw [List.length_map]; omega, fun b hb' => s.b b ?_⟩⟩
  · obtain ⟨r0, h0, e⟩ := List.mem_map.mp hr'
    exact List.mem_map.mpr ⟨r0, hr r0 h0, e⟩
  · obtain ⟨b0, h0, e⟩ := List.mem_map.mp hb'
    exact List.mem_map.mpr ⟨b0, hb b0 h0, e⟩
section
variable {Pg : Program} {w : World} {K : PySem.W.Frag} {mg : Str → Option Value} {base : Heap} {C P : Addr}
abbrev nWo : List Str := ["self", "name", "roads", "bars", "road", "bar"]
theorem scWo : FnScope nWo ["self", "name"] (defScope sWithoutR) := ⟨rfl, rfl, rfl, by decide +kernel, rfl, by decide +kernel, by decide +kernel⟩
theorem ok_woRX {f M U fC fW : Addr} {fd fdC fdW : FuncData} {t1 : Tok} (F : Fun K "without_road" "Map.without_road" sWithoutR f fd) (TM : TxtM K M) (i_NAME : mg "NAME" = some (.int 0 t1))
    (mC : Meth K M "check_road" fC) (GC : FnOk Pg w K mg base (L2.CX Pg w) 3 fC fdC ["self", "name"] (spCheck K M U)) (bC : Binds K fdC ["self", "name"] [])
    (mW : Meth K M "_with_parts" fW) (GW : FnOk Pg w K mg base (L2.CX Pg w) 7 fW fdW ["self", "places", "roads", "bars"] (spWithPX K M C P)) (bW : Binds K fdW ["self", "places", "roads", "bars"] []) :
    FnOk Pg w K mg base (L2.CX Pg w) 8 f fd ["self", "name"] (spWithoutRX K M C U P) := by
  refine F.okX scWo (fun vs H Q E h => ?_) (fun cdv A outer s H vs Q E hr h => ?_)
  · obtain ⟨x, z, d, ks, ps, rs, bs, rfl, _⟩ := h
    rfl
  · obtain ⟨x, z, d, ks, ps, rs, bs, rfl, hz, hI, kQ, kE⟩ := h
    have hM := hI.m
    have hP := hI.t
    have ok := hI.ok
    refine ⟨_, (pss_cons (ps_expr (pe_meth (E := E) (pv 0) TM.cl mC GC (hr.mono (by decide)) bC .nil (passes_call (takes_of rfl rfl rfl rfl) (fun _ _ _ _ h => h)) (pa_cons (pv 1) pa_nil)))
      (pss_cons (ps_setLc (i := 2) (own := [("road", 4)]) (g := (gName 4)) rfl scWo.nd rfl rfl (sw_true rfl rfl rfl (by decide +kernel)) (pi_tup (pe_fld (pv 0) rfl)) (blkOk_by (N := nWo) (sc := defScope sWithoutR) (by decide +kernel)) (fun _ _ _ _ _ => pg_name (i := 4) scWo.nd rfl (Or.inl rfl)) (fun _ _ _ _ _ => pts_one (pt_cmpR op_ne (pe_ix (r := rIxT K) ix_tup (pv 4) (pe_gI i_NAME) (fun _ _ => rfl)) (pv 1) (nomark _))) (fun _ _ _ _ _ => (pv 4)))
      (pss_cons (ps_setLc (i := 3) (own := [("bar", 5)]) (g := (gName 5)) rfl scWo.nd rfl rfl (sw_true rfl rfl rfl (by decide +kernel)) (pi_tup (pe_fld (pv 0) rfl)) (blkOk_by (N := nWo) (sc := defScope sWithoutR) (by decide +kernel)) (fun _ _ _ _ _ => pg_name (i := 5) scWo.nd rfl (Or.inl rfl)) (fun _ _ _ _ _ => pts_one (pt_cmpR (r := rIn K true) op_notIn_seq (pv 1) (pv 5) (by rfl))) (fun _ _ _ _ _ => (pv 5)))
      (pss_one (ps_ret (pe_meth (E := E) (pv 0) TM.cl mW GW (hr.mono (by decide)) bW .nil (passes_call (takes_of rfl rfl rfl rfl) (fun _ _ _ _ h => h)) (pa_cons (pe_fld (pv 0) rfl) (pa_cons (pv 2) (pa_cons (pv 3) pa_nil))))))))), ?_⟩
    obtain ⟨dx, fs, kk, pp, rr, D, bb, D2, ys, zs, hx, m⟩ := id hM
    refine ⟨_, rfl, x, dx, fs, rfl, hx, m.f0 _ (by decide +kernel), _, rfl, x, z, d, ks, ps, rs, bs, rfl, hz, hM, fun hkn => ?_, fun no => kE fun ⟨r, hr, e⟩ => no r hr e⟩
    have k := kQ hkn
    have lys := Paired.len m.ry
    have lzs := Paired.len m.bz
    have l60 := ok.r.len
    have l40 := ok.b.len
    refine ⟨_, rfl, x, M, dx, fs, _, rfl, hx, TM.cl, TM.n4, m.f4, rr, rfl, ⟨_, SqT.of m.r⟩, fun N nN => lc_tup (K := K) (a := rr) (xs := ys) (fun j H2 => Grew P H H2 ∧ ∃ acc, H2 N = some (.lst acc) ∧ Paired (RoadAt K H2) ((rs.take j).filter fun q => !decide (q.name = z)) acc)
      ⟨Grew.new hP nN, [], upd_same, .nil⟩ (fun j H2 _ p => SqT.of (p.1.tup hP m.r)) (fun j y H2 hj p => ?_) (fun H2 p => ?_)⟩
    · obtain ⟨g2, acc, hN, hacc⟩ := p
      obtain ⟨q, hqj, hqm0⟩ := Paired.at m.ry hj
      have hqm := hqm0.grew g2 hP
      have ft := filter_takeA (p := fun q : RoadD => !decide (q.name = z)) hqj
      have ly := Paired.len hacc
      have lj : ((rs.take j).filter fun q => !decide (q.name = z)).length ≤ 60 := by
        refine Nat.le_trans (List.length_filter_le _ _) ?_
        rw [List.length_take]; omega
      obtain ⟨tq, uq, hq, rfl, etq, _, _⟩ := id hqm
      refine ⟨rfl, _, rfl, tq, _, 0, .str q.name, rfl, rfl, SqT.of etq, rfl, _, rfl, rfl, _, rfl, ?_⟩
      have kb : ∀ {o : HO} {b : RoadD} {v : V}, RoadAt K H2 b v → RoadAt K (L2.upd H2 N o) b v := fun m => m.upd (fun xs z => by rw [hN] at z; cases z) (KeepT.lst hN)
      by_cases c : q.name = z
      · refine if_f (by rw [c]; simp) ⟨g2, acc, hN, ?_⟩
        rw [ft, if_neg (by rw [c]; simp), List.append_nil]
        exact hacc
      · have c' : ¬ V.str q.name = V.str z := fun e => c (by injection e)
        refine if_t (by rw [decide_eq_false c']; rfl) ⟨_, rfl, acc, hN, by rw [sizeLine_eq]; omega, g2.write hN (fun _ z => by cases z) nN, _, upd_same, ?_⟩
        rw [ft, if_pos (by simp [c])]
        exact Paired.snoc (Paired.map' hacc fun _ _ m => kb m) (kb hqm)
    obtain ⟨g1, acc, hN, hacc⟩ := p
    rw [← lys, List.take_length] at hacc
    have hacc' : Paired (RoadAt K H2) (butR z rs) acc := hacc
    have hx1 := g1.get hP hx (fun _ z => by cases z)
    have hba6 := g1.tup hP m.b
    have hbz6 : Paired (GBar H2) bs zs := Paired.map' m.bz fun _ _ m => m.grew g1 hP
    refine ⟨_, rfl, x, M, dx, fs, _, rfl, hx1, TM.cl, TM.n6, m.f6, bb, rfl, ⟨_, SqT.of hba6⟩, fun N2 nN2 => lc_tup (K := K) (a := bb) (xs := zs) (fun j H3 => Grew P H2 H3 ∧ ∃ acc, H3 N2 = some (.lst acc) ∧ Paired (GBar H3) ((bs.take j).filter fun b => !decide (z = b.1 ∨ z = b.2)) acc)
      ⟨Grew.new g1.tab nN2, [], upd_same, .nil⟩ (fun j H3 _ p => SqT.of (p.1.tup g1.tab hba6)) (fun j y H3 hj p => ?_) (fun H3 p => ?_)⟩
    · obtain ⟨g2, acc2, hN2, hacc2⟩ := p
      obtain ⟨b1, hbj, hbar0⟩ := Paired.at hbz6 hj
      have hbar := hbar0.grew g2 g1.tab
      have ft := filter_takeA (p := fun b : Str × Str => !decide (z = b.1 ∨ z = b.2)) hbj
      have ly := Paired.len hacc2
      have lj : ((bs.take j).filter fun b => !decide (z = b.1 ∨ z = b.2)).length ≤ 40 := by
        refine Nat.le_trans (List.length_filter_le _ _) ?_
        rw [List.length_take]; omega
      have kb : ∀ {o : HO} {b : Str × Str} {v : V}, GBar H3 b v → GBar (L2.upd H3 N2 o) b v := fun m => m.upd (fun xs z => by rw [hN2] at z; cases z)
      obtain ⟨t, rfl, ht⟩ := id hbar
      have ei : inV (.str z) [.str b1.1, .str b1.2] = decide (z = b1.1 ∨ z = b1.2) := by
        rw [show [V.str b1.1, V.str b1.2] = [b1.1, b1.2].map V.str from rfl, inV_dec]
        simp
      refine ⟨rfl, _, rfl, _, rfl, t, _, rfl, .inr (SqT.of ht), rfl, flat_strs [b1.1, b1.2], _, rfl, ?_⟩
      refine ite2 (fun c => ?_) (fun c => ?_)
      · have c' : (!decide (z = b1.1 ∨ z = b1.2)) = true := by rw [← ei]; exact c
        refine ⟨_, rfl, acc2, hN2, by rw [sizeLine_eq]; omega, g2.write hN2 (fun _ z => by cases z) nN2, _, upd_same, ?_⟩
        rw [ft, if_pos c']
        exact Paired.snoc (Paired.map' hacc2 fun _ _ m => kb m) (kb hbar)
      · have c' : ¬ (!decide (z = b1.1 ∨ z = b1.2)) = true := by rw [← ei]; exact c
        refine ⟨g2, acc2, hN2, ?_⟩
        rw [ft, if_neg c', List.append_nil]
        exact hacc2
    obtain ⟨g2, acc2, hN2, hacc2⟩ := p
    rw [← lzs, List.take_length] at hacc2
    have hacc2' : Paired (GBar H3) (butB z bs) acc2 := hacc2
    have g03 := g1.trans g2
    have hx2 := g03.get hP hx (fun _ z => by cases z)
    refine ⟨_, rfl, x, dx, fs, rfl, hx2, m.f0 _ (by decide +kernel), ?_⟩
    refine ⟨_, rfl, x, M, dx, fs, _, rfl, hx2, TM.cl, TM.n3, m.f3, _, rfl, _, rfl, ?_⟩
    exact ⟨x, pp, N, N2, false, true, true, d, ks, ps, ps, butR z rs, rs, butB z bs, bs, acc, acc2, rfl, MapAt.grew g03 hP hM, g03.tab, SqT.of (g03.tup hP m.p), SqL.of (g2.lst g1.tab hN), Paired.map' hacc' fun _ _ m => (m.grew g2 g1.tab).gen, SqL.of hN2, hacc2', (ok.but z).sm, k.on g03⟩
abbrev nWPl : List Str := ["self", "place"]
theorem scWPl : FnScope nWPl ["self", "place"] (defScope sWithPl) := ⟨rfl, rfl, rfl, by decide +kernel, rfl, by decide +kernel, by decide +kernel⟩
theorem ok_withPlX {f fW M : Addr} {fd fdW : FuncData} (F : Fun K "with_place" "Map.with_place" sWithPl f fd) (TM : TxtM K M)
    (mW : Meth K M "_with_parts" fW) (GW : FnOk Pg w K mg base (L2.CX Pg w) 7 fW fdW ["self", "places", "roads", "bars"] (spWithPX K M C P)) (bW : Binds K fdW ["self", "places", "roads", "bars"] []) :
    FnOk Pg w K mg base (L2.CX Pg w) 8 f fd ["self", "place"] (spWithPlX K M C P) := by
  refine F.okX scWPl (fun vs H Q E h => ?_) (fun cdv A outer s H vs Q E hr h => ?_)
  · obtain ⟨x, z, d, ks, ps, rs, bs, rfl, _⟩ := h
    rfl
  · obtain ⟨x, z, d, ks, ps, rs, bs, rfl, hI, sm, k⟩ := h
    have hM := hI.m
    have hP := hI.t
    have p30 := hI.ok.p2
    refine ⟨_, (pss_one (ps_ret (pe_meth (E := E) (pv 0) TM.cl mW GW (hr.mono (by decide)) bW .nil (passes_call (takes_of rfl rfl rfl rfl) (fun _ _ _ _ h => h)) (pa_cons (pe_lst (StX.pa_star (pe_fld (pv 0) rfl) (pa_cons (pv 1) pa_nil))) (pa_cons (pe_fld (pv 0) rfl) (pa_cons (pe_fld (pv 0) rfl) pa_nil)))))), ?_⟩
    obtain ⟨dx, fs, kk, pp, rr, D, bb, D2, ys, zs, hx, m⟩ := id hM
    refine ⟨_, rfl, x, dx, fs, rfl, hx, m.f0 _ (by decide +kernel), ?_⟩
    refine ⟨_, rfl, x, M, dx, fs, _, rfl, hx, TM.cl, TM.n3, m.f3, pp, _, rfl, .inl (SqT.of m.p), _, rfl, by simp only [List.length_append, List.length_cons, List.length_nil, List.length_map]; rw [sizeLine_eq]; omega, fun L nL => ?_⟩
    have eV : ps.map V.str ++ [V.str z] = (ps ++ [z]).map V.str := by rw [List.map_append]; rfl
    rw [eV]
    have g1 := Grew.new hP (o := .lst ((ps ++ [z]).map V.str)) nL
    have hx1 := g1.get hP hx (fun _ z => by cases z)
    refine ⟨_, rfl, x, M, dx, fs, _, rfl, hx1, TM.cl, TM.n4, m.f4, _, rfl, x, M, dx, fs, _, rfl, hx1, TM.cl, TM.n6, m.f6, ?_⟩
    exact ⟨x, L, rr, bb, true, false, false, d, ks, ps ++ [z], ps, rs, rs, bs, bs, ys, zs, rfl, MapAt.grew g1 hP hM, g1.tab, SqL.of upd_same, SqT.of (g1.tup hP m.r), Paired.map' m.ry fun _ _ m => (m.grew g1 hP).gen, SqT.of (g1.tup hP m.b), Paired.map' m.bz fun _ _ m => m.grew g1 hP, sm, k.on g1⟩
abbrev nOP : List Str := ["self", "place", "places", "other"]
theorem scOP : FnScope nOP ["self", "place"] (defScope sWoutPl) := ⟨rfl, rfl, rfl, by decide +kernel, rfl, by decide +kernel, by decide +kernel⟩
theorem ok_woutPlX {f fW fC M U : Addr} {fd fdW fdC : FuncData} (F : Fun K "without_place" "Map.without_place" sWoutPl f fd) (TM : TxtM K M)
    (mC : Meth K M "check_place" fC) (GC : FnOk Pg w K mg base (L2.CX Pg w) 3 fC fdC ["self", "place"] (spChkL K M U selP)) (bC : Binds K fdC ["self", "place"] [])
    (mW : Meth K M "_with_parts" fW) (GW : FnOk Pg w K mg base (L2.CX Pg w) 7 fW fdW ["self", "places", "roads", "bars"] (spWithPX K M C P)) (bW : Binds K fdW ["self", "places", "roads", "bars"] []) :
    FnOk Pg w K mg base (L2.CX Pg w) 8 f fd ["self", "place"] (spWoutPlX K M C U P) := by
  refine F.okX scOP (fun vs H Q E h => ?_) (fun cdv A outer s H vs Q E hr h => ?_)
  · obtain ⟨x, z, d, ks, ps, rs, bs, rfl, _⟩ := h
    rfl
  · obtain ⟨x, z, d, ks, ps, rs, bs, rfl, hz, hI, kQ, kE⟩ := h
    have hM := hI.m
    have hP := hI.t
    have p30 := hI.ok.p2
    refine ⟨_, (pss_cons (ps_expr (pe_meth (E := E) (pv 0) TM.cl mC GC (hr.mono (by decide)) bC .nil (passes_call (takes_of rfl rfl rfl rfl) (fun _ _ _ _ h => h)) (pa_cons (pv 1) pa_nil)))
      (pss_cons (ps_setLc (i := 2) (own := [("other", 3)]) (g := (gName 3)) rfl scOP.nd rfl rfl (sw_true rfl rfl rfl (by decide +kernel)) (pi_tup (pe_fld (pv 0) rfl)) (blkOk_by (N := nOP) (sc := defScope sWoutPl) (by decide +kernel)) (fun _ _ _ _ _ => pg_name (i := 3) scOP.nd rfl (Or.inl rfl)) (fun _ _ _ _ _ => pts_one (pt_cmpR op_ne (pv 3) (pv 1) (nomark _))) (fun _ _ _ _ _ => (pv 3)))
      (pss_one (ps_ret (pe_meth (E := E) (pv 0) TM.cl mW GW (hr.mono (by decide)) bW .nil (passes_call (takes_of rfl rfl rfl rfl) (fun _ _ _ _ h => h)) (pa_cons (pv 2) (pa_cons (pe_fld (pv 0) rfl) (pa_cons (pe_fld (pv 0) rfl) pa_nil)))))))), ?_⟩
    obtain ⟨dx, fs, kk, pp, rr, D, bb, D2, ys, zs, hx, m⟩ := id hM
    refine ⟨_, rfl, x, dx, fs, rfl, hx, m.f0 _ (by decide +kernel), _, rfl, x, z, d, ks, ps, rs, bs, rfl, hz, hM, fun hin => ?_, fun no => kE no⟩
    have k := kQ hin
    refine ⟨_, rfl, x, M, dx, fs, _, rfl, hx, TM.cl, TM.n3, m.f3, pp, rfl, ⟨_, SqT.of m.p⟩, fun N nN => lc_tup (K := K) (a := pp) (xs := ps.map V.str) (fun j H2 => Grew P H H2 ∧ H2 N = some (.lst (((ps.take j).filter fun q => !decide (q = z)).map V.str)))
      ⟨Grew.new hP nN, upd_same⟩ (fun j H2 _ p => SqT.of (p.1.tup hP m.p)) (fun j y H2 hj p => ?_) (fun H2 p => ?_)⟩
    · obtain ⟨g2, hN⟩ := p
      rw [List.getElem?_map] at hj
      obtain ⟨q, hqj, rfl⟩ := Option.map_eq_some_iff.mp hj
      have ft := filter_takeA (p := fun q : Str => !decide (q = z)) hqj
      have lj : ((ps.take j).filter fun q => !decide (q = z)).length ≤ 30 := by
        refine Nat.le_trans (List.length_filter_le _ _) ?_
        rw [List.length_take]; omega
      refine ⟨rfl, _, rfl, _, rfl, rfl, _, rfl, ?_⟩
      by_cases c : q = z
      · refine if_f (by rw [c]; simp) ⟨g2, ?_⟩
        rw [ft, if_neg (by rw [c]; simp), List.append_nil]
        exact hN
      · have c' : ¬ V.str q = V.str z := fun e => c (by injection e)
        refine if_t (by rw [decide_eq_false c']; rfl) ⟨_, rfl, _, hN, by rw [List.length_map, sizeLine_eq]; omega, g2.write hN (fun _ z => by cases z) nN, ?_⟩
        rw [upd_same, ft, if_pos (by simp [c]), List.map_append]
        rfl
    obtain ⟨g1, hN⟩ := p
    rw [List.length_map, List.take_length] at hN
    have hN' : H2 N = some (.lst ((outP z ps).map V.str)) := hN
    have hx1 := g1.get hP hx (fun _ z => by cases z)
    refine ⟨_, rfl, x, dx, fs, rfl, hx1, m.f0 _ (by decide +kernel), _, rfl, ?_⟩
    refine ⟨_, rfl, x, M, dx, fs, _, rfl, hx1, TM.cl, TM.n4, m.f4, _, rfl, x, M, dx, fs, _, rfl, hx1, TM.cl, TM.n6, m.f6, ?_⟩
    exact ⟨x, N, rr, bb, true, false, false, d, ks, outP z ps, ps, rs, rs, bs, bs, ys, zs, rfl, MapAt.grew g1 hP hM, g1.tab, SqL.of hN', SqT.of (g1.tup hP m.r), Paired.map' m.ry fun _ _ m => (m.grew g1 hP).gen, SqT.of (g1.tup hP m.b), Paired.map' m.bz fun _ _ m => m.grew g1 hP, sm_less hI.ok.sm (fun x hx => (List.mem_filter.mp hx).1) (fun _ h => h) (fun _ h => h) (List.length_filter_le _ _) (Nat.le_refl _) (Nat.le_refl _), k.on g1⟩
abbrev nWB : List Str := ["self", "first", "second"]
theorem scWB : FnScope nWB ["self", "first", "second"] (defScope sWithB) := ⟨rfl, rfl, rfl, by decide +kernel, rfl, by decide +kernel, by decide +kernel⟩
theorem ok_withBX {f fW fC M U : Addr} {fd fdW fdC : FuncData} (F : Fun K "with_bar" "Map.with_bar" sWithB f fd) (TM : TxtM K M)
    (mC : Meth K M "check_road" fC) (GC : FnOk Pg w K mg base (L2.CX Pg w) 3 fC fdC ["self", "name"] (spCheck K M U)) (bC : Binds K fdC ["self", "name"] [])
    (mW : Meth K M "_with_parts" fW) (GW : FnOk Pg w K mg base (L2.CX Pg w) 7 fW fdW ["self", "places", "roads", "bars"] (spWithPX K M C P)) (bW : Binds K fdW ["self", "places", "roads", "bars"] []) :
    FnOk Pg w K mg base (L2.CX Pg w) 8 f fd ["self", "first", "second"] (spWithBX K M C U P) := by
  refine F.okX scWB (fun vs H Q E h => ?_) (fun cdv A outer s H vs Q E hr h => ?_)
  · obtain ⟨x, a, b, d, ks, ps, rs, bs, rfl, _⟩ := h
    rfl
  · obtain ⟨x, a, b, d, ks, ps, rs, bs, rfl, hla, hlb, hI, kQ, kE1, kE2⟩ := h
    have hM := hI.m
    have hP := hI.t
    have b40 := hI.ok.b.len
    refine ⟨_, (pss_cons (ps_expr (pe_meth (E := E) (pv 0) TM.cl mC GC (hr.mono (by decide)) bC .nil (passes_call (takes_of rfl rfl rfl rfl) (fun _ _ _ _ h => h)) (pa_cons (pv 1) pa_nil)))
      (pss_cons (ps_expr (pe_meth (E := E) (pv 0) TM.cl mC GC (hr.mono (by decide)) bC .nil (passes_call (takes_of rfl rfl rfl rfl) (fun _ _ _ _ h => h)) (pa_cons (pv 2) pa_nil)))
      (pss_one (ps_ret (pe_meth (E := E) (pv 0) TM.cl mW GW (hr.mono (by decide)) bW .nil (passes_call (takes_of rfl rfl rfl rfl) (fun _ _ _ _ h => h)) (pa_cons (pe_fld (pv 0) rfl) (pa_cons (pe_fld (pv 0) rfl) (pa_cons (pe_lst (StX.pa_star (pe_fld (pv 0) rfl) (pa_cons (pe_tup (pa_cons (pv 1) (pa_cons (pv 2) pa_nil))) pa_nil))) pa_nil)))))))), ?_⟩
    obtain ⟨dx, fs, kk, pp, rr, D, bb, D2, ys, zs, hx, m⟩ := id hM
    have lzs := Paired.len m.bz
    refine ⟨_, rfl, x, dx, fs, rfl, hx, m.f0 _ (by decide +kernel), _, rfl, x, a, d, ks, ps, rs, bs, rfl, hla, hM, fun h1 => ?_, fun no => kE1 fun ⟨r, hr, e⟩ => no r hr e⟩
    refine ⟨_, rfl, x, dx, fs, rfl, hx, m.f0 _ (by decide +kernel), _, rfl, x, b, d, ks, ps, rs, bs, rfl, hlb, hM, fun h2 => ?_, fun no => kE2 h1 fun ⟨r, hr, e⟩ => no r hr e⟩
    have k := kQ h1 h2
    refine ⟨_, rfl, x, dx, fs, rfl, hx, m.f0 _ (by decide +kernel), ?_⟩
    refine ⟨_, rfl, x, M, dx, fs, _, rfl, hx, TM.cl, TM.n3, m.f3, _, rfl, x, M, dx, fs, _, rfl, hx, TM.cl, TM.n4, m.f4, _, rfl, x, M, dx, fs, _, rfl, hx, TM.cl, TM.n6, m.f6, bb, _, rfl, .inl (SqT.of m.b), ?_⟩
    refine ⟨_, rfl, _, rfl, (show 2 ≤ sizeLine by decide), fun q nq => ⟨by simp only [List.length_append, List.length_cons, List.length_nil]; rw [sizeLine_eq]; omega, fun L nL => ?_⟩⟩
    have ga := Grew.new hP (o := .tup [.str a, .str b]) nq
    have gb := Grew.new ga.tab (o := .lst (zs ++ [.ref q])) nL
    have g1 := ga.trans gb
    refine ⟨x, pp, rr, L, false, false, true, d, ks, ps, ps, rs, rs, bs ++ [(a, b)], bs, ys, zs ++ [.ref q], rfl, MapAt.grew g1 hP hM, g1.tab, SqT.of (g1.tup hP m.p), SqT.of (g1.tup hP m.r), Paired.map' m.ry fun _ _ m => (m.grew g1 hP).gen, SqL.of upd_same, ?_, ?_, k.on g1⟩
    · exact Paired.app (Paired.map' m.bz fun _ _ m => m.grew g1 hP) (.cons ⟨q, rfl, gb.tup ga.tab upd_same⟩ .nil)
    · obtain ⟨s⟩ := hI.ok.sm
      have q3 := s.bl
      rw [List.length_map] at q3
      refine ⟨⟨s.d, s.kl, s.k, s.pl, s.p, s.rl, s.r, by rw [List.length_map, List.length_append]; show _ + 1 ≤ _; omega, fun b' hb' => ?_⟩⟩
      rw [List.map_append] at hb'
      rcases List.mem_append.mp hb' with h | h
      · exact s.b b' h
      · have e : b' = [a, b] := List.mem_singleton.mp h
        rw [e]
        intro z hz
        simp only [List.mem_cons, List.not_mem_nil, or_false] at hz
        rcases hz with rfl | rfl
        · exact hla
        · exact hlb
abbrev nOB : List Str := ["self", "first", "second", "bars", "bar"]
theorem scOB : FnScope nOB ["self", "first", "second"] (defScope sWoutB) := ⟨rfl, rfl, rfl, by decide +kernel, rfl, by decide +kernel, by decide +kernel⟩
theorem ok_woutBX {f fW fB M U : Addr} {fd fdW fdB : FuncData} (F : Fun K "without_bar" "Map.without_bar" sWoutB f fd) (TM : TxtM K M) (T : TxtE mg K C)
    (mB : Meth K M "is_barred" fB) (GB : FnOk Pg w K mg base (L2.CX Pg w) 4 fB fdB ["self", "first", "second"] (spBarredB K M U P)) (bB : Binds K fdB ["self", "first", "second"] [])
    (mW : Meth K M "_with_parts" fW) (GW : FnOk Pg w K mg base (L2.CX Pg w) 7 fW fdW ["self", "places", "roads", "bars"] (spWithPX K M C P)) (bW : Binds K fdW ["self", "places", "roads", "bars"] []) :
    FnOk Pg w K mg base (L2.CX Pg w) 8 f fd ["self", "first", "second"] (spWoutBX K M C U P) := by
  refine F.okX scOB (fun vs H Q E h => ?_) (fun cdv A outer s H vs Q E hr h => ?_)
  · obtain ⟨x, a, b, d, ks, ps, rs, bs, rfl, _⟩ := h
    rfl
  · obtain ⟨x, a, b, d, ks, ps, rs, bs, rfl, hla, hlb, hoa, hob, hI, kQ, kB, kE1, kE2⟩ := h
    have hM := hI.m
    have hP := hI.t
    have b40 := hI.ok.b.len
    refine ⟨_, (pss_cons (ps_if (pt_not (pt_val (pe_meth (E := E) (pv 0) TM.cl mB GB (hr.mono (by decide)) bB .nil (passes_call (takes_of rfl rfl rfl rfl) (fun _ _ _ _ h => h)) (pa_cons (pv 1) (pa_cons (pv 2) pa_nil))))) (pss_one (ps_raise rfl (takes_of rfl rfl rfl rfl) (SkE.pmk_own1 PySem.F.excBase_ValueError T.xC T.gC T.kC (raises_own T.bC T.tC) (by rfl) (pe_joined (PJ.cons pe_str (PJ.cons (pe_fmt (pv 1)) (PJ.cons pe_str (PJ.cons (pe_fmt (pv 2)) PJ.nil))))))))
        pss_nil)
      (pss_cons (ps_setLc (i := 3) (own := [("bar", 4)]) (g := (gName 4)) rfl scOB.nd rfl rfl (sw_true rfl rfl rfl (by decide +kernel)) (pi_tup (pe_fld (pv 0) rfl)) (blkOk_by (N := nOB) (sc := defScope sWoutB) (by decide +kernel)) (fun _ _ _ _ _ => pg_name (i := 4) scOB.nd rfl (Or.inl rfl)) (fun _ _ _ _ _ => pts_one (pt_cmpR (r := rNeD K) (op_neD hr.units) (pv 4) (pe_tup (pa_cons (pv 1) (pa_cons (pv 2) pa_nil))) (nomark _))) (fun _ _ _ _ _ => (pv 4)))
      (pss_one (ps_ret (pe_meth (E := E) (pv 0) TM.cl mW GW (hr.mono (by decide)) bW .nil (passes_call (takes_of rfl rfl rfl rfl) (fun _ _ _ _ h => h)) (pa_cons (pe_fld (pv 0) rfl) (pa_cons (pe_fld (pv 0) rfl) (pa_cons (pv 3) pa_nil)))))))), ?_⟩
    obtain ⟨dx, fs, kk, pp, rr, D, bb, D2, ys, zs, hx, m⟩ := id hM
    have lzs := Paired.len m.bz
    refine ⟨_, rfl, x, dx, fs, rfl, hx, m.f0 _ (by decide +kernel), _, rfl, _, rfl, x, a, b, d, ks, ps, rs, bs, rfl, hla, hlb, hI, fun h1 h2 H1 g1 => ⟨_, rfl, ?_⟩, kE1, kE2⟩
    by_cases c : (a, b) ∈ bs
    case neg =>
      rw [decide_eq_false c]
      refine iteT ?_
      refine tJs_ok (fun z => (kB h1 h2 c).on g1 _ (Grew.refl g1.tab)) 0 (fun t ht => ?_) (Nat.zero_le _) (by decide)
      simp only [List.mem_cons, List.not_mem_nil, or_false] at ht
      rcases ht with rfl | rfl | rfl | rfl
      · exact short_c (by decide +kernel)
      · exact short_v (y := a) rfl hla
      · exact short_c (by decide +kernel)
      · exact short_v (y := b) rfl hlb
    rw [decide_eq_true c]
    refine iteF ?_
    have k := kQ h1 h2 c
    have hM1 := MapAt.grew g1 hP hM
    have hx1 := g1.get hP hx (fun _ z => by cases z)
    have hba1 := g1.tup hP m.b
    have hbz1 : Paired (GBar H1) bs zs := Paired.map' m.bz fun _ _ m => m.grew g1 hP
    refine ⟨_, rfl, x, M, dx, fs, _, rfl, hx1, TM.cl, TM.n6, m.f6, bb, rfl, ⟨_, SqT.of hba1⟩, fun N nN => lc_tup (K := K) (a := bb) (xs := zs) (fun j H2 => Grew P H1 H2 ∧ ∃ acc, H2 N = some (.lst acc) ∧ Paired (GBar H2) ((bs.take j).filter fun q => !decide (q = (a, b))) acc)
      ⟨Grew.new g1.tab nN, [], upd_same, .nil⟩ (fun j H2 _ p => SqT.of (p.1.tup g1.tab hba1)) (fun j y H2 hj p => ?_) (fun H2 p => ?_)⟩
    · obtain ⟨g2, acc, hN, hacc⟩ := p
      obtain ⟨q, hqj, hbar0⟩ := Paired.at hbz1 hj
      have hbar := hbar0.grew g2 g1.tab
      have hqm := List.mem_of_getElem? hqj
      have tq := hI.ok.txt.b q hqm
      have ft := filter_takeA (p := fun q : Str × Str => !decide (q = (a, b))) hqj
      have ly := Paired.len hacc
      have lj : ((bs.take j).filter fun q => !decide (q = (a, b))).length ≤ 40 := by
        refine Nat.le_trans (List.length_filter_le _ _) ?_
        rw [List.length_take]; omega
      refine ⟨rfl, _, rfl, _, rfl, _, rfl, (show 2 ≤ sizeLine by decide), fun T nT => ?_⟩
      have gT := Grew.new g2.tab (o := .tup [.str a, .str b]) nT
      have hT : GBar (L2.upd H2 T (.tup [.str a, .str b])) (a, b) (.ref T) := ⟨T, rfl, upd_same⟩
      have hN' := gT.lst g2.tab hN
      have hbar' := hbar.grew gT g2.tab
      have sq : ∀ {b : Str × Str}, PyData.strOk b.1 = true → PyData.strOk b.2 = true → SeqAt.shaped (barP b) = true := fun h1 h2 => (Lay.tuple (n := 1) (ds := [.str _, .str _]) fun d hd => by
        simp only [List.mem_cons, List.not_mem_nil, or_false] at hd
        rcases hd with rfl | rfl
        · exact Lay.str h1
        · exact Lay.str h2).shaped (by decide)
      refine ⟨barP q, barP (a, b), hbar'.dp, hT.dp, sq tq.1 tq.2, sq hoa hob, _, rfl, ?_⟩
      have ee : PyData.eqv (barP q) (barP (a, b)) = decide (q = (a, b)) := by
        have e1 : PyData.eqv (barP q) (barP (a, b)) = PyData.eqv (.list ([q.1, q.2].map .str)) (.list ([a, b].map .str)) := by
          show PyData.eqv (.tuple _) (.tuple _) = _
          rw [PyData.eqv, PyData.eqv]
          rfl
        rw [e1, eqv_lists, decide_eq_decide]
        constructor
        · intro e
          exact Prod.ext (List.cons.inj e).1 (List.cons.inj (List.cons.inj e).2).1
        · intro e
          rw [e]
      rw [ee]
      have kb : ∀ {o : HO} {b' : Str × Str} {v : V}, GBar (L2.upd H2 T (.tup [.str a, .str b])) b' v → GBar (L2.upd (L2.upd H2 T (.tup [.str a, .str b])) N o) b' v := fun m => m.upd (fun xs z => by rw [hN'] at z; cases z)
      by_cases cq : q = (a, b)
      · refine if_f (by rw [decide_eq_true cq]; rfl) ⟨g2.trans gT, acc, hN', ?_⟩
        rw [ft, if_neg (by rw [decide_eq_true cq]; decide), List.append_nil]
        exact Paired.map' hacc fun _ _ m => m.grew gT g2.tab
      · refine if_t (by rw [decide_eq_false cq]; rfl) ⟨_, rfl, acc, hN', by rw [sizeLine_eq]; omega, (g2.trans gT).write hN' (fun _ z => by cases z) nN, _, upd_same, ?_⟩
        rw [ft, if_pos (by rw [decide_eq_false cq]; rfl)]
        exact Paired.snoc (Paired.map' hacc fun _ _ m => kb (m.grew gT g2.tab)) (kb hbar')
    obtain ⟨g2, acc, hN, hacc⟩ := p
    rw [← lzs, List.take_length] at hacc
    have hacc' : Paired (GBar H2) (outB a b bs) acc := hacc
    have g02 := g1.trans g2
    have hx2 := g02.get hP hx (fun _ z => by cases z)
    refine ⟨_, rfl, x, dx, fs, rfl, hx2, m.f0 _ (by decide +kernel), ?_⟩
    refine ⟨_, rfl, x, M, dx, fs, _, rfl, hx2, TM.cl, TM.n3, m.f3, _, rfl, x, M, dx, fs, _, rfl, hx2, TM.cl, TM.n4, m.f4, _, rfl, ?_⟩
    exact ⟨x, pp, rr, N, false, false, true, d, ks, ps, ps, rs, rs, outB a b bs, bs, ys, acc, rfl, MapAt.grew g02 hP hM, g02.tab, SqT.of (g02.tup hP m.p), SqT.of (g02.tup hP m.r), Paired.map' m.ry fun _ _ m => (m.grew g02 hP).gen, SqL.of hN, hacc', sm_less hI.ok.sm (fun _ h => h) (fun _ h => h) (fun x hx => (List.mem_filter.mp hx).1) (Nat.le_refl _) (Nat.le_refl _) (List.length_filter_le _ _), k.on g02⟩
end
end W

set_option Elab.async false
set_option linter.all false
set_option maxRecDepth 100000
set_option maxHeartbeats 1000000
namespace MyR
open PySem PySem.Spec PyProof.Rows L2
/-! ### try: .. except A as n: .. except B as n: .. -/
/-- the ends of a clause's suite: n is gone behind it -/
def offS (i : Nat) (D : Ends) : Ends := { nx := fun σ H => D.nx (σ.set i none) H, rt := D.rt, bk := fun σ H => D.bk (σ.set i none) H, ct := fun σ H => D.ct (σ.set i none) H }
abbrev Suite := Addr → Value → Option Addr → TS
def wAll (K : PySem.W.Frag) (i : Nat) (Wout : WX) (D : Ends) : List (Value × Suite) → WX
  | [] => Wout
  | p :: l => fun cls d σ H => ∃ b, PySem.W.exmOne K cls p.1 = some b ∧ (b = true → ∀ a, H a = none → p.2 a cls d (offS i D) (σ.set i (some (.ref a))) H) ∧ (b = false → wAll K i Wout D l cls d σ H)
inductive Clauses (X : Cx) (n : Str) : List ExceptHandler → List (Value × Suite) → Prop
  | nil : Clauses X n [] []
  | cons {x : Str} {c : Value} {ts : Suite} {s0 : Stmt} {ss : List Stmt} {p1 p2 : Pos} {hs : List ExceptHandler} {l : List (Value × Suite)} (hc : Names X x c)
      (run : ∀ (a : Addr) (o : Obj) (cls : Value) (d : Option Addr) (pn : List (Addr × Obj)), Zc cls d o → (∃ vs, o.data = .fields vs) → PSs (X.suite a ((a, o) :: pn)) (s0 :: ss) (ts a cls d)) (r : Clauses X n hs l) :
      Clauses X n (.ExceptHandler (some (.Name x p1)) (some n) (s0 :: ss) p2 :: hs) ((c, ts) :: l)
section
variable {X : Cx} {n : Str} {i : Nat} {body : List Stmt} {h0 : ExceptHandler} {hs : List ExceptHandler} {l : List (Value × Suite)} {pos : Pos} {tb : WX → TS} {Wout : WX}
theorem ps_try_all (st : X.stack = X.env :: X.outer) (fr : X.env.frame = some X.env.locals) (nd : X.N.Nodup) (at_ : X.N[i]? = some n) (loc : X.env.kindOf n = some .local) (tk : Takes X Wout)
    (hb : ∀ (W : WX) (pn : List (Addr × Obj)) (xe : Value → Shared → Prop), Takes (X.tr pn xe) W → PassesOwn (model X.prog X.w) X.A X.env xe → PSs (X.tr pn xe) body (tb W)) (hh : Clauses X n (h0 :: hs) l) :
    PS X (.Try body (h0 :: hs) [] [] pos) (fun D σ H => tb (wAll X.K i Wout D l) D σ H) := by
  refine ⟨fun pins s σ H D I h => wpAny_Try_except ?_⟩
  have ok := I.ok
  have af : X.A.frames = some (X.env :: X.outer) := by rw [ok.frames, st]
  -- what the catch does with an exception
  obtain ⟨catch_, ec⟩ : ∃ c : Value → Shared → Prop, c = fun e z => wpAny (model X.prog X.w) X.A (noteFrame e X.env) (fun _ z2 => wpAny (model X.prog X.w) X.A (setFlight e none) (fun _ z3 =>
    wpAny (model X.prog X.w) X.A (handleBy e X.env (h0 :: hs)) (SP X pins D) X.xe z3) X.xe z2) X.xe z := ⟨_, rfl⟩
  have T : Takes (X.tr (X.pn ++ pins) catch_) (wAll X.K i Wout D l) := fun u z thrown => by
    obtain ⟨a, B, zI, pins', σ', H', cls, d, rfl, J0, nb, up, sky0, na, os, ag, wish⟩ := thrown
    have J : Inv X pins σ' H' zI := J0.ofTry ok
    have sky : Sky B (X.env :: X.outer) a (Zc cls d) X.env.locals z.heap := by rw [← st]; exact sky0
    rw [ec]
    refine Sky.land Zc.steady af fr sky fun k1 fl1 up1 => ?_
    have J1 : Inv X pins σ' H' { z with heap := k1 } := J.landed nb fl1.1 (up.trans up1) os ag
    obtain ⟨o1, vs1, g1, z1, d1⟩ := fl1.there
    have out : a ∉ frs (X.env :: X.outer) := fun hm => by
      obtain ⟨_, o', e', hnf⟩ := fl1.2.2.1.mem hm
      rw [g1] at e'
      cases e'
      exact hnf _ d1
    have neL : a ≠ X.env.locals := fun e => out (List.mem_filterMap.mpr ⟨X.env, List.mem_cons_self, by rw [fr, e]⟩)
    have neF : a ∉ X.fs := fun hm => by
      obtain ⟨e, he, q⟩ := List.mem_filterMap.mp hm
      exact out (List.mem_filterMap.mpr ⟨e, List.mem_cons_of_mem _ he, q⟩)
    have S1 := J1.suite g1 d1 na neL neF
    suffices go : ∀ {hs' : List ExceptHandler} {l' : List (Value × Suite)}, Clauses X n hs' l' → wAll X.K i Wout D l' cls d σ' H' → wpAny (model X.prog X.w) X.A (handleBy (.ref a) X.env hs') (SP X pins D) X.xe { z with heap := k1 } from go hh wish
    intro hs' l' hk
    induction hk with
    | nil =>
      intro wo
      refine wpAny_handleBy_nil ?_
      obtain ⟨_, _, _, o2, vs2, T2, oT2, ts2, g2, z2, d2, f2, _⟩ := id fl1
      unfold PySem.passOn
      refine wpAny_bind (wpAny_field g2 d2 f2 ?_)
      rw [if_neg (show ¬ ((Value.ref T2 == Value.none) = true) from by simp)]
      have last : wpAny (model X.prog X.w) X.A (setFlight (.ref a) X.env.frame) (fun _ z4 => wpAny (model X.prog X.w) X.A (throw (.ref a) : Sem Flow) (SP X pins D) X.xe z4) X.xe { z with heap := k1 } := by
        rw [fr]
        exact HandSPX.setFlight_upZ fl1 fun k2 sky2 up2 => wpAny_throw (tk _ _ ⟨a, B, zI, pins, σ', H', cls, d, rfl, J, nb, (up.trans up1).trans up2, .inr (.inr (by rw [st]; exact sky2)), na, os, ag, wo⟩)
      first
        | exact wpAny_bind (wpAny_pure (wpAny_bind last))
        | exact wpAny_bind last
    | @cons x c ts s0 ss p1 p2 hs2 l2 hc run r ih =>
      rintro ⟨b, eb, yes, no⟩
      refine wpAny_handleBy_cons (codeAny_handlers_test ?_) (by intro q; cases q)
      have fits := PySem.W.exm_one (M := model X.prog X.w) J1.kIn (fun A Q E z k q => wpAny_typeOf_ref (k _ _ g1) (by rw [z1.1]; exact q)) eb
      have named : ∀ {Q E : Value → Shared → Prop}, Q c { z with heap := k1 } → wpAny (model X.prog X.w) (X.A.mark (some (.ref a))) (eval (.Name x p1) X.env) Q E { z with heap := k1 } := fun {Q E} q => by
        obtain ⟨gl, db, m | ⟨m, v, nn⟩⟩ := hc
        · exact ld_glob (X := X.suite a ((a, o1) :: (X.pn ++ pins))) S1 gl m q db
        · exact ld_blt (X := X.suite a ((a, o1) :: (X.pn ++ pins))) S1 gl m v q nn db
      refine named (fits.here ?_)
      cases b with
      | false => exact ih (no rfl)
      | true =>
        refine codeAny_handlers_suite_as (HandSPX.lands_againZ fl1 fun k2 fl2 up2 => ?_)
        have J2 : Inv X pins σ' H' { z with heap := k2 } := J.landed nb fl2.1 ((up.trans up1).trans up2) os ag
        obtain ⟨o2, vs2, g2, z2, d2⟩ := fl2.there
        refine store_ok (X := X.suite a ((a, o2) :: (X.pn ++ pins))) (v := .ref a) (J2.suite g2 d2 na neL neF) nd at_ (.inl loc) rfl (fun z5 S5 => ?_) (.inr loc)
        refine wpAny_mono ((run a o2 cls d (X.pn ++ pins) z2 ⟨_, d2⟩).run [] z5 _ H' _ S5 (yes rfl a na)) (fun fl z6 hs6 => ?_) (fun _ _ q => False.elim q)
        have bare : ∀ {σ6 : L2.St} {H6 : Hp} {R : Shared → Prop}, Inv (X.suite a ((a, o2) :: (X.pn ++ pins))) [] σ6 H6 z6 → (∀ z7, Inv X pins (σ6.set i none) H6 z7 → R z7) →
          wpAny (model X.prog X.w) X.A (do bindName X.env n .none; unbindBehindTheSuite X.env n p2) (fun _ z7 => R z7) X.xe z6 := fun {σ6 H6 R} S6 q => gone_ok (S6.unsuite ok) nd at_ loc q
        match fl, hs6 with
        | .next, ⟨_, _, S6, q⟩ => exact bare S6 fun _ J7 => ⟨_, _, J7, q⟩
        | .brk, ⟨_, _, S6, q⟩ => exact bare S6 fun _ J7 => ⟨_, _, J7, q⟩
        | .cont, ⟨_, _, S6, q⟩ => exact bare S6 fun _ J7 => ⟨_, _, J7, q⟩
        | .ret u, ⟨_, _, _, S6, rv, q⟩ => exact bare S6 fun _ J7 => ⟨_, _, _, J7, rv, q⟩
  have P : PassesOwn (model X.prog X.w) X.A X.env catch_ := by
    rw [ec]
    exact PassesOwn.looking
  refine wpAny_mono (((hb _ (X.pn ++ pins) catch_ T P).run [] s σ H D (I.toTry _) h)) (fun fl z hsp => ?_) (fun e z he => by
    have he' : catch_ e z := he
    rw [ec] at he'
    exact he')
  match fl, hsp with
  | .next, ⟨_, _, J, q⟩ => exact wpAny_execs_nil ⟨_, _, J.ofTry ok, q⟩
  | .brk, ⟨_, _, J, q⟩ => exact ⟨_, _, J.ofTry ok, q⟩
  | .cont, ⟨_, _, J, q⟩ => exact ⟨_, _, J.ofTry ok, q⟩
  | .ret u, ⟨_, _, _, J, rv, q⟩ => exact ⟨_, _, _, J.ofTry ok, rv, q⟩
end
end MyR

set_option Elab.async false
set_option linter.all false
set_option maxRecDepth 100000
set_option maxHeartbeats 4000000
set_option exponentiation.threshold 2000
namespace W
open PySem PySem.Spec PyProof.Rows L2 GxR MyG MyS SqX MyR
/-! ### data, the heap grown -/
mutual
theorem Dp.gr {K : PySem.W.Frag} {P : Addr} {H H' : Hp} (g : Grew P H H') (hP : TabG H P) : ∀ (d : PyData) (v : V), Dp K H v d → Dp K H' v d
  | .none, _, h => by cases h; exact .non
  | .bool b, _, h => by cases h; exact .bl b
  | .int i, _, h => by cases h; exact .int i
  | .str x, _, h => by cases h; exact .str x
  | .list ds, _, h => by
    cases h with
    | lst hs ha => exact .lst (g.sqL hP hs) (Dp.grs g hP ds _ ha)
  | .tuple ds, _, h => by
    cases h with
    | tup hs ha => exact .tup (g.sqT hP hs) (Dp.grs g hP ds _ ha)
  | .dict _, _, h => by cases h
theorem Dp.grs {K : PySem.W.Frag} {P : Addr} {H H' : Hp} (g : Grew P H H') (hP : TabG H P) : ∀ (ds : List PyData) (vs : List V), DpAll K H vs ds → DpAll K H' vs ds
  | [], _, h => by cases h; exact .nil
  | d :: ds, _, h => by
    cases h with
    | cons h1 h2 => exact .cons (Dp.gr g hP d _ h1) (Dp.grs g hP ds _ h2)
end
/-! ### isinstance of a caught error without fields -/
def rIsN (K : PySem.W.Frag) (D a : Addr) (cls : Value) (d : Option Addr) : List V → Hp → VK → Prop := fun xs H Q => ∃ (c : V) (cv : Value) (b : Bool), xs = [.ref a, c] ∧ cls = .ref D ∧ d = none ∧ (∀ u, RelV c u → u = cv) ∧ PySem.W.kitOne K (.ref D) cv = some b ∧ Q (.bl b) H
theorem call_isN {X : Cx} {a D : Addr} {cls : Value} {d : Option Addr} {oe : Obj} {pn : List (Addr × Obj)} (C : ExcD X.K D) (hz : Zc cls d oe) (hf : ∃ vs, oe.data = .fields vs) : CallR (X.suite a ((a, oe) :: pn)) (.builtin "isinstance") (rIsN X.K D a cls d) := by
  intro pins s σ H xs us Q I r h
  obtain ⟨c, cv, b, rfl, rfl, rfl, hcv, e, q⟩ := h
  obtain ⟨u1, u2, rfl, r1, r2⟩ := vals2 r
  obtain rfl : u1 = Value.ref a := r1
  obtain rfl : u2 = cv := hcv _ r2
  obtain ⟨hget, _⟩ := I.pin (a, oe) (List.mem_append.mpr (.inl List.mem_cons_self))
  obtain ⟨vs, hd⟩ := hf
  have J : PySem.W.InstAt s.heap a oe D none := ⟨hget, hz.1, by unfold PySem.W.notCls; rw [hd] <;> rfl, by rw [hz.2]; trivial⟩
  exact PySem.W.kia_one (PySem.W.kitx_exc C.cl C.hg C.hk C.hs C.ha C.hn C.ht C.hm) I.kIn J e (fun z => nomatch z) fun tk => ⟨.bl b, H, I.kept (t' := tk) fun _ _ z => z, rfl, q⟩
theorem pe_gC {X : Cx} {x : Str} {A : Addr} {pos : Pos} (hm : X.mg x = some (.ref A)) (hg : Gl X x := by rfl) (hd : (x == ("__debug__" : Str)) = false := by decide) : PE X (.Name x pos) (tC (.ref A)) := pe_glob hg hm rfl hd
/-! ### _law_made of whatever parts -/
def spLMadeX (K : PySem.W.Frag) (M C P : Addr) : Sp := fun vs H Q E => ∃ (p : Addr) (d : Int) (ks ps : List Str) (rs : List RoadD) (bs : List (Str × Str)), vs = [.ref p] ∧ PartsL H p d ks ps rs bs ∧ PartsSm d ks ps rs bs ∧ TabG H P ∧
  (PartsOk d ks ps rs bs → ∀ x, MadeQ K M P x H d ks ps rs bs fun H' => Q (.ref x) H') ∧ (¬ PartsOk d ks ps rs bs → BadM C P H E)
/-- what both answer: the parts as a map keeps them, or a word -/
def zInv : Str := "invalid"
def ansP (d : Int) (ks ps : List Str) (rs : List RoadD) (bs : List (Str × Str)) : PyData := .list [.int d, .tuple (ps.map .str), .tuple (ks.map .str), .tuple (rs.map roadP), .tuple (bs.map barP)]
def AnsD (d : Int) (ks ps : List Str) (rs : List RoadD) (bs : List (Str × Str)) (D : PyData) : Prop :=
  (PartsOk d ks ps rs bs ∧ ∃ ks' ps' rs' bs', Srt ks ps rs bs ks' ps' rs' bs' ∧ D = ansP d ks' ps' rs' bs') ∨ (¬ PartsOk d ks ps rs bs ∧ D = .str zInv)
theorem AnsD.one {d : Int} {ks ps : List Str} {rs : List RoadD} {bs : List (Str × Str)} {D1 D2 : PyData} (h1 : AnsD d ks ps rs bs D1) (h2 : AnsD d ks ps rs bs D2) : D1 = D2 := by
  rcases h1 with ⟨o, k1, p1, r1, b1, s1, e1⟩ | ⟨n, e1⟩ <;> rcases h2 with ⟨o2, k2, p2, r2, b2, s2, e2⟩ | ⟨n2, e2⟩
  · obtain ⟨rfl, rfl, rfl, rfl⟩ := Srt.one o.r.nd s1 s2
    rw [e1, e2]
  · exact absurd o n2
  · exact absurd o2 n
  · rw [e1, e2]
theorem lay_listD {n : Nat} {ds : List PyData} (h : ∀ d ∈ ds, Lay n d) : Lay (n + 1) (.list ds) := by
  obtain ⟨a, b⟩ := lay_all h
  refine ⟨by simpa [PyData.canLay0] using a, ?_⟩
  simp only [PyData.depth]
  omega
theorem AnsD.lay {d : Int} {ks ps : List Str} {rs : List RoadD} {bs : List (Str × Str)} {D : PyData} (h : AnsD d ks ps rs bs D) : Lay 6 D := by
  rcases h with ⟨o, k1, p1, r1, b1, s1, rfl⟩ | ⟨_, rfl⟩
  · have tx := o.txt.srt s1
    refine lay_listD fun x hx => ?_
    simp only [List.mem_cons, List.not_mem_nil, or_false] at hx
    rcases hx with rfl | rfl | rfl | rfl | rfl
    · exact (Lay.int d).mono (by decide)
    · exact (lay_strs tx.p).mono (by decide)
    · exact (lay_strs tx.k).mono (by decide)
    · exact lay_roads tx.r
    · exact (lay_bars tx.b).mono (by decide)
  · exact (Lay.str (by decide +kernel)).mono (by decide)
abbrev sMadeDue : Stmt := top 43
def spMadeDue (K : PySem.W.Frag) (P : Addr) : Sp := fun vs H Q _ => ∃ (p : Addr) (d : Int) (ks ps : List Str) (rs : List RoadD) (bs : List (Str × Str)), vs = [.ref p] ∧ PartsL H p d ks ps rs bs ∧ PartsSm d ks ps rs bs ∧ TabG H P ∧
  ∀ H' v D, Grew P H H' → AnsD d ks ps rs bs D → Dp K H' v D → (∀ a, v = .ref a → H a = none ∧ H' a ≠ none) → Q v H'
section
variable {Pg : Program} {w : World} {K : PySem.W.Frag} {mg : Str → Option Value} {base : Heap} {C P : Addr}
theorem ok_lmadeX {f fI M : Addr} {fd fdI : FuncData} {mv : List Value} (F : Fun K "_law_made" "_law_made" sLMade f fd) (hls : mg "list" = none) (Mk : L2.Mk K M fI) (gM : mg "Map" = some (.ref M))
    (GI : FnOk Pg w K mg base (L2.CX Pg w) 5 fI fdI pInit (spInitX K M C P)) (kb : KBn K fdI pInit 1 kMapA (fun us ws => gMapA us mv ws) (fun vs zs => gMapA vs (([] : List (Str × V)).map (·.2)) zs)) :
    FnOk Pg w K mg base (L2.CX Pg w) 7 f fd ["parts"] (spLMadeX K M C P) := by
  refine F.okX scLMade (fun vs H Q E h => ?_) (fun cdv A outer s H vs Q E hr h => ?_)
  · obtain ⟨p, d, ks, ps, rs, bs, rfl, _⟩ := h
    rfl
  · obtain ⟨p, d, ks, ps, rs, bs, rfl, ⟨pl, ki, ro, ba, xs, zs, hp, hpl, hki, hro, hrs, hba, hbs⟩, sm, hP, k, kE⟩ := h
    refine ⟨_, pss_one (ps_ret (pe_makeK0 (E := E) Mk GI (hr.mono (by decide)) (by rfl) gM kb (passes_call (takes_of rfl rfl rfl rfl) (fun _ _ _ _ h => h)) (pk_cons (pe_ix (r := rIxT K) ix_tup (pv 0) pe_int (fun _ _ => rfl)) (pk_cons (pe_callTy call_list_of (by rfl) hls (by decide +kernel) (pa_cons (pe_ix (r := rIxT K) ix_tup (pv 0) pe_int (fun _ _ => rfl)) pa_nil)) (pk_cons (pe_callTy call_list_of (by rfl) hls (by decide +kernel) (pa_cons (pe_ix (r := rIxT K) ix_tup (pv 0) pe_int (fun _ _ => rfl)) pa_nil))
        (pk_cons (pe_callTy call_list_of (by rfl) hls (by decide +kernel) (pa_cons (pe_ix (r := rIxT K) ix_tup (pv 0) pe_int (fun _ _ => rfl)) pa_nil)) (pk_cons (pe_callTy call_list_of (by rfl) hls (by decide +kernel) (pa_cons (pe_ix (r := rIxT K) ix_tup (pv 0) pe_int (fun _ _ => rfl)) pa_nil)) pk_nil))))))), ?_⟩
    refine ⟨_, rfl, p, _, 0, _, rfl, rfl, SqT.of hp, rfl, ?_⟩
    refine ⟨_, rfl, p, _, 1, _, rfl, rfl, SqT.of hp, rfl, pl, _, rfl, .inl (SqL.of hpl), fun k1 n1 => ?_⟩
    have g1 := Grew.new hP (o := .lst (ps.map V.str)) n1
    refine ⟨_, rfl, p, _, 2, _, rfl, rfl, SqT.of (g1.tup hP hp), rfl, ki, _, rfl, .inl (SqL.of (g1.lst hP hki)), fun k2 n2 => ?_⟩
    have g2 := Grew.new g1.tab (o := .lst (ks.map V.str)) n2
    have g12 := g1.trans g2
    refine ⟨_, rfl, p, _, 3, _, rfl, rfl, SqT.of (g12.tup hP hp), rfl, ro, _, rfl, .inl (SqL.of (g12.lst hP hro)), fun k3 n3 => ?_⟩
    have g3 := Grew.new g12.tab (o := .lst xs) n3
    have g13 := g12.trans g3
    refine ⟨_, rfl, p, _, 4, _, rfl, rfl, SqT.of (g13.tup hP hp), rfl, ba, _, rfl, .inl (SqL.of (g13.lst hP hba)), fun k4 n4 => ?_⟩
    have g4 := Grew.new g13.tab (o := .lst zs) n4
    have g14 := g13.trans g4
    refine ⟨rfl, rfl, fun x dx nx ndx nex => ?_⟩
    have e1 := (g2.trans (g3.trans g4)).lst g1.tab (b := k1) (xs := ps.map V.str) upd_same
    have e2 := (g3.trans g4).lst g12.tab (b := k2) (xs := ks.map V.str) upd_same
    have e3 := g4.lst g13.tab (b := k3) (xs := xs) upd_same
    refine initG_of (ck := true) (cp := true) (cr := true) (cb := true) (xs := xs) (zs := zs) g14.tab nx ndx nex (SqL.of e2) (SqL.of e1) (SqL.of e3) (paired_mapl (fun _ _ m => (m.grew g14 hP).gen) hrs) (SqL.of upd_same) (Paired.map' hbs fun _ _ m => (m.grew g14 hP).gen) sm (fun ok H' ks' ps' rs' bs' g5 nx' q hm => ⟨rfl, ?_⟩) (fun no => (kE no).on g14)
    exact k ok x H' ks' ps' rs' bs' (g14.trans g5) (g14.free nx) q hm
theorem scMD : FnScope ["parts"] ["parts"] (defScope sMadeDue) := ⟨rfl, rfl, rfl, by decide +kernel, rfl, by decide +kernel, by decide +kernel⟩
theorem dp_tstr {H : Hp} {a : Addr} {ns : List Str} (h : H a = some (.tup (ns.map V.str))) : Dp K H (.ref a) (.tuple (ns.map .str)) := .tup (SqT.of h) (dpAll_strs ns)
theorem ok_madeDue {f fM fZ M : Addr} {fd fdM fdZ : FuncData} (F : Fun K "_law_made_due" "_law_made_due" sMadeDue f fd) (hls : mg "list" = none) (gC : mg "InvalidMap" = some (.ref C)) (eC : PySem.W.exmOne K (.ref C) (.ref C) = some true)
    (GM : FnOk Pg w K mg base (L2.CX Pg w) 7 fM fdM ["parts"] (spLMadeX K M C P)) (gM : mg "_law_made" = some (.ref fM)) (kM : PySem.W.keepIn K (.ref fM) = true) (bM : Binds K fdM ["parts"] [])
    (GZ : FnOk Pg w K mg base CX0 1 fZ fdZ ["parts"] (spLFrozen K P)) (gZ : mg "_law_frozen" = some (.ref fZ)) (kZ : PySem.W.keepIn K (.ref fZ) = true) (bZ : Binds K fdZ ["parts"] []) :
    FnOk Pg w K mg base CX0 8 f fd ["parts"] (spMadeDue K P) := by
  refine F.ok scMD (fun vs H Q E h => ?_) (fun cdv A outer s H vs Q E hr h => ?_)
  · obtain ⟨p, d, ks, ps, rs, bs, rfl, _⟩ := h
    rfl
  · obtain ⟨p, d, ks, ps, rs, bs, rfl, hp, sm, hP, kQ⟩ := h
    refine ⟨_, pss_cons (ps_try_only (Wout := fun _ _ _ _ => False) (c := .ref C) rfl rfl ⟨rfl, by decide, .inl gC⟩ takes0
        (fun W pn xe tk _ => pss_one (ps_expr (pe_callS GM (hr.mono (by decide)) rfl gM kM bM (fun σ => passAt tk σ) (pa_cons (pv 0) pa_nil))))
        (fun a oe cls dd pn hz hf => pss_one (ps_ret pe_str)))
      (pss_one (ps_ret (pe_callTy call_list_of (by rfl) hls (by decide +kernel) (pa_cons (pe_call GZ (hr.mono (by decide)) (by rfl) gZ kZ bZ .nil pass0 (pa_cons (pv 0) pa_nil)) pa_nil)))), ?_⟩
    refine ⟨_, rfl, p, d, ks, ps, rs, bs, rfl, hp, sm, hP, fun ok x H1 k1 p1 r1 b1 g1 nx S1 hm1 => ?_, fun no H1 g1 => ?_⟩
    · refine ⟨_, rfl, p, d, ks, ps, rs, bs, rfl, hp.grew g1 hP, ok, g1.tab, fun H2 q ks' ps' rs' bs' g2 nq S2 hq => ?_⟩
      obtain ⟨qpl, qki, qro, qba, xs, zs, e0, e1, e2, e3, e4, e5, e6⟩ := id hq
      refine ⟨q, _, rfl, .inr (SqT.of e0), fun L nL => ?_⟩
      have gL := Grew.new g2.tab (o := .lst [.int d, .ref qpl, .ref qki, .ref qro, .ref qba]) nL
      refine kQ _ _ _ (g1.trans (g2.trans gL)) (.inl ⟨ok, ks', ps', rs', bs', S2, rfl⟩) (.lst (SqL.of upd_same) ?_) (fun a e => by injection e with e; rw [← e]; exact ⟨(g1.trans g2).free nL, by rw [upd_same]; simp⟩)
      exact .cons (.int _) (.cons (dp_tstr (gL.tup g2.tab e1)) (.cons (dp_tstr (gL.tup g2.tab e2)) (.cons (.tup (SqT.of (gL.tup g2.tab e3)) (dpAll_of (fun _ _ q => q.dp) (Paired.map' e4 fun _ _ m => m.grew gL g2.tab))) (.cons (.tup (SqT.of (gL.tup g2.tab e5)) (dpAll_of (fun _ _ q => q.dp) (Paired.map' e6 fun _ _ m => m.grew gL g2.tab))) .nil))))
    · refine ⟨true, eC, fun _ a na => ?_, fun q => Bool.noConfusion q⟩
      exact kQ _ _ _ g1 (.inr ⟨no, rfl⟩) (.str _) (fun a e => by cases e)
end
end W

set_option Elab.async false
set_option linter.all false
set_option maxRecDepth 100000
set_option maxHeartbeats 2000000
namespace W
open PySem PySem.Spec PyProof.Rows L2 GxR MyG MyS SqX
/-! ### parts in another order, parts as a map keeps them -/
theorem paired_rev {α β : Type} {F : α → β → Prop} {l : List α} {m : List β} (h : Paired F l m) : Paired F l.reverse m.reverse := by
  induction h with
  | nil => exact .nil
  | cons a _ ih =>
    rw [List.reverse_cons, List.reverse_cons]
    exact Paired.snoc ih a
theorem all_perm {α : Type} {f : α → Bool} {l m : List α} (p : l.Perm m) (h : m.all f = true) : l.all f = true := List.all_eq_true.mpr fun x hx => List.all_eq_true.mp h x (p.mem_iff.mp hx)
theorem roadOk_in {d : Int} {ps ks ps' ks' : List Str} {r : RoadD} (h : RoadOk d ps ks r) (hp : ∀ z ∈ ps, z ∈ ps') (hk : ∀ z ∈ ks, z ∈ ks') : RoadOk d ps' ks' r := ⟨hp _ h.s, hp _ h.g, h.m1, h.m2, fun z hz => hk _ (h.u z hz), h.un, h.ud, h.h⟩
theorem partsOk_perm {d : Int} {ks ps ks' ps' : List Str} {rs rs' : List RoadD} {bs bs' : List (Str × Str)} (h : PartsOk d ks ps rs bs) (hk : ks'.Perm ks) (hp : ps'.Perm ps) (hr : rs'.Perm rs) (hb : bs'.Perm bs) : PartsOk d ks' ps' rs' bs' := by
  refine ⟨h.d1, h.d2, by rw [hk.length_eq]; exact h.k1, by rw [hk.length_eq]; exact h.k2, by rw [hp.length_eq]; exact h.p2, all_perm hk h.kn, all_perm hp h.pn, hk.nodup_iff.mpr h.kd, hp.nodup_iff.mpr h.pd, ⟨by rw [hr.length_eq]; exact h.r.len, all_perm (hr.map _) h.r.nm, (hr.map _).nodup_iff.mpr h.r.nd, fun r m => roadOk_in (h.r.ok r (hr.mem_iff.mp m)) (fun z => hp.mem_iff.mpr) (fun z => hk.mem_iff.mpr)⟩, ⟨by rw [hb.length_eq]; exact h.b.len, hb.nodup_iff.mpr h.b.nd, fun b m => ?_⟩⟩
  obtain ⟨r1, m1, r2, m2, q⟩ := h.b.ok b (hb.mem_iff.mp m)
  exact ⟨r1, hr.mem_iff.mpr m1, r2, hr.mem_iff.mpr m2, q⟩
theorem partsOk_srt {d : Int} {ks ps ks' ps' : List Str} {rs rs' : List RoadD} {bs bs' : List (Str × Str)} (h : PartsOk d ks ps rs bs) (s : Srt ks ps rs bs ks' ps' rs' bs') : PartsOk d ks' ps' rs' bs' := by
  have ek : ∀ r' ∈ rs', ∃ r ∈ rs, Kept r r' := fun r' hr' => by
    obtain ⟨l, pm, q⟩ := s.r
    exact Paired.mem q (pm.mem_iff.mpr hr')
  have ke : ∀ r ∈ rs, ∃ r' ∈ rs', Kept r r' := fun r hr => by
    obtain ⟨l, pm, q⟩ := s.r
    obtain ⟨i, hi, e⟩ := List.getElem_of_mem hr
    obtain ⟨v, hv, m⟩ := Paired.to q (List.getElem?_eq_some_iff.mpr ⟨hi, e⟩)
    exact ⟨v, pm.mem_iff.mp (List.mem_of_getElem? hv), m⟩
  refine ⟨h.d1, h.d2, by rw [s.k.length_eq]; exact h.k1, by rw [s.k.length_eq]; exact h.k2, by rw [s.p.length_eq]; exact h.p2, all_perm s.k h.kn, all_perm s.p h.pn, s.k.nodup_iff.mpr h.kd, s.p.nodup_iff.mpr h.pd, ⟨by rw [s.r.len]; exact h.r.len, List.all_eq_true.mpr fun z hz => ?_, s.r.nodup h.r.nd, fun r' m => ?_⟩, ⟨by rw [s.b.length_eq]; exact h.b.len, s.b.nodup_iff.mpr h.b.nd, fun b m => ?_⟩⟩
  · obtain ⟨r', hr', rfl⟩ := List.mem_map.mp hz
    obtain ⟨r, hr, k⟩ := ek r' hr'
    show isNm r'.name = true
    rw [k.1]
    exact List.all_eq_true.mp h.r.nm _ (List.mem_map.mpr ⟨r, hr, rfl⟩)
  · obtain ⟨r, hr, k1, k2, k3, k4, k5, k6, k7⟩ := ek r' m
    have o := h.r.ok r hr
    exact ⟨s.p.mem_iff.mpr (by rw [k2]; exact o.s), s.p.mem_iff.mpr (by rw [k3]; exact o.g), by rw [k4]; exact o.m1, by rw [k4]; exact o.m2, fun z hz => s.k.mem_iff.mpr (o.u z (k6.mem_iff.mp hz)), by rw [k6.length_eq]; exact o.un, k6.nodup_iff.mpr o.ud, by rw [k5]; exact o.h⟩
  · obtain ⟨r1, m1, r2, m2, e1, e2, e3⟩ := h.b.ok b (s.b.mem_iff.mp m)
    obtain ⟨s1, n1, k1⟩ := ke r1 m1
    obtain ⟨s2, n2, k2⟩ := ke r2 m2
    exact ⟨s1, n1, s2, n2, by rw [k1.1]; exact e1, by rw [k2.1]; exact e2, by rw [k1.2.2.1, k2.2.1]; exact e3⟩
theorem kept_trans {a b c : RoadD} (h1 : Kept a b) (h2 : Kept b c) : Kept a c := ⟨h2.1.trans h1.1, h2.2.1.trans h1.2.1, h2.2.2.1.trans h1.2.2.1, h2.2.2.2.1.trans h1.2.2.2.1, h2.2.2.2.2.1.trans h1.2.2.2.2.1, h2.2.2.2.2.2.1.trans h1.2.2.2.2.2.1, h2.2.2.2.2.2.2⟩
theorem paired_trans {α β γ : Type} {F : α → β → Prop} {G : β → γ → Prop} {R : α → γ → Prop} (u : ∀ a b c, F a b → G b c → R a c) : ∀ {l : List α} {m : List β} {n : List γ}, Paired F l m → Paired G m n → Paired R l n
  | _, _, _, .nil, h => by cases h; exact .nil
  | _, _, _, .cons a r, h => by
    cases h with
    | cons b s => exact .cons (u _ _ _ a b) (paired_trans u r s)
theorem keptAll_trans {a b c : List RoadD} (h1 : KeptAll a b) (h2 : KeptAll b c) : KeptAll a c := by
  obtain ⟨l, p, q⟩ := h1
  obtain ⟨m, p2, q2⟩ := h2
  -- a ~Kept~ l, l ~ b, b ~Kept~ m, m ~ c
  obtain ⟨m', p3, q3⟩ := Paired.perm p (paired_flip (G := fun y x => Kept x y) (fun _ _ h => h) q2)
  have q4 : Paired Kept l m' := paired_flip (fun _ _ h => h) q3
  exact ⟨m', p3.trans p2, paired_trans (F := Kept) (G := Kept) (R := Kept) (fun _ _ _ h1 h2 => kept_trans h1 h2) q q4⟩
theorem Srt.trans {ks ps ks1 ps1 ks2 ps2 : List Str} {rs rs1 rs2 : List RoadD} {bs bs1 bs2 : List (Str × Str)} (h1 : Srt ks ps rs bs ks1 ps1 rs1 bs1) (h2 : Srt ks1 ps1 rs1 bs1 ks2 ps2 rs2 bs2) : Srt ks ps rs bs ks2 ps2 rs2 bs2 :=
  ⟨h2.k.trans h1.k, h2.ka, h2.p.trans h1.p, h2.pa, keptAll_trans h1.r h2.r, h2.ra, h2.b.trans h1.b, h2.ba⟩
theorem Srt.rev {ks ps ks2 ps2 : List Str} {rs rs2 : List RoadD} {bs bs2 : List (Str × Str)} (h : Srt ks.reverse ps.reverse rs.reverse bs.reverse ks2 ps2 rs2 bs2) : Srt ks ps rs bs ks2 ps2 rs2 bs2 := by
  refine ⟨h.k.trans (List.reverse_perm _), h.ka, h.p.trans (List.reverse_perm _), h.pa, ?_, h.ra, h.b.trans (List.reverse_perm _), h.ba⟩
  obtain ⟨l, p, q⟩ := h.r
  have q2 := paired_rev q
  rw [List.reverse_reverse] at q2
  exact ⟨l.reverse, (List.reverse_perm l).trans p, q2⟩
theorem srt_bare {ks ks2 ps2 : List Str} {rs2 : List RoadD} {bs2 : List (Str × Str)} (h : Srt ks [] [] [] ks2 ps2 rs2 bs2) : ps2 = [] ∧ rs2 = [] ∧ bs2 = [] := by
  obtain ⟨l, p, q⟩ := h.r
  cases q
  exact ⟨List.perm_nil.mp h.p, List.nil_perm.mp p, List.perm_nil.mp h.b⟩
theorem partsOk_bare {d : Int} {ks ps : List Str} {rs : List RoadD} {bs : List (Str × Str)} (h : PartsOk d ks ps rs bs) : PartsOk d ks [] [] [] :=
  ⟨h.d1, h.d2, h.k1, h.k2, Nat.zero_le _, h.kn, rfl, h.kd, List.nodup_nil, ⟨Nat.zero_le _, rfl, List.nodup_nil, fun r h => (by cases h)⟩, ⟨Nat.zero_le _, List.nodup_nil, fun r h => (by cases h)⟩⟩
end W

set_option Elab.async false
set_option linter.all false
set_option maxRecDepth 100000
set_option maxHeartbeats 4000000
namespace W
open PySem PySem.Spec PyProof.Rows L2 GxR MyG MyS SqX MyR
/-! ### parts that are alike: in another order, users in another order -/
def Alike (r r' : RoadD) : Prop := r'.name = r.name ∧ r'.start = r.start ∧ r'.goal = r.goal ∧ r'.minutes = r.minutes ∧ r'.hours = r.hours ∧ r'.users.Perm r.users
theorem Alike.refl (r : RoadD) : Alike r r := ⟨rfl, rfl, rfl, rfl, rfl, List.Perm.refl _⟩
theorem Alike.symm {r r' : RoadD} (h : Alike r r') : Alike r' r := ⟨h.1.symm, h.2.1.symm, h.2.2.1.symm, h.2.2.2.1.symm, h.2.2.2.2.1.symm, h.2.2.2.2.2.symm⟩
theorem Alike.kept {a b c : RoadD} (h1 : Alike a b) (h2 : Kept b c) : Kept a c := ⟨h2.1.trans h1.1, h2.2.1.trans h1.2.1, h2.2.2.1.trans h1.2.2.1, h2.2.2.2.1.trans h1.2.2.2.1, h2.2.2.2.2.1.trans h1.2.2.2.2.1, h2.2.2.2.2.2.1.trans h1.2.2.2.2.2, h2.2.2.2.2.2.2⟩
theorem Kept.alike {r r' : RoadD} (h : Kept r r') : Alike r r' := ⟨h.1, h.2.1, h.2.2.1, h.2.2.2.1, h.2.2.2.2.1, h.2.2.2.2.2.1⟩
def AllAl (rs rs' : List RoadD) : Prop := ∃ l, l.Perm rs' ∧ Paired Alike rs l
theorem AllAl.symm {rs rs' : List RoadD} (h : AllAl rs rs') : AllAl rs' rs := by
  obtain ⟨l, pm, q⟩ := h
  obtain ⟨m, p2, q2⟩ := Paired.perm pm.symm q
  exact ⟨m, p2, paired_flip (fun _ _ h => h.symm) q2⟩
theorem KeptAll.al {rs rs' : List RoadD} (h : KeptAll rs rs') : AllAl rs rs' := let ⟨l, p, q⟩ := h; ⟨l, p, Paired.map' q fun _ _ m => m.alike⟩
theorem AllAl.kept {a b c : List RoadD} (h1 : AllAl a b) (h2 : KeptAll b c) : KeptAll a c := by
  obtain ⟨l, p, q⟩ := h1
  obtain ⟨m, p2, q2⟩ := h2
  obtain ⟨m', p3, q3⟩ := Paired.perm p (paired_flip (G := fun y x => Kept x y) (fun _ _ h => h) q2)
  have q4 : Paired Kept l m' := paired_flip (fun _ _ h => h) q3
  exact ⟨m', p3.trans p2, paired_trans (F := Alike) (G := Kept) (R := Kept) (fun _ _ _ h1 h2 => h1.kept h2) q q4⟩
theorem paired_filter {α β : Type} {F : α → β → Prop} {p : α → Bool} {q : β → Bool} (u : ∀ a b, F a b → p a = q b) : ∀ {l : List α} {m : List β}, Paired F l m → Paired F (l.filter p) (m.filter q)
  | _, _, .nil => .nil
  | a :: l, b :: m, .cons h r => by
    rw [List.filter_cons, List.filter_cons, u a b h]
    by_cases c : q b = true
    · rw [if_pos c, if_pos c]; exact .cons h (paired_filter u r)
    · rw [if_neg c, if_neg c]; exact paired_filter u r
theorem AllAl.but {rs rs' : List RoadD} (h : AllAl rs rs') (z : Str) : AllAl (butR z rs) (butR z rs') := by
  obtain ⟨l, p, q⟩ := h
  exact ⟨butR z l, p.filter _, paired_filter (fun a b m => by rw [m.1]) q⟩
theorem AllAl.snoc {rs rs' : List RoadD} {r r' : RoadD} (h : AllAl rs rs') (m : Alike r r') : AllAl (rs ++ [r]) (rs' ++ [r']) := by
  obtain ⟨l, p, q⟩ := h
  exact ⟨l ++ [r'], p.append (List.Perm.refl _), Paired.snoc q m⟩
theorem AllAl.put {rs rs' : List RoadD} {r r' : RoadD} (h : AllAl rs rs') (m : Alike r r') : AllAl (putR r rs) (putR r' rs') := by
  unfold putR
  rw [m.1]
  exact (h.but r.name).snoc m
theorem AllAl.mem {rs rs' : List RoadD} (h : AllAl rs rs') {r : RoadD} (hr : r ∈ rs) : ∃ r' ∈ rs', Alike r r' := by
  obtain ⟨l, p, q⟩ := h
  obtain ⟨b, hb, m⟩ := Paired.mem' q hr
  exact ⟨b, p.mem_iff.mp hb, m⟩
theorem paired_namesA {l m : List RoadD} (pk : Paired Alike l m) : m.map (·.name) = l.map (·.name) := by
  induction pk with
  | nil => rfl
  | cons h _ ih => rw [List.map_cons, List.map_cons, ih, h.1]
theorem AllAl.names {rs rs' : List RoadD} (h : AllAl rs rs') : (rs'.map (·.name)).Perm (rs.map (·.name)) := by
  obtain ⟨l, p, q⟩ := h
  rw [← paired_namesA q]
  exact (p.map _).symm
theorem AllAl.known {rs rs' : List RoadD} (h : AllAl rs rs') {z : Str} : Known rs z ↔ Known rs' z :=
  ⟨fun ⟨r, hr, e⟩ => let ⟨r', h', m⟩ := h.mem hr; ⟨r', h', m.1.trans e⟩, fun ⟨r, hr, e⟩ => let ⟨r', h', m⟩ := h.symm.mem hr; ⟨r', h', m.1.trans e⟩⟩
structure Al4 (ks ps : List Str) (rs : List RoadD) (bs : List (Str × Str)) (ks' ps' : List Str) (rs' : List RoadD) (bs' : List (Str × Str)) : Prop where
  k : ks'.Perm ks
  p : ps'.Perm ps
  r : AllAl rs rs'
  b : bs'.Perm bs
theorem Srt.al {ks ps ks' ps' : List Str} {rs rs' : List RoadD} {bs bs' : List (Str × Str)} (s : Srt ks ps rs bs ks' ps' rs' bs') : Al4 ks ps rs bs ks' ps' rs' bs' := ⟨s.k, s.p, s.r.al, s.b⟩
theorem Al4.symm {ks ps ks' ps' : List Str} {rs rs' : List RoadD} {bs bs' : List (Str × Str)} (s : Al4 ks ps rs bs ks' ps' rs' bs') : Al4 ks' ps' rs' bs' ks ps rs bs := ⟨s.k.symm, s.p.symm, s.r.symm, s.b.symm⟩
theorem partsOk_al {d : Int} {ks ps ks' ps' : List Str} {rs rs' : List RoadD} {bs bs' : List (Str × Str)} (h : PartsOk d ks ps rs bs) (s : Al4 ks ps rs bs ks' ps' rs' bs') : PartsOk d ks' ps' rs' bs' := by
  have ek : ∀ r' ∈ rs', ∃ r ∈ rs, Alike r r' := fun r' hr' => let ⟨r, hr, m⟩ := s.r.symm.mem hr'; ⟨r, hr, m.symm⟩
  have nm := s.r.names
  have rl : rs'.length = rs.length := by have := nm.length_eq; rw [List.length_map, List.length_map] at this; exact this
  refine ⟨h.d1, h.d2, by rw [s.k.length_eq]; exact h.k1, by rw [s.k.length_eq]; exact h.k2, by rw [s.p.length_eq]; exact h.p2, all_perm s.k h.kn, all_perm s.p h.pn, s.k.nodup_iff.mpr h.kd, s.p.nodup_iff.mpr h.pd, ⟨by rw [rl]; exact h.r.len, all_perm nm h.r.nm, nm.nodup_iff.mpr h.r.nd, fun r' m => ?_⟩, ⟨by rw [s.b.length_eq]; exact h.b.len, s.b.nodup_iff.mpr h.b.nd, fun b m => ?_⟩⟩
  · obtain ⟨r, hr, k1, k2, k3, k4, k5, k6⟩ := ek r' m
    have o := h.r.ok r hr
    exact ⟨s.p.mem_iff.mpr (by rw [k2]; exact o.s), s.p.mem_iff.mpr (by rw [k3]; exact o.g), by rw [k4]; exact o.m1, by rw [k4]; exact o.m2, fun z hz => s.k.mem_iff.mpr (o.u z (k6.mem_iff.mp hz)), by rw [k6.length_eq]; exact o.un, k6.nodup_iff.mpr o.ud, by rw [k5]; exact o.h⟩
  · obtain ⟨r1, m1, r2, m2, e1, e2, e3⟩ := h.b.ok b (s.b.mem_iff.mp m)
    obtain ⟨s1, n1, k1⟩ := s.r.mem m1
    obtain ⟨s2, n2, k2⟩ := s.r.mem m2
    exact ⟨s1, n1, s2, n2, by rw [k1.1]; exact e1, by rw [k2.1]; exact e2, by rw [k1.2.2.1, k2.2.1]; exact e3⟩
theorem AnsD.al {d : Int} {ks ps ks' ps' : List Str} {rs rs' : List RoadD} {bs bs' : List (Str × Str)} {D : PyData} (h : AnsD d ks ps rs bs D) (s : Al4 ks ps rs bs ks' ps' rs' bs') : AnsD d ks' ps' rs' bs' D := by
  rcases h with ⟨o, k1, p1, r1, b1, q, e⟩ | ⟨n, e⟩
  · exact .inl ⟨partsOk_al o s, k1, p1, r1, b1, ⟨q.k.trans s.k.symm, q.ka, q.p.trans s.p.symm, q.pa, s.r.symm.kept q.r, q.ra, q.b.trans s.b.symm, q.ba⟩, e⟩
  · exact .inr ⟨fun o => n (partsOk_al o s.symm), e⟩
/-! ### what an edit is due to answer -/
def unkP (z : Str) : PyData := .list [.str "unknown", .str z]
/-- a road that is put in is small -/
theorem PartsSm.put {d : Int} {ks ps : List Str} {rs : List RoadD} {bs : List (Str × Str)} (h : PartsOk d ks ps rs bs) {r : RoadD} (hr : SmallG (rG r)) : PartsSm d ks ps (putR r rs) bs := by
  obtain ⟨s⟩ := h.sm
  have q2 := h.r.len
  have l := List.length_filter_le (fun q : RoadD => !decide (q.name = r.name)) rs
  refine ⟨⟨s.d, s.kl, s.k, s.pl, s.p, ?_, fun g hg => ?_, s.bl, s.b⟩⟩
  · rw [List.length_map]
    unfold putR butR
    rw [List.length_append]
    show _ + 1 ≤ _
    omega
  · unfold putR at hg
    rw [List.map_append] at hg
    rcases List.mem_append.mp hg with h1 | h1
    · obtain ⟨r0, h0, e⟩ := List.mem_map.mp h1
      exact s.r g (List.mem_map.mpr ⟨r0, (mem_butR.mp h0).1, e⟩)
    · have e : Sum.inl g = itemG r := List.mem_singleton.mp h1
      have e' : g = rG r := Sum.inl.inj e
      rw [e']
      exact hr
def RowQ (K : PySem.W.Frag) (H : Hp) (d : Int) (ks ps : List Str) (rs : List RoadD) (bs : List (Str × Str)) (i : Int) (one other : V) (D : PyData) : Prop :=
  (i = 0 ∧ ∃ r, GRoadX K H (rG r) one ∧ SmallG (rG r) ∧ AnsD d ks ps (putR r rs) bs D) ∨
  (i = 1 ∧ ∃ z : Str, one = .str z ∧ z.length ≤ 1000 ∧ ((Known rs z ∧ AnsD d ks ps (butR z rs) (butB z bs) D) ∨ (¬ Known rs z ∧ D = unkP z))) ∨
  (i = 2 ∧ ∃ (z : Str) (hs : Option (List (Int × Int))), one = .str z ∧ z.length ≤ 1000 ∧ GHoursX K H (hoursG hs) other ∧ (∀ gs, hs = some gs → gs.length ≤ 1000) ∧ ((∃ r ∈ rs, r.name = z ∧ AnsD d ks ps (putR { r with hours := hs } rs) bs D) ∨ (¬ Known rs z ∧ D = unkP z))) ∨
  (i = 3 ∧ ∃ z : Str, one = .str z ∧ z.length ≤ 1000 ∧ AnsD d ks (ps ++ [z]) rs bs D) ∨
  (i = 4 ∧ ∃ z : Str, one = .str z ∧ z.length ≤ 1000 ∧ ((z ∈ ps ∧ AnsD d ks (outP z ps) rs bs D) ∨ (z ∉ ps ∧ D = unkP z))) ∨
  (i = 5 ∧ ∃ a b : Str, one = .str a ∧ other = .str b ∧ a.length ≤ 1000 ∧ b.length ≤ 1000 ∧ ((Known rs a ∧ Known rs b ∧ AnsD d ks ps rs (bs ++ [(a, b)]) D) ∨ (¬ Known rs a ∧ D = unkP a) ∨ (Known rs a ∧ ¬ Known rs b ∧ D = unkP b))) ∨
  (i = 6 ∧ ∃ a b : Str, one = .str a ∧ other = .str b ∧ a.length ≤ 1000 ∧ b.length ≤ 1000 ∧ PyData.strOk a = true ∧ PyData.strOk b = true ∧ ((Known rs a ∧ Known rs b ∧ (a, b) ∈ bs ∧ AnsD d ks ps rs (outB a b bs) D) ∨ (Known rs a ∧ Known rs b ∧ (a, b) ∉ bs ∧ D = .str zInv) ∨ (¬ Known rs a ∧ D = unkP a) ∨ (Known rs a ∧ ¬ Known rs b ∧ D = unkP b)))
theorem RowQ.al {K : PySem.W.Frag} {H : Hp} {d : Int} {ks ps ks' ps' : List Str} {rs rs' : List RoadD} {bs bs' : List (Str × Str)} {i : Int} {one other : V} {D : PyData} (h : RowQ K H d ks ps rs bs i one other D) (s : Al4 ks ps rs bs ks' ps' rs' bs') : RowQ K H d ks' ps' rs' bs' i one other D := by
  have kn : ∀ {z : Str}, Known rs z ↔ Known rs' z := s.r.known
  rcases h with ⟨e, r, a, b, c⟩ | ⟨e, z, a, b, c⟩ | ⟨e, z, hs, a, b, g, l, c⟩ | ⟨e, z, a, b, c⟩ | ⟨e, z, a, b, c⟩ | ⟨e, x, y, a, b, l1, l2, c⟩ | ⟨e, x, y, a, b, l1, l2, o1, o2, c⟩
  · exact .inl ⟨e, r, a, b, c.al ⟨s.k, s.p, s.r.put (Alike.refl r), s.b⟩⟩
  · refine .inr (.inl ⟨e, z, a, b, ?_⟩)
    rcases c with ⟨c1, c2⟩ | ⟨c1, c2⟩
    · exact .inl ⟨kn.mp c1, c2.al ⟨s.k, s.p, s.r.but z, s.b.filter _⟩⟩
    · exact .inr ⟨fun h => c1 (kn.mpr h), c2⟩
  · refine .inr (.inr (.inl ⟨e, z, hs, a, b, g, l, ?_⟩))
    rcases c with ⟨r, hr, en, c2⟩ | ⟨c1, c2⟩
    · obtain ⟨r', hr', m⟩ := s.r.mem hr
      have m' : Alike { r with hours := hs } { r' with hours := hs } := ⟨m.1, m.2.1, m.2.2.1, m.2.2.2.1, rfl, m.2.2.2.2.2⟩
      exact .inl ⟨r', hr', m.1.trans en, c2.al ⟨s.k, s.p, s.r.put m', s.b⟩⟩
    · exact .inr ⟨fun h => c1 (kn.mpr h), c2⟩
  · exact .inr (.inr (.inr (.inl ⟨e, z, a, b, c.al ⟨s.k, s.p.append (List.Perm.refl _), s.r, s.b⟩⟩)))
  · refine .inr (.inr (.inr (.inr (.inl ⟨e, z, a, b, ?_⟩))))
    rcases c with ⟨c1, c2⟩ | ⟨c1, c2⟩
    · exact .inl ⟨s.p.mem_iff.mpr c1, c2.al ⟨s.k, s.p.filter _, s.r, s.b⟩⟩
    · exact .inr ⟨fun h => c1 (s.p.mem_iff.mp h), c2⟩
  · refine .inr (.inr (.inr (.inr (.inr (.inl ⟨e, x, y, a, b, l1, l2, ?_⟩)))))
    rcases c with ⟨c1, c2, c3⟩ | ⟨c1, c2⟩ | ⟨c1, c2, c3⟩
    · exact .inl ⟨kn.mp c1, kn.mp c2, c3.al ⟨s.k, s.p, s.r, s.b.append (List.Perm.refl _)⟩⟩
    · exact .inr (.inl ⟨fun h => c1 (kn.mpr h), c2⟩)
    · exact .inr (.inr ⟨kn.mp c1, fun h => c2 (kn.mpr h), c3⟩)
  · refine .inr (.inr (.inr (.inr (.inr (.inr ⟨e, x, y, a, b, l1, l2, o1, o2, ?_⟩)))))
    rcases c with ⟨c1, c2, c3, c4⟩ | ⟨c1, c2, c3, c4⟩ | ⟨c1, c2⟩ | ⟨c1, c2, c3⟩
    · exact .inl ⟨kn.mp c1, kn.mp c2, s.b.mem_iff.mpr c3, c4.al ⟨s.k, s.p, s.r, s.b.filter _⟩⟩
    · exact .inr (.inl ⟨kn.mp c1, kn.mp c2, fun h => c3 (s.b.mem_iff.mp h), c4⟩)
    · exact .inr (.inr (.inl ⟨fun h => c1 (kn.mpr h), c2⟩))
    · exact .inr (.inr (.inr ⟨kn.mp c1, fun h => c2 (kn.mpr h), c3⟩))
theorem RowQ.grew {K : PySem.W.Frag} {P : Addr} {H H' : Hp} {d : Int} {ks ps : List Str} {rs : List RoadD} {bs : List (Str × Str)} {i : Int} {one other : V} {D : PyData} (h : RowQ K H d ks ps rs bs i one other D) (g : Grew P H H') (hP : TabG H P) : RowQ K H' d ks ps rs bs i one other D := by
  rcases h with ⟨e, r, a, b, c⟩ | h | ⟨e, z, hs, a, b, gg, l, c⟩ | h
  · exact .inl ⟨e, r, GRoadX.grew g hP a, b, c⟩
  · exact .inr (.inl h)
  · exact .inr (.inr (.inl ⟨e, z, hs, a, b, gg.grew g hP, l, c⟩))
  · exact .inr (.inr (.inr h))
/-- a row of the law's table -/
def RowAt (K : PySem.W.Frag) (H : Hp) (d : Int) (ks ps : List Str) (rs : List RoadD) (bs : List (Str × Str)) (v : V) : Prop := ∃ (t : Addr) (i : Int) (one other ans : V) (D : PyData), v = .ref t ∧ H t = some (.tup [.int i, one, other, ans]) ∧ RowQ K H d ks ps rs bs i one other D ∧ Dp K H ans D ∧ Lay 6 D
theorem RowAt.grew {K : PySem.W.Frag} {P : Addr} {H H' : Hp} {d : Int} {ks ps : List Str} {rs : List RoadD} {bs : List (Str × Str)} {v : V} (h : RowAt K H d ks ps rs bs v) (g : Grew P H H') (hP : TabG H P) : RowAt K H' d ks ps rs bs v := by
  obtain ⟨t, i, one, other, ans, D, e, a, b, c, l⟩ := h
  exact ⟨t, i, one, other, ans, D, e, g.tup hP a, b.grew g hP, Dp.gr g hP _ _ c, l⟩
theorem unkP_lay {z : Str} (h : PyData.strOk z = true) : Lay 6 (unkP z) := (lay_listD (n := 1) fun x hx => by
  simp only [List.mem_cons, List.not_mem_nil, or_false] at hx
  rcases hx with rfl | rfl
  · exact Lay.str (by decide +kernel)
  · exact Lay.str h).mono (by decide)
end W

set_option Elab.async false
set_option linter.all false
set_option maxRecDepth 100000
set_option maxHeartbeats 1000000
/-! o.m(e, ..) within a try: what flies may look at the slots -/
namespace MyR
open PySem PySem.Spec PyProof.Rows L2
section
variable {X : Cx} {CX : CXT} {k : Nat} {f C : Addr} {fd : FuncData} {ps : List Str} {sp : Sp} {E : L2.St → XK} {x m : Str} {p pos apos : Pos} {e o : Expr} {es : List Expr} {ta : TE} {t : TA}
def tMethS (C : Addr) (m : Str) (sp : Sp) (E : L2.St → XK) (ta : TE) (t : TA) : TE := fun σ H Q => ta σ H fun x H1 => ∃ a dx fs, x = .ref a ∧ H1 a = some (.ins C dx fs) ∧ fs.lookup m = none ∧ t σ H1 fun vs H2 => sp (.ref a :: vs) H2 Q (E σ)
theorem pe_methS {pl : Sem Bool} (he : PE X o ta) (c : Cls X.K C) (hm : Meth X.K C m f) (F : FnOk X.prog X.w X.K X.mg X.base CX k f fd ps sp) (hr : Room k X.A) (hb : Binds X.K fd ps []) (hx : ∀ σ, PassesAt CX X σ (E σ)) (ha : PA X (e :: es) t)
    (hst : starEach (e :: es) X.env = (false, eval e X.env) :: starEach es X.env := by rfl) (hpl : (backTo pos (starEach es X.env)).any (·.1) = false := by rfl)
    (ht : eval (.Call (.Attribute o m apos) (e :: es) [] pos) X.env = (do
      let ov ← eval o X.env
      standAt apos.atName
      let (f, first) ← holding [ov] (getMethod ov m pl)
      callWith pos f first (backTo pos (starEach (e :: es) X.env)) (backToKw pos (keywordEach [] X.env))) := by rfl) :
    PE X (.Call (.Attribute o m apos) (e :: es) [] pos) (tMethS C m sp E ta t) := by
  refine ⟨fun pins s σ H Q I h => ?_⟩
  refine PySem.W.methodCall_KW (pl := pl) (thn (he.run pins s σ H _ I h) fun u s1 ⟨x, H1, I1, rx, a, dx, fs, ex, ea, l, q⟩ => ?_) ht
  subst ex
  obtain rfl : u = Value.ref a := rx
  refine getmeth_ok I1 ea c hm l ?_
  refine PySem.W.callWith_K (first := [.ref a]) (h₀ := X.base) I.ok.mod.kin hm.kp (thn (ha.run pos pins s1 σ H1 _ I1 q) fun us s2 ⟨vs, H2, I2, r, q2⟩ => ⟨I2.kIn, ?_⟩) hst hpl
  exact run_fnS (us := .ref a :: us) (vs := .ref a :: vs) F hr hb (hx σ) I2 (.cons rfl r) q2
end
end MyR

set_option Elab.async false
set_option linter.all false
set_option maxRecDepth 100000
set_option maxHeartbeats 8000000
namespace W
open PySem PySem.Spec PyProof.Rows L2 GxR MyG MyS SqX MyR
/-! ### _law_edited -/
abbrev sEdited : Stmt := top 44
theorem pe_gV {X : Cx} {pos : Pos} (hm : X.mg "ValueError" = none) (hg : Gl X "ValueError" := by rfl) : PE X (.Name "ValueError" pos) (tC (.ty "ValueError")) := pe_bltn (v := .ty "ValueError") hg hm (by decide +kernel) rfl
def spEdited (K : PySem.W.Frag) (M P : Addr) : Sp := fun vs H Q _ => ∃ (x : Addr) (i : Int) (one other : V) (D : PyData) (d : Int) (ks ps : List Str) (rs : List RoadD) (bs : List (Str × Str)), vs = [.ref x, .int i, one, other] ∧ MIn K H M P x d ks ps rs bs ∧ RowQ K H d ks ps rs bs i one other D ∧ ∀ H' v, Grew P H H' → Dp K H' v D → Q v H'
section
variable {Pg : Program} {w : World} {K : PySem.W.Frag} {mg : Str → Option Value} {base : Heap} {C P : Addr}
abbrev nEd : List Str := ["chart", "deed", "one", "other", "made", "e"]
theorem scEd : FnScope nEd ["chart", "deed", "one", "other"] (defScope sEdited) := ⟨rfl, rfl, rfl, by decide +kernel, rfl, by decide +kernel, by decide +kernel⟩
theorem ok_edited {f M U fWR fWO fWH fPL fOP fWB fOB : Addr} {fd fdWR fdWO fdWH fdPL fdOP fdWB fdOB : FuncData} (F : Fun K "_law_edited" "_law_edited" sEdited f fd) (TM : TxtM K M) (hs : mg "isinstance" = none) (hi : mg "int" = none) (hV : mg "ValueError" = none) (gU : mg "UnknownName" = some (.ref U)) (gC : mg "InvalidMap" = some (.ref C))
    (XU : XfC K U) (nU : PySem.W.findIn K (.ref U) "name" = some none) (DC : ExcD K C) (eU : PySem.W.exmOne K (.ref U) (.ref U) = some true) (eCU : PySem.W.exmOne K (.ref C) (.ref U) = some false) (eC : PySem.W.exmOne K (.ref C) (.ref C) = some true) (iV : PySem.W.kitOne K (.ref C) (.type "ValueError") = some true)
    (mWR : Meth K M "with_road" fWR) (GWR : FnOk Pg w K mg base (L2.CX Pg w) 8 fWR fdWR ["self", "road"] (spWithRX K M C P)) (bWR : Binds K fdWR ["self", "road"] [])
    (mWO : Meth K M "without_road" fWO) (GWO : FnOk Pg w K mg base (L2.CX Pg w) 8 fWO fdWO ["self", "name"] (spWithoutRX K M C U P)) (bWO : Binds K fdWO ["self", "name"] [])
    (mWH : Meth K M "with_hours" fWH) (GWH : FnOk Pg w K mg base (L2.CX Pg w) 9 fWH fdWH ["self", "name", "hours"] (spWithHX K M C U P)) (bWH : Binds K fdWH ["self", "name", "hours"] [])
    (mPL : Meth K M "with_place" fPL) (GPL : FnOk Pg w K mg base (L2.CX Pg w) 8 fPL fdPL ["self", "place"] (spWithPlX K M C P)) (bPL : Binds K fdPL ["self", "place"] [])
    (mOP : Meth K M "without_place" fOP) (GOP : FnOk Pg w K mg base (L2.CX Pg w) 8 fOP fdOP ["self", "place"] (spWoutPlX K M C U P)) (bOP : Binds K fdOP ["self", "place"] [])
    (mWB : Meth K M "with_bar" fWB) (GWB : FnOk Pg w K mg base (L2.CX Pg w) 8 fWB fdWB ["self", "first", "second"] (spWithBX K M C U P)) (bWB : Binds K fdWB ["self", "first", "second"] [])
    (mOB : Meth K M "without_bar" fOB) (GOB : FnOk Pg w K mg base (L2.CX Pg w) 8 fOB fdOB ["self", "first", "second"] (spWoutBX K M C U P)) (bOB : Binds K fdOB ["self", "first", "second"] []) :
    FnOk Pg w K mg base CX0 10 f fd ["chart", "deed", "one", "other"] (spEdited K M P) := by
  refine F.ok scEd (fun vs H Q E h => ?_) (fun cdv A outer s H vs Q E hr h => ?_)
  · obtain ⟨x, i, one, other, D, d, ks, ps, rs, bs, rfl, _⟩ := h
    rfl
  · obtain ⟨x, i, one, other, D, d, ks, ps, rs, bs, rfl, hI, hq, kQ⟩ := h
    have hM := hI.m
    have hP := hI.t
    have l60 := hI.ok.r.len
    have nm1 : ∀ {r}, r ∈ rs → r.name.length ≤ 1000 := fun hr => hI.nl _ hr
    refine ⟨_, pss_cons (ps_try_all (i := 5) (n := "e") (Wout := fun _ _ _ _ => False) rfl rfl scEd.nd rfl rfl takes0
        (fun W pn xe tk _ => (pss_one (ps_if (pt_cmpR op_eq (pv 1) pe_int (nomark _)) (pss_one (ps_set (i := 4) scEd.nd rfl (Or.inl rfl) (pe_methS (pv 0) TM.cl mWR GWR (hr.mono (by decide)) bWR (fun σ => passAt tk σ) (pa_cons (pv 2) pa_nil))))
          (pss_one (ps_if (pt_cmpR op_eq (pv 1) pe_int (nomark _)) (pss_one (ps_set (i := 4) scEd.nd rfl (Or.inl rfl) (pe_methS (pv 0) TM.cl mWO GWO (hr.mono (by decide)) bWO (fun σ => passAt tk σ) (pa_cons (pv 2) pa_nil))))
          (pss_one (ps_if (pt_cmpR op_eq (pv 1) pe_int (nomark _)) (pss_one (ps_set (i := 4) scEd.nd rfl (Or.inl rfl) (pe_methS (pv 0) TM.cl mWH GWH (hr.mono (by decide)) bWH (fun σ => passAt tk σ) (pa_cons (pv 2) (pa_cons (pv 3) pa_nil)))))
          (pss_one (ps_if (pt_cmpR op_eq (pv 1) pe_int (nomark _)) (pss_one (ps_set (i := 4) scEd.nd rfl (Or.inl rfl) (pe_methS (pv 0) TM.cl mPL GPL (hr.mono (by decide)) bPL (fun σ => passAt tk σ) (pa_cons (pv 2) pa_nil))))
          (pss_one (ps_if (pt_cmpR op_eq (pv 1) pe_int (nomark _)) (pss_one (ps_set (i := 4) scEd.nd rfl (Or.inl rfl) (pe_methS (pv 0) TM.cl mOP GOP (hr.mono (by decide)) bOP (fun σ => passAt tk σ) (pa_cons (pv 2) pa_nil))))
          (pss_one (ps_if (pt_cmpR op_eq (pv 1) pe_int (nomark _)) (pss_one (ps_set (i := 4) scEd.nd rfl (Or.inl rfl) (pe_methS (pv 0) TM.cl mWB GWB (hr.mono (by decide)) bWB (fun σ => passAt tk σ) (pa_cons (pv 2) (pa_cons (pv 3) pa_nil)))))
          (pss_one (ps_set (i := 4) scEd.nd rfl (Or.inl rfl) (pe_methS (pv 0) TM.cl mOB GOB (hr.mono (by decide)) bOB (fun σ => passAt tk σ) (pa_cons (pv 2) (pa_cons (pv 3) pa_nil))))))))))))))))))
        (Clauses.cons (c := .ref U) ⟨rfl, by decide, .inl gU⟩ (fun a oe cls dd pn hz hf => pss_one (ps_ret (pe_lst (pa_cons pe_str (pa_cons (pe_xf XU nU hz hf (pv 5)) pa_nil)))))
        (Clauses.cons (c := .ref C) ⟨rfl, by decide, .inl gC⟩ (fun a oe cls dd pn hz hf => pss_one (ps_ret (pe_ix (r := rIxL K) ix_list (pe_lst (pa_cons pe_str (pa_cons pe_str pa_nil)))
            (pe_callTy (r := rInt1) call_int1 (by rfl) hi (by decide +kernel) (pa_cons (pe_callB (call_isN DC hz hf) (by rfl) hs (by decide +kernel) (pa_cons (pv 5) (pa_cons (pe_gV hV) pa_nil))) pa_nil)) (fun _ _ => rfl)))) Clauses.nil)))
      (pss_one (ps_ret (pe_lst (pa_cons (pe_fld (pv 4) rfl) (pa_cons (pe_fld (pv 4) rfl) (pa_cons (pe_fld (pv 4) rfl) (pa_cons (pe_fld (pv 4) rfl) (pa_cons (pe_fld (pv 4) rfl) pa_nil)))))))), ?_⟩
    obtain ⟨dx, fs, kk, pp, rr, D1, bb, D2, ys, zs, hx, F7⟩ := id hM
    rcases hq with ⟨rfl, r, gr, sg, hD⟩ | ⟨rfl, z, rfl, hz, hc⟩ | ⟨rfl, z, hs0, rfl, hz, gh, lh, hc⟩ | ⟨rfl, z, rfl, hz, hD⟩ | ⟨rfl, z, rfl, hz, hc⟩ | ⟨rfl, a, b, rfl, rfl, hla, hlb, hc⟩ | ⟨rfl, a, b, rfl, rfl, hla, hlb, hoa, hob, hc⟩
    · refine ⟨_, rfl, rfl, _, rfl, if_t (decide_eq_true rfl) ⟨_, rfl, x, dx, fs, rfl, hx, F7.f0 _ (by decide +kernel), _, rfl, x, one, r, d, ks, ps, rs, bs, rfl, gr, hM, l60, hP, PartsSm.put hI.ok sg, ⟨fun ok x1 H1 k1 p1 r1 b1 g1 nx S1 hm1 => ?_, fun no H1 g1 => ?_⟩⟩⟩
      · obtain ⟨dx1, fs1, kk1, pp1, rr1, E1, bb1, E2, ys1, zs1, hx1, m⟩ := id hm1
        refine ⟨_, rfl, x1, M, dx1, fs1, _, rfl, hx1, TM.cl, TM.n1, m.f1, _, rfl, x1, M, dx1, fs1, _, rfl, hx1, TM.cl, TM.n3, m.f3, _, rfl, x1, M, dx1, fs1, _, rfl, hx1, TM.cl, TM.n2, m.f2, _, rfl, x1, M, dx1, fs1, _, rfl, hx1, TM.cl, TM.n4, m.f4, _, rfl, x1, M, dx1, fs1, _, rfl, hx1, TM.cl, TM.n6, m.f6, (show 5 ≤ sizeLine by decide), fun L nL => ?_⟩
        have gL := Grew.new g1.tab (o := .lst [.int d, .ref pp1, .ref kk1, .ref rr1, .ref bb1]) nL
        obtain rfl := AnsD.one hD (.inl ⟨ok, k1, p1, r1, b1, S1, rfl⟩)
        refine kQ _ _ (g1.trans gL) (.lst (SqL.of upd_same) ?_)
        exact .cons (.int _) (.cons (dp_tstr (gL.tup g1.tab m.p)) (.cons (dp_tstr (gL.tup g1.tab m.k)) (.cons (.tup (SqT.of (gL.tup g1.tab m.r)) (dpAll_of (fun _ _ q => q.dp) (Paired.map' m.ry fun _ _ m => m.grew gL g1.tab))) (.cons (.tup (SqT.of (gL.tup g1.tab m.b)) (dpAll_of (fun _ _ q => q.dp) (Paired.map' m.bz fun _ _ m => m.grew gL g1.tab))) .nil))))
      · refine ⟨false, eCU, fun q => Bool.noConfusion q, fun _ => ⟨true, eC, fun _ a na => ?_, fun q => Bool.noConfusion q⟩⟩
        refine ⟨(show 2 ≤ sizeLine by decide), fun T nT => ?_⟩
        have gT := Grew.new g1.tab (o := .lst [.str "odd", .str zInv]) nT
        refine ⟨_, rfl, .ty "ValueError", .type "ValueError", true, rfl, rfl, rfl, fun u h => h, iV, .inr ⟨_, rfl, T, _, _, .str zInv, rfl, rfl, SqL.of upd_same, rfl, ?_⟩⟩
        obtain rfl := AnsD.one hD (.inr ⟨no, rfl⟩)
        exact kQ _ _ (g1.trans gT) (.str _)
    · rcases hc with ⟨hk, hD⟩ | ⟨hk, eD⟩
      · refine ⟨_, rfl, rfl, _, rfl, if_f (decide_eq_false (by decide)) ⟨_, rfl, rfl, _, rfl, if_t (decide_eq_true rfl) ⟨_, rfl, x, dx, fs, rfl, hx, F7.f0 _ (by decide +kernel), _, rfl, x, z, d, ks, ps, rs, bs, rfl, hz, hI, fun _ => ⟨fun ok x1 H1 k1 p1 r1 b1 g1 nx S1 hm1 => ?_, fun no H1 g1 => ?_⟩, fun n => absurd hk n⟩⟩⟩
        · obtain ⟨dx1, fs1, kk1, pp1, rr1, E1, bb1, E2, ys1, zs1, hx1, m⟩ := id hm1
          refine ⟨_, rfl, x1, M, dx1, fs1, _, rfl, hx1, TM.cl, TM.n1, m.f1, _, rfl, x1, M, dx1, fs1, _, rfl, hx1, TM.cl, TM.n3, m.f3, _, rfl, x1, M, dx1, fs1, _, rfl, hx1, TM.cl, TM.n2, m.f2, _, rfl, x1, M, dx1, fs1, _, rfl, hx1, TM.cl, TM.n4, m.f4, _, rfl, x1, M, dx1, fs1, _, rfl, hx1, TM.cl, TM.n6, m.f6, (show 5 ≤ sizeLine by decide), fun L nL => ?_⟩
          have gL := Grew.new g1.tab (o := .lst [.int d, .ref pp1, .ref kk1, .ref rr1, .ref bb1]) nL
          obtain rfl := AnsD.one hD (.inl ⟨ok, k1, p1, r1, b1, S1, rfl⟩)
          refine kQ _ _ (g1.trans gL) (.lst (SqL.of upd_same) ?_)
          exact .cons (.int _) (.cons (dp_tstr (gL.tup g1.tab m.p)) (.cons (dp_tstr (gL.tup g1.tab m.k)) (.cons (.tup (SqT.of (gL.tup g1.tab m.r)) (dpAll_of (fun _ _ q => q.dp) (Paired.map' m.ry fun _ _ m => m.grew gL g1.tab))) (.cons (.tup (SqT.of (gL.tup g1.tab m.b)) (dpAll_of (fun _ _ q => q.dp) (Paired.map' m.bz fun _ _ m => m.grew gL g1.tab))) .nil))))
        · refine ⟨false, eCU, fun q => Bool.noConfusion q, fun _ => ⟨true, eC, fun _ a na => ?_, fun q => Bool.noConfusion q⟩⟩
          refine ⟨(show 2 ≤ sizeLine by decide), fun T nT => ?_⟩
          have gT := Grew.new g1.tab (o := .lst [.str "odd", .str zInv]) nT
          refine ⟨_, rfl, .ty "ValueError", .type "ValueError", true, rfl, rfl, rfl, fun u h => h, iV, .inr ⟨_, rfl, T, _, _, .str zInv, rfl, rfl, SqL.of upd_same, rfl, ?_⟩⟩
          obtain rfl := AnsD.one hD (.inr ⟨no, rfl⟩)
          exact kQ _ _ (g1.trans gT) (.str _)
      · refine ⟨_, rfl, rfl, _, rfl, if_f (decide_eq_false (by decide)) ⟨_, rfl, rfl, _, rfl, if_t (decide_eq_true rfl) ⟨_, rfl, x, dx, fs, rfl, hx, F7.f0 _ (by decide +kernel), _, rfl, x, z, d, ks, ps, rs, bs, rfl, hz, hI, fun h => absurd h hk, fun _ e ne => ?_⟩⟩⟩
        refine ⟨true, eU, fun _ a2 na => ?_, fun q => Bool.noConfusion q⟩
        have gE := Grew.new hP (o := .xd [("name", V.str z)]) ne
        refine ⟨_, rfl, rfl, rfl, e, _, .str z, rfl, upd_same, rfl, (show 2 ≤ sizeLine by decide), fun T nT => ?_⟩
        have gT := Grew.new gE.tab (o := .lst [.str "unknown", .str z]) nT
        rw [eD] at kQ
        exact kQ _ _ (gE.trans gT) (.lst (SqL.of upd_same) (.cons (.str _) (.cons (.str _) .nil)))
    · rcases hc with ⟨r, hr1, en, hD⟩ | ⟨hk, eD⟩
      · refine ⟨_, rfl, rfl, _, rfl, if_f (decide_eq_false (by decide)) ⟨_, rfl, rfl, _, rfl, if_f (decide_eq_false (by decide)) ⟨_, rfl, rfl, _, rfl, if_t (decide_eq_true rfl) ⟨_, rfl, x, dx, fs, rfl, hx, F7.f0 _ (by decide +kernel), _, rfl, _, rfl, x, z, other, hs0, d, ks, ps, rs, bs, rfl, hz, gh, hM, l60, hP, fun r2 hr2 en2 => ?_, fun n => absurd ⟨r, hr1, en⟩ n⟩⟩⟩⟩
        obtain rfl : r2 = r := uniqN hI.ok.r.nd hr2 hr1 (en2.trans en.symm)
        have o := hI.ok.r.ok r2 hr1
        have sg : SmallG (rG { r2 with hours := hs0 }) := ⟨nm1 hr1, Nat.le_trans (isNm_len (List.all_eq_true.mp hI.ok.pn _ o.s)) (by decide), Nat.le_trans (isNm_len (List.all_eq_true.mp hI.ok.pn _ o.g)) (by decide), by have h1 := o.m1; have h2 := o.m2; show r2.minutes.natAbs < _; omega, by have := o.un; show r2.users.length ≤ _; omega, fun z hz => Nat.le_trans (isNm_len (List.all_eq_true.mp hI.ok.kn _ (o.u z hz))) (by decide), fun ps e => by
          have e2 : hoursG hs0 = some ps := e
          cases c : hs0 with
          | none => rw [c] at e2; cases e2
          | some gs =>
            rw [c] at e2
            have e3 : gs.map (fun p : Int × Int => [p.1, p.2]) = ps := Option.some.inj e2
            rw [← e3, List.length_map]
            exact lh gs c⟩
        refine ⟨PartsSm.put hI.ok sg, ⟨fun ok x1 H1 k1 p1 r1 b1 g1 nx S1 hm1 => ?_, fun no H1 g1 => ?_⟩⟩
        · obtain ⟨dx1, fs1, kk1, pp1, rr1, E1, bb1, E2, ys1, zs1, hx1, m⟩ := id hm1
          refine ⟨_, rfl, x1, M, dx1, fs1, _, rfl, hx1, TM.cl, TM.n1, m.f1, _, rfl, x1, M, dx1, fs1, _, rfl, hx1, TM.cl, TM.n3, m.f3, _, rfl, x1, M, dx1, fs1, _, rfl, hx1, TM.cl, TM.n2, m.f2, _, rfl, x1, M, dx1, fs1, _, rfl, hx1, TM.cl, TM.n4, m.f4, _, rfl, x1, M, dx1, fs1, _, rfl, hx1, TM.cl, TM.n6, m.f6, (show 5 ≤ sizeLine by decide), fun L nL => ?_⟩
          have gL := Grew.new g1.tab (o := .lst [.int d, .ref pp1, .ref kk1, .ref rr1, .ref bb1]) nL
          obtain rfl := AnsD.one hD (.inl ⟨ok, k1, p1, r1, b1, S1, rfl⟩)
          refine kQ _ _ (g1.trans gL) (.lst (SqL.of upd_same) ?_)
          exact .cons (.int _) (.cons (dp_tstr (gL.tup g1.tab m.p)) (.cons (dp_tstr (gL.tup g1.tab m.k)) (.cons (.tup (SqT.of (gL.tup g1.tab m.r)) (dpAll_of (fun _ _ q => q.dp) (Paired.map' m.ry fun _ _ m => m.grew gL g1.tab))) (.cons (.tup (SqT.of (gL.tup g1.tab m.b)) (dpAll_of (fun _ _ q => q.dp) (Paired.map' m.bz fun _ _ m => m.grew gL g1.tab))) .nil))))
        · refine ⟨false, eCU, fun q => Bool.noConfusion q, fun _ => ⟨true, eC, fun _ a na => ?_, fun q => Bool.noConfusion q⟩⟩
          refine ⟨(show 2 ≤ sizeLine by decide), fun T nT => ?_⟩
          have gT := Grew.new g1.tab (o := .lst [.str "odd", .str zInv]) nT
          refine ⟨_, rfl, .ty "ValueError", .type "ValueError", true, rfl, rfl, rfl, fun u h => h, iV, .inr ⟨_, rfl, T, _, _, .str zInv, rfl, rfl, SqL.of upd_same, rfl, ?_⟩⟩
          obtain rfl := AnsD.one hD (.inr ⟨no, rfl⟩)
          exact kQ _ _ (g1.trans gT) (.str _)
      · refine ⟨_, rfl, rfl, _, rfl, if_f (decide_eq_false (by decide)) ⟨_, rfl, rfl, _, rfl, if_f (decide_eq_false (by decide)) ⟨_, rfl, rfl, _, rfl, if_t (decide_eq_true rfl) ⟨_, rfl, x, dx, fs, rfl, hx, F7.f0 _ (by decide +kernel), _, rfl, _, rfl, x, z, other, hs0, d, ks, ps, rs, bs, rfl, hz, gh, hM, l60, hP, fun r2 hr2 en2 => absurd ⟨r2, hr2, en2⟩ hk, fun _ e ne => ?_⟩⟩⟩⟩
        refine ⟨true, eU, fun _ a2 na => ?_, fun q => Bool.noConfusion q⟩
        have gE := Grew.new hP (o := .xd [("name", V.str z)]) ne
        refine ⟨_, rfl, rfl, rfl, e, _, .str z, rfl, upd_same, rfl, (show 2 ≤ sizeLine by decide), fun T nT => ?_⟩
        have gT := Grew.new gE.tab (o := .lst [.str "unknown", .str z]) nT
        rw [eD] at kQ
        exact kQ _ _ (gE.trans gT) (.lst (SqL.of upd_same) (.cons (.str _) (.cons (.str _) .nil)))
    · have sm : PartsSm d ks (ps ++ [z]) rs bs := by
        obtain ⟨s⟩ := hI.ok.sm
        have p30 := hI.ok.p2
        refine ⟨⟨s.d, s.kl, s.k, by rw [List.length_append]; show _ + 1 ≤ _; omega, fun y hy => ?_, s.rl, s.r, s.bl, s.b⟩⟩
        rcases List.mem_append.mp hy with h | h
        · exact s.p y h
        · rw [List.mem_singleton.mp h]; exact hz
      refine ⟨_, rfl, rfl, _, rfl, if_f (decide_eq_false (by decide)) ⟨_, rfl, rfl, _, rfl, if_f (decide_eq_false (by decide)) ⟨_, rfl, rfl, _, rfl, if_f (decide_eq_false (by decide)) ⟨_, rfl, rfl, _, rfl, if_t (decide_eq_true rfl) ⟨_, rfl, x, dx, fs, rfl, hx, F7.f0 _ (by decide +kernel), _, rfl, x, z, d, ks, ps, rs, bs, rfl, hI, sm, ⟨fun ok x1 H1 k1 p1 r1 b1 g1 nx S1 hm1 => ?_, fun no H1 g1 => ?_⟩⟩⟩⟩⟩⟩
      · obtain ⟨dx1, fs1, kk1, pp1, rr1, E1, bb1, E2, ys1, zs1, hx1, m⟩ := id hm1
        refine ⟨_, rfl, x1, M, dx1, fs1, _, rfl, hx1, TM.cl, TM.n1, m.f1, _, rfl, x1, M, dx1, fs1, _, rfl, hx1, TM.cl, TM.n3, m.f3, _, rfl, x1, M, dx1, fs1, _, rfl, hx1, TM.cl, TM.n2, m.f2, _, rfl, x1, M, dx1, fs1, _, rfl, hx1, TM.cl, TM.n4, m.f4, _, rfl, x1, M, dx1, fs1, _, rfl, hx1, TM.cl, TM.n6, m.f6, (show 5 ≤ sizeLine by decide), fun L nL => ?_⟩
        have gL := Grew.new g1.tab (o := .lst [.int d, .ref pp1, .ref kk1, .ref rr1, .ref bb1]) nL
        obtain rfl := AnsD.one hD (.inl ⟨ok, k1, p1, r1, b1, S1, rfl⟩)
        refine kQ _ _ (g1.trans gL) (.lst (SqL.of upd_same) ?_)
        exact .cons (.int _) (.cons (dp_tstr (gL.tup g1.tab m.p)) (.cons (dp_tstr (gL.tup g1.tab m.k)) (.cons (.tup (SqT.of (gL.tup g1.tab m.r)) (dpAll_of (fun _ _ q => q.dp) (Paired.map' m.ry fun _ _ m => m.grew gL g1.tab))) (.cons (.tup (SqT.of (gL.tup g1.tab m.b)) (dpAll_of (fun _ _ q => q.dp) (Paired.map' m.bz fun _ _ m => m.grew gL g1.tab))) .nil))))
      · refine ⟨false, eCU, fun q => Bool.noConfusion q, fun _ => ⟨true, eC, fun _ a na => ?_, fun q => Bool.noConfusion q⟩⟩
        refine ⟨(show 2 ≤ sizeLine by decide), fun T nT => ?_⟩
        have gT := Grew.new g1.tab (o := .lst [.str "odd", .str zInv]) nT
        refine ⟨_, rfl, .ty "ValueError", .type "ValueError", true, rfl, rfl, rfl, fun u h => h, iV, .inr ⟨_, rfl, T, _, _, .str zInv, rfl, rfl, SqL.of upd_same, rfl, ?_⟩⟩
        obtain rfl := AnsD.one hD (.inr ⟨no, rfl⟩)
        exact kQ _ _ (g1.trans gT) (.str _)
    · rcases hc with ⟨hk, hD⟩ | ⟨hk, eD⟩
      · refine ⟨_, rfl, rfl, _, rfl, if_f (decide_eq_false (by decide)) ⟨_, rfl, rfl, _, rfl, if_f (decide_eq_false (by decide)) ⟨_, rfl, rfl, _, rfl, if_f (decide_eq_false (by decide)) ⟨_, rfl, rfl, _, rfl, if_f (decide_eq_false (by decide)) ⟨_, rfl, rfl, _, rfl, if_t (decide_eq_true rfl) ⟨_, rfl, x, dx, fs, rfl, hx, F7.f0 _ (by decide +kernel), _, rfl, x, z, d, ks, ps, rs, bs, rfl, hz, hI, fun _ => ⟨fun ok x1 H1 k1 p1 r1 b1 g1 nx S1 hm1 => ?_, fun no H1 g1 => ?_⟩, fun n => absurd hk n⟩⟩⟩⟩⟩⟩
        · obtain ⟨dx1, fs1, kk1, pp1, rr1, E1, bb1, E2, ys1, zs1, hx1, m⟩ := id hm1
          refine ⟨_, rfl, x1, M, dx1, fs1, _, rfl, hx1, TM.cl, TM.n1, m.f1, _, rfl, x1, M, dx1, fs1, _, rfl, hx1, TM.cl, TM.n3, m.f3, _, rfl, x1, M, dx1, fs1, _, rfl, hx1, TM.cl, TM.n2, m.f2, _, rfl, x1, M, dx1, fs1, _, rfl, hx1, TM.cl, TM.n4, m.f4, _, rfl, x1, M, dx1, fs1, _, rfl, hx1, TM.cl, TM.n6, m.f6, (show 5 ≤ sizeLine by decide), fun L nL => ?_⟩
          have gL := Grew.new g1.tab (o := .lst [.int d, .ref pp1, .ref kk1, .ref rr1, .ref bb1]) nL
          obtain rfl := AnsD.one hD (.inl ⟨ok, k1, p1, r1, b1, S1, rfl⟩)
          refine kQ _ _ (g1.trans gL) (.lst (SqL.of upd_same) ?_)
          exact .cons (.int _) (.cons (dp_tstr (gL.tup g1.tab m.p)) (.cons (dp_tstr (gL.tup g1.tab m.k)) (.cons (.tup (SqT.of (gL.tup g1.tab m.r)) (dpAll_of (fun _ _ q => q.dp) (Paired.map' m.ry fun _ _ m => m.grew gL g1.tab))) (.cons (.tup (SqT.of (gL.tup g1.tab m.b)) (dpAll_of (fun _ _ q => q.dp) (Paired.map' m.bz fun _ _ m => m.grew gL g1.tab))) .nil))))
        · refine ⟨false, eCU, fun q => Bool.noConfusion q, fun _ => ⟨true, eC, fun _ a na => ?_, fun q => Bool.noConfusion q⟩⟩
          refine ⟨(show 2 ≤ sizeLine by decide), fun T nT => ?_⟩
          have gT := Grew.new g1.tab (o := .lst [.str "odd", .str zInv]) nT
          refine ⟨_, rfl, .ty "ValueError", .type "ValueError", true, rfl, rfl, rfl, fun u h => h, iV, .inr ⟨_, rfl, T, _, _, .str zInv, rfl, rfl, SqL.of upd_same, rfl, ?_⟩⟩
          obtain rfl := AnsD.one hD (.inr ⟨no, rfl⟩)
          exact kQ _ _ (g1.trans gT) (.str _)
      · refine ⟨_, rfl, rfl, _, rfl, if_f (decide_eq_false (by decide)) ⟨_, rfl, rfl, _, rfl, if_f (decide_eq_false (by decide)) ⟨_, rfl, rfl, _, rfl, if_f (decide_eq_false (by decide)) ⟨_, rfl, rfl, _, rfl, if_f (decide_eq_false (by decide)) ⟨_, rfl, rfl, _, rfl, if_t (decide_eq_true rfl) ⟨_, rfl, x, dx, fs, rfl, hx, F7.f0 _ (by decide +kernel), _, rfl, x, z, d, ks, ps, rs, bs, rfl, hz, hI, fun h => absurd h hk, fun _ e ne => ?_⟩⟩⟩⟩⟩⟩
        refine ⟨true, eU, fun _ a2 na => ?_, fun q => Bool.noConfusion q⟩
        have gE := Grew.new hP (o := .xd [("name", V.str z)]) ne
        refine ⟨_, rfl, rfl, rfl, e, _, .str z, rfl, upd_same, rfl, (show 2 ≤ sizeLine by decide), fun T nT => ?_⟩
        have gT := Grew.new gE.tab (o := .lst [.str "unknown", .str z]) nT
        rw [eD] at kQ
        exact kQ _ _ (gE.trans gT) (.lst (SqL.of upd_same) (.cons (.str _) (.cons (.str _) .nil)))
    · rcases hc with ⟨h1, h2, hD⟩ | ⟨h1, eD⟩ | ⟨h1, h2, eD⟩
      · refine ⟨_, rfl, rfl, _, rfl, if_f (decide_eq_false (by decide)) ⟨_, rfl, rfl, _, rfl, if_f (decide_eq_false (by decide)) ⟨_, rfl, rfl, _, rfl, if_f (decide_eq_false (by decide)) ⟨_, rfl, rfl, _, rfl, if_f (decide_eq_false (by decide)) ⟨_, rfl, rfl, _, rfl, if_f (decide_eq_false (by decide)) ⟨_, rfl, rfl, _, rfl, if_t (decide_eq_true rfl) ⟨_, rfl, x, dx, fs, rfl, hx, F7.f0 _ (by decide +kernel), _, rfl, _, rfl, x, a, b, d, ks, ps, rs, bs, rfl, hla, hlb, hI, fun _ _ => ⟨fun ok x1 H1 k1 p1 r1 b1 g1 nx S1 hm1 => ?_, fun no H1 g1 => ?_⟩, fun n => absurd h1 n, fun _ n => absurd h2 n⟩⟩⟩⟩⟩⟩⟩
        · obtain ⟨dx1, fs1, kk1, pp1, rr1, E1, bb1, E2, ys1, zs1, hx1, m⟩ := id hm1
          refine ⟨_, rfl, x1, M, dx1, fs1, _, rfl, hx1, TM.cl, TM.n1, m.f1, _, rfl, x1, M, dx1, fs1, _, rfl, hx1, TM.cl, TM.n3, m.f3, _, rfl, x1, M, dx1, fs1, _, rfl, hx1, TM.cl, TM.n2, m.f2, _, rfl, x1, M, dx1, fs1, _, rfl, hx1, TM.cl, TM.n4, m.f4, _, rfl, x1, M, dx1, fs1, _, rfl, hx1, TM.cl, TM.n6, m.f6, (show 5 ≤ sizeLine by decide), fun L nL => ?_⟩
          have gL := Grew.new g1.tab (o := .lst [.int d, .ref pp1, .ref kk1, .ref rr1, .ref bb1]) nL
          obtain rfl := AnsD.one hD (.inl ⟨ok, k1, p1, r1, b1, S1, rfl⟩)
          refine kQ _ _ (g1.trans gL) (.lst (SqL.of upd_same) ?_)
          exact .cons (.int _) (.cons (dp_tstr (gL.tup g1.tab m.p)) (.cons (dp_tstr (gL.tup g1.tab m.k)) (.cons (.tup (SqT.of (gL.tup g1.tab m.r)) (dpAll_of (fun _ _ q => q.dp) (Paired.map' m.ry fun _ _ m => m.grew gL g1.tab))) (.cons (.tup (SqT.of (gL.tup g1.tab m.b)) (dpAll_of (fun _ _ q => q.dp) (Paired.map' m.bz fun _ _ m => m.grew gL g1.tab))) .nil))))
        · refine ⟨false, eCU, fun q => Bool.noConfusion q, fun _ => ⟨true, eC, fun _ a na => ?_, fun q => Bool.noConfusion q⟩⟩
          refine ⟨(show 2 ≤ sizeLine by decide), fun T nT => ?_⟩
          have gT := Grew.new g1.tab (o := .lst [.str "odd", .str zInv]) nT
          refine ⟨_, rfl, .ty "ValueError", .type "ValueError", true, rfl, rfl, rfl, fun u h => h, iV, .inr ⟨_, rfl, T, _, _, .str zInv, rfl, rfl, SqL.of upd_same, rfl, ?_⟩⟩
          obtain rfl := AnsD.one hD (.inr ⟨no, rfl⟩)
          exact kQ _ _ (g1.trans gT) (.str _)
      · refine ⟨_, rfl, rfl, _, rfl, if_f (decide_eq_false (by decide)) ⟨_, rfl, rfl, _, rfl, if_f (decide_eq_false (by decide)) ⟨_, rfl, rfl, _, rfl, if_f (decide_eq_false (by decide)) ⟨_, rfl, rfl, _, rfl, if_f (decide_eq_false (by decide)) ⟨_, rfl, rfl, _, rfl, if_f (decide_eq_false (by decide)) ⟨_, rfl, rfl, _, rfl, if_t (decide_eq_true rfl) ⟨_, rfl, x, dx, fs, rfl, hx, F7.f0 _ (by decide +kernel), _, rfl, _, rfl, x, a, b, d, ks, ps, rs, bs, rfl, hla, hlb, hI, fun h _ => absurd h h1, fun _ e ne => ?_, fun h => absurd h h1⟩⟩⟩⟩⟩⟩⟩
        refine ⟨true, eU, fun _ a2 na => ?_, fun q => Bool.noConfusion q⟩
        have gE := Grew.new hP (o := .xd [("name", V.str a)]) ne
        refine ⟨_, rfl, rfl, rfl, e, _, .str a, rfl, upd_same, rfl, (show 2 ≤ sizeLine by decide), fun T nT => ?_⟩
        have gT := Grew.new gE.tab (o := .lst [.str "unknown", .str a]) nT
        rw [eD] at kQ
        exact kQ _ _ (gE.trans gT) (.lst (SqL.of upd_same) (.cons (.str _) (.cons (.str _) .nil)))
      · refine ⟨_, rfl, rfl, _, rfl, if_f (decide_eq_false (by decide)) ⟨_, rfl, rfl, _, rfl, if_f (decide_eq_false (by decide)) ⟨_, rfl, rfl, _, rfl, if_f (decide_eq_false (by decide)) ⟨_, rfl, rfl, _, rfl, if_f (decide_eq_false (by decide)) ⟨_, rfl, rfl, _, rfl, if_f (decide_eq_false (by decide)) ⟨_, rfl, rfl, _, rfl, if_t (decide_eq_true rfl) ⟨_, rfl, x, dx, fs, rfl, hx, F7.f0 _ (by decide +kernel), _, rfl, _, rfl, x, a, b, d, ks, ps, rs, bs, rfl, hla, hlb, hI, fun _ h => absurd h h2, fun n => absurd h1 n, fun _ _ e ne => ?_⟩⟩⟩⟩⟩⟩⟩
        refine ⟨true, eU, fun _ a2 na => ?_, fun q => Bool.noConfusion q⟩
        have gE := Grew.new hP (o := .xd [("name", V.str b)]) ne
        refine ⟨_, rfl, rfl, rfl, e, _, .str b, rfl, upd_same, rfl, (show 2 ≤ sizeLine by decide), fun T nT => ?_⟩
        have gT := Grew.new gE.tab (o := .lst [.str "unknown", .str b]) nT
        rw [eD] at kQ
        exact kQ _ _ (gE.trans gT) (.lst (SqL.of upd_same) (.cons (.str _) (.cons (.str _) .nil)))
    · rcases hc with ⟨h1, h2, h3, hD⟩ | ⟨h1, h2, h3, eD⟩ | ⟨h1, eD⟩ | ⟨h1, h2, eD⟩
      · refine ⟨_, rfl, rfl, _, rfl, if_f (decide_eq_false (by decide)) ⟨_, rfl, rfl, _, rfl, if_f (decide_eq_false (by decide)) ⟨_, rfl, rfl, _, rfl, if_f (decide_eq_false (by decide)) ⟨_, rfl, rfl, _, rfl, if_f (decide_eq_false (by decide)) ⟨_, rfl, rfl, _, rfl, if_f (decide_eq_false (by decide)) ⟨_, rfl, rfl, _, rfl, if_f (decide_eq_false (by decide)) ⟨_, rfl, x, dx, fs, rfl, hx, F7.f0 _ (by decide +kernel), _, rfl, _, rfl, x, a, b, d, ks, ps, rs, bs, rfl, hla, hlb, hoa, hob, hI, fun _ _ _ => ⟨fun ok x1 H1 k1 p1 r1 b1 g1 nx S1 hm1 => ?_, fun no H1 g1 => ?_⟩, fun _ _ n => absurd h3 n, fun n => absurd h1 n, fun _ n => absurd h2 n⟩⟩⟩⟩⟩⟩⟩
        · obtain ⟨dx1, fs1, kk1, pp1, rr1, E1, bb1, E2, ys1, zs1, hx1, m⟩ := id hm1
          refine ⟨_, rfl, x1, M, dx1, fs1, _, rfl, hx1, TM.cl, TM.n1, m.f1, _, rfl, x1, M, dx1, fs1, _, rfl, hx1, TM.cl, TM.n3, m.f3, _, rfl, x1, M, dx1, fs1, _, rfl, hx1, TM.cl, TM.n2, m.f2, _, rfl, x1, M, dx1, fs1, _, rfl, hx1, TM.cl, TM.n4, m.f4, _, rfl, x1, M, dx1, fs1, _, rfl, hx1, TM.cl, TM.n6, m.f6, (show 5 ≤ sizeLine by decide), fun L nL => ?_⟩
          have gL := Grew.new g1.tab (o := .lst [.int d, .ref pp1, .ref kk1, .ref rr1, .ref bb1]) nL
          obtain rfl := AnsD.one hD (.inl ⟨ok, k1, p1, r1, b1, S1, rfl⟩)
          refine kQ _ _ (g1.trans gL) (.lst (SqL.of upd_same) ?_)
          exact .cons (.int _) (.cons (dp_tstr (gL.tup g1.tab m.p)) (.cons (dp_tstr (gL.tup g1.tab m.k)) (.cons (.tup (SqT.of (gL.tup g1.tab m.r)) (dpAll_of (fun _ _ q => q.dp) (Paired.map' m.ry fun _ _ m => m.grew gL g1.tab))) (.cons (.tup (SqT.of (gL.tup g1.tab m.b)) (dpAll_of (fun _ _ q => q.dp) (Paired.map' m.bz fun _ _ m => m.grew gL g1.tab))) .nil))))
        · refine ⟨false, eCU, fun q => Bool.noConfusion q, fun _ => ⟨true, eC, fun _ a na => ?_, fun q => Bool.noConfusion q⟩⟩
          refine ⟨(show 2 ≤ sizeLine by decide), fun T nT => ?_⟩
          have gT := Grew.new g1.tab (o := .lst [.str "odd", .str zInv]) nT
          refine ⟨_, rfl, .ty "ValueError", .type "ValueError", true, rfl, rfl, rfl, fun u h => h, iV, .inr ⟨_, rfl, T, _, _, .str zInv, rfl, rfl, SqL.of upd_same, rfl, ?_⟩⟩
          obtain rfl := AnsD.one hD (.inr ⟨no, rfl⟩)
          exact kQ _ _ (g1.trans gT) (.str _)
      · refine ⟨_, rfl, rfl, _, rfl, if_f (decide_eq_false (by decide)) ⟨_, rfl, rfl, _, rfl, if_f (decide_eq_false (by decide)) ⟨_, rfl, rfl, _, rfl, if_f (decide_eq_false (by decide)) ⟨_, rfl, rfl, _, rfl, if_f (decide_eq_false (by decide)) ⟨_, rfl, rfl, _, rfl, if_f (decide_eq_false (by decide)) ⟨_, rfl, rfl, _, rfl, if_f (decide_eq_false (by decide)) ⟨_, rfl, x, dx, fs, rfl, hx, F7.f0 _ (by decide +kernel), _, rfl, _, rfl, x, a, b, d, ks, ps, rs, bs, rfl, hla, hlb, hoa, hob, hI, fun _ _ n => absurd n h3, fun _ _ _ H1 g1 => ?_, fun n => absurd h1 n, fun _ n => absurd h2 n⟩⟩⟩⟩⟩⟩⟩
        refine ⟨false, eCU, fun q => Bool.noConfusion q, fun _ => ⟨true, eC, fun _ a na => ?_, fun q => Bool.noConfusion q⟩⟩
        refine ⟨(show 2 ≤ sizeLine by decide), fun T nT => ?_⟩
        have gT := Grew.new g1.tab (o := .lst [.str "odd", .str zInv]) nT
        refine ⟨_, rfl, .ty "ValueError", .type "ValueError", true, rfl, rfl, rfl, fun u h => h, iV, .inr ⟨_, rfl, T, _, _, .str zInv, rfl, rfl, SqL.of upd_same, rfl, ?_⟩⟩
        subst eD
        exact kQ _ _ (g1.trans gT) (.str _)
      · refine ⟨_, rfl, rfl, _, rfl, if_f (decide_eq_false (by decide)) ⟨_, rfl, rfl, _, rfl, if_f (decide_eq_false (by decide)) ⟨_, rfl, rfl, _, rfl, if_f (decide_eq_false (by decide)) ⟨_, rfl, rfl, _, rfl, if_f (decide_eq_false (by decide)) ⟨_, rfl, rfl, _, rfl, if_f (decide_eq_false (by decide)) ⟨_, rfl, rfl, _, rfl, if_f (decide_eq_false (by decide)) ⟨_, rfl, x, dx, fs, rfl, hx, F7.f0 _ (by decide +kernel), _, rfl, _, rfl, x, a, b, d, ks, ps, rs, bs, rfl, hla, hlb, hoa, hob, hI, fun h _ _ => absurd h h1, fun h _ _ => absurd h h1, fun _ e ne => ?_, fun h => absurd h h1⟩⟩⟩⟩⟩⟩⟩
        refine ⟨true, eU, fun _ a2 na => ?_, fun q => Bool.noConfusion q⟩
        have gE := Grew.new hP (o := .xd [("name", V.str a)]) ne
        refine ⟨_, rfl, rfl, rfl, e, _, .str a, rfl, upd_same, rfl, (show 2 ≤ sizeLine by decide), fun T nT => ?_⟩
        have gT := Grew.new gE.tab (o := .lst [.str "unknown", .str a]) nT
        rw [eD] at kQ
        exact kQ _ _ (gE.trans gT) (.lst (SqL.of upd_same) (.cons (.str _) (.cons (.str _) .nil)))
      · refine ⟨_, rfl, rfl, _, rfl, if_f (decide_eq_false (by decide)) ⟨_, rfl, rfl, _, rfl, if_f (decide_eq_false (by decide)) ⟨_, rfl, rfl, _, rfl, if_f (decide_eq_false (by decide)) ⟨_, rfl, rfl, _, rfl, if_f (decide_eq_false (by decide)) ⟨_, rfl, rfl, _, rfl, if_f (decide_eq_false (by decide)) ⟨_, rfl, rfl, _, rfl, if_f (decide_eq_false (by decide)) ⟨_, rfl, x, dx, fs, rfl, hx, F7.f0 _ (by decide +kernel), _, rfl, _, rfl, x, a, b, d, ks, ps, rs, bs, rfl, hla, hlb, hoa, hob, hI, fun _ h _ => absurd h h2, fun _ h _ => absurd h h2, fun n => absurd h1 n, fun _ _ e ne => ?_⟩⟩⟩⟩⟩⟩⟩
        refine ⟨true, eU, fun _ a2 na => ?_, fun q => Bool.noConfusion q⟩
        have gE := Grew.new hP (o := .xd [("name", V.str b)]) ne
        refine ⟨_, rfl, rfl, rfl, e, _, .str b, rfl, upd_same, rfl, (show 2 ≤ sizeLine by decide), fun T nT => ?_⟩
        have gT := Grew.new gE.tab (o := .lst [.str "unknown", .str b]) nT
        rw [eD] at kQ
        exact kQ _ _ (gE.trans gT) (.lst (SqL.of upd_same) (.cons (.str _) (.cons (.str _) .nil)))
end
end W

set_option Elab.async false
set_option linter.all false
set_option maxRecDepth 100000
set_option maxHeartbeats 4000000
namespace W
open PySem PySem.Spec PyProof.Rows L2 GxR MyG MyS SqX MyR
/-! ### rows that a write to one list leaves as they are -/
mutual
def noL : PyData → Prop
  | .list _ => False
  | .dict _ => False
  | .tuple ds => noLs ds
  | _ => True
def noLs : List PyData → Prop
  | [] => True
  | d :: ds => noL d ∧ noLs ds
end
mutual
theorem Dp.keepT {K : PySem.W.Frag} {H H' : Hp} (kt : KeepT K H H') : ∀ (d : PyData) (v : V), noL d → Dp K H v d → Dp K H' v d
  | .none, _, _, h => by cases h; exact .non
  | .bool b, _, _, h => by cases h; exact .bl b
  | .int i, _, _, h => by cases h; exact .int i
  | .str x, _, _, h => by cases h; exact .str x
  | .list ds, _, n, h => by unfold noL at n; exact n.elim
  | .tuple ds, _, n, h => by
    cases h with
    | tup hs ha => exact .tup (kt _ _ hs) (Dp.keepTs kt ds _ (by unfold noL at n; exact n) ha)
  | .dict _, _, _, h => by cases h
theorem Dp.keepTs {K : PySem.W.Frag} {H H' : Hp} (kt : KeepT K H H') : ∀ (ds : List PyData) (vs : List V), noLs ds → DpAll K H vs ds → DpAll K H' vs ds
  | [], _, _, h => by cases h; exact .nil
  | d :: ds, _, n, h => by
    cases h with
    | cons h1 h2 => unfold noLs at n; exact .cons (Dp.keepT kt d _ n.1 h1) (Dp.keepTs kt ds _ n.2 h2)
end
theorem noLs_all : ∀ {ds : List PyData}, (∀ d ∈ ds, noL d) → noLs ds
  | [], _ => by unfold noLs; trivial
  | d :: ds, h => by unfold noLs; exact ⟨h d List.mem_cons_self, noLs_all fun x hx => h x (List.mem_cons_of_mem _ hx)⟩
theorem noL_tup {ds : List PyData} (h : ∀ d ∈ ds, noL d) : noL (.tuple ds) := by unfold noL; exact noLs_all h
theorem noL_strs (ns : List Str) : noL (.tuple (ns.map .str)) := noL_tup fun d hd => by
  obtain ⟨z, _, rfl⟩ := List.mem_map.mp hd
  unfold noL; trivial
theorem noL_road (r : RoadD) : noL (roadP r) := noL_tup fun d hd => by
  simp only [List.mem_cons, List.not_mem_nil, or_false] at hd
  rcases hd with rfl | rfl | rfl | rfl | rfl | rfl
  · unfold noL; trivial
  · unfold noL; trivial
  · unfold noL; trivial
  · unfold noL; trivial
  · exact noL_strs _
  · cases r.hours with
    | none => unfold hoursP noL; trivial
    | some gs =>
      refine noL_tup fun d hd => ?_
      obtain ⟨p, _, rfl⟩ := List.mem_map.mp hd
      refine noL_tup fun d hd => ?_
      simp only [List.mem_cons, List.not_mem_nil, or_false] at hd
      rcases hd with rfl | rfl <;> (unfold noL; trivial)
theorem noL_bar (b : Str × Str) : noL (barP b) := noL_tup fun d hd => by
  simp only [List.mem_cons, List.not_mem_nil, or_false] at hd
  rcases hd with rfl | rfl <;> (unfold noL; trivial)
theorem noLs_ans (d : Int) (ks ps : List Str) (rs : List RoadD) (bs : List (Str × Str)) : noLs [.int d, .tuple (ps.map .str), .tuple (ks.map .str), .tuple (rs.map roadP), .tuple (bs.map barP)] := noLs_all fun x hx => by
  simp only [List.mem_cons, List.not_mem_nil, or_false] at hx
  rcases hx with rfl | rfl | rfl | rfl | rfl
  · unfold noL; trivial
  · exact noL_strs _
  · exact noL_strs _
  · exact noL_tup fun d hd => by obtain ⟨r, _, rfl⟩ := List.mem_map.mp hd; exact noL_road r
  · exact noL_tup fun d hd => by obtain ⟨r, _, rfl⟩ := List.mem_map.mp hd; exact noL_bar r
/-- tuples are kept, and lists but one -/
structure KeepN (L : Addr) (K : PySem.W.Frag) (H H' : Hp) : Prop where
  t : KeepT K H H'
  l : ∀ a xs, a ≠ L → SqL K H a xs → SqL K H' a xs
theorem KeepN.refl {L : Addr} {K : PySem.W.Frag} {H : Hp} : KeepN L K H H := ⟨fun _ _ h => h, fun _ _ _ h => h⟩
theorem KeepN.trans {L : Addr} {K : PySem.W.Frag} {H H1 H2 : Hp} (a : KeepN L K H H1) (b : KeepN L K H1 H2) : KeepN L K H H2 := ⟨a.t.trans b.t, fun x xs n h => b.l x xs n (a.l x xs n h)⟩
theorem KeepN.grew {L : Addr} {K : PySem.W.Frag} {P : Addr} {H H' : Hp} (g : Grew P H H') (hP : TabG H P) : KeepN L K H H' := ⟨KeepT.grew g hP, fun _ _ _ h => g.sqL hP h⟩
theorem KeepN.write {L : Addr} {K : PySem.W.Frag} {H : Hp} {ys zs : List V} (e : H L = some (.lst ys)) : KeepN L K H (L2.upd H L (.lst zs)) := ⟨KeepT.lst e, fun a xs n h => by
  rcases h with h | h
  · rcases h with h | ⟨u, h⟩
    · exact .inl (.inl (by rw [upd_ne n]; exact h))
    · exact .inl (.inr ⟨u, by rw [upd_ne n]; exact h⟩)
  · exact .inr h⟩
/-- answers are kept -/
theorem ans_keep {L : Addr} {K : PySem.W.Frag} {H H' : Hp} {d : Int} {ks ps : List Str} {rs : List RoadD} {bs : List (Str × Str)} {v : V} {D : PyData} (hD : AnsD d ks ps rs bs D) (hv : Dp K H v D) (n : ∀ a, v = .ref a → a ≠ L) (k : KeepN L K H H') : Dp K H' v D := by
  rcases hD with ⟨o, k1, p1, r1, b1, s1, rfl⟩ | ⟨_, rfl⟩
  · cases hv with
    | lst hs ha => exact .lst (k.l _ _ (n _ rfl) hs) (Dp.keepTs k.t _ _ (noLs_ans d k1 p1 r1 b1) ha)
  · cases hv
    exact .str _
theorem unk_keep {L a : Addr} {K : PySem.W.Frag} {H H' : Hp} {z : Str} (h : SqL K H a [.str "unknown", .str z]) (n : a ≠ L) (k : KeepN L K H H') : Dp K H' (.ref a) (unkP z) := .lst (k.l _ _ n h) (.cons (.str _) (.cons (.str _) .nil))
/-- a row that a write to L leaves as it is -/
def RowN (L : Addr) (K : PySem.W.Frag) (H : Hp) (d : Int) (ks ps : List Str) (rs : List RoadD) (bs : List (Str × Str)) (v : V) : Prop := ∃ (t : Addr) (i : Int) (one other ans : V) (D : PyData), v = .ref t ∧ SqT K H t [.int i, one, other, ans] ∧ Lay 6 D ∧ ∀ H', KeepN L K H H' → RowQ K H' d ks ps rs bs i one other D ∧ Dp K H' ans D
theorem RowN.keep {L : Addr} {K : PySem.W.Frag} {H H' : Hp} {d : Int} {ks ps : List Str} {rs : List RoadD} {bs : List (Str × Str)} {v : V} (h : RowN L K H d ks ps rs bs v) (k : KeepN L K H H') : RowN L K H' d ks ps rs bs v := by
  obtain ⟨t, i, one, other, ans, D, e, a, l, f⟩ := h
  exact ⟨t, i, one, other, ans, D, e, k.t _ _ a, l, fun H2 k2 => f H2 (k.trans k2)⟩
/-- a row, and it grows -/
def RowT (K : PySem.W.Frag) (H : Hp) (d : Int) (ks ps : List Str) (rs : List RoadD) (bs : List (Str × Str)) (v : V) : Prop := ∃ (t : Addr) (i : Int) (one other ans : V) (D : PyData), v = .ref t ∧ SqT K H t [.int i, one, other, ans] ∧ RowQ K H d ks ps rs bs i one other D ∧ Dp K H ans D ∧ Lay 6 D
theorem RowT.grew {K : PySem.W.Frag} {P : Addr} {H H' : Hp} {d : Int} {ks ps : List Str} {rs : List RoadD} {bs : List (Str × Str)} {v : V} (h : RowT K H d ks ps rs bs v) (g : Grew P H H') (hP : TabG H P) : RowT K H' d ks ps rs bs v := by
  obtain ⟨t, i, one, other, ans, D, e, a, b, c, l⟩ := h
  exact ⟨t, i, one, other, ans, D, e, g.sqT hP a, b.grew g hP, Dp.gr g hP _ _ c, l⟩
theorem RowN.row {L : Addr} {K : PySem.W.Frag} {H : Hp} {d : Int} {ks ps : List Str} {rs : List RoadD} {bs : List (Str × Str)} {v : V} (h : RowN L K H d ks ps rs bs v) : RowT K H d ks ps rs bs v := by
  obtain ⟨t, i, one, other, ans, D, e, a, l, f⟩ := h
  obtain ⟨q, p⟩ := f H KeepN.refl
  exact ⟨t, i, one, other, ans, D, e, a, q, p, l⟩
/-- the same in fewer words: a row of strings, answered for by the law's own map -/
theorem num_at {ns : List Int} (hs : Sm ns) {k : Nat} (h : k < ns.length) : ∃ n : Int, atI (ns.map V.int) (k : Int) = some (.int n) ∧ 0 ≤ n ∧ n < 1009 := by
  obtain ⟨a, b⟩ := hs _ (List.getElem_mem h)
  exact ⟨ns[k], atI_nat (by rw [List.getElem?_map, List.getElem?_eq_getElem h]; rfl), a, b⟩
theorem mk_at {P : Addr} {H : Hp} {U : Addr} {o : HO} (hP : TabG H P) (n : H U = none) : Grew P H (L2.upd H U o) ∧ (L2.upd H U o) U = some o := ⟨Grew.new hP n, upd_same⟩
/-- names drawn -/
structure NmsOk (nms : List Str) : Prop where
  l1 : 1 ≤ nms.length
  l2 : nms.length ≤ 100
  n : ∀ z ∈ nms, isNm z = true
def spRowsE (K : PySem.W.Frag) (P : Addr) : Sp := fun vs H Q _ => ∃ (p N NA : Addr) (d : Int) (ks ps : List Str) (rs : List RoadD) (bs : List (Str × Str)) (ns : List Int) (nms : List Str), vs = [.ref p, .ref N, .ref NA] ∧ PartsL H p d ks ps rs bs ∧ PartsOk d ks ps rs bs ∧ SqL K H N (ns.map V.int) ∧ Sm ns ∧ 158 ≤ ns.length ∧ ns.length ≤ 1000 ∧ SqL K H NA (nms.map V.str) ∧ NmsOk nms ∧ TabG H P ∧
  ∀ H' q xs, Grew P H H' → H q = none → H' q = some (.lst xs) → (∀ v ∈ xs, RowT K H' d ks ps rs bs v) → xs.length ≤ 10 → Q (.ref q) H'
def spRowsP (K : PySem.W.Frag) (P : Addr) : Sp := fun vs H Q _ => ∃ (p N : Addr) (d : Int) (ks ps : List Str) (rs : List RoadD) (bs : List (Str × Str)) (ns : List Int), vs = [.ref p, .ref N] ∧ PartsL H p d ks ps rs bs ∧ PartsOk d ks ps rs bs ∧ SqL K H N (ns.map V.int) ∧ Sm ns ∧ 158 ≤ ns.length ∧ ns.length ≤ 1000 ∧ TabG H P ∧
  ∀ H' q xs, Grew P H H' → H q = none → H' q = some (.lst xs) → (∀ v ∈ xs, RowT K H' d ks ps rs bs v) → xs.length ≤ 10 → Q (.ref q) H'
end W

set_option Elab.async false
set_option linter.all false
set_option maxRecDepth 100000
set_option maxHeartbeats 8000000
namespace W
open PySem PySem.Spec PyProof.Rows L2 GxR MyG MyS SqX MyR
/-! ### _law_roads -/
abbrev sRoE : Stmt := top 45
theorem str_idx {nms : List Str} {x : Int} (h : 1 ≤ nms.length) : ∃ z, atI (nms.map V.str) (x % ((nms.map V.str).length : Int)) = some (.str z) ∧ z ∈ nms := str_at' h
theorem roadL_keepN {L P : Addr} {K : PySem.W.Frag} {H H1 : Hp} {r : RoadD} {v : V} (h : RoadL H r v) (nL : H L = none) (g : Grew P H H1) (hP : TabG H P) : ∀ H', KeepN L K H1 H' → GRoadX K H' (rG r) v := fun H' k => by
  obtain ⟨t, u, hh, rfl, ht, hu, hhh⟩ := h
  have uL : u ≠ L := fun e => by rw [e, nL] at hu; cases hu
  refine ⟨t, u, hh, true, rfl, k.t _ _ (SqT.of (g.tup hP ht)), k.l _ _ uL (SqL.of (g.lst hP hu)), ?_⟩
  show GHoursX K H' (hoursG r.hours) hh
  cases e : r.hours with
  | none => rw [e] at hhh; exact hhh
  | some gs =>
    rw [e] at hhh
    obtain ⟨l, ys, rfl, hl, hp⟩ := hhh
    have lL : l ≠ L := fun e => by rw [e, nL] at hl; cases hl
    refine ⟨l, ys, true, rfl, k.l _ _ lL (SqL.of (g.lst hP hl)), paired_mapl (fun p v m => ?_) hp⟩
    obtain ⟨t, e, q⟩ := m
    exact ⟨t, e, k.t _ _ (SqT.of (g.tup hP q))⟩
theorem hours_keepN {L : Addr} {K : PySem.W.Frag} {H H' : Hp} {hs : Option (List (Int × Int))} {v : V} (h : HoursL H hs v) (n : ∀ l, v = .ref l → l ≠ L) (k : KeepN L K H H') : GHoursX K H' (hoursG hs) v := by
  cases hs with
  | none => exact h
  | some gs =>
    obtain ⟨l, ys, rfl, hl, hp⟩ := h
    refine ⟨l, ys, true, rfl, k.l _ _ (n l rfl) (SqL.of hl), paired_mapl (fun p v m => ?_) hp⟩
    obtain ⟨t, e, q⟩ := m
    exact ⟨t, e, k.t _ _ (SqT.of q)⟩
theorem decN (x : Nat) (y : Nat) : decide (V.int (x : Int) = V.int (y : Int)) = decide (x = y) := by rw [decide_eq_decide]; exact ⟨fun e => by injection e; omega, fun e => by rw [e]⟩
theorem but_len {z : Str} {rs : List RoadD} : (butR z rs).length = rs.length ↔ ¬ Known rs z := by
  unfold butR
  rw [List.length_filter_eq_length_iff]
  constructor
  · rintro h ⟨r, hr, e⟩
    have := h r hr
    simp [e] at this
  · intro h r hr
    have : r.name ≠ z := fun e => h ⟨r, hr, e⟩
    simp [this]
theorem small_of {d : Int} {ps ks : List Str} {r : RoadD} (hn : isNm r.name = true) (o : RoadOk d ps ks r) (pn : ps.all isNm = true) (kn : ks.all isNm = true) : SmallG (rG r) := by
  refine ⟨Nat.le_trans (isNm_len hn) (by decide), Nat.le_trans (isNm_len (List.all_eq_true.mp pn _ o.s)) (by decide), Nat.le_trans (isNm_len (List.all_eq_true.mp pn _ o.g)) (by decide), by have h1 := o.m1; have h2 := o.m2; show r.minutes.natAbs < _; omega, by have := o.un; show r.users.length ≤ _; omega, fun z hz => Nat.le_trans (isNm_len (List.all_eq_true.mp kn _ (o.u z hz))) (by decide), fun ps e => ?_⟩
  have e2 : hoursG r.hours = some ps := e
  have oh := o.h
  cases c : r.hours with
  | none => rw [c] at e2; cases e2
  | some gs =>
    rw [c] at e2 oh
    have e3 : gs.map (fun p : Int × Int => [p.1, p.2]) = ps := Option.some.inj e2
    rw [← e3, List.length_map]
    have := oh.1
    omega
theorem SmallG.hours {r : RoadD} (h : SmallG (rG r)) {hs : Option (List (Int × Int))} (l : ∀ gs, hs = some gs → gs.length ≤ 1000) : SmallG (rG { r with hours := hs }) := ⟨h.n, h.s, h.g, h.m, h.ul, h.u, fun ps e => by
  have e2 : hoursG hs = some ps := e
  cases c : hs with
  | none => rw [c] at e2; cases e2
  | some gs =>
    rw [c] at e2
    have e3 : gs.map (fun p : Int × Int => [p.1, p.2]) = ps := Option.some.inj e2
    rw [← e3, List.length_map]
    exact l gs c⟩
section
variable {Pg : Program} {w : World} {K : PySem.W.Frag} {mg : Str → Option Value} {base : Heap} {C P : Addr}
abbrev nRo : List Str := ["parts", "numbers", "names", "day", "places", "kinds", "roads", "bars", "name", "others", "road", "found", "rest", "hours", "changed", "bar", "one"]
theorem scRo : FnScope nRo ["parts", "numbers", "names"] (defScope sRoE) := ⟨rfl, rfl, rfl, by decide +kernel, rfl, by decide +kernel, by decide +kernel⟩
theorem ok_rowsRo {f fLr fMu : Addr} {fd fdLr fdMu : FuncData} (F : Fun K "_law_roads" "_law_roads" sRoE f fd) (hi : mg "int" = none) (hl : mg "len" = none)
    (GLr : FnOk Pg w K mg base CX0 3 fLr fdLr ["numbers", "k", "name", "places", "kinds", "day"] (spLRoad K P)) (gLr : mg "_law_road" = some (.ref fLr)) (kLr : PySem.W.keepIn K (.ref fLr) = true) (bLr : Binds K fdLr ["numbers", "k", "name", "places", "kinds", "day"] [])
    (GMu : FnOk Pg w K mg base CX0 8 fMu fdMu ["parts"] (spMadeDue K P)) (gMu : mg "_law_made_due" = some (.ref fMu)) (kMu : PySem.W.keepIn K (.ref fMu) = true) (bMu : Binds K fdMu ["parts"] []) :
    FnOk Pg w K mg base CX0 9 f fd ["parts", "numbers", "names"] (spRowsE K P) := by
  refine F.ok scRo (fun vs H Q E h => ?_) (fun cdv A outer s H vs Q E hr h => ?_)
  · obtain ⟨p, N, NA, d, ks, ps, rs, bs, ns, nms, rfl, _⟩ := h
    rfl
  · obtain ⟨p, N, NA, d, ks, ps, rs, bs, ns, nms, rfl, ⟨pl, ki, ro, ba, xs, zs, hp, hpl, hki, hro, hrs, hba, hbs⟩, ok, hN, hsm, hlen, hl9, hNA, nok, hP, kQ⟩ := h
    refine ⟨_, (pss_cons (ps_asg (pv 0) (pg_tup (by rfl) (pgs_cons (pg_name (i := 3) scRo.nd rfl (Or.inl rfl)) (pgs_cons (pg_name (i := 4) scRo.nd rfl (Or.inl rfl)) (pgs_cons (pg_name (i := 5) scRo.nd rfl (Or.inl rfl)) (pgs_cons (pg_name (i := 6) scRo.nd rfl (Or.inl rfl)) (pgs_cons (pg_name (i := 7) scRo.nd rfl (Or.inl rfl)) pgs_nil)))))))
      (pss_cons (ps_set (i := 8) scRo.nd rfl (Or.inr rfl) (pe_ix (r := rIxL K) ix_list (pv 2) (pe_op op_mod (pe_callTy (r := rInt1) call_int1 (by rfl) hi (by decide +kernel) (pa_cons (pe_ix (r := rIxL K) ix_list (pv 1) pe_int (fun _ _ => rfl)) pa_nil)) (pe_callB (r := rLenK K) call_len_seq (by rfl) hl PySem.boot_len (pa_cons (pv 2) pa_nil))) (fun _ _ => rfl)))
      (C8.pss_cut (ps_setLc (i := 9) (own := [("road", 10)]) (g := (gName 10)) rfl scRo.nd rfl rfl (sw_true rfl rfl rfl (by decide +kernel)) (pi_list (pv 6)) (blkOk_by (N := nRo) (sc := defScope sRoE) (by decide +kernel)) (fun _ _ _ _ _ => pg_name (i := 10) scRo.nd rfl (Or.inl rfl)) (fun _ _ _ _ _ => pts_one (pt_cmpR op_ne (pe_ix (r := rIxT K) ix_tup (pv 10) pe_int (fun _ _ => rfl)) (pv 8) (nomark _))) (fun _ _ _ _ _ => (pv 10)))
      (C8.pss_cut (ps_if (pt_cmpR op_gt (pe_callB (r := rLenK K) call_len_seq (by rfl) hl PySem.boot_len (pa_cons (pv 4) pa_nil)) pe_int (nomark _)) (pss_cons (ps_set (i := 10) scRo.nd rfl (Or.inl rfl) (pe_call GLr (hr.mono (by decide)) (by rfl) gLr kLr bLr .nil pass0 (pa_cons (pv 1) (pa_cons pe_int (pa_cons (pv 8) (pa_cons (pv 4) (pa_cons (pv 5) (pa_cons (pv 3) pa_nil))))))))
      (pss_one (ps_if (pt_cmpR op_eq (pe_op op_mod (pe_callTy (r := rInt1) call_int1 (by rfl) hi (by decide +kernel) (pa_cons (pe_ix (r := rIxL K) ix_list (pv 1) pe_int (fun _ _ => rfl)) pa_nil)) pe_int) pe_int (nomark _)) (pss_one (ps_set (i := 10) scRo.nd rfl (Or.inl rfl) (pe_op op_catA (pe_op op_catA (pe_slice sl_tupA (pv 10) po_none (po_some pe_int)) (pe_tup (pa_cons pe_int pa_nil))) (pe_slice sl_tupA (pv 10) (po_some pe_int) po_none))))
        pss_nil)))
        (pss_one (ps_set (i := 10) scRo.nd rfl (Or.inl rfl) (pe_tup (pa_cons (pv 8) (pa_cons pe_str (pa_cons pe_str (pa_cons pe_int (pa_cons (pe_lst pa_nil) (pa_cons pe_non pa_nil))))))))))
      (pss_cons (ps_set (i := 11) scRo.nd rfl (Or.inl rfl) (pe_lst (pa_cons (pe_tup (pa_cons pe_int (pa_cons (pv 10) (pa_cons pe_non (pa_cons (pe_call GMu (hr.mono (by decide)) (by rfl) gMu kMu bMu .nil pass0 (pa_cons (pe_tup (pa_cons (pv 3) (pa_cons (pv 4) (pa_cons (pv 5) (pa_cons (pe_op op_cat (pv 9) (pe_lst (pa_cons (pv 10) pa_nil))) (pa_cons (pv 7) pa_nil)))))) pa_nil)) pa_nil))))) pa_nil)))
      (pss_cons (ps_if (pt_cmpR op_eq (pe_callB (r := rLenK K) call_len_seq (by rfl) hl PySem.boot_len (pa_cons (pv 9) pa_nil)) (pe_callB (r := rLenK K) call_len_seq (by rfl) hl PySem.boot_len (pa_cons (pv 6) pa_nil)) (nomark _)) (pss_cons (ps_expr (pe_bm PySem.F.plainAttrs_list PySem.F.slot_list_append PySem.F.type_list_append mt_append (pv 11) (pa_cons (pe_tup (pa_cons pe_int (pa_cons (pv 8) (pa_cons pe_non (pa_cons (pe_lst (pa_cons pe_str (pa_cons (pv 8) pa_nil))) pa_nil))))) pa_nil)))
      (pss_cons (ps_expr (pe_bm PySem.F.plainAttrs_list PySem.F.slot_list_append PySem.F.type_list_append mt_append (pv 11) (pa_cons (pe_tup (pa_cons pe_int (pa_cons (pv 8) (pa_cons (pe_lst (pa_cons (pe_tup (pa_cons pe_int (pa_cons pe_int pa_nil))) pa_nil)) (pa_cons (pe_lst (pa_cons pe_str (pa_cons (pv 8) pa_nil))) pa_nil))))) pa_nil)))
      (pss_one (ps_ret (pv 11)))))
        pss_nil)
      (C8.pss_cut (ps_setLc (i := 12) (own := [("bar", 15)]) (g := (gName 15)) rfl scRo.nd rfl rfl (sw_true rfl rfl rfl (by decide +kernel)) (pi_list (pv 7)) (blkOk_by (N := nRo) (sc := defScope sRoE) (by decide +kernel)) (fun _ _ _ _ _ => pg_name (i := 15) scRo.nd rfl (Or.inl rfl)) (fun _ _ _ _ _ => pts_one (PW.pt (pw_and (pt_cmpR op_ne (pe_ix (r := rIxT K) ix_tup (pv 15) pe_int (fun _ _ => rfl)) (pv 8) (nomark _)) (pw_and1 (pt_cmpR op_ne (pe_ix (r := rIxT K) ix_tup (pv 15) pe_int (fun _ _ => rfl)) (pv 8) (nomark _)))))) (fun _ _ _ _ _ => (pv 15)))
      (pss_cons (ps_expr (pe_bm PySem.F.plainAttrs_list PySem.F.slot_list_append PySem.F.type_list_append mt_append (pv 11) (pa_cons (pe_tup (pa_cons pe_int (pa_cons (pv 8) (pa_cons pe_non (pa_cons (pe_call GMu (hr.mono (by decide)) (by rfl) gMu kMu bMu .nil pass0 (pa_cons (pe_tup (pa_cons (pv 3) (pa_cons (pv 4) (pa_cons (pv 5) (pa_cons (pv 9) (pa_cons (pv 12) pa_nil)))))) pa_nil)) pa_nil))))) pa_nil)))
      (C8.pss_cut (ps_set (i := 13) scRo.nd rfl (Or.inl rfl) (pe_ix (r := rIxL K) ix_list (pe_ix (r := rIxL K) ix_list (pe_lst (pa_cons (pe_lst (pa_cons pe_non (pa_cons (pe_lst pa_nil) pa_nil))) (pa_cons (pe_lst (pa_cons (pe_lst (pa_cons (pe_tup (pa_cons pe_int (pa_cons (pv 3) pa_nil))) pa_nil)) (pa_cons (pe_lst (pa_cons (pe_tup (pa_cons pe_int (pa_cons (pe_op op_add (pv 3) pe_int) pa_nil))) pa_nil)) pa_nil))) pa_nil))) (pe_op op_mod (pe_callTy (r := rInt1) call_int1 (by rfl) hi (by decide +kernel) (pa_cons (pe_ix (r := rIxL K) ix_list (pv 1) pe_int (fun _ _ => rfl)) pa_nil)) pe_int) (fun _ _ => rfl)) (pe_op op_mod (pe_op op_fdiv (pe_callTy (r := rInt1) call_int1 (by rfl) hi (by decide +kernel) (pa_cons (pe_ix (r := rIxL K) ix_list (pv 1) pe_int (fun _ _ => rfl)) pa_nil)) pe_int) pe_int) (fun _ _ => rfl)))
      (C8.pss_cut (ps_set (i := 14) scRo.nd rfl (Or.inl rfl) (pe_op op_catA (pe_slice sl_tupA (pe_ix (r := rIxL K) ix_list (pe_lc (own := [("one", 16)]) (g := (gName 16)) rfl scRo.nd (pi_list (pv 6)) (blkOk_by (N := nRo) (sc := defScope sRoE) (by decide +kernel)) (fun _ _ _ _ _ => pg_name (i := 16) scRo.nd rfl (Or.inl rfl)) (fun _ _ _ _ _ => pts_one (pt_cmpR op_eq (pe_ix (r := rIxT K) ix_tup (pv 16) pe_int (fun _ _ => rfl)) (pv 8) (nomark _))) (fun _ _ _ _ _ => (pv 16))) pe_int (fun _ _ => rfl)) po_none (po_some pe_int)) (pe_tup (pa_cons (pv 13) pa_nil))))
      (pss_cons (ps_expr (pe_bm PySem.F.plainAttrs_list PySem.F.slot_list_append PySem.F.type_list_append mt_append (pv 11) (pa_cons (pe_tup (pa_cons pe_int (pa_cons (pv 8) (pa_cons (pv 13) (pa_cons (pe_call GMu (hr.mono (by decide)) (by rfl) gMu kMu bMu .nil pass0 (pa_cons (pe_tup (pa_cons (pv 3) (pa_cons (pv 4) (pa_cons (pv 5) (pa_cons (pe_op op_cat (pv 9) (pe_lst (pa_cons (pv 14) pa_nil))) (pa_cons (pv 7) pa_nil)))))) pa_nil)) pa_nil))))) pa_nil)))
      (pss_one (ps_ret (pv 11)))))))))))))), ?_⟩
    obtain ⟨n0, en0, n00, n01⟩ := num_at hsm (k := 140) (by omega)
    obtain ⟨n8, en8, n80, n81⟩ := num_at hsm (k := 148) (by omega)
    obtain ⟨n9, en9, n90, n91⟩ := num_at hsm (k := 149) (by omega)
    have lxs := Paired.len hrs
    have lzs := Paired.len hbs
    have k4 := ok.k2
    have p30 := ok.p2
    have r60 := ok.r.len
    have b40 := ok.b.len
    have d1 := ok.d1
    have d2 := ok.d2
    refine ⟨_, rfl, p, _, rfl, SqT.of hp, rfl, _, _, rfl, _, _, rfl, _, _, rfl, _, _, rfl, _, _, rfl, rfl, ?_⟩
    obtain ⟨z, ez, hzm⟩ := str_idx (x := n0) nok.l1
    have zn := nok.n z hzm
    have zl : z.length ≤ 12 := isNm_len zn
    have zl1 : z.length ≤ 1000 := by omega
    have zok := nm_ok zn
    have hlp : (0 : Int) < ((nms.map V.str).length : Int) := by have := nok.l1; rw [List.length_map]; omega
    refine ⟨_, rfl, _, rfl, N, _, 140, .int n0, rfl, rfl, hN, en0, .inl ⟨n0, rfl, _, rfl, NA, _, rfl, .inl hNA, _, _, rfl, rfl, hlp, NA, _, _, _, rfl, rfl, hNA, ez, ?_⟩⟩
    -- others
    refine ⟨fun σ H' => ∃ v10 O acc, σ = [some (.ref p), some (.ref N), some (.ref NA), some (.int d), some (.ref pl), some (.ref ki), some (.ref ro), some (.ref ba), some (.str z), some (.ref O), v10, none, none, none, none, none, none] ∧ Grew P H H' ∧ H' O = some (.lst acc) ∧ Paired (RoadL H) (butR z rs) acc, ?_, ?_⟩
    · refine ⟨_, rfl, ro, rfl, ⟨_, SqL.of hro⟩, fun D nD => lc_list (K := K) (a := ro) (xs := xs) (fun i H' => Grew P H H' ∧ ∃ acc, H' D = some (.lst acc) ∧ acc.length ≤ i ∧ Paired (RoadL H) ((rs.take i).filter fun r => !decide (r.name = z)) acc)
        ⟨Grew.new hP nD, [], upd_same, Nat.le_refl _, .nil⟩ (fun i H' _ q => SqL.of (q.1.lst hP hro)) (fun i v H' hv q => ?_) (fun H1 q => ?_)⟩
      · obtain ⟨g, acc, hD, hla, hacc⟩ := q
        obtain ⟨r, hri, m⟩ := Paired.at hrs hv
        have hi := (List.getElem?_eq_some_iff.mp hv).1
        have ft := filter_takeA (p := fun q : RoadD => !decide (q.name = z)) hri
        obtain ⟨t, u, h, rfl, ht, hu, hh⟩ := id m
        refine ⟨rfl, _, rfl, t, _, 0, .str r.name, rfl, rfl, SqT.of (g.tup hP ht), rfl, _, rfl, rfl, _, rfl, ?_⟩
        by_cases c : r.name = z
        · refine if_f (by rw [c]; simp) ⟨g, acc, hD, by omega, ?_⟩
          rw [ft, if_neg (by rw [c]; simp), List.append_nil]
          exact hacc
        · have c' : ¬ V.str r.name = V.str z := fun e => c (by injection e)
          refine if_t (by rw [decide_eq_false c']; rfl) ⟨_, rfl, acc, hD, by rw [sizeLine_eq]; omega, g.write hD (fun _ z => by cases z) nD, _, upd_same, by rw [List.length_append]; show _ + 1 ≤ _; omega, ?_⟩
          rw [ft, if_pos (by simp [c])]
          exact Paired.snoc hacc m
      · obtain ⟨g, acc, hD, hla, hacc⟩ := q
        rw [← lxs, List.take_length] at hacc
        exact ⟨none, D, acc, rfl, g, hD, hacc⟩
    rintro σ H1 ⟨v10, O, acc, rfl, g1, hO, hacc⟩
    have la := Paired.len hacc
    have lb : (butR z rs).length ≤ 60 := Nat.le_trans (List.length_filter_le _ _) r60
    -- a road
    refine ⟨fun σ H' => ∃ v r, σ = [some (.ref p), some (.ref N), some (.ref NA), some (.int d), some (.ref pl), some (.ref ki), some (.ref ro), some (.ref ba), some (.str z), some (.ref O), some v, none, none, none, none, none, none] ∧ Grew P H1 H' ∧ RoadL H' r v ∧ r.name = z ∧ SmallG (rG r), ?_, ?_⟩
    · refine ⟨_, rfl, pl, _, rfl, .inl (SqL.of (g1.lst hP hpl)), _, _, rfl, rfl, _, rfl, ?_⟩
      rw [List.length_map]
      by_cases c0 : 0 < ps.length
      · refine if_t (decide_eq_true (by omega)) ?_
        refine ⟨_, rfl, _, rfl, _, rfl, _, rfl, _, rfl, N, pl, ki, ns, 141, d, z, ps, ks, rfl, g1.sqL hP hN, hsm, by omega, hl9, by decide, d1, d2, SqL.of (g1.lst hP hpl), SqL.of (g1.lst hP hki), c0, k4, ok.kd, g1.tab, fun H2 v r g2 hF en or => ?_⟩
        have hv := hF.road
        have sg := small_of (by rw [en]; exact zn) or ok.pn ok.kn
        refine ⟨_, rfl, N, _, 148, .int n8, rfl, rfl, (g1.trans g2).sqL hP hN, en8, .inl ⟨n8, rfl, _, _, rfl, rfl, (show (0 : Int) < 5 by decide), rfl, _, rfl, ?_⟩⟩
        by_cases c1 : n8 % 5 = 1
        · refine if_t (decide_eq_true (congrArg V.int c1)) ?_
          obtain ⟨t, u, h, rfl, ht, hu, hh⟩ := id hv
          refine ⟨_, rfl, _, rfl, t, _, rfl, SqT.of ht, fun w => ?_, fun _ A1 a1 => ?_⟩
          · exact absurd (show HT.sIx 6 6 (some 3) = 6 from w.2) (by decide)
          obtain ⟨ga, h1⟩ := mk_at (o := .tup [.str r.name, .str r.start, .str r.goal]) g2.tab a1
          refine ⟨(show 1 ≤ sizeLine by decide), fun A2 a2 => ?_⟩
          obtain ⟨gb, h2⟩ := mk_at (o := .tup [.int 1001]) ga.tab a2
          have g12 := ga.trans gb
          refine ⟨A1, A2, [.str r.name, .str r.start, .str r.goal], _, rfl, rfl, SqT.of (gb.tup ga.tab h1), SqT.of h2, by simp only [List.length_cons, List.length_nil]; decide, fun e => (by cases e), fun _ e => (by cases e), fun _ _ A3 a3 => ?_⟩
          obtain ⟨gc, h3⟩ := mk_at (o := .tup [.str r.name, .str r.start, .str r.goal, .int 1001]) g12.tab a3
          have g13 := g12.trans gc
          refine ⟨_, rfl, _, rfl, t, _, rfl, SqT.of (g13.tup g2.tab ht), fun w => ?_, fun _ A4 a4 => ?_⟩
          · exact absurd (show HT.sIx 6 0 (some 4) = 0 from w.1) (by decide)
          obtain ⟨gd, h4⟩ := mk_at (o := .tup [.ref u, h]) g13.tab a4
          refine ⟨A3, A4, [.str r.name, .str r.start, .str r.goal, .int 1001], [.ref u, h], rfl, rfl, SqT.of (gd.tup g13.tab h3), SqT.of h4, by simp only [List.length_cons, List.length_nil]; decide, fun e => (by cases e), fun _ e => (by cases e), fun _ _ A5 a5 => ?_⟩
          obtain ⟨ge, h5⟩ := mk_at (o := .tup [.str r.name, .str r.start, .str r.goal, .int 1001, .ref u, h]) (g13.trans gd).tab a5
          have g15 := (g13.trans gd).trans ge
          exact ⟨.ref A5, { r with minutes := 1001 }, rfl, g2.trans g15, ⟨A5, u, h, rfl, h5, g15.lst g2.tab hu, hh.grew g15 g2.tab⟩, en, ⟨sg.n, sg.s, sg.g, by show (1001 : Int).natAbs < _; decide, sg.ul, sg.u, sg.h⟩⟩
        · exact if_f (decide_eq_false fun e => c1 (by injection e)) ⟨v, r, rfl, g2, hv, en, sg⟩
      · refine if_f (decide_eq_false (by omega)) ?_
        refine ⟨_, rfl, (show 0 ≤ sizeLine by decide), fun A1 a1 => ?_⟩
        obtain ⟨ga, h1⟩ := mk_at (o := .lst []) g1.tab a1
        refine ⟨(show 6 ≤ sizeLine by decide), fun A2 a2 => ?_⟩
        obtain ⟨gb, h2⟩ := mk_at (o := .tup [.str z, .str (Str.ofString "zz"), .str (Str.ofString "zz"), .int 1, .ref A1, .non]) ga.tab a2
        exact ⟨.ref A2, ⟨z, Str.ofString "zz", Str.ofString "zz", 1, [], none⟩, rfl, ga.trans gb, ⟨A2, A1, .non, rfl, h2, gb.lst ga.tab h1, rfl⟩, rfl, ⟨zl1, (show (Str.ofString "zz").length ≤ 1000 by decide +kernel), (show (Str.ofString "zz").length ≤ 1000 by decide +kernel), (show (1 : Int).natAbs < 10 ^ 12 by decide), Nat.zero_le _, fun x hx => (by cases hx), fun ps e => (by cases e)⟩⟩
    rintro σ H2 ⟨v, r, rfl, g2, hv, en, sg⟩
    have g02 := g1.trans g2
    -- the first row
    refine ⟨_, rfl, _, rfl, _, rfl, _, rfl, _, rfl, _, rfl, (show 1 ≤ sizeLine by decide), fun B1 b1 => ?_⟩
    obtain ⟨ga, h1⟩ := mk_at (o := .lst [v]) g2.tab b1
    refine ⟨O, B1, _, _, rfl, rfl, (g2.trans ga).lst g1.tab hO, h1, by simp only [List.length_cons, List.length_nil]; rw [sizeLine_eq]; omega, fun B2 b2 => ?_⟩
    have g2a := g2.trans ga
    obtain ⟨gb, h2⟩ := mk_at (o := .lst (acc ++ [v])) ga.tab b2
    refine ⟨_, rfl, (show 5 ≤ sizeLine by decide), fun B3 b3 => ?_⟩
    obtain ⟨gc, h3⟩ := mk_at (o := .tup [.int d, .ref pl, .ref ki, .ref B2, .ref ba]) gb.tab b3
    have gac := ga.trans (gb.trans gc)
    have g03 := g02.trans gac
    have oR : ∀ {H' : Hp}, Grew P H H' → Paired (RoadL H') (butR z rs) acc := fun g => Paired.map' hacc fun _ _ m => m.grew g hP
    have oB : ∀ {H' : Hp}, Grew P H H' → Paired (GBar H') bs zs := fun g => Paired.map' hbs fun _ _ m => m.grew g hP
    have eput : putR r rs = butR z rs ++ [r] := by unfold putR; rw [en]
    have hp3 : PartsL _ B3 d ks ps (putR r rs) bs := ⟨pl, ki, B2, ba, acc ++ [v], zs, h3, g03.lst hP hpl, g03.lst hP hki, gc.lst gb.tab h2, by rw [eput]; exact Paired.app (oR g03) (.cons (hv.grew gac g2.tab) .nil), g03.lst hP hba, oB g03⟩
    refine ⟨B3, d, ks, ps, putR r rs, bs, rfl, hp3, PartsSm.put ok sg, gc.tab, fun H4 ans D g4 hD hans fr => ?_⟩
    have g04 := g03.trans g4
    refine ⟨(show 4 ≤ sizeLine by decide), fun R1 r1 => ?_⟩
    obtain ⟨gd, h4⟩ := mk_at (o := .tup [.int 0, v, .non, ans]) g4.tab r1
    have g05 := g04.trans gd
    refine ⟨(show 1 ≤ sizeLine by decide), fun L nL => ?_⟩
    obtain ⟨ge, h5⟩ := mk_at (o := .lst [V.ref R1]) gd.tab nL
    have g06 := g05.trans ge
    have gv6 := gac.trans (g4.trans (gd.trans ge))
    have nL2 : H2 L = none := gac.free (g4.free (gd.free nL))
    have aL : ∀ a, ans = .ref a → a ≠ L := fun a e q => by
      have h1 := (fr a e).2
      cases c : H4 a with
      | none => exact h1 c
      | some o =>
        by_cases ca : a = R1
        · rw [ca] at c; rw [c] at r1; cases r1
        · have : (L2.upd H4 R1 (.tup [.int 0, v, .non, ans])) L = some o := by rw [← q, upd_ne ca]; exact c
          rw [nL] at this; cases this
    have row0 : ∀ {H' : Hp}, KeepN L K (L2.upd (L2.upd H4 R1 (.tup [.int 0, v, .non, ans])) L (.lst [V.ref R1])) H' → RowN L K H' d ks ps rs bs (.ref R1) := fun {H'} k => by
      refine RowN.keep (H := L2.upd (L2.upd H4 R1 (.tup [.int 0, v, .non, ans])) L (.lst [V.ref R1])) ⟨R1, 0, v, .non, ans, D, rfl, SqT.of (ge.tup gd.tab h4), hD.lay, fun H'' k2 => ⟨.inl ⟨rfl, r, roadL_keepN hv nL2 gv6 g2.tab H'' k2, sg, hD⟩, ans_keep hD (Dp.gr (gd.trans ge) g4.tab _ _ hans) aL k2⟩⟩ k
    generalize L2.upd (L2.upd H4 R1 (.tup [.int 0, v, .non, ans])) L (.lst [V.ref R1]) = H6 at ge h5 g06 gv6 row0 ⊢
    have hO6 : H6 O = some (.lst acc) := (g2.trans gv6).lst g1.tab hO
    have rw1 : ∀ {H' : Hp} {T R : Addr} {i : Int} {one other ans : V} {D : PyData}, SqT K H' R [.int i, one, other, ans] → Lay 6 D → (∀ H'', KeepN L K H' H'' → RowQ K H'' d ks ps rs bs i one other D ∧ Dp K H'' ans D) → RowN L K H' d ks ps rs bs (.ref R) := fun a l f => ⟨_, _, _, _, _, _, rfl, a, l, f⟩
    refine ⟨_, rfl, O, _, rfl, .inl (SqL.of hO6), _, rfl, ro, _, rfl, .inl (SqL.of (g06.lst hP hro)), rfl, _, rfl, ?_⟩
    rw [decN, ← la, ← lxs]
    by_cases ck : Known rs z
    case neg =>
      rw [decide_eq_true (but_len.mpr ck)]
      refine iteT ?_
      -- row 1
      refine ⟨_, rfl, .inl ⟨rfl, _, SqL.of h5⟩, _, rfl, _, rfl, (show 2 ≤ sizeLine by decide), fun T1 t1 => ?_⟩
      obtain ⟨gf, k1⟩ := mk_at (o := .lst [V.str (Str.ofString "unknown"), .str z]) g06.tab t1
      refine ⟨(show 4 ≤ sizeLine by decide), fun R2 r2 => ?_⟩
      obtain ⟨gg, k2⟩ := mk_at (o := .tup [.int 1, .str z, .non, .ref T1]) gf.tab r2
      have gfg := gf.trans gg
      have hL2 := gfg.lst g06.tab h5
      have T1L : T1 ≠ L := fun e => by rw [e, h5] at t1; cases t1
      have n2 : ∀ {H' : Hp}, KeepN L K (L2.upd (L2.upd H6 T1 (.lst [V.str (Str.ofString "unknown"), .str z])) R2 (.tup [.int 1, .str z, .non, .ref T1])) H' → RowN L K H' d ks ps rs bs (.ref R2) := fun {H'} k => RowN.keep ⟨R2, 1, .str z, .non, .ref T1, unkP z, rfl, SqT.of k2, unkP_lay zok, fun H'' kk => ⟨.inr (.inl ⟨rfl, z, rfl, zl1, .inr ⟨ck, rfl⟩⟩), unk_keep (SqL.of (gg.lst gf.tab k1)) T1L kk⟩⟩ k
      refine ⟨L, _, _, rfl, rfl, hL2, (show 2 ≤ sizeLine by decide), ?_⟩
      have nLH : H L = none := g02.free nL2
      have g07 := (g06.trans gfg).write (o := .lst ([V.ref R1] ++ [V.ref R2])) hL2 (fun _ z => by cases z) nLH
      have kw := (KeepN.grew (L := L) (K := K) gfg g06.tab).trans (KeepN.write (K := K) (zs := [V.ref R1] ++ [V.ref R2]) hL2)
      have row1 : ∀ {H' : Hp}, KeepN L K (L2.upd (L2.upd (L2.upd H6 T1 (.lst [V.str (Str.ofString "unknown"), .str z])) R2 (.tup [.int 1, .str z, .non, .ref T1])) L (.lst ([V.ref R1] ++ [V.ref R2]))) H' → RowN L K H' d ks ps rs bs (.ref R1) ∧ RowN L K H' d ks ps rs bs (.ref R2) := fun {H'} k => ⟨row0 (kw.trans k), n2 ((KeepN.write (K := K) hL2).trans k)⟩
      have hL7 : (L2.upd (L2.upd (L2.upd H6 T1 (.lst [V.str (Str.ofString "unknown"), .str z])) R2 (.tup [.int 1, .str z, .non, .ref T1])) L (.lst ([V.ref R1] ++ [V.ref R2]))) L = some (.lst [V.ref R1, V.ref R2]) := upd_same
      have eL : L2.upd (L2.upd (L2.upd H6 T1 (.lst [V.str (Str.ofString "unknown"), .str z])) R2 (.tup [.int 1, .str z, .non, .ref T1])) L (.lst ([V.ref R1] ++ [V.ref R2])) = L2.upd (L2.upd (L2.upd H6 T1 (.lst [V.str (Str.ofString "unknown"), .str z])) R2 (.tup [.int 1, .str z, .non, .ref T1])) L (.lst ([V.ref R1] ++ [V.ref R2])) := rfl
      generalize L2.upd (L2.upd (L2.upd H6 T1 (.lst [V.str (Str.ofString "unknown"), .str z])) R2 (.tup [.int 1, .str z, .non, .ref T1])) L (.lst ([V.ref R1] ++ [V.ref R2])) = H7 at g07 row1 hL7 ⊢
      clear eL
      -- row 2
      refine ⟨_, rfl, .inl ⟨rfl, _, SqL.of hL7⟩, _, rfl, (show 2 ≤ sizeLine by decide), fun A1 a1 => ?_⟩
      obtain ⟨gh, k3⟩ := mk_at (o := .tup [.int 0, .int 1]) g07.tab a1
      refine ⟨(show 1 ≤ sizeLine by decide), fun B4 b4 => ?_⟩
      obtain ⟨gi, k4'⟩ := mk_at (o := .lst [V.ref A1]) gh.tab b4
      have ghi := gh.trans gi
      refine ⟨_, rfl, (show 2 ≤ sizeLine by decide), fun T2 t2 => ?_⟩
      obtain ⟨gj, k5⟩ := mk_at (o := .lst [V.str (Str.ofString "unknown"), .str z]) gi.tab t2
      have gj7 := ghi.trans gj
      refine ⟨(show 4 ≤ sizeLine by decide), fun R3 r3 => ?_⟩
      obtain ⟨gk, k6⟩ := mk_at (o := .tup [.int 2, .str z, .ref B4, .ref T2]) gj.tab r3
      have gk7 := gj7.trans gk
      have hL8 := gk7.lst g07.tab hL7
      have B4L : B4 ≠ L := fun e => by
        have := gh.lst g07.tab hL7
        rw [← e, b4] at this; cases this
      have T2L : T2 ≠ L := fun e => by
        have := ghi.lst g07.tab hL7
        rw [← e, t2] at this; cases this
      have n3 : RowN L K (L2.upd (L2.upd (L2.upd (L2.upd H7 A1 (.tup [.int 0, .int 1])) B4 (.lst [V.ref A1])) T2 (.lst [V.str (Str.ofString "unknown"), .str z])) R3 (.tup [.int 2, .str z, .ref B4, .ref T2])) d ks ps rs bs (.ref R3) :=
        ⟨R3, 2, .str z, .ref B4, .ref T2, unkP z, rfl, SqT.of k6, unkP_lay zok, fun H'' kk => ⟨.inr (.inr (.inl ⟨rfl, z, some [(0, 1)], rfl, zl1, hours_keepN (H := L2.upd (L2.upd (L2.upd (L2.upd H7 A1 (.tup [.int 0, .int 1])) B4 (.lst [V.ref A1])) T2 (.lst [V.str (Str.ofString "unknown"), .str z])) R3 (.tup [.int 2, .str z, .ref B4, .ref T2])) ⟨B4, [.ref A1], rfl, (gj.trans gk).lst gi.tab k4', .cons ⟨A1, rfl, (gi.trans (gj.trans gk)).tup gh.tab k3⟩ .nil⟩ (fun l e => by injection e with e; rw [← e]; exact B4L) kk, fun gs e => by rw [← Option.some.inj e]; decide, .inr ⟨ck, rfl⟩⟩)), unk_keep (SqL.of (gk.lst gj.tab k5)) T2L kk⟩⟩
      refine ⟨L, _, _, rfl, rfl, hL8, (show 3 ≤ sizeLine by decide), ?_⟩
      have g08 := (g07.trans gk7).write (o := .lst ([V.ref R1, V.ref R2] ++ [V.ref R3])) hL8 (fun _ z => by cases z) nLH
      have kw2 := (KeepN.grew (L := L) (K := K) gk7 g07.tab).trans (KeepN.write (K := K) (zs := [V.ref R1, V.ref R2] ++ [V.ref R3]) hL8)
      obtain ⟨q1, q2⟩ := row1 kw2
      refine ⟨_, rfl, kQ _ L [V.ref R1, V.ref R2, V.ref R3] g08 nLH upd_same (fun v hv => ?_) (by simp)⟩
      simp only [List.mem_cons, List.not_mem_nil, or_false] at hv
      rcases hv with rfl | rfl | rfl
      · exact q1.row
      · exact q2.row
      · exact (n3.keep (KeepN.write hL8)).row
    rw [decide_eq_false (fun e => but_len.mp e ck)]
    refine iteF ?_
    -- the bars that are left
    refine ⟨fun σ H' => ∃ M acc2, σ = [some (.ref p), some (.ref N), some (.ref NA), some (.int d), some (.ref pl), some (.ref ki), some (.ref ro), some (.ref ba), some (.str z), some (.ref O), some v, some (.ref L), some (.ref M), none, none, none, none] ∧ Grew P H6 H' ∧ H' M = some (.lst acc2) ∧ Paired (GBar H) (butB z bs) acc2, ?_, ?_⟩
    · refine ⟨_, rfl, ba, rfl, ⟨_, SqL.of (g06.lst hP hba)⟩, fun D2 nD => lc_list (K := K) (a := ba) (xs := zs) (fun i H' => Grew P H6 H' ∧ ∃ acc, H' D2 = some (.lst acc) ∧ acc.length ≤ i ∧ Paired (GBar H) ((bs.take i).filter fun b => !decide (z = b.1 ∨ z = b.2)) acc)
        ⟨Grew.new g06.tab nD, [], upd_same, Nat.le_refl _, .nil⟩ (fun i H' _ q => SqL.of ((g06.trans q.1).lst hP hba)) (fun i v2 H' hv2 q => ?_) (fun H7 q => ?_)⟩
      · obtain ⟨g, acc2, hD2, hla, hacc2⟩ := q
        obtain ⟨b, hbi, m⟩ := Paired.at hbs hv2
        have hi := (List.getElem?_eq_some_iff.mp hv2).1
        have ft := filter_takeA (p := fun b : Str × Str => !decide (z = b.1 ∨ z = b.2)) hbi
        obtain ⟨t, rfl, ht⟩ := id m
        have ht' := (g06.trans g).tup hP ht
        refine ⟨rfl, _, rfl, t, _, 0, .str b.1, rfl, rfl, SqT.of ht', rfl, _, rfl, rfl, _, rfl, ?_⟩
        by_cases c1 : b.1 = z
        · refine if_f (by rw [c1]; simp) ⟨g, acc2, hD2, by omega, ?_⟩
          rw [ft, if_neg (by simp [c1]), List.append_nil]
          exact hacc2
        have c1' : ¬ V.str b.1 = V.str z := fun e => c1 (by injection e)
        refine if_t (by rw [decide_eq_false c1']; rfl) ⟨_, rfl, t, _, 1, .str b.2, rfl, rfl, SqT.of ht', rfl, _, rfl, rfl, _, rfl, ?_⟩
        by_cases c2 : b.2 = z
        · refine if_f (by rw [c2]; simp) ⟨g, acc2, hD2, by omega, ?_⟩
          rw [ft, if_neg (by simp [c2]), List.append_nil]
          exact hacc2
        have c2' : ¬ V.str b.2 = V.str z := fun e => c2 (by injection e)
        refine if_t (by rw [decide_eq_false c2']; rfl) ⟨_, rfl, acc2, hD2, by rw [sizeLine_eq]; omega, g.write hD2 (fun _ z => by cases z) nD, _, upd_same, by rw [List.length_append]; show _ + 1 ≤ _; omega, ?_⟩
        rw [ft, if_pos (by simp [Ne.symm c1, Ne.symm c2])]
        exact Paired.snoc hacc2 m
      · obtain ⟨g, acc2, hD2, hla, hacc2⟩ := q
        rw [← lzs, List.take_length] at hacc2
        exact ⟨D2, acc2, rfl, g, hD2, hacc2⟩
    rintro σ H7 ⟨M, acc2, rfl, g67, hM, hacc2⟩
    have nLH : H L = none := g02.free nL2
    have hL7 := g67.lst g06.tab h5
    have g07 := g06.trans g67
    have hO7 := g67.lst g06.tab hO6
    refine ⟨_, rfl, .inl ⟨rfl, _, SqL.of hL7⟩, _, rfl, _, rfl, _, rfl, _, rfl, _, rfl, _, rfl, (show 5 ≤ sizeLine by decide), fun B5 b5 => ?_⟩
    obtain ⟨gf, j1⟩ := mk_at (o := .tup [.int d, .ref pl, .ref ki, .ref O, .ref M]) g67.tab b5
    have g07f := g07.trans gf
    have hp7 : PartsL _ B5 d ks ps (butR z rs) (butB z bs) := ⟨pl, ki, O, M, acc, acc2, j1, g07f.lst hP hpl, g07f.lst hP hki, gf.lst g67.tab hO7, oR g07f, gf.lst g67.tab hM, Paired.map' hacc2 fun _ _ m => m.grew g07f hP⟩
    refine ⟨B5, d, ks, ps, butR z rs, butB z bs, rfl, hp7, (ok.but z).sm, gf.tab, fun H8 ans1 D1 g8 hD1 hans1 fr1 => ?_⟩
    refine ⟨(show 4 ≤ sizeLine by decide), fun R2 r2 => ?_⟩
    obtain ⟨gg, j2⟩ := mk_at (o := .tup [.int 1, .str z, .non, ans1]) g8.tab r2
    have g7g := gf.trans (g8.trans gg)
    have hL8 := g7g.lst g67.tab hL7
    have a1L : ∀ a, ans1 = .ref a → a ≠ L := fun a e q => by
      have h1 := (fr1 a e).1
      rw [q, gf.lst g67.tab hL7] at h1; cases h1
    have n2 : RowN L K (L2.upd H8 R2 (.tup [.int 1, .str z, .non, ans1])) d ks ps rs bs (.ref R2) :=
      ⟨R2, 1, .str z, .non, ans1, D1, rfl, SqT.of j2, hD1.lay, fun H'' kk => ⟨.inr (.inl ⟨rfl, z, rfl, zl1, .inl ⟨ck, hD1⟩⟩), ans_keep hD1 (Dp.gr gg g8.tab _ _ hans1) a1L kk⟩⟩
    refine ⟨L, _, _, rfl, rfl, hL8, (show 2 ≤ sizeLine by decide), ?_⟩
    have g09 := (g07.trans g7g).write (o := .lst ([V.ref R1] ++ [V.ref R2])) hL8 (fun _ z => by cases z) nLH
    have kw := ((KeepN.grew (L := L) (K := K) g67 g06.tab).trans (KeepN.grew g7g g67.tab)).trans (KeepN.write (K := K) (zs := [V.ref R1] ++ [V.ref R2]) hL8)
    have n2' := n2.keep (KeepN.write (K := K) (zs := [V.ref R1] ++ [V.ref R2]) hL8)
    have n1' := row0 kw
    have hL9 : (L2.upd (L2.upd H8 R2 (.tup [.int 1, .str z, .non, ans1])) L (.lst ([V.ref R1] ++ [V.ref R2]))) L = some (.lst [V.ref R1, V.ref R2]) := upd_same
    have OL : O ≠ L := fun e => by
      have h1 := g2.lst g1.tab hO
      rw [e, nL2] at h1; cases h1
    have hO9 : (L2.upd (L2.upd H8 R2 (.tup [.int 1, .str z, .non, ans1])) L (.lst ([V.ref R1] ++ [V.ref R2]))) O = some (.lst acc) := by
      rw [upd_ne OL]
      exact g7g.lst g67.tab hO7
    generalize L2.upd (L2.upd H8 R2 (.tup [.int 1, .str z, .non, ans1])) L (.lst ([V.ref R1] ++ [V.ref R2])) = H9 at g09 kw n2' n1' hL9 hO9 ⊢
    -- other hours
    refine ⟨fun σ H' => ∃ hv hs, σ = [some (.ref p), some (.ref N), some (.ref NA), some (.int d), some (.ref pl), some (.ref ki), some (.ref ro), some (.ref ba), some (.str z), some (.ref O), some v, some (.ref L), some (.ref M), some hv, none, none, none] ∧ Grew P H9 H' ∧ HoursL H' hs hv ∧ (∀ l, hv = .ref l → l ≠ L) ∧ ∀ gs, hs = some gs → gs.length ≤ 1000, ?_, ?_⟩
    · have neL : ∀ {H' : Hp} {a : Addr}, Grew P H9 H' → H' a = none → a ≠ L := fun g na e => by
        have := g.lst g09.tab hL9
        rw [← e, na] at this; cases this
      refine ⟨(show 0 ≤ sizeLine by decide), fun E1 e1 => ?_⟩
      obtain ⟨ga, k1⟩ := mk_at (o := .lst []) g09.tab e1
      refine ⟨(show 2 ≤ sizeLine by decide), fun E2 e2 => ?_⟩
      obtain ⟨gb, k2⟩ := mk_at (o := .lst [V.non, V.ref E1]) ga.tab e2
      have gab := ga.trans gb
      refine ⟨_, rfl, (show 2 ≤ sizeLine by decide), fun A1 a1 => ?_⟩
      obtain ⟨gc, k3⟩ := mk_at (o := .tup [.int 0, .int d]) gab.tab a1
      have gac' := gab.trans gc
      refine ⟨(show 1 ≤ sizeLine by decide), fun E3 e3 => ?_⟩
      obtain ⟨gd', k4'⟩ := mk_at (o := .lst [V.ref A1]) gac'.tab e3
      have gad := gac'.trans gd'
      refine ⟨_, rfl, _, _, rfl, rfl, (show 2 ≤ sizeLine by decide), fun A2 a2 => ?_⟩
      obtain ⟨ge', k5⟩ := mk_at (o := .tup [.int 0, .int (d + 1)]) gad.tab a2
      have gae := gad.trans ge'
      refine ⟨(show 1 ≤ sizeLine by decide), fun E4 e4 => ?_⟩
      obtain ⟨gf', k6⟩ := mk_at (o := .lst [V.ref A2]) gae.tab e4
      have gaf := gae.trans gf'
      refine ⟨(show 2 ≤ sizeLine by decide), fun E5 e5 => ?_⟩
      obtain ⟨gg', k7⟩ := mk_at (o := .lst [V.ref E3, V.ref E4]) gaf.tab e5
      have gag := gaf.trans gg'
      refine ⟨(show 2 ≤ sizeLine by decide), fun E6 e6 => ?_⟩
      obtain ⟨gh', k8⟩ := mk_at (o := .lst [V.ref E2, V.ref E5]) gag.tab e6
      have gah := gag.trans gh'
      have hN6 := (g09.trans gah).sqL hP hN
      refine ⟨_, rfl, N, _, 149, .int n9, rfl, rfl, hN6, en9, .inl ⟨n9, rfl, _, _, rfl, rfl, (show (0 : Int) < 2 by decide), ?_⟩⟩
      have i2 : ∀ x : Int, x % 2 = 0 ∨ x % 2 = 1 := fun x => by omega
      rcases i2 n9 with q | q
      · refine ⟨E6, _, _, .ref E2, rfl, rfl, SqL.of k8, by rw [q]; rfl, ?_⟩
        refine ⟨_, rfl, N, _, 149, .int n9, rfl, rfl, hN6, en9, .inl ⟨n9, rfl, _, _, rfl, rfl, ⟨by decide, by decide⟩, _, _, rfl, rfl, (show (0 : Int) < 2 by decide), ?_⟩⟩
        have s2 := SqL.of (K := K) ((gc.trans (gd'.trans (ge'.trans (gf'.trans (gg'.trans gh'))))).lst gab.tab k2)
        rcases i2 (n9 / 2) with q2 | q2
        · refine ⟨E2, _, _, .non, rfl, rfl, s2, by rw [q2]; rfl, ?_⟩
          exact ⟨.non, none, rfl, gah, rfl, fun l e => (by cases e), fun gs e => (by cases e)⟩
        · refine ⟨E2, _, _, .ref E1, rfl, rfl, s2, by rw [q2]; rfl, ?_⟩
          exact ⟨.ref E1, some [], rfl, gah, ⟨E1, [], rfl, (gb.trans (gc.trans (gd'.trans (ge'.trans (gf'.trans (gg'.trans gh')))))).lst ga.tab k1, .nil⟩, fun l e => (by injection e with e; rw [← e]; exact neL (Grew.refl g09.tab) e1), fun gs e => (by rw [← Option.some.inj e]; simp)⟩
      · refine ⟨E6, _, _, .ref E5, rfl, rfl, SqL.of k8, by rw [q]; rfl, ?_⟩
        refine ⟨_, rfl, N, _, 149, .int n9, rfl, rfl, hN6, en9, .inl ⟨n9, rfl, _, _, rfl, rfl, ⟨by decide, by decide⟩, _, _, rfl, rfl, (show (0 : Int) < 2 by decide), ?_⟩⟩
        have s5 := SqL.of (K := K) (gh'.lst gag.tab k7)
        rcases i2 (n9 / 2) with q2 | q2
        · refine ⟨E5, _, _, .ref E3, rfl, rfl, s5, by rw [q2]; rfl, ?_⟩
          exact ⟨.ref E3, some [(0, d)], rfl, gah, ⟨E3, [.ref A1], rfl, (ge'.trans (gf'.trans (gg'.trans gh'))).lst gad.tab k4', .cons ⟨A1, rfl, (gd'.trans (ge'.trans (gf'.trans (gg'.trans gh')))).tup gac'.tab k3⟩ .nil⟩, fun l e => (by injection e with e; rw [← e]; exact neL gac' e3), fun gs e => (by rw [← Option.some.inj e]; simp)⟩
        · refine ⟨E5, _, _, .ref E4, rfl, rfl, s5, by rw [q2]; rfl, ?_⟩
          exact ⟨.ref E4, some [(0, d + 1)], rfl, gah, ⟨E4, [.ref A2], rfl, (gg'.trans gh').lst gaf.tab k6, .cons ⟨A2, rfl, (gf'.trans (gg'.trans gh')).tup gae.tab k5⟩ .nil⟩, fun l e => (by injection e with e; rw [← e]; exact neL gae e4), fun gs e => (by rw [← Option.some.inj e]; simp)⟩
    rintro σ HA ⟨hv2, hs, rfl, g9A, hh2, hvL, hsl⟩
    have g0A := g09.trans g9A
    have hLA := g9A.lst g09.tab hL9
    have hOA := g9A.lst g09.tab hO9
    -- the road with other hours
    refine ⟨fun σ H' => ∃ A3 r0, σ = [some (.ref p), some (.ref N), some (.ref NA), some (.int d), some (.ref pl), some (.ref ki), some (.ref ro), some (.ref ba), some (.str z), some (.ref O), some v, some (.ref L), some (.ref M), some hv2, some (.ref A3), none, none] ∧ Grew P HA H' ∧ RoadL H' { r0 with hours := hs } (.ref A3) ∧ r0 ∈ rs ∧ r0.name = z, ?_, ?_⟩
    · refine ⟨_, rfl, ro, rfl, ⟨_, SqL.of (g0A.lst hP hro)⟩, fun D2 nD => lc_list (K := K) (a := ro) (xs := xs) (fun i H' => Grew P HA H' ∧ ∃ acc, H' D2 = some (.lst acc) ∧ acc.length ≤ i ∧ Paired (RoadL H) ((rs.take i).filter fun r => decide (r.name = z)) acc)
        ⟨Grew.new g0A.tab nD, [], upd_same, Nat.le_refl _, .nil⟩ (fun i H' _ q => SqL.of ((g0A.trans q.1).lst hP hro)) (fun i v2 H' hv3 q => ?_) (fun HB q => ?_)⟩
      · obtain ⟨g, acc3, hD, hla, hacc3⟩ := q
        obtain ⟨r1, hri, m⟩ := Paired.at hrs hv3
        have hi := (List.getElem?_eq_some_iff.mp hv3).1
        have ft := filter_takeA (p := fun q : RoadD => decide (q.name = z)) hri
        obtain ⟨t, u, h, rfl, ht, hu, hh⟩ := id m
        refine ⟨rfl, _, rfl, t, _, 0, .str r1.name, rfl, rfl, SqT.of ((g0A.trans g).tup hP ht), rfl, _, rfl, rfl, _, rfl, ?_⟩
        by_cases c : r1.name = z
        · refine if_t (by rw [c]; simp) ⟨_, rfl, acc3, hD, by rw [sizeLine_eq]; omega, g.write hD (fun _ z => by cases z) nD, _, upd_same, by rw [List.length_append]; show _ + 1 ≤ _; omega, ?_⟩
          rw [ft, if_pos (by simp [c])]
          exact Paired.snoc hacc3 m
        · have c' : ¬ V.str r1.name = V.str z := fun e => c (by injection e)
          refine if_f (decide_eq_false c') ⟨g, acc3, hD, by omega, ?_⟩
          rw [ft, if_neg (by simp [c]), List.append_nil]
          exact hacc3
      · obtain ⟨gB, acc3, hD, hla, hacc3⟩ := q
        rw [← lxs, List.take_length] at hacc3
        obtain ⟨rk, hrk, erk⟩ := ck
        have hmem : rk ∈ rs.filter fun r => decide (r.name = z) := List.mem_filter.mpr ⟨hrk, by simp [erk]⟩
        obtain ⟨r0, fl, efl⟩ : ∃ r0 fl, (rs.filter fun r => decide (r.name = z)) = r0 :: fl := by
          cases c : rs.filter fun r => decide (r.name = z) with
          | nil => rw [c] at hmem; cases hmem
          | cons a l => exact ⟨a, l, rfl⟩
        have hr0 : r0 ∈ rs.filter fun r => decide (r.name = z) := by rw [efl]; exact List.mem_cons_self
        obtain ⟨hr0m, hr0n⟩ := List.mem_filter.mp hr0
        rw [efl] at hacc3
        obtain ⟨w0, wl, ew, m0⟩ : ∃ w0 wl, acc3 = w0 :: wl ∧ RoadL H r0 w0 := by
          cases hacc3 with
          | cons a r => exact ⟨_, _, rfl, a⟩
        obtain ⟨t, u, h, rfl, ht, hu, hh⟩ := id m0
        have a0 : atI acc3 0 = some (.ref t) := by rw [ew]; exact atI_nat (xs := V.ref t :: wl) (j := 0) (v := V.ref t) rfl
        have g0B := g0A.trans gB
        refine ⟨D2, _, _, _, rfl, rfl, SqL.of hD, a0, _, rfl, t, _, rfl, SqT.of (g0B.tup hP ht), fun w => ?_, fun _ A1 a1 => ?_⟩
        · exact absurd (show HT.sIx 6 6 (some 5) = 6 from w.2) (by decide)
        obtain ⟨ga, h1⟩ := mk_at (o := .tup [.str r0.name, .str r0.start, .str r0.goal, .int r0.minutes, .ref u]) gB.tab a1
        refine ⟨_, rfl, (show 1 ≤ sizeLine by decide), fun A2 a2 => ?_⟩
        obtain ⟨gb, h2⟩ := mk_at (o := .tup [hv2]) ga.tab a2
        have g12 := ga.trans gb
        refine ⟨A1, A2, [.str r0.name, .str r0.start, .str r0.goal, .int r0.minutes, .ref u], [hv2], rfl, rfl, SqT.of (gb.tup ga.tab h1), SqT.of h2, by simp only [List.length_cons, List.length_nil]; decide, fun e => (by cases e), fun _ e => (by cases e), fun _ _ A3 a3 => ?_⟩
        obtain ⟨gc, h3⟩ := mk_at (o := .tup [.str r0.name, .str r0.start, .str r0.goal, .int r0.minutes, .ref u, hv2]) g12.tab a3
        have gBc := gB.trans (g12.trans gc)
        exact ⟨A3, r0, rfl, gBc, ⟨A3, u, hv2, rfl, h3, (g0A.trans gBc).lst hP hu, hh2.grew gBc g0A.tab⟩, hr0m, by simpa using hr0n⟩
    rintro σ HB ⟨A3, r0, rfl, gAB, hvA, hr0, er0⟩
    have g0B := g0A.trans gAB
    have hLB := gAB.lst g0A.tab hLA
    have hOB := gAB.lst g0A.tab hOA
    refine ⟨_, rfl, .inl ⟨rfl, _, SqL.of hLB⟩, _, rfl, _, rfl, _, rfl, _, rfl, _, rfl, _, rfl, _, rfl, (show 1 ≤ sizeLine by decide), fun B6 b6 => ?_⟩
    obtain ⟨ga, h1⟩ := mk_at (o := .lst [V.ref A3]) g0B.tab b6
    refine ⟨O, B6, _, _, rfl, rfl, ga.lst g0B.tab hOB, h1, by simp only [List.length_cons, List.length_nil]; rw [sizeLine_eq]; omega, fun B7 b7 => ?_⟩
    obtain ⟨gb, h2⟩ := mk_at (o := .lst (acc ++ [V.ref A3])) ga.tab b7
    refine ⟨_, rfl, (show 5 ≤ sizeLine by decide), fun B8 b8 => ?_⟩
    obtain ⟨gc, h3⟩ := mk_at (o := .tup [.int d, .ref pl, .ref ki, .ref B7, .ref ba]) gb.tab b8
    have gBc := ga.trans (gb.trans gc)
    have g0C := g0B.trans gBc
    have sg2 : SmallG (rG { r0 with hours := hs }) := by
      have o := ok.r.ok r0 hr0
      exact (small_of (by rw [er0]; exact zn) o ok.pn ok.kn).hours hsl
    have eput2 : putR { r0 with hours := hs } rs = butR z rs ++ [{ r0 with hours := hs }] := by unfold putR; show butR r0.name rs ++ _ = _; rw [er0]
    have hpC : PartsL _ B8 d ks ps (putR { r0 with hours := hs } rs) bs := ⟨pl, ki, B7, ba, acc ++ [V.ref A3], zs, h3, g0C.lst hP hpl, g0C.lst hP hki, gc.lst gb.tab h2, by rw [eput2]; exact Paired.app (oR g0C) (.cons (hvA.grew gBc g0B.tab) .nil), g0C.lst hP hba, oB g0C⟩
    refine ⟨B8, d, ks, ps, putR { r0 with hours := hs } rs, bs, rfl, hpC, PartsSm.put ok sg2, gc.tab, fun HD ans2 D2 gD hD2 hans2 fr2 => ?_⟩
    refine ⟨(show 4 ≤ sizeLine by decide), fun R3 r3 => ?_⟩
    obtain ⟨gR, j3⟩ := mk_at (o := .tup [.int 2, .str z, hv2, ans2]) gD.tab r3
    have gBR := gBc.trans (gD.trans gR)
    have hLE := gBR.lst g0B.tab hLB
    have a2L : ∀ a, ans2 = .ref a → a ≠ L := fun a e q => by
      have h1 := (fr2 a e).1
      rw [q, gBc.lst g0B.tab hLB] at h1; cases h1
    have n3 : RowN L K (L2.upd HD R3 (.tup [.int 2, .str z, hv2, ans2])) d ks ps rs bs (.ref R3) :=
      ⟨R3, 2, .str z, hv2, ans2, D2, rfl, SqT.of j3, hD2.lay, fun H'' kk => ⟨.inr (.inr (.inl ⟨rfl, z, hs, rfl, zl1, hours_keepN (hh2.grew (gAB.trans gBR) g0A.tab) hvL kk, hsl, .inl ⟨r0, hr0, er0, hD2⟩⟩)), ans_keep hD2 (Dp.gr gR gD.tab _ _ hans2) a2L kk⟩⟩
    refine ⟨L, _, _, rfl, rfl, hLE, (show 3 ≤ sizeLine by decide), ?_⟩
    have g0E := (g0B.trans gBR).write (o := .lst ([V.ref R1, V.ref R2] ++ [V.ref R3])) hLE (fun _ z => by cases z) nLH
    have kw2 := ((KeepN.grew (L := L) (K := K) (g9A.trans gAB) g09.tab).trans (KeepN.grew gBR g0B.tab)).trans (KeepN.write (K := K) (zs := [V.ref R1, V.ref R2] ++ [V.ref R3]) hLE)
    refine ⟨_, rfl, kQ _ L [V.ref R1, V.ref R2, V.ref R3] g0E nLH upd_same (fun v hv => ?_) (by simp)⟩
    simp only [List.mem_cons, List.not_mem_nil, or_false] at hv
    rcases hv with rfl | rfl | rfl
    · exact (n1'.keep kw2).row
    · exact (n2'.keep kw2).row
    · exact (n3.keep (KeepN.write hLE)).row
end
end W

set_option Elab.async false
set_option linter.all false
set_option maxRecDepth 100000
set_option maxHeartbeats 8000000
namespace W
open PySem PySem.Spec PyProof.Rows L2 GxR MyG MyS SqX MyR
/-! ### _law_places -/
abbrev sPlE : Stmt := top 46
theorem sm_place {d : Int} {ks ps : List Str} {rs : List RoadD} {bs : List (Str × Str)} (h : PartsOk d ks ps rs bs) {z : Str} (hz : z.length ≤ 1000) : PartsSm d ks (ps ++ [z]) rs bs := by
  obtain ⟨s⟩ := h.sm
  have p30 := h.p2
  refine ⟨⟨s.d, s.kl, s.k, by rw [List.length_append]; show _ + 1 ≤ _; omega, fun y hy => ?_, s.rl, s.r, s.bl, s.b⟩⟩
  rcases List.mem_append.mp hy with h | h
  · exact s.p y h
  · rw [List.mem_singleton.mp h]; exact hz
section
variable {Pg : Program} {w : World} {K : PySem.W.Frag} {mg : Str → Option Value} {base : Heap} {C P : Addr}
abbrev nPl : List Str := ["parts", "numbers", "day", "places", "kinds", "roads", "bars", "names", "name", "found", "left", "place"]
theorem scPl : FnScope nPl ["parts", "numbers"] (defScope sPlE) := ⟨rfl, rfl, rfl, by decide +kernel, rfl, by decide +kernel, by decide +kernel⟩
theorem ok_rowsPl {f fLn fMu : Addr} {fd fdLn fdMu : FuncData} (F : Fun K "_law_places" "_law_places" sPlE f fd) (hi : mg "int" = none) (hl : mg "len" = none)
    (GLn : FnOk Pg w K mg base CX0 1 fLn fdLn ["numbers", "at", "many"] (spLNames K P)) (gLn : mg "_law_names" = some (.ref fLn)) (kLn : PySem.W.keepIn K (.ref fLn) = true) (bLn : Binds K fdLn ["numbers", "at", "many"] [])
    (GMu : FnOk Pg w K mg base CX0 8 fMu fdMu ["parts"] (spMadeDue K P)) (gMu : mg "_law_made_due" = some (.ref fMu)) (kMu : PySem.W.keepIn K (.ref fMu) = true) (bMu : Binds K fdMu ["parts"] []) :
    FnOk Pg w K mg base CX0 9 f fd ["parts", "numbers"] (spRowsP K P) := by
  refine F.ok scPl (fun vs H Q E h => ?_) (fun cdv A outer s H vs Q E hr h => ?_)
  · obtain ⟨p, N, d, ks, ps, rs, bs, ns, rfl, _⟩ := h
    rfl
  · obtain ⟨p, N, d, ks, ps, rs, bs, ns, rfl, ⟨pl, ki, ro, ba, xs, zs, hp, hpl, hki, hro, hrs, hba, hbs⟩, ok, hN, hsm, hlen, hl9, hP, kQ⟩ := h
    refine ⟨_, (pss_cons (ps_asg (pv 0) (pg_tup (by rfl) (pgs_cons (pg_name (i := 2) scPl.nd rfl (Or.inl rfl)) (pgs_cons (pg_name (i := 3) scPl.nd rfl (Or.inl rfl)) (pgs_cons (pg_name (i := 4) scPl.nd rfl (Or.inl rfl)) (pgs_cons (pg_name (i := 5) scPl.nd rfl (Or.inl rfl)) (pgs_cons (pg_name (i := 6) scPl.nd rfl (Or.inl rfl)) pgs_nil)))))))
      (pss_cons (ps_set (i := 7) scPl.nd rfl (Or.inl rfl) (pe_call GLn (hr.mono (by decide)) (by rfl) gLn kLn bLn .nil pass0 (pa_cons (pv 1) (pa_cons pe_int (pa_cons (pe_op op_add (pe_callB (r := rLenK K) call_len_seq (by rfl) hl PySem.boot_len (pa_cons (pv 3) pa_nil)) pe_int) pa_nil)))))
      (pss_cons (ps_set (i := 8) scPl.nd rfl (Or.inr rfl) (pe_ix (r := rIxL K) ix_list (pv 7) (pe_op op_mod (pe_callTy (r := rInt1) call_int1 (by rfl) hi (by decide +kernel) (pa_cons (pe_ix (r := rIxL K) ix_list (pv 1) pe_int (fun _ _ => rfl)) pa_nil)) (pe_callB (r := rLenK K) call_len_seq (by rfl) hl PySem.boot_len (pa_cons (pv 7) pa_nil))) (fun _ _ => rfl)))
      (pss_cons (ps_set (i := 9) scPl.nd rfl (Or.inl rfl) (pe_lst (pa_cons (pe_tup (pa_cons pe_int (pa_cons (pv 8) (pa_cons pe_non (pa_cons (pe_call GMu (hr.mono (by decide)) (by rfl) gMu kMu bMu .nil pass0 (pa_cons (pe_tup (pa_cons (pv 2) (pa_cons (pe_op op_cat (pv 3) (pe_lst (pa_cons (pv 8) pa_nil))) (pa_cons (pv 4) (pa_cons (pv 5) (pa_cons (pv 6) pa_nil)))))) pa_nil)) pa_nil))))) pa_nil)))
      (C8.pss_cut (ps_setLc (i := 10) (own := [("place", 11)]) (g := (gName 11)) rfl scPl.nd rfl rfl (sw_true rfl rfl rfl (by decide +kernel)) (pi_list (pv 3)) (blkOk_by (N := nPl) (sc := defScope sPlE) (by decide +kernel)) (fun _ _ _ _ _ => pg_name (i := 11) scPl.nd rfl (Or.inl rfl)) (fun _ _ _ _ _ => pts_one (pt_cmpR op_ne (pv 11) (pv 8) (nomark _))) (fun _ _ _ _ _ => (pv 11)))
      (pss_cons (ps_if (pt_cmpR (r := rIn K true) op_notIn_seq (pv 8) (pv 3) (by rfl)) (pss_one (ps_ret (pe_op op_cat (pv 9) (pe_lst (pa_cons (pe_tup (pa_cons pe_int (pa_cons (pv 8) (pa_cons pe_non (pa_cons (pe_lst (pa_cons pe_str (pa_cons (pv 8) pa_nil))) pa_nil))))) pa_nil)))))
        pss_nil)
      (pss_one (ps_ret (pe_op op_cat (pv 9) (pe_lst (pa_cons (pe_tup (pa_cons pe_int (pa_cons (pv 8) (pa_cons pe_non (pa_cons (pe_call GMu (hr.mono (by decide)) (by rfl) gMu kMu bMu .nil pass0 (pa_cons (pe_tup (pa_cons (pv 2) (pa_cons (pv 10) (pa_cons (pv 4) (pa_cons (pv 5) (pa_cons (pv 6) pa_nil)))))) pa_nil)) pa_nil))))) pa_nil))))))))))), ?_⟩
    obtain ⟨n0, en0, n00, n01⟩ := num_at hsm (k := 150) (by omega)
    have lxs := Paired.len hrs
    have lzs := Paired.len hbs
    have p30 := ok.p2
    refine ⟨_, rfl, p, _, rfl, SqT.of hp, rfl, _, _, rfl, _, _, rfl, _, _, rfl, _, _, rfl, _, _, rfl, rfl, ?_⟩
    refine ⟨_, rfl, _, rfl, pl, _, rfl, .inl (SqL.of hpl), _, _, rfl, rfl, N, ns, 10, ps.length + 1, congrArg (fun z => [V.ref N, V.int 10, V.int z]) (by rw [List.length_map]; omega), hN, hsm, by omega, by omega, by omega, hP, fun H1 NA g1 nNA hNA0 => ?_⟩
    obtain ⟨nms, enms⟩ : ∃ nms, nms = namesL ns 10 (ps.length + 1) := ⟨_, rfl⟩
    have lnm : 1 ≤ nms.length := by rw [enms, namesL_len]; omega
    have nnm : ∀ z ∈ nms, isNm z = true := by rw [enms]; exact List.all_eq_true.mp (namesL_ok _ _ _)
    rw [← enms] at hNA0
    have hNA := SqL.of (K := K) hNA0
    obtain ⟨z, ez, hzm⟩ := str_idx (x := n0) lnm
    have zn := nnm z hzm
    have zl1 : z.length ≤ 1000 := Nat.le_trans (isNm_len zn) (by decide)
    have zok := nm_ok zn
    have hlp : (0 : Int) < ((nms.map V.str).length : Int) := by rw [List.length_map]; omega
    refine ⟨_, rfl, _, rfl, N, _, 150, .int n0, rfl, rfl, g1.sqL hP hN, en0, .inl ⟨n0, rfl, _, rfl, NA, _, rfl, .inl hNA, _, _, rfl, rfl, hlp, NA, _, _, _, rfl, rfl, hNA, ez, ?_⟩⟩
    have oR : ∀ {H' : Hp}, Grew P H H' → Paired (RoadL H') rs xs := fun g => Paired.map' hrs fun _ _ m => m.grew g hP
    have oB : ∀ {H' : Hp}, Grew P H H' → Paired (GBar H') bs zs := fun g => Paired.map' hbs fun _ _ m => m.grew g hP
    -- the first row
    refine ⟨_, rfl, _, rfl, _, rfl, _, rfl, (show 1 ≤ sizeLine by decide), fun B1 b1 => ?_⟩
    obtain ⟨ga, h1⟩ := mk_at (o := .lst [V.str z]) g1.tab b1
    refine ⟨pl, B1, _, _, rfl, rfl, (g1.trans ga).lst hP hpl, h1, by simp only [List.length_cons, List.length_nil, List.length_map]; rw [sizeLine_eq]; omega, fun B2 b2 => ?_⟩
    obtain ⟨gb, h2⟩ := mk_at (o := .lst (ps.map V.str ++ [V.str z])) ga.tab b2
    refine ⟨_, rfl, _, rfl, _, rfl, (show 5 ≤ sizeLine by decide), fun B3 b3 => ?_⟩
    obtain ⟨gc, h3⟩ := mk_at (o := .tup [.int d, .ref B2, .ref ki, .ref ro, .ref ba]) gb.tab b3
    have gac := ga.trans (gb.trans gc)
    have g03 := g1.trans gac
    have hp3 : PartsL _ B3 d ks (ps ++ [z]) rs bs := ⟨B2, ki, ro, ba, xs, zs, h3, by rw [gc.lst gb.tab h2, List.map_append]; rfl, g03.lst hP hki, g03.lst hP hro, oR g03, g03.lst hP hba, oB g03⟩
    refine ⟨B3, d, ks, ps ++ [z], rs, bs, rfl, hp3, sm_place ok zl1, gc.tab, fun H4 ans D g4 hD hans fr => ?_⟩
    have g04 := g03.trans g4
    refine ⟨(show 4 ≤ sizeLine by decide), fun R1 r1 => ?_⟩
    obtain ⟨gd, h4⟩ := mk_at (o := .tup [.int 3, .str z, .non, ans]) g4.tab r1
    refine ⟨(show 1 ≤ sizeLine by decide), fun L nL => ?_⟩
    obtain ⟨ge, h5⟩ := mk_at (o := .lst [V.ref R1]) gd.tab nL
    have g06 := g04.trans (gd.trans ge)
    have row0 : RowT K (L2.upd (L2.upd H4 R1 (.tup [.int 3, .str z, .non, ans])) L (.lst [V.ref R1])) d ks ps rs bs (.ref R1) :=
      ⟨R1, 3, .str z, .non, ans, D, rfl, SqT.of (ge.tup gd.tab h4), .inr (.inr (.inr (.inl ⟨rfl, z, rfl, zl1, hD⟩))), Dp.gr (gd.trans ge) g4.tab _ _ hans, hD.lay⟩
    generalize L2.upd (L2.upd H4 R1 (.tup [.int 3, .str z, .non, ans])) L (.lst [V.ref R1]) = H6 at ge h5 g06 row0 ⊢
    -- left
    refine ⟨fun σ H' => ∃ M, σ = [some (.ref p), some (.ref N), some (.int d), some (.ref pl), some (.ref ki), some (.ref ro), some (.ref ba), some (.ref NA), some (.str z), some (.ref L), some (.ref M), none] ∧ Grew P H6 H' ∧ H' M = some (.lst ((outP z ps).map V.str)), ?_, ?_⟩
    · refine ⟨_, rfl, pl, rfl, ⟨_, SqL.of (g06.lst hP hpl)⟩, fun D2 nD => lc_list (K := K) (a := pl) (xs := ps.map V.str) (fun i H' => Grew P H6 H' ∧ H' D2 = some (.lst (((ps.take i).filter fun q => !decide (q = z)).map V.str)))
        ⟨Grew.new g06.tab nD, upd_same⟩ (fun i H' _ q => SqL.of ((g06.trans q.1).lst hP hpl)) (fun i v2 H' hv2 q => ?_) (fun H7 q => ?_)⟩
      · obtain ⟨g, hD2⟩ := q
        rw [List.getElem?_map] at hv2
        obtain ⟨y, hyi, rfl⟩ := Option.map_eq_some_iff.mp hv2
        have ft := filter_takeA (p := fun q : Str => !decide (q = z)) hyi
        have lj : ((ps.take i).filter fun q => !decide (q = z)).length ≤ 30 := by
          refine Nat.le_trans (List.length_filter_le _ _) ?_
          rw [List.length_take]; omega
        refine ⟨rfl, _, rfl, _, rfl, rfl, _, rfl, ?_⟩
        by_cases c : y = z
        · refine if_f (by rw [c]; simp) ⟨g, ?_⟩
          rw [ft, if_neg (by rw [c]; simp), List.append_nil]
          exact hD2
        · have c' : ¬ V.str y = V.str z := fun e => c (by injection e)
          refine if_t (by rw [decide_eq_false c']; rfl) ⟨_, rfl, _, hD2, by rw [List.length_map, sizeLine_eq]; omega, g.write hD2 (fun _ z => by cases z) nD, ?_⟩
          rw [upd_same, ft, if_pos (by simp [c]), List.map_append]
          rfl
      · obtain ⟨g, hD2⟩ := q
        rw [List.length_map, List.take_length] at hD2
        exact ⟨D2, rfl, g, hD2⟩
    rintro σ H7 ⟨M, rfl, g67, hM⟩
    have g07 := g06.trans g67
    have hL7 := g67.lst g06.tab h5
    refine ⟨_, rfl, _, rfl, pl, _, rfl, .inl (SqL.of (g07.lst hP hpl)), rfl, flat_strs _, _, rfl, ?_⟩
    by_cases ck : z ∈ ps
    case neg =>
      refine if_t (by simp [inV_dec, ck]) ?_
      refine ⟨_, rfl, _, rfl, _, rfl, (show 2 ≤ sizeLine by decide), fun T1 t1 => ?_⟩
      obtain ⟨gf, k1⟩ := mk_at (o := .lst [V.str (Str.ofString "unknown"), .str z]) g07.tab t1
      refine ⟨(show 4 ≤ sizeLine by decide), fun R2 r2 => ?_⟩
      obtain ⟨gg, k2⟩ := mk_at (o := .tup [.int 4, .str z, .non, .ref T1]) gf.tab r2
      refine ⟨(show 1 ≤ sizeLine by decide), fun L2' l2 => ?_⟩
      obtain ⟨gh, k3⟩ := mk_at (o := .lst [V.ref R2]) gg.tab l2
      have gfh := gf.trans (gg.trans gh)
      refine ⟨L, L2', _, _, rfl, rfl, gfh.lst g07.tab hL7, k3, (show 2 ≤ sizeLine by decide), fun q nq => ?_⟩
      obtain ⟨gi, k4⟩ := mk_at (o := .lst ([V.ref R1] ++ [V.ref R2])) gh.tab nq
      have g7i := gfh.trans gi
      refine kQ _ q [V.ref R1, V.ref R2] (g07.trans g7i) (g07.free (gfh.free nq)) k4 (fun v hv => ?_) (by simp)
      simp only [List.mem_cons, List.not_mem_nil, or_false] at hv
      rcases hv with rfl | rfl
      · exact row0.grew (g67.trans g7i) g06.tab
      · exact ⟨R2, 4, .str z, .non, .ref T1, unkP z, rfl, SqT.of ((gh.trans gi).tup gg.tab k2), .inr (.inr (.inr (.inr (.inl ⟨rfl, z, rfl, zl1, .inr ⟨ck, rfl⟩⟩)))), .lst (SqL.of ((gg.trans (gh.trans gi)).lst gf.tab k1)) (.cons (.str _) (.cons (.str _) .nil)), unkP_lay zok⟩
    refine if_f (by simp [inV_dec, ck]) ?_
    refine ⟨_, rfl, _, rfl, _, rfl, _, rfl, _, rfl, _, rfl, _, rfl, (show 5 ≤ sizeLine by decide), fun B5 b5 => ?_⟩
    obtain ⟨gf, j1⟩ := mk_at (o := .tup [.int d, .ref M, .ref ki, .ref ro, .ref ba]) g07.tab b5
    have g07f := g07.trans gf
    have hp7 : PartsL _ B5 d ks (outP z ps) rs bs := ⟨M, ki, ro, ba, xs, zs, j1, gf.lst g07.tab hM, g07f.lst hP hki, g07f.lst hP hro, oR g07f, g07f.lst hP hba, oB g07f⟩
    refine ⟨B5, d, ks, outP z ps, rs, bs, rfl, hp7, sm_less ok.sm (fun x hx => (List.mem_filter.mp hx).1) (fun _ h => h) (fun _ h => h) (List.length_filter_le _ _) (Nat.le_refl _) (Nat.le_refl _), gf.tab, fun H8 ans1 D1 g8 hD1 hans1 fr1 => ?_⟩
    refine ⟨(show 4 ≤ sizeLine by decide), fun R2 r2 => ?_⟩
    obtain ⟨gg, k2⟩ := mk_at (o := .tup [.int 4, .str z, .non, ans1]) g8.tab r2
    refine ⟨(show 1 ≤ sizeLine by decide), fun L2' l2 => ?_⟩
    obtain ⟨gh, k3⟩ := mk_at (o := .lst [V.ref R2]) gg.tab l2
    have gfh := gf.trans (g8.trans (gg.trans gh))
    refine ⟨L, L2', _, _, rfl, rfl, gfh.lst g07.tab hL7, k3, (show 2 ≤ sizeLine by decide), fun q nq => ?_⟩
    obtain ⟨gi, k4⟩ := mk_at (o := .lst ([V.ref R1] ++ [V.ref R2])) gh.tab nq
    have g7i := gfh.trans gi
    refine kQ _ q [V.ref R1, V.ref R2] (g07.trans g7i) (g07.free (gfh.free nq)) k4 (fun v hv => ?_) (by simp)
    simp only [List.mem_cons, List.not_mem_nil, or_false] at hv
    rcases hv with rfl | rfl
    · exact row0.grew (g67.trans g7i) g06.tab
    · exact ⟨R2, 4, .str z, .non, ans1, D1, rfl, SqT.of ((gh.trans gi).tup gg.tab k2), .inr (.inr (.inr (.inr (.inl ⟨rfl, z, rfl, zl1, .inl ⟨ck, hD1⟩⟩)))), Dp.gr (gg.trans (gh.trans gi)) g8.tab _ _ hans1, hD1.lay⟩
end
end W

set_option Elab.async false
set_option linter.all false
set_option maxRecDepth 100000
set_option maxHeartbeats 8000000
namespace W
open PySem PySem.Spec PyProof.Rows L2 GxR MyG MyS SqX MyR
/-! ### _law_bars_edited -/
abbrev sBeE : Stmt := top 47
theorem sm_bar {d : Int} {ks ps : List Str} {rs : List RoadD} {bs : List (Str × Str)} (h : PartsOk d ks ps rs bs) {a b : Str} (ha : a.length ≤ 1000) (hb : b.length ≤ 1000) : PartsSm d ks ps rs (bs ++ [(a, b)]) := by
  obtain ⟨s⟩ := h.sm
  have q3 := h.b.len
  refine ⟨⟨s.d, s.kl, s.k, s.pl, s.p, s.rl, s.r, by rw [List.length_map, List.length_append]; show _ + 1 ≤ _; omega, fun b' hb' => ?_⟩⟩
  rw [List.map_append] at hb'
  rcases List.mem_append.mp hb' with h | h
  · exact s.b b' h
  · have e : b' = [a, b] := List.mem_singleton.mp h
    rw [e]
    intro z hz
    simp only [List.mem_cons, List.not_mem_nil, or_false] at hz
    rcases hz with rfl | rfl
    · exact ha
    · exact hb
theorem known_mem {rs : List RoadD} {z : Str} : Known rs z ↔ z ∈ rs.map (·.name) := by
  rw [List.mem_map]
  exact Iff.rfl
theorem outB_lt {a b : Str} {bs : List (Str × Str)} : (outB a b bs).length < bs.length ↔ (a, b) ∈ bs := by
  unfold outB
  constructor
  · intro h
    refine Classical.byContradiction fun n => ?_
    have e : (bs.filter fun q => !decide (q = (a, b))) = bs := List.filter_eq_self.mpr fun x hx => by
      have : x ≠ (a, b) := fun e => n (by rw [← e]; exact hx)
      simp [this]
    rw [e] at h
    omega
  · intro h
    have l := List.length_filter_le (fun q : Str × Str => !decide (q = (a, b))) bs
    rcases Nat.lt_or_eq_of_le l with l | l
    · exact l
    · have := (List.length_filter_eq_length_iff.mp l) _ h
      simp at this
theorem eqv_bar (q : Str × Str) (a b : Str) : PyData.eqv (barP q) (barP (a, b)) = decide (q = (a, b)) := by
  have e1 : PyData.eqv (barP q) (barP (a, b)) = PyData.eqv (.list ([q.1, q.2].map .str)) (.list ([a, b].map .str)) := by
    show PyData.eqv (.tuple _) (.tuple _) = _
    rw [PyData.eqv, PyData.eqv]
    rfl
  rw [e1, eqv_lists, decide_eq_decide]
  constructor
  · intro e
    exact Prod.ext (List.cons.inj e).1 (List.cons.inj (List.cons.inj e).2).1
  · intro e
    rw [e]
theorem bar_shaped {b : Str × Str} (h1 : PyData.strOk b.1 = true) (h2 : PyData.strOk b.2 = true) : SeqAt.shaped (barP b) = true := (Lay.tuple (n := 1) (ds := [.str b.1, .str b.2]) fun d hd => by
  simp only [List.mem_cons, List.not_mem_nil, or_false] at hd
  rcases hd with rfl | rfl
  · exact Lay.str h1
  · exact Lay.str h2).shaped (by decide)
section
variable {Pg : Program} {w : World} {K : PySem.W.Frag} {mg : Str → Option Value} {base : Heap} {C P : Addr}
abbrev nBe : List Str := ["parts", "numbers", "names", "day", "places", "kinds", "roads", "bars", "found", "k", "one", "other", "known", "strange", "left", "gone", "road", "name", "bar"]
theorem scBe : FnScope nBe ["parts", "numbers", "names"] (defScope sBeE) := ⟨rfl, rfl, rfl, by decide +kernel, rfl, by decide +kernel, by decide +kernel⟩
theorem ok_rowsBe {f fMu : Addr} {fd fdMu : FuncData} (F : Fun K "_law_bars_edited" "_law_bars_edited" sBeE f fd) (hi : mg "int" = none) (hl : mg "len" = none) (hrg : mg "range" = none)
    (GMu : FnOk Pg w K mg base CX0 8 fMu fdMu ["parts"] (spMadeDue K P)) (gMu : mg "_law_made_due" = some (.ref fMu)) (kMu : PySem.W.keepIn K (.ref fMu) = true) (bMu : Binds K fdMu ["parts"] []) :
    FnOk Pg w K mg base CX0 9 f fd ["parts", "numbers", "names"] (spRowsE K P) := by
  refine F.ok scBe (fun vs H Q E h => ?_) (fun cdv A outer s H vs Q E hr h => ?_)
  · obtain ⟨p, N, NA, d, ks, ps, rs, bs, ns, nms, rfl, _⟩ := h
    rfl
  · obtain ⟨p, N, NA, d, ks, ps, rs, bs, ns, nms, rfl, ⟨pl, ki, ro, ba, xs, zs, hp, hpl, hki, hro, hrs, hba, hbs⟩, ok, hN, hsm, hlen, hl9, hNA, nok, hP, kQ⟩ := h
    refine ⟨_, (pss_cons (ps_asg (pv 0) (pg_tup (by rfl) (pgs_cons (pg_name (i := 3) scBe.nd rfl (Or.inl rfl)) (pgs_cons (pg_name (i := 4) scBe.nd rfl (Or.inl rfl)) (pgs_cons (pg_name (i := 5) scBe.nd rfl (Or.inl rfl)) (pgs_cons (pg_name (i := 6) scBe.nd rfl (Or.inl rfl)) (pgs_cons (pg_name (i := 7) scBe.nd rfl (Or.inl rfl)) pgs_nil)))))))
      (pss_cons (ps_set (i := 8) scBe.nd rfl (Or.inl rfl) (pe_lst pa_nil))
      (C8.pss_cut (ps_for PassesOwn.never rfl (pi_range1 rfl hrg (pa_cons pe_int pa_nil)) (pg_name (i := 9) scBe.nd rfl (Or.inl rfl))
        (pss_cons (ps_set (i := 10) scBe.nd rfl (Or.inr rfl) (pe_ix (r := rIxL K) ix_list (pv 2) (pe_op op_mod (pe_callTy (r := rInt1) call_int1 (by rfl) hi (by decide +kernel) (pa_cons (pe_ix (r := rIxL K) ix_list (pv 1) (pe_op op_add pe_int (pv 9)) (fun _ _ => rfl)) pa_nil)) (pe_callB (r := rLenK K) call_len_seq (by rfl) hl PySem.boot_len (pa_cons (pv 2) pa_nil))) (fun _ _ => rfl)))
      (pss_cons (ps_set (i := 11) scBe.nd rfl (Or.inr rfl) (pe_ix (r := rIxL K) ix_list (pv 2) (pe_op op_mod (pe_op op_fdiv (pe_callTy (r := rInt1) call_int1 (by rfl) hi (by decide +kernel) (pa_cons (pe_ix (r := rIxL K) ix_list (pv 1) (pe_op op_add pe_int (pv 9)) (fun _ _ => rfl)) pa_nil)) pe_int) (pe_callB (r := rLenK K) call_len_seq (by rfl) hl PySem.boot_len (pa_cons (pv 2) pa_nil))) (fun _ _ => rfl)))
      (C8.pss_cut (ps_if (PW.pt (pw_and (pt_cmpR op_gt (pe_callB (r := rLenK K) call_len_seq (by rfl) hl PySem.boot_len (pa_cons (pv 7) pa_nil)) pe_int (nomark _)) (pw_and1 (pt_cmpR op_eq (pe_op op_mod (pe_callTy (r := rInt1) call_int1 (by rfl) hi (by decide +kernel) (pa_cons (pe_ix (r := rIxL K) ix_list (pv 1) pe_int (fun _ _ => rfl)) pa_nil)) pe_int) (pv 9) (nomark _))))) (pss_one (ps_asg (pe_ix (r := rIxL K) ix_list (pv 7) (pe_op op_mod (pe_callTy (r := rInt1) call_int1 (by rfl) hi (by decide +kernel) (pa_cons (pe_ix (r := rIxL K) ix_list (pv 1) pe_int (fun _ _ => rfl)) pa_nil)) (pe_callB (r := rLenK K) call_len_seq (by rfl) hl PySem.boot_len (pa_cons (pv 7) pa_nil))) (fun _ _ => rfl)) (pg_tup (by rfl) (pgs_cons (pg_name (i := 10) scBe.nd rfl (Or.inr rfl)) (pgs_cons (pg_name (i := 11) scBe.nd rfl (Or.inr rfl)) pgs_nil)))))
        pss_nil)
      (C8.pss_cut (ps_set (i := 12) scBe.nd rfl (Or.inr rfl) (pe_lc (own := [("road", 16)]) (g := (gName 16)) (tt := tYes) rfl scBe.nd (pi_list (pv 6)) (blkOk_by (N := nBe) (sc := defScope sBeE) (by decide +kernel)) (fun _ _ _ _ _ => pg_name (i := 16) scBe.nd rfl (Or.inl rfl)) (fun _ _ _ _ _ => pts_nil) (fun _ _ _ _ _ => (pe_ix (r := rIxT K) ix_tup (pv 16) pe_int (fun _ _ => rfl)))))
      (C8.pss_cut (ps_setLc (i := 13) (own := [("name", 17)]) (g := (gName 17)) rfl scBe.nd rfl rfl (sw_true rfl rfl rfl (by decide +kernel)) (pi_list (pe_lst (pa_cons (pv 10) (pa_cons (pv 11) pa_nil)))) (blkOk_by (N := nBe) (sc := defScope sBeE) (by decide +kernel)) (fun _ _ _ _ _ => pg_name (i := 17) scBe.nd rfl (Or.inl rfl)) (fun _ _ _ _ _ => pts_one (pt_cmpR (r := rIn K true) op_notIn_seq (pv 17) (pv 12) (by rfl))) (fun _ _ _ _ _ => (pv 17)))
      (pss_one (ps_if (pt_cmpR op_gt (pe_callB (r := rLenK K) call_len_seq (by rfl) hl PySem.boot_len (pa_cons (pv 13) pa_nil)) pe_int (nomark _)) (pss_cons (ps_expr (pe_bm PySem.F.plainAttrs_list PySem.F.slot_list_append PySem.F.type_list_append mt_append (pv 8) (pa_cons (pe_tup (pa_cons pe_int (pa_cons (pv 10) (pa_cons (pv 11) (pa_cons (pe_lst (pa_cons pe_str (pa_cons (pe_ix (r := rIxL K) ix_list (pv 13) pe_int (fun _ _ => rfl)) pa_nil))) pa_nil))))) pa_nil)))
      (pss_one (ps_expr (pe_bm PySem.F.plainAttrs_list PySem.F.slot_list_append PySem.F.type_list_append mt_append (pv 8) (pa_cons (pe_tup (pa_cons pe_int (pa_cons (pv 10) (pa_cons (pv 11) (pa_cons (pe_lst (pa_cons pe_str (pa_cons (pe_ix (r := rIxL K) ix_list (pv 13) pe_int (fun _ _ => rfl)) pa_nil))) pa_nil))))) pa_nil)))))
        (C8.pss_cut (ps_setLc (i := 14) (own := [("bar", 18)]) (g := (gName 18)) rfl scBe.nd rfl rfl (sw_true rfl rfl rfl (by decide +kernel)) (pi_list (pv 7)) (blkOk_by (N := nBe) (sc := defScope sBeE) (by decide +kernel)) (fun _ _ _ _ _ => pg_name (i := 18) scBe.nd rfl (Or.inl rfl)) (fun _ _ _ _ _ => pts_one (pt_cmpR (r := rNeD K) (op_neD hr.units) (pv 18) (pe_tup (pa_cons (pv 10) (pa_cons (pv 11) pa_nil))) (nomark _))) (fun _ _ _ _ _ => (pv 18)))
      (pss_cons (ps_expr (pe_bm PySem.F.plainAttrs_list PySem.F.slot_list_append PySem.F.type_list_append mt_append (pv 8) (pa_cons (pe_tup (pa_cons pe_int (pa_cons (pv 10) (pa_cons (pv 11) (pa_cons (pe_call GMu (hr.mono (by decide)) (by rfl) gMu kMu bMu .nil pass0 (pa_cons (pe_tup (pa_cons (pv 3) (pa_cons (pv 4) (pa_cons (pv 5) (pa_cons (pv 6) (pa_cons (pe_op op_cat (pv 7) (pe_lst (pa_cons (pe_tup (pa_cons (pv 10) (pa_cons (pv 11) pa_nil))) pa_nil))) pa_nil)))))) pa_nil)) pa_nil))))) pa_nil)))
      (pss_cons (ps_set (i := 15) scBe.nd rfl (Or.inl rfl) pe_str)
      (C8.pss_cut (ps_if (pt_cmpR op_lt (pe_callB (r := rLenK K) call_len_seq (by rfl) hl PySem.boot_len (pa_cons (pv 14) pa_nil)) (pe_callB (r := rLenK K) call_len_seq (by rfl) hl PySem.boot_len (pa_cons (pv 7) pa_nil)) (nomark _)) (pss_one (ps_set (i := 15) scBe.nd rfl (Or.inl rfl) (pe_call GMu (hr.mono (by decide)) (by rfl) gMu kMu bMu .nil pass0 (pa_cons (pe_tup (pa_cons (pv 3) (pa_cons (pv 4) (pa_cons (pv 5) (pa_cons (pv 6) (pa_cons (pv 14) pa_nil)))))) pa_nil))))
        pss_nil)
      (pss_one (ps_expr (pe_bm PySem.F.plainAttrs_list PySem.F.slot_list_append PySem.F.type_list_append mt_append (pv 8) (pa_cons (pe_tup (pa_cons pe_int (pa_cons (pv 10) (pa_cons (pv 11) (pa_cons (pv 15) pa_nil))))) pa_nil))))))))))))))))
      (pss_one (ps_ret (pv 8)))))), ?_⟩
    obtain ⟨m4, em4, m40, m41⟩ := num_at hsm (k := 154) (by omega)
    obtain ⟨m5, em5, m50, m51⟩ := num_at hsm (k := 155) (by omega)
    have lxs := Paired.len hrs
    have lzs := Paired.len hbs
    have r60 := ok.r.len
    have b40 := ok.b.len
    have nmb : ∀ b ∈ bs, isNm b.1 = true ∧ isNm b.2 = true := fun b hb => by
      obtain ⟨r1, h1, r2, h2, e1, e2, _⟩ := ok.b.ok b hb
      rw [e1, e2]
      exact ⟨List.all_eq_true.mp ok.r.nm _ (List.mem_map.mpr ⟨r1, h1, rfl⟩), List.all_eq_true.mp ok.r.nm _ (List.mem_map.mpr ⟨r2, h2, rfl⟩)⟩
    have oR : ∀ {H' : Hp}, Grew P H H' → Paired (RoadL H') rs xs := fun g => Paired.map' hrs fun _ _ m => m.grew g hP
    have oB : ∀ {H' : Hp}, Grew P H H' → Paired (GBar H') bs zs := fun g => Paired.map' hbs fun _ _ m => m.grew g hP
    refine ⟨_, rfl, p, _, rfl, SqT.of hp, rfl, _, _, rfl, _, _, rfl, _, _, rfl, _, _, rfl, _, _, rfl, rfl, ?_⟩
    refine ⟨Nat.zero_le _, fun L nL => ?_⟩
    have nLH : H L = none := nL
    obtain ⟨g1, h1⟩ := mk_at (o := .lst []) hP nL
    have hlp : (0 : Int) < ((nms.map V.str).length : Int) := by have := nok.l1; rw [List.length_map]; omega
    refine ⟨fun σ H' => ∃ v9 v10 v11 v12 v13 v14 v15 rows, σ = [some (.ref p), some (.ref N), some (.ref NA), some (.int d), some (.ref pl), some (.ref ki), some (.ref ro), some (.ref ba), some (.ref L), v9, v10, v11, v12, v13, v14, v15, none, none, none] ∧ Grew P H H' ∧ H' L = some (.lst rows) ∧ (∀ v ∈ rows, RowN L K H' d ks ps rs bs v) ∧ rows.length ≤ 4, ?_, ?_⟩
    · refine ⟨2, rfl, by decide, by decide, for_range (n := 2) (fun i σ H' => ∃ v9 v10 v11 v12 v13 v14 v15 rows, σ = [some (.ref p), some (.ref N), some (.ref NA), some (.int d), some (.ref pl), some (.ref ki), some (.ref ro), some (.ref ba), some (.ref L), v9, v10, v11, v12, v13, v14, v15, none, none, none] ∧ Grew P H H' ∧ H' L = some (.lst rows) ∧ (∀ v ∈ rows, RowN L K H' d ks ps rs bs v) ∧ rows.length = 2 * i)
        ⟨none, none, none, none, none, none, none, [], rfl, g1, h1, fun v hv => (by cases hv), rfl⟩ ?_ ?_⟩
      · rintro i σ H1 hi ⟨v9, v10, v11, v12, v13, v14, v15, rows, rfl, g1, hL, hrow, hrl⟩
        obtain ⟨x1, ex1, _, _⟩ := num_at hsm (k := 151 + i) (by omega)
        obtain ⟨x2, ex2, _, _⟩ := num_at hsm (k := 152 + i) (by omega)
        have e1 : (151 : Int) + (0 + (i : Int)) = ((151 + i : Nat) : Int) := by omega
        have e2 : (152 : Int) + (0 + (i : Int)) = ((152 + i : Nat) : Int) := by omega
        rw [← e1] at ex1
        rw [← e2] at ex2
        have hN1 := g1.sqL hP hN
        have hNA1 := g1.sqL hP hNA
        obtain ⟨za, eza, hza⟩ := str_idx (x := x1) nok.l1
        obtain ⟨zb, ezb, hzb⟩ := str_idx (x := x2 / 3) nok.l1
        refine ⟨_, rfl, _, rfl, _, rfl, _, _, rfl, rfl, N, _, _, .int x1, rfl, rfl, hN1, ex1, .inl ⟨x1, rfl, _, rfl, NA, _, rfl, .inl hNA1, _, _, rfl, rfl, hlp, NA, _, _, _, rfl, rfl, hNA1, eza, ?_⟩⟩
        refine ⟨_, rfl, _, rfl, _, rfl, _, _, rfl, rfl, N, _, _, .int x2, rfl, rfl, hN1, ex2, .inl ⟨x2, rfl, _, _, rfl, rfl, ⟨by decide, by decide⟩, _, rfl, NA, _, rfl, .inl hNA1, _, _, rfl, rfl, hlp, NA, _, _, _, rfl, rfl, hNA1, ezb, ?_⟩⟩
        -- the two names
        refine ⟨fun σ H' => ∃ a b, σ = [some (.ref p), some (.ref N), some (.ref NA), some (.int d), some (.ref pl), some (.ref ki), some (.ref ro), some (.ref ba), some (.ref L), some (.int (0 + (i : Int))), some (.str a), some (.str b), v12, v13, v14, v15, none, none, none] ∧ H' = H1 ∧ isNm a = true ∧ isNm b = true, ?_, ?_⟩
        · refine ⟨_, rfl, ba, _, rfl, .inl (SqL.of (g1.lst hP hba)), _, _, rfl, rfl, _, rfl, ?_⟩
          by_cases c : 0 < zs.length
          case neg => exact if_f (decide_eq_false (by omega)) ⟨za, zb, rfl, rfl, nok.n za hza, nok.n zb hzb⟩
          refine if_t (decide_eq_true (by omega)) ⟨_, rfl, N, _, 154, .int m4, rfl, rfl, hN1, em4, .inl ⟨m4, rfl, _, _, rfl, rfl, (show (0 : Int) < 2 by decide), _, rfl, rfl, _, rfl, ?_⟩⟩
          refine ite2 (fun _ => ?_) (fun _ => ⟨za, zb, rfl, rfl, nok.n za hza, nok.n zb hzb⟩)
          have hz0 : (0 : Int) < (zs.length : Int) := by omega
          obtain ⟨k, ek⟩ := Int.eq_ofNat_of_zero_le (Int.emod_nonneg m5 (show (zs.length : Int) ≠ 0 by omega))
          have hk : k < zs.length := by
            have := Int.emod_lt_of_pos m5 hz0
            omega
          have ak : atI zs (m5 % (zs.length : Int)) = some zs[k] := by rw [ek]; exact atI_nat (List.getElem?_eq_getElem hk)
          obtain ⟨q, hq, tq, etq, htq⟩ := Paired.at (oB g1) (List.getElem?_eq_getElem hk)
          obtain ⟨q1, q2⟩ := nmb q (List.mem_of_getElem? hq)
          refine ⟨_, rfl, _, rfl, N, _, 155, .int m5, rfl, rfl, hN1, em5, .inl ⟨m5, rfl, _, rfl, ba, _, rfl, .inl (SqL.of (g1.lst hP hba)), _, _, rfl, rfl, hz0, ba, _, _, zs[k], rfl, rfl, SqL.of (g1.lst hP hba), ak, ?_⟩⟩
          exact ⟨tq, _, etq, SqT.of htq, rfl, _, _, rfl, _, _, rfl, rfl, q.1, q.2, rfl, rfl, q1, q2⟩
        rintro σ H' ⟨a, b, rfl, rfl, an, bn⟩
        have la : a.length ≤ 1000 := Nat.le_trans (isNm_len an) (by decide)
        have lb : b.length ≤ 1000 := Nat.le_trans (isNm_len bn) (by decide)
        have oa := nm_ok an
        have ob := nm_ok bn
        -- the names of the roads
        refine ⟨fun σ H2 => ∃ KN, σ = [some (.ref p), some (.ref N), some (.ref NA), some (.int d), some (.ref pl), some (.ref ki), some (.ref ro), some (.ref ba), some (.ref L), some (.int (0 + (i : Int))), some (.str a), some (.str b), some (.ref KN), v13, v14, v15, none, none, none] ∧ Grew P H' H2 ∧ H2 KN = some (.lst ((rs.map (·.name)).map V.str)), ?_, ?_⟩
        · refine ⟨_, rfl, ro, rfl, ⟨_, SqL.of (g1.lst hP hro)⟩, fun D nD => lc_list (K := K) (a := ro) (xs := xs) (fun j H2 => Grew P H' H2 ∧ H2 D = some (.lst (((rs.take j).map (·.name)).map V.str)))
            ⟨Grew.new g1.tab nD, upd_same⟩ (fun j H2 _ q => SqL.of ((g1.trans q.1).lst hP hro)) (fun j v H2 hv q => ?_) (fun H2 q => ?_)⟩
          · obtain ⟨g, hD⟩ := q
            obtain ⟨r, hri, m⟩ := Paired.at hrs hv
            obtain ⟨t, u, h, rfl, ht, _, _⟩ := m.grew (g1.trans g) hP
            have li := (List.getElem?_eq_some_iff.mp hri).1
            refine ⟨rfl, _, rfl, t, _, 0, .str r.name, rfl, rfl, SqT.of ht, rfl, _, hD, by simp only [List.length_map, List.length_take]; rw [sizeLine_eq]; omega, g.write hD (fun _ z => by cases z) nD, ?_⟩
            rw [upd_same, List.take_succ, hri]
            simp
          · obtain ⟨g, hD⟩ := q
            rw [← lxs, List.take_length] at hD
            exact ⟨D, rfl, g, hD⟩
        rintro σ H2 ⟨KN, rfl, g12, hKN⟩
        have g2 := g1.trans g12
        -- the strange ones
        refine ⟨fun σ H3 => ∃ S, σ = [some (.ref p), some (.ref N), some (.ref NA), some (.int d), some (.ref pl), some (.ref ki), some (.ref ro), some (.ref ba), some (.ref L), some (.int (0 + (i : Int))), some (.str a), some (.str b), some (.ref KN), some (.ref S), v14, v15, none, none, none] ∧ Grew P H2 H3 ∧ S ≠ L ∧ H3 S = some (.lst ((([a, b] : List Str).filter fun z => !decide (z ∈ rs.map (·.name))).map V.str)), ?_, ?_⟩
        · refine ⟨_, rfl, _, rfl, (show 2 ≤ sizeLine by decide), fun AB nAB => ?_⟩
          obtain ⟨ga, ha⟩ := mk_at (o := .lst (([a, b] : List Str).map V.str)) g2.tab nAB
          refine ⟨AB, rfl, ⟨_, SqL.of ha⟩, fun D nD => lc_list (K := K) (a := AB) (xs := ([a, b] : List Str).map V.str) (fun j H3 => Grew P H2 H3 ∧ H3 AB = some (.lst (([a, b] : List Str).map V.str)) ∧ D ≠ AB ∧ H2 D = none ∧ H3 D = some (.lst (((([a, b] : List Str).take j).filter fun z => !decide (z ∈ rs.map (·.name))).map V.str)))
            ⟨ga.trans (Grew.new ga.tab nD), (Grew.new ga.tab nD).lst ga.tab ha, (ne_of_none ha nD).symm, ga.free nD, upd_same⟩ (fun j H3 _ q => SqL.of q.2.1) (fun j v H3 hv q => ?_) (fun H3 q => ?_)⟩
          · obtain ⟨g, hab, ne, nD2, hD⟩ := q
            rw [List.getElem?_map] at hv
            obtain ⟨y, hyi, rfl⟩ := Option.map_eq_some_iff.mp hv
            have ft := filter_takeA (p := fun z : Str => !decide (z ∈ rs.map (·.name))) hyi
            have lj : ((([a, b] : List Str).take j).filter fun z => !decide (z ∈ rs.map (·.name))).length ≤ 2 := Nat.le_trans (List.length_filter_le _ _) (by rw [List.length_take]; exact Nat.min_le_right _ _)
            refine ⟨rfl, _, rfl, _, rfl, KN, _, rfl, .inl (SqL.of (g.lst g2.tab hKN)), rfl, flat_strs _, _, rfl, ?_⟩
            by_cases cy : y ∈ rs.map (·.name)
            · refine if_f (by rw [inV_dec, decide_eq_true cy]; rfl) ⟨g, hab, ne, nD2, ?_⟩
              rw [ft, if_neg (by rw [decide_eq_true cy]; decide), List.append_nil]
              exact hD
            · refine if_t (by rw [inV_dec, decide_eq_false cy]; rfl) ⟨_, rfl, _, hD, by rw [List.length_map, sizeLine_eq]; omega, g.write hD (fun _ z => by cases z) nD2, by rw [upd_ne (Ne.symm ne)]; exact hab, ne, nD2, ?_⟩
              rw [upd_same, ft, if_pos (by rw [decide_eq_false cy]; rfl), List.map_append]
              rfl
          · obtain ⟨g, hab, ne, nD2, hD⟩ := q
            exact ⟨D, rfl, g, fun e => (by have := g12.lst g1.tab hL; rw [← e, nD2] at this; cases this), hD⟩
        rintro σ H3 ⟨S, rfl, g23, SL, hS⟩
        have g3 := g2.trans g23
        have g13 := g12.trans g23
        have hL3 := g13.lst g1.tab hL
        refine ⟨_, rfl, S, _, rfl, .inl (SqL.of hS), _, _, rfl, rfl, _, rfl, ?_⟩
        have kw3 : KeepN L K H' H3 := KeepN.grew g13 g1.tab
        by_cases ka : Known rs a ∧ Known rs b
        case neg =>
          obtain ⟨z, fl, efl, zok, rq5, rq6⟩ : ∃ (z : Str) (fl : List Str), (([a, b] : List Str).filter fun z => !decide (z ∈ rs.map (·.name))) = z :: fl ∧ PyData.strOk z = true ∧ (∀ H'', RowQ K H'' d ks ps rs bs 5 (.str a) (.str b) (unkP z)) ∧ (∀ H'', RowQ K H'' d ks ps rs bs 6 (.str a) (.str b) (unkP z)) := by
            by_cases k1 : Known rs a
            · have k2 : ¬ Known rs b := fun h => ka ⟨k1, h⟩
              have e1 : a ∈ rs.map (·.name) := known_mem.mp k1
              have e2 : b ∉ rs.map (·.name) := fun h => k2 (known_mem.mpr h)
              refine ⟨b, [], ?_, ob, fun H'' => .inr (.inr (.inr (.inr (.inr (.inl ⟨rfl, a, b, rfl, rfl, la, lb, .inr (.inr ⟨k1, k2, rfl⟩)⟩))))), fun H'' => .inr (.inr (.inr (.inr (.inr (.inr ⟨rfl, a, b, rfl, rfl, la, lb, oa, ob, .inr (.inr (.inr ⟨k1, k2, rfl⟩))⟩)))))⟩
              rw [List.filter_cons_of_neg (by rw [decide_eq_true e1]; decide), List.filter_cons_of_pos (by rw [decide_eq_false e2]; rfl)]
              rfl
            · have e1 : a ∉ rs.map (·.name) := fun h => k1 (known_mem.mpr h)
              refine ⟨a, _, List.filter_cons_of_pos (by rw [decide_eq_false e1]; rfl), oa, fun H'' => .inr (.inr (.inr (.inr (.inr (.inl ⟨rfl, a, b, rfl, rfl, la, lb, .inr (.inl ⟨k1, rfl⟩)⟩))))), fun H'' => .inr (.inr (.inr (.inr (.inr (.inr ⟨rfl, a, b, rfl, rfl, la, lb, oa, ob, .inr (.inr (.inl ⟨k1, rfl⟩))⟩)))))⟩
          rw [efl] at hS ⊢
          have s0 : atI ((z :: fl).map V.str) 0 = some (.str z) := atI_nat (xs := (z :: fl).map V.str) (j := 0) (v := V.str z) rfl
          refine if_t (decide_eq_true (by rw [List.length_map, List.length_cons]; omega)) ?_
          refine ⟨_, rfl, .inl ⟨rfl, _, SqL.of hL3⟩, _, rfl, _, rfl, _, rfl, S, _, _, _, rfl, rfl, SqL.of hS, s0, (show 2 ≤ sizeLine by decide), fun T1 t1 => ?_⟩
          obtain ⟨ga, j1⟩ := mk_at (o := .lst [V.str (Str.ofString "unknown"), .str z]) g3.tab t1
          refine ⟨(show 4 ≤ sizeLine by decide), fun R1 r1 => ?_⟩
          obtain ⟨gb, j2⟩ := mk_at (o := .tup [.int 5, .str a, .str b, .ref T1]) ga.tab r1
          have gab := ga.trans gb
          have hL4 := gab.lst g3.tab hL3
          have T1L : T1 ≠ L := fun e => by rw [e, hL3] at t1; cases t1
          have n1 : RowN L K (L2.upd (L2.upd H3 T1 (.lst [V.str (Str.ofString "unknown"), .str z])) R1 (.tup [.int 5, .str a, .str b, .ref T1])) d ks ps rs bs (.ref R1) := ⟨R1, 5, .str a, .str b, .ref T1, unkP z, rfl, SqT.of j2, unkP_lay zok, fun H'' kk => ⟨rq5 H'', unk_keep (SqL.of (gb.lst ga.tab j1)) T1L kk⟩⟩
          refine ⟨L, _, _, rfl, rfl, hL4, by rw [sizeLine_eq]; omega, ?_⟩
          have g4 := (g3.trans gab).write (o := .lst (rows ++ [V.ref R1])) hL4 (fun _ z => by cases z) nLH
          have hS4 : (L2.upd (L2.upd (L2.upd H3 T1 (.lst [V.str (Str.ofString "unknown"), .str z])) R1 (.tup [.int 5, .str a, .str b, .ref T1])) L (.lst (rows ++ [V.ref R1]))) S = some (.lst ((z :: fl).map V.str)) := by
            rw [upd_ne SL]
            exact gab.lst g3.tab hS
          have kw4 := (KeepN.grew (L := L) (K := K) gab g3.tab).trans (KeepN.write (K := K) (zs := rows ++ [V.ref R1]) hL4)
          have n1' := n1.keep (KeepN.write (K := K) (zs := rows ++ [V.ref R1]) hL4)
          have hL4' : (L2.upd (L2.upd (L2.upd H3 T1 (.lst [V.str (Str.ofString "unknown"), .str z])) R1 (.tup [.int 5, .str a, .str b, .ref T1])) L (.lst (rows ++ [V.ref R1]))) L = some (.lst (rows ++ [V.ref R1])) := upd_same
          generalize L2.upd (L2.upd (L2.upd H3 T1 (.lst [V.str (Str.ofString "unknown"), .str z])) R1 (.tup [.int 5, .str a, .str b, .ref T1])) L (.lst (rows ++ [V.ref R1])) = H4 at g4 hS4 kw4 n1' hL4' ⊢
          refine ⟨_, rfl, .inl ⟨rfl, _, SqL.of hL4'⟩, _, rfl, _, rfl, _, rfl, S, _, _, _, rfl, rfl, SqL.of hS4, s0, (show 2 ≤ sizeLine by decide), fun T2 t2 => ?_⟩
          obtain ⟨gc, j3⟩ := mk_at (o := .lst [V.str (Str.ofString "unknown"), .str z]) g4.tab t2
          refine ⟨(show 4 ≤ sizeLine by decide), fun R2 r2 => ?_⟩
          obtain ⟨gd, j4⟩ := mk_at (o := .tup [.int 6, .str a, .str b, .ref T2]) gc.tab r2
          have gcd := gc.trans gd
          have hL5 := gcd.lst g4.tab hL4'
          have T2L : T2 ≠ L := fun e => by rw [e, hL4'] at t2; cases t2
          have n2 : RowN L K (L2.upd (L2.upd H4 T2 (.lst [V.str (Str.ofString "unknown"), .str z])) R2 (.tup [.int 6, .str a, .str b, .ref T2])) d ks ps rs bs (.ref R2) := ⟨R2, 6, .str a, .str b, .ref T2, unkP z, rfl, SqT.of j4, unkP_lay zok, fun H'' kk => ⟨rq6 H'', unk_keep (SqL.of (gd.lst gc.tab j3)) T2L kk⟩⟩
          refine ⟨L, _, _, rfl, rfl, hL5, by rw [sizeLine_eq, List.length_append]; show _ + 1 < _; omega, ?_⟩
          have g5 := (g4.trans gcd).write (o := .lst ((rows ++ [V.ref R1]) ++ [V.ref R2])) hL5 (fun _ z => by cases z) nLH
          have kw5 := (KeepN.grew (L := L) (K := K) gcd g4.tab).trans (KeepN.write (K := K) (zs := (rows ++ [V.ref R1]) ++ [V.ref R2]) hL5)
          refine ⟨_, _, _, _, _, _, _, _, rfl, g5, upd_same, fun v hv => ?_, by simp only [List.length_append, List.length_cons, List.length_nil]; omega⟩
          rcases List.mem_append.mp hv with hv | hv
          · rcases List.mem_append.mp hv with hv | hv
            · exact (hrow v hv).keep (kw3.trans (kw4.trans kw5))
            · rw [List.mem_singleton.mp hv]; exact n1'.keep kw5
          · rw [List.mem_singleton.mp hv]; exact n2.keep (KeepN.write hL5)
        obtain ⟨k1, k2⟩ := ka
        have e1 : a ∈ rs.map (·.name) := known_mem.mp k1
        have e2 : b ∈ rs.map (·.name) := known_mem.mp k2
        have efl : (([a, b] : List Str).filter fun z => !decide (z ∈ rs.map (·.name))) = [] := by
          rw [List.filter_cons_of_neg (by rw [decide_eq_true e1]; decide), List.filter_cons_of_neg (by rw [decide_eq_true e2]; decide)]
          rfl
        rw [efl]
        refine if_f (by simp) ?_
        -- left
        refine ⟨fun σ H4 => ∃ M acc, σ = [some (.ref p), some (.ref N), some (.ref NA), some (.int d), some (.ref pl), some (.ref ki), some (.ref ro), some (.ref ba), some (.ref L), some (.int (0 + (i : Int))), some (.str a), some (.str b), some (.ref KN), some (.ref S), some (.ref M), v15, none, none, none] ∧ Grew P H3 H4 ∧ M ≠ L ∧ H4 M = some (.lst acc) ∧ Paired (GBar H) (outB a b bs) acc, ?_, ?_⟩
        · refine ⟨_, rfl, ba, rfl, ⟨_, SqL.of (g3.lst hP hba)⟩, fun D nD => lc_list (K := K) (a := ba) (xs := zs) (fun j H4 => Grew P H3 H4 ∧ ∃ acc, H4 D = some (.lst acc) ∧ acc.length ≤ j ∧ Paired (GBar H) ((bs.take j).filter fun q => !decide (q = (a, b))) acc)
            ⟨Grew.new g3.tab nD, [], upd_same, Nat.le_refl _, .nil⟩ (fun j H4 _ q => SqL.of ((g3.trans q.1).lst hP hba)) (fun j v H4 hv q => ?_) (fun H4 q => ?_)⟩
          · obtain ⟨g, acc, hD, hla, hacc⟩ := q
            obtain ⟨q, hqi, m⟩ := Paired.at hbs hv
            have hi' := (List.getElem?_eq_some_iff.mp hv).1
            have hqm := List.mem_of_getElem? hqi
            have ft := filter_takeA (p := fun q : Str × Str => !decide (q = (a, b))) hqi
            obtain ⟨q1, q2⟩ := nmb q hqm
            refine ⟨rfl, _, rfl, _, rfl, _, rfl, (show 2 ≤ sizeLine by decide), fun T nT => ?_⟩
            obtain ⟨gT, hT⟩ := mk_at (o := .tup [.str a, .str b]) g.tab nT
            have hD' := gT.lst g.tab hD
            refine ⟨barP q, barP (a, b), (m.grew ((g3.trans g).trans gT) hP).dp, GBar.dp (b := (a, b)) ⟨T, rfl, hT⟩, bar_shaped (nm_ok q1) (nm_ok q2), bar_shaped oa ob, _, rfl, ?_⟩
            rw [eqv_bar]
            by_cases cq : q = (a, b)
            · refine if_f (by rw [decide_eq_true cq]; rfl) ⟨g.trans gT, acc, hD', by omega, ?_⟩
              rw [ft, if_neg (by rw [decide_eq_true cq]; decide), List.append_nil]
              exact hacc
            · refine if_t (by rw [decide_eq_false cq]; rfl) ⟨_, rfl, acc, hD', by rw [sizeLine_eq]; omega, (g.trans gT).write hD' (fun _ z => by cases z) nD, _, upd_same, by rw [List.length_append]; show _ + 1 ≤ _; omega, ?_⟩
              rw [ft, if_pos (by rw [decide_eq_false cq]; rfl)]
              exact Paired.snoc hacc m
          · obtain ⟨g, acc, hD, hla, hacc⟩ := q
            rw [← lzs, List.take_length] at hacc
            exact ⟨D, acc, rfl, g, fun e => (by rw [e, hL3] at nD; cases nD), hD, hacc⟩
        rintro σ H4 ⟨M, acc, rfl, g34, ML, hM, hacc⟩
        have g4 := g3.trans g34
        have hL4 := g34.lst g3.tab hL3
        have lacc := Paired.len hacc
        -- row 5
        refine ⟨_, rfl, .inl ⟨rfl, _, SqL.of hL4⟩, _, rfl, _, rfl, _, rfl, _, rfl, _, rfl, _, rfl, _, rfl, _, rfl, _, rfl, (show 2 ≤ sizeLine by decide), fun A1 a1 => ?_⟩
        obtain ⟨ga, j1⟩ := mk_at (o := .tup [.str a, .str b]) g4.tab a1
        refine ⟨(show 1 ≤ sizeLine by decide), fun B1 b1 => ?_⟩
        obtain ⟨gb, j2⟩ := mk_at (o := .lst [V.ref A1]) ga.tab b1
        have gab := ga.trans gb
        refine ⟨ba, B1, _, _, rfl, rfl, (g4.trans gab).lst hP hba, j2, by simp only [List.length_cons, List.length_nil]; rw [sizeLine_eq]; omega, fun B2 b2 => ?_⟩
        obtain ⟨gc, j3⟩ := mk_at (o := .lst (zs ++ [V.ref A1])) gb.tab b2
        refine ⟨(show 5 ≤ sizeLine by decide), fun B3 b3 => ?_⟩
        obtain ⟨gd, j4⟩ := mk_at (o := .tup [.int d, .ref pl, .ref ki, .ref ro, .ref B2]) gc.tab b3
        have gad := gab.trans (gc.trans gd)
        have g4d := g4.trans gad
        have hpd : PartsL _ B3 d ks ps rs (bs ++ [(a, b)]) := ⟨pl, ki, ro, B2, xs, zs ++ [.ref A1], j4, g4d.lst hP hpl, g4d.lst hP hki, g4d.lst hP hro, oR g4d, gd.lst gc.tab j3, Paired.app (oB g4d) (.cons ⟨A1, rfl, (gb.trans (gc.trans gd)).tup ga.tab j1⟩ .nil)⟩
        refine ⟨B3, d, ks, ps, rs, bs ++ [(a, b)], rfl, hpd, sm_bar ok la lb, gd.tab, fun H5 ans D g5 hD hans fr => ?_⟩
        refine ⟨(show 4 ≤ sizeLine by decide), fun R1 r1 => ?_⟩
        obtain ⟨ge, j5⟩ := mk_at (o := .tup [.int 5, .str a, .str b, ans]) g5.tab r1
        have gae := gad.trans (g5.trans ge)
        have hL5 := gae.lst g4.tab hL4
        have aL : ∀ x, ans = .ref x → x ≠ L := fun x e q => by
          have h1 := (fr x e).1
          rw [q, gad.lst g4.tab hL4] at h1; cases h1
        have n1 : RowN L K (L2.upd H5 R1 (.tup [.int 5, .str a, .str b, ans])) d ks ps rs bs (.ref R1) := ⟨R1, 5, .str a, .str b, ans, D, rfl, SqT.of j5, hD.lay, fun H'' kk => ⟨.inr (.inr (.inr (.inr (.inr (.inl ⟨rfl, a, b, rfl, rfl, la, lb, .inl ⟨k1, k2, hD⟩⟩))))), ans_keep hD (Dp.gr ge g5.tab _ _ hans) aL kk⟩⟩
        refine ⟨L, _, _, rfl, rfl, hL5, by rw [sizeLine_eq]; omega, ?_⟩
        have g6 := (g4.trans gae).write (o := .lst (rows ++ [V.ref R1])) hL5 (fun _ z => by cases z) nLH
        have kw6 := (KeepN.grew (L := L) (K := K) (g34.trans gae) g3.tab).trans (KeepN.write (K := K) (zs := rows ++ [V.ref R1]) hL5)
        have n1' := n1.keep (KeepN.write (K := K) (zs := rows ++ [V.ref R1]) hL5)
        have hM6 : (L2.upd (L2.upd H5 R1 (.tup [.int 5, .str a, .str b, ans])) L (.lst (rows ++ [V.ref R1]))) M = some (.lst acc) := by
          rw [upd_ne ML]
          exact gae.lst g4.tab hM
        have hL6 : (L2.upd (L2.upd H5 R1 (.tup [.int 5, .str a, .str b, ans])) L (.lst (rows ++ [V.ref R1]))) L = some (.lst (rows ++ [V.ref R1])) := upd_same
        generalize L2.upd (L2.upd H5 R1 (.tup [.int 5, .str a, .str b, ans])) L (.lst (rows ++ [V.ref R1])) = H6 at g6 kw6 n1' hM6 hL6 ⊢
        -- what is gone
        refine ⟨fun σ H7 => ∃ v D7, σ = [some (.ref p), some (.ref N), some (.ref NA), some (.int d), some (.ref pl), some (.ref ki), some (.ref ro), some (.ref ba), some (.ref L), some (.int (0 + (i : Int))), some (.str a), some (.str b), some (.ref KN), some (.ref S), some (.ref M), some v, none, none, none] ∧ Grew P H6 H7 ∧ Lay 6 D7 ∧ (∀ H'', KeepN L K H7 H'' → RowQ K H'' d ks ps rs bs 6 (.str a) (.str b) D7 ∧ Dp K H'' v D7), ?_, ?_⟩
        · refine ⟨_, rfl, M, _, rfl, .inl (SqL.of hM6), _, rfl, ba, _, rfl, .inl (SqL.of (g6.lst hP hba)), _, _, rfl, rfl, _, rfl, ?_⟩
          by_cases cin : (a, b) ∈ bs
          · have lt := outB_lt.mpr cin
            refine if_t (decide_eq_true (by omega)) ?_
            refine ⟨_, rfl, _, rfl, _, rfl, _, rfl, _, rfl, (show 5 ≤ sizeLine by decide), fun B4 b4 => ?_⟩
            obtain ⟨gf, j6⟩ := mk_at (o := .tup [.int d, .ref pl, .ref ki, .ref ro, .ref M]) g6.tab b4
            have g6f := g6.trans gf
            have hpf : PartsL _ B4 d ks ps rs (outB a b bs) := ⟨pl, ki, ro, M, xs, acc, j6, g6f.lst hP hpl, g6f.lst hP hki, g6f.lst hP hro, oR g6f, gf.lst g6.tab hM6, Paired.map' hacc fun _ _ m => m.grew g6f hP⟩
            refine ⟨B4, d, ks, ps, rs, outB a b bs, rfl, hpf, sm_less ok.sm (fun _ h => h) (fun _ h => h) (fun x hx => (List.mem_filter.mp hx).1) (Nat.le_refl _) (Nat.le_refl _) (List.length_filter_le _ _), gf.tab, fun H8 ans1 D1 g8 hD1 hans1 fr1 => ?_⟩
            have a1L : ∀ x, ans1 = .ref x → x ≠ L := fun x e q => by
              have h1 := (fr1 x e).1
              rw [q, gf.lst g6.tab hL6] at h1; cases h1
            exact ⟨ans1, D1, rfl, gf.trans g8, hD1.lay, fun H'' kk => ⟨.inr (.inr (.inr (.inr (.inr (.inr ⟨rfl, a, b, rfl, rfl, la, lb, oa, ob, .inl ⟨k1, k2, cin, hD1⟩⟩))))), ans_keep hD1 hans1 a1L kk⟩⟩
          · have nlt : ¬ (outB a b bs).length < bs.length := fun h => cin (outB_lt.mp h)
            refine if_f (decide_eq_false (by omega)) ?_
            exact ⟨.str zInv, .str zInv, rfl, Grew.refl g6.tab, (Lay.str (by decide +kernel)).mono (by decide), fun H'' kk => ⟨.inr (.inr (.inr (.inr (.inr (.inr ⟨rfl, a, b, rfl, rfl, la, lb, oa, ob, .inr (.inl ⟨k1, k2, cin, rfl⟩)⟩))))), .str _⟩⟩
        rintro σ H7 ⟨v, D7, rfl, g67, lD7, hD7⟩
        have g7 := g6.trans g67
        have hL7 := g67.lst g6.tab hL6
        refine ⟨_, rfl, .inl ⟨rfl, _, SqL.of hL7⟩, _, rfl, _, rfl, _, rfl, (show 4 ≤ sizeLine by decide), fun R2 r2 => ?_⟩
        obtain ⟨gf, j7⟩ := mk_at (o := .tup [.int 6, .str a, .str b, v]) g7.tab r2
        have hL8 := gf.lst g7.tab hL7
        have n2 : RowN L K (L2.upd H7 R2 (.tup [.int 6, .str a, .str b, v])) d ks ps rs bs (.ref R2) := ⟨R2, 6, .str a, .str b, v, D7, rfl, SqT.of j7, lD7, fun H'' kk => hD7 H'' ((KeepN.grew gf g7.tab).trans kk)⟩
        refine ⟨L, _, _, rfl, rfl, hL8, by rw [sizeLine_eq, List.length_append]; show _ + 1 < _; omega, ?_⟩
        have g8 := (g7.trans gf).write (o := .lst ((rows ++ [V.ref R1]) ++ [V.ref R2])) hL8 (fun _ z => by cases z) nLH
        have kw8 := ((KeepN.grew (L := L) (K := K) g67 g6.tab).trans (KeepN.grew gf g7.tab)).trans (KeepN.write (K := K) (zs := (rows ++ [V.ref R1]) ++ [V.ref R2]) hL8)
        refine ⟨_, _, _, _, _, _, _, _, rfl, g8, upd_same, fun v hv => ?_, by simp only [List.length_append, List.length_cons, List.length_nil]; omega⟩
        rcases List.mem_append.mp hv with hv | hv
        · rcases List.mem_append.mp hv with hv | hv
          · exact (hrow v hv).keep (kw3.trans (kw6.trans kw8))
          · rw [List.mem_singleton.mp hv]; exact n1'.keep kw8
        · rw [List.mem_singleton.mp hv]; exact n2.keep (KeepN.write hL8)
      · rintro σ H' ⟨v9, v10, v11, v12, v13, v14, v15, rows, rfl, g, hL, hrow, hrl⟩
        exact ⟨v9, v10, v11, v12, v13, v14, v15, rows, rfl, g, hL, hrow, by omega⟩
    rintro σ H' ⟨v9, v10, v11, v12, v13, v14, v15, rows, rfl, g, hL, hrow, hrl⟩
    exact ⟨_, rfl, kQ H' L rows g nLH hL (fun v hv => (hrow v hv).row) (by omega)⟩
end
end W

set_option Elab.async false
set_option linter.all false
set_option maxRecDepth 100000
set_option maxHeartbeats 2000000
namespace MyR
open PySem PySem.Spec PyProof.Rows L2
/-! ### the law's own call, where several defs hold a generator expression -/
section
variable {P : Program} {w : World} {K : PySem.W.Frag} {mg : Str → Option Value} {base : Heap}
def topL (K : PySem.W.Frag) (cs : List (Addr × Addr)) (a : Addr) (o : Obj) (xs : List V) : Hp := fun b => if b ∈ cs.map (·.2) then some (.tbl #[]) else if b = a ∧ K.lookup a = none then some (.frz o (.lst xs)) else none
theorem topL_cases {cs : List (Addr × Addr)} {a b : Addr} {o : Obj} {xs : List V} {u : HO} (h : topL K cs a o xs b = some u) : (b ∈ cs.map (·.2) ∧ u = .tbl #[]) ∨ (b ∉ cs.map (·.2) ∧ b = a ∧ K.lookup a = none ∧ u = .frz o (.lst xs)) := by
  unfold topL at h
  by_cases h1 : b ∈ cs.map (·.2)
  · rw [if_pos h1] at h
    exact .inl ⟨h1, (Option.some.inj h).symm⟩
  · rw [if_neg h1] at h
    by_cases h2 : b = a ∧ K.lookup a = none
    · rw [if_pos h2] at h
      exact .inr ⟨h1, h2.1, h2.2, (Option.some.inj h).symm⟩
    · rw [if_neg h2] at h
      cases h
theorem top_callL {mb : Str → Option Value} {CX : CXT} {f a : Addr} {cs : List (Addr × Addr)} {sp : Sp} {s : Shared} {vs : List Value} {ns : List Int} (KX : K.In s.heap) (G : s.heap.Ns mainGlobals mg) (B : s.heap.Ns builtinsNs mb) (hB : ∀ x : Str, x ≠ "__name__" → mb x = bootBuiltins x) (lim : s.heap.NoLimit) (ng : s.gens = #[])
    (hcs : ∀ p ∈ cs, s.heap.get? p.2 = some { cls := .none, data := .fields #[] } ∧ K.lookup p.2 = none ∧ PySem.W.CodeHd s.heap p.1 p.2)
    (hbm : ∃ (bm : Addr) (ob : Obj), mg "__builtins__" = some (.ref bm) ∧ bm ≠ builtinsNs ∧ s.heap.get? bm = some ob ∧ ob.cls = .type "module" ∧ ob.dict = some builtinsNs ∧ ob.data = .plain)
    (ea : s.heap.get? a = some { cls := .type "list", data := .seq vs.toArray }) (hi : IntsAre vs ns) (hl : ns.length ≤ sizeLine)
    (R : ∀ base : Heap, K.In base → base.Ns mainGlobals mg → (∀ p ∈ cs, LamX.TabB base mg p.1 p.2) → RunG P w K mg base CX f sp)
    (hsp : ∀ H : Hp, (∀ p ∈ cs, H p.2 = some (.tbl #[])) → SqL K H a (ns.map V.int) → sp [.ref a] H (fun v _ => v = .bl true) fun _ _ _ => False)
    (no : ∀ H e s', CX [] H s (fun _ _ _ => False) e s' → False) :
    codeAny (model P w) callerA (.call (.ref f) ⟨[.ref a], []⟩) (fun r s' => r = .ok (.ret (.bool true)) ∧ OldK s.heap s'.heap ∧ s'.os = s.os ∧ AllBare s'.gens) s := by
  have rv := vals_ints hi
  have mem : ∀ {b : Addr}, b ∈ cs.map (·.2) → ∃ c, (c, b) ∈ cs := fun {b} h => by
    obtain ⟨⟨c, b'⟩, hp, e⟩ := List.mem_map.mp h
    have e' : b' = b := e
    exact ⟨c, e' ▸ hp⟩
  have eT : ∀ {b : Addr}, b ∈ cs.map (·.2) → s.heap.get? b = some { cls := .none, data := .fields #[] } := fun h => let ⟨c, hp⟩ := mem h; (hcs _ hp).1
  have nT : ∀ {b : Addr}, b ∈ cs.map (·.2) → K.lookup b = none := fun h => let ⟨c, hp⟩ := mem h; (hcs _ hp).2.1
  have nz : a ∉ cs.map (·.2) := fun z => by
    rw [eT z] at ea
    cases ea
  obtain ⟨H, eH⟩ : ∃ H, H = topL K cs a { cls := .type "list", data := .seq vs.toArray } (ns.map V.int) := ⟨_, rfl⟩
  have tr : ∀ {b : Addr} {u : HO}, H b = some u → _ := fun {b u} h => topL_cases (by rw [eH] at h; exact h)
  have HT : ∀ p ∈ cs, H p.2 = some (.tbl #[]) := fun p hp => by
    rw [eH]
    exact if_pos (List.mem_map.mpr ⟨p, hp, rfl⟩)
  have hS : SqL K H a (ns.map V.int) := by
    cases q : K.lookup a with
    | none => exact .inl (.inr ⟨_, by rw [eH]; exact (if_neg nz).trans (if_pos ⟨rfl, q⟩)⟩)
    | some o =>
      have e := KX a o q
      rw [ea] at e
      cases e
      exact .inr ⟨_, vs.toArray, _, q, rfl, rfl, rfl, by rw [List.size_toArray, hi.length]; exact hl, by simpa using rv⟩
  have ok : HOk P w H s.heap := fun b u h => by
    rcases tr h with ⟨hb, rfl⟩ | ⟨_, rfl, _, rfl⟩
    · exact eT hb
    · exact ⟨ea, by rw [List.length_map]; exact hl, vs, _, rv, ea⟩
  have gone : ∀ {b : Addr} {o : Obj}, s.heap.get? b = some o → (∀ xs n, o.data ≠ .seq xs n) → o.data ≠ .fields #[] → H b = none := fun {b o} e d1 d2 => by
    cases h : H b with
    | none => rfl
    | some u =>
      rcases tr h with ⟨hb, _⟩ | ⟨_, rfl, _, _⟩
      · rw [eT hb] at e
        cases e
        exact (d2 rfl).elim
      · rw [ea] at e
        cases e
        exact (d1 _ _ rfl).elim
  have toB : ∀ {b : Addr} {m : Str → Option Value}, s.heap.Ns b m → (hidT s.heap H).Ns b m := fun {b m} ⟨o, es, ep, e, d, r⟩ =>
    ⟨o, es, ep, hidT_get e (gone e (fun xs n z => by rw [d] at z; cases z) (fun z => by rw [d] at z; cases z)), d, r⟩
  have KB : K.In (hidT s.heap H) := fun b o e => hidT_get (KX b o e) (by
    cases h : H b with
    | none => rfl
    | some u =>
      rcases tr h with ⟨hb, _⟩ | ⟨_, rfl, k, _⟩
      · rw [nT hb] at e; cases e
      · rw [k] at e; cases e)
  have TB : ∀ p ∈ cs, LamX.TabB (hidT s.heap H) mg p.1 p.2 := fun p hp => by
    obtain ⟨eT, nT, C⟩ := hcs p hp
    refine ⟨?_, ?_, fun z => ?_⟩
    · obtain ⟨o, us, file, tf, flags, tg, inF, text, tt, e1, r1, r2, r3, r⟩ := C
      exact ⟨o, us, file, tf, flags, tg, inF, text, tt, hidT_get e1 (gone e1 (fun xs n z => by rw [r2] at z; cases z) (fun z => by rw [r2] at z; cases z; simp at r3)), r1, r2, r3, r⟩
    · obtain ⟨bm, ob, b1, b2, b3, b4, b5, b6⟩ := hbm
      refine ⟨bm, ob, b1, b2, fun z => ?_, fun z => ?_, hidT_get b3 (gone b3 (fun xs n z => by rw [b6] at z; cases z) (fun z => by rw [b6] at z; cases z)), b4, b5, b6⟩
      · obtain ⟨o, es, ep, e, d, _⟩ := G
        rw [z, e] at b3
        cases b3
        rw [d] at b6
        cases b6
      · rw [z, eT] at b3
        cases b3
        cases b6
    · obtain ⟨o, es, ep, e, d, _⟩ := G
      rw [z, eT] at e
      cases e
      cases d
  have e0 : Env0 P w K mg (hidT s.heap H) callerA [] s H :=
    ⟨rfl, ⟨KB, toB G, ⟨mb, toB B, hB⟩, let ⟨mc, h1, h2⟩ := lim; ⟨mc, toB h1, h2⟩⟩, fun b o e => of_hidT e, Nat.le_of_eq (hidT_size _ _), trivial, fun b hb => absurd (show b ∈ ([] : List Addr) from hb) (by simp), ok, .of_eq ng⟩
  refine codeAny_mono (R _ KB (toB G) TB s H a _ _ e0 (hsp H HT hS)) fun r s' h => ?_
  match r, h with
  | .error e, h => exact (no H e s' h).elim
  | .ok .next, h => exact False.elim h
  | .ok .brk, h => exact False.elim h
  | .ok .cont, h => exact False.elim h
  | .ok (.ret u), ⟨v, H', os, bare, un, ok', r', q⟩ =>
    obtain rfl : v = .bl true := q
    obtain rfl : u = Value.bool true := r'
    have hm : ∀ p ∈ cs, ∃ more : Array Value, s'.heap.get? p.2 = some { cls := .none, data := .fields more } := fun p hp => by
      obtain ⟨more, z⟩ := un.tbls p.2 #[] (HT p hp)
      exact ⟨_, ok' p.2 _ z⟩
    have old : ∀ b o, b ∉ cs.map (·.2) → s.heap.get? b = some o → s'.heap.get? b = some o := fun b o ne e => by
      cases h : H b with
      | none => exact un.keep b o e h (fun z => absurd (show b ∈ ([] : List Addr) from z) (by simp)) (by simp)
      | some u =>
        rcases tr h with ⟨z, _⟩ | ⟨_, rfl, _, rfl⟩
        · exact absurd z ne
        · obtain ⟨e2, _⟩ := ok' b _ (un.frzs b _ _ h)
          rw [ea] at e
          cases e
          exact e2
    refine ⟨rfl, ⟨fun b o e => ?_, fun b o e => ?_⟩, os, bare⟩
    · by_cases hb : b ∈ cs.map (·.2)
      · obtain ⟨c, hp⟩ := mem hb
        obtain ⟨eT, _, C⟩ := hcs _ hp
        obtain ⟨more, hm⟩ := hm _ hp
        have eT' : s.heap.get? b = some { cls := .none, data := .fields #[] } := eT
        rw [eT'] at e
        cases e
        exact .inr (.inl ⟨(C.tab eT).isCodeTable, rfl, #[], more, rfl, by rw [Array.empty_append]; exact hm⟩)
      · exact .inl (old b o hb e)
    · by_cases hb : b ∈ cs.map (·.2)
      · obtain ⟨c, hp⟩ := mem hb
        obtain ⟨more, hm⟩ := hm _ hp
        exact ⟨_, hm⟩
      · exact ⟨o, old b o hb e⟩
end
/-- what the law's end asks: the tables of the code objects, and the promise sp -/
def LawL (l : PySem.W.OpenLaw) (w : World) (K : PySem.W.Frag) (CX : CXT) (n : Nat) (mg : Str → Option Value) (fa : Addr) (h : Heap) : Prop :=
  ∃ (cs : List (Addr × Addr)) (sp : Sp), (∀ p ∈ cs, h.get? p.2 = some { cls := .none, data := .fields #[] } ∧ K.lookup p.2 = none ∧ PySem.W.CodeHd h p.1 p.2) ∧
    (∀ (H : Hp) (a : Addr) (ns : List Int), ns.length ≤ n → (∀ p ∈ cs, H p.2 = some (.tbl #[])) → SqL K H a (ns.map V.int) → sp [.ref a] H (fun v _ => v = .bl true) fun _ _ _ => False) ∧
    ∀ base : Heap, K.In base → base.Ns mainGlobals mg → (∀ p ∈ cs, LamX.TabB base mg p.1 p.2) → RunG l.prog w K mg base CX fa sp
theorem walk_ofL {l : PySem.W.OpenLaw} {n : Nat} {q : Program} {loose : List Str} {XP : (Str → Option Value) → Heap → Prop} {YP : World → Heap → Prop} {d : DefRec} {K : Params → PySem.W.Frag} {CX : World → CXT} (names : List Str)
    (hn : l.most = some n) (hn2 : n ≤ sizeLine) (hdf : d.params.defaults = []) (hrec : names.all (fun y => (recsOf q).any fun e => e.name == y) = true) (hY : ∀ (w : World) (h : Heap), YP w h → (K w.params).In h)
    (F : ∀ (w : World) (mg : Str → Option Value) (fa : Addr) (h : Heap), YP w h → (K w.params).In h → h.Ns mainGlobals mg → mg d.name = some (.ref fa) → (∀ y ∈ names, ∀ f, mg y = some (.ref f) → LamX.OwnTab (K w.params) f h) → LawL l w (K w.params) (CX w) n mg fa h)
    (no : ∀ (w : World) (H : Hp) (s : Shared) (e : Value) (s' : Shared), CX w [] H s (fun _ _ _ => False) e s' → False) :
    PySem.W.WalkO q loose XP YP l.row.toRowW d [] (fun f vs => PySem.call f vs) := by
  refine Att.attach_callB hn hdf fun w s₀ s₁ mg mb fa o pm cd doc a vs ns G Y ho hd hcd hmg hobj hints hlen hbits hg => ?_
  have KX := hY w _ Y
  obtain ⟨cs, sp, hcs, hsp, R⟩ := F w mg fa _ Y KX G.T.g hmg (fun y hy f hf c P o1 fd1 e dd vs1 sl k1 k2 k3 k4 k5 => by
    obtain ⟨dL, hm, hn1⟩ := List.any_eq_true.mp (List.all_eq_true.mp hrec y hy)
    obtain ⟨a', o', fd', c', P', h1, h2, h3, h4, h5, h6⟩ := G.T.tab dL hm
    rw [beq_iff_eq.mp hn1, hf] at h1
    cases h1
    have g1 := KX _ _ k1
    rw [g1] at h2
    cases h2
    rw [k2] at h3
    cases h3
    rw [k3] at h4
    cases h4
    obtain ⟨⟨oc, vc, e1, _, e3, e4⟩, hP⟩ := h6
    have g2 := KX _ _ k4
    rw [g2] at e1
    cases e1
    cases e3
    rw [k5] at e4
    cases e4
    exact hP)
  exact top_callL KX G.T.g G.T.b G.T.builtins G.T.nolimit hg hcs G.T.bmain hobj hints (Nat.le_trans hlen hn2) R (fun H hH hS => hsp H a ns hlen hH hS) fun H e s' => no w H s₁ e s'
end MyR

set_option Elab.async false
set_option linter.all false
set_option maxRecDepth 100000
set_option maxHeartbeats 8000000
namespace W
open PySem PySem.Spec PyProof.Rows L2 GxR MyG MyS SqX MyR
/-! ### the law -/
abbrev sLaw : Stmt := top 48
def spLaw (K : PySem.W.Frag) (P : Addr) : Sp := fun vs H Q _ => ∃ (a : Addr) (zs : List Int), vs = [.ref a] ∧ SqL K H a (zs.map V.int) ∧ zs.length ≤ 63 ∧ TabG H P ∧ ∀ H', Q (.bl true) H'
abbrev nLaw : List Str := ["script", "numbers", "parts", "due", "chart", "names", "rows", "deed", "one", "other", "answer"]
theorem room11 {q : Str} {sc : Scope} {n : Nat} {f : Addr} {cd : Value} : Room 11 (callerA.deeper (envOfC q sc n f cd)) := ⟨rfl, by show 1 + claimMargin + 1 + 3 * 11 + 5 < _; decide, by show 4 + 3 + 16 * 11 + 200 < _; decide⟩
section
variable {Pg : Program} {w : World} {K : PySem.W.Frag} {mg : Str → Option Value} {base : Heap} {C P : Addr}
theorem scLaw : FnScope nLaw ["script"] (defScope sLaw) := ⟨rfl, rfl, rfl, by decide +kernel, rfl, by decide +kernel, by decide +kernel⟩
theorem ok_law {f fNu fPa fFr fMd fLn fRo fPl fBe fEd fSa M : Addr} {fdNu fdPa fdFr fdMd fdLn fdRo fdPl fdBe fdEd fdSa : FuncData} {dV kV doc pm cdv ct oc : Value} {an od : Option Addr} {osl : Array (Option Value)}
    (lk : K.lookup f = some ⟨oc, od, .func (PySem.W.fnOf "law" "law" (defArgs sLaw) (defBody sLaw) (defScope sLaw) dV kV doc pm an cdv ct), osl⟩) (hcd : PySem.W.codeIn K cdv "law" = true)
    (hb : ∀ (s : Shared) (u : Value), BindsTo s (PySem.W.fnOf "law" "law" (defArgs sLaw) (defBody sLaw) (defScope sLaw) dV kV doc pm an cdv ct) ⟨[u], []⟩ [("script", u)])
    (hl : mg "len" = none)
    (GNu : FnOk Pg w K mg base CX0 2 fNu fdNu ["script", "many"] (spNumbers K P)) (gNu : mg "_law_numbers" = some (.ref fNu)) (kNu : PySem.W.keepIn K (.ref fNu) = true) (bNu : Binds K fdNu ["script", "many"] [])
    (GPa : FnOk Pg w K mg base CX0 4 fPa fdPa ["numbers"] (spLParts K P)) (gPa : mg "_law_parts" = some (.ref fPa)) (kPa : PySem.W.keepIn K (.ref fPa) = true) (bPa : Binds K fdPa ["numbers"] [])
    (GFr : FnOk Pg w K mg base CX0 1 fFr fdFr ["parts"] (spLFrozen K P)) (gFr : mg "_law_frozen" = some (.ref fFr)) (kFr : PySem.W.keepIn K (.ref fFr) = true) (bFr : Binds K fdFr ["parts"] [])
    (GMd : FnOk Pg w K mg base CX0 7 fMd fdMd ["parts"] (spLMade K M P)) (gMd : mg "_law_made" = some (.ref fMd)) (kMd : PySem.W.keepIn K (.ref fMd) = true) (bMd : Binds K fdMd ["parts"] [])
    (GLn : FnOk Pg w K mg base CX0 1 fLn fdLn ["numbers", "at", "many"] (spLNames K P)) (gLn : mg "_law_names" = some (.ref fLn)) (kLn : PySem.W.keepIn K (.ref fLn) = true) (bLn : Binds K fdLn ["numbers", "at", "many"] [])
    (GRo : FnOk Pg w K mg base CX0 9 fRo fdRo ["parts", "numbers", "names"] (spRowsE K P)) (gRo : mg "_law_roads" = some (.ref fRo)) (kRo : PySem.W.keepIn K (.ref fRo) = true) (bRo : Binds K fdRo ["parts", "numbers", "names"] [])
    (GPl : FnOk Pg w K mg base CX0 9 fPl fdPl ["parts", "numbers"] (spRowsP K P)) (gPl : mg "_law_places" = some (.ref fPl)) (kPl : PySem.W.keepIn K (.ref fPl) = true) (bPl : Binds K fdPl ["parts", "numbers"] [])
    (GBe : FnOk Pg w K mg base CX0 9 fBe fdBe ["parts", "numbers", "names"] (spRowsE K P)) (gBe : mg "_law_bars_edited" = some (.ref fBe)) (kBe : PySem.W.keepIn K (.ref fBe) = true) (bBe : Binds K fdBe ["parts", "numbers", "names"] [])
    (GEd : FnOk Pg w K mg base CX0 10 fEd fdEd ["chart", "deed", "one", "other"] (spEdited K M P)) (gEd : mg "_law_edited" = some (.ref fEd)) (kEd : PySem.W.keepIn K (.ref fEd) = true) (bEd : Binds K fdEd ["chart", "deed", "one", "other"] [])
    (GSa : FnOk Pg w K mg base CX0 1 fSa fdSa ["chart", "due"] (spLSame K M P)) (gSa : mg "_law_same" = some (.ref fSa)) (kSa : PySem.W.keepIn K (.ref fSa) = true) (bSa : Binds K fdSa ["chart", "due"] []) :
    RunG Pg w K mg base (L2.CX Pg w) f (spLaw K P) := by
  refine runG_of lk hcd scLaw hb ⟨rfl, by decide, by decide⟩ fun s H a Q E h => ?_
  obtain ⟨a1, zs, ea, hS, hz, hP, kQ⟩ := h
  cases ea
  have hr : Room 11 (callerA.deeper (envOfC "law" (defScope sLaw) s.heap.objs.size f cdv)) := room11
  refine ⟨_, (pss_cons (ps_set (i := 1) scLaw.nd rfl (Or.inl rfl) (pe_call GNu (hr.mono (by decide)) (by rfl) gNu kNu bNu .nil pass0 (pa_cons (pv 0) (pa_cons pe_int pa_nil))))
      (pss_cons (ps_set (i := 2) scLaw.nd rfl (Or.inl rfl) (pe_call GPa (hr.mono (by decide)) (by rfl) gPa kPa bPa .nil pass0 (pa_cons (pv 1) pa_nil)))
      (pss_cons (ps_set (i := 3) scLaw.nd rfl (Or.inl rfl) (pe_call GFr (hr.mono (by decide)) (by rfl) gFr kFr bFr .nil pass0 (pa_cons (pv 2) pa_nil)))
      (pss_cons (ps_set (i := 4) scLaw.nd rfl (Or.inl rfl) (pe_call GMd (hr.mono (by decide)) (by rfl) gMd kMd bMd .nil pass0 (pa_cons (pv 2) pa_nil)))
      (pss_cons (ps_set (i := 5) scLaw.nd rfl (Or.inl rfl) (pe_call GLn (hr.mono (by decide)) (by rfl) gLn kLn bLn .nil pass0 (pa_cons (pv 1) (pa_cons pe_int (pa_cons (pe_op op_add (pe_callB (r := rLenK K) call_len_seq (by rfl) hl PySem.boot_len (pa_cons (pe_ix (r := rIxT K) ix_tup (pv 2) pe_int (fun _ _ => rfl)) pa_nil)) pe_int) pa_nil)))))
      (pss_cons (ps_set (i := 6) scLaw.nd rfl (Or.inl rfl) (pe_op op_cat (pe_op op_cat (pe_call GRo (hr.mono (by decide)) (by rfl) gRo kRo bRo .nil pass0 (pa_cons (pv 2) (pa_cons (pv 1) (pa_cons (pv 5) pa_nil)))) (pe_call GPl (hr.mono (by decide)) (by rfl) gPl kPl bPl .nil pass0 (pa_cons (pv 2) (pa_cons (pv 1) pa_nil)))) (pe_call GBe (hr.mono (by decide)) (by rfl) gBe kBe bBe .nil pass0 (pa_cons (pv 2) (pa_cons (pv 1) (pa_cons (pv 5) pa_nil))))))
      (pss_cons (ps_for (passes_of rfl) rfl (pi_list (pv 6)) (pg_tup (by rfl) (pgs_cons (pg_name (i := 7) scLaw.nd rfl (Or.inl rfl)) (pgs_cons (pg_name (i := 8) scLaw.nd rfl (Or.inl rfl)) (pgs_cons (pg_name (i := 9) scLaw.nd rfl (Or.inl rfl)) (pgs_cons (pg_name (i := 10) scLaw.nd rfl (Or.inl rfl)) pgs_nil)))))
        (pss_one (ps_if (PW.pt (pw_or (pt_cmpR (r := rNeD K) (op_neD hr.units) (pe_call GEd (hr.mono (by decide)) (by rfl) gEd kEd bEd .nil pass0 (pa_cons (pv 4) (pa_cons (pv 7) (pa_cons (pv 8) (pa_cons (pv 9) pa_nil))))) (pv 10) (nomark _)) (pw_or1 (pt_not (pt_val (pe_call GSa (hr.mono (by decide)) (by rfl) gSa kSa bSa .nil pass0 (pa_cons (pv 4) (pa_cons (pv 3) pa_nil)))))))) (pss_one (ps_ret pe_bl))
        pss_nil)))
      (pss_one (ps_ret pe_bl))))))))), ?_⟩
  refine ⟨_, rfl, a, zs, 158, rfl, hS, hz, by decide, hP, fun H1 N ns g1 nN hN hlen hsm => ?_⟩
  refine ⟨_, rfl, N, ns, rfl, SqL.of hN, hsm, by omega, by omega, g1.tab, fun H2 p d ks ps rs bs g2 np hp2 ok _ _ _ => ?_⟩
  have nd := ok.r.nd
  refine ⟨_, rfl, p, d, ks, ps, rs, bs, rfl, hp2, ok, g2.tab, fun H3 q ks' ps' rs' bs' g3 nq S1 hq3 => ?_⟩
  have hp3 := hp2.grew g3 g2.tab
  have tx := ok.txt.srt S1
  have ok' := partsOk_srt ok S1
  refine ⟨_, rfl, p, d, ks, ps, rs, bs, rfl, hp3, ok, g3.tab, fun x H4 ks4 ps4 rs4 bs4 g4 nx S2 hm4 => ?_⟩
  obtain ⟨rfl, rfl, rfl, rfl⟩ := Srt.one nd S1 S2
  have hp4 := hp3.grew g4 g3.tab
  have hq4 := hq3.grew g4 g3.tab
  have g24 := g2.trans (g3.trans g4)
  have g04 := g1.trans g24
  have hN4 := g24.sqL g1.tab (SqL.of (K := K) hN)
  -- names
  obtain ⟨pl, ki, ro, ba, xs, zs', e0, e1, e2, e3, e4, e5, e6⟩ := id hp4
  have lxs := Paired.len e4
  have r60 := ok.r.len
  refine ⟨_, rfl, _, rfl, p, _, 3, .ref ro, rfl, rfl, SqT.of e0, rfl, ro, _, rfl, .inl (SqL.of e3), _, _, rfl, rfl, N, ns, 24, rs.length + 1, congrArg (fun z => [V.ref N, V.int 24, V.int z]) (by rw [← lxs]; omega), hN4, hsm, by omega, by omega, by omega, g4.tab, fun H5 NA g5 nNA hNA => ?_⟩
  have g05 := g04.trans g5
  have nok : NmsOk (namesL ns 24 (rs.length + 1)) := ⟨by rw [namesL_len]; omega, by rw [namesL_len]; omega, List.all_eq_true.mp (namesL_ok _ _ _)⟩
  have hp5 := hp4.grew g5 g4.tab
  have hN5 := g5.sqL g4.tab hN4
  -- the rows
  refine ⟨_, rfl, _, rfl, _, rfl, p, N, NA, d, ks, ps, rs, bs, ns, _, rfl, hp5, ok, hN5, hsm, by omega, by omega, SqL.of hNA, nok, g5.tab, fun H6 A as g6 nA hA ra la => ?_⟩
  refine ⟨_, rfl, _, rfl, p, N, d, ks, ps, rs, bs, ns, rfl, hp5.grew g6 g5.tab, ok, g6.sqL g5.tab hN5, hsm, by omega, by omega, g6.tab, fun H7 B bs2 g7 nB hB rb lb => ?_⟩
  have g67 := g6.trans g7
  refine ⟨A, B, _, _, rfl, rfl, g7.lst g6.tab hA, hB, by rw [sizeLine_eq]; omega, fun AB nAB => ?_⟩
  obtain ⟨g8, hAB⟩ := mk_at (o := .lst (as ++ bs2)) g7.tab nAB
  have g58 := g67.trans g8
  refine ⟨_, rfl, _, rfl, _, rfl, p, N, NA, d, ks, ps, rs, bs, ns, _, rfl, hp5.grew g58 g5.tab, ok, g58.sqL g5.tab hN5, hsm, by omega, by omega, SqL.of (g58.lst g5.tab hNA), nok, g8.tab, fun H9 D ds g9 nD hD rd ld => ?_⟩
  refine ⟨AB, D, _, _, rfl, rfl, g9.lst g8.tab hAB, hD, by rw [sizeLine_eq, List.length_append]; omega, fun R nR => ?_⟩
  obtain ⟨gA, hR⟩ := mk_at (o := .lst ((as ++ bs2) ++ ds)) g9.tab nR
  have g5A := g58.trans (g9.trans gA)
  have g4A := g5.trans g5A
  have rows : ∀ v ∈ (as ++ bs2) ++ ds, RowT K (L2.upd H9 R (.lst ((as ++ bs2) ++ ds))) d ks ps rs bs v := fun v hv => by
    rcases List.mem_append.mp hv with hv | hv
    · rcases List.mem_append.mp hv with hv | hv
      · exact (ra v hv).grew (g7.trans (g8.trans (g9.trans gA))) g6.tab
      · exact (rb v hv).grew (g8.trans (g9.trans gA)) g7.tab
    · exact (rd v hv).grew gA g9.tab
  have hm := MapAt.grew g4A g4.tab hm4
  have hq := hq4.grew g4A g4.tab
  have g0A := g04.trans g4A
  generalize L2.upd H9 R (.lst ((as ++ bs2) ++ ds)) = HA at hR rows hm hq g0A ⊢
  refine ⟨_, rfl, R, rfl, ⟨_, SqL.of hR⟩, for_list (K := K) (a := R) (xs := (as ++ bs2) ++ ds) (fun i σ H' => ∃ v7 v8 v9 v10, σ = [some (.ref a), some (.ref N), some (.ref p), some (.ref q), some (.ref x), some (.ref NA), some (.ref R), v7, v8, v9, v10] ∧ Grew P HA H')
    ⟨none, none, none, none, rfl, Grew.refl g0A.tab⟩ (fun i σ H' _ h => by obtain ⟨_, _, _, _, _, g⟩ := h; exact SqL.of (g.lst g0A.tab hR)) ?_ ?_⟩
  · rintro i y σ H' hy ⟨v7, v8, v9, v10, rfl, g⟩
    obtain ⟨t, j, one, other, ans, DD, rfl, ht, rq, hans, lD⟩ := (rows y (List.mem_of_getElem? hy)).grew g g0A.tab
    have hm' := MapAt.grew g g0A.tab hm
    refine ⟨t, _, rfl, ht, rfl, _, _, rfl, _, _, rfl, _, _, rfl, _, _, rfl, rfl, ?_⟩
    refine ⟨_, rfl, _, rfl, _, rfl, _, rfl, x, j, one, other, DD, d, ks', ps', rs', bs', rfl, ⟨hm', g.tab, ok'⟩, rq.al S1.al, fun H'' v g' hv => ?_⟩
    refine ⟨_, rfl, DD, DD, hv, Dp.gr g' g.tab _ _ hans, lD.shaped (by decide), lD.shaped (by decide), _, rfl, if_f (by rw [lD.refl]; rfl) ?_⟩
    refine ⟨_, rfl, _, rfl, x, q, d, ks', ps', rs', bs', rfl, MapAt.grew g' g.tab hm', hq.grew (g.trans g') g0A.tab, tx, ?_⟩
    exact ⟨_, rfl, iteF ⟨_, _, _, _, rfl, g.trans g'⟩⟩
  · rintro σ H' ⟨v7, v8, v9, v10, rfl, g⟩
    exact kQ _
end
end W

set_option Elab.async false
set_option linter.all false
set_option maxRecDepth 100000
set_option maxHeartbeats 800000
namespace W
open PySem PySem.Spec PyProof.Rows L2 GxR MyG MyS
/-! ### UnknownName.__init__ -/
abbrev sUInit : Stmt := inClass (top 4) 0
def scFake : Scope := { kind := .function, names := [("self", .local), ("name", .local)], isGenerator := false, isCoroutine := false, more := [] }
theorem scFakeOk : FnScope ["self", "name"] ["self", "name"] scFake := ⟨rfl, rfl, rfl, by decide +kernel, rfl, by decide +kernel, by decide +kernel⟩
section
variable {Pg : Program} {w : World} {K : PySem.W.Frag} {mg : Str → Option Value} {base : Heap}
abbrev fdU (dV kV doc pm : Value) (an : Option Addr) (cda : Addr) (ct : Value) (cc : Addr) : FuncData := PySem.W.fnX "__init__" "UnknownName.__init__" (defArgs sUInit) (defBody sUInit) (defScope sUInit) [("__class__", cc)] dV kV doc pm an (.ref cda) ct
theorem ok_uinit {CX : CXT} {f U cc cda : Addr} {oc ccl cl dV kV doc pm ct : Value} {od cdd cld an : Option Addr} {osl ccs csl : Array (Option Value)} {vs : Array Value} {file : Str} {tf : Tok}
    (lk : K.lookup f = some ⟨oc, od, .func (fdU dV kV doc pm an cda ct cc), osl⟩) (hcd : PySem.W.codeIn K (.ref cda) "UnknownName.__init__" = true) (hcode : K.lookup cda = some ⟨ccl, cdd, .fields vs, ccs⟩) (hvs : vs[2]? = some (.str file tf)) (hfile : ((Pg.main.file : Str) == file) = true)
    (hcell : K.lookup cc = some ⟨cl, cld, .cell (some (.ref U)), csl⟩) (hsuper : mg "super" = none) (htop : (Pg.main.scope.names.lookup ("super" : Str)).isSome = false)
    (TU : OexC K U) (hmU : PySem.W.mroIn K U (.ref U) = some true) (hop : PySem.W.nsIn K cStatics "thirdparty.any" = some none) (hsi : PySem.W.ks_superIn K U U "__init__" = some (some (.builtin "ValueError.__init__"))) (hsV : PySem.W.subIn K (.ref U) (.type "ValueError") = some true)
    (hno : PySem.W.findIn K (.ref U) "name" = some none) : FnOk Pg w K mg base CX 1 f (fdU dV kV doc pm an cda ct cc) ["self", "name"] (spUInit K U) := by
  have len : ∀ vs H Q E, spUInit K U vs H Q E → vs.length = 2 := by
    rintro vs H Q E ⟨a, z, rfl, _⟩
    rfl
  refine ⟨len, fun A outer s H args us vs2 Q E hr e0 hb r hsp => ?_⟩
  obtain ⟨a, z, rfl, hz, ea, kq⟩ := hsp
  obtain ⟨u1, u2, rfl, r1, r2⟩ := vals2 r
  obtain rfl : u1 = Value.ref a := r1
  obtain ⟨tk, rfl⟩ := r2
  have KX : K.In s.heap := e0.mod.kin.keeps fun b o e => (e0.bs b o e).1
  have lim : s.heap.NoLimit := e0.mod.nolimit.keeps fun b o e => (e0.bs b o e).1
  obtain ⟨cnm, cq, cN, cbs, cbm, csn, csub, cab, ccol, cdd2, c0, c1, c2, c3, c5, hC, hbm⟩ := TU.cls
  refine PySem.ks_codeAny_call_defAt (body := defBody sUInit) (binds := (["self", "name"] : List Str).zip [Value.ref a, Value.str z tk]) hr.depth (KX _ _ lk) rfl lim (PySem.W.codeRec_of KX hcd) rfl hb (show ∀ x ∈ (defScope sUInit).names, x.2 ≠ .cell by decide +kernel) (by
    intro y hy
    rcases List.mem_cons.mp hy with e | hy
    · subst e; show (defScope sUInit).names.lookup ("self" : Str) = some .local; decide +kernel
    · rw [List.mem_singleton.mp hy]; show (defScope sUInit).names.lookup ("name" : Str) = some .local; decide +kernel) (fun h0 hns hk => ?_) rfl rfl rfl
  have em : (fun x => ((["self", "name"] : List Str).zip [Value.ref a, Value.str z tk]).reverse.lookup x) = bindL (envOfC "UnknownName.__init__" scFake s.heap.objs.size f (.ref cda)).kindOf ((["self", "name"] : List Str).zip [Value.ref a, Value.str z tk]) fun _ => none := by
    funext y
    show ([(("name" : Str), Value.str z tk), ("self", Value.ref a)] : List (Str × Value)).lookup y = if y = "name" then some (Value.str z tk) else if y = "self" then some (Value.ref a) else none
    by_cases h1 : y = ("name" : Str)
    · subst h1; rw [if_pos rfl]; rfl
    · rw [if_neg h1]
      by_cases h2 : y = ("self" : Str)
      · subst h2; rw [if_pos rfl]; rfl
      · rw [if_neg h2]
        simp [List.lookup, h1, h2, beq_eq_false_iff_ne.mpr h1, beq_eq_false_iff_ne.mpr h2]
  have I : Inv (cxOf CX Pg w K mg base ["self", "name"] "UnknownName.__init__" scFake f (.ref cda) A outer s H E) [] (L2.start ["self", "name"] [.ref a, .str z]) H { s with heap := h0, toks := s.toks + 2 } :=
    inv_start scFakeOk hr.hd e0 rfl (.cons rfl (.cons ⟨tk, rfl⟩ .nil)) ⟨⟨⟨h0, s.toks + 2, rfl⟩, by rw [← em]; exact hns, hk, Nat.le_refl _⟩, fun n c e => (by cases e), List.Pairwise.nil, fun n c e => (by cases e)⟩
  refine PySem.ks_wpAt_execs_cons (PySem.ks_wpAt_Expr_any (PySem.ks_wpAt_MethodCall ?_))
  have K0 : K.In h0 := KX.keeps hk
  obtain ⟨t1, ho⟩ := exo_at e0.hok ea
  have ho0 : h0.get? a = some (PySem.HandSPX.excO U t1) := hk a _ ho
  have hcl : PySem.W.clsIn K U = some { name := cnm, bases := cbs, mro := .ref U :: cbm, ns := cN, qualname := cq, hasDict := true, slotNames := csn, subclasses := csub, abstract := cab, collection := ccol, hasDel := false } := by unfold PySem.W.clsIn; rw [hC] <;> rfl
  obtain ⟨mb, hb1, hb2⟩ := e0.mod.blt
  have bk0 : ∀ b o, base.get? b = some o → h0.get? b = some o := fun b o e => hk b o (e0.bs b o e).1
  have m1 : (fun x => ((["self", "name"] : List Str).zip [Value.ref a, Value.str z tk]).reverse.lookup x) "self" = some (Value.ref a) := rfl
  refine PySem.ks_wpAt_super_base (f := f) (fd := fdU dV kV doc pm an cda ct cc) (show (defScope sUInit).names.lookup ("super" : Str) = some .globalImplicit by decide +kernel) (show (defScope sUInit).names.lookup ("__class__" : Str) = some .free by decide +kernel) (by decide) rfl (hk _ _ (KX _ _ lk)) rfl rfl rfl (K0 _ _ hcode) rfl hvs hfile htop ?_
  refine PySem.W.ks_loadName_global rfl (show (defScope sUInit).names.lookup ("super" : Str) = some .globalImplicit by decide +kernel) (Calls.loadGlobal_builtin (e0.mod.glob.keeps bk0) hsuper (hb1.keeps bk0) ((hb2 "super" (by decide)).trans (by decide +kernel)) ⟨rfl, ?_⟩)
  refine wpAny_loadName_free rfl (show (defScope sUInit).names.lookup ("__class__" : Str) = some .free by decide +kernel) rfl ⟨_, K0 _ _ hcell, rfl⟩ ?_
  refine wpAny_loadName_local rfl (show (defScope sUInit).names.lookup ("self" : Str) = some .local by decide +kernel) hns m1 ?_
  refine PySem.ks_wpAny_isType_cls (K0 _ _ hC) rfl ⟨rfl, ?_⟩
  refine PySem.ks_wpAny_call_super (K0 _ _ hC) rfl ho0 rfl (fun c e => by cases e) (PySem.W.looks_mroIn K0 hmU) (fun h1 e1 k1 => ?_)
  have K1 : K.In h1 := K0.keeps k1
  have J1 : PySem.W.InstAt h1 a (PySem.HandSPX.excO U t1) U none := ⟨k1 _ _ ho0, rfl, rfl, trivial⟩
  have hsi' := hsi
  unfold PySem.W.ks_superIn at hsi'
  rw [hcl] at hsi'
  refine PySem.W.kxs_getMethod PySem.W.kxs_ValueError e1 (PySem.W.looks_opaque K1 hop) (l₀ := .ref U :: cbm) (fun A Q E s k q => wpAny_bind ((PySem.W.looks_clsIn K1 hcl) A _ E s k (wpAny_pure q))) rfl K1 hsi' (J1.type.andThen (PySem.W.looks_subIn K1 hsV)) (PySem.W.ks_ne K1 J1 hcl) (by decide) ?_
  have I1 : Inv (cxOf CX Pg w K mg base ["self", "name"] "UnknownName.__init__" scFake f (.ref cda) A outer s H E) [] (L2.start ["self", "name"] [.ref a, .str z]) H ⟨h1.push (PySem.W.kxs_mw "ValueError.__init__" a), s.gens, s.drawn, s.toks + 2 + 1, s.os⟩ :=
    I.kept (t' := s.toks + 2 + 1) fun b o q => Heap.get?_push_of_some _ (k1 b o q)
  have hu1 : (h1.push (PySem.W.kxs_mw "ValueError.__init__" a)).get? h1.objs.size = some (PySem.W.kxs_mw "ValueError.__init__" a) := Heap.get?_push_size _ rfl
  have look : ∀ {x : Str} {v : V} {st : Shared} {σ0 : L2.St} {H0 : Hp} (j : Nat), Inv (cxOf CX Pg w K mg base ["self", "name"] "UnknownName.__init__" scFake f (.ref cda) A outer s H E) [] σ0 H0 st → (["self", "name"] : List Str)[j]? = some x → σ0[j]? = some (some v) → scFake.names.lookup x = some .local → (defScope sUInit).names.lookup x = some .local →
      (x == ("__debug__" : Str)) = false → ∀ (p : Pos) (Q' : Value → Shared → Prop) (E' : Value → Shared → Prop) (A' : Around), (∀ u, RelV v u → Q' u st) → wpAny (model Pg w) A' (eval (.Name x p) (callEnv (fdU dV kV doc pm an cda ct cc) s.heap.objs.size f)) Q' E' st := by
    intro x v st σ0 H0 j J e1 e2 e3 e4 hdb p Q' E' A' hQ
    obtain ⟨m, hn, hm⟩ := J.loc
    obtain ⟨u, ru, lu⟩ := hm j x v e1 e2 (.inl e3)
    have e5 : m x = some u := by
      rcases lu with ⟨_, q⟩ | ⟨q, _⟩
      · exact q
      · have q' : scFake.names.lookup x = some .cell ∨ scFake.names.lookup x = some .free := q
        rw [e3] at q'
        rcases q' with q' | q' <;> cases q'
    exact wpAny_Name (wpAny_loadName_local rfl e4 hn e5 (hQ u ru)) hdb
  refine PySem.W.kxs_callWith (i := "ValueError.__init__") (x := a) (by rfl) (Calls.evalArgs_plain ?_)
  refine PyProof.Rows.args_cons (wpAny_JoinedStr ?_) rfl
  refine Calls.Constant_str ⟨_, _, rfl, (show (Str.empty ++ Str.ofString "unknown name: ").length ≤ sizeLine by decide +kernel), ?_⟩
  have I2 := I1.tok (s.toks + 2 + 1 + 1)
  refine wpAny_FormattedValue_plain (look 1 I2 rfl rfl rfl (by decide +kernel) (by decide) _ _ _ _ fun u ru => ?_)
  obtain ⟨tk2, rfl⟩ := ru
  have hz2 : z.length ≤ sizeLine := by rw [sizeLine_eq]; omega
  have hlen : ((Str.empty ++ Str.ofString "unknown name: ") ++ z).length ≤ sizeLine := by
    rw [PySem.Str.length_append, sizeLine_eq]
    have e : (Str.empty ++ (Str.ofString "unknown name: ")).length ≤ 100 := by decide +kernel
    omega
  have eu : L2.upd H a (exo a U none) = H := by
    funext b
    by_cases hb : b = a
    · rw [hb, upd_same, ea]
    · rw [upd_ne hb]
  have hC1 : (h1.push (PySem.W.kxs_mw "ValueError.__init__" a)).get? U = _ := Heap.get?_push_of_some _ (K1 _ _ hC)
  have he1 : (h1.push (PySem.W.kxs_mw "ValueError.__init__" a)).get? a = some (PySem.HandSPX.excO U t1) := Heap.get?_push_of_some _ (k1 _ _ ho0)
  refine wpAny_formatField_str ?_ ?_ hz2
  all_goals
    refine ⟨z, _, rfl, hlen, hlen, PyProof.Rows.args_nil ⟨hu1, ?_⟩⟩
    refine call_mw PySem.F.excBase_ValueError hu1 hC1 he1 (by show 1 ≤ sizeLine; decide) (fun h5 t5 k5 e5 => ?_)
    have J5 := I1.write (t' := s.toks + 2 + 1 + 1 + 1) (x := a) (e := a) (o := exo a U none) (by rw [ea]; exact True.intro) (.inl rfl) k5 ⟨_, e5⟩ (exo_ok e5)
    rw [eu] at J5
    have J6 := fun tk => J5.tok tk
    refine PySem.ks_wpAt_execs_cons (PySem.ks_wpAt_Assign_Attr (PySem.wpAt_of_wpAny (look 1 (J6 _) rfl rfl rfl (by decide +kernel) (by decide) _ _ _ _ fun u2 r2 => look 0 (J6 _) rfl rfl rfl (by decide +kernel) (by decide) _ _ _ _ fun u3 r3 => ?_)))
    obtain rfl : u3 = Value.ref a := r3
    refine ost_new TU (J6 _) ea hno r2 fun dx s' nd ne J' => ?_
    refine PySem.wpAt_of_wpAny (wpAny_pure ?_)
    exact ⟨.non, _, J'.os, J'.bare, J'.base, J'.hok, rfl, kq dx nd ne⟩
end
end W

set_option Elab.async false
set_option linter.all false
set_option maxRecDepth 100000
set_option maxHeartbeats 4000000
namespace W
open PySem PySem.Spec PyProof.Rows L2 GxR MyG MyS MyR
theorem exm_two {K : PySem.W.Frag} {A S : Addr} {b : Bool} (h1 : PySem.W.subIn K (.ref S) (.type "BaseException") = some true) (h2 : PySem.W.isClsIn K S = true) (h3 : PySem.W.typeIn K (.ref S) = some (.type "type")) (h4 : PySem.W.subIn K (.ref A) (.ref S) = some b) :
    PySem.W.exmOne K (.ref A) (.ref S) = some b := by
  have e1 : (PySem.W.subIn K (.ref S) (.type "BaseException") == some true) = true := by rw [h1]; rfl
  have e2 : ((PySem.W.clsIn K S).isSome && PySem.W.typeIn K (.ref S) == some (.type "type")) = true := by
    have q : (PySem.W.clsIn K S).isSome = true := h2
    rw [q, h3]; rfl
  show (if (PySem.W.subIn K (.ref S) (.type "BaseException") == some true) = true then (if ((PySem.W.clsIn K S).isSome && PySem.W.typeIn K (.ref S) == some (.type "type")) = true then PySem.W.subIn K (.ref A) (.ref S) else none) else none) = some b
  rw [if_pos e1, if_pos e2, h4]
theorem no_fly {P : Program} (w : World) (H : Hp) (s : Shared) (e : Value) (s' : Shared) (h : L2.CX P w [] H s (fun _ _ _ => False) e s') : False := by
  obtain ⟨_, _, _, _, _, _, _, _, _, _, _, _, q⟩ := h
  exact q
theorem all_mk {l : PySem.W.OpenLaw} {w : World} {K : PySem.W.Frag} {h : Heap} {mg : Str → Option Value} {fa fNm fDy fNa fDf fRs fRd fHr fBr fRw fNu fLp fLn fLc fLh fLr fLq fMp fMd fFz fSa fMu fEd fRo fPl fBe fLw fCk fCp fRm fBa fWp fWR fWO fWH fWP fOP fWB fOB C fI M U fXU cdaXU ccXU B P qN   D0 T0 T1 T2 : Addr} (X : K.In h) (G : h.Ns mainGlobals mg) (hfa : mg "law" = some (.ref fa)) (own : ∀ y ∈ ([("is_name" : Str)] : List Str), ∀ f, mg y = some (.ref f) → LamX.OwnTab K f h)
    {odNm anNm : Option Addr} {slNm : Array (Option Value)} {ocNm kVNm dcNm pmNm ctNm : Value}
    {odDy anDy : Option Addr} {slDy : Array (Option Value)} {ocDy kVDy dcDy pmDy cdDy ctDy : Value}
    {odNa anNa : Option Addr} {slNa : Array (Option Value)} {ocNa kVNa dcNa pmNa cdNa ctNa : Value}
    {odDf anDf : Option Addr} {slDf : Array (Option Value)} {ocDf kVDf dcDf pmDf cdDf ctDf : Value}
    {odRs anRs : Option Addr} {slRs : Array (Option Value)} {ocRs kVRs dcRs pmRs cdRs ctRs : Value}
    {odRd anRd : Option Addr} {slRd : Array (Option Value)} {ocRd kVRd dcRd pmRd cdRd ctRd : Value}
    {odHr anHr : Option Addr} {slHr : Array (Option Value)} {ocHr kVHr dcHr pmHr cdHr ctHr : Value}
    {odBr anBr : Option Addr} {slBr : Array (Option Value)} {ocBr kVBr dcBr pmBr cdBr ctBr : Value}
    {odRw anRw : Option Addr} {slRw : Array (Option Value)} {ocRw kVRw dcRw pmRw cdRw ctRw : Value}
    {odNu anNu : Option Addr} {slNu : Array (Option Value)} {ocNu kVNu dcNu pmNu cdNu ctNu : Value}
    {odLp anLp : Option Addr} {slLp : Array (Option Value)} {ocLp kVLp dcLp pmLp cdLp ctLp : Value}
    {odLn anLn : Option Addr} {slLn : Array (Option Value)} {ocLn kVLn dcLn pmLn cdLn ctLn : Value}
    {odLc anLc : Option Addr} {slLc : Array (Option Value)} {ocLc kVLc dcLc pmLc cdLc ctLc : Value}
    {odLh anLh : Option Addr} {slLh : Array (Option Value)} {ocLh kVLh dcLh pmLh cdLh ctLh : Value}
    {odLr anLr : Option Addr} {slLr : Array (Option Value)} {ocLr kVLr dcLr pmLr cdLr ctLr : Value}
    {odLq anLq : Option Addr} {slLq : Array (Option Value)} {ocLq kVLq dcLq pmLq cdLq ctLq : Value}
    {odMp anMp : Option Addr} {slMp : Array (Option Value)} {ocMp kVMp dcMp pmMp cdMp ctMp : Value}
    {odMd anMd : Option Addr} {slMd : Array (Option Value)} {ocMd kVMd dcMd pmMd cdMd ctMd : Value}
    {odFz anFz : Option Addr} {slFz : Array (Option Value)} {ocFz kVFz dcFz pmFz cdFz ctFz : Value}
    {odSa anSa : Option Addr} {slSa : Array (Option Value)} {ocSa kVSa dcSa pmSa cdSa ctSa : Value}
    {odMu anMu : Option Addr} {slMu : Array (Option Value)} {ocMu kVMu dcMu pmMu cdMu ctMu : Value}
    {odEd anEd : Option Addr} {slEd : Array (Option Value)} {ocEd kVEd dcEd pmEd cdEd ctEd : Value}
    {odRo anRo : Option Addr} {slRo : Array (Option Value)} {ocRo kVRo dcRo pmRo cdRo ctRo : Value}
    {odPl anPl : Option Addr} {slPl : Array (Option Value)} {ocPl kVPl dcPl pmPl cdPl ctPl : Value}
    {odBe anBe : Option Addr} {slBe : Array (Option Value)} {ocBe kVBe dcBe pmBe cdBe ctBe : Value}
    {odLw anLw : Option Addr} {slLw : Array (Option Value)} {ocLw kVLw dcLw pmLw cdLw ctLw : Value}
    {odCk anCk : Option Addr} {slCk : Array (Option Value)} {ocCk kVCk dcCk pmCk cdCk ctCk : Value}
    {odCp anCp : Option Addr} {slCp : Array (Option Value)} {ocCp kVCp dcCp pmCp cdCp ctCp : Value}
    {odRm anRm : Option Addr} {slRm : Array (Option Value)} {ocRm kVRm dcRm pmRm cdRm ctRm : Value}
    {odBa anBa : Option Addr} {slBa : Array (Option Value)} {ocBa kVBa dcBa pmBa cdBa ctBa : Value}
    {odWp anWp : Option Addr} {slWp : Array (Option Value)} {ocWp kVWp dcWp pmWp cdWp ctWp : Value}
    {odWR anWR : Option Addr} {slWR : Array (Option Value)} {ocWR kVWR dcWR pmWR cdWR ctWR : Value}
    {odWO anWO : Option Addr} {slWO : Array (Option Value)} {ocWO kVWO dcWO pmWO cdWO ctWO : Value}
    {odWH anWH : Option Addr} {slWH : Array (Option Value)} {ocWH kVWH dcWH pmWH cdWH ctWH : Value}
    {odWP anWP : Option Addr} {slWP : Array (Option Value)} {ocWP kVWP dcWP pmWP cdWP ctWP : Value}
    {odOP anOP : Option Addr} {slOP : Array (Option Value)} {ocOP kVOP dcOP pmOP cdOP ctOP : Value}
    {odWB anWB : Option Addr} {slWB : Array (Option Value)} {ocWB kVWB dcWB pmWB cdWB ctWB : Value}
    {odOB anOB : Option Addr} {slOB : Array (Option Value)} {ocOB kVOB dcOB pmOB cdOB ctOB : Value}
    {eN : Value} {dN : Option Addr} {vsN : Array Value} {slcN : Array (Option Value)}
    {odI anI : Option Addr} {slI : Array (Option Value)} {ocI dcI pmI cdI ctI : Value}
    {nmU qU : Str} {NU : Addr} {bsU bmU : List Value} {snU : List Str} {subU : List Value} {abU : Bool} {colU : Option Bool} {ddU : Option Addr} {x0U x1U x2U x3U x5U : Option Value}
    {odXU anXU cddXU cldXU : Option Addr} {slXU ccsXU cslXU : Array (Option Value)} {ocXU kVXU dcXU pmXU ctXU cclXU clXU : Value} {vsXU : Array Value} {fileXU : Str} {tfXU : Tok}
    
    {t_LONGEST_NAME t_LONGEST_DAY t_MOST_PLACES t_MOST_KINDS t_MOST_ROADS t_MOST_MINUTES t_MOST_PAIRS t_MOST_BARS t_NAME t_START t_END t_HOURS t_PARTS t_LETTERS t_DIGITS : Tok}
    (aM : PySem.W.nsIn K mainGlobals "Map" = some (some (.ref M)))
    (gU : PySem.W.nsIn K mainGlobals "UnknownName" = some (some (.ref U)))
    (gB : PySem.W.nsIn K mainGlobals "WaypapersError" = some (some (.ref B)))
    (aNm : PySem.W.nsIn K mainGlobals "is_name" = some (some (.ref fNm)))
    (lNm : K.lookup fNm = some ⟨ocNm, odNm, .func (PySem.W.fnOf "is_name" "is_name" (defArgs sIsName) (defBody sIsName) (defScope sIsName) .none kVNm dcNm pmNm anNm (.ref qN) ctNm), slNm⟩)
    (cNm : PySem.W.codeIn K (.ref qN) "is_name" = true)
    (kNm : PySem.W.keepIn K (.ref fNm) = true)
    (aDy : PySem.W.nsIn K mainGlobals "_checked_day" = some (some (.ref fDy)))
    (lDy : K.lookup fDy = some ⟨ocDy, odDy, .func (PySem.W.fnOf "_checked_day" "_checked_day" (defArgs sDay) (defBody sDay) (defScope sDay) .none kVDy dcDy pmDy anDy (cdDy) ctDy), slDy⟩)
    (cDy : PySem.W.codeIn K (cdDy) "_checked_day" = true)
    (kDy : PySem.W.keepIn K (.ref fDy) = true)
    (aNa : PySem.W.nsIn K mainGlobals "_checked_names" = some (some (.ref fNa)))
    (lNa : K.lookup fNa = some ⟨ocNa, odNa, .func (PySem.W.fnOf "_checked_names" "_checked_names" (defArgs sNames) (defBody sNames) (defScope sNames) .none kVNa dcNa pmNa anNa (cdNa) ctNa), slNa⟩)
    (cNa : PySem.W.codeIn K (cdNa) "_checked_names" = true)
    (kNa : PySem.W.keepIn K (.ref fNa) = true)
    (aDf : PySem.W.nsIn K mainGlobals "_check_different" = some (some (.ref fDf)))
    (lDf : K.lookup fDf = some ⟨ocDf, odDf, .func (PySem.W.fnOf "_check_different" "_check_different" (defArgs sDiff) (defBody sDiff) (defScope sDiff) .none kVDf dcDf pmDf anDf (cdDf) ctDf), slDf⟩)
    (cDf : PySem.W.codeIn K (cdDf) "_check_different" = true)
    (kDf : PySem.W.keepIn K (.ref fDf) = true)
    (aRs : PySem.W.nsIn K mainGlobals "_checked_roads" = some (some (.ref fRs)))
    (lRs : K.lookup fRs = some ⟨ocRs, odRs, .func (PySem.W.fnOf "_checked_roads" "_checked_roads" (defArgs sRoads) (defBody sRoads) (defScope sRoads) .none kVRs dcRs pmRs anRs (cdRs) ctRs), slRs⟩)
    (cRs : PySem.W.codeIn K (cdRs) "_checked_roads" = true)
    (kRs : PySem.W.keepIn K (.ref fRs) = true)
    (aRd : PySem.W.nsIn K mainGlobals "_checked_road" = some (some (.ref fRd)))
    (lRd : K.lookup fRd = some ⟨ocRd, odRd, .func (PySem.W.fnOf "_checked_road" "_checked_road" (defArgs sRoad) (defBody sRoad) (defScope sRoad) .none kVRd dcRd pmRd anRd (cdRd) ctRd), slRd⟩)
    (cRd : PySem.W.codeIn K (cdRd) "_checked_road" = true)
    (kRd : PySem.W.keepIn K (.ref fRd) = true)
    (aHr : PySem.W.nsIn K mainGlobals "_checked_hours" = some (some (.ref fHr)))
    (lHr : K.lookup fHr = some ⟨ocHr, odHr, .func (PySem.W.fnOf "_checked_hours" "_checked_hours" (defArgs sHours) (defBody sHours) (defScope sHours) .none kVHr dcHr pmHr anHr (cdHr) ctHr), slHr⟩)
    (cHr : PySem.W.codeIn K (cdHr) "_checked_hours" = true)
    (kHr : PySem.W.keepIn K (.ref fHr) = true)
    (aBr : PySem.W.nsIn K mainGlobals "_checked_bars" = some (some (.ref fBr)))
    (lBr : K.lookup fBr = some ⟨ocBr, odBr, .func (PySem.W.fnOf "_checked_bars" "_checked_bars" (defArgs sBars) (defBody sBars) (defScope sBars) .none kVBr dcBr pmBr anBr (cdBr) ctBr), slBr⟩)
    (cBr : PySem.W.codeIn K (cdBr) "_checked_bars" = true)
    (kBr : PySem.W.keepIn K (.ref fBr) = true)
    (aRw : PySem.W.nsIn K mainGlobals "_law_row" = some (some (.ref fRw)))
    (lRw : K.lookup fRw = some ⟨ocRw, odRw, .func (PySem.W.fnOf "_law_row" "_law_row" (defArgs sRow) (defBody sRow) (defScope sRow) .none kVRw dcRw pmRw anRw (cdRw) ctRw), slRw⟩)
    (cRw : PySem.W.codeIn K (cdRw) "_law_row" = true)
    (kRw : PySem.W.keepIn K (.ref fRw) = true)
    (aNu : PySem.W.nsIn K mainGlobals "_law_numbers" = some (some (.ref fNu)))
    (lNu : K.lookup fNu = some ⟨ocNu, odNu, .func (PySem.W.fnOf "_law_numbers" "_law_numbers" (defArgs sNumbers) (defBody sNumbers) (defScope sNumbers) .none kVNu dcNu pmNu anNu (cdNu) ctNu), slNu⟩)
    (cNu : PySem.W.codeIn K (cdNu) "_law_numbers" = true)
    (kNu : PySem.W.keepIn K (.ref fNu) = true)
    (aLp : PySem.W.nsIn K mainGlobals "_law_pick" = some (some (.ref fLp)))
    (lLp : K.lookup fLp = some ⟨ocLp, odLp, .func (PySem.W.fnOf "_law_pick" "_law_pick" (defArgs sLPick) (defBody sLPick) (defScope sLPick) .none kVLp dcLp pmLp anLp (cdLp) ctLp), slLp⟩)
    (cLp : PySem.W.codeIn K (cdLp) "_law_pick" = true)
    (kLp : PySem.W.keepIn K (.ref fLp) = true)
    (aLn : PySem.W.nsIn K mainGlobals "_law_names" = some (some (.ref fLn)))
    (lLn : K.lookup fLn = some ⟨ocLn, odLn, .func (PySem.W.fnOf "_law_names" "_law_names" (defArgs sLNames) (defBody sLNames) (defScope sLNames) .none kVLn dcLn pmLn anLn (cdLn) ctLn), slLn⟩)
    (cLn : PySem.W.codeIn K (cdLn) "_law_names" = true)
    (kLn : PySem.W.keepIn K (.ref fLn) = true)
    (aLc : PySem.W.nsIn K mainGlobals "_law_count" = some (some (.ref fLc)))
    (lLc : K.lookup fLc = some ⟨ocLc, odLc, .func (PySem.W.fnOf "_law_count" "_law_count" (defArgs sLCount) (defBody sLCount) (defScope sLCount) .none kVLc dcLc pmLc anLc (cdLc) ctLc), slLc⟩)
    (cLc : PySem.W.codeIn K (cdLc) "_law_count" = true)
    (kLc : PySem.W.keepIn K (.ref fLc) = true)
    (aLh : PySem.W.nsIn K mainGlobals "_law_hours" = some (some (.ref fLh)))
    (lLh : K.lookup fLh = some ⟨ocLh, odLh, .func (PySem.W.fnOf "_law_hours" "_law_hours" (defArgs sLHours) (defBody sLHours) (defScope sLHours) .none kVLh dcLh pmLh anLh (cdLh) ctLh), slLh⟩)
    (cLh : PySem.W.codeIn K (cdLh) "_law_hours" = true)
    (kLh : PySem.W.keepIn K (.ref fLh) = true)
    (aLr : PySem.W.nsIn K mainGlobals "_law_road" = some (some (.ref fLr)))
    (lLr : K.lookup fLr = some ⟨ocLr, odLr, .func (PySem.W.fnOf "_law_road" "_law_road" (defArgs sLRoad) (defBody sLRoad) (defScope sLRoad) .none kVLr dcLr pmLr anLr (cdLr) ctLr), slLr⟩)
    (cLr : PySem.W.codeIn K (cdLr) "_law_road" = true)
    (kLr : PySem.W.keepIn K (.ref fLr) = true)
    (aLq : PySem.W.nsIn K mainGlobals "_law_bars" = some (some (.ref fLq)))
    (lLq : K.lookup fLq = some ⟨ocLq, odLq, .func (PySem.W.fnOf "_law_bars" "_law_bars" (defArgs sLBars) (defBody sLBars) (defScope sLBars) .none kVLq dcLq pmLq anLq (cdLq) ctLq), slLq⟩)
    (cLq : PySem.W.codeIn K (cdLq) "_law_bars" = true)
    (kLq : PySem.W.keepIn K (.ref fLq) = true)
    (aMp : PySem.W.nsIn K mainGlobals "_law_parts" = some (some (.ref fMp)))
    (lMp : K.lookup fMp = some ⟨ocMp, odMp, .func (PySem.W.fnOf "_law_parts" "_law_parts" (defArgs sLParts) (defBody sLParts) (defScope sLParts) .none kVMp dcMp pmMp anMp (cdMp) ctMp), slMp⟩)
    (cMp : PySem.W.codeIn K (cdMp) "_law_parts" = true)
    (kMp : PySem.W.keepIn K (.ref fMp) = true)
    (aMd : PySem.W.nsIn K mainGlobals "_law_made" = some (some (.ref fMd)))
    (lMd : K.lookup fMd = some ⟨ocMd, odMd, .func (PySem.W.fnOf "_law_made" "_law_made" (defArgs sLMade) (defBody sLMade) (defScope sLMade) .none kVMd dcMd pmMd anMd (cdMd) ctMd), slMd⟩)
    (cMd : PySem.W.codeIn K (cdMd) "_law_made" = true)
    (kMd : PySem.W.keepIn K (.ref fMd) = true)
    (aFz : PySem.W.nsIn K mainGlobals "_law_frozen" = some (some (.ref fFz)))
    (lFz : K.lookup fFz = some ⟨ocFz, odFz, .func (PySem.W.fnOf "_law_frozen" "_law_frozen" (defArgs sLFrozen) (defBody sLFrozen) (defScope sLFrozen) .none kVFz dcFz pmFz anFz (cdFz) ctFz), slFz⟩)
    (cFz : PySem.W.codeIn K (cdFz) "_law_frozen" = true)
    (kFz : PySem.W.keepIn K (.ref fFz) = true)
    (aSa : PySem.W.nsIn K mainGlobals "_law_same" = some (some (.ref fSa)))
    (lSa : K.lookup fSa = some ⟨ocSa, odSa, .func (PySem.W.fnOf "_law_same" "_law_same" (defArgs sLSame) (defBody sLSame) (defScope sLSame) .none kVSa dcSa pmSa anSa (cdSa) ctSa), slSa⟩)
    (cSa : PySem.W.codeIn K (cdSa) "_law_same" = true)
    (kSa : PySem.W.keepIn K (.ref fSa) = true)
    (aMu : PySem.W.nsIn K mainGlobals "_law_made_due" = some (some (.ref fMu)))
    (lMu : K.lookup fMu = some ⟨ocMu, odMu, .func (PySem.W.fnOf "_law_made_due" "_law_made_due" (defArgs sMadeDue) (defBody sMadeDue) (defScope sMadeDue) .none kVMu dcMu pmMu anMu (cdMu) ctMu), slMu⟩)
    (cMu : PySem.W.codeIn K (cdMu) "_law_made_due" = true)
    (kMu : PySem.W.keepIn K (.ref fMu) = true)
    (aEd : PySem.W.nsIn K mainGlobals "_law_edited" = some (some (.ref fEd)))
    (lEd : K.lookup fEd = some ⟨ocEd, odEd, .func (PySem.W.fnOf "_law_edited" "_law_edited" (defArgs sEdited) (defBody sEdited) (defScope sEdited) .none kVEd dcEd pmEd anEd (cdEd) ctEd), slEd⟩)
    (cEd : PySem.W.codeIn K (cdEd) "_law_edited" = true)
    (kEd : PySem.W.keepIn K (.ref fEd) = true)
    (aRo : PySem.W.nsIn K mainGlobals "_law_roads" = some (some (.ref fRo)))
    (lRo : K.lookup fRo = some ⟨ocRo, odRo, .func (PySem.W.fnOf "_law_roads" "_law_roads" (defArgs sRoE) (defBody sRoE) (defScope sRoE) .none kVRo dcRo pmRo anRo (cdRo) ctRo), slRo⟩)
    (cRo : PySem.W.codeIn K (cdRo) "_law_roads" = true)
    (kRo : PySem.W.keepIn K (.ref fRo) = true)
    (aPl : PySem.W.nsIn K mainGlobals "_law_places" = some (some (.ref fPl)))
    (lPl : K.lookup fPl = some ⟨ocPl, odPl, .func (PySem.W.fnOf "_law_places" "_law_places" (defArgs sPlE) (defBody sPlE) (defScope sPlE) .none kVPl dcPl pmPl anPl (cdPl) ctPl), slPl⟩)
    (cPl : PySem.W.codeIn K (cdPl) "_law_places" = true)
    (kPl : PySem.W.keepIn K (.ref fPl) = true)
    (aBe : PySem.W.nsIn K mainGlobals "_law_bars_edited" = some (some (.ref fBe)))
    (lBe : K.lookup fBe = some ⟨ocBe, odBe, .func (PySem.W.fnOf "_law_bars_edited" "_law_bars_edited" (defArgs sBeE) (defBody sBeE) (defScope sBeE) .none kVBe dcBe pmBe anBe (cdBe) ctBe), slBe⟩)
    (cBe : PySem.W.codeIn K (cdBe) "_law_bars_edited" = true)
    (kBe : PySem.W.keepIn K (.ref fBe) = true)
    (aLw : PySem.W.nsIn K mainGlobals "law" = some (some (.ref fLw)))
    (lLw : K.lookup fLw = some ⟨ocLw, odLw, .func (PySem.W.fnOf "law" "law" (defArgs sLaw) (defBody sLaw) (defScope sLaw) .none kVLw dcLw pmLw anLw (cdLw) ctLw), slLw⟩)
    (cLw : PySem.W.codeIn K (cdLw) "law" = true)
    (kLw : PySem.W.keepIn K (.ref fLw) = true)
    (aCk : PySem.W.findIn K (.ref M) "check_road" = some (some (.ref fCk)))
    (iCk : PySem.W.isFn K (.ref fCk) = true)
    (lCk : K.lookup fCk = some ⟨ocCk, odCk, .func (PySem.W.fnOf "check_road" "Map.check_road" (defArgs sCheck) (defBody sCheck) (defScope sCheck) .none kVCk dcCk pmCk anCk (cdCk) ctCk), slCk⟩)
    (cCk : PySem.W.codeIn K (cdCk) "Map.check_road" = true)
    (kCk : PySem.W.keepIn K (.ref fCk) = true)
    (aCp : PySem.W.findIn K (.ref M) "check_place" = some (some (.ref fCp)))
    (iCp : PySem.W.isFn K (.ref fCp) = true)
    (lCp : K.lookup fCp = some ⟨ocCp, odCp, .func (PySem.W.fnOf "check_place" "Map.check_place" (defArgs sCheckP) (defBody sCheckP) (defScope sCheckP) .none kVCp dcCp pmCp anCp (cdCp) ctCp), slCp⟩)
    (cCp : PySem.W.codeIn K (cdCp) "Map.check_place" = true)
    (kCp : PySem.W.keepIn K (.ref fCp) = true)
    (aRm : PySem.W.findIn K (.ref M) "road" = some (some (.ref fRm)))
    (iRm : PySem.W.isFn K (.ref fRm) = true)
    (lRm : K.lookup fRm = some ⟨ocRm, odRm, .func (PySem.W.fnOf "road" "Map.road" (defArgs sRoadM) (defBody sRoadM) (defScope sRoadM) .none kVRm dcRm pmRm anRm (cdRm) ctRm), slRm⟩)
    (cRm : PySem.W.codeIn K (cdRm) "Map.road" = true)
    (kRm : PySem.W.keepIn K (.ref fRm) = true)
    (aBa : PySem.W.findIn K (.ref M) "is_barred" = some (some (.ref fBa)))
    (iBa : PySem.W.isFn K (.ref fBa) = true)
    (lBa : K.lookup fBa = some ⟨ocBa, odBa, .func (PySem.W.fnOf "is_barred" "Map.is_barred" (defArgs sBarred) (defBody sBarred) (defScope sBarred) .none kVBa dcBa pmBa anBa (cdBa) ctBa), slBa⟩)
    (cBa : PySem.W.codeIn K (cdBa) "Map.is_barred" = true)
    (kBa : PySem.W.keepIn K (.ref fBa) = true)
    (aWp : PySem.W.findIn K (.ref M) "_with_parts" = some (some (.ref fWp)))
    (iWp : PySem.W.isFn K (.ref fWp) = true)
    (lWp : K.lookup fWp = some ⟨ocWp, odWp, .func (PySem.W.fnOf "_with_parts" "Map._with_parts" (defArgs sWithP) (defBody sWithP) (defScope sWithP) .none kVWp dcWp pmWp anWp (cdWp) ctWp), slWp⟩)
    (cWp : PySem.W.codeIn K (cdWp) "Map._with_parts" = true)
    (kWp : PySem.W.keepIn K (.ref fWp) = true)
    (aWR : PySem.W.findIn K (.ref M) "with_road" = some (some (.ref fWR)))
    (iWR : PySem.W.isFn K (.ref fWR) = true)
    (lWR : K.lookup fWR = some ⟨ocWR, odWR, .func (PySem.W.fnOf "with_road" "Map.with_road" (defArgs sWithR) (defBody sWithR) (defScope sWithR) .none kVWR dcWR pmWR anWR (cdWR) ctWR), slWR⟩)
    (cWR : PySem.W.codeIn K (cdWR) "Map.with_road" = true)
    (kWR : PySem.W.keepIn K (.ref fWR) = true)
    (aWO : PySem.W.findIn K (.ref M) "without_road" = some (some (.ref fWO)))
    (iWO : PySem.W.isFn K (.ref fWO) = true)
    (lWO : K.lookup fWO = some ⟨ocWO, odWO, .func (PySem.W.fnOf "without_road" "Map.without_road" (defArgs sWithoutR) (defBody sWithoutR) (defScope sWithoutR) .none kVWO dcWO pmWO anWO (cdWO) ctWO), slWO⟩)
    (cWO : PySem.W.codeIn K (cdWO) "Map.without_road" = true)
    (kWO : PySem.W.keepIn K (.ref fWO) = true)
    (aWH : PySem.W.findIn K (.ref M) "with_hours" = some (some (.ref fWH)))
    (iWH : PySem.W.isFn K (.ref fWH) = true)
    (lWH : K.lookup fWH = some ⟨ocWH, odWH, .func (PySem.W.fnOf "with_hours" "Map.with_hours" (defArgs sWithH) (defBody sWithH) (defScope sWithH) .none kVWH dcWH pmWH anWH (cdWH) ctWH), slWH⟩)
    (cWH : PySem.W.codeIn K (cdWH) "Map.with_hours" = true)
    (kWH : PySem.W.keepIn K (.ref fWH) = true)
    (aWP : PySem.W.findIn K (.ref M) "with_place" = some (some (.ref fWP)))
    (iWP : PySem.W.isFn K (.ref fWP) = true)
    (lWP : K.lookup fWP = some ⟨ocWP, odWP, .func (PySem.W.fnOf "with_place" "Map.with_place" (defArgs sWithPl) (defBody sWithPl) (defScope sWithPl) .none kVWP dcWP pmWP anWP (cdWP) ctWP), slWP⟩)
    (cWP : PySem.W.codeIn K (cdWP) "Map.with_place" = true)
    (kWP : PySem.W.keepIn K (.ref fWP) = true)
    (aOP : PySem.W.findIn K (.ref M) "without_place" = some (some (.ref fOP)))
    (iOP : PySem.W.isFn K (.ref fOP) = true)
    (lOP : K.lookup fOP = some ⟨ocOP, odOP, .func (PySem.W.fnOf "without_place" "Map.without_place" (defArgs sWoutPl) (defBody sWoutPl) (defScope sWoutPl) .none kVOP dcOP pmOP anOP (cdOP) ctOP), slOP⟩)
    (cOP : PySem.W.codeIn K (cdOP) "Map.without_place" = true)
    (kOP : PySem.W.keepIn K (.ref fOP) = true)
    (aWB : PySem.W.findIn K (.ref M) "with_bar" = some (some (.ref fWB)))
    (iWB : PySem.W.isFn K (.ref fWB) = true)
    (lWB : K.lookup fWB = some ⟨ocWB, odWB, .func (PySem.W.fnOf "with_bar" "Map.with_bar" (defArgs sWithB) (defBody sWithB) (defScope sWithB) .none kVWB dcWB pmWB anWB (cdWB) ctWB), slWB⟩)
    (cWB : PySem.W.codeIn K (cdWB) "Map.with_bar" = true)
    (kWB : PySem.W.keepIn K (.ref fWB) = true)
    (aOB : PySem.W.findIn K (.ref M) "without_bar" = some (some (.ref fOB)))
    (iOB : PySem.W.isFn K (.ref fOB) = true)
    (lOB : K.lookup fOB = some ⟨ocOB, odOB, .func (PySem.W.fnOf "without_bar" "Map.without_bar" (defArgs sWoutB) (defBody sWoutB) (defScope sWoutB) .none kVOB dcOB pmOB anOB (cdOB) ctOB), slOB⟩)
    (cOB : PySem.W.codeIn K (cdOB) "Map.without_bar" = true)
    (kOB : PySem.W.keepIn K (.ref fOB) = true)
    (lcN : K.lookup qN = some ⟨eN, dN, .fields vsN, slcN⟩)
    (v11 : vsN[11]? = some (.ref P))
    (hcN : PySem.W.codeHdIn K qN P = true)
    (nP : K.lookup P = none)
    (aI : PySem.W.findIn K (.ref M) "__init__" = some (some (.ref fI)))
    (iI : PySem.W.isFn K (.ref fI) = true)
    (lI : K.lookup fI = some ⟨ocI, odI, .func (PySem.W.fnOf "__init__" "Map.__init__" (defArgs sInit) (defBody sInit) (defScope sInit) .none (.ref D0) dcI pmI anI cdI ctI), slI⟩)
    (cI : PySem.W.codeIn K cdI "Map.__init__" = true)
    (kI : PySem.W.keepIn K (.ref fI) = true)
    (d_places : PySem.W.nsIn K D0 "places" = some (some (.ref T1)))
    (d_roads : PySem.W.nsIn K D0 "roads" = some (some (.ref T2)))
    (d_bars : PySem.W.nsIn K D0 "bars" = some (some (.ref T0)))
    (pg : PySem.W.plainGet K M Str.empty = true)
    (hd : PySem.W.hasDictIn K M = true)
    (po : PySem.W.plainOver K M = true)
    (sa : PySem.W.findIn K (.ref M) "__setattr__" = some (some (.builtin "object.__setattr__")))
    (mk : PySem.W.makesIn K M = true)
    (kM : PySem.W.keepIn K (.ref M) = true)
    (n_day : PySem.W.findIn K (.ref M) "day" = some none)
    (n_kinds : PySem.W.findIn K (.ref M) "kinds" = some none)
    (n_places : PySem.W.findIn K (.ref M) "places" = some none)
    (n_roads : PySem.W.findIn K (.ref M) "roads" = some none)
    (n__roads_by_name : PySem.W.findIn K (.ref M) "_roads_by_name" = some none)
    (n_bars : PySem.W.findIn K (.ref M) "bars" = some none)
    (n__barred : PySem.W.findIn K (.ref M) "_barred" = some none)
    (snU1 : PySem.W.specialIn K (.builtin "object.__class__") "__get__" = some (some (.builtin "getset_descriptor.__get__")))
    (tkU : PySem.W.takesIn K (.builtin "object.__class__") = some true)
    (opU : PySem.W.nsIn K cStatics "thirdparty.any" = some none)
    (toX : (l.prog.main.scope.names.lookup ("super" : Str)).isSome = false)
    (lU : K.lookup U = some (excClassObj nmU qU U NU bsU bmU true snU subU abU colU ddU x0U x1U x2U x3U x5U "ValueError.__new__"))
    (rvU : PySem.HandSPX.refsVE bmU = true)
    (saU : PySem.W.findIn K (.ref U) "__setattr__" = some (some (.builtin "object.__setattr__")))
    (bU : PySem.W.subIn K (.ref U) (.type "BaseException") = some true)
    (tU : PySem.W.typeIn K (.ref U) = some (.type "type"))
    (kU : PySem.W.keepIn K (.ref U) = true)
    (iU : PySem.W.isClsIn K U = true)
    (sU : PySem.W.subIn K (.ref U) (.ref U) = some true)
    (xU : xfB K U = true)
    (clU : (PySem.W.clsIn K U).isSome = true)
    (gaU : PySem.W.findIn K (.ref U) "__getattribute__" = some (some (.builtin "BaseException.__getattribute__")))
    (ggU : PySem.W.findIn K (.ref U) "__getattr__" = some none)
    (ccU : PySem.W.findIn K (.ref U) "__class__" = some (some (.builtin "object.__class__")))
    (moU : PySem.W.mroIn K U (.type "object") = some true)
    (muU : PySem.W.mroIn K U (.ref U) = some true)
    (suU : PySem.W.ks_superIn K U U "__init__" = some (some (.builtin "ValueError.__init__")))
    (svU : PySem.W.subIn K (.ref U) (.type "ValueError") = some true)
    (nnU : PySem.W.findIn K (.ref U) "name" = some none)
    (aXU : PySem.W.findIn K (.ref U) "__init__" = some (some (.ref fXU)))
    (tXU : PySem.W.typeIn K (.ref fXU) = some (.type "function"))
    (lXU : K.lookup fXU = some ⟨ocXU, odXU, .func (fdU .none kVXU dcXU pmXU anXU cdaXU ctXU ccXU), slXU⟩)
    (cXU : PySem.W.codeIn K (.ref cdaXU) "UnknownName.__init__" = true)
    (coXU : K.lookup cdaXU = some ⟨cclXU, cddXU, .fields vsXU, ccsXU⟩)
    (v2XU : vsXU[2]? = some (.str fileXU tfXU))
    (fiXU : ((l.prog.main.file : Str) == fileXU) = true)
    (ceXU : K.lookup ccXU = some ⟨clXU, cldXU, .cell (some (.ref U)), cslXU⟩)
    (gC : PySem.W.nsIn K mainGlobals "InvalidMap" = some (some (.ref C)))
    (xC : PySem.W.excIn K C [.type "ValueError", .type "Exception", .type "BaseException", .type "object"] "ValueError.__new__" = true)
    (kC : PySem.W.keepIn K (.ref C) = true)
    (bC : PySem.W.subIn K (.ref C) (.type "BaseException") = some true)
    (tC : PySem.W.typeIn K (.ref C) = some (.type "type"))
    (clC : (PySem.W.clsIn K C).isSome = true)
    (gaC : PySem.W.findIn K (.ref C) "__getattribute__" = some (some (.builtin "BaseException.__getattribute__")))
    (ggC : PySem.W.findIn K (.ref C) "__getattr__" = some none)
    (ccC : PySem.W.findIn K (.ref C) "__class__" = some (some (.builtin "object.__class__")))
    (moC : PySem.W.mroIn K C (.type "object") = some true)
    (iC : PySem.W.isClsIn K C = true)
    (sC : PySem.W.subIn K (.ref C) (.ref C) = some true)
    (kiV : PySem.W.kitOne K (.ref C) (.type "ValueError") = some true)
    (sCU : PySem.W.subIn K (.ref C) (.ref U) = some false)
    (g_LONGEST_NAME : PySem.W.nsIn K mainGlobals "LONGEST_NAME" = some (some (.int 12 t_LONGEST_NAME)))
    (g_LONGEST_DAY : PySem.W.nsIn K mainGlobals "LONGEST_DAY" = some (some (.int 1440 t_LONGEST_DAY)))
    (g_MOST_PLACES : PySem.W.nsIn K mainGlobals "MOST_PLACES" = some (some (.int 30 t_MOST_PLACES)))
    (g_MOST_KINDS : PySem.W.nsIn K mainGlobals "MOST_KINDS" = some (some (.int 4 t_MOST_KINDS)))
    (g_MOST_ROADS : PySem.W.nsIn K mainGlobals "MOST_ROADS" = some (some (.int 60 t_MOST_ROADS)))
    (g_MOST_MINUTES : PySem.W.nsIn K mainGlobals "MOST_MINUTES" = some (some (.int 1000 t_MOST_MINUTES)))
    (g_MOST_PAIRS : PySem.W.nsIn K mainGlobals "MOST_PAIRS" = some (some (.int 4 t_MOST_PAIRS)))
    (g_MOST_BARS : PySem.W.nsIn K mainGlobals "MOST_BARS" = some (some (.int 40 t_MOST_BARS)))
    (g_NAME : PySem.W.nsIn K mainGlobals "NAME" = some (some (.int 0 t_NAME)))
    (g_START : PySem.W.nsIn K mainGlobals "START" = some (some (.int 1 t_START)))
    (g_END : PySem.W.nsIn K mainGlobals "END" = some (some (.int 2 t_END)))
    (g_HOURS : PySem.W.nsIn K mainGlobals "HOURS" = some (some (.int 5 t_HOURS)))
    (g_PARTS : PySem.W.nsIn K mainGlobals "PARTS" = some (some (.int 6 t_PARTS)))
    (g_LETTERS : PySem.W.nsIn K mainGlobals "LETTERS" = some (some (.str zLet t_LETTERS)))
    (g_DIGITS : PySem.W.nsIn K mainGlobals "DIGITS" = some (some (.str zDig t_DIGITS)))
    (z_isinstance : PySem.W.nsIn K mainGlobals "isinstance" = some none)
    (z_bool : PySem.W.nsIn K mainGlobals "bool" = some none)
    (z_ValueError : PySem.W.nsIn K mainGlobals "ValueError" = some none)
    (z_len : PySem.W.nsIn K mainGlobals "len" = some none)
    (z_all : PySem.W.nsIn K mainGlobals "all" = some none)
    (z_set : PySem.W.nsIn K mainGlobals "set" = some none)
    (z_tuple : PySem.W.nsIn K mainGlobals "tuple" = some none)
    (z_list : PySem.W.nsIn K mainGlobals "list" = some none)
    (z_sorted : PySem.W.nsIn K mainGlobals "sorted" = some none)
    (z_abs : PySem.W.nsIn K mainGlobals "abs" = some none)
    (z_int : PySem.W.nsIn K mainGlobals "int" = some none)
    (z_range : PySem.W.nsIn K mainGlobals "range" = some none)
    (z_max : PySem.W.nsIn K mainGlobals "max" = some none)
    (z_min : PySem.W.nsIn K mainGlobals "min" = some none)
    (z_super : PySem.W.nsIn K mainGlobals "super" = some none)
    (z_str : PySem.W.nsIn K mainGlobals "str" = some none) :
    LawL l w K (L2.CX l.prog w) 63 mg fa h := by
  have e := hfa.symm.trans (PySem.W.mg_of X G aLw)
  cases e
  have FNm := fun_mk (st := sIsName) lNm cNm kNm
  have bNm := FNm.binds (ps := ["text"]) fun _ _ _ _ _ _ us hl => match us, hl with | [_], _ => rfl
  have mNm := PySem.W.mg_of X G aNm
  have FDy := fun_mk (st := sDay) lDy cDy kDy
  have bDy := FDy.binds (ps := ["day"]) fun _ _ _ _ _ _ us hl => match us, hl with | [_], _ => rfl
  have mDy := PySem.W.mg_of X G aDy
  have FNa := fun_mk (st := sNames) lNa cNa kNa
  have bNa := FNa.binds (ps := ["names", "least", "most"]) fun _ _ _ _ _ _ us hl => match us, hl with | [_, _, _], _ => rfl
  have mNa := PySem.W.mg_of X G aNa
  have FDf := fun_mk (st := sDiff) lDf cDf kDf
  have bDf := FDf.binds (ps := ["parts"]) fun _ _ _ _ _ _ us hl => match us, hl with | [_], _ => rfl
  have mDf := PySem.W.mg_of X G aDf
  have FRs := fun_mk (st := sRoads) lRs cRs kRs
  have bRs := FRs.binds (ps := ["roads", "day", "places", "kinds"]) fun _ _ _ _ _ _ us hl => match us, hl with | [_, _, _, _], _ => rfl
  have mRs := PySem.W.mg_of X G aRs
  have FRd := fun_mk (st := sRoad) lRd cRd kRd
  have bRd := FRd.binds (ps := ["road", "day", "places", "kinds"]) fun _ _ _ _ _ _ us hl => match us, hl with | [_, _, _, _], _ => rfl
  have mRd := PySem.W.mg_of X G aRd
  have FHr := fun_mk (st := sHours) lHr cHr kHr
  have bHr := FHr.binds (ps := ["hours", "day"]) fun _ _ _ _ _ _ us hl => match us, hl with | [_, _], _ => rfl
  have mHr := PySem.W.mg_of X G aHr
  have FBr := fun_mk (st := sBars) lBr cBr kBr
  have bBr := FBr.binds (ps := ["bars", "roads_by_name"]) fun _ _ _ _ _ _ us hl => match us, hl with | [_, _], _ => rfl
  have mBr := PySem.W.mg_of X G aBr
  have FRw := fun_mk (st := sRow) lRw cRw kRw
  have bRw := FRw.binds (ps := ["cell", "many"]) fun _ _ _ _ _ _ us hl => match us, hl with | [_, _], _ => rfl
  have mRw := PySem.W.mg_of X G aRw
  have FNu := fun_mk (st := sNumbers) lNu cNu kNu
  have bNu := FNu.binds (ps := ["script", "many"]) fun _ _ _ _ _ _ us hl => match us, hl with | [_, _], _ => rfl
  have mNu := PySem.W.mg_of X G aNu
  have FLp := fun_mk (st := sLPick) lLp cLp kLp
  have bLp := FLp.binds (ps := ["numbers", "k"]) fun _ _ _ _ _ _ us hl => match us, hl with | [_, _], _ => rfl
  have mLp := PySem.W.mg_of X G aLp
  have FLn := fun_mk (st := sLNames) lLn cLn kLn
  have bLn := FLn.binds (ps := ["numbers", "at", "many"]) fun _ _ _ _ _ _ us hl => match us, hl with | [_, _, _], _ => rfl
  have mLn := PySem.W.mg_of X G aLn
  have FLc := fun_mk (st := sLCount) lLc cLc kLc
  have bLc := FLc.binds (ps := ["number", "least", "most"]) fun _ _ _ _ _ _ us hl => match us, hl with | [_, _, _], _ => rfl
  have mLc := PySem.W.mg_of X G aLc
  have FLh := fun_mk (st := sLHours) lLh cLh kLh
  have bLh := FLh.binds (ps := ["numbers", "k", "day"]) fun _ _ _ _ _ _ us hl => match us, hl with | [_, _, _], _ => rfl
  have mLh := PySem.W.mg_of X G aLh
  have FLr := fun_mk (st := sLRoad) lLr cLr kLr
  have bLr := FLr.binds (ps := ["numbers", "k", "name", "places", "kinds", "day"]) fun _ _ _ _ _ _ us hl => match us, hl with | [_, _, _, _, _, _], _ => rfl
  have mLr := PySem.W.mg_of X G aLr
  have FLq := fun_mk (st := sLBars) lLq cLq kLq
  have bLq := FLq.binds (ps := ["numbers", "k", "roads", "many"]) fun _ _ _ _ _ _ us hl => match us, hl with | [_, _, _, _], _ => rfl
  have mLq := PySem.W.mg_of X G aLq
  have FMp := fun_mk (st := sLParts) lMp cMp kMp
  have bMp := FMp.binds (ps := ["numbers"]) fun _ _ _ _ _ _ us hl => match us, hl with | [_], _ => rfl
  have mMp := PySem.W.mg_of X G aMp
  have FMd := fun_mk (st := sLMade) lMd cMd kMd
  have bMd := FMd.binds (ps := ["parts"]) fun _ _ _ _ _ _ us hl => match us, hl with | [_], _ => rfl
  have mMd := PySem.W.mg_of X G aMd
  have FFz := fun_mk (st := sLFrozen) lFz cFz kFz
  have bFz := FFz.binds (ps := ["parts"]) fun _ _ _ _ _ _ us hl => match us, hl with | [_], _ => rfl
  have mFz := PySem.W.mg_of X G aFz
  have FSa := fun_mk (st := sLSame) lSa cSa kSa
  have bSa := FSa.binds (ps := ["chart", "due"]) fun _ _ _ _ _ _ us hl => match us, hl with | [_, _], _ => rfl
  have mSa := PySem.W.mg_of X G aSa
  have FMu := fun_mk (st := sMadeDue) lMu cMu kMu
  have bMu := FMu.binds (ps := ["parts"]) fun _ _ _ _ _ _ us hl => match us, hl with | [_], _ => rfl
  have mMu := PySem.W.mg_of X G aMu
  have FEd := fun_mk (st := sEdited) lEd cEd kEd
  have bEd := FEd.binds (ps := ["chart", "deed", "one", "other"]) fun _ _ _ _ _ _ us hl => match us, hl with | [_, _, _, _], _ => rfl
  have mEd := PySem.W.mg_of X G aEd
  have FRo := fun_mk (st := sRoE) lRo cRo kRo
  have bRo := FRo.binds (ps := ["parts", "numbers", "names"]) fun _ _ _ _ _ _ us hl => match us, hl with | [_, _, _], _ => rfl
  have mRo := PySem.W.mg_of X G aRo
  have FPl := fun_mk (st := sPlE) lPl cPl kPl
  have bPl := FPl.binds (ps := ["parts", "numbers"]) fun _ _ _ _ _ _ us hl => match us, hl with | [_, _], _ => rfl
  have mPl := PySem.W.mg_of X G aPl
  have FBe := fun_mk (st := sBeE) lBe cBe kBe
  have bBe := FBe.binds (ps := ["parts", "numbers", "names"]) fun _ _ _ _ _ _ us hl => match us, hl with | [_, _, _], _ => rfl
  have mBe := PySem.W.mg_of X G aBe
  have FLw := fun_mk (st := sLaw) lLw cLw kLw
  have bLw := FLw.binds (ps := ["script"]) fun _ _ _ _ _ _ us hl => match us, hl with | [_], _ => rfl
  have mLw := PySem.W.mg_of X G aLw
  have FCk := fun_mk (st := sCheck) lCk cCk kCk
  have bCk := FCk.binds (ps := ["self", "name"]) fun _ _ _ _ _ _ us hl => match us, hl with | [_, _], _ => rfl
  have FCp := fun_mk (st := sCheckP) lCp cCp kCp
  have bCp := FCp.binds (ps := ["self", "place"]) fun _ _ _ _ _ _ us hl => match us, hl with | [_, _], _ => rfl
  have FRm := fun_mk (st := sRoadM) lRm cRm kRm
  have bRm := FRm.binds (ps := ["self", "name"]) fun _ _ _ _ _ _ us hl => match us, hl with | [_, _], _ => rfl
  have FBa := fun_mk (st := sBarred) lBa cBa kBa
  have bBa := FBa.binds (ps := ["self", "first", "second"]) fun _ _ _ _ _ _ us hl => match us, hl with | [_, _, _], _ => rfl
  have FWp := fun_mk (st := sWithP) lWp cWp kWp
  have bWp := FWp.binds (ps := ["self", "places", "roads", "bars"]) fun _ _ _ _ _ _ us hl => match us, hl with | [_, _, _, _], _ => rfl
  have FWR := fun_mk (st := sWithR) lWR cWR kWR
  have bWR := FWR.binds (ps := ["self", "road"]) fun _ _ _ _ _ _ us hl => match us, hl with | [_, _], _ => rfl
  have FWO := fun_mk (st := sWithoutR) lWO cWO kWO
  have bWO := FWO.binds (ps := ["self", "name"]) fun _ _ _ _ _ _ us hl => match us, hl with | [_, _], _ => rfl
  have FWH := fun_mk (st := sWithH) lWH cWH kWH
  have bWH := FWH.binds (ps := ["self", "name", "hours"]) fun _ _ _ _ _ _ us hl => match us, hl with | [_, _, _], _ => rfl
  have FWP := fun_mk (st := sWithPl) lWP cWP kWP
  have bWP := FWP.binds (ps := ["self", "place"]) fun _ _ _ _ _ _ us hl => match us, hl with | [_, _], _ => rfl
  have FOP := fun_mk (st := sWoutPl) lOP cOP kOP
  have bOP := FOP.binds (ps := ["self", "place"]) fun _ _ _ _ _ _ us hl => match us, hl with | [_, _], _ => rfl
  have FWB := fun_mk (st := sWithB) lWB cWB kWB
  have bWB := FWB.binds (ps := ["self", "first", "second"]) fun _ _ _ _ _ _ us hl => match us, hl with | [_, _, _], _ => rfl
  have FOB := fun_mk (st := sWoutB) lOB cOB kOB
  have bOB := FOB.binds (ps := ["self", "first", "second"]) fun _ _ _ _ _ _ us hl => match us, hl with | [_, _, _], _ => rfl
  have e_isinstance := PySem.W.mg_none_of X G z_isinstance
  have e_bool := PySem.W.mg_none_of X G z_bool
  have e_ValueError := PySem.W.mg_none_of X G z_ValueError
  have e_len := PySem.W.mg_none_of X G z_len
  have e_all := PySem.W.mg_none_of X G z_all
  have e_set := PySem.W.mg_none_of X G z_set
  have e_tuple := PySem.W.mg_none_of X G z_tuple
  have e_list := PySem.W.mg_none_of X G z_list
  have e_sorted := PySem.W.mg_none_of X G z_sorted
  have e_abs := PySem.W.mg_none_of X G z_abs
  have e_int := PySem.W.mg_none_of X G z_int
  have e_range := PySem.W.mg_none_of X G z_range
  have e_max := PySem.W.mg_none_of X G z_max
  have e_min := PySem.W.mg_none_of X G z_min
  have e_super := PySem.W.mg_none_of X G z_super
  have e_str := PySem.W.mg_none_of X G z_str
  have i_LONGEST_NAME := PySem.W.mg_of X G g_LONGEST_NAME
  have i_LONGEST_DAY := PySem.W.mg_of X G g_LONGEST_DAY
  have i_MOST_PLACES := PySem.W.mg_of X G g_MOST_PLACES
  have i_MOST_KINDS := PySem.W.mg_of X G g_MOST_KINDS
  have i_MOST_ROADS := PySem.W.mg_of X G g_MOST_ROADS
  have i_MOST_MINUTES := PySem.W.mg_of X G g_MOST_MINUTES
  have i_MOST_PAIRS := PySem.W.mg_of X G g_MOST_PAIRS
  have i_MOST_BARS := PySem.W.mg_of X G g_MOST_BARS
  have i_NAME := PySem.W.mg_of X G g_NAME
  have i_START := PySem.W.mg_of X G g_START
  have i_END := PySem.W.mg_of X G g_END
  have i_HOURS := PySem.W.mg_of X G g_HOURS
  have i_PARTS := PySem.W.mg_of X G g_PARTS
  have i_LETTERS := PySem.W.mg_of X G g_LETTERS
  have i_DIGITS := PySem.W.mg_of X G g_DIGITS
  have eU := exm_two bU iU tU sU
  have TU : OexC K U := ⟨⟨_, _, _, _, _, _, _, _, _, _, _, _, _, _, _, lU, rvU⟩, saU, bU, tU, kU⟩
  have DU : ExcD K U := ⟨clU, gaU, ggU, bU, ccU, snU1, tkU, moU⟩
  have bXU : L2.Binds K (fdU .none kVXU dcXU pmXU anXU cdaXU ctXU ccXU) ["self", "name"] [] := .all fun us hl => match us, hl with | [_, _], _ => rfl
  have mU := PySem.W.mg_of X G gU
  have yU : XfC K U := xfB_ok xU
  have mB := PySem.W.mg_of X G gB
  have TM : TxtM K M := ⟨⟨pg, hd, po, sa⟩, n_day, n_kinds, n_places, n_roads, n__roads_by_name, n_bars, n__barred⟩
  have TN : Txt K mg M P := ⟨⟨_, i_LETTERS⟩, ⟨_, i_DIGITS⟩, ⟨_, i_LONGEST_NAME⟩, e_len, e_all⟩
  have FI : FunD K "__init__" "Map.__init__" (defArgs sInit) (defBody sInit) (defScope sInit) [] [("places", V.ref T1), ("roads", V.ref T2), ("bars", V.ref T0)] fI (PySem.W.fnOf "__init__" "Map.__init__" (defArgs sInit) (defBody sInit) (defScope sInit) .none (.ref D0) dcI pmI anI cdI ctI) :=
    ⟨⟨_, _, _, _, _, _, _, _, _, _, rfl, lI, cI, .inl ⟨rfl, rfl⟩, .inr ⟨D0, rfl, fun q hq => by
      simp only [List.mem_cons, List.not_mem_nil, or_false] at hq
      rcases hq with e | e | e <;> rw [e]
      · exact ⟨_, d_places, rfl⟩
      · exact ⟨_, d_roads, rfl⟩
      · exact ⟨_, d_bars, rfl⟩⟩⟩, kI⟩
  obtain ⟨mvA, kbA⟩ := mapA_binds FI
  obtain ⟨mvC, kbC⟩ := mapC_binds FI
  have tabP : h.get? P = some { cls := .none, data := .fields #[] } := own _ (by decide +kernel) _ mNm qN P _ _ _ _ _ _ lNm rfl rfl lcN v11
  have hcs : ∀ p ∈ ([(qN, P)] : List (Addr × Addr)), h.get? p.2 = some { cls := .none, data := .fields #[] } ∧ K.lookup p.2 = none ∧ PySem.W.CodeHd h p.1 p.2 := fun p hp => by
    simp only [List.mem_cons, List.not_mem_nil, or_false] at hp
    subst hp
    · exact ⟨tabP, nP, PySem.W.codeHd_of_K X hcN⟩
  refine ⟨[(qN, P)], spLaw K P, hcs, fun H a ns hl hT hS => ⟨a, ns, rfl, hS, hl, ⟨#[], hT (qN, P) (by simp), by first | trivial | exact True.intro | decide⟩, fun _ => rfl⟩, fun base KB NB TBL => ?_⟩
  have TBN : TabB base mg qN P := ⟨(TBL (qN, P) (by simp)).code, (TBL (qN, P) (by simp)).bm, (TBL (qN, P) (by simp)).gP⟩
  have TE : TxtE mg K C := ⟨PySem.W.mg_of X G gC, xC, kC, bC, tC⟩
  have mC := PySem.W.mg_of X G gC
  have GNm : FnOk l.prog w K mg base CX0 2 fNm _ ["text"] (spIsName P) := ok_isName FNm TN TBN rfl NB
  have GDy : FnOk l.prog w K mg base (L2.CX l.prog w) 1 fDy _ ["day"] (spDayX C P) := ok_dayX FDy TE i_LONGEST_DAY
  have GDf : FnOk l.prog w K mg base (L2.CX l.prog w) 1 fDf _ ["parts"] (spDiffX K C P) := ok_diffX FDf TE e_len e_set
  have GHr : FnOk l.prog w K mg base (L2.CX l.prog w) 1 fHr _ ["hours", "day"] (spHoursX K C P) := ok_hoursX FHr TE e_len e_tuple i_MOST_PAIRS
  have GNa := ok_namesX FNa TE e_len e_tuple e_sorted GNm mNm kNm bNm GDf mDf kDf bDf
  have GRd := ok_roadX FRd TE e_tuple e_sorted i_MOST_MINUTES GDf mDf kDf bDf GHr mHr kHr bHr
  have GRs := ok_roadsX FRs TE e_len e_tuple e_sorted i_PARTS i_NAME i_MOST_ROADS GNa mNa kNa bNa GRd mRd kRd bRd
  have GBr := ok_barsX FBr TE e_len e_tuple e_sorted i_MOST_BARS i_END i_START GDf mDf kDf bDf
  have GI := ok_initX FI TM TE i_NAME i_MOST_KINDS i_MOST_PLACES GDy mDy kDy bDy GNa mNa kNa bNa GRs mRs kRs bRs GBr mBr kBr bBr
  have GRw : FnOk l.prog w K mg base CX0 1 fRw _ ["cell", "many"] (spRow P) := ok_row FRw e_abs e_int e_range
  have GNu := ok_numbers FNu e_len e_max GRw mRw kRw bRw
  have GLp : FnOk l.prog w K mg base CX0 1 fLp _ ["numbers", "k"] (spLPick K) := ok_lpick FLp e_int e_len
  have GLn : FnOk l.prog w K mg base CX0 1 fLn _ ["numbers", "at", "many"] (spLNames K P) := ok_lnames FLn e_int e_range e_len
  have GLc : FnOk l.prog w K mg base CX0 1 fLc _ ["number", "least", "most"] spLCount := ok_lcount FLc e_int e_min
  have GLh := ok_lhours (P := P) FLh e_range e_max GLp mLp kLp bLp
  have GLr := ok_lroad FLr e_range e_max e_len GLp mLp kLp bLp GLh mLh kLh bLh
  have GLq := ok_lbars (P := P) FLq e_max e_len GLp mLp kLp bLp
  have GMp := ok_lparts FMp e_int e_range e_len GLn mLn kLn bLn GLc mLc kLc bLc GLr mLr kLr bLr GLq mLq kLq bLq
  have GFz : FnOk l.prog w K mg base CX0 1 fFz _ ["parts"] (spLFrozen K P) := ok_lfrozen FFz e_sorted e_tuple
  have GMd := ok_lmade FMd TM e_list ⟨mk, aI, iI, kM⟩ (PySem.W.mg_of X G aM) GI kbA
  have GMx := ok_lmadeX FMd e_list ⟨mk, aI, iI, kM⟩ (PySem.W.mg_of X G aM) GI kbA
  have eC := exm_two bC iC tC sC
  have eCU := exm_two bU iU tU sCU
  have DC : ExcD K C := ⟨clC, gaC, ggC, bC, ccC, snU1, tkU, moC⟩
  have GSa : FnOk l.prog w K mg base CX0 1 fSa _ ["chart", "due"] (spLSame K M P) := ok_lsame FSa TM e_isinstance e_bool
  have GMu := ok_madeDue (M := M) FMu e_list mC eC GMx mMd kMd bMd GFz mFz kFz bFz
  have GY : FnOk l.prog w K mg base CX0 1 fXU _ ["self", "name"] (spUInit K U) := ok_uinit lXU cXU coXU v2XU fiXU ceXU e_super toX TU muU opU suU svU nnU
  have GCk := ok_check FCk TM mU TU aXU tXU GY bXU
  have GCp := ok_checkP FCp TM mU TU aXU tXU GY bXU
  have GRm := ok_roadM FRm TM ⟨aCk, iCk, kCk⟩ GCk bCk
  have GBa := ok_barred (P := P) FBa TM ⟨aCk, iCk, kCk⟩ GCk bCk
  have GWp := ok_withPX FWp TM ⟨mk, aI, iI, kM⟩ (PySem.W.mg_of X G aM) GI kbC
  have GWR := ok_withRX FWR TM i_NAME ⟨aWp, iWp, kWp⟩ GWp bWp
  have GWO := ok_woRX FWO TM i_NAME ⟨aCk, iCk, kCk⟩ GCk bCk ⟨aWp, iWp, kWp⟩ GWp bWp
  have GWH := ok_withHX FWH TM i_HOURS ⟨aWR, iWR, kWR⟩ GWR bWR ⟨aRm, iRm, kRm⟩ GRm bRm
  have GWP := ok_withPlX FWP TM ⟨aWp, iWp, kWp⟩ GWp bWp
  have GOP := ok_woutPlX FOP TM ⟨aCp, iCp, kCp⟩ GCp bCp ⟨aWp, iWp, kWp⟩ GWp bWp
  have GWB := ok_withBX FWB TM ⟨aCk, iCk, kCk⟩ GCk bCk ⟨aWp, iWp, kWp⟩ GWp bWp
  have GOB := ok_woutBX FOB TM TE ⟨aBa, iBa, kBa⟩ GBa bBa ⟨aWp, iWp, kWp⟩ GWp bWp
  have GEd := ok_edited FEd TM e_isinstance e_int e_ValueError mU mC yU nnU DC eU eCU eC kiV ⟨aWR, iWR, kWR⟩ GWR bWR ⟨aWO, iWO, kWO⟩ GWO bWO ⟨aWH, iWH, kWH⟩ GWH bWH ⟨aWP, iWP, kWP⟩ GWP bWP ⟨aOP, iOP, kOP⟩ GOP bOP ⟨aWB, iWB, kWB⟩ GWB bWB ⟨aOB, iOB, kOB⟩ GOB bOB
  have GRo := ok_rowsRo FRo e_int e_len GLr mLr kLr bLr GMu mMu kMu bMu
  have GPl := ok_rowsPl FPl e_int e_len GLn mLn kLn bLn GMu mMu kMu bMu
  have GBe := ok_rowsBe FBe e_int e_len e_range GMu mMu kMu bMu
  exact ok_law lLw cLw (fun s v => .of_eq rfl) e_len GNu mNu kNu bNu GMp mMp kMp bMp GFz mFz kFz bFz GMd mMd kMd bMd GLn mLn kLn bLn GRo mRo kRo bRo GPl mPl kPl bPl GBe mBe kBe bBe GEd mEd kEd bEd GSa mSa kSa bSa
end W

set_option Elab.async false
open PySem PySem.W PyProof.Rows in
set_option maxRecDepth 100000 in
set_option maxHeartbeats 0 in
theorem PySem.Challenge.cw_waypapers_k03_maps_edited_holds : PySem.Challenge.rw_waypapers_k03_maps_edited.Holds := by
  w_on; o_law; k_head; (case hw => w_witness2)
  k_fill
  refine MyR.walk_ofL (l := PySem.Challenge.rw_waypapers_k03_maps_edited) (n := 63) (CX := fun w => L2.CX (PySem.Challenge.rw_waypapers_k03_maps_edited).prog w) ["is_name"] rfl (by decide) rfl (by decide +kernel) (fun w h Y => PySem.W.kIn_of Y) ?F (fun w H s e s' h => W.no_fly w H s e s' h)
  case F =>
    intro w mg fa h Y KX G hmg own
    refine' W.all_mk KX G hmg own ?aM ?gU ?gB ?aNm ?lNm ?cNm ?kNm ?aDy ?lDy ?cDy ?kDy ?aNa ?lNa ?cNa ?kNa ?aDf ?lDf ?cDf ?kDf ?aRs ?lRs ?cRs ?kRs ?aRd ?lRd ?cRd ?kRd ?aHr ?lHr ?cHr ?kHr ?aBr ?lBr ?cBr ?kBr ?aRw ?lRw ?cRw ?kRw ?aNu ?lNu ?cNu ?kNu ?aLp ?lLp ?cLp ?kLp ?aLn ?lLn ?cLn ?kLn ?aLc ?lLc ?cLc ?kLc ?aLh ?lLh ?cLh ?kLh ?aLr ?lLr ?cLr ?kLr ?aLq ?lLq ?cLq ?kLq ?aMp ?lMp ?cMp ?kMp ?aMd ?lMd ?cMd ?kMd ?aFz ?lFz ?cFz ?kFz ?aSa ?lSa ?cSa ?kSa ?aMu ?lMu ?cMu ?kMu ?aEd ?lEd ?cEd ?kEd ?aRo ?lRo ?cRo ?kRo ?aPl ?lPl ?cPl ?kPl ?aBe ?lBe ?cBe ?kBe ?aLw ?lLw ?cLw ?kLw ?aCk ?iCk ?lCk ?cCk ?kCk ?aCp ?iCp ?lCp ?cCp ?kCp ?aRm ?iRm ?lRm ?cRm ?kRm ?aBa ?iBa ?lBa ?cBa ?kBa ?aWp ?iWp ?lWp ?cWp ?kWp ?aWR ?iWR ?lWR ?cWR ?kWR ?aWO ?iWO ?lWO ?cWO ?kWO ?aWH ?iWH ?lWH ?cWH ?kWH ?aWP ?iWP ?lWP ?cWP ?kWP ?aOP ?iOP ?lOP ?cOP ?kOP ?aWB ?iWB ?lWB ?cWB ?kWB ?aOB ?iOB ?lOB ?cOB ?kOB ?lcN ?v11 ?hcN ?nP ?aI ?iI ?lI ?cI ?kI ?d_places ?d_roads ?d_bars ?pg ?hd ?po ?sa ?mk ?kM ?n_day ?n_kinds ?n_places ?n_roads ?n__roads_by_name ?n_bars ?n__barred ?snU1 ?tkU ?opU ?toX ?lU ?rvU ?saU ?bU ?tU ?kU ?iU ?sU ?xU ?clU ?gaU ?ggU ?ccU ?moU ?muU ?suU ?svU ?nnU ?aXU ?tXU ?lXU ?cXU ?coXU ?v2XU ?fiXU ?ceXU ?gC ?xC ?kC ?bC ?tC ?clC ?gaC ?ggC ?ccC ?moC ?iC ?sC ?kiV ?sCU ?g_LONGEST_NAME ?g_LONGEST_DAY ?g_MOST_PLACES ?g_MOST_KINDS ?g_MOST_ROADS ?g_MOST_MINUTES ?g_MOST_PAIRS ?g_MOST_BARS ?g_NAME ?g_START ?g_END ?g_HOURS ?g_PARTS ?g_LETTERS ?g_DIGITS ?z_isinstance ?z_bool ?z_ValueError ?z_len ?z_all ?z_set ?z_tuple ?z_list ?z_sorted ?z_abs ?z_int ?z_range ?z_max ?z_min ?z_super ?z_str
    (case aM => k_is)
    (case gU => k_is)
    (case gB => k_is)
    (case aNm => k_is)
    (case lNm => k_is)
    (case cNm => k_is)
    (case kNm => k_is)
    (case aDy => k_is)
    (case lDy => k_is)
    (case cDy => k_is)
    (case kDy => k_is)
    (case aNa => k_is)
    (case lNa => k_is)
    (case cNa => k_is)
    (case kNa => k_is)
    (case aDf => k_is)
    (case lDf => k_is)
    (case cDf => k_is)
    (case kDf => k_is)
    (case aRs => k_is)
    (case lRs => k_is)
    (case cRs => k_is)
    (case kRs => k_is)
    (case aRd => k_is)
    (case lRd => k_is)
    (case cRd => k_is)
    (case kRd => k_is)
    (case aHr => k_is)
    (case lHr => k_is)
    (case cHr => k_is)
    (case kHr => k_is)
    (case aBr => k_is)
    (case lBr => k_is)
    (case cBr => k_is)
    (case kBr => k_is)
    (case aRw => k_is)
    (case lRw => k_is)
    (case cRw => k_is)
    (case kRw => k_is)
    (case aNu => k_is)
    (case lNu => k_is)
    (case cNu => k_is)
    (case kNu => k_is)
    (case aLp => k_is)
    (case lLp => k_is)
    (case cLp => k_is)
    (case kLp => k_is)
    (case aLn => k_is)
    (case lLn => k_is)
    (case cLn => k_is)
    (case kLn => k_is)
    (case aLc => k_is)
    (case lLc => k_is)
    (case cLc => k_is)
    (case kLc => k_is)
    (case aLh => k_is)
    (case lLh => k_is)
    (case cLh => k_is)
    (case kLh => k_is)
    (case aLr => k_is)
    (case lLr => k_is)
    (case cLr => k_is)
    (case kLr => k_is)
    (case aLq => k_is)
    (case lLq => k_is)
    (case cLq => k_is)
    (case kLq => k_is)
    (case aMp => k_is)
    (case lMp => k_is)
    (case cMp => k_is)
    (case kMp => k_is)
    (case aMd => k_is)
    (case lMd => k_is)
    (case cMd => k_is)
    (case kMd => k_is)
    (case aFz => k_is)
    (case lFz => k_is)
    (case cFz => k_is)
    (case kFz => k_is)
    (case aSa => k_is)
    (case lSa => k_is)
    (case cSa => k_is)
    (case kSa => k_is)
    (case aMu => k_is)
    (case lMu => k_is)
    (case cMu => k_is)
    (case kMu => k_is)
    (case aEd => k_is)
    (case lEd => k_is)
    (case cEd => k_is)
    (case kEd => k_is)
    (case aRo => k_is)
    (case lRo => k_is)
    (case cRo => k_is)
    (case kRo => k_is)
    (case aPl => k_is)
    (case lPl => k_is)
    (case cPl => k_is)
    (case kPl => k_is)
    (case aBe => k_is)
    (case lBe => k_is)
    (case cBe => k_is)
    (case kBe => k_is)
    (case aLw => k_is)
    (case lLw => k_is)
    (case cLw => k_is)
    (case kLw => k_is)
    (case aCk => k_is)
    (case iCk => k_is)
    (case lCk => k_is)
    (case cCk => k_is)
    (case kCk => k_is)
    (case aCp => k_is)
    (case iCp => k_is)
    (case lCp => k_is)
    (case cCp => k_is)
    (case kCp => k_is)
    (case aRm => k_is)
    (case iRm => k_is)
    (case lRm => k_is)
    (case cRm => k_is)
    (case kRm => k_is)
    (case aBa => k_is)
    (case iBa => k_is)
    (case lBa => k_is)
    (case cBa => k_is)
    (case kBa => k_is)
    (case aWp => k_is)
    (case iWp => k_is)
    (case lWp => k_is)
    (case cWp => k_is)
    (case kWp => k_is)
    (case aWR => k_is)
    (case iWR => k_is)
    (case lWR => k_is)
    (case cWR => k_is)
    (case kWR => k_is)
    (case aWO => k_is)
    (case iWO => k_is)
    (case lWO => k_is)
    (case cWO => k_is)
    (case kWO => k_is)
    (case aWH => k_is)
    (case iWH => k_is)
    (case lWH => k_is)
    (case cWH => k_is)
    (case kWH => k_is)
    (case aWP => k_is)
    (case iWP => k_is)
    (case lWP => k_is)
    (case cWP => k_is)
    (case kWP => k_is)
    (case aOP => k_is)
    (case iOP => k_is)
    (case lOP => k_is)
    (case cOP => k_is)
    (case kOP => k_is)
    (case aWB => k_is)
    (case iWB => k_is)
    (case lWB => k_is)
    (case cWB => k_is)
    (case kWB => k_is)
    (case aOB => k_is)
    (case iOB => k_is)
    (case lOB => k_is)
    (case cOB => k_is)
    (case kOB => k_is)
    (case lcN => k_is)
    (case v11 => rfl)
    (case hcN => kernel_rfl)
    (case nP => kernel_rfl)
    (case aI => k_is)
    (case iI => k_is)
    (case lI => k_is)
    (case cI => k_is)
    (case kI => k_is)
    (case d_places => k_is)
    (case d_roads => k_is)
    (case d_bars => k_is)
    (case pg => k_is)
    (case hd => k_is)
    (case po => k_is)
    (case sa => k_is)
    (case mk => k_is)
    (case kM => k_is)
    (case n_day => k_is)
    (case n_kinds => k_is)
    (case n_places => k_is)
    (case n_roads => k_is)
    (case n__roads_by_name => k_is)
    (case n_bars => k_is)
    (case n__barred => k_is)
    (case snU1 => k_is)
    (case tkU => k_is)
    (case opU => k_is)
    (case toX => first | rfl | decide +kernel | kernel_rfl)
    (case lU => k_is)
    (case rvU => rfl)
    (case saU => k_is)
    (case bU => k_is)
    (case tU => k_is)
    (case kU => k_is)
    (case iU => k_is)
    (case sU => first | rfl | k_is)
    (case xU => first | kernel_rfl | k_is)
    (case clU => first | kernel_rfl | k_is)
    (case gaU => k_is)
    (case ggU => k_is)
    (case ccU => k_is)
    (case moU => k_is)
    (case muU => k_is)
    (case suU => first | kernel_rfl | k_is)
    (case svU => k_is)
    (case nnU => k_is)
    (case aXU => k_is)
    (case tXU => k_is)
    (case lXU => k_is)
    (case cXU => k_is)
    (case coXU => k_is)
    (case v2XU => rfl)
    (case fiXU => first | rfl | decide +kernel | kernel_rfl)
    (case ceXU => k_is)
    (case gC => k_is)
    (case xC => k_exc)
    (case kC => k_is)
    (case bC => k_is)
    (case tC => k_is)
    (case clC => first | kernel_rfl | k_is)
    (case gaC => k_is)
    (case ggC => k_is)
    (case ccC => k_is)
    (case moC => k_is)
    (case iC => k_is)
    (case sC => first | rfl | k_is)
    (case kiV => first | kernel_rfl | kit_is | k_is)
    (case sCU => first | rfl | k_is)
    (case g_LONGEST_NAME => k_is)
    (case g_LONGEST_DAY => k_is)
    (case g_MOST_PLACES => k_is)
    (case g_MOST_KINDS => k_is)
    (case g_MOST_ROADS => k_is)
    (case g_MOST_MINUTES => k_is)
    (case g_MOST_PAIRS => k_is)
    (case g_MOST_BARS => k_is)
    (case g_NAME => k_is)
    (case g_START => k_is)
    (case g_END => k_is)
    (case g_HOURS => k_is)
    (case g_PARTS => k_is)
    (case g_LETTERS => k_is)
    (case g_DIGITS => k_is)
    (case z_isinstance => k_is)
    (case z_bool => k_is)
    (case z_ValueError => k_is)
    (case z_len => k_is)
    (case z_all => k_is)
    (case z_set => k_is)
    (case z_tuple => k_is)
    (case z_list => k_is)
    (case z_sorted => k_is)
    (case z_abs => k_is)
    (case z_int => k_is)
    (case z_range => k_is)
    (case z_max => k_is)
    (case z_min => k_is)
    (case z_super => k_is)
    (case z_str => k_is)

