import PyProof.Rows.All
import Wide.All
import OpenK.AllK
import Wide.FinOn
import HandS.ForMost
import HandS.ForExc
import HandS.AnyAll
import HandS.TupSets
import HandS.Strs
import HandS.Sort
import HandS.SortOrd
import HandS.SortRule
import KE.KSortTup
import PyProof.EqAt
import PyProof.EqKinds
import HandS.DictComp
import HandS.FStr
import HandS.RaiseMore
import HandS.MakeKwOnly
import HandS.EndTab
import KE.KNestM
import HandS.Codes
import HandS.Text
import HandS.Star
import HandS.TupAny
import HandS.Deep
import HandS.TryOnly
import HandS.ExcInit
import HandS.Rev
import HandS.Walk
import HandS.Property
import HandS.ExcOwn
import KE.LtData
import PyProof.Walk
import PyProof.WalkLemmas
import HandS.Gcd
import HandS.Iter
import KE.DataMinMax
import HandS.Style
import PyProof.ReprRoads
import PyProof.ReprLen
import HandS.EndOwn
import HandS.TryMany
import KE.KExcSuper
import KE.KExcIs
import HandS.ExcField
import HandS.IsInst
import HandS.SortKw
import HandS.More
import PyProof.CallFns
import PySem.Challenge.RW_waypapers_k37_worst_delays
set_option Elab.async false
set_option linter.all false
set_option maxRecDepth 100000
set_option maxHeartbeats 4000000
/-! all(test for x in text), where the test reads constants of the module: the walked element knows the base heap and the def's globals. -/
namespace MyG
open PySem PySem.Spec PyProof.Rows L2 GxR
/-- what the element's evaluation may lean on: the base heap stands, the globals are the module's, no exception is handled -/
def EltB (prog : Program) (w : World) (base : Heap) (scope : Scope) (x : Str) (elt : Expr) (pb : Nat → Bool) : Prop :=
  ∀ (ce : Env) (B : Around) (F : Value → Shared → Prop) (c : Nat) (t : Tok) (z : Shared) (m : Str → Option Value),
    ce.scope = scope → ce.globals = mainGlobals → B.handled = none → (∀ b o, base.get? b = some o → z.heap.get? b = some o) →
    z.heap.Ns ce.locals m → m x = some (.str ⟨#[c]⟩ t) → wpAny (model prog w) B (eval elt ce) (fun y z' => y = .bool (pb c) ∧ Keeps z z') F z
section
variable {X : Cx} {pins : List (Addr × Obj)} {σ : L2.St} {H : Hp} {s : Shared}
theorem genB {c P : Addr} {elt iter : Expr} {x : Str} {px gpos : Pos} {scope : Scope} {pb : Nat → Bool} {te : TE} {k : Nat} {Q' : Value → Shared → Prop} {R : Str → Hp → Prop}
    (hr : Room k X.A) (TB : TabB X.base X.mg c P) (hcode : X.env.code = .ref c) (S : GenS X.env scope x) (hi : PE X iter te) (hel : EltB X.prog X.w X.base scope x elt pb)
    (hs : ∀ v, genFold iter X.env v = pure v) (I : Inv X pins σ H s) (h : te σ H fun v H1 => ∃ a : Str, v = .str a ∧ TabG H1 P ∧ R a H1)
    (hQ : ∀ a H1 g z, R a H1 → Ready X pins σ H1 P a pb g z → Q' (.ref g) z) :
    wpAny (model X.prog X.w) X.A (eval (.GeneratorExp elt [⟨.Name x px, iter, [], 0⟩] scope gpos) X.env) Q' X.xe s := by
  refine wpAny_GeneratorExp_walksQ hr.hd S.co (closure_ok S.free) S.cell S.dot S.loc S.kind (by have := hr.dp; omega) ?_ hs
  refine thn (hi.run pins s σ H _ I h) fun xv s1 ⟨v, H1, I1, r1, a, ev, tb, q1⟩ => ?_
  subst ev
  obtain ⟨t, rfl⟩ := _root_.id r1
  obtain ⟨ps, hP, ht⟩ := tb
  refine wpAny_pyIter_str fun o St W hst => ?_
  have eP : s1.heap.get? P = some { cls := .none, data := .fields ps } := I1.hok P _ hP
  have ltP : P < s1.heap.objs.size := Heap.lt_size eP
  have eP2 := Heap.get?_push_of_some o eP
  have cd : PySem.W.CodeHd (s1.heap.push o) c P := TB.code.keeps fun b u e => Heap.get?_push_of_some _ (I1.bk b u e)
  have lim := I1.nolimit.push o
  have szp : (s1.heap.push o).objs.size = s1.heap.objs.size + 1 := Heap.size_push ..
  -- the base is not the table
  have nbP : ∀ b u, X.base.get? b = some u → b ≠ P := fun b u e z => by
    have q := (I1.bs b u e).2
    rw [z, hP] at q
    cases q
  have stP : cStatics ≠ P := fun e => by
    obtain ⟨_, ⟨o', es, ep, ho, hd, _⟩, _⟩ := I1.nolimit
    rw [e, eP] at ho
    cases ho
    cases hd
  have stlt : cStatics < s1.heap.objs.size := let ⟨_, hns, _⟩ := I1.nolimit; hns.lt
  -- behind the code object (made or found): h3, the table ps'
  have go : ∀ (code : Value) (h3 : Heap) (tk : Nat) (more : Array Value), Heap.ExtBut P (s1.heap.push o) h3 → (s1.heap.push o).objs.size ≤ h3.objs.size → h3.get? P = some { cls := .none, data := .fields (ps ++ more) } → TriplesOk (ps ++ more).toList →
      wpAny (model X.prog X.w) X.A (builtinsFor X.env.globals X.env.builtins) (fun bi s₄ =>
        ∃ Ia fp wr n₀ Pf St₀ pz F, Value.ref s1.heap.objs.size = .ref Ia ∧ (∀ A' : Around, A'.handled = none → Walks X.prog X.w A' Ia fp wr n₀ Pf St₀) ∧ St₀ 0 s₄.heap ∧ (∀ b ∈ fp, b < s₄.heap.objs.size) ∧ s₄.heap.NoLimit ∧ cStatics ∉ wr ∧
          (∀ href : Heap, (∀ b o, s₄.heap.get? b = some o → href.get? b = some o) →
            QuietGen X.prog X.w (genEnv scope (cloFrom X.env.cells scope.names []) s₄.heap.objs.size code bi X.env) x [] elt (List.range s₄.heap.objs.size) wr Pf pz F href) ∧
          (∀ a h₅ tk gs, gs.bare = true → s₄.heap.objs.size < a → h₅.objs.size = a + 1 → (∀ b o, s₄.heap.get? b = some o → h₅.get? b = some o) →
            WalksS X.prog X.w X.A.in4 a (a :: s₄.heap.objs.size :: List.range s₄.heap.objs.size) (s₄.heap.objs.size :: wr) (GenOnlyQ s₄.gens.size) (passing pz n₀ 0).length
              (fun j y => ∃ i, (passing pz n₀ 0)[j]? = some i ∧ F i y) (GenAt X.prog X.w X.A.in4 a s₄.gens.size s₄.heap.objs.size (List.range s₄.heap.objs.size) wr pz n₀ F) →
            GenAt X.prog X.w X.A.in4 a s₄.gens.size s₄.heap.objs.size (List.range s₄.heap.objs.size) wr pz n₀ F 0 { s₄ with gens := s₄.gens.push gs, toks := tk, heap := h₅ } →
            Q' (.ref a) { s₄ with gens := s₄.gens.push gs, toks := tk, heap := h₅ })) X.xe { s1 with heap := h3, toks := tk } := by
    intro code h3 tk more hx hsz e3 ht3
    obtain ⟨bm, ob, b1, b2, b3, b4, b5, b6, b7, b8⟩ := TB.bm
    have old : ∀ b u, b ≠ P → s1.heap.get? b = some u → h3.get? b = some u := fun b u hb e => hx b u hb (Heap.get?_push_of_some _ e)
    refine wpAny_builtinsFor (m := X.mg) (by rw [I1.ok.glob]; exact ((I1.mod.glob.keeps I1.bk).push o).extBut hx TB.gP) b1 b2 (old _ _ b4 (I1.bk _ _ b5)) b6 b7 b8 ?_
    refine ⟨s1.heap.objs.size, [s1.heap.objs.size], [s1.heap.objs.size], a.cps.size, SignAt a, St, (fun _ => true), (fun i y => ∃ cc, a.cps[i]? = some cc ∧ y = .bool (pb cc)), rfl, W, ?_, ?_, lim.extBut hx stP, ?_, ?_, ?_⟩
    · refine (W X.A hr.hd).frame _ _ _ hst fun b hb u e => hx b u (fun z => ?_) e
      have hb' : b = s1.heap.objs.size := List.mem_singleton.mp hb
      exact Nat.ne_of_lt ltP (z.symm.trans hb')
    · intro b hb
      have hb' : b = s1.heap.objs.size := List.mem_singleton.mp hb
      rw [hb']
      exact Nat.lt_of_lt_of_le (by rw [szp]; exact Nat.lt_succ_self _) hsz
    · intro z
      exact Nat.ne_of_lt stlt (List.mem_singleton.mp z)
    · intro href hk
      constructor
      · intro A' E' i v s₂ m₂ hA hPv hn hm hk2
        simp only [List.forIn_nil]
        exact wpAny_pure ⟨rfl, keeps_refl _⟩
      · intro A' E' i v s₂ m₂ hA hPv hp hn hm hk2
        obtain ⟨cc, u, hcc, rfl⟩ := hPv
        refine wpAny_mono (hel _ A' E' cc u s₂ m₂ rfl I1.ok.glob hA (fun b w' e => ?_) hn hm) (fun y s3 r => ⟨⟨cc, hcc, r.1⟩, r.2⟩) fun _ _ e => e
        have e1 := I1.bk b w' e
        have e2 := old b w' (nbP b w' e) e1
        have l1 : b < s1.heap.objs.size := Heap.lt_size e1
        refine hk2 b (List.mem_range.mpr (Heap.lt_size e2)) (fun z => ?_) w' (hk b w' e2)
        exact Nat.ne_of_lt l1 (List.mem_singleton.mp z)
    · intro g h5 tk5 gs hgb hag hsz5 hk5 W5 hat
      simp only [GxR.passing_true, List.length_range] at W5
      refine hQ a H1 g _ q1 ⟨_, _, _, _, _, W5.in4_1, hat, ?_, fun s' hm => ?_⟩
      · intro j y sj Qj Ej hy hQj
        obtain ⟨i, hij, cc, hcc, rfl⟩ := hy
        obtain ⟨hj, ej⟩ := List.getElem?_eq_some_iff.mp hij
        rw [List.getElem_range] at ej
        subst ej
        have e9 : a.cps.toList[j]? = some cc := by rw [Array.getElem?_toList]; exact hcc
        have hQ2 : Qj (trF pb a.cps.toList j) sj := hQj
        rw [trF_some e9] at hQ2
        exact wpAny_truthy_bool hQ2
      · have nwr : ∀ b u, s1.heap.get? b = some u → b ∉ h3.objs.size :: [s1.heap.objs.size] := fun b u e hb => by
          have hl := Heap.lt_size e
          rcases List.mem_cons.mp hb with z | z
          · exact Nat.ne_of_lt (Nat.lt_of_lt_of_le (Nat.lt_trans hl (Nat.lt_succ_self _)) (Nat.le_trans (Nat.le_of_eq szp.symm) hsz)) z
          · exact Nat.ne_of_lt hl (List.mem_singleton.mp z)
        have J := inv_tab (more := more) (h' := s'.heap) (g' := s'.gens) (d' := s'.drawn) (t' := s'.toks) I1 hP (fun b u hb e => hm.heap b u (nwr b u e) (hk5 b u (old b u hb e)))
          (hm.heap P _ (nwr P _ eP) (hk5 P _ e3)) (AllBare.movedS (I1.bare.push hgb) hm)
        rw [sh_eta s1 s' hm.os] at J
        exact ⟨upd H1 P (.tbl (ps ++ more)), ⟨⟨ps ++ more, upd_same, ht3⟩, fun b hb => upd_ne hb⟩, J⟩
  refine ⟨lim, ?_⟩
  cases hf : codeAmong gpos ps.toList with
  | none =>
    refine wpAny_genexprCodeX hcode (cd.code eP2 ht) (cd.tab eP2) hf fun c' h' tk hx hge hlt hco' _ htab' _ => ?_
    obtain ⟨o1, vs, f1, tf, fl, tg, inF, tx, tt, op, _, _, _, _, _, _, _, _, _, htr, _⟩ := hco'
    exact go _ h' tk _ hx (Nat.le_trans hge (Nat.le_of_lt hlt)) htab'.2 htr
  | some cv =>
    refine wpAny_genexprCode_hit hcode (cd.code eP2 ht) hf ?_
    refine go cv (s1.heap.push o) s1.toks #[] (Heap.ExtBut.refl _ _) (Nat.le_refl _) ?_ ?_
    · rw [Array.append_empty]; exact eP2
    · rw [Array.append_empty]; exact ht

/-- all(test for x in e), e a text -/
theorem pe_allB {c P : Addr} {elt iter : Expr} {x : Str} {px p pos gpos : Pos} {scope : Scope} {pb : Nat → Bool} {te : TE} {k : Nat}
    (hr : Room k X.A) (hg : Gl X "all") (hm : X.mg "all" = none) (TB : TabB X.base X.mg c P) (hcode : X.env.code = .ref c) (S : GenS X.env scope x) (hi : PE X iter te) (hel : EltB X.prog X.w X.base scope x elt pb)
    (hs : ∀ v, genFold iter X.env v = pure v)
    (he : starEach [.GeneratorExp elt [⟨.Name x px, iter, [], 0⟩] scope gpos] X.env = (false, eval (.GeneratorExp elt [⟨.Name x px, iter, [], 0⟩] scope gpos) X.env) :: starEach [] X.env := by rfl) :
    PE X (.Call (.Name "all" p) [.GeneratorExp elt [⟨.Name x px, iter, [], 0⟩] scope gpos] [] pos) (tAllS P pb te) := by
  refine ⟨fun pins s σ H Q I h => ?_⟩
  refine wpAny_Call_Name_kw (ld_blt I hg hm (by decide +kernel : bootBuiltins "all" = some (.builtin "all")) ?_)
  refine PyProof.Rows.callWith_builtin1 ?_ he (by rfl)
  rw [he]
  refine Calls.spliced_cons (genB (R := fun a H1 => ∀ H2, Tabbed P H1 H2 → Q (.bl (a.cps.toList.all pb)) H2) hr TB hcode S hi hel hs I h fun a H1 g z hR hG => Calls.spliced_nil ?_)
  obtain ⟨fp, wr, G, F, St, W, hst, htr, hI⟩ := hG
  refine call_all_walkS (W.self 0 _ _ _ hst ⟨g, fp, wr, G, _, F, St, _, rfl, W, hst, htr, fun s' hmv => ?_⟩)
  obtain ⟨H2, hT, J⟩ := hI s' hmv
  exact ⟨.bl _, H2, J, rfl, by rw [all_signs a pb]; exact hR H2 hT⟩
end
end MyG

set_option Elab.async false
set_option linter.all false
set_option maxRecDepth 100000
set_option maxHeartbeats 4000000
/-! set(xs) of a list or a tuple, by what one adding does: J i h says what the set at S holds of the first i items in the heap h. -/
namespace MyS
open PySem PySem.Spec PyProof.Rows L2
section
variable {P : Program} {w : World} {A : Around} {E : Value → Shared → Prop} {s : Shared}
/-- one adding -/
def Adds (P : Program) (w : World) (A : Around) (S : Addr) (h0 : Heap) (J : Nat → Heap → Prop) (i : Nat) (v : Value) : Prop :=
  ∀ (z : Shared) (Q : Bool → Shared → Prop) (E : Value → Shared → Prop), J i z.heap → (∀ b o, h0.get? b = some o → z.heap.get? b = some o) →
    (∀ b h' tk, z.toks ≤ tk → Heap.SameBut S z.heap h' → J (i + 1) h' → Q b { z with heap := h', toks := tk }) → wpAny (model P w) A (setAdd S v) Q E z
def KeepsJ (S : Addr) (h0 : Heap) (J : Nat → Heap → Prop) : Prop := ∀ i h h', J i h → (∀ o, h.get? S = some o → h'.get? S = some o) → (∀ b o, h0.get? b = some o → h'.get? b = some o) → J i h'
theorem loopJ {I : Addr} {fp wr : List Addr} {G : Array GenState → Array GenState → Prop} {n : Nat} {Pv : Nat → Value → Prop} {St : Nat → Shared → Prop} {R : Result → Shared → Prop} {J : Nat → Heap → Prop} {S : Addr} {h0 : Heap}
    (W : WalksS P w A.in1 I fp wr G n Pv St) (hSf : S ∉ fp) (hS0 : h0.get? S = none) (hw0 : ∀ b ∈ wr, h0.get? b = none) (kj : KeepsJ S h0 J) (step : ∀ i v, i < n → Pv i v → Adds P w A.in1 S h0 J i v) :
    ∀ (k i : Nat) (z : Shared), n - i = k → i ≤ n → St i z → (∀ b o, h0.get? b = some o → z.heap.get? b = some o) → J i z.heap →
      (∀ z', Moved (S :: wr) G z z' → J n z'.heap → (∀ b o, h0.get? b = some o → z'.heap.get? b = some o) → R (.ok (.ret .none)) z') →
      codeAny (model P w) A (.builtin "set.update.loop" ⟨[.ref S, .ref I], []⟩) R z := by
  have Sw : S ∉ wr := fun h => hSf (W.sub _ h)
  have up : ∀ b ∈ wr, b ∈ S :: wr := fun b hb => List.mem_cons_of_mem _ hb
  have old : ∀ {z z' : Shared}, Moved wr G z z' → (∀ b o, h0.get? b = some o → z.heap.get? b = some o) → ∀ b o, h0.get? b = some o → z'.heap.get? b = some o := fun m k b o e =>
    m.heap b o (fun hb => by rw [hw0 b hb] at e; cases e) (k b o e)
  intro k
  induction k with
  | zero =>
    intro i z hk hi hst hkp hJ hR
    obtain rfl : i = n := by omega
    refine codeAny_builtin F.entry_set_update_loop ?_
    rw [Around.under_plainId F.plain_set_update_loop _]
    show wpAny _ A.in1 (pyNext (.ref I) >>= _) _ _ z
    refine wpAny_bind (W.done z _ _ hst fun z' m => ?_)
    show wpAny _ A.in1 (ret Value.none) _ _ z'
    have o' := old m hkp
    exact wpAny_pure (hR z' (m.mono up) (kj _ _ _ hJ (fun o e => m.heap S o Sw e) o') o')
  | succ k ih =>
    intro i z hk hi hst hkp hJ hR
    have lt : i < n := by omega
    refine codeAny_builtin F.entry_set_update_loop ?_
    rw [Around.under_plainId F.plain_set_update_loop _]
    show wpAny _ A.in1 (pyNext (.ref I) >>= _) _ _ z
    refine wpAny_bind (W.item i z _ _ lt hst fun v z' hP hst' m => ?_)
    have o' := old m hkp
    show wpAny _ A.in1 (holding [v] (setAdd S v) >>= _) _ _ z'
    refine wpAny_bind (wpAny_holding (step i v lt hP z' _ _ (kj _ _ _ hJ (fun o e => m.heap S o Sw e) o') o' fun b h' tk ht sb hJ2 => ?_))
    have nS : ∀ {b : Addr}, b ≠ S → ∀ o, z'.heap.get? b = some o → h'.get? b = some o := fun hb o e => (sb.2 _ hb).trans e
    have o2 : ∀ b o, h0.get? b = some o → h'.get? b = some o := fun b o e => nS (fun q => by rw [q, hS0] at e; cases e) o (o' b o e)
    refine wpAny_pure ⟨plainId_quiet F.plain_set_update_loop _, ih (i + 1) _ (by omega) lt (W.frame _ z' _ _ hst' ht fun b hb o e => nS (fun q => hSf (by rw [← q]; exact hb)) o e) o2 hJ2 fun z2 m2 hJ3 o3 => ?_⟩
    exact hR z2 (Moved.trans W.gtrans ((m.mono up).then_heap ht fun b o hb e => nS (fun q => hb (by rw [q]; exact List.mem_cons_self)) o e) m2) hJ3 o3

abbrev freshSet (w : World) : Obj := { cls := .type "set", dict := none, data := .set #[] 0 (.fresh 0 0 (!w.params.followText "set-order")) }
theorem gone_of {h : Heap} {b : Addr} (hb : h.objs.size ≤ b) : h.get? b = none := by
  cases q : h.get? b with
  | none => rfl
  | some o => exact absurd (Nat.lt_of_lt_of_le (Heap.lt_size q) hb) (Nat.lt_irrefl _)
theorem code_new (a : Value) {Q₁ : Value → Shared → Prop} (h : Q₁ (.ref s.heap.objs.size) { s with heap := s.heap.push (freshSet w) }) :
    codeAny (model P w) A (.call (.builtin "set.__new__") ⟨[.type "set", a], []⟩) (wants Q₁ E) s := code_set_led1 a h
set_option maxHeartbeats 3200000 in
/-- set(l), l a list or a tuple of n items -/
theorem call_setJ {l : Addr} {items : Array Value} {J : Nat → Heap → Prop} {Q : Value → Shared → Prop} (hh : A.handled = none) (hl : s.heap.IsList l items ∨ s.heap.IsTuple l items) (hJ0 : ∀ h, h.get? s.heap.objs.size = some (freshSet w) → J 0 h)
    (kj : KeepsJ s.heap.objs.size s.heap J) (hex : ∀ h, J items.size h → ∃ o, h.get? s.heap.objs.size = some o) (step : ∀ (A' : Around), A'.units ≤ A.units + 4 → ∀ i v, items[i]? = some v → Adds P w A' s.heap.objs.size s.heap J i v)
    (h : ∀ (h' : Heap) (tk : Nat), J items.size h' → (∀ b o, s.heap.get? b = some o → h'.get? b = some o) → (∃ o, h'.get? s.heap.objs.size = some o) → Q (.ref s.heap.objs.size) { s with heap := h', toks := tk }) :
    wpAny (model P w) A (call (.type "set") [.ref l]) Q E s := by
  obtain ⟨c, tl, hmro⟩ := F.called_set.mro
  have hmade := F.called_set.made
  have hsub := F.called_set.sub
  refine wpAny_call (codeAny_of_tree ?_)
  show wpAny _ _ (callAny (.type "set") _) _ _ _
  refine wpAny_pure ⟨Code.quiet_builtin _ (by decide +kernel), codeAny_builtin F.entry_type_call ?_⟩
  rw [Around.under_plain (weight_type_call_type "set" [.ref l] []) rfl]
  have h1 := F.called_set.notType
  have h2 := F.called_set.canCreate
  have hct := F.typeCall_set_1 (.ref l)
  repeat (any_goals (first | assumption | wp_step))

  refine codeAny_mono (code_new (.ref l) (E := E) (Q₁ := fun obj z => obj = .ref s.heap.objs.size ∧ z = { s with heap := s.heap.push (freshSet w) }) ⟨rfl, rfl⟩) fun r z hr => ?_
  cases r with
  | error e => exact hr
  | ok fl =>
    cases fl with
    | ret obj =>
      obtain ⟨rfl, rfl⟩ := hr
      have hS : (s.heap.push (freshSet w)).get? s.heap.objs.size = some (freshSet w) := Heap.get?_push_size _ rfl
      have hT : Shared.TypeIs { s with heap := s.heap.push (freshSet w) } (.ref s.heap.objs.size) "set" := ⟨_, hS, rfl⟩
      have hli := F.called_set.init.lookup
      have hbi := F.called_set.init.bind (.ref s.heap.objs.size)
      repeat (any_goals (first | assumption | wp_step))

      refine codeAny_mono (codeAny_call_builtin (R := wants (fun r z => r = .none ∧ ∃ h' tk, z = { s with heap := h', toks := tk } ∧ J items.size h' ∧ (∀ b o, s.heap.get? b = some o → h'.get? b = some o) ∧ ∃ o, h'.get? s.heap.objs.size = some o) E) F.called_set.init.plain F.entry_set_init (check_set_init_1 hT ?_)) fun r₂ z₂ hr₂ => ?_
      · have hneS : ∀ b o, s.heap.get? b = some o → b ≠ s.heap.objs.size := fun b o e z => Nat.lt_irrefl _ (z ▸ Heap.lt_size e)
        have szp : (s.heap.push (freshSet w)).objs.size = s.heap.objs.size + 1 := Heap.size_push ..
        have hu3 : (A.in1.in1.in1).units ≤ A.units + 4 := by have e : (A.in1.in1.in1).units = A.units + 3 := rfl; omega
        rcases hl with hl | hl
        · obtain ⟨ol, hol, hcl, nl, hdl⟩ := hl
          obtain ⟨ocls, odict, odata, oslots⟩ := ol
          simp only at hcl hdl
          subst hcl; subst hdl
          have hol' : (s.heap.push (freshSet w)).get? l = some { cls := .type "list", dict := odict, data := .seq items nl, slots := oslots } := Heap.get?_push_of_some _ hol
          have hsls := F.sub_list_set
          have hslf := F.sub_list_frozenset
          have hne : (Value.type "list" == Value.type "dict") = false := by decide
          have hl1 : (s.heap.push (freshSet w)).IsList l items := ⟨_, hol', rfl, nl, rfl⟩
          unfold Builtin.«set.__init__» noKeywords Builtin.Frozenset.updateFrom
          generalize hPI : pyIter = PI
          wp_walk
          subst hPI

          refine wpAny_pyIter_list hl1 ?_
          refine wpAny_bind (wpAny_runValue ?_)
          have hlS : l < s.heap.objs.size := Heap.lt_size hol
          have hneI : l ≠ (s.heap.push (freshSet w)).objs.size := by
            rw [szp]; exact Nat.ne_of_lt (Nat.lt_succ_of_lt hlS)
          have hSf : s.heap.objs.size ∉ [(s.heap.push (freshSet w)).objs.size, l] := fun z => by
            rw [szp] at z
            rcases List.mem_cons.mp z with z | z
            · exact Nat.ne_of_lt (Nat.lt_succ_self _) z
            · exact Nat.ne_of_gt hlS (List.mem_singleton.mp z)
          refine loopJ (S := s.heap.objs.size) (h0 := s.heap) (J := J) ((Walks.list (show A.in1.in1.in1.handled = none by simp [hh]) _ l hneI items).toS) hSf (gone_of (Nat.le_refl _)) (fun b hb => gone_of (by
              rw [List.mem_singleton.mp hb, szp]
              exact Nat.le_succ _)) kj (fun i v _ hv => step _ hu3 i v hv) (items.size - 0) 0 _ (by omega) (Nat.zero_le _)
            ⟨⟨_, Heap.get?_push_size _ rfl, rfl, rfl⟩, (hl1.push _)⟩ (fun b o e => Heap.get?_push_of_some _ (Heap.get?_push_of_some _ e)) (hJ0 _ (Heap.get?_push_of_some _ hS)) ?_
          intro z' m hJ o'
          have hso : ∃ o, z'.heap.get? s.heap.objs.size = some o := hex _ hJ
          obtain ⟨h', g2, d', tk', os'⟩ := z'
          have eg : g2 = s.gens := m.gens
          have ed : d' = s.drawn := m.drawn
          have eo : os' = s.os := m.os
          subst eg; subst ed; subst eo
          show wpAny _ _ _ _ _ _
          refine wpAny_pure ?_
          show wpAny _ _ (ret Value.none) _ _ _
          exact wpAny_pure ⟨rfl, h', tk', rfl, hJ, o', hso⟩
        · obtain ⟨ol, hol, hcl, nl, hdl⟩ := hl
          obtain ⟨ocls, odict, odata, oslots⟩ := ol
          simp only at hcl hdl
          subst hcl; subst hdl
          have hol' : (s.heap.push (freshSet w)).get? l = some { cls := .type "tuple", dict := odict, data := .seq items nl, slots := oslots } := Heap.get?_push_of_some _ hol
          have hsls := F.sub_tuple_set
          have hslf := F.sub_tuple_frozenset
          have hne : (Value.type "tuple" == Value.type "dict") = false := by decide
          have hl1 : (s.heap.push (freshSet w)).IsTuple l items := ⟨_, hol', rfl, nl, rfl⟩
          unfold Builtin.«set.__init__» noKeywords Builtin.Frozenset.updateFrom
          generalize hPI : pyIter = PI
          wp_walk
          subst hPI

          refine wpAny_pyIter_tuple hl1 ?_
          refine wpAny_bind (wpAny_runValue ?_)
          have hlS : l < s.heap.objs.size := Heap.lt_size hol
          have hneI : l ≠ (s.heap.push (freshSet w)).objs.size := by
            rw [szp]; exact Nat.ne_of_lt (Nat.lt_succ_of_lt hlS)
          have hSf : s.heap.objs.size ∉ [(s.heap.push (freshSet w)).objs.size, l] := fun z => by
            rw [szp] at z
            rcases List.mem_cons.mp z with z | z
            · exact Nat.ne_of_lt (Nat.lt_succ_self _) z
            · exact Nat.ne_of_gt hlS (List.mem_singleton.mp z)
          refine loopJ (S := s.heap.objs.size) (h0 := s.heap) (J := J) ((Walks.tuple (show A.in1.in1.in1.handled = none by simp [hh]) _ l hneI items).toS) hSf (gone_of (Nat.le_refl _)) (fun b hb => gone_of (by
              rw [List.mem_singleton.mp hb, szp]
              exact Nat.le_succ _)) kj (fun i v _ hv => step _ hu3 i v hv) (items.size - 0) 0 _ (by omega) (Nat.zero_le _)
            ⟨⟨_, Heap.get?_push_size _ rfl, rfl, rfl⟩, (hl1.push _)⟩ (fun b o e => Heap.get?_push_of_some _ (Heap.get?_push_of_some _ e)) (hJ0 _ (Heap.get?_push_of_some _ hS)) ?_
          intro z' m hJ o'
          have hso : ∃ o, z'.heap.get? s.heap.objs.size = some o := hex _ hJ
          obtain ⟨h', g2, d', tk', os'⟩ := z'
          have eg : g2 = s.gens := m.gens
          have ed : d' = s.drawn := m.drawn
          have eo : os' = s.os := m.os
          subst eg; subst ed; subst eo
          show wpAny _ _ _ _ _ _
          refine wpAny_pure ?_
          show wpAny _ _ (ret Value.none) _ _ _
          exact wpAny_pure ⟨rfl, h', tk', rfl, hJ, o', hso⟩
      · cases r₂ with
        | error e => exact hr₂
        | ok fl₂ =>
          cases fl₂ with
          | ret r =>
            obtain ⟨rfl, h', tk, rfl, hJ, hk', ho⟩ := hr₂
            repeat (any_goals (first | assumption | wp_step))
            exact h _ _ hJ hk' ho
          | _ => exact hr₂.elim
    | _ => exact hr.elim
end
end MyS

set_option Elab.async false
set_option linter.all false
set_option maxRecDepth 100000
set_option maxHeartbeats 4000000
/-! len(set(xs)) of a list or a tuple of texts: as many as there are different ones. -/
namespace MyS
open PySem PySem.Spec PyProof.Rows L2
theorem nodup_snoc {α : Type} {l : List α} {x : α} : (l ++ [x]).Nodup ↔ l.Nodup ∧ x ∉ l := by
  rw [List.nodup_append]
  constructor
  · rintro ⟨h1, _, h3⟩
    exact ⟨h1, fun h => h3 x h x (List.mem_singleton.mpr rfl) rfl⟩
  · rintro ⟨h1, h2⟩
    refine ⟨h1, by simp, fun a ha b hb e => ?_⟩
    rw [List.mem_singleton.mp hb] at e
    exact h2 (e ▸ ha)
/-- how many different ones the first i items are: n, whole exactly if they all differ -/
structure Cnt {α : Type} (l : List α) (n : Nat) : Prop where
  le : n ≤ l.length
  eq : n = l.length ↔ l.Nodup
theorem Cnt.nil {α : Type} : Cnt ([] : List α) 0 := ⟨Nat.le_refl _, ⟨fun _ => List.nodup_nil, fun _ => rfl⟩⟩
theorem Cnt.old {α : Type} {l : List α} {n : Nat} {x : α} (c : Cnt l n) (h : x ∈ l) : Cnt (l ++ [x]) n := by
  have h1 := c.le
  refine ⟨by rw [List.length_append]; exact Nat.le_succ_of_le h1, ?_⟩
  rw [List.length_append, List.length_singleton]
  exact ⟨fun e => absurd e (by omega), fun e => absurd h (nodup_snoc.mp e).2⟩
theorem Cnt.new {α : Type} {l : List α} {n : Nat} {x : α} (c : Cnt l n) (h : x ∉ l) : Cnt (l ++ [x]) (n + 1) := by
  have h1 := c.le
  refine ⟨by rw [List.length_append, List.length_singleton]; omega, ?_⟩
  rw [List.length_append, List.length_singleton, nodup_snoc, ← c.eq]
  constructor
  · intro e; exact ⟨by omega, h⟩
  · rintro ⟨e, _⟩; omega
section
variable {P : Program} {w : World} {A : Around} {E : Value → Shared → Prop} {s : Shared}
/-- the set at S behind the first i texts -/
def JT (P : Program) (w : World) (S : Addr) (xs : List Str) (i : Nat) (h : Heap) : Prop := ∃ n M, h.SetOf (PySem.strKind P w) S M n ∧ (∀ k, M k = true ↔ k ∈ xs.take i) ∧ Cnt (xs.take i) n
theorem take_snoc {α : Type} {l : List α} {i : Nat} {x : α} (h : l[i]? = some x) : l.take (i + 1) = l.take i ++ [x] := by rw [List.take_succ, h]; rfl
theorem JT.adds {S : Addr} {xs : List Str} {h0 : Heap} {i : Nat} {x : Str} {t : Tok} (hx : xs[i]? = some x) (hb : xs.length + 1 < scanBound) : Adds P w A S h0 (JT P w S xs) i (.str x t) := by
  intro z Q E hJ hk hQ
  obtain ⟨n, M, hS, hM, hc⟩ := hJ
  have hi : i < xs.length := (List.getElem?_eq_some_iff.mp hx).1
  have hn := hc.le
  rw [List.length_take] at hn
  unfold setAdd
  refine wpAny_holding ?_
  refine wpAny_bind ((PySem.strKind P w).pyHash (k := x) (strKind_is _ _ _ _) ?_)
  refine wpAny_setAddHashed_of (knd := PySem.strKind P w) (s := { z with toks := z.toks + 1 }) (strKind_is _ _ _ _) rfl hS (by omega) fun h' sb hS2 => ?_
  refine hQ _ h' _ (Nat.le_succ _) sb ⟨_, _, hS2, fun k => ?_, ?_⟩
  · rw [take_snoc hx, Bool.or_eq_true, hM k, decide_eq_true_eq, List.mem_append, List.mem_singleton]
  · rw [take_snoc hx]
    by_cases q : M x = true
    · rw [if_pos q]
      exact hc.old ((hM x).mp q)
    · rw [if_neg q]
      exact hc.new fun m => q ((hM x).mpr m)
theorem JT.keeps {S : Addr} {xs : List Str} {h0 : Heap} : KeepsJ S h0 (JT P w S xs) := by
  rintro i h h' ⟨n, M, ⟨o, es, ep, t, ho, r⟩, hM, hc⟩ k1 _
  exact ⟨n, M, ⟨o, es, ep, t, k1 o ho, r⟩, hM, hc⟩
theorem JT.zero {S : Addr} {xs : List Str} {h : Heap} (ho : h.get? S = some (freshSet w)) : JT P w S xs 0 h := by
  refine ⟨0, fun _ => false, ⟨_, #[], 0, _, ho, ⟨rfl, rfl, rfl⟩, rfl, (fun e he => by simp at he), (fun k => by simp), by decide, rfl, rfl⟩, fun k => by simp, Cnt.nil⟩
end
section
variable {X : Cx}
/-- len(set(xs)) -/
def tLenSetS (K : PySem.W.Frag) (ta : TE) : TE := fun σ H Q => ta σ H fun x H1 => ∃ (l : Addr) (xs : List Str), x = .ref l ∧ (SqL K H1 l (xs.map V.str) ∨ SqT K H1 l (xs.map V.str)) ∧ xs.length ≤ 4000 ∧ ∀ n, Cnt xs n → Q (.int (n : Nat)) H1
theorem strs_get {ys : List Str} {us : List Value} (r : Vals (ys.map V.str) us) {i : Nat} {v : Value} (h : us[i]? = some v) : ∃ x t, ys[i]? = some x ∧ v = .str x t := by
  have hl : i < ys.length := by
    have q := (List.getElem?_eq_some_iff.mp h).1
    have e := r.length
    rw [List.length_map] at e
    omega
  obtain ⟨u, e1, e2⟩ := Vals.get r (i := i) (x := V.str ys[i]) (by rw [List.getElem?_map, List.getElem?_eq_getElem hl]; rfl)
  rw [h] at e1
  cases e1
  obtain ⟨t, e⟩ := e2
  exact ⟨ys[i], t, List.getElem?_eq_getElem hl, e⟩
theorem pe_lenSetS {a : Expr} {ta : TE} {p p2 q pos : Pos} (hc : X.calm = true) (hm : X.mg "len" = none) (hm2 : X.mg "set" = none) (ha : PE X a ta) (hg : Gl X "len" := by rfl) (hg2 : Gl X "set" := by rfl)
    (na : starEach [a] X.env = (false, eval a X.env) :: starEach [] X.env := by rfl) : PE X (.Call (.Name "len" p) [.Call (.Name "set" p2) [a] [] q] [] pos) (tLenSetS X.K ta) := by
  refine ⟨fun pins s σ H Q I h => ?_⟩
  refine Call_ (ld_blt I hg hm boot_len ?_)
  refine PyProof.Rows.callWith_builtin1 (PyProof.Rows.args_cons ?_ rfl) rfl rfl
  refine Call_ (ld_blt I hg2 hm2 boot_set ?_)
  refine PyProof.Rows.callWith_type1 (PyProof.Rows.args_cons (thn (ha.run pins s σ H _ I h) fun v s1 ⟨x, H1, I1, r1, q1⟩ => PyProof.Rows.args_nil ?_) na) na rfl
  obtain ⟨l, xs, rfl, hq, h1, q1⟩ := q1
  cases r1
  have go : ∀ (its : List Value), Vals (xs.map V.str) its → (s1.heap.IsList l its.toArray ∨ s1.heap.IsTuple l its.toArray) → wpAny (model X.prog X.w) X.A (call (.type "set") [.ref l])
      (fun v s₂ => wpAny (model X.prog X.w) X.A (spliced (backTo pos (starEach [] X.env))) (fun vs s₃ => wpAny (model X.prog X.w) X.A (call (.builtin "len") (v :: vs)) (EP X pins σ Q) X.xe s₃) X.xe s₂) X.xe s1 := fun its r hl => by
    have hsz : its.toArray.size = xs.length := by rw [List.size_toArray, ← r.length, List.length_map]
    have hbd : xs.length + 1 < scanBound := by unfold scanBound; omega
    refine call_setJ (J := JT X.prog X.w s1.heap.objs.size xs) (I1.ok.hd hc) hl (fun h ho => JT.zero ho) JT.keeps (fun h hJ => ?_) (fun A' _ i v hv => ?_) fun h' tk hJ hk _ => ?_
    · obtain ⟨n, M, ⟨o, es, ep, t, ho, _⟩, _⟩ := hJ
      exact ⟨o, ho⟩
    · obtain ⟨x, t, hx, rfl⟩ := strs_get r (i := i) (v := v) (by simpa using hv)
      exact JT.adds hx hbd
    · rw [hsz] at hJ
      obtain ⟨n, M, ⟨o, es, ep, t, ho, hex, hd, _, _, _, hf, hn⟩, hM, hcn⟩ := hJ
      rw [List.take_length] at hcn
      have I2 : Inv X pins σ H1 { s1 with heap := h', toks := tk } := I1.kept fun b o e => hk b o e
      refine PyProof.Rows.args_nil ?_
      have hle := hcn.le
      refine call_len_set ho hex hd hf (by rw [hn]; omega) ⟨.int (n : Nat), H1, I2.tok _, ⟨_, by rw [hn]⟩, q1 n hcn⟩
  rcases hq with hq | hq
  · obtain ⟨its, r, pl, hz⟩ := I1.list hq
    exact go its r (.inl pl.isList)
  · obtain ⟨its, r, pl, hz⟩ := I1.tuple hq
    exact go its r (.inr (by first | exact pl | exact pl.isTuple))
end
end MyS

set_option Elab.async false
set_option linter.all false
set_option maxRecDepth 100000
set_option maxHeartbeats 4000000
/-! len(set(xs)) of a list of tuples of texts, fewer than 64: over the library's table of a set (TabOk, go_spec, relaid_ok). -/
namespace MyS
open PySem PySem.Spec PyProof.Rows L2
section
variable {P : Program} {w : World} {A : Around} {E : Value → Shared → Prop} {s : Shared}
/-- the tuple at b has the texts k; its hash -/
abbrev IsP (P : Program) (w : World) (h : Heap) (k : List Str) (b : Addr) : Prop := IsTupleKey (PySem.strKind P w) h k b
abbrev hashP (P : Program) (w : World) (k : List Str) : Int := tupleKeyHash (PySem.strKind P w) k
theorem IsP.keep {h h' : Heap} {k : List Str} {b : Addr} (x : IsP P w h k b) (hk : ∀ o, h.get? b = some o → h'.get? b = some o) : IsP P w h' k b :=
  let ⟨o, items, n, ho, r⟩ := x; ⟨o, items, n, hk o ho, r⟩
theorem strs_of {k : List Str} {vs : List Value} (h : ItemsAre (PySem.strKind P w) k vs) : ∀ v ∈ vs, ∃ x t, v = Value.str x t := by
  induction h with
  | nil => intro v hv; cases hv
  | @cons k0 v' ks vs h1 _ ih =>
    intro v hv
    rcases List.mem_cons.mp hv with e | hv
    · obtain ⟨t, e2⟩ := Value.isStrOf_shape h1
      exact ⟨k0, t, e.trans e2⟩
    · exact ih v hv
/-- a text is of no class statement -/
theorem noClass_str (n : Nat) (x : Str) (t : Tok) : ofAClassStatement n (.str x t) = pure false := by cases n <;> rfl
theorem hashBy_str (n : Nat) (x : Str) (t : Tok) : hashByValue n (.str x t) = pure false := by cases n <;> rfl
theorem noClass {k : List Str} {b : Addr} {Q : Bool → Shared → Prop} (hk : IsP P w s.heap k b) (h : Q false s) : wpAny (model P w) A (ofAClassStatement 8 (.ref b)) Q E s := by
  have hT := hk.typeIs
  obtain ⟨o, items, n, ho, _, hd, hi⟩ := hk
  unfold ofAClassStatement
  refine wpAny_bind (wpAny_typeOf hT ?_)
  have e : (("tuple" : String) == "tuple") = true := by decide
  simp only [e, if_true, Bool.not_true, Bool.false_eq_true, if_false]
  try refine wpAny_bind (wpAny_pure ?_)
  try simp only [Bool.not_true, Bool.false_eq_true, if_false]
  show wpAny _ _ (seqItems? (.ref b) >>= _) _ _ s
  refine wpAny_bind (wpAny_seqItems ho hd ?_)
  refine wpAny_bind ?_
  show wpAny _ _ (forIn items _ _) _ _ s
  rw [← Array.forIn_toList]
  refine wpAny_forIn_list _ (fun rest r z => r.1 = none ∧ z = s ∧ ∀ v ∈ rest, ∃ x t, v = Value.str x t) _ ?_ ?_ _ _ ⟨rfl, rfl, strs_of hi⟩
  · rintro v rest r z ⟨hr, rfl, hall⟩
    obtain ⟨x, t, rfl⟩ := hall v List.mem_cons_self
    rw [noClass_str]
    refine wpAny_bind (wpAny_pure ?_)
    simp only [Bool.false_eq_true, if_false]
    exact wpAny_pure ⟨rfl, rfl, fun u hu => hall u (List.mem_cons_of_mem _ hu)⟩
  · rintro ⟨r1, r2⟩ z ⟨hr, rfl, _⟩
    simp only at hr
    subst hr
    exact wpAny_pure h
/-- whether the hash is by value: either answer will do -/
theorem hashBy {k : List Str} {b : Addr} {Q : Bool → Shared → Prop} (hk : IsP P w s.heap k b) (h : ∀ r, Q r s) : wpAny (model P w) A (hashByValue 8 (.ref b)) Q E s := by
  have hT := hk.typeIs
  obtain ⟨o, items, n, ho, _, hd, hi⟩ := hk
  unfold hashByValue
  refine wpAny_bind (wpAny_specialOf hT F.slot_tuple_hash.lookup ?_)
  show wpAny _ _ (seqItems? (.ref b) >>= _) _ _ s
  refine wpAny_bind (wpAny_seqItems ho hd ?_)
  refine wpAny_bind ?_
  show wpAny _ _ (forIn items _ _) _ _ s
  rw [← Array.forIn_toList]
  refine wpAny_forIn_list _ (fun rest r z => r.1 = none ∧ z = s ∧ ∀ v ∈ rest, ∃ x t, v = Value.str x t) _ ?_ ?_ _ _ ⟨rfl, rfl, strs_of hi⟩
  · rintro v rest r z ⟨hr, rfl, hall⟩
    obtain ⟨x, t, rfl⟩ := hall v List.mem_cons_self
    rw [hashBy_str]
    refine wpAny_bind (wpAny_pure ?_)
    simp only [Bool.not_false, if_true]
    exact wpAny_pure (wpAny_pure (h _))
  · rintro ⟨r1, r2⟩ z ⟨hr, rfl, _⟩
    simp only at hr
    subst hr
    exact wpAny_pure (h _)
/-- a search among such tuples shows nothing -/
theorem unseen {k : List Str} {b : Addr} {Q : Bool → Shared → Prop} (hk : IsP P w s.heap k b) {ys : List Value} (hy : ∀ y ∈ ys, ∃ k' c, y = Value.ref c ∧ IsP P w s.heap k' c) (h : Q false s) :
    wpAny (model P w) A (searchCouldBeSeen (.ref b) ys) Q E s := by
  unfold searchCouldBeSeen
  refine wpAny_bind ?_
  refine wpAny_forIn_list _ (fun rest r z => r.1 = none ∧ z = s ∧ ∀ y ∈ rest, ∃ k' c, y = Value.ref c ∧ IsP P w s.heap k' c) _ ?_ ?_ _ _ ⟨rfl, rfl, hy⟩
  · rintro v rest r z ⟨hr, rfl, hall⟩
    obtain ⟨k', c, rfl, hc⟩ := hall v List.mem_cons_self
    have more : ∀ y ∈ rest, ∃ k' c, y = Value.ref c ∧ IsP P w z.heap k' c := fun u hu => hall u (List.mem_cons_of_mem _ hu)
    by_cases hv : (b == c || (carriedByValue (.ref b) && carriedByValue (.ref c))) = true
    · refine wp_if_pos hv ?_
      exact wpAny_pure ⟨rfl, rfl, more⟩
    · refine wp_if_neg hv ?_
      refine wpAny_bind (wpAny_eqIsQuiet_tuple hk ?_)
      simp only [Bool.not_true, Bool.false_eq_true, if_false]
      refine wpAny_bind (wpAny_eqIsQuiet_tuple hc ?_)
      simp only [Bool.not_true, Bool.false_eq_true, if_false]
      refine wpAny_bind (noClass hk ?_)
      simp only [Bool.false_eq_true, if_false]
      refine wpAny_bind (noClass hc ?_)
      simp only [Bool.false_eq_true, if_false]
      exact wpAny_pure ⟨rfl, rfl, more⟩
  · rintro ⟨r1, r2⟩ z ⟨hr, rfl, _⟩
    simp only at hr
    subst hr
    exact wpAny_pure h

/-! ### the set at a, its tuples in the table's order -/
def rowP (P : Program) (w : World) (p : Addr × List Str) : Int × Value := (hashP P w p.2, .ref p.1)
structure PSet (P : Program) (w : World) (h : Heap) (a : Addr) (L : List (Addr × List Str)) (es : Array (Int × Value)) (ep : Nat) (t : SetTable) : Prop where
  ob : ∃ o, h.get? a = some o ∧ o.ExactSet ∧ o.data = .set es ep t
  rows : es.toList = L.map (rowP P w)
  tab : TabOk t (L.map fun p => hashP P w p.2)
  nd : (L.map (·.2)).Nodup
  tup : ∀ p ∈ L, IsP P w h p.2 p.1
  room : L.length * 5 < t.mask * 3
  few : L.length < 64
variable {a : Addr} {L : List (Addr × List Str)} {es : Array (Int × Value)} {ep : Nat} {t : SetTable}
theorem PSet.size (R : PSet P w s.heap a L es ep t) : es.size = L.length := by
  have h := congrArg List.length R.rows
  rwa [Array.length_toList, List.length_map] at h
theorem PSet.fits (R : PSet P w s.heap a L es ep t) : t.fits es.size = true := by
  have h1 := R.tab.sz
  rw [List.length_map] at h1
  have h2 := R.size
  have h3 := R.room
  unfold SetTable.fits SetTable.fill
  rw [R.tab.dm, Bool.and_eq_true, beq_iff_eq, decide_eq_true_eq]
  show t.place.size = es.size ∧ t.place.size + 0 ≤ t.mask
  omega
theorem PSet.entry (R : PSet P w s.heap a L es ep t) {i : Nat} {p : Addr × List Str} (h : L[i]? = some p) : es[i]? = some (rowP P w p) := by
  rw [← Array.getElem?_toList, R.rows, List.getElem?_map, h]
  rfl
/-- the way of the hash g through the table: the probe behind k steps -/
abbrev stepP (m : Nat) (g : Int) (k : Nat) : SetTable.Probe := nth m (runAt m (SetTable.bits g % (m + 1)) (SetTable.bits g)) k
theorem stepP_add (m : Nat) (g : Int) (c q : Nat) : nth m (stepP m g c) q = stepP m g (c + q) := (nth_add m c _ q).symm
theorem stepP_clean (m : Nat) (g : Int) (c : Nat) : (stepP m g c).dummy = none := by
  have key : ∀ (n : Nat) (p : SetTable.Probe), p.dummy = none → (nth m p n).dummy = none := by
    intro n
    induction n with
    | zero => intro p h; exact h
    | succ n ih =>
      intro p h
      refine ih (adv m p) ?_
      unfold adv
      split <;> exact h
  exact key c _ rfl
/-- what is asked of the search for k among L: found, or the first free slot of the way -/
structure Seek (P : Program) (w : World) (t : SetTable) (L : List (Addr × List Str)) (k : List Str) (K : Nat) (Q : SetFound → Shared → Prop) (z : Shared) : Prop where
  few : K < 10 * SetTable.turns t.mask
  free : way t.mask (hashP P w k) K ∉ t.place.toList
  full : ∀ c, c < K → way t.mask (hashP P w k) c ∈ t.place.toList
  hit : k ∈ L.map (·.2) → Q (.there none) z
  miss : k ∉ L.map (·.2) → Q (.free (way t.mask (hashP P w k) K) false) z
theorem seek {x : Addr} {k : List Str} {K : Nat} {Q : SetFound → Shared → Prop} (R : PSet P w s.heap a L es ep t) (hx : IsP P w s.heap k x) (hu : A.units < cLine) (B : Seek P w t L k K Q s) :
    ∀ (f c : Nat) (stand : Option SetTable.Probe), stand.getD (t.probeStart (hashP P w k)) = stepP t.mask (hashP P w k) c → c ≤ K → K - c < f →
      (∀ (i : Nat) p, L[i]? = some p → p.2 = k → ∃ c', c ≤ c' ∧ c' < K ∧ t.place.toList[i]? = some (way t.mask (hashP P w k) c')) →
      wpAny (model P w) A (setSearchFrom a (.ref x) (hashP P w k) true f stand) Q E s
  | 0, c, stand, _, _, hf, _ => absurd hf (Nat.not_lt_zero _)
  | f + 1, c, stand, hst, hc, hf, hre => by
    obtain ⟨o, ho, hex, hd⟩ := R.ob
    rw [setSearchFrom_succ]
    refine wpAny_bind (wpAny_setState_of ho hd R.fits ?_)
    dsimp only
    refine wp_if_neg (by unfold SetTable.gaveWay; rw [mask_odd R.tab.mok]; decide) ?_
    try refine wpAny_bind (wpAny_pure ?_)
    have at_ : ∀ q, (nth t.mask (stepP t.mask (hashP P w k) c) q).j = way t.mask (hashP P w k) (c + q) := fun q => congrArg SetTable.Probe.j (stepP_add _ _ _ _)
    have hashAt : ∀ (i : Nat) p, L[i]? = some p → (fun i => (es[i]?.map (·.1)).getD 0) i = hashP P w p.2 := fun i p hp => by
      show (es[i]?.map (·.1)).getD 0 = _
      rw [R.entry hp]
      rfl
    rcases go_spec t R.tab.ris R.tab.dm (fun i => (es[i]?.map (·.1)).getD 0) (hashP P w k) (10 * SetTable.turns t.mask) (K - c) _ (stepP_clean t.mask (hashP P w k) c) (by have := B.few; omega)
      (fun q hq => by rw [at_]; exact B.full (c + q) (by omega)) (by rw [at_, show c + (K - c) = K by omega]; exact B.free) with ⟨q, i, hq, hi, hh, hno, hpr⟩ | ⟨hno, hpr⟩
    · -- a candidate: the entry i at the slot of the step c + q
      have hpr' : t.probe (fun i => (es[i]?.map (·.1)).getD 0) (hashP P w k) (stand.getD (t.probeStart (hashP P w k))) = some (.candidate (way t.mask (hashP P w k) (c + q)) i (stepP t.mask (hashP P w k) (c + (q + 1)))) := by
        rw [hst, ← at_, ← stepP_add]
        exact hpr
      rw [hpr']
      dsimp only
      rw [at_] at hi
      have hil : i < L.length := by
        have h1 : i < t.place.toList.length := (List.getElem?_eq_some_iff.mp hi).1
        have h2 := R.tab.sz
        rw [List.length_map] at h2
        rw [Array.length_toList] at h1
        omega
      obtain ⟨p, hp⟩ : ∃ p, L[i]? = some p := ⟨_, List.getElem?_eq_getElem hil⟩
      have pm : p ∈ L := List.mem_of_getElem? hp
      have rest : wpAny (model P w) A (searchRest a (.ref x) (hashP P w k) true f es t (way t.mask (hashP P w k) (c + q)) i (stepP t.mask (hashP P w k) (c + (q + 1)))) Q E s := by
        unfold searchRest
        rw [R.entry hp]
        dsimp only [rowP]
        refine wpAny_bind (wpAny_holding (wpAny_eqBool_tuple hu (R.tup p pm) hx ?_))
        refine wpAny_bind (wpAny_setState_of ho hd R.fits ?_)
        dsimp only
        by_cases hkk : p.2 = k
        · refine wp_if_pos (by simp [hkk]) ?_
          exact wpAny_pure (B.hit (List.mem_map.mpr ⟨p, pm, hkk⟩))
        · refine wp_if_neg (by simp [hkk]) ?_
          try refine wpAny_bind (wpAny_pure ?_)
          rw [sameMem]
          dsimp only
          have hsl : t.slot (way t.mask (hashP P w k) (c + q)) = .live i := slot_live R.tab.ris hi
          simp only [if_true, hsl, R.entry hp, rowP]
          refine wpAny_bind (wpAny_isSame_ref_self (wpAny_bind (wpAny_pure ?_)))
          simp only [if_true]
          refine wp_if_neg (by simp [hkk]) ?_
          refine seek R hx hu B f (c + (q + 1)) _ rfl (by omega) (by omega) fun i0 p0 h0 hk0 => ?_
          obtain ⟨c', a1, a2, a3⟩ := hre i0 p0 h0 hk0
          refine ⟨c', ?_, a2, a3⟩
          -- what has k is not behind us
          rcases Nat.lt_trichotomy c' (c + q) with y | y | y
          · exact absurd ((hashAt i0 p0 h0).trans (congrArg (hashP P w) hk0)) (hno (c' - c) i0 (by omega) (by rw [at_, show c + (c' - c) = c' by omega]; exact a3))
          · rw [y] at a3
            have s0 := (slot_live R.tab.ris a3).symm.trans hsl
            injection s0 with s0
            rw [s0, hp] at h0
            cases h0
            exact absurd hk0 hkk
          · omega
      by_cases hl : t.led = true
      · refine wp_if_neg (by simp [hl]) ?_
        try refine wpAny_bind (wpAny_pure ?_)
        exact rest
      · refine wp_if_pos (by simp [hl]) ?_
        refine wpAny_bind (unseen hx (fun y hy => ?_) ?_)
        · obtain ⟨e, he, ee⟩ := List.mem_map.mp hy
          have he1 : e ∈ es ∧ e.1 = hashP P w k := by simpa using he
          have he2 : e ∈ es.toList := by simpa using he1.1
          rw [R.rows] at he2
          obtain ⟨p2, hp2, e2⟩ := List.mem_map.mp he2
          exact ⟨p2.2, p2.1, by rw [← ee, ← e2]; rfl, R.tup p2 hp2⟩
        · refine wp_if_neg (by decide) ?_
          try refine wpAny_bind (wpAny_pure ?_)
          exact rest
    · -- the way's first free slot
      have hpr' : t.probe (fun i => (es[i]?.map (·.1)).getD 0) (hashP P w k) (stand.getD (t.probeStart (hashP P w k))) = some (.empty (way t.mask (hashP P w k) K) none) := by
        have e2 : way t.mask (hashP P w k) K = (nth t.mask (stepP t.mask (hashP P w k) c) (K - c)).j := by rw [at_, show c + (K - c) = K by omega]
        rw [hst, e2]
        exact hpr
      rw [hpr']
      dsimp only
      refine wpAny_pure (B.miss fun hm => ?_)
      obtain ⟨p0, h0, hk0⟩ := List.mem_map.mp hm
      obtain ⟨i0, hi0, e0⟩ := List.getElem_of_mem h0
      have h00 : L[i0]? = some p0 := by rw [List.getElem?_eq_getElem hi0, e0]
      obtain ⟨c', a1, a2, a3⟩ := hre i0 p0 h00 hk0
      exact hno (c' - c) i0 (by omega) (by rw [at_, show c + (c' - c) = c' by omega]; exact a3) ((hashAt i0 p0 h00).trans (congrArg (hashP P w) hk0))
/-- the search as adding asks for it -/
theorem seek_all {x : Addr} {k : List Str} {Q : SetFound → Shared → Prop} (R : PSet P w s.heap a L es ep t) (hx : IsP P w s.heap k x) (hu : A.units < cLine) (hit : k ∈ L.map (·.2) → Q (.there none) s)
    (miss : ∀ K, k ∉ L.map (·.2) → way t.mask (hashP P w k) K ∉ t.place.toList → (∀ c, c < K → way t.mask (hashP P w k) c ∈ t.place.toList) → Q (.free (way t.mask (hashP P w k) K) false) s) :
    wpAny (model P w) A (setSearch a (.ref x) (hashP P w k) true) Q E s := by
  have hroom := R.room
  obtain ⟨K, f1, f2, f3⟩ := R.tab.first (by rw [List.length_map]; omega) (hashP P w k)
  have big : K < 100000 := by
    have : 10 * SetTable.turns t.mask ≤ 1420 := by
      unfold SetTable.turns
      rcases R.tab.mok with e | e | e <;> omega
    omega
  unfold setSearch
  refine seek R hx hu ⟨f1, f2, f3, hit, fun hn => miss K hn f2 f3⟩ 100000 0 none rfl (Nat.zero_le _) (by omega) fun i p hp hk => ?_
  have hi : (L.map fun p => hashP P w p.2)[i]? = some (hashP P w k) := by rw [List.getElem?_map, hp, ← hk]; rfl
  have hil : i < t.place.toList.length := by
    have h1 : i < L.length := (List.getElem?_eq_some_iff.mp hp).1
    have h2 := R.tab.sz
    rw [List.length_map] at h2
    rw [Array.length_toList]
    omega
  obtain ⟨c, hc, e⟩ := R.tab.before f2 hi (List.getElem?_eq_getElem hil)
  exact ⟨c, Nat.zero_le _, hc, by rw [List.getElem?_eq_getElem hil, e]⟩
/-- the entries in another order -/
theorem reorder {α : Type} (row : α → Int × Value) (L : List α) (es : Array (Int × Value)) (order : Array Nat) (hr : es.toList = L.map row) (hp : order.toList.Perm (List.range L.length)) :
    ∃ L2 : List α, (order.filterMap (es[·]?)).toList = L2.map row ∧ L2.Perm L ∧ (L2.map fun p => (row p).1) = order.toList.map fun i => (es.map (·.1)).getD i 0 := by
  have at_ : ∀ i, es[i]? = (L[i]?).map row := fun i => by rw [← Array.getElem?_toList, hr, List.getElem?_map]
  have all : (List.range L.length).filterMap (fun i => L[i]?) = L := by
    have key : ∀ n, n ≤ L.length → (List.range n).filterMap (fun i => L[i]?) = L.take n := by
      intro n
      induction n with
      | zero => intro _; rfl
      | succ n ih =>
        intro hn
        have hlt : n < L.length := hn
        rw [List.range_succ, List.filterMap_append, ih (Nat.le_of_lt hlt), List.take_succ, List.getElem?_eq_getElem hlt]
        simp [List.getElem?_eq_getElem hlt]
    rw [key L.length (Nat.le_refl _), List.take_length]
  refine ⟨order.toList.filterMap (fun i => L[i]?), ?_, ?_, ?_⟩
  · rw [Array.toList_filterMap, List.map_filterMap]
    congr 1
    funext i
    exact at_ i
  · have h := hp.filterMap (fun i => L[i]?)
    rwa [all] at h
  · have hlt : ∀ i ∈ order.toList, i < L.length := fun i hi => List.mem_range.mp (hp.mem_iff.mp hi)
    generalize order.toList = l at hlt
    induction l with
    | nil => rfl
    | cons i l ih =>
      have hi := hlt i List.mem_cons_self
      rw [List.filterMap_cons_some (List.getElem?_eq_getElem hi), List.map_cons, List.map_cons, ih fun j hj => hlt j (List.mem_cons_of_mem _ hj)]
      have e5 : (es.map (·.1))[i]? = some (row L[i]).1 := by rw [Array.getElem?_map, at_, List.getElem?_eq_getElem hi]; rfl
      simp [Array.getD_eq_getD_getElem?, e5]
end
end MyS

set_option Elab.async false
set_option linter.all false
set_option maxRecDepth 100000
set_option maxHeartbeats 4000000
/-! A tuple of texts is added to a set; len(set(xs)) of a list of such. -/
namespace MyS
open PySem PySem.Spec PyProof.Rows L2
section
variable {P : Program} {w : World} {A : Around} {E : Value → Shared → Prop} {s : Shared}
variable {a : Addr} {L : List (Addr × List Str)} {es : Array (Int × Value)} {ep : Nat} {t : SetTable}
theorem IsP.other {h h' : Heap} {k : List Str} {a b : Addr} {o : Obj} {es : Array (Int × Value)} {ep : Nat} {t : SetTable} (hb : IsP P w h k b) (ho : h.get? a = some o) (hd : o.data = .set es ep t) (hs : Heap.SameBut a h h') : IsP P w h' k b := by
  obtain ⟨o', items, n, ho', r⟩ := hb
  have hne : b ≠ a := fun z => by
    rw [z, ho] at ho'
    cases ho'
    rw [hd] at r
    exact nomatch r.2.1
  exact ⟨o', items, n, (hs.2 b hne).trans ho', r⟩
/-- TabOk looks at the places, the dummies and the mask alone -/
theorem tabOk_congr {t u : SetTable} {hs : List Int} (T : TabOk t hs) (e1 : u.place = t.place) (e2 : u.dummies = t.dummies) (e3 : u.mask = t.mask) : TabOk u hs := by
  obtain ⟨h1, h2, h3, h4, h5, h6⟩ := T
  constructor
  · rw [e1]; exact h1
  · rw [e2]; exact h2
  · rw [e1]; exact h3
  · rw [e3]; exact h4
  · intro x hx; rw [e3]; rw [e1] at hx; exact h5 x hx
  · intro i g j hi hj
    rw [e1] at hj
    obtain ⟨k, c1, c2⟩ := h6 i g j hi hj
    exact ⟨k, by rw [e3]; exact c1, fun k' hk' => by rw [e3, e1]; exact c2 k' hk'⟩
/-- the table laid anew, larger -/
theorem relayP {o : Obj} (ho : s.heap.get? a = some o) (hex : o.ExactSet) (hd : o.data = .set es ep t) (rows : es.toList = L.map (rowP P w)) (T : TabOk t (L.map fun p => hashP P w p.2)) (hfl : L.length ≤ t.mask)
    (nd : (L.map (·.2)).Nodup) (tup : ∀ p ∈ L, IsP P w s.heap p.2 p.1) (few : L.length < 64) {wanted M : Nat}
    (hw : SetTable.sizeAbove wanted - 1 = M) (hM : MaskOk M) (hw2 : SetTable.sizeAbove wanted ≤ 128) (hn : L.length * 5 < M * 3) {Q : Unit → Shared → Prop}
    (hQ : ∀ h' L' es' ep' t', Heap.SameBut a s.heap h' → PSet P w h' a L' es' ep' t' → L'.Perm L → Q () { s with heap := h' }) : wpAny (model P w) A (setRelay a wanted) Q E s := by
  have hsl : es.size = L.length := by
    have h := congrArg List.length rows
    rwa [Array.length_toList, List.length_map] at h
  have hsz := T.sz
  rw [List.length_map] at hsz
  have hfits : t.fits es.size = true := by
    unfold SetTable.fits SetTable.fill
    rw [T.dm, Bool.and_eq_true, beq_iff_eq, decide_eq_true_eq]
    show t.place.size = es.size ∧ t.place.size + 0 ≤ t.mask
    omega
  obtain ⟨t', order, e, hp, T', em, el, epl, ed⟩ := relaid_ok t (hs := es.map (·.1)) (wanted := wanted) hw hM (by rw [Array.size_map, hsl]; omega)
  rw [Array.size_map, hsl] at hp
  obtain ⟨L2, r1, r2, r3⟩ := reorder (rowP P w) L es order rows hp
  rw [← r3] at T'
  have hs2 : (order.filterMap (es[·]?)).size = es.size := by
    have h := congrArg List.length r1
    rw [Array.length_toList, List.length_map, r2.length_eq] at h
    rw [h, hsl]
  rw [setRelay_eq]
  refine wpAny_bind (wpAny_setState_of ho hd hfits ?_)
  dsimp only
  refine wp_if_neg (by rw [sizeLine_eq]; omega) ?_
  try refine wpAny_bind (wpAny_pure ?_)
  rw [e]
  dsimp only
  refine wpAny_bind ?_
  refine wp_if_neg (by rw [hs2]; simp) ?_
  try refine wpAny_bind (wpAny_pure ?_)
  refine wpAny_pure ?_
  dsimp only
  refine wpAny_storeSet_of ho hd ?_ (by rw [hs2, hsl, sizeLine_eq]; omega)
  have sb : Heap.SameBut a s.heap (s.heap.update a (Obj.putSet (order.filterMap (es[·]?)) t')) := Heap.SameBut.update ..
  refine hQ _ L2 (order.filterMap (es[·]?)) (ep + 1) t' sb ⟨⟨_, store_at ho hd, ⟨hex.1, hex.2.1, hex.2.2⟩, rfl⟩, r1, T', (r2.map (·.2)).nodup_iff.mpr nd, fun p hpm => (tup p (r2.mem_iff.mp hpm)).other ho hd sb, ?_, by rw [r2.length_eq]; exact few⟩ r2
  rw [r2.length_eq, em]
  exact hn
theorem put_perm' {α : Type} (L : List α) (p : Nat) (x : α) : (L.take p ++ x :: L.drop p).Perm (x :: L) := L2.put_perm L p x
/-- the tail of an adding: the new tuple is laid down, and the table grows where it is too full -/
theorem tailP {o : Obj} (ho : s.heap.get? a = some o) (hex : o.ExactSet) (hd : o.data = .set es ep t) {L1 : List (Addr × List Str)} {es1 : Array (Int × Value)} {u : SetTable} (hsl : es.size = L.length) (hmok : MaskOk t.mask) (hroom : L.length * 5 < t.mask * 3)
    (hin : es1.toList = L1.map (rowP P w)) (T : TabOk u (L1.map fun p => hashP P w p.2)) (hmask : u.mask = t.mask) (hps : u.place.size = L.length + 1) (hlen : L1.length = L.length + 1) (nd1 : (L1.map (·.2)).Nodup) (tup1 : ∀ h', Heap.SameBut a s.heap h' → ∀ p ∈ L1, IsP P w h' p.2 p.1) (hfew : L.length + 1 < 64) {Q : Bool → Shared → Prop}
    (hQ : ∀ h' L' es' ep' t', Heap.SameBut a s.heap h' → PSet P w h' a L' es' ep' t' → L'.Perm L1 → Q true { s with heap := h' }) :
    wpAny (model P w) A (do
      storeSet a es1 u
      if !false && u.tooFull then setRelay a (SetTable.grown (es.size + 1))
      return true) Q E s := by
  have hes : es1.size = L.length + 1 := by
    have h := congrArg List.length hin
    rw [Array.length_toList, List.length_map, hlen] at h
    exact h
  refine wpAny_bind (wpAny_storeSet_of ho hd ?_ (by rw [hes, sizeLine_eq]; omega))
  have sb : Heap.SameBut a s.heap (s.heap.update a (Obj.putSet es1 u)) := Heap.SameBut.update ..
  have ho1 := store_at (es' := es1) (t' := u) ho hd
  have tup2 := tup1 _ sb
  generalize s.heap.update a (Obj.putSet es1 u) = h1 at sb ho1 tup2 ⊢
  have hfill : u.tooFull = true ↔ (L.length + 1) * 5 ≥ u.mask * 3 := by
    unfold SetTable.tooFull SetTable.fill
    rw [decide_eq_true_eq, T.dm]
    show (u.place.size + 0) * 5 ≥ u.mask * 3 ↔ _
    rw [hps]
  by_cases hf : u.tooFull = true
  · first
      | (refine wpAny_bind ?_; refine wp_if_pos (by simp [hf]) ?_)
      | (refine wp_if_pos (by simp [hf]) ?_; refine wpAny_bind ?_)
    have hfull := hfill.mp hf
    rw [hmask] at hfull
    rw [hsl]
    have cases2 : (t.mask = 7 ∧ L.length = 4) ∨ (t.mask = 31 ∧ L.length = 18) := by
      rcases hmok with e | e | e
      · left; rw [e] at hfull hroom; exact ⟨e, by omega⟩
      · right; rw [e] at hfull hroom; exact ⟨e, by omega⟩
      · exfalso; rw [e] at hfull; omega
    have go : ∀ M, SetTable.sizeAbove (SetTable.grown (L.length + 1)) - 1 = M → MaskOk M → SetTable.sizeAbove (SetTable.grown (L.length + 1)) ≤ 128 → (L.length + 1) * 5 < M * 3 →
        wpAny (model P w) A (setRelay a (SetTable.grown (L.length + 1))) (fun _ s' => wpAny (model P w) A (pure true) Q E s') E { s with heap := h1 } := fun M h1' h2' h3' h4' => by
      refine relayP (s := { s with heap := h1 }) ho1 ⟨hex.1, hex.2.1, hex.2.2⟩ rfl hin T (by rw [hlen, hmask]; rcases cases2 with ⟨e, e2⟩ | ⟨e, e2⟩ <;> omega) nd1 tup2 (by rw [hlen]; exact hfew) h1' h2' h3' (by rw [hlen]; exact h4') ?_
      intro h2 L2 es2 ep2 t2 sb2 R2 pm2
      exact wpAny_pure (hQ h2 L2 es2 ep2 t2 (sb.trans sb2) R2 pm2)
    rcases cases2 with ⟨_, e2⟩ | ⟨_, e2⟩
    · refine go 31 (by rw [e2, size_20]) (.inr (.inl rfl)) (by rw [e2, size_20]; decide) (by omega)
    · refine go 127 (by rw [e2, size_76]) (.inr (.inr rfl)) (by rw [e2, size_76]; decide) (by omega)
  · first
      | refine wp_if_neg (by simp [hf]) ?_
      | (refine wpAny_bind ?_; refine wp_if_neg (by simp [hf]) ?_; refine wpAny_pure ?_)
    refine wpAny_pure (hQ h1 L1 es1 (ep + 1) u sb ⟨⟨_, ho1, ⟨hex.1, hex.2.1, hex.2.2⟩, rfl⟩, hin, T, nd1, tup2, ?_, by rw [hlen]; exact hfew⟩ (List.Perm.refl _))
    have h := mt hfill.mpr hf
    rw [hlen]
    omega
/-- ADDING: what is there stays as it is; what isn't comes to it -/
theorem addP (R : PSet P w s.heap a L es ep t) {x : Addr} {k : List Str} (hx : IsP P w s.heap k x) (hu : A.units < cLine) (hfew : L.length + 1 < 64) {Q : Bool → Shared → Prop}
    (hQ : ∀ b h' L' es' ep' t', Heap.SameBut a s.heap h' → PSet P w h' a L' es' ep' t' → (k ∈ L.map (·.2) → L' = L) → (k ∉ L.map (·.2) → L'.Perm ((x, k) :: L)) → Q b { s with heap := h' }) :
    wpAny (model P w) A (setAddHashed a (.ref x) (hashP P w k)) Q E s := by
  obtain ⟨o, ho, hex, hd⟩ := R.ob
  have hsl := R.size
  have hroom := R.room
  unfold setAddHashed
  refine wpAny_holding ?_
  rw [show (100000 : Nat) = 99999 + 1 from rfl, setAddHashedIn_succ]
  refine wpAny_bind (wpAny_setState_of ho hd R.fits ?_)
  dsimp only
  refine wp_if_neg (by simp [byScan, Value.scannable]) ?_
  try refine wpAny_bind (wpAny_pure ?_)
  refine wpAny_bind (seek_all R hx hu (fun hm => ?_) fun K hm hK hb => ?_)
  · exact wpAny_pure (hQ false s.heap L es ep t (Heap.SameBut.refl a s.heap) R (fun _ => rfl) fun z => absurd hm z)
  · dsimp only
    refine wpAny_bind (wpAny_setState_of ho hd R.fits ?_)
    dsimp only
    obtain ⟨q1, q2, q3, q4, q5, q6, q7, q8, q9⟩ := R.tab.put hK hb
    have hin : (SetTable.insertAt es (SetTable.below t.place (way t.mask (hashP P w k) K)) (hashP P w k, Value.ref x)).toList = (L.take (SetTable.below t.place (way t.mask (hashP P w k) K)) ++ (x, k) :: L.drop (SetTable.below t.place (way t.mask (hashP P w k) K))).map (rowP P w) := by
      rw [SetTable.toList_insertAt, R.rows, List.map_append, List.map_cons, List.map_take, List.map_drop]
      rfl
    have pm := put_perm' L (SetTable.below t.place (way t.mask (hashP P w k) K)) (x, k)
    have hhs : (L.take (SetTable.below t.place (way t.mask (hashP P w k) K)) ++ (x, k) :: L.drop (SetTable.below t.place (way t.mask (hashP P w k) K))).map (fun p => hashP P w p.2) = (L.map fun p => hashP P w p.2).take (SetTable.below t.place (way t.mask (hashP P w k) K)) ++ hashP P w k :: (L.map fun p => hashP P w p.2).drop (SetTable.below t.place (way t.mask (hashP P w k) K)) := by
      rw [List.map_append, List.map_cons, List.map_take, List.map_drop]
    generalize hpt : t.put (way t.mask (hashP P w k) K) = pt at q1 q3 q4 q5 q6 q7 q8 q9 ⊢
    obtain ⟨t1, p⟩ := pt
    dsimp only at q1 q3 q4 q5 q6 q7 q8 q9 ⊢
    subst q1
    generalize hpp : SetTable.below t.place (way t.mask (hashP P w k) K) = p at q2 q3 hin pm hhs ⊢
    have hlen : (L.take p ++ (x, k) :: L.drop p).length = L.length + 1 := pm.length_eq
    rw [← hhs] at q3
    have nd1 : ((L.take p ++ (x, k) :: L.drop p).map (·.2)).Nodup := by
      refine (pm.map (·.2)).nodup_iff.mpr ?_
      rw [List.map_cons]
      exact List.nodup_cons.mpr ⟨hm, R.nd⟩
    generalize SetTable.insertAt es p (hashP P w k, Value.ref x) = es1 at hin ⊢
    generalize L.take p ++ (x, k) :: L.drop p = L1 at pm hlen q3 nd1 hin
    have tup1 : ∀ h1, Heap.SameBut a s.heap h1 → ∀ p ∈ L1, IsP P w h1 p.2 p.1 := fun h1 sb p hp => by
      rcases List.mem_cons.mp (pm.mem_iff.mp hp) with e | hp
      · rw [e]; exact IsP.other hx ho hd sb
      · exact IsP.other (R.tup p hp) ho hd sb
    have hps : t1.place.size = L.length + 1 := by
      have h := q3.sz
      rw [List.length_map, hlen] at h
      exact h
    have fin : ∀ u : SetTable, u.place = t1.place → u.dummies = t1.dummies → u.mask = t1.mask → wpAny (model P w) A (do
        storeSet a es1 u
        if !false && u.tooFull then setRelay a (SetTable.grown (es.size + 1))
        return true) Q E s := fun u e1 e2 e3 =>
      tailP ho hex hd hsl R.tab.mok hroom hin (tabOk_congr q3 e1 e2 e3) (e3.trans q4) (by rw [e1]; exact hps) hlen nd1 tup1 hfew fun h' L' es' ep' t' sb R' pm' => hQ true h' L' es' ep' t' sb R' (fun z => absurd z hm) fun _ => pm'.trans pm
    have both : ∀ r : Bool, wpAny (model P w) A (do
        storeSet a es1 (if r then t1 else { t1 with plain := false })
        if !false && (if r then t1 else { t1 with plain := false }).tooFull then setRelay a (SetTable.grown (es.size + 1))
        return true) Q E s := fun r => by
      cases r
      · exact fin _ rfl rfl rfl
      · exact fin _ rfl rfl rfl
    by_cases hp1 : t1.plain = true
    · first
        | (refine wpAny_bind ?_; refine wp_if_pos hp1 ?_; refine hashBy hx fun r => ?_)
        | refine wp_if_pos hp1 (wpAny_bind (hashBy hx fun r => ?_))
      exact both r
    · first
        | (refine wpAny_bind ?_; refine wp_if_neg hp1 ?_; refine wpAny_pure ?_)
        | refine wp_if_neg hp1 (wpAny_bind (wpAny_pure ?_))
        | refine wp_if_neg hp1 ?_
      exact both true
end
end MyS

set_option Elab.async false
set_option linter.all false
set_option maxRecDepth 100000
set_option maxHeartbeats 4000000
/-! len(set(xs)) of a list or a tuple of tuples of texts, fewer than 64. -/
namespace MyS
open PySem PySem.Spec PyProof.Rows L2
section
variable {P : Program} {w : World} {A : Around} {E : Value → Shared → Prop} {s : Shared}
/-- the set at S behind the first i tuples -/
def JP (P : Program) (w : World) (h0 : Heap) (S : Addr) (ks : List (List Str)) (i : Nat) (h : Heap) : Prop :=
  ∃ L es ep t, PSet P w h S L es ep t ∧ (∀ p ∈ L, IsP P w h0 p.2 p.1) ∧ (∀ k, k ∈ L.map (·.2) ↔ k ∈ ks.take i) ∧ Cnt (ks.take i) L.length
theorem JP.adds {S : Addr} {ks : List (List Str)} {h0 : Heap} {i : Nat} {k : List Str} {x : Addr} (hx : ks[i]? = some k) (hb : ks.length < 64) (ht : IsP P w h0 k x) (hu : A.units < cLine) : Adds P w A S h0 (JP P w h0 S ks) i (.ref x) := by
  intro z Q E hJ hk hQ
  obtain ⟨L, es, ep, t, R, h0t, hM, hc⟩ := hJ
  have hi : i < ks.length := (List.getElem?_eq_some_iff.mp hx).1
  have hn := hc.le
  rw [List.length_take] at hn
  have hz : IsP P w z.heap k x := ht.keep fun o e => hk x o e
  unfold setAdd
  refine wpAny_holding ?_
  refine wpAny_bind (wpAny_pyHash_tuple hu hz ?_)
  refine addP (s := { z with toks := z.toks + (k.length + 1) }) R hz hu (by omega) fun b h' L' es' ep' t' sb R' c1 c2 => ?_
  refine hQ _ h' _ (Nat.le_add_right _ _) sb ⟨L', es', ep', t', R', ?_⟩
  rw [take_snoc hx]
  by_cases c : k ∈ L.map (·.2)
  · have e := c1 c
    subst e
    refine ⟨h0t, fun q => ?_, hc.old ((hM k).mp c)⟩
    rw [List.mem_append, List.mem_singleton, hM q]
    exact ⟨.inl, fun h => h.elim id fun e => e ▸ (hM k).mp c⟩
  · have pm := c2 c
    refine ⟨fun p hp => ?_, fun q => ?_, ?_⟩
    · rcases List.mem_cons.mp (pm.mem_iff.mp hp) with e | hp
      · rw [e]; exact ht
      · exact h0t p hp
    · rw [(pm.map (·.2)).mem_iff, List.map_cons, List.mem_cons, List.mem_append, List.mem_singleton, hM q]
      exact ⟨fun h => h.elim .inr .inl, fun h => h.elim .inr .inl⟩
    · rw [pm.length_eq, List.length_cons]
      exact hc.new fun m => c ((hM k).mpr m)
theorem JP.keeps {S : Addr} {ks : List (List Str)} {h0 : Heap} : KeepsJ S h0 (JP P w h0 S ks) := by
  rintro i h h' ⟨L, es, ep, t, R, h0t, r⟩ k1 k2
  obtain ⟨o, ho, r1⟩ := R.ob
  exact ⟨L, es, ep, t, ⟨⟨o, k1 o ho, r1⟩, R.rows, R.tab, R.nd, fun p hp => (h0t p hp).keep fun o e => k2 p.1 o e, R.room, R.few⟩, h0t, r⟩
theorem JP.zero {S : Addr} {ks : List (List Str)} {h h0 : Heap} (ho : h.get? S = some (freshSet w)) : JP P w h0 S ks 0 h := by
  refine ⟨[], #[], 0, _, ⟨⟨_, ho, ⟨rfl, rfl, rfl⟩, rfl⟩, rfl, ⟨List.Pairwise.nil, rfl, rfl, .inl rfl, fun x hx => (by cases hx), fun i h j hi => (by simp at hi)⟩, List.nodup_nil, fun p hp => (by cases hp), (by show 0 * 5 < 7 * 3; decide), (by show 0 < 64; decide)⟩, fun p hp => (by cases hp), fun k => by simp, ?_⟩
  rw [List.take_zero]
  exact Cnt.nil
end
theorem strItems_of_vals (P : Program) (w : World) : ∀ {k : List Str} {us : List Value}, Vals (k.map V.str) us → ItemsAre (PySem.strKind P w) k us
  | [], _, .nil => .nil
  | n :: k, _, .cons r t => by
    obtain ⟨tk, rfl⟩ := r
    exact .cons (strKind_is P w n tk) (strItems_of_vals P w t)
section
variable {X : Cx}
theorem Inv_isP {pins : List (Addr × Obj)} {σ : L2.St} {H : Hp} {s : Shared} {b : Addr} {k : List Str} (I : Inv X pins σ H s) (h : SqT X.K H b (k.map V.str)) : IsP X.prog X.w s.heap k b := by
  obtain ⟨its, r, ⟨o, ho, hc, n, hd⟩, _⟩ := I.tuple h
  exact ⟨o, its.toArray, n, ho, hc, hd, by simpa using strItems_of_vals _ _ r⟩
/-- len(set(xs)), xs tuples of texts -/
def tLenSetP (K : PySem.W.Frag) (ta : TE) : TE := fun σ H Q => ta σ H fun x H1 => ∃ (l : Addr) (ks : List (Addr × List Str)), x = .ref l ∧ (SqL K H1 l (ks.map fun p => V.ref p.1) ∨ SqT K H1 l (ks.map fun p => V.ref p.1)) ∧ (∀ p ∈ ks, SqT K H1 p.1 (p.2.map V.str)) ∧ ks.length < 64 ∧ ∀ n, Cnt (ks.map (·.2)) n → Q (.int (n : Nat)) H1
theorem refsP : ∀ {ks : List (Addr × List Str)} {us : List Value}, Vals (ks.map fun p => V.ref p.1) us → us = ks.map fun p => Value.ref p.1
  | [], _, .nil => rfl
  | p :: ks, _, .cons r t => by
    cases r
    rw [refsP t] <;> rfl
theorem pe_lenSetP {a : Expr} {ta : TE} {p p2 q pos : Pos} (hc : X.calm = true) (hu : X.A.units + 64 < cLine) (hm : X.mg "len" = none) (hm2 : X.mg "set" = none) (ha : PE X a ta) (hg : Gl X "len" := by rfl) (hg2 : Gl X "set" := by rfl)
    (na : starEach [a] X.env = (false, eval a X.env) :: starEach [] X.env := by rfl) : PE X (.Call (.Name "len" p) [.Call (.Name "set" p2) [a] [] q] [] pos) (tLenSetP X.K ta) := by
  refine ⟨fun pins s σ H Q I h => ?_⟩
  refine Call_ (ld_blt I hg hm boot_len ?_)
  refine PyProof.Rows.callWith_builtin1 (PyProof.Rows.args_cons ?_ rfl) rfl rfl
  refine Call_ (ld_blt I hg2 hm2 boot_set ?_)
  refine PyProof.Rows.callWith_type1 (PyProof.Rows.args_cons (thn (ha.run pins s σ H _ I h) fun v s1 ⟨x, H1, I1, r1, q1⟩ => PyProof.Rows.args_nil ?_) na) na rfl
  obtain ⟨l, ks, rfl, hq, ht, h1, q1⟩ := q1
  cases r1
  have go : ∀ (its : List Value), Vals (ks.map fun p => V.ref p.1) its → (s1.heap.IsList l its.toArray ∨ s1.heap.IsTuple l its.toArray) → wpAny (model X.prog X.w) X.A (call (.type "set") [.ref l])
      (fun v s₂ => wpAny (model X.prog X.w) X.A (spliced (backTo pos (starEach [] X.env))) (fun vs s₃ => wpAny (model X.prog X.w) X.A (call (.builtin "len") (v :: vs)) (EP X pins σ Q) X.xe s₃) X.xe s₂) X.xe s1 := fun its r hl => by
    have hits := refsP r
    have hsz : its.toArray.size = ks.length := by rw [List.size_toArray, hits, List.length_map]
    refine call_setJ (J := JP X.prog X.w s1.heap s1.heap.objs.size (ks.map (·.2))) (I1.ok.hd hc) hl (fun h ho => JP.zero ho) JP.keeps (fun h hJ => ?_) (fun A' hA i v hv => ?_) fun h' tk hJ hk _ => ?_
    · obtain ⟨L, es, ep, t, R, _⟩ := hJ
      obtain ⟨o, ho, _⟩ := R.ob
      exact ⟨o, ho⟩
    · have e1 : (ks.map fun p => Value.ref p.1)[i]? = some v := by rw [← hits]; simpa using hv
      rw [List.getElem?_map] at e1
      obtain ⟨p, hp, rfl⟩ := Option.map_eq_some_iff.mp e1
      exact JP.adds (k := p.2) (by rw [List.getElem?_map, hp]; rfl) (by rw [List.length_map]; exact h1) (Inv_isP I1 (ht p (List.mem_of_getElem? hp))) (by omega)
    · rw [hsz] at hJ
      obtain ⟨L, es, ep, t, R, _, hM, hcn⟩ := hJ
      rw [show ks.length = (ks.map (·.2)).length by rw [List.length_map], List.take_length] at hcn
      have I2 : Inv X pins σ H1 { s1 with heap := h', toks := tk } := I1.kept fun b o e => hk b o e
      refine PyProof.Rows.args_nil ?_
      have hle := hcn.le
      obtain ⟨o, ho, hex, hd⟩ := R.ob
      have hfew := R.few
      refine call_len_set ho hex hd (R.fits (s := { s1 with heap := h', toks := tk })) (by rw [R.size (s := { s1 with heap := h', toks := tk })]; omega) ⟨.int (L.length : Nat), H1, I2.tok _, ⟨_, by rw [R.size (s := { s1 with heap := h', toks := tk })]⟩, q1 L.length hcn⟩
  rcases hq with hq | hq
  · obtain ⟨its, r, pl, hz⟩ := I1.list hq
    exact go its r (.inl pl.isList)
  · obtain ⟨its, r, pl, hz⟩ := I1.tuple hq
    exact go its r (.inr (by first | exact pl | exact pl.isTuple))
end
end MyS

set_option Elab.async false
set_option linter.all false
set_option maxRecDepth 100000
set_option maxHeartbeats 4000000
/-! sorted(xs) of a list or a tuple: of texts, of pairs of texts, of tuples told apart by their first text. -/
namespace MyS
open PySem PySem.Spec PyProof.Rows L2
open SrtO hiding Str
/-! ### the order of texts -/
def slt (a b : Str) : Bool := decide (a.cps.toList < b.cps.toList)
theorem str_ext {a b : Str} (h : a.cps.toList = b.cps.toList) : a = b := by
  obtain ⟨x⟩ := a
  obtain ⟨y⟩ := b
  exact congrArg PySem.Str.mk (Array.toList_inj.mp h)
theorem slt_iff {a b : Str} : slt a b = true ↔ a.cps.toList < b.cps.toList := decide_eq_true_iff
theorem slt_no {a b : Str} : slt a b = false ↔ ¬ a.cps.toList < b.cps.toList := decide_eq_false_iff_not
theorem slt_irr (a : Str) : slt a a = false := slt_no.mpr (List.lt_irrefl _)
theorem slt_asym {a b : Str} (h : slt a b = true) : slt b a = false := slt_no.mpr fun k => List.lt_irrefl _ (List.lt_trans (slt_iff.mp h) k)
theorem slt_tri {a b : Str} (h1 : slt a b = false) (h2 : slt b a = false) : a = b :=
  str_ext (List.le_antisymm (List.not_lt.mp (slt_no.mp h2)) (List.not_lt.mp (slt_no.mp h1)))
theorem slt_ntr {x y z : Str} (h1 : slt y x = false) (h2 : slt z y = false) : slt z x = false :=
  slt_no.mpr (List.not_lt.mpr (List.le_trans (List.not_lt.mp (slt_no.mp h1)) (List.not_lt.mp (slt_no.mp h2))))
theorem slt_trans {x y z : Str} (h1 : slt x y = true) (h2 : slt y z = true) : slt x z = true := slt_iff.mpr (List.lt_trans (slt_iff.mp h1) (slt_iff.mp h2))
/-- pairs: the first, then the second -/
def slt2 (p q : Str × Str) : Bool := if p.1 = q.1 then slt p.2 q.2 else slt p.1 q.1
theorem swo_s : Swo slt := ⟨fun x y h => slt_asym h, fun x y z h1 h2 => slt_ntr h1 h2⟩
theorem slt2_eq {p q : Str × Str} (h : p.1 = q.1) : slt2 p q = slt p.2 q.2 := if_pos h
theorem slt2_ne {p q : Str × Str} (h : ¬ p.1 = q.1) : slt2 p q = slt p.1 q.1 := if_neg h
theorem swo_s2 : Swo slt2 := by
  refine ⟨fun x y h => ?_, fun x y z h1 h2 => ?_⟩
  · by_cases e : x.1 = y.1
    · rw [slt2_eq e] at h
      rw [slt2_eq e.symm]
      exact slt_asym h
    · rw [slt2_ne e] at h
      rw [slt2_ne (fun c => e c.symm)]
      exact slt_asym h
  · by_cases e : z.1 = x.1
    · rw [slt2_eq e]
      by_cases e1 : y.1 = x.1
      · rw [slt2_eq e1] at h1
        rw [slt2_eq (e.trans e1.symm)] at h2
        exact slt_ntr h1 h2
      · rw [slt2_ne e1] at h1
        rw [slt2_ne (fun c => e1 (c.symm.trans e)), e] at h2
        exact absurd (slt_tri h1 h2) e1
    · rw [slt2_ne e]
      by_cases e1 : y.1 = x.1
      · rw [slt2_ne (fun c => e (c.trans e1)), e1] at h2
        exact h2
      · rw [slt2_ne e1] at h1
        by_cases e2 : z.1 = y.1
        · rw [e2]; exact h1
        · rw [slt2_ne e2] at h2
          exact slt_ntr h1 h2
theorem swo_of {α β : Type} {lt : β → β → Bool} (O : Swo lt) (f : α → β) : Swo fun x y => lt (f x) (f y) := ⟨fun x y => O.asym (f x) (f y), fun x y z => O.tr (f x) (f y) (f z)⟩
section
variable {prog : Program} {w : World} {A : Around} {E : Value → Shared → Prop} {s : Shared}
/-- collecting a tuple -/
theorem collect_tup {l : Addr} {vs : List Value} {Q : List Value → Shared → Prop} (hl : s.heap.IsTuple l vs.toArray)
    (h : Q vs { s with heap := (s.heap.push (seqObj "list" #[] 0)).update s.heap.objs.size (Obj.mapSeq (· ++ vs.toArray)) }) (hsz : vs.length ≤ sizeLine) :
    wpAny (model prog w) A (collect (.ref l)) Q E s := by
  obtain ⟨o, ho, hc, n, hd⟩ := id hl
  unfold collect
  refine wpAny_bind (wpAny_runValue (codeAny_builtin entry_proto_collect' ?_))
  show wpAny _ _ (do again (.builtin "list.__iadd__" ⟨[← newList [], .ref l], []⟩)) _ _ s
  refine wpAny_bind (wpAny_newList (wpAny_pure ⟨Code.quiet_builtin _ (by decide +kernel), codeAny_builtin entry_list_iadd' ?_⟩))
  show wpAny _ _ (Builtin.List.listExtendWith (.ref s.heap.objs.size) (.ref l) (.ref s.heap.objs.size)) _ _ { s with heap := s.heap.push (seqObj "list" #[] 0) }
  unfold Builtin.List.listExtendWith
  have ho' : (s.heap.push (seqObj "list" #[] 0)).get? l = some o := Heap.get?_push_of_some _ ho
  refine wpAny_bind (wpAny_typeOf (T := "tuple") ⟨o, ho', hc⟩ ?_)
  have ht : (Value.type "tuple" == Value.type "tuple") = true := by rfl
  rw [if_pos (by rw [ht]; simp)]
  refine wpAny_bind (listItems_at ho' hd ?_)
  refine wpAny_bind (listItems_at (xs := #[]) (n := 0) (Heap.get?_push_size _ rfl) rfl ?_)
  rw [if_neg (by simp)]
  refine wpAny_bind (listUpdate_at (xs := #[]) (n := 0) (Heap.get?_push_size _ rfl) rfl ?_ (Nat.zero_le _) (by show (#[] ++ vs.toArray).size ≤ sizeLine + 1; simp only [Array.size_append, List.size_toArray, List.length_nil]; omega))
  refine wpAny_pure ?_
  show wpAny (model prog w) A (do
      let o ← load s.heap.objs.size
      match o.data with
      | .seq xs _ => pure xs.toList
      | _ => unsupported "internal:collect") Q E { s with heap := (s.heap.push (seqObj "list" #[] 0)).update s.heap.objs.size (Obj.mapSeq (· ++ vs.toArray)) }
  refine wpAny_bind (wpAny_load (get?_update_seq (Heap.get?_push_size _ rfl) _) ?_)
  show wpAny _ _ (pure ((#[] : Array Value) ++ vs.toArray).toList) Q E _
  rw [show ((#[] : Array Value) ++ vs.toArray).toList = vs by simp]
  exact wpAny_pure h
/-- sorted(l), l a list or a tuple -/
theorem sorted_seq {l : Addr} {vs : List Value} {ltv : Value → Value → Bool} {Q : Value → Shared → Prop} (O : Swo ltv) (hl : s.heap.IsList l vs.toArray ∨ s.heap.IsTuple l vs.toArray) (hz : vs.length ≤ sizeLine)
    (hS : 2 ≤ vs.length → ∀ (h₁ : Heap) (a : Addr), h₁.get? a = some (seqObj "list" vs.toArray 0) → (∀ b o, s.heap.get? b = some o → b ≠ a ∧ h₁.get? b = some o) → SortableO prog w A.in1.in1 { s with heap := h₁ } a vs ltv)
    (h : ∀ out : List Value, Srtd ltv out → Stb ltv out vs → Q (.ref (s.heap.objs.size + 1)) { s with heap := sortedAll s.heap vs out.toArray }) :
    wpAny (model prog w) A (call (.builtin "sorted") [.ref l]) Q E s := by
  rcases hl with hl | hl
  · exact sorted_ord O hl hz hS h
  refine Calls.call_function_entry kind_sorted plain_sorted entry_sorted (args_sorted1 _) ?_
  unfold Builtin.«sorted»
  refine wpAny_bind (m := checkCount "sorted" 1 1 _) (wpAny_pure ?_)
  refine wpAny_bind (collect_tup hl ?_ hz)
  refine wpAny_bind (wpAny_newList ?_ hz)
  have hsz : ((s.heap.push (seqObj "list" #[] 0)).update s.heap.objs.size (Obj.mapSeq (· ++ vs.toArray))).objs.size = s.heap.objs.size + 1 := by
    rw [Heap.size_update, size_push']
  have hoL : (((s.heap.push (seqObj "list" #[] 0)).update s.heap.objs.size (Obj.mapSeq (· ++ vs.toArray))).push (seqObj "list" vs.toArray 0)).get? (s.heap.objs.size + 1) = some (seqObj "list" vs.toArray 0) := by
    rw [← hsz]; exact Heap.get?_push_size _ rfl
  have keep : ∀ b o, s.heap.get? b = some o → b ≠ s.heap.objs.size + 1 ∧ (((s.heap.push (seqObj "list" #[] 0)).update s.heap.objs.size (Obj.mapSeq (· ++ vs.toArray))).push (seqObj "list" vs.toArray 0)).get? b = some o := fun b o q => by
    have hlt : b < s.heap.objs.size := Heap.lt_size q
    refine ⟨Nat.ne_of_lt (Nat.lt_succ_of_lt hlt), Heap.get?_push_of_some _ ?_⟩
    rw [Heap.get?_update_ne _ _ _ _ (Nat.ne_of_lt hlt)]
    exact Heap.get?_push_of_some _ q
  show wpAny _ _ _ _ _ { s with heap := ((s.heap.push (seqObj "list" #[] 0)).update s.heap.objs.size (Obj.mapSeq (· ++ vs.toArray))).push (seqObj "list" vs.toArray 0) }
  rw [hsz]
  refine wpAny_bind (wpAny_holding (wpAny_call_entry slot_list_sort ⟨_, hoL, rfl⟩ entry_list_sort (list_sort_ord O hoL hz (fun h2 => hS h2 _ _ hoL keep) fun out hs hb => ⟨_, rfl, ?_⟩) (args_list_sort _)))
  exact wpAny_pure ⟨_, rfl, h out hs hb⟩
/-! ### texts -/
def sv : Value → Str
  | .str x _ => x
  | _ => ⟨#[]⟩
theorem strs_cmp {vs : List Value} (hI : ∀ v ∈ vs, ∃ x t, v = Value.str x t) : Cmp prog w A s oneType' (fun p => p.1 ∈ vs) (lt2 fun v u => slt (sv v) (sv u)) := by
  intro p q hm hm'
  obtain ⟨a, t, e⟩ := hI _ hm
  obtain ⟨b, u, e'⟩ := hI _ hm'
  show wpAny (model prog w) A (keyLt' oneType' p.1 q.1) (fun r s' => s' = s ∧ r = slt (sv p.1) (sv q.1)) (fun _ _ => False) s
  rw [e, e', keyLt'_oneType]
  exact oneLt_str ⟨rfl, rfl⟩
theorem strs_sortable {a : Addr} {vs : List Value} {ss : List Str} (hI : StrsAre vs ss) (h2 : 2 ≤ vs.length) : SortableO prog w A s a vs fun v u => slt (sv v) (sv u) := by
  intro h' _
  refine ⟨oneType', fun Q E hq => ?_, strs_cmp hI.all⟩
  match vs, hI, h2 with
  | v1 :: v2 :: rest, hI, _ =>
    rw [keyKind_strs hI]
    exact wpAny_pure hq
  | [], _, h => exact absurd h (by decide)
  | [v], _, h => exact absurd h (by simp)
theorem sv_strs : ∀ {vs : List Value} {ss : List Str}, StrsAre vs ss → vs.map sv = ss
  | _, _, .nil => rfl
  | _, _, .cons n t r => congrArg (n :: ·) (sv_strs r)
theorem strs_sv : ∀ {vs : List Value}, (∀ v ∈ vs, ∃ x t, v = Value.str x t) → StrsAre vs (vs.map sv)
  | [], _ => .nil
  | v :: vs, h => by
    obtain ⟨i, t, e⟩ := h v List.mem_cons_self
    subst e
    exact .cons i t (strs_sv fun u hu => h u (List.mem_cons_of_mem _ hu))
end
/-- ascending -/
def Asc (ys : List Str) : Prop := ys.Pairwise fun a b => slt b a = false
section
variable {X : Cx}
/-- sorted(xs), texts, a list or a tuple of them -/
def rSortSQ (K : PySem.W.Frag) : List V → Hp → VK → Prop := fun vs H Q => ∃ (a : Addr) (xs : List Str), vs = [V.ref a] ∧ (SqL K H a (xs.map V.str) ∨ SqT K H a (xs.map V.str)) ∧
  ∀ (ys : List Str) (p : Addr), ys.Perm xs → Asc ys → H p = none → Q (.ref p) (upd H p (.lst (ys.map V.str)))
theorem cr_sortSQ : CallR X (.builtin "sorted") (rSortSQ X.K) := by
  intro pins s σ H vs us Q I r h
  obtain ⟨a, xs, rfl, hs, q⟩ := h
  rw [Vals.ref1 r]
  have go : ∀ (its : List Value), Vals (xs.map V.str) its → (s.heap.IsList a its.toArray ∨ s.heap.IsTuple a its.toArray) → (xs.map V.str).length ≤ sizeLine → wpAny (model X.prog X.w) X.A (call (.builtin "sorted") [.ref a]) (EP X pins σ Q) X.xe s := fun its rv hl hz => by
    have hi := rv.strs
    refine sorted_seq (swo_of swo_s sv) hl (by rw [← rv.length]; exact hz) (fun h2 h₁ a' _ _ => strs_sortable hi h2) fun out h1 h2 => ?_
    have ho : ∀ v ∈ out, ∃ x t, v = Value.str x t := fun v hv => hi.all v (h2.perm.mem_iff.mp hv)
    have pm : (out.map sv).Perm xs := by
      have q := h2.perm.map sv
      rw [sv_strs hi] at q
      exact q
    obtain ⟨ep, he'⟩ := PyProof.Rows.sortedAll_at s.heap its out.toArray
    have hlen : ((out.map sv).map V.str).length ≤ sizeLine := by
      rw [List.length_map, pm.length_eq]
      rw [List.length_map] at hz
      exact hz
    exact ⟨.ref _, upd H (s.heap.objs.size + 1) (.lst ((out.map sv).map V.str)), I.laid (t' := s.toks) (fun _ _ => PyProof.Rows.sortedAll_old) (Nat.le_succ _) ⟨hlen, out, ep, vals_of_strs (strs_sv ho), he'⟩, rfl, q _ _ pm (List.pairwise_map.mpr h1) (I.hok.fresh (Nat.le_succ _))⟩
  rcases hs with hs | hs
  · obtain ⟨its, rv, pl, hz⟩ := I.list hs
    exact go its rv (.inl pl.isList) (by first | exact hz | (rw [rv.length]; exact hz))
  · obtain ⟨its, rv, pl, hz⟩ := I.tuple hs
    exact go its rv (.inr (by first | exact pl | exact pl.isTuple)) (by first | exact hz | (rw [rv.length]; exact hz))
end
end MyS

set_option Elab.async false
set_option linter.all false
set_option maxRecDepth 100000
set_option maxHeartbeats 4000000
/-! sorted(xs), xs a list of tuples: pairs of texts, or tuples told apart by their first text. -/
namespace MyS
open PySem PySem.Spec PyProof.Rows L2
open SrtO hiding Str
section
variable {prog : Program} {w : World} {A : Around} {E : Value → Shared → Prop} {s : Shared}
/-- v is a tuple with these items -/
def IsTp (h : Heap) (v : Value) (a : Str) (r : List Value) : Prop := ∃ (b : Addr) (o : Obj) (xs : Array Value) (n : Nat) (t : Tok), v = .ref b ∧ h.get? b = some o ∧ o.cls = .type "tuple" ∧ o.data = .seq xs n ∧ xs.toList = .str a t :: r
theorem IsTp.keeps {h h' : Heap} {v : Value} {a : Str} {r : List Value} (x : IsTp h v a r) (k : ∀ b o, h.get? b = some o → o.cls = .type "tuple" → h'.get? b = some o) : IsTp h' v a r := by
  obtain ⟨b, o, xs, n, t, e, ho, hc, q⟩ := x
  exact ⟨b, o, xs, n, t, e, k b o ho hc, hc, q⟩
theorem firstsS {h : Heap} : ∀ {vs : List Value}, (∀ v ∈ vs, ∃ a r, IsTp h v a r) → ∃ fs : List Value, PySem.W.KatTups h vs fs ∧ fs.length = vs.length ∧ ∀ f ∈ fs, ∃ x t, f = Value.str x t
  | [], _ => ⟨[], PySem.W.KatTups.nil, rfl, fun _ hm => by simp at hm⟩
  | v :: vs, hp => by
    obtain ⟨fs, h1, h2, h3⟩ := firstsS (vs := vs) fun v' hm => hp v' (List.mem_cons_of_mem _ hm)
    obtain ⟨a, r, b, o, xs, n, t, e, ho, hc, hd, hx⟩ := hp v (List.mem_cons_self ..)
    subst e
    refine ⟨.str a t :: fs, PySem.W.KatTups.cons ho hc hd (by rw [← Array.getElem?_toList, hx]; rfl) h1, by rw [List.length_cons, List.length_cons, h2], fun f hm => ?_⟩
    rcases List.mem_cons.mp hm with rfl | hm
    · exact ⟨a, t, rfl⟩
    · exact h3 f hm
theorem kat_self {b fin : Bool} {Q : Bool → Shared → Prop} : ∀ (r : List Value) (i : Nat), Q fin s → PySem.W.KatLex prog w A b fin Q (r.zip r) i s
  | [], _, h => PySem.W.kat_nil h
  | v :: r, i, h => PySem.W.kat_cons (SeqAt.EqAt.same v prog w _ _ (PySem.W.kat_yes (kat_self r (i + 1) h)))
theorem slt_eqF {a b : Str} (h : a = b) : slt a b = false := by rw [h]; exact slt_irr b
/-- tuples told apart by their first text -/
theorem first_cmp {vs : List Value} {k : Value → Str} (hp : ∀ v ∈ vs, ∃ r, IsTp s.heap v (k v) r) (ne : ∀ v ∈ vs, ∀ u ∈ vs, k v = k u → v = u) : Cmp prog w A s (tuples' true) (fun p => p.1 ∈ vs) (lt2 fun v u => slt (k v) (k u)) := by
  intro p q hm hm'
  obtain ⟨r, b, o, xs, n, t, e, ho, hc, hd, hx⟩ := hp _ hm
  obtain ⟨r', b', o', xs', n', t', e', ho', hc', hd', hx'⟩ := hp _ hm'
  have hne := ne _ hm _ hm'
  show wpAny (model prog w) A (keyLt' (tuples' true) p.1 q.1) (fun r s' => s' = s ∧ r = slt (k p.1) (k q.1)) (fun _ _ => False) s
  generalize k p.1 = x at *
  generalize k q.1 = y at *
  rw [e, e'] at hne ⊢
  refine PySem.W.kat_lt ho hd ho' hd' ?_
  rw [hx, hx']
  show PySem.W.KatLex prog w A true (decide (xs.size < xs'.size)) _ ((.str x t, .str y t') :: r.zip r') 0 s
  refine PySem.W.kat_cons (SeqAt.EqAt.str_str x t y t' prog w _ _ ?_)
  refine PySem.W.kat_go (fun e1 => ?_) (fun e1 => ?_)
  · have ex : x = y := by simpa using e1
    have eb : Value.ref b = Value.ref b' := hne ex
    injection eb with eb
    subst eb
    obtain rfl : o = o' := Option.some.inj (ho.symm.trans ho')
    have e2 : PySem.Data.seq xs n = PySem.Data.seq xs' n' := hd.symm.trans hd'
    injection e2 with e2 e3
    subst e2
    have e4 := (List.cons.inj (hx.symm.trans hx')).2
    subst e4
    refine PySem.W.kat_yes (kat_self r 1 ⟨rfl, ?_⟩)
    rw [slt_eqF ex]
    exact decide_eq_false (Nat.lt_irrefl _)
  · exact PySem.W.kat_no (oneLt_str ⟨rfl, rfl⟩)
/-- pairs of texts -/
theorem pairs_cmp {vs : List Value} {k : Value → Str × Str} (hp : ∀ v ∈ vs, ∃ t, IsTp s.heap v (k v).1 [.str (k v).2 t]) : Cmp prog w A s (tuples' true) (fun p => p.1 ∈ vs) (lt2 fun v u => slt2 (k v) (k u)) := by
  intro p q hm hm'
  obtain ⟨t2, b, o, xs, n, t, e, ho, hc, hd, hx⟩ := hp _ hm
  obtain ⟨t2', b', o', xs', n', t', e', ho', hc', hd', hx'⟩ := hp _ hm'
  show wpAny (model prog w) A (keyLt' (tuples' true) p.1 q.1) (fun r s' => s' = s ∧ r = slt2 (k p.1) (k q.1)) (fun _ _ => False) s
  generalize k p.1 = x at *
  generalize k q.1 = y at *
  rw [e, e']
  have sz : xs.size = 2 := by rw [← Array.length_toList, hx]; rfl
  have sz' : xs'.size = 2 := by rw [← Array.length_toList, hx']; rfl
  refine PySem.W.kat_lt ho hd ho' hd' ?_
  rw [hx, hx', sz, sz']
  show PySem.W.KatLex prog w A true (decide (2 < 2)) _ [(.str x.1 t, .str y.1 t'), (.str x.2 t2, .str y.2 t2')] 0 s
  refine PySem.W.kat_cons (SeqAt.EqAt.str_str x.1 t y.1 t' prog w _ _ ?_)
  refine PySem.W.kat_go (fun e1 => ?_) (fun e1 => ?_)
  · have ex : x.1 = y.1 := by simpa using e1
    refine PySem.W.kat_yes (PySem.W.kat_cons (SeqAt.EqAt.str_str x.2 t2 y.2 t2' prog w _ _ ?_))
    refine PySem.W.kat_go (fun e2 => ?_) (fun e2 => ?_)
    · have ey : x.2 = y.2 := by simpa using e2
      refine PySem.W.kat_yes (PySem.W.kat_nil ⟨rfl, ?_⟩)
      rw [slt2_eq ex, slt_eqF ey]
      rfl
    · refine PySem.W.kat_no (PySem.W.kat_one _ _ ?_)
      refine PyProof.Rows.lt_str ?_
      exact ⟨rfl, (slt2_eq ex).symm⟩
  · have ex : ¬ x.1 = y.1 := by simpa using e1
    exact PySem.W.kat_no (oneLt_str ⟨rfl, (slt2_ne ex).symm⟩)
theorem tps_kind {vs : List Value} (h0 : 0 < vs.length) (hp : ∀ v ∈ vs, ∃ a r, IsTp s.heap v a r) {Q : SortKind → Shared → Prop} (hq : Q (tuples' true) s) : wpAny (model prog w) A (keyKind' vs.toArray) Q E s := by
  obtain ⟨fs, h1, h2, h3⟩ := firstsS hp
  refine PySem.W.kat_kind (T := .type "str") h1 (by omega) (fun f hm => ?_) (by rfl) ?_
  · obtain ⟨x, t, rfl⟩ := h3 f hm
    exact PySem.W.Looks.now
  · have e : (Value.type "str" != Value.type "tuple") = true := by first | decide +kernel | rfl | decide
    rw [e]
    exact hq
theorem first_sortable {a : Addr} {vs : List Value} {k : Value → Str} (h0 : 0 < vs.length) (hp : ∀ v ∈ vs, ∃ r, IsTp s.heap v (k v) r) (ne : ∀ v ∈ vs, ∀ u ∈ vs, k v = k u → v = u) (ha : ∀ o, s.heap.get? a = some o → o.cls ≠ .type "tuple") : SortableO prog w A s a vs fun v u => slt (k v) (k u) := by
  intro h' keep
  have hp' : ∀ v ∈ vs, ∃ r, IsTp h' v (k v) r := fun v hm => let ⟨r, z⟩ := hp v hm; ⟨r, z.keeps fun b o e c => keep b o (fun z => by subst z; exact ha o e c) e⟩
  exact ⟨tuples' true, fun Q E hq => tps_kind h0 (fun v hm => let ⟨r, z⟩ := hp' v hm; ⟨_, r, z⟩) hq, first_cmp hp' ne⟩
theorem pairs_sortable {a : Addr} {vs : List Value} {k : Value → Str × Str} (h0 : 0 < vs.length) (hp : ∀ v ∈ vs, ∃ t, IsTp s.heap v (k v).1 [.str (k v).2 t]) (ha : ∀ o, s.heap.get? a = some o → o.cls ≠ .type "tuple") : SortableO prog w A s a vs fun v u => slt2 (k v) (k u) := by
  intro h' keep
  have hp' : ∀ v ∈ vs, ∃ t, IsTp h' v (k v).1 [.str (k v).2 t] := fun v hm => let ⟨r, z⟩ := hp v hm; ⟨r, z.keeps fun b o e c => keep b o (fun z => by subst z; exact ha o e c) e⟩
  exact ⟨tuples' true, fun Q E hq => tps_kind h0 (fun v hm => let ⟨r, z⟩ := hp' v hm; ⟨_, _, z⟩) hq, pairs_cmp hp'⟩
end
section
variable {X : Cx}
theorem noTup {h : Heap} {a : Addr} {vs : List Value} (ha : h.get? a = some (seqObj "list" vs.toArray 0)) : ∀ o, h.get? a = some o → o.cls ≠ .type "tuple" := fun o e c => by
  have e' : some o = some (seqObj "list" vs.toArray 0) := e.symm.trans ha
  cases e'
  exact absurd (Value.type.inj c) (by decide)
/-- sorted(xs), xs a list of tuples told apart by their first text -/
def rSortR (K : PySem.W.Frag) : List V → Hp → VK → Prop := fun vs H Q => ∃ (a : Addr) (xs : List V) (k : V → Str), vs = [V.ref a] ∧ SqL K H a xs ∧ (∀ x ∈ xs, ∃ t r, x = V.ref t ∧ SqT K H t (.str (k x) :: r)) ∧ (∀ x ∈ xs, ∀ y ∈ xs, k x = k y → x = y) ∧
  ∀ ys p, ys.Perm xs → ys.Pairwise (fun x y => slt (k y) (k x) = false) → H p = none → Q (.ref p) (upd H p (.lst ys))
theorem cr_sortR : CallR X (.builtin "sorted") (rSortR X.K) := by
  intro pins s σ H vs us Q I r h
  obtain ⟨a, xs, k, rfl, hs, hx, ne, q⟩ := h
  obtain ⟨its, rv, hl, hz⟩ := I.list hs
  rw [Vals.ref1 r]
  obtain ⟨e1, e2⟩ := refs_back rv fun x m => by
    obtain ⟨t, r, e, _⟩ := hx x m
    exact ⟨t, e⟩
  have hp : ∀ v ∈ its, ∃ r, IsTp s.heap v (k (backV v)) r := fun v hv => by
    obtain ⟨t, rfl⟩ := e2 v hv
    have hm : V.ref t ∈ xs := by rw [e1]; exact List.mem_map.mpr ⟨_, hv, rfl⟩
    obtain ⟨t', r, e, ht⟩ := hx _ hm
    cases e
    obtain ⟨its2, r2, ⟨o, ho, hc, n, hd⟩, _⟩ := I.tuple ht
    cases r2 with
    | cons r0 r3 =>
      obtain ⟨tk, rfl⟩ := r0
      exact ⟨_, t, o, _, n, tk, rfl, ho, hc, hd, rfl⟩
  have ne' : ∀ v ∈ its, ∀ u ∈ its, k (backV v) = k (backV u) → v = u := fun v hv u hu e => by
    obtain ⟨t, rfl⟩ := e2 v hv
    obtain ⟨t', rfl⟩ := e2 u hu
    have q := ne (.ref t) (by rw [e1]; exact List.mem_map.mpr ⟨_, hv, rfl⟩) (.ref t') (by rw [e1]; exact List.mem_map.mpr ⟨_, hu, rfl⟩) e
    injection q with q
    rw [q]
  refine sorted_seq (swo_of swo_s fun u => k (backV u)) (.inl hl.isList) (by rw [← rv.length]; exact hz) (fun h2 h₁ a' ha' kk => first_sortable (by omega) (fun v hv => let ⟨r, z⟩ := hp v hv; ⟨r, z.keeps fun b o e _ => (kk b o e).2⟩) ne' (noTup ha')) fun out h1 h2 => ?_
  have h3 : ∀ u ∈ out, ∃ a, u = Value.ref a := fun u hu => e2 u (h2.perm.mem_iff.mp hu)
  obtain ⟨ep, he'⟩ := PyProof.Rows.sortedAll_at s.heap its out.toArray
  have pm : (out.map backV).Perm xs := by
    rw [e1]
    exact h2.perm.map backV
  refine ⟨.ref _, upd H (s.heap.objs.size + 1) (.lst (out.map backV)), I.laid (t' := s.toks) (fun _ _ => PyProof.Rows.sortedAll_old) (Nat.le_succ _) ⟨by rw [pm.length_eq]; exact hz, out, ep, vals_back h3, he'⟩, rfl, q _ _ pm (List.pairwise_map.mpr h1) (I.hok.fresh (Nat.le_succ _))⟩
/-- sorted(xs), xs a list of pairs of texts -/
def rSortB (K : PySem.W.Frag) : List V → Hp → VK → Prop := fun vs H Q => ∃ (a : Addr) (xs : List V) (k : V → Str × Str), vs = [V.ref a] ∧ SqL K H a xs ∧ (∀ x ∈ xs, ∃ t, x = V.ref t ∧ SqT K H t [.str (k x).1, .str (k x).2]) ∧
  ∀ ys p, ys.Perm xs → ys.Pairwise (fun x y => slt2 (k y) (k x) = false) → H p = none → Q (.ref p) (upd H p (.lst ys))
theorem cr_sortB : CallR X (.builtin "sorted") (rSortB X.K) := by
  intro pins s σ H vs us Q I r h
  obtain ⟨a, xs, k, rfl, hs, hx, q⟩ := h
  obtain ⟨its, rv, hl, hz⟩ := I.list hs
  rw [Vals.ref1 r]
  obtain ⟨e1, e2⟩ := refs_back rv fun x m => by
    obtain ⟨t, e, _⟩ := hx x m
    exact ⟨t, e⟩
  have hp : ∀ v ∈ its, ∃ t, IsTp s.heap v (k (backV v)).1 [.str (k (backV v)).2 t] := fun v hv => by
    obtain ⟨t, rfl⟩ := e2 v hv
    have hm : V.ref t ∈ xs := by rw [e1]; exact List.mem_map.mpr ⟨_, hv, rfl⟩
    obtain ⟨t', e, ht⟩ := hx _ hm
    cases e
    obtain ⟨its2, r2, ⟨o, ho, hc, n, hd⟩, _⟩ := I.tuple ht
    obtain ⟨u1, u2, rfl, ri, rj⟩ := vals2 r2
    obtain ⟨t1, rfl⟩ := ri
    obtain ⟨t2, rfl⟩ := rj
    exact ⟨t2, t, o, _, n, t1, rfl, ho, hc, hd, rfl⟩
  refine sorted_seq (swo_of swo_s2 fun u => k (backV u)) (.inl hl.isList) (by rw [← rv.length]; exact hz) (fun h2 h₁ a' ha' kk => pairs_sortable (by omega) (fun v hv => let ⟨r, z⟩ := hp v hv; ⟨r, z.keeps fun b o e _ => (kk b o e).2⟩) (noTup ha')) fun out h1 h2 => ?_
  have h3 : ∀ u ∈ out, ∃ a, u = Value.ref a := fun u hu => e2 u (h2.perm.mem_iff.mp hu)
  obtain ⟨ep, he'⟩ := PyProof.Rows.sortedAll_at s.heap its out.toArray
  have pm : (out.map backV).Perm xs := by
    rw [e1]
    exact h2.perm.map backV
  refine ⟨.ref _, upd H (s.heap.objs.size + 1) (.lst (out.map backV)), I.laid (t' := s.toks) (fun _ _ => PyProof.Rows.sortedAll_old) (Nat.le_succ _) ⟨by rw [pm.length_eq]; exact hz, out, ep, vals_back h3, he'⟩, rfl, q _ _ pm (List.pairwise_map.mpr h1) (I.hok.fresh (Nat.le_succ _))⟩
end
end MyS

set_option Elab.async false
set_option linter.all false
set_option maxRecDepth 100000
set_option maxHeartbeats 4000000
/-! {k: v for x in xs} with tuples as keys (the library's HandS.DictComp is for ints and texts; the steps are its steps, the store is another). -/
namespace MyS
open PySem PySem.Spec PyProof.Rows L2
section
variable {X : Cx}
theorem d_dictSetT {pins : List (Addr × Obj)} {σ : L2.St} {H : Hp} {s : Shared} {E : Value → Shared → Prop} {D b : Addr} {kvs : List (List Key × V)} {k : List Key} {v : V} {u r : Value} {Q : Unit → Shared → Prop} (hu : X.A.units + 1 < cLine) (I : Inv X pins σ H s) (hD : H D = some (.dT kvs)) (hz : kvs.length < sizeLine)
    (eb : H b = some (.tup (k.map kV))) (ry : RelV (.ref b) u) (rv : RelV v r) (h : ∀ s', Inv X pins σ (upd H D (.dT (putK kvs k v))) s' → Q () s') : wpAny (model X.prog X.w) X.A (dictSet D u r) Q E s := by
  cases (show u = Value.ref b from ry)
  obtain ⟨z, hd, xs, rel, dd⟩ := dt_of I.hok hD
  have hxs : xs.length ≤ sizeLine := by rw [← Paired.length rel]; exact z
  have hl : (putK kvs k v).length ≤ sizeLine := by have := length_putK kvs k v; omega
  refine wpAny_dictSet_heap (hsz := hxs) (show X.A.units < cLine from Nat.lt_of_succ_lt hu) (key_of I.hok eb) dd fun h' dd' hs => h _ ?_
  obtain ⟨q, es, ep, hq, h2, h3, h4, _, h5⟩ := dd'
  refine d_write I (by rw [hD]; exact True.intro) hs ⟨q, hq⟩ ⟨hl, hd, _, (rel.put k eb rv).keeps fun c ys ec => ?_, q, es, ep, hq, h2, h3, h4, h5⟩
  rw [upd_ne (ne_of ec hD (fun z => nomatch z))]
  exact ec
/-- {k: v for x in xs}: the tuple keys' own dict D; the loop by W as in a list comprehension -/
def tDcT (wi : TI) (g : TG) (tt : TT) (tk tv : TE) (vs : List Nat) : TE := fun σ H Q => wi σ H fun J H1 => ∀ D, H1 D = none → ∃ W : Nat → Nat → Hp → Prop, (∃ m, W 0 m (upd H1 D (.dT []))) ∧ ∀ i m H, W i m H →
  (J.stop i H ∧ Q (.ref D) H) ∨ (J.go i H ∧ ∃ Nx : Hp → Prop, (∀ H', Nx H' → ∃ m', m' < m ∧ W (i + 1) m' H') ∧ ∀ x H', J.yld i H x H' → g x (wipe σ vs) H' fun σ2 H2 => wipe σ2 vs = wipe σ vs ∧ tt σ2 H2 fun b H3 =>
    if b = true then tk σ2 H3 fun y H4 => tv σ2 H4 fun z H5 => ∃ kvs k c, y = .ref c ∧ H5 c = some (.tup (k.map kV)) ∧ H5 D = some (.dT kvs) ∧ kvs.length < sizeLine ∧ Nx (upd H5 D (.dT (putK kvs k z))) else Nx H3)
theorem pe_dcT {kx vx tg iter : Expr} {ifs : List Expr} {scope : Scope} {own : List (PySem.Str × Nat)} {pos : Pos} {wi : TI} {g : TG} {tt : TT} {tk tv : TE} (hu : X.A.units + 1 < cLine) (hc : X.calm = true) (hN : X.N.Nodup) (hi : PI X tg iter wi) (ok : BlkOk X.N X.env.scope scope own)
    (hg : ∀ (s : Shared) (H : Hp) (C : Addr) (cl : List (PySem.Str × Addr)) (fp : List Addr), PG (X.blk s H scope (compEnvC scope cl C X.env) fp) tg g) (ht : ∀ (s : Shared) (H : Hp) (C : Addr) (cl : List (PySem.Str × Addr)) (fp : List Addr), PTs (X.blk s H scope (compEnvC scope cl C X.env) fp) ifs tt)
    (hk : ∀ (s : Shared) (H : Hp) (C : Addr) (cl : List (PySem.Str × Addr)) (fp : List Addr), PE (X.blk s H scope (compEnvC scope cl C X.env) fp) kx tk)
    (he : ∀ (s : Shared) (H : Hp) (C : Addr) (cl : List (PySem.Str × Addr)) (fp : List Addr), PE (X.blk s H scope (compEnvC scope cl C X.env) fp) vx tv) (hs : ∀ x, foldedSetIterable iter X.env x = pure x := by intro _; rfl) :
    PE X (.DictComp kx vx [⟨tg, iter, ifs, 0⟩] scope pos) (tDcT wi g tt tk tv (own.map (·.2))) := by
  refine ⟨fun pins s σ H Q I h => ?_⟩
  rw [arm_eval_DictComp]
  have hfree : ∀ y ∈ scope.names, y.2 = .free → ∃ c, X.env.cells.lookup y.1 = some c := fun y hy e =>
    (ok.free y hy e).elim (fun k => I.ok.has _ (.inl k)) fun k => I.ok.has _ (.inr k)
  refine wpAny_comprehension_free (use := none) rfl hs (closure_ok hfree) ok.kind (fun y hy e => by rw [ok.uniq y hy, e]) (thn (hi.run pins s σ H _ I h) fun xv s1 hx => thn hx fun itv s2 h2 => ?_)
  obtain ⟨it, fp, tn, J, H2, rfl, I2, T, st2, f2, q⟩ := h2
  refine wpAny_newObj_type (newEnv_comp ?_)
  obtain ⟨W, ⟨m0, w0⟩, turn⟩ := q s2.heap.objs.size (I2.hok.fresh (Nat.le_refl _))
  -- the new dict
  have I3 : Inv X pins σ (upd H2 s2.heap.objs.size (.dT [])) { s2 with heap := s2.heap.push { cls := .type "dict", data := .dict #[] } } :=
    I2.laid (t' := s2.toks) (fun b o e => Heap.get?_push_of_some _ e) (Nat.le_refl _) (dt_empty s2.heap I2.big)
  have below : ∀ b ∈ fp, b < s2.heap.objs.size := fun b hb => let ⟨o, e, _⟩ := T.obj _ _ st2 b hb; Heap.lt_size e
  generalize hs3 : ({ s2 with heap := s2.heap.push { cls := .type "dict", data := .dict #[] } } : Shared) = s3 at I3
  have h3 : s3.heap = s2.heap.push { cls := .type "dict", data := .dict #[] } := by rw [← hs3]
  generalize hD : s2.heap.objs.size = D at I3 w0 turn below ⊢
  have f3 : ∀ b ∈ fp, FpOk X pins (upd H2 D (.dT [])) b ∧ b < s3.heap.objs.size := fun b hb =>
    ⟨⟨by rw [upd_ne (Nat.ne_of_lt (below b hb))]; exact (f2 b hb).1, (f2 b hb).2⟩, by rw [h3, Heap.size_push, hD]; exact Nat.lt_succ_of_lt (below b hb)⟩
  have st3 : tn 0 s3.heap := T.keep _ _ _ st2 fun b _ o e => by rw [h3]; exact Heap.get?_push_of_some _ e
  have I4 := block_start I3 ok hN f3
  generalize hC : cellsFrom (s3.heap.objs.size + 1) scope.names (cloFrom X.env.cells scope.names []) = cl at I4
  have pg := hg s3 (upd H2 D (.dT [])) s3.heap.objs.size cl fp
  have pt := ht s3 (upd H2 D (.dT [])) s3.heap.objs.size cl fp
  have pk := hk s3 (upd H2 D (.dT [])) s3.heap.objs.size cl fp
  have pe := he s3 (upd H2 D (.dT [])) s3.heap.objs.size cl fp
  have goal : codeAny (model X.prog X.w) X.A (.compStart (.DictComp kx vx [⟨tg, iter, ifs, 0⟩] scope pos) 0 (.ref it) (.ref D) (compEnvC scope cl s3.heap.objs.size X.env)) (compPost (model X.prog X.w) X.A X.xe none (EP X pins σ Q) (.ref D) s3.heap.objs.size) { s3 with heap := pushCells (s3.heap.push { cls := .type "dict", data := .dict #[] }) scope.names } := by
    have cL : (compEnvC scope cl s3.heap.objs.size X.env).locals = s3.heap.objs.size := rfl
    generalize compEnvC scope cl s3.heap.objs.size X.env = ce at I4 pg pt pk pe cL ⊢
    generalize hH3 : upd H2 D (.dT []) = H3 at I3 I4 pg pt pk pe w0 f3
    generalize hs4 : ({ s3 with heap := pushCells (s3.heap.push { cls := .type "dict", data := .dict #[] }) scope.names } : Shared) = s4 at I4 ⊢
    have st4 : tn 0 s4.heap := T.keep _ _ _ st3 fun b _ o e => by rw [← hs4]; exact pushCells_keeps _ _ _ _ (Heap.get?_push_of_some _ e)
    have stat : ∀ {σ' : L2.St} {H' : Hp} {s' : Shared}, Inv (X.blk s3 H3 scope ce fp) [] σ' H' s' → (∀ b ∈ fp, H' b = none) → ∀ b ∈ fp, FpOk (X.blk s3 H3 scope ce fp) [] H' b := fun {σ' H' s'} I' hn b hb =>
      ⟨hn b hb, (I'.ok.exf b hb).1, I'.ok.exfs b hb, .inl hb, fun x c e => (I'.ok.exf b hb).2 x c e, fun p hp => absurd (show p ∈ ([] : List (Addr × Obj)) ++ [] from hp) (by simp)⟩
    refine codeAny_compStart_dict ?lp (T.self X.A 0 _ _ _ st4 ?lp)
    refine compLoop_anyD (fun n s' => ∃ i H', Inv (X.blk s3 H3 scope ce fp) [] (wipe σ (own.map (·.2))) H' s' ∧ tn i s'.heap ∧ (∀ b ∈ fp, H' b = none) ∧ W i n H') ?_ m0 ⟨0, H3, I4, st4, fun b hb => (f3 b hb).1.1, w0⟩
    rintro n s5 ⟨i, H5, I5, st5, n5, w5⟩
    rcases turn i n H5 w5 with ⟨stop, qq⟩ | ⟨go, Nx, hNx, step⟩
    · refine thnF (T.done (X.blk s3 H3 scope ce fp) rfl rfl rfl hc i [] s5 _ H5 (fun _ _ => False) I5 (stat I5 n5) st5 stop) fun r s6 ⟨hr, I6⟩ => ?_
      subst hr
      have I7 : Inv X pins σ H5 s6 := I3.call' (ch := fp) I6.os I6.base I6.hok I6.bare fun b hb => ⟨(f3 b hb).1.2.2.2.1, (f3 b hb).1.2.1, (f3 b hb).1.2.2.2.2.1, (f3 b hb).1.2.2.2.2.2⟩
      have nC : H5 s3.heap.objs.size = none := by
        have z : H5 ce.locals = none := I6.free
        rw [cL] at z
        exact z
      obtain ⟨m, hn, _⟩ := I6.loc
      have hn : s6.heap.Ns ce.locals m := hn
      rw [cL] at hn
      obtain ⟨f0, f1, f2, f3, f4, f5⟩ := I3.fpOk (Nat.le_refl _) nC
      exact ⟨m, hn, fun h'' sb => ⟨.ref D, H5, I7.turned (t' := s6.toks) (fun b o hb e => (sb.2 b hb).trans e) f0 f1 f3 f4 f5, rfl, qq⟩⟩
    · refine thnF (T.item (X.blk s3 H3 scope ce fp) rfl rfl rfl hc i [] s5 _ H5 (fun _ _ => False) I5 (stat I5 n5) st5 go) fun r s6 ⟨u, hr, h6⟩ => ?_
      subst hr
      refine thnF h6 fun _ s7 ⟨x, H7, I7, r7, y7, st7, n7⟩ => ?_
      refine thnF (pg.run _ s7 _ H7 x u _ (I7.pinned (stat I7 n7) (T.obj _ _ st7)) r7 (step x H7 y7)) fun _ s8 ⟨σ8, H8, I8, hw8, q8⟩ => ?_
      refine thnF (pt.run _ s8 σ8 H8 _ I8 q8) fun b s9 ⟨H9, I9, q9⟩ => ?_
      have fin : ∀ {s' : Shared} {H' : Hp}, Inv (X.blk s3 H3 scope ce fp) ([] ++ pinsAt fp s7.heap) σ8 H' s' → Nx H' → ∃ m, m < n ∧ ∃ i H', Inv (X.blk s3 H3 scope ce fp) [] (wipe σ (own.map (·.2))) H' s' ∧ tn i s'.heap ∧ (∀ b ∈ fp, H' b = none) ∧ W i m H' := fun {s' H'} I' nx => by
        obtain ⟨m', hm, w'⟩ := hNx H' nx
        have pin' : ∀ b ∈ fp, ∀ o, s7.heap.get? b = some o → s'.heap.get? b = some o ∧ H' b = none := fun b hb o e =>
          have z := I'.pin (b, o) (List.mem_append_right _ (List.mem_append_right _ (mem_pinsAt hb e)))
          ⟨z.1, z.2.1⟩
        have hl : (wipe σ (own.map (·.2))).length = σ8.length := by rw [← hw8, wipe_length]
        refine ⟨m', hm, i + 1, H', (I'.unpinned (pins := [])).weak hl (fun j v e => ?_), T.keep _ _ _ st7 fun b hb o e => (pin' b hb o e).1, fun b hb => ?_, w'⟩
        · rw [← hw8] at e
          exact (wipe_some e).1
        · obtain ⟨o, e, _⟩ := T.obj _ _ st7 b hb
          exact (pin' b hb o e).2
      cases b with
      | false =>
        simp only [Bool.false_eq_true, if_false] at q9 ⊢
        exact fin I9 q9
      | true =>
        simp only [if_true] at q9 ⊢
        refine thnF (pk.run _ s9 σ8 H9 _ I9 q9) fun z s10 ⟨yk, H10, I10, r10, q10⟩ => ?_
        refine thnF (pe.run _ s10 σ8 H10 _ I10 q10) fun z2 s11 ⟨yv, H11, I11, r11, kvs, k, c, ek, ec, hD11, hz11, nx⟩ => ?_
        subst ek
        exact d_dictSetT (X := X.blk s3 H3 scope ce fp) hu I11 hD11 hz11 ec r10 r11 fun s12 I12 => fin I12 nx
  subst hD
  exact goal
/-- over a tuple that stays -/
theorem dcT_tup {K : PySem.W.Frag} {a : Addr} {xs : List V} {g : TG} {tt : TT} {tk tv : TE} {vs : List Nat} {σ : L2.St} {H1 : Hp} {D : Addr} {Qd : Hp → Prop} (Pv : Nat → Hp → Prop) (h0 : Pv 0 (upd H1 D (.dT []))) (hl : ∀ i H, i ≤ xs.length → Pv i H → SqT K H a xs)
    (hs : ∀ i x H, xs[i]? = some x → Pv i H → g x (wipe σ vs) H fun σ2 H2 => wipe σ2 vs = wipe σ vs ∧ tt σ2 H2 fun b H3 =>
      if b = true then tk σ2 H3 fun y H4 => tv σ2 H4 fun z H5 => ∃ kvs k c, y = .ref c ∧ H5 c = some (.tup (k.map kV)) ∧ H5 D = some (.dT kvs) ∧ kvs.length < sizeLine ∧ Pv (i + 1) (upd H5 D (.dT (putK kvs k z))) else Pv (i + 1) H3) (hd : ∀ H, Pv xs.length H → Qd H) :
    ∃ W : Nat → Nat → Hp → Prop, (∃ m, W 0 m (upd H1 D (.dT []))) ∧ ∀ i m H, W i m H →
      ((Itt K a).stop i H ∧ Qd H) ∨ ((Itt K a).go i H ∧ ∃ Nx : Hp → Prop, (∀ H', Nx H' → ∃ m', m' < m ∧ W (i + 1) m' H') ∧ ∀ x H', (Itt K a).yld i H x H' → g x (wipe σ vs) H' fun σ2 H2 => wipe σ2 vs = wipe σ vs ∧ tt σ2 H2 fun b H3 =>
        if b = true then tk σ2 H3 fun y H4 => tv σ2 H4 fun z H5 => ∃ kvs k c, y = .ref c ∧ H5 c = some (.tup (k.map kV)) ∧ H5 D = some (.dT kvs) ∧ kvs.length < sizeLine ∧ Nx (upd H5 D (.dT (putK kvs k z))) else Nx H3) := by
  refine ⟨fun i m H => m = xs.length - i ∧ i ≤ xs.length ∧ Pv i H, ⟨xs.length, by simp, Nat.zero_le _, h0⟩, ?_⟩
  rintro i m H ⟨rfl, hi, p⟩
  have q := hl i H hi p
  rcases Nat.lt_or_ge i xs.length with lt | ge
  · refine .inr ⟨⟨xs, xs[i], q, by simp [lt]⟩, Pv (i + 1), fun H' p' => ⟨xs.length - (i + 1), by omega, rfl, lt, p'⟩, fun x H' y => ?_⟩
    obtain ⟨rfl, y⟩ := y
    exact hs i x _ (y xs q) p
  · obtain rfl : i = xs.length := by omega
    exact .inl ⟨⟨xs, q, Nat.le_refl _⟩, hd H p⟩
end
end MyS

set_option Elab.async false
set_option linter.all false
set_option maxRecDepth 100000
set_option maxHeartbeats 4000000
namespace W
open PySem PySem.Spec PyProof.Rows L2 GxR MyG
/-! ### the text by places -/
def top (i : Nat) : Stmt := PySem.Challenge.pw_waypapers_k37_worst_delays.main.body.getD i (.Pass ⟨0, 0, 0, 0⟩)
abbrev sIsName : Stmt := top 24
abbrev sNames : Stmt := top 26
abbrev sDiff : Stmt := top 27
abbrev sRoads : Stmt := top 28
abbrev sRoad : Stmt := top 29
abbrev sHours : Stmt := top 30
abbrev sBars : Stmt := top 31
abbrev sInit : Stmt := inClass (top 32) 0

/-! ### names -/
def zLet : Str := "abcdefghijklmnopqrstuvwxyz"
def zDig : Str := "0123456789"
def goodC (c : Nat) : Bool := decide (c ∈ zLet.cps.toList) || decide (c ∈ zDig.cps.toList)
def isNm (z : Str) : Bool := decide (1 ≤ z.length) && decide (z.length ≤ 12) && (match z.cps.toList with | [] => false | c :: _ => decide (c ∈ zLet.cps.toList)) && z.cps.toList.all goodC
/-- the element of the generator: x in A or x in B -/
theorem elt_two {prog : Program} {w : World} {base : Heap} {mg : Str → Option Value} {scope : Scope} {x A B : Str} {a b : Str} {ta tb : Tok} {p1 p2 p3 p4 p5 p6 p7 : Pos} (hk : scope.kind = .function) (hl : scope.names.lookup x = some .local)
    (hA : scope.names.lookup A = some .globalImplicit) (hB : scope.names.lookup B = some .globalImplicit) (hns : base.Ns mainGlobals mg) (eA : mg A = some (.str a ta)) (eB : mg B = some (.str b tb))
    (hd : (x == ("__debug__" : Str)) = false := by decide) (hdA : (A == ("__debug__" : Str)) = false := by decide) (hdB : (B == ("__debug__" : Str)) = false := by decide) :
    EltB prog w base scope x (.BoolOp .Or [.Compare (.Name x p1) [.In] [.Name A p2] p3, .Compare (.Name x p4) [.In] [.Name B p5] p6] p7) (fun c => decide (c ∈ a.cps.toList) || decide (c ∈ b.cps.toList)) := by
  intro ce B' F c t z m hs hg hh hb hn hm
  have kf : ce.scope.kind = .function := by rw [hs]; exact hk
  have kx : ce.kindOf x = some .local := by show ce.scope.names.lookup x = _; rw [hs]; exact hl
  have nsz : ∀ (z' : Shared), Keeps z z' → z'.heap.Ns ce.globals mg := fun z' k => by
    rw [hg]
    obtain ⟨h', tk, rfl, kk⟩ := k
    exact (hns.keeps hb).keeps kk
  have one : ∀ (G : Str) (g : Str) (tg : Tok) (q1 q2 q3 : Pos) (Q : Value → Shared → Prop), (G == ("__debug__" : Str)) = false → scope.names.lookup G = some .globalImplicit → mg G = some (.str g tg) → Q (.bool (decide (c ∈ g.cps.toList))) z →
      wpAny (model prog w) B' (eval (.Compare (.Name x q1) [.In] [.Name G q2] q3) ce) Q F z := by
    intro G g tg q1 q2 q3 Q hdG hG eG hQ
    refine wpAny_Compare1 ?_
    refine wpAny_Name (wpAny_loadName_local kf kx hn hm ?_) hd
    refine Calls.Name_function_global kf (by show ce.scope.names.lookup G = _; rw [hs]; exact hG) (Calls.loadGlobal_global (nsz z (keeps_refl z)) eG ?_) hdG
    refine PyProof.Rows.in_str ?_
    rw [PySem.StrLaws.found_one g c]
    exact hQ
  refine BoolOp_or (one A a ta _ _ _ _ hdA hA eA ?_)
  refine wpAny_truthy_bool ?_
  by_cases ca : c ∈ a.cps.toList
  · have ea : decide (c ∈ a.cps.toList) = true := decide_eq_true ca
    rw [if_pos ea]
    refine ⟨?_, keeps_refl z⟩
    show Value.bool (decide (c ∈ a.cps.toList)) = Value.bool (decide (c ∈ a.cps.toList) || decide (c ∈ b.cps.toList))
    rw [ea]; rfl
  · have ea : decide (c ∈ a.cps.toList) = false := decide_eq_false ca
    rw [if_neg (by rw [ea]; exact Bool.false_ne_true)]
    refine BoolOp_one (one B b tb _ _ _ _ hdB hB eB ?_)
    refine ⟨?_, keeps_refl z⟩
    show Value.bool (decide (c ∈ b.cps.toList)) = Value.bool (decide (c ∈ a.cps.toList) || decide (c ∈ b.cps.toList))
    rw [ea]; rfl

theorem pe_gI {X : Cx} {x : Str} {i : Int} {t : Tok} {pos : Pos} (hm : X.mg x = some (.int i t)) (hg : Gl X x := by rfl) (hd : (x == ("__debug__" : Str)) = false := by decide) : PE X (.Name x pos) (tC (.int i)) := pe_glob hg hm ⟨_, rfl⟩ hd
theorem pe_gS {X : Cx} {x z : Str} {t : Tok} {pos : Pos} (hm : X.mg x = some (.str z t)) (hg : Gl X x := by rfl) (hd : (x == ("__debug__" : Str)) = false := by decide) : PE X (.Name x pos) (tC (.str z)) := pe_glob hg hm ⟨_, rfl⟩ hd
theorem nofree {names : List (Str × NameKind)} {Q : Str × NameKind → Prop} (h : names.all (fun y => y.2 != .free) = true) : ∀ y ∈ names, y.2 = .free → Q y := fun y hy e => by
  have q := List.all_eq_true.mp h y hy
  rw [e] at q
  exact absurd q (by decide)
theorem if_t {c : Bool} {A B : Prop} (hc : c = true) (h : A) : if c = true then A else B := by
  rw [if_pos hc]
  exact h
theorem if_f {c : Bool} {A B : Prop} (hc : c = false) (h : B) : if c = true then A else B := by
  rw [hc, if_neg Bool.false_ne_true]
  exact h
/-! ### what the top has written -/
structure Txt (K : PySem.W.Frag) (mg : Str → Option Value) (C P : Addr) : Prop where
  let_ : ∃ t, mg "LETTERS" = some (.str zLet t)
  dig : ∃ t, mg "DIGITS" = some (.str zDig t)
  ln : ∃ t, mg "LONGEST_NAME" = some (.int 12 t)
  len : mg "len" = none
  all : mg "all" = none

def spIsName (P : Addr) : Sp := fun vs H Q _ => ∃ z : Str, vs = [.str z] ∧ z.length ≤ sizeLine ∧ TabG H P ∧ ∀ H', Tabbed P H H' → Q (.bl (isNm z)) H'
section
variable {Pg : Program} {w : World} {K : PySem.W.Frag} {mg : Str → Option Value} {base : Heap} {C P : Addr}
theorem scIsName : FnScope ["text"] ["text"] (defScope sIsName) := ⟨rfl, rfl, rfl, by decide +kernel, rfl, by decide +kernel, by decide +kernel⟩
theorem str_len0 {z : Str} (h : ¬ 1 ≤ z.length) : isNm z = false := by
  unfold isNm
  simp [h]
theorem ok_isName {f c : Addr} {fd : FuncData} (F : Fun K "is_name" "is_name" sIsName f fd) (T : Txt K mg C P) (TB : TabB base mg c P) (hfc : fd.code = .ref c) (hns : base.Ns mainGlobals mg) : FnOk Pg w K mg base CX0 2 f fd ["text"] (spIsName P) := by
  obtain ⟨oc, od, kV, doc, pm, an, cdv, ct, osl, efd, lk, hcd⟩ := F.ex
  subst efd
  have ecd : cdv = .ref c := hfc
  subst ecd
  refine fn_of lk hcd scIsName (fun vs H Q E h => ?_) (fun A outer s H vs Q E hr h => ?_)
  · obtain ⟨z, rfl, _⟩ := h
    rfl
  · obtain ⟨z, rfl, hz, hP, k⟩ := h
    obtain ⟨tl, el⟩ := T.let_
    obtain ⟨td, ed⟩ := T.dig
    obtain ⟨tn, en⟩ := T.ln
    refine ⟨_, PSs.nox (pss_cons (ps_if (PW.pt (pw_or (pt_not (pt_chain op_le op_le pe_int (pe_callB call_len_str (by rfl) T.len PySem.boot_len (pa_cons (pv 0) pa_nil)) (pe_gI en)))
        (pw_or1 (pt_cmpR op_notIn_sign (pe_ix ix_str (pv 0) pe_int (fun _ _ => rfl)) (pe_gS el) (by rfl)))))
        (pss_one (ps_ret pe_bl)) pss_nil)
      (pss_one (ps_ret (pe_allB (scope := _) (P := P) hr rfl T.all TB rfl ⟨rfl, rfl, by decide +kernel, by decide +kernel, by decide +kernel, nofree (by decide +kernel)⟩ (pv 0) (elt_two rfl (by decide +kernel) (by decide +kernel) (by decide +kernel) hns el ed) (fun _ => rfl))))), ?_⟩
    have zl : z.length = z.cps.toList.length := by simp [Str.length]
    refine ⟨_, rfl, z, rfl, hz, 1, _, rfl, rfl, _, rfl, ?_⟩
    by_cases h1 : (1 : Int) ≤ (z.length : Int)
    · refine if_t (decide_eq_true h1) ⟨_, _, rfl, rfl, _, rfl, ?_⟩
      by_cases h2 : (z.length : Int) ≤ 12
      · rw [decide_eq_true h2]
        refine iteF ?_
        have hp : 0 < z.cps.toList.length := by omega
        have e0 : atI z.cps.toList 0 = some (z.cps.toList[0]'hp) := atI_nat (j := 0) (List.getElem?_eq_getElem hp)
        refine ⟨_, rfl, z, 0, _, rfl, rfl, hz, e0, _, _, rfl, rfl, _, rfl, ?_⟩
        by_cases h3 : z.cps.toList[0]'hp ∈ zLet.cps.toList
        · rw [decide_eq_true h3]
          refine iteF ⟨_, rfl, z, rfl, hP, fun H2 hH => ?_⟩
          have e := k H2 hH
          have en : isNm z = z.cps.toList.all goodC := by
            unfold isNm
            cases q : z.cps.toList with
            | nil => rw [q] at hp; exact absurd hp (by decide)
            | cons c r =>
              have h3' : c ∈ zLet.cps.toList := by
                have : z.cps.toList[0]'hp = c := by simp [q]
                rw [← this]; exact h3
              have a1 : 1 ≤ z.length := by omega
              have a2 : z.length ≤ 12 := by omega
              simp [a1, a2, h3']
          rw [en] at e
          exact e
        · rw [decide_eq_false h3]
          refine iteT ?_
          have en : isNm z = false := by
            unfold isNm
            cases q : z.cps.toList with
            | nil => simp
            | cons c r =>
              have h3' : c ∉ zLet.cps.toList := by
                have : z.cps.toList[0]'hp = c := by simp [q]
                rw [← this]; exact h3
              simp [h3']
          have e := k H ⟨hP, fun _ _ => rfl⟩
          rw [en] at e
          exact e
      · rw [decide_eq_false h2]
        refine iteT ?_
        have en : isNm z = false := by
          unfold isNm
          have a2 : ¬ z.length ≤ 12 := by omega
          simp [a2]
        have e := k H ⟨hP, fun _ _ => rfl⟩
        rw [en] at e
        exact e
    · refine if_f (decide_eq_false h1) ⟨_, rfl, ?_⟩
      refine iteT ?_
      have en : isNm z = false := by
        unfold isNm
        have a2 : ¬ 1 ≤ z.length := by omega
        simp [a2]
      have e := k H ⟨hP, fun _ _ => rfl⟩
      rw [en] at e
      exact e
end
end W

set_option Elab.async false
set_option linter.all false
set_option maxRecDepth 100000
set_option maxHeartbeats 400000
namespace W
open PySem PySem.Spec PyProof.Rows L2 GxR MyG MyS
/-! ### heaps that have grown: what stood (but the table at P) stands -/
structure Grew (P : Addr) (H H' : Hp) : Prop where
  tab : TabG H' P
  old : ∀ b o, b ≠ P → H b = some o → H' b = some o
section
variable {P : Addr} {H H1 H2 H' : Hp} {K : PySem.W.Frag}
theorem Grew.refl (h : TabG H P) : Grew P H H := ⟨h, fun _ _ _ e => e⟩
theorem Grew.trans (a : Grew P H H1) (b : Grew P H1 H2) : Grew P H H2 := ⟨b.tab, fun c o n e => b.old c o n (a.old c o n e)⟩
theorem Grew.of (t : Tabbed P H H') : Grew P H H' := ⟨t.1, fun b o n e => by rw [t.2 b n]; exact e⟩
theorem tabNe (h : TabG H P) {a : Addr} (n : H a = none) : a ≠ P := fun e => by
  obtain ⟨ps, q, _⟩ := h
  rw [e, q] at n
  cases n
theorem tabNe' (h : TabG H P) {a : Addr} {o : HO} (e : H a = some o) (d : ∀ ps, o ≠ .tbl ps) : a ≠ P := fun z => by
  obtain ⟨ps, q, _⟩ := h
  rw [z, q] at e
  exact d ps (Option.some.inj e).symm
theorem tabUpd (h : TabG H P) {a : Addr} {o : HO} (n : a ≠ P) : TabG (upd H a o) P := by
  obtain ⟨ps, q, t⟩ := h
  exact ⟨ps, by rw [upd_ne (Ne.symm n)]; exact q, t⟩
/-- a new object -/
theorem Grew.new (h : TabG H P) {a : Addr} {o : HO} (n : H a = none) : Grew P H (upd H a o) := ⟨tabUpd h (tabNe h n), fun b u _ e => by rw [upd_ne (ne_of_none e n)]; exact e⟩
theorem Grew.put (g : Grew P H H1) {a : Addr} {o : HO} (n : H1 a = none) : Grew P H (L2.upd H1 a o) := g.trans (Grew.new g.tab n)
theorem Grew.get (g : Grew P H H') (h : TabG H P) {b : Addr} {o : HO} (e : H b = some o) (d : ∀ ps, o ≠ .tbl ps) : H' b = some o := g.old b o (tabNe' h e d) e
theorem Grew.lst (g : Grew P H H') (h : TabG H P) {b : Addr} {xs : List V} (e : H b = some (.lst xs)) : H' b = some (.lst xs) := g.get h e (fun _ z => by cases z)
theorem Grew.tup (g : Grew P H H') (h : TabG H P) {b : Addr} {xs : List V} (e : H b = some (.tup xs)) : H' b = some (.tup xs) := g.get h e (fun _ z => by cases z)
theorem Grew.free (g : Grew P H H') {b : Addr} (n : H' b = none) : H b = none := by
  cases q : H b with
  | none => rfl
  | some o =>
    rw [g.old b o (tabNe g.tab n) q] at n
    cases n
theorem Grew.sqL (g : Grew P H H') (h : TabG H P) {a : Addr} {xs : List V} (q : SqL K H a xs) : SqL K H' a xs := by
  rcases q with (q | ⟨o, q⟩) | q
  · exact .inl (.inl (g.lst h q))
  · exact .inl (.inr ⟨o, g.get h q (fun _ z => by cases z)⟩)
  · exact .inr q
theorem Grew.sqT (g : Grew P H H') (h : TabG H P) {a : Addr} {xs : List V} (q : SqT K H a xs) : SqT K H' a xs := by
  rcases q with (q | ⟨o, q⟩) | q
  · exact .inl (.inl (g.tup h q))
  · exact .inl (.inr ⟨o, g.get h q (fun _ z => by cases z)⟩)
  · exact .inr q
/-- an own object that was not there at H may be written -/
theorem Grew.write (g : Grew P H H1) {a : Addr} {o u : HO} (e : H1 a = some u) (d : ∀ ps, u ≠ .tbl ps) (n : H a = none) : Grew P H (L2.upd H1 a o) :=
  ⟨tabUpd g.tab (tabNe' g.tab e d), fun b v hb q => by rw [upd_ne (ne_of_none q n)]; exact g.old b v hb q⟩
end

/-! ### what stands in tuples goes on standing -/
def KeepT (K : PySem.W.Frag) (H H' : Hp) : Prop := ∀ a xs, SqT K H a xs → SqT K H' a xs
theorem KeepT.refl {K : PySem.W.Frag} {H : Hp} : KeepT K H H := fun _ _ h => h
theorem KeepT.trans {K : PySem.W.Frag} {H H1 H2 : Hp} (x : KeepT K H H1) (y : KeepT K H1 H2) : KeepT K H H2 := fun a xs h => y a xs (x a xs h)
theorem KeepT.grew {K : PySem.W.Frag} {P : Addr} {H H' : Hp} (g : Grew P H H') (h : TabG H P) : KeepT K H H' := fun _ _ q => g.sqT h q
theorem KeepT.upd {K : PySem.W.Frag} {H : Hp} {D : Addr} {o : HO} (h1 : ∀ xs, H D ≠ some (.tup xs)) (h2 : ∀ xs u, H D ≠ some (.frz u (.tup xs))) : KeepT K H (L2.upd H D o) := fun a xs q => by
  rcases q with (q | ⟨u, q⟩) | q
  · have ne : a ≠ D := fun e => by subst e; exact h1 xs q
    exact .inl (.inl (by rw [upd_ne ne]; exact q))
  · have ne : a ≠ D := fun e => by subst e; exact h2 xs u q
    exact .inl (.inr ⟨u, by rw [upd_ne ne]; exact q⟩)
  · exact .inr q
theorem KeepT.lst {K : PySem.W.Frag} {H : Hp} {D : Addr} {o : HO} {l : List V} (e : H D = some (.lst l)) : KeepT K H (L2.upd H D o) := .upd (fun xs q => by rw [e] at q; cases q) (fun xs u q => by rw [e] at q; cases q)
theorem KeepT.ins {K : PySem.W.Frag} {H : Hp} {D C dx : Addr} {o : HO} {fs : List (Str × V)} (e : H D = some (.ins C dx fs)) : KeepT K H (L2.upd H D o) := .upd (fun xs q => by rw [e] at q; cases q) (fun xs u q => by rw [e] at q; cases q)
theorem KeepT.dK {K : PySem.W.Frag} {H : Hp} {D : Addr} {o : HO} {l : List (Key × V)} (e : H D = some (.dK l)) : KeepT K H (L2.upd H D o) := .upd (fun xs q => by rw [e] at q; cases q) (fun xs u q => by rw [e] at q; cases q)
theorem KeepT.dT {K : PySem.W.Frag} {H : Hp} {D : Addr} {o : HO} {l : List (List Key × V)} (e : H D = some (.dT l)) : KeepT K H (L2.upd H D o) := .upd (fun xs q => by rw [e] at q; cases q) (fun xs u q => by rw [e] at q; cases q)
theorem KeepT.new {K : PySem.W.Frag} {H : Hp} {D : Addr} {o : HO} (e : H D = none) : KeepT K H (L2.upd H D o) := .upd (fun xs q => by rw [e] at q; cases q) (fun xs u q => by rw [e] at q; cases q)
/-! ### a < b < c <= d -/
section
variable {X : Cx} {a b c e : Expr} {ta tb tc te : TE} {pos : Pos}
def tChain3 (r r' r'' : R2) (ta tb tc te : TE) : TE := fun σ H Q => ta σ H fun x H1 => tb σ H1 fun y H2 => r x y H2 fun k H3 => ∃ i, k = .bl i ∧
  (if i = true then tc σ H3 fun z H4 => r' y z H4 fun k H5 => ∃ i, k = .bl i ∧ (if i = true then te σ H5 fun u H6 => r'' z u H6 Q else Q (.bl false) H5) else Q (.bl false) H3)
theorem pt_chain3 {op op' op'' : CmpOp} {r r' r'' : R2} (ho : OpR X (compareOp op) r) (ho' : OpR X (compareOp op') r') (ho'' : OpR X (compareOp op'') r'') (ha : PE X a ta) (hb : PE X b tb) (hc : PE X c tc) (he : PE X e te)
    (hm : lastMarks [op, op', op''] [b, c, e] = false := by with_unfolding_all rfl) : PT X (.Compare a [op, op', op''] [b, c, e] pos) (tTest (tChain3 r r' r'' ta tb tc te)) := by
  refine ⟨fun pins s σ H Q I h => ?_⟩
  refine isTrue_chain (thn (ha.run pins s σ H _ I h) fun v s1 ⟨x, H1, I1, r1, q1⟩ => test_link (thn (hb.run pins s1 σ H1 _ I1 q1) fun u s2 ⟨y, H2, I2, r2, q2⟩ =>
    thn (ho pins s2 σ H2 x y v u _ I2 r1 r2 q2) fun d s3 ⟨z, H3, I3, r3, k, ek, q3⟩ => ?_)) hm
  subst ek
  cases r3
  refine wpAny_truthy_bool ?_
  cases k with
  | false =>
    obtain ⟨k', e', q'⟩ := q3
    cases e'
    exact ite_ff ⟨H3, I3, q'⟩
  | true =>
    refine ite_tt (test_link (thn (hc.run pins s3 σ H3 _ I3 q3) fun w' s4 ⟨z', H4, I4, r4, q4⟩ => thn (ho' pins s4 σ H4 y z' u w' _ I4 r2 r4 q4) fun d s5 ⟨z5, H5, I5, r5, k5, e5, q5⟩ => ?_))
    subst e5
    cases r5
    refine wpAny_truthy_bool ?_
    cases k5 with
    | false =>
      obtain ⟨k', e', q'⟩ := q5
      cases e'
      exact ite_ff ⟨H5, I5, q'⟩
    | true =>
      refine ite_tt (test_last (thn (he.run pins s5 σ H5 _ I5 q5) fun w6 s6 ⟨z6, H6, I6, r6, q6⟩ => thn (ho'' pins s6 σ H6 z' z6 w' w6 _ I6 r4 r6 q6) fun d s7 ⟨z7, H7, I7, r7, k7, e7, q7⟩ => ?_))
      subst e7
      cases r7
      exact wpAny_truthy_bool ⟨H7, I7, q7⟩
end
def rTupOf (K : PySem.W.Frag) : List V → Hp → VK → Prop := fun xs H Q => ∃ p ys, xs = [.ref p] ∧ ((SqL K H p ys ∧ ∀ l, H l = none → Q (.ref l) (upd H l (.tup ys))) ∨ (SqT K H p ys ∧ Q (.ref p) H))
/-! ### what a map's parts are -/
theorem Paired.snoc {α β : Type} {F : α → β → Prop} {a : α} {b : β} : ∀ {l : List α} {m : List β}, Paired F l m → F a b → Paired F (l ++ [a]) (m ++ [b])
  | _, _, .nil, h => .cons h .nil
  | _, _, .cons r t, h => .cons r (Paired.snoc t h)
theorem Paired.len {α β : Type} {F : α → β → Prop} : ∀ {l : List α} {m : List β}, Paired F l m → l.length = m.length
  | _, _, .nil => rfl
  | _, _, .cons _ t => congrArg Nat.succ (Paired.len t)
theorem Paired.at {α β : Type} {F : α → β → Prop} : ∀ {l : List α} {m : List β} {i : Nat} {b : β}, Paired F l m → m[i]? = some b → ∃ a, l[i]? = some a ∧ F a b
  | _, _, _, _, .nil, e => by simp at e
  | _, _, 0, _, .cons r _, e => ⟨_, rfl, by simp at e; subst e; exact r⟩
  | _, _, i + 1, _, .cons _ t, e => by
    obtain ⟨a, h1, h2⟩ := Paired.at (i := i) t (by simpa using e)
    exact ⟨a, by simpa using h1, h2⟩
theorem Paired.to {α β : Type} {F : α → β → Prop} : ∀ {l : List α} {m : List β} {i : Nat} {a : α}, Paired F l m → l[i]? = some a → ∃ b, m[i]? = some b ∧ F a b
  | _, _, _, _, .nil, e => by simp at e
  | _, _, 0, _, .cons r _, e => ⟨_, rfl, by simp at e; subst e; exact r⟩
  | _, _, i + 1, _, .cons _ t, e => by
    obtain ⟨a, h1, h2⟩ := Paired.to (i := i) t (by simpa using e)
    exact ⟨a, by simpa using h1, h2⟩
theorem Paired.map' {α β : Type} {F G : α → β → Prop} : ∀ {l : List α} {m : List β}, Paired F l m → (∀ a b, F a b → G a b) → Paired G l m
  | _, _, .nil, _ => .nil
  | _, _, .cons r t, f => .cons (f _ _ r) (Paired.map' t f)
structure RoadD where
  name : Str
  start : Str
  goal : Str
  minutes : Int
  users : List Str
  hours : Option (List (Int × Int))
/-- a pair of hours -/
def GPair (K : PySem.W.Frag) (H : Hp) (p : Int × Int) (x : V) : Prop := ∃ t, x = .ref t ∧ SqT K H t [.int p.1, .int p.2]
/-- the hours of a road -/
def GHours (K : PySem.W.Frag) (H : Hp) (hs : Option (List (Int × Int))) (v : V) : Prop := match hs with
  | none => v = .non
  | some ps => ∃ l xs, v = .ref l ∧ SqT K H l xs ∧ Paired (GPair K H) ps xs
def GRoad (K : PySem.W.Frag) (H : Hp) (r : RoadD) (v : V) : Prop := ∃ t u h, v = .ref t ∧ SqT K H t [.str r.name, .str r.start, .str r.goal, .int r.minutes, .ref u, h] ∧ SqT K H u (r.users.map V.str) ∧ GHours K H r.hours h
theorem GPair.keep {K : PySem.W.Frag} {H H' : Hp} {p : Int × Int} {x : V} (k : KeepT K H H') (g : GPair K H p x) : GPair K H' p x := let ⟨t, e, q⟩ := g; ⟨t, e, k _ _ q⟩
theorem GHours.keep {K : PySem.W.Frag} {H H' : Hp} {hs : Option (List (Int × Int))} {v : V} (k : KeepT K H H') (g : GHours K H hs v) : GHours K H' hs v := by
  cases hs with
  | none => exact g
  | some ps =>
    obtain ⟨l, xs, e, q, r⟩ := g
    exact ⟨l, xs, e, k _ _ q, Paired.map' r fun _ _ => GPair.keep k⟩
theorem GRoad.keep {K : PySem.W.Frag} {H H' : Hp} {r : RoadD} {v : V} (k : KeepT K H H') (g : GRoad K H r v) : GRoad K H' r v := by
  obtain ⟨t, u, h, e, q1, q2, q3⟩ := g
  exact ⟨t, u, h, e, k _ _ q1, k _ _ q2, q3.keep k⟩
/-- pairs in order, apart, within the day -/
def hoursOk (d : Int) : Int → List (Int × Int) → Prop
  | _, [] => True
  | c, p :: r => c < p.1 ∧ p.1 < p.2 ∧ p.2 ≤ d ∧ hoursOk d p.2 r
def HoursOk (d : Int) : Option (List (Int × Int)) → Prop
  | none => True
  | some ps => ps.length ≤ 4 ∧ hoursOk d (-1) ps
/-- where the next pair begins behind the first i -/
def lastOf (c : Int) (ps : List (Int × Int)) (i : Nat) : Int := ((ps.take i).getLast?.map (·.2)).getD c
theorem hoursOk_at {d : Int} : ∀ {ps : List (Int × Int)} {c : Int} {i : Nat} {p : Int × Int}, hoursOk d c ps → ps[i]? = some p → lastOf c ps i < p.1 ∧ p.1 < p.2 ∧ p.2 ≤ d
  | [], _, _, _, _, e => by simp at e
  | q :: r, c, 0, p, h, e => by
    simp at e
    subst e
    exact ⟨h.1, h.2.1, h.2.2.1⟩
  | q :: r, c, i + 1, p, h, e => by
    have k := hoursOk_at (i := i) h.2.2.2 (by simpa using e)
    refine ⟨?_, k.2⟩
    have e2 : lastOf c (q :: r) (i + 1) = lastOf q.2 r i := by
      unfold lastOf
      rw [List.take_succ_cons]
      cases r.take i with
      | nil => rfl
      | cons a l => rw [List.getLast?_cons_cons]; cases h : (a :: l).getLast? with
        | none => simp at h
        | some z => rfl
    rw [e2]; exact k.1
theorem lastOf_succ {ps : List (Int × Int)} {c : Int} {i : Nat} {p : Int × Int} (e : ps[i]? = some p) : lastOf c ps (i + 1) = p.2 := by
  unfold lastOf
  rw [List.take_succ, e]
  simp
theorem isNm_len {z : Str} (h : isNm z = true) : z.length ≤ 12 := by
  unfold isNm at h
  simp only [Bool.and_eq_true, decide_eq_true_eq] at h
  exact h.1.1.2
/-! ### _checked_day, _check_different, _checked_hours, _checked_names -/
structure TxtE (X : Str → Option Value) (K : PySem.W.Frag) (C : Addr) : Prop where
  gC : X "InvalidMap" = some (.ref C)
  xC : PySem.W.excIn K C [.type "ValueError", .type "Exception", .type "BaseException", .type "object"] "ValueError.__new__" = true
  kC : PySem.W.keepIn K (.ref C) = true
  bC : PySem.W.subIn K (.ref C) (.type "BaseException") = some true
  tC : PySem.W.typeIn K (.ref C) = some (.type "type")
abbrev sDay : Stmt := top 25
def spDay : Sp := fun vs H Q _ => ∃ d : Int, vs = [.int d] ∧ 1 ≤ d ∧ d ≤ 1440 ∧ Q (.int d) H
def DiffS (K : PySem.W.Frag) (H : Hp) (a : Addr) : Prop := ∃ ns : List Str, (SqL K H a (ns.map V.str) ∨ SqT K H a (ns.map V.str)) ∧ ns.length ≤ 1000 ∧ ns.Nodup
def DiffP (K : PySem.W.Frag) (H : Hp) (a : Addr) : Prop := ∃ ks : List (Addr × List Str), SqL K H a (ks.map fun p => V.ref p.1) ∧ (∀ p ∈ ks, SqT K H p.1 (p.2.map V.str)) ∧ ks.length < 64 ∧ (ks.map (·.2)).Nodup
def spDiff (K : PySem.W.Frag) : Sp := fun vs H Q _ => ∃ a : Addr, vs = [.ref a] ∧ (DiffS K H a ∨ DiffP K H a) ∧ Q .non H
def spHours (K : PySem.W.Frag) (P : Addr) : Sp := fun vs H Q _ => ∃ (d : Int) (hs : Option (List (Int × Int))) (hv : V), vs = [hv, .int d] ∧ GHours K H hs hv ∧ HoursOk d hs ∧ TabG H P ∧ ∀ H' v', Grew P H H' → GHours K H' hs v' → Q v' H'
section
variable {Pg : Program} {w : World} {K : PySem.W.Frag} {mg : Str → Option Value} {base : Heap} {C P : Addr}
theorem scDay : FnScope ["day"] ["day"] (defScope sDay) := ⟨rfl, rfl, rfl, by decide +kernel, rfl, by decide +kernel, by decide +kernel⟩
theorem ok_day {f : Addr} {fd : FuncData} {t : Tok} (F : Fun K "_checked_day" "_checked_day" sDay f fd) (hd : mg "LONGEST_DAY" = some (.int 1440 t)) : FnOk Pg w K mg base CX0 1 f fd ["day"] spDay := by
  refine F.ok scDay (fun vs H Q E h => ?_) (fun cdv A outer s H vs Q E hr h => ?_)
  · obtain ⟨d, rfl, _⟩ := h
    rfl
  · obtain ⟨d, rfl, h1, h2, k⟩ := h
    refine ⟨_, pss_cons (ps_if (pt_not (pt_chain op_le op_le pe_int (pv 0) (pe_gI hd))) (pss_one ps_never) pss_nil) (pss_one (ps_ret (pv 0))), ?_⟩
    refine ⟨_, rfl, _, _, rfl, rfl, _, rfl, if_t (decide_eq_true h1) ⟨_, _, rfl, rfl, _, rfl, ?_⟩⟩
    rw [decide_eq_true h2]
    exact iteF ⟨_, rfl, k⟩
theorem scDiff : FnScope ["parts"] ["parts"] (defScope sDiff) := ⟨rfl, rfl, rfl, by decide +kernel, rfl, by decide +kernel, by decide +kernel⟩
theorem ok_diff {f : Addr} {fd : FuncData} (F : Fun K "_check_different" "_check_different" sDiff f fd) (hl : mg "len" = none) (hs : mg "set" = none) : FnOk Pg w K mg base CX0 1 f fd ["parts"] (spDiff K) := by
  refine F.ok scDiff (fun vs H Q E h => ?_) (fun cdv A outer s H vs Q E hr h => ?_)
  · obtain ⟨a, rfl, _⟩ := h
    rfl
  · obtain ⟨a, rfl, (⟨ns, hS, h1, nd⟩ | ⟨ks, hS, ht, h1, nd⟩), k⟩ := h
    · refine ⟨_, pss_one (ps_if (pt_cmpR op_lt (pe_lenSetS rfl hl hs (pv 0)) (pe_callB call_len_seq (by rfl) hl PySem.boot_len (pa_cons (pv 0) pa_nil)) (nomark _)) (pss_one ps_never) pss_nil), ?_⟩
      refine ⟨_, rfl, a, ns, rfl, hS, by omega, fun n hc => ?_⟩
      have e : n = ns.length := hc.eq.mpr nd
      subst e
      refine ⟨_, rfl, a, _, rfl, hS, _, _, rfl, rfl, _, rfl, ?_⟩
      rw [List.length_map]
      exact if_f (decide_eq_false (Int.lt_irrefl _)) k
    · refine ⟨_, pss_one (ps_if (pt_cmpR op_lt (pe_lenSetP rfl hr.units hl hs (pv 0)) (pe_callB call_len_seq (by rfl) hl PySem.boot_len (pa_cons (pv 0) pa_nil)) (nomark _)) (pss_one ps_never) pss_nil), ?_⟩
      refine ⟨_, rfl, a, ks, rfl, .inl hS, ht, h1, fun n hc => ?_⟩
      have e : n = (ks.map (·.2)).length := hc.eq.mpr nd
      subst e
      refine ⟨_, rfl, a, _, rfl, .inl hS, _, _, rfl, rfl, _, rfl, ?_⟩
      rw [List.length_map, List.length_map]
      exact if_f (decide_eq_false (Int.lt_irrefl _)) k
abbrev nHours : List Str := ["hours", "day", "closed", "pair"]
theorem scHours : FnScope nHours ["hours", "day"] (defScope sHours) := ⟨rfl, rfl, rfl, by decide +kernel, rfl, by decide +kernel, by decide +kernel⟩
theorem ok_hours {f : Addr} {fd : FuncData} {t1 : Tok} (F : Fun K "_checked_hours" "_checked_hours" sHours f fd) (hl : mg "len" = none) (ht : mg "tuple" = none) (hp : mg "MOST_PAIRS" = some (.int 4 t1)) : FnOk Pg w K mg base CX0 1 f fd ["hours", "day"] (spHours K P) := by
  refine F.ok scHours (fun vs H Q E h => ?_) (fun cdv A outer s H vs Q E hr h => ?_)
  · obtain ⟨d, hs, hv, rfl, _⟩ := h
    rfl
  · obtain ⟨d, hs, hv, rfl, g, ok, hP, k⟩ := h
    refine ⟨_, pss_cons (ps_if (pt_cmp (pc_isN (pv 0))) (pss_one (ps_ret pe_non)) pss_nil)
      (pss_cons (ps_if (pt_cmpR op_gt (pe_callB call_len_seq (by rfl) hl PySem.boot_len (pa_cons (pv 0) pa_nil)) (pe_gI hp) (nomark _)) (pss_one ps_never) pss_nil)
      (pss_cons (ps_set (i := 2) scHours.nd rfl (Or.inl rfl) (pe_un un_neg pe_int))
      (pss_cons (ps_for PassesOwn.never rfl (pi_tup (pv 0)) (pg_name (i := 3) scHours.nd rfl (Or.inl rfl))
        (pss_cons (ps_if (pt_cmpR op_ne (pe_callB call_len_seq (by rfl) hl PySem.boot_len (pa_cons (pv 3) pa_nil)) pe_int (nomark _)) (pss_one ps_never) pss_nil)
        (pss_cons (ps_if (pt_not (pt_chain3 op_lt op_lt op_le (pv 2) (pe_ix ix_tup (pv 3) pe_int (fun _ _ => rfl)) (pe_ix ix_tup (pv 3) pe_int (fun _ _ => rfl)) (pv 1))) (pss_one ps_never) pss_nil)
        (pss_one (ps_set (i := 2) scHours.nd rfl (Or.inl rfl) (pe_ix ix_tup (pv 3) pe_int (fun _ _ => rfl)))))))
      (pss_one (ps_ret (pe_callTy call_tuple_of (by rfl) ht (by decide +kernel) (pa_cons (pe_lc (own := [("pair", 3)]) (g := gName 3) (tt := tYes) rfl scHours.nd (pi_tup (pv 0)) (blkOk_by (N := nHours) (sc := defScope sHours) (by decide +kernel)) (fun _ _ _ _ _ => pg_name (i := 3) scHours.nd rfl (Or.inl rfl)) (fun _ _ _ _ _ => pts_nil)
          (fun _ _ _ _ _ => pe_callTy (r := rTupOf K) call_tuple_of (by rfl) ht (by decide +kernel) (pa_cons (pv 3) pa_nil))) pa_nil))))))), ?_⟩
    cases hs with
    | none =>
      obtain rfl : hv = .non := g
      refine ⟨_, rfl, _, rfl, ?_⟩
      exact iteT (k H .non (Grew.refl hP) rfl)
    | some ps =>
      obtain ⟨l, xs, rfl, hS, hG⟩ := g
      obtain ⟨ok4, okc⟩ := ok
      have hlen := Paired.len hG
      refine ⟨_, rfl, _, rfl, ?_⟩
      refine iteF ?_
      refine ⟨_, rfl, l, _, rfl, .inr hS, _, _, rfl, rfl, _, rfl, if_f (decide_eq_false (by omega)) ?_⟩
      refine ⟨1, rfl, ?_⟩
      refine ⟨_, rfl, l, rfl, ⟨_, hS⟩, for_tup (K := K) (a := l) (xs := xs) (fun i σ H' => H' = H ∧ ∃ v, σ = [some (.ref l), some (.int d), some (.int (lastOf (-1) ps i)), v])
        ⟨rfl, none, rfl⟩ (fun i σ H' _ ⟨e, _⟩ => by rw [e]; exact hS) ?_ ?_⟩
      · rintro i y σ H' hi ⟨rfl, v, rfl⟩
        obtain ⟨p, hp, t, rfl, hT⟩ := Paired.at hG hi
        obtain ⟨o1, o2, o3⟩ := hoursOk_at okc hp
        have e0 : atI [V.int p.1, V.int p.2] 0 = some (.int p.1) := rfl
        have e1 : atI [V.int p.1, V.int p.2] 1 = some (.int p.2) := rfl
        refine ⟨_, rfl, t, _, rfl, .inr hT, rfl, _, rfl, if_f (by rfl) ?_⟩
        refine ⟨_, rfl, _, rfl, t, _, 0, _, rfl, rfl, hT, e0, _, _, rfl, rfl, _, rfl, if_t (decide_eq_true o1) ⟨_, rfl, t, _, 1, _, rfl, rfl, hT, e1, _, _, rfl, rfl, _, rfl, if_t (decide_eq_true o2) ⟨_, rfl, _, _, rfl, rfl, _, rfl, ?_⟩⟩⟩
        rw [decide_eq_true o3]
        refine iteF ⟨_, rfl, t, _, 1, _, rfl, rfl, hT, e1, rfl, some (.ref t), ?_⟩
        rw [lastOf_succ hp]
        rfl
      · rintro σ H' ⟨rfl, v, rfl⟩
        refine ⟨_, rfl, l, rfl, ⟨_, hS⟩, fun D nD => lc_tup (K := K) (a := l) (xs := xs) (fun i H1 => Grew P H' H1 ∧ H1 D = some (.lst (xs.take i)))
          ⟨Grew.new hP nD, upd_same⟩ (fun i H1 _ p => p.1.sqT hP hS) (fun i x H1 hx p => ?_) (fun H1 p => ?_)⟩
        · obtain ⟨g, hD⟩ := p
          obtain ⟨p, hp, t, rfl, hT⟩ := Paired.at hG hx
          refine ⟨rfl, _, rfl, t, _, rfl, .inr ⟨g.sqT hP hT, _, hD, ?_, g.write hD (fun _ z => by cases z) nD, ?_⟩⟩
          · rw [List.length_take, sizeLine_eq]; omega
          · rw [upd_same, List.take_succ, hx]; rfl
        · obtain ⟨g, hD⟩ := p
          rw [List.take_length] at hD
          refine ⟨D, _, rfl, .inl ⟨SqL.of hD, fun q nq => ?_⟩⟩
          have gq := g.put (o := .tup xs) nq
          exact k _ _ gq ⟨q, xs, rfl, SqT.of upd_same, Paired.map' hG fun a b m => m.keep (KeepT.grew gq hP)⟩
end
end W

set_option Elab.async false
set_option linter.all false
set_option maxRecDepth 100000
set_option maxHeartbeats 400000
namespace W
open PySem PySem.Spec PyProof.Rows L2 GxR MyG MyS
/-! ### _checked_names, _checked_road -/
def spNames (K : PySem.W.Frag) (P : Addr) : Sp := fun vs H Q _ => ∃ (a : Addr) (ns : List Str) (lo hi : Int), vs = [.ref a, .int lo, .int hi] ∧ SqL K H a (ns.map V.str) ∧ lo ≤ ns.length ∧ (ns.length : Int) ≤ hi ∧ ns.length ≤ 1000 ∧ ns.all isNm = true ∧ ns.Nodup ∧ TabG H P ∧
  ∀ H' p ys, Grew P H H' → H p = none → H' p = some (.tup (ys.map V.str)) → ys.Perm ns → Asc ys → Q (.ref p) H'
section
variable {Pg : Program} {w : World} {K : PySem.W.Frag} {mg : Str → Option Value} {base : Heap} {C P : Addr}
theorem scNames : FnScope ["names", "least", "most", "name"] ["names", "least", "most"] (defScope sNames) := ⟨rfl, rfl, rfl, by decide +kernel, rfl, by decide +kernel, by decide +kernel⟩
theorem ok_names {f fN fD : Addr} {fd fdN fdD : FuncData} (F : Fun K "_checked_names" "_checked_names" sNames f fd) (hl : mg "len" = none) (ht : mg "tuple" = none) (hs : mg "sorted" = none)
    (GN : FnOk Pg w K mg base CX0 2 fN fdN ["text"] (spIsName P)) (gN : mg "is_name" = some (.ref fN)) (kN : PySem.W.keepIn K (.ref fN) = true) (bN : Binds K fdN ["text"] [])
    (GD : FnOk Pg w K mg base CX0 1 fD fdD ["parts"] (spDiff K)) (gD : mg "_check_different" = some (.ref fD)) (kD : PySem.W.keepIn K (.ref fD) = true) (bD : Binds K fdD ["parts"] []) :
    FnOk Pg w K mg base CX0 3 f fd ["names", "least", "most"] (spNames K P) := by
  refine F.ok scNames (fun vs H Q E h => ?_) (fun cdv A outer s H vs Q E hr h => ?_)
  · obtain ⟨a, ns, lo, hi, rfl, _⟩ := h
    rfl
  · obtain ⟨a, ns, lo, hi, rfl, hS, hlo, hhi, h1, hz, nd, hP, kQ⟩ := h
    have hr1 : Room 1 _ := hr.mono (by decide)
    refine ⟨_, pss_cons (ps_if (pt_not (pt_chain op_le op_le (pv 1) (pe_callB call_len_seq (by rfl) hl PySem.boot_len (pa_cons (pv 0) pa_nil)) (pv 2))) (pss_one ps_never) pss_nil)
      (pss_cons (ps_for PassesOwn.never rfl (pi_list (pv 0)) (pg_name (i := 3) scNames.nd rfl (Or.inl rfl))
        (pss_one (ps_if (pt_not (pt_val (pe_call GN hr (by rfl) gN kN bN .nil pass0 (pa_cons (pv 3) pa_nil)))) (pss_one ps_never) pss_nil)))
      (pss_cons (ps_expr (pe_call GD hr1 (by rfl) gD kD bD .nil pass0 (pa_cons (pv 0) pa_nil)))
      (pss_one (ps_ret (pe_callTy call_tuple_of (by rfl) ht (by decide +kernel) (pa_cons (pe_callB cr_sortSQ (by rfl) hs (by decide +kernel) (pa_cons (pv 0) pa_nil)) pa_nil)))))), ?_⟩
    refine ⟨_, rfl, _, rfl, a, _, rfl, .inl hS, _, _, rfl, rfl, _, rfl, ?_⟩
    rw [List.length_map]
    refine if_t (decide_eq_true hlo) ⟨_, rfl, _, _, rfl, rfl, _, rfl, ?_⟩
    rw [decide_eq_true hhi]
    refine iteF ⟨_, rfl, a, rfl, ⟨_, hS⟩, for_list (K := K) (a := a) (xs := ns.map V.str) (fun i σ H' => ∃ v, σ = [some (.ref a), some (.int lo), some (.int hi), v] ∧ Grew P H H')
      ⟨none, rfl, Grew.refl hP⟩ (fun i σ H' _ ⟨_, _, g⟩ => g.sqL hP hS) ?_ ?_⟩
    · rintro i y σ H' hi ⟨v, rfl, g⟩
      obtain ⟨z, hzi, rfl⟩ : ∃ z, ns[i]? = some z ∧ y = V.str z := by
        rw [List.getElem?_map] at hi
        obtain ⟨z, e1, e2⟩ := Option.map_eq_some_iff.mp hi
        exact ⟨z, e1, e2.symm⟩
      have hn : isNm z = true := List.all_eq_true.mp hz z (List.mem_of_getElem? hzi)
      have hzl := isNm_len hn
      refine ⟨_, rfl, z, rfl, by rw [sizeLine_eq]; omega, g.tab, fun H2 t2 => ⟨_, rfl, ?_⟩⟩
      have g2 := g.trans (Grew.of t2)
      rw [hn]
      exact iteF ⟨_, rfl, g2⟩
    · rintro σ H' ⟨v, rfl, g⟩
      refine ⟨_, rfl, a, rfl, .inl ⟨ns, .inl (g.sqL hP hS), h1, nd⟩, ?_⟩
      refine ⟨_, rfl, a, ns, rfl, .inl (g.sqL hP hS), fun ys l hp hso hl => ⟨l, _, rfl, .inl ⟨SqL.of upd_same, fun p hp2 => ?_⟩⟩⟩
      have gl := g.put (o := .lst (ys.map V.str)) hl
      exact kQ _ p ys (gl.put hp2) (gl.free hp2) upd_same hp hso
/-- the road leads from place to place, for kinds of the map -/
structure RoadOk (d : Int) (ps ks : List Str) (r : RoadD) : Prop where
  s : r.start ∈ ps
  g : r.goal ∈ ps
  m1 : 1 ≤ r.minutes
  m2 : r.minutes ≤ 1000
  u : ∀ k ∈ r.users, k ∈ ks
  un : r.users.length ≤ 4
  ud : r.users.Nodup
  h : HoursOk d r.hours
/-- the road as the map keeps it -/
def Kept (r r' : RoadD) : Prop := r'.name = r.name ∧ r'.start = r.start ∧ r'.goal = r.goal ∧ r'.minutes = r.minutes ∧ r'.hours = r.hours ∧ r'.users.Perm r.users ∧ Asc r'.users
def spRoad (K : PySem.W.Frag) (P : Addr) : Sp := fun vs H Q _ => ∃ (x : V) (pl ki : Addr) (d : Int) (ps ks : List Str) (r : RoadD), vs = [x, .int d, .ref pl, .ref ki] ∧ GRoad K H r x ∧ SqT K H pl (ps.map V.str) ∧ SqT K H ki (ks.map V.str) ∧ RoadOk d ps ks r ∧ TabG H P ∧
  ∀ H' p q h r', Grew P H H' → Kept r r' → H p = none → H' p = some (.tup [.str r'.name, .str r'.start, .str r'.goal, .int r'.minutes, .ref q, h]) → H' q = some (.tup (r'.users.map V.str)) → GHours K H' r'.hours h → Q (.ref p) H'
theorem scRoad : FnScope ["road", "day", "places", "kinds", "name", "start", "end", "minutes", "users", "hours", "kind"] ["road", "day", "places", "kinds"] (defScope sRoad) := ⟨rfl, rfl, rfl, by decide +kernel, rfl, by decide +kernel, by decide +kernel⟩
theorem inV_str {x : Str} {xs : List Str} (h : x ∈ xs) : inV (.str x) (xs.map V.str) = true := by
  unfold inV
  rw [List.any_map, List.any_eq_true]
  exact ⟨x, h, by simp [eqV]⟩
theorem flat_strs (xs : List Str) : (xs.map V.str).all flatV = true := by
  rw [List.all_map]
  exact List.all_eq_true.mpr fun _ _ => rfl
theorem ok_road {f fH fD : Addr} {fd fdH fdD : FuncData} {t1 : Tok} (F : Fun K "_checked_road" "_checked_road" sRoad f fd) (ht : mg "tuple" = none) (hs : mg "sorted" = none) (hm : mg "MOST_MINUTES" = some (.int 1000 t1))
    (GD : FnOk Pg w K mg base CX0 1 fD fdD ["parts"] (spDiff K)) (gD : mg "_check_different" = some (.ref fD)) (kD : PySem.W.keepIn K (.ref fD) = true) (bD : Binds K fdD ["parts"] [])
    (GH : FnOk Pg w K mg base CX0 1 fH fdH ["hours", "day"] (spHours K P)) (gH : mg "_checked_hours" = some (.ref fH)) (kH : PySem.W.keepIn K (.ref fH) = true) (bH : Binds K fdH ["hours", "day"] []) :
    FnOk Pg w K mg base CX0 2 f fd ["road", "day", "places", "kinds"] (spRoad K P) := by
  refine F.ok scRoad (fun vs H Q E h => ?_) (fun cdv A outer s H vs Q E hr h => ?_)
  · obtain ⟨x, pl, ki, d, ps, ks, r, rfl, _⟩ := h
    rfl
  · obtain ⟨x, pl, ki, d, ps, ks, r, rfl, ⟨t, u, h, rfl, hT, hU, hH⟩, hPl, hKi, ok, hP, k⟩ := h
    refine ⟨_, pss_cons (ps_asg (pv 0) (pg_tup (by rfl) (pgs_cons (pg_name (i := 4) scRoad.nd rfl (.inl rfl)) (pgs_cons (pg_name (i := 5) scRoad.nd rfl (.inl rfl)) (pgs_cons (pg_name (i := 6) scRoad.nd rfl (.inl rfl))
        (pgs_cons (pg_name (i := 7) scRoad.nd rfl (.inl rfl)) (pgs_cons (pg_name (i := 8) scRoad.nd rfl (.inl rfl)) (pgs_cons (pg_name (i := 9) scRoad.nd rfl (.inl rfl)) pgs_nil))))))))
      (pss_cons (ps_if (PW.pt (pw_or (pt_cmpR op_notIn_seq (pv 5) (pv 2) (by rfl)) (pw_or1 (pt_cmpR op_notIn_seq (pv 6) (pv 2) (by rfl))))) (pss_one ps_never) pss_nil)
      (pss_cons (ps_if (pt_not (pt_chain op_le op_le pe_int (pv 7) (pe_gI hm))) (pss_one ps_never) pss_nil)
      (pss_cons (ps_for PassesOwn.never rfl (pi_tup (pv 8)) (pg_name (i := 10) scRoad.nd rfl (Or.inl rfl)) (pss_one (ps_if (pt_cmpR op_notIn_seq (pv 10) (pv 3) (by rfl)) (pss_one ps_never) pss_nil)))
      (pss_cons (ps_expr (pe_call GD hr (by rfl) gD kD bD .nil pass0 (pa_cons (pv 8) pa_nil)))
      (pss_one (ps_ret (pe_tup (pa_cons (pv 4) (pa_cons (pv 5) (pa_cons (pv 6) (pa_cons (pv 7) (pa_cons (pe_callTy call_tuple_of (by rfl) ht (by decide +kernel) (pa_cons (pe_callB cr_sortSQ (by rfl) hs (by decide +kernel) (pa_cons (pv 8) pa_nil)) pa_nil))
        (pa_cons (pe_call GH hr (by rfl) gH kH bH .nil pass0 (pa_cons (pv 9) (pa_cons (pv 1) pa_nil))) pa_nil))))))))))))), ?_⟩
    refine ⟨_, rfl, t, _, rfl, hT, rfl, _, _, rfl, _, _, rfl, _, _, rfl, _, _, rfl, _, _, rfl, _, _, rfl, rfl, ?_⟩
    have i1 := inV_str ok.s
    have i2 := inV_str ok.g
    refine ⟨_, rfl, _, rfl, pl, _, rfl, .inr hPl, rfl, flat_strs _, _, rfl, ?_⟩
    refine if_f (by simp [i1]) ?_
    refine ⟨_, rfl, _, rfl, pl, _, rfl, .inr hPl, rfl, flat_strs _, _, rfl, ?_⟩
    refine if_f (by simp [i2]) ?_
    refine ⟨_, rfl, _, _, rfl, rfl, _, rfl, if_t (decide_eq_true ok.m1) ⟨_, _, rfl, rfl, _, rfl, ?_⟩⟩
    rw [decide_eq_true ok.m2]
    refine iteF ?_
    refine ⟨_, rfl, u, rfl, ⟨_, hU⟩, for_tup (K := K) (a := u) (xs := r.users.map V.str) (fun i σ H' => H' = H ∧ ∃ v, σ = [some (.ref t), some (.int d), some (.ref pl), some (.ref ki), some (.str r.name), some (.str r.start), some (.str r.goal), some (.int r.minutes), some (.ref u), some h, v])
      ⟨rfl, none, rfl⟩ (fun i σ H' _ ⟨e, _⟩ => by rw [e]; exact hU) ?_ ?_⟩
    · rintro i y σ H' hi ⟨rfl, v, rfl⟩
      obtain ⟨z, hzi, rfl⟩ : ∃ z, r.users[i]? = some z ∧ y = V.str z := by
        rw [List.getElem?_map] at hi
        obtain ⟨z, e1, e2⟩ := Option.map_eq_some_iff.mp hi
        exact ⟨z, e1, e2.symm⟩
      have i3 := inV_str (ok.u z (List.mem_of_getElem? hzi))
      refine ⟨_, rfl, _, rfl, ki, _, rfl, .inr hKi, rfl, flat_strs _, _, rfl, ?_⟩
      refine if_f (by simp [i3]) ⟨rfl, _, rfl⟩
    · rintro σ H' ⟨rfl, v, rfl⟩
      have un := ok.un
      refine ⟨_, rfl, u, rfl, .inl ⟨r.users, .inr hU, by omega, ok.ud⟩, ?_⟩
      refine ⟨_, rfl, _, rfl, _, rfl, _, rfl, _, rfl, u, r.users, rfl, .inr hU, fun ys l hp hso hl => ⟨l, _, rfl, .inl ⟨SqL.of upd_same, fun q hq => ?_⟩⟩⟩
      have gl := Grew.new hP (o := .lst (ys.map V.str)) hl
      have gq := gl.put (o := .tup (ys.map V.str)) hq
      refine ⟨_, rfl, _, rfl, d, r.hours, h, rfl, hH.keep (KeepT.grew gq hP), ok.h, gq.tab, fun H2 v' g2 hv => ⟨by show 6 ≤ sizeLine; decide, fun p hp2 => ?_⟩⟩
      have g3 := gq.trans g2
      have gp := g3.put (o := .tup [.str r.name, .str r.start, .str r.goal, .int r.minutes, .ref q, v']) hp2
      have e2 : H2 q = some (.tup (ys.map V.str)) := g2.tup gq.tab upd_same
      exact k _ p q v' { r with users := ys } gp ⟨rfl, rfl, rfl, rfl, rfl, hp, hso⟩ (g3.free hp2) upd_same (by rw [upd_ne (ne_of_none e2 hp2)]; exact e2) (hv.keep (KeepT.new hp2))
end
end W

set_option Elab.async false
set_option linter.all false
set_option maxRecDepth 100000
set_option maxHeartbeats 400000
namespace W
open PySem PySem.Spec PyProof.Rows L2 GxR MyG MyS
/-! ### _checked_roads -/
/-- a road that was made here: its own tuples stand tracked, none was there at H0 -/
def MadeR (K : PySem.W.Frag) (H0 H : Hp) (r : RoadD) (v : V) : Prop := ∃ r' p q h, v = .ref p ∧ H0 p = none ∧ Kept r r' ∧ H p = some (.tup [.str r'.name, .str r'.start, .str r'.goal, .int r'.minutes, .ref q, h]) ∧ H q = some (.tup (r'.users.map V.str)) ∧ GHours K H r'.hours h
/-- the road v at H -/
def RoadAt (K : PySem.W.Frag) (H : Hp) (r : RoadD) (v : V) : Prop := ∃ p q h, v = .ref p ∧ H p = some (.tup [.str r.name, .str r.start, .str r.goal, .int r.minutes, .ref q, h]) ∧ H q = some (.tup (r.users.map V.str)) ∧ GHours K H r.hours h
theorem RoadAt.grew {K : PySem.W.Frag} {P : Addr} {H H' : Hp} {r : RoadD} {v : V} (g : Grew P H H') (h : TabG H P) (m : RoadAt K H r v) : RoadAt K H' r v := by
  obtain ⟨p, q, hv, e, e1, e2, e3⟩ := m
  exact ⟨p, q, hv, e, g.tup h e1, g.tup h e2, e3.keep (KeepT.grew g h)⟩
theorem RoadAt.upd {K : PySem.W.Frag} {H : Hp} {D : Addr} {o : HO} {r : RoadD} {v : V} (nt : ∀ xs, H D ≠ some (.tup xs)) (kt : KeepT K H (L2.upd H D o)) (m : RoadAt K H r v) : RoadAt K (L2.upd H D o) r v := by
  obtain ⟨p, q, hv, e, e1, e2, e3⟩ := m
  exact ⟨p, q, hv, e, by rw [upd_ne (fun z => nt _ (z ▸ e1))]; exact e1, by rw [upd_ne (fun z => nt _ (z ▸ e2))]; exact e2, e3.keep kt⟩
theorem RoadAt.road {K : PySem.W.Frag} {H : Hp} {r : RoadD} {v : V} (m : RoadAt K H r v) : GRoad K H r v := by
  obtain ⟨p, q, hv, e, e1, e2, e3⟩ := m
  exact ⟨p, q, hv, e, SqT.of e1, SqT.of e2, e3⟩
theorem ex_list {α β : Type} {F : α → β → Prop} : ∀ (l : List α), (∀ a ∈ l, ∃ b, F a b) → ∃ m, Paired F l m
  | [], _ => ⟨[], .nil⟩
  | a :: l, h => by
    obtain ⟨b, hb⟩ := h a List.mem_cons_self
    obtain ⟨m, hm⟩ := ex_list l fun a ha => h a (List.mem_cons_of_mem _ ha)
    exact ⟨b :: m, .cons hb hm⟩
theorem Paired.mem {α β : Type} {F : α → β → Prop} : ∀ {l : List α} {m : List β} {b : β}, Paired F l m → b ∈ m → ∃ a ∈ l, F a b
  | _, _, _, .cons r t, h => by
    rcases List.mem_cons.mp h with e | h
    · exact ⟨_, List.mem_cons_self, e ▸ r⟩
    · obtain ⟨a, ha, f⟩ := Paired.mem t h
      exact ⟨a, List.mem_cons_of_mem _ ha, f⟩
theorem Paired.mem' {α β : Type} {F : α → β → Prop} : ∀ {l : List α} {m : List β} {a : α}, Paired F l m → a ∈ l → ∃ b ∈ m, F a b
  | _, _, _, .cons r t, h => by
    rcases List.mem_cons.mp h with e | h
    · exact ⟨_, List.mem_cons_self, e ▸ r⟩
    · obtain ⟨a, ha, f⟩ := Paired.mem' t h
      exact ⟨a, List.mem_cons_of_mem _ ha, f⟩
theorem Paired.comp {α β γ : Type} {F : α → β → Prop} {G : β → γ → Prop} {E : α → γ → Prop} (h : ∀ a b c, F a b → G b c → E a c) : ∀ {l : List α} {m : List β} {n : List γ}, Paired F l m → Paired G m n → Paired E l n
  | _, _, _, .nil, .nil => .nil
  | _, _, _, .cons r t, .cons r' t' => .cons (h _ _ _ r r') (Paired.comp h t t')
/-- the values in another order: the things behind them too -/
theorem Paired.perm {α β : Type} {F : α → β → Prop} {m m' : List β} (p : m'.Perm m) : ∀ {l : List α}, Paired F l m → ∃ l' : List α, l'.Perm l ∧ Paired F l' m' := by
  induction p with
  | nil => exact fun h => ⟨_, List.Perm.refl _, h⟩
  | cons x p ih =>
    intro l h
    cases h with
    | cons r t =>
      obtain ⟨l', q1, q2⟩ := ih t
      exact ⟨_ :: l', q1.cons _, .cons r q2⟩
  | swap x y l0 =>
    intro l h
    cases h with
    | cons r t =>
      cases t with
      | cons r2 t => exact ⟨_ :: _ :: _, List.Perm.swap .., .cons r2 (.cons r t)⟩
  | trans p q ih1 ih2 =>
    intro l h
    obtain ⟨l1, a1, a2⟩ := ih2 h
    obtain ⟨l2, b1, b2⟩ := ih1 a2
    exact ⟨l2, b1.trans a1, b2⟩
theorem Paired.pair {α β : Type} {F : α → β → Prop} {R : β → β → Prop} {S : α → α → Prop} (h : ∀ a b x y, F a x → F b y → R x y → S a b) : ∀ {l : List α} {m : List β}, Paired F l m → m.Pairwise R → l.Pairwise S
  | _, _, .nil, _ => List.Pairwise.nil
  | _, _, .cons r t, p => by
    have q := List.pairwise_cons.mp p
    refine List.pairwise_cons.mpr ⟨fun a ha => ?_, Paired.pair h t q.2⟩
    obtain ⟨b, hb, f⟩ := Paired.mem' t ha
    exact h _ _ _ _ r f (q.1 b hb)
theorem Paired.inj {α β γ : Type} {F : α → β → Prop} {f : α → γ} {l : List α} {m : List β} (h : Paired F l m) (nd : (l.map f).Nodup) {x y : β} (hx : x ∈ m) (hy : y ∈ m) (hxy : ∀ a b, F a x → F b y → f a = f b) : x = y := by
  obtain ⟨i, hi, ei⟩ := List.getElem_of_mem hx
  obtain ⟨j, hj, ej⟩ := List.getElem_of_mem hy
  obtain ⟨a, ha, fa⟩ := Paired.at h (List.getElem?_eq_some_iff.mpr ⟨hi, ei⟩)
  obtain ⟨b, hb, fb⟩ := Paired.at h (List.getElem?_eq_some_iff.mpr ⟨hj, ej⟩)
  have e := hxy a b fa fb
  obtain ⟨hi', ea⟩ := List.getElem?_eq_some_iff.mp ha
  obtain ⟨hj', eb⟩ := List.getElem?_eq_some_iff.mp hb
  have ij : i = j := by
    rcases Nat.lt_trichotomy i j with c | c | c
    · exact absurd (by rw [List.getElem_map, List.getElem_map, ea, eb]; exact e) (List.pairwise_iff_getElem.mp nd i j (by rw [List.length_map]; exact hi') (by rw [List.length_map]; exact hj') c)
    · exact c
    · exact absurd (by rw [List.getElem_map, List.getElem_map, ea, eb]; exact e.symm) (List.pairwise_iff_getElem.mp nd j i (by rw [List.length_map]; exact hj') (by rw [List.length_map]; exact hi') c)
  subst ij
  exact ei.symm.trans ej
theorem kept_names : ∀ {rs ms : List RoadD}, Paired Kept rs ms → ms.map (·.name) = rs.map (·.name)
  | _, _, .nil => rfl
  | _, _, .cons r t => by
    rw [List.map_cons, List.map_cons, kept_names t, r.1]
/-- the name of a road's tuple -/
def nameAt (H : Hp) : V → Str
  | .ref t => match H t with
    | some (.tup (.str n :: _)) => n
    | _ => Str.empty
  | _ => Str.empty
theorem RoadAt.name {K : PySem.W.Frag} {H : Hp} {r : RoadD} {v : V} (m : RoadAt K H r v) : nameAt H v = r.name := by
  obtain ⟨p, q, hv, e, e1, _⟩ := m
  subst e
  unfold nameAt
  simp only [e1]
/-- the roads as the map keeps them: the same ones, each as it is kept, by their names -/
def KeptAll (rs rs' : List RoadD) : Prop := ∃ l, l.Perm rs' ∧ Paired Kept rs l
def AscR (rs : List RoadD) : Prop := rs.Pairwise fun a b => slt b.name a.name = false
structure RoadsOk (d : Int) (ps ks : List Str) (rs : List RoadD) : Prop where
  len : rs.length ≤ 60
  nm : (rs.map (·.name)).all isNm = true
  nd : (rs.map (·.name)).Nodup
  ok : ∀ r ∈ rs, RoadOk d ps ks r
def spRoads (K : PySem.W.Frag) (P : Addr) : Sp := fun vs H Q _ => ∃ (a pl ki : Addr) (d : Int) (ps ks : List Str) (rs : List RoadD) (xs : List V), vs = [.ref a, .int d, .ref pl, .ref ki] ∧ SqL K H a xs ∧ Paired (GRoad K H) rs xs ∧ SqT K H pl (ps.map V.str) ∧ SqT K H ki (ks.map V.str) ∧ RoadsOk d ps ks rs ∧ TabG H P ∧
  ∀ H' p rs' ys, Grew P H H' → KeptAll rs rs' → AscR rs' → H p = none → H' p = some (.tup ys) → Paired (RoadAt K H') rs' ys → Q (.ref p) H'
section
variable {Pg : Program} {w : World} {K : PySem.W.Frag} {mg : Str → Option Value} {base : Heap} {C P : Addr}
abbrev nRoads : List Str := ["roads", "day", "places", "kinds", "road", "kept"]
theorem scRoads : FnScope nRoads ["roads", "day", "places", "kinds"] (defScope sRoads) := ⟨rfl, rfl, rfl, by decide +kernel, rfl, by decide +kernel, by decide +kernel⟩
theorem ok_roads {f fN fR : Addr} {fd fdN fdR : FuncData} {t1 t2 t3 : Tok} (F : Fun K "_checked_roads" "_checked_roads" sRoads f fd) (hl : mg "len" = none) (ht : mg "tuple" = none) (hs : mg "sorted" = none)
    (hp : mg "PARTS" = some (.int 6 t1)) (hn : mg "NAME" = some (.int 0 t2)) (hm : mg "MOST_ROADS" = some (.int 60 t3))
    (GN : FnOk Pg w K mg base CX0 3 fN fdN ["names", "least", "most"] (spNames K P)) (gN : mg "_checked_names" = some (.ref fN)) (kN : PySem.W.keepIn K (.ref fN) = true) (bN : Binds K fdN ["names", "least", "most"] [])
    (GR : FnOk Pg w K mg base CX0 2 fR fdR ["road", "day", "places", "kinds"] (spRoad K P)) (gR : mg "_checked_road" = some (.ref fR)) (kR : PySem.W.keepIn K (.ref fR) = true) (bR : Binds K fdR ["road", "day", "places", "kinds"] []) :
    FnOk Pg w K mg base CX0 4 f fd ["roads", "day", "places", "kinds"] (spRoads K P) := by
  refine F.ok scRoads (fun vs H Q E h => ?_) (fun cdv A outer s H vs Q E hr h => ?_)
  · obtain ⟨a, pl, ki, d, ps, ks, rs, xs, rfl, _⟩ := h
    rfl
  · obtain ⟨a, pl, ki, d, ps, ks, rs, xs, rfl, hS, hG, hPl, hKi, ok, hP, k⟩ := h
    have hr2 : Room 2 _ := hr.mono (by decide)
    refine ⟨_, pss_cons (ps_for PassesOwn.never rfl (pi_list (pv 0)) (pg_name (i := 4) scRoads.nd rfl (Or.inl rfl)) (pss_one (ps_if (pt_cmpR op_ne (pe_callB call_len_seq (by rfl) hl PySem.boot_len (pa_cons (pv 4) pa_nil)) (pe_gI hp) (nomark _)) (pss_one ps_never) pss_nil)))
      (pss_cons (ps_expr (pe_call GN hr (by rfl) gN kN bN .nil pass0 (pa_cons (pe_lc (own := [("road", 4)]) (g := gName 4) (tt := tYes) rfl scRoads.nd (pi_list (pv 0)) (blkOk_by (N := nRoads) (sc := defScope sRoads) (by decide +kernel)) (fun _ _ _ _ _ => pg_name (i := 4) scRoads.nd rfl (Or.inl rfl)) (fun _ _ _ _ _ => pts_nil)
          (fun _ _ _ _ _ => pe_ix (r := rIxT K) ix_tup (pv 4) (pe_gI hn) (fun _ _ => rfl))) (pa_cons pe_int (pa_cons (pe_gI hm) pa_nil)))))
      (pss_cons (ps_setLc (i := 5) (own := [("road", 4)]) (g := gName 4) (tt := tYes) rfl scRoads.nd rfl rfl (sw_true rfl rfl rfl (by decide +kernel)) (pi_list (pv 0)) (blkOk_by (N := nRoads) (sc := defScope sRoads) (by decide +kernel)) (fun _ _ _ _ _ => pg_name (i := 4) scRoads.nd rfl (Or.inl rfl)) (fun _ _ _ _ _ => pts_nil)
          (fun _ _ _ _ _ => pe_call GR hr2 (by rfl) gR kR bR .nil pass0 (pa_cons (pv 4) (pa_cons (pv 1) (pa_cons (pv 2) (pa_cons (pv 3) pa_nil))))))
      (pss_one (ps_ret (pe_callTy call_tuple_of (by rfl) ht (by decide +kernel) (pa_cons (pe_callB cr_sortR (by rfl) hs (by decide +kernel) (pa_cons (pv 5) pa_nil)) pa_nil)))))), ?_⟩
    have hln : rs.length = xs.length := Paired.len hG
    have hl60 := ok.len
    refine ⟨_, rfl, a, rfl, ⟨_, hS⟩, for_list (K := K) (a := a) (xs := xs) (fun i σ H' => H' = H ∧ ∃ v, σ = [some (.ref a), some (.int d), some (.ref pl), some (.ref ki), v, none])
      ⟨rfl, none, rfl⟩ (fun i σ H' _ ⟨e, _⟩ => by rw [e]; exact hS) ?_ ?_⟩
    · rintro i y σ H' hi ⟨rfl, v, rfl⟩
      obtain ⟨r, hr, t, u, h, rfl, hT, _⟩ := Paired.at hG hi
      refine ⟨_, rfl, t, _, rfl, .inr hT, rfl, _, rfl, ?_⟩
      exact if_f (by rfl) ⟨rfl, _, rfl⟩
    · rintro σ H' ⟨rfl, v, rfl⟩
      refine ⟨_, rfl, a, rfl, ⟨_, hS⟩, fun D nD => lc_list (K := K) (a := a) (xs := xs) (fun i H1 => Grew P H' H1 ∧ H1 D = some (.lst (((rs.map (·.name)).take i).map V.str)))
        ⟨Grew.new hP nD, upd_same⟩ (fun i H1 _ p => p.1.sqL hP hS) (fun i x H1 hx p => ?_) (fun H1 p => ?_)⟩
      · obtain ⟨g, hD⟩ := p
        obtain ⟨r, hr, t, u, h, rfl, hT, _⟩ := Paired.at hG hx
        refine ⟨rfl, _, rfl, t, _, 0, .str r.name, rfl, rfl, g.sqT hP hT, rfl, _, hD, ?_, ?_, ?_⟩
        · rw [List.length_map, List.length_take, List.length_map, sizeLine_eq]
          omega
        · exact g.write hD (fun _ z => by cases z) nD
        · rw [upd_same, List.take_succ, List.getElem?_map, hr, List.map_append]
          rfl
      · obtain ⟨g, hD⟩ := p
        rw [← hln, ← List.length_map (f := (·.name)), List.take_length] at hD
        refine ⟨D, rs.map (·.name), 0, 60, rfl, SqL.of hD, by omega, by rw [List.length_map]; omega, by rw [List.length_map]; omega, ok.nm, ok.nd, g.tab, fun H2 p2 ys2 g2 np e2 _ _ => ?_⟩
        have g3 := g.trans g2
        refine ⟨_, rfl, a, rfl, ⟨_, g3.sqL hP hS⟩, fun D2 nD2 => lc_list (K := K) (a := a) (xs := xs) (fun i H1 => Grew P H' H1 ∧ ∃ acc ms, H1 D2 = some (.lst acc) ∧ Paired Kept (rs.take i) ms ∧ Paired (RoadAt K H1) ms acc)
          ⟨g3.put nD2, [], [], upd_same, .nil, .nil⟩ (fun i H1 _ p => p.1.sqL hP hS) (fun i x H1 hx p => ?_) (fun H1 p => ?_)⟩
        · obtain ⟨g4, acc, ms, hD4, hk4, hm4⟩ := p
          obtain ⟨r, hr, hgr⟩ := Paired.at hG hx
          have nD2' := g3.free nD2
          refine ⟨rfl, _, rfl, _, rfl, _, rfl, _, rfl, x, pl, ki, d, ps, ks, r, rfl, hgr.keep (KeepT.grew g4 hP), g4.sqT hP hPl, g4.sqT hP hKi, ok.ok r (List.mem_of_getElem? hr), g4.tab, fun H5 p5 q5 h5 r5 g5 kp n5 e5 f5 hh5 => ?_⟩
          have hD5 := g5.lst g4.tab hD4
          have g45 := g4.trans g5
          refine ⟨acc, hD5, ?_, g45.write hD5 (fun _ z => by cases z) nD2', acc ++ [.ref p5], ms ++ [r5], upd_same, ?_, ?_⟩
          · rw [← Paired.len hm4, ← Paired.len hk4, List.length_take, sizeLine_eq]
            omega
          · rw [List.take_succ, hr]
            exact Paired.snoc hk4 kp
          · have up : ∀ {r : RoadD} {v : V}, RoadAt K H5 r v → RoadAt K (L2.upd H5 D2 (.lst (acc ++ [.ref p5]))) r v := fun m => m.upd (fun xs z => by rw [hD5] at z; cases z) (KeepT.lst hD5)
            exact Paired.snoc (Paired.map' hm4 fun r v m => up (m.grew g5 g4.tab)) (up ⟨p5, q5, h5, rfl, e5, f5, hh5⟩)
        · obtain ⟨g4, acc, ms, hD4, hk4, hm4⟩ := p
          rw [← hln, List.take_length] at hk4
          have nd : (ms.map (·.name)).Nodup := by rw [kept_names hk4]; exact ok.nd
          refine ⟨_, rfl, D2, acc, nameAt H1, rfl, SqL.of hD4, fun x hx => ?_, fun x hx y hy e => Paired.inj hm4 nd hx hy fun r r' m m' => by rw [← m.name, ← m'.name]; exact e, fun ys l hpm hso hl => ⟨l, _, rfl, .inl ⟨SqL.of upd_same, fun p hp2 => ?_⟩⟩⟩
          · obtain ⟨r, _, m⟩ := Paired.mem hm4 hx
            have nm := m.name
            obtain ⟨p, q, hv, e, e1, _⟩ := m
            exact ⟨p, _, e, by rw [nm]; exact SqT.of e1⟩
          · obtain ⟨rs', pm, hr'⟩ := Paired.perm hpm hm4
            have gl := Grew.new g4.tab (o := .lst ys) hl
            have gp := gl.put (o := .tup ys) hp2
            exact k _ p rs' ys (g4.trans gp) ⟨ms, pm.symm, hk4⟩ (Paired.pair (fun a b x y m m' e => by rw [m.name, m'.name] at e; exact e) hr' hso) (g4.free (gl.free hp2)) upd_same (Paired.map' hr' fun _ _ m => m.grew gp g4.tab)
end
end W

set_option Elab.async false
set_option linter.all false
set_option maxRecDepth 100000
set_option maxHeartbeats 400000
namespace W
open PySem PySem.Spec PyProof.Rows L2 GxR MyG MyS
/-! ### _checked_bars -/
theorem u1 {n : Nat} (h : n + 64 < cLine) : n + 1 < cLine := by omega
def GBar (H : Hp) (b : Str × Str) (v : V) : Prop := ∃ t, v = .ref t ∧ H t = some (.tup [.str b.1, .str b.2])
theorem GBar.grew {P : Addr} {H H' : Hp} {b : Str × Str} {v : V} (g : Grew P H H') (h : TabG H P) (m : GBar H b v) : GBar H' b v := let ⟨t, e, q⟩ := m; ⟨t, e, g.tup h q⟩
theorem GBar.upd {H : Hp} {D : Addr} {o : HO} {b : Str × Str} {v : V} (nt : ∀ xs, H D ≠ some (.tup xs)) (m : GBar H b v) : GBar (L2.upd H D o) b v := by
  obtain ⟨t, e, q⟩ := m
  exact ⟨t, e, by rw [upd_ne (fun z => nt _ (z ▸ q))]; exact q⟩
/-- the pair of a bar's tuple -/
def barAt (H : Hp) : V → Str × Str
  | .ref t => match H t with
    | some (.tup [.str a, .str b]) => (a, b)
    | _ => (Str.empty, Str.empty)
  | _ => (Str.empty, Str.empty)
theorem GBar.at {H : Hp} {b : Str × Str} {v : V} (m : GBar H b v) : barAt H v = b := by
  obtain ⟨t, e, q⟩ := m
  subst e
  unfold barAt
  simp only [q]
theorem bars_keys {H : Hp} {K : PySem.W.Frag} : ∀ {bs : List (Str × Str)} {xs : List V}, Paired (GBar H) bs xs → ∃ ks : List (Addr × List Str), xs = ks.map (fun p => V.ref p.1) ∧ ks.map (·.2) = bs.map (fun b => [b.1, b.2]) ∧ ∀ p ∈ ks, SqT K H p.1 (p.2.map V.str)
  | _, _, .nil => ⟨[], rfl, rfl, fun _ h => by cases h⟩
  | _, _, .cons (a := b) ⟨t, e, q⟩ r => by
    obtain ⟨ks, e1, e2, e3⟩ := bars_keys (K := K) r
    refine ⟨(t, [b.1, b.2]) :: ks, by rw [e, e1]; rfl, by rw [List.map_cons, List.map_cons, e2], fun p hp => ?_⟩
    rcases List.mem_cons.mp hp with z | z
    · rw [z]; exact SqT.of q
    · exact e3 p z
theorem nodup_bars {bs : List (Str × Str)} (h : bs.Nodup) : (bs.map (fun b => [b.1, b.2])).Nodup :=
  List.pairwise_map.mpr (h.imp fun {a b} ne e => ne (Prod.ext (List.cons.inj e).1 (List.cons.inj (List.cons.inj e).2).1))
/-- the dict of the roads by their names -/
def DictR (K : PySem.W.Frag) (H : Hp) (d : Addr) (rs : List RoadD) : Prop := ∃ kvs, H d = some (.dK kvs) ∧ (∀ r ∈ rs, ∃ v, valV kvs (.inr r.name) = some v ∧ RoadAt K H r v) ∧ ∀ z, (∀ r ∈ rs, r.name ≠ z) → valV kvs (.inr z) = none
theorem DictR.grew {K : PySem.W.Frag} {P d : Addr} {H H' : Hp} {rs : List RoadD} (g : Grew P H H') (h : TabG H P) (m : DictR K H d rs) : DictR K H' d rs := by
  obtain ⟨kvs, e, m1, m2⟩ := m
  exact ⟨kvs, g.get h e (fun _ z => by cases z), fun r hr => let ⟨v, a, b⟩ := m1 r hr; ⟨v, a, b.grew g h⟩, m2⟩
structure BarsOk (rs : List RoadD) (bs : List (Str × Str)) : Prop where
  len : bs.length ≤ 40
  nd : bs.Nodup
  ok : ∀ b ∈ bs, ∃ r1 ∈ rs, ∃ r2 ∈ rs, b.1 = r1.name ∧ b.2 = r2.name ∧ r1.goal = r2.start
def AscB (bs : List (Str × Str)) : Prop := bs.Pairwise fun a b => slt2 b a = false
def spBars (K : PySem.W.Frag) (P : Addr) : Sp := fun vs H Q _ => ∃ (a d : Addr) (rs : List RoadD) (bs : List (Str × Str)) (xs : List V), vs = [.ref a, .ref d] ∧ SqL K H a xs ∧ Paired (GBar H) bs xs ∧ DictR K H d rs ∧ BarsOk rs bs ∧ TabG H P ∧
  ∀ H' p bs' ys, Grew P H H' → bs'.Perm bs → AscB bs' → H p = none → H' p = some (.tup ys) → Paired (GBar H') bs' ys → Q (.ref p) H'
section
variable {Pg : Program} {w : World} {K : PySem.W.Frag} {mg : Str → Option Value} {base : Heap} {C P : Addr}
abbrev nBars : List Str := ["bars", "roads_by_name", "bar", "first", "second", "kept"]
theorem scBars : FnScope nBars ["bars", "roads_by_name"] (defScope sBars) := ⟨rfl, rfl, rfl, by decide +kernel, rfl, by decide +kernel, by decide +kernel⟩
theorem ok_bars {f fD : Addr} {fd fdD : FuncData} {t1 t2 t3 : Tok} (F : Fun K "_checked_bars" "_checked_bars" sBars f fd) (hl : mg "len" = none) (ht : mg "tuple" = none) (hs : mg "sorted" = none)
    (hm : mg "MOST_BARS" = some (.int 40 t1)) (he : mg "END" = some (.int 2 t2)) (hst : mg "START" = some (.int 1 t3))
    (GD : FnOk Pg w K mg base CX0 1 fD fdD ["parts"] (spDiff K)) (gD : mg "_check_different" = some (.ref fD)) (kD : PySem.W.keepIn K (.ref fD) = true) (bD : Binds K fdD ["parts"] []) :
    FnOk Pg w K mg base CX0 2 f fd ["bars", "roads_by_name"] (spBars K P) := by
  refine F.ok scBars (fun vs H Q E h => ?_) (fun cdv A outer s H vs Q E hr h => ?_)
  · obtain ⟨a, d, rs, bs, xs, rfl, _⟩ := h
    rfl
  · obtain ⟨a, d, rs, bs, xs, rfl, hS, hG, hD, ok, hP, k⟩ := h
    refine ⟨_, pss_cons (ps_if (pt_cmpR op_gt (pe_callB call_len_seq (by rfl) hl PySem.boot_len (pa_cons (pv 0) pa_nil)) (pe_gI hm) (nomark _)) (pss_one ps_never) pss_nil)
      (pss_cons (ps_for PassesOwn.never rfl (pi_list (pv 0)) (pg_name (i := 2) scBars.nd rfl (Or.inl rfl))
        (pss_cons (ps_if (pt_cmpR op_ne (pe_callB call_len_seq (by rfl) hl PySem.boot_len (pa_cons (pv 2) pa_nil)) pe_int (nomark _)) (pss_one ps_never) pss_nil)
        (pss_cons (ps_asg (pv 2) (pg_tup (by rfl) (pgs_cons (pg_name (i := 3) scBars.nd rfl (.inl rfl)) (pgs_cons (pg_name (i := 4) scBars.nd rfl (.inl rfl)) pgs_nil))))
        (pss_cons (ps_if (PW.pt (pw_or (pt_cmp (pc_dnotin (u1 hr.units) (pv 3) (pv 1))) (pw_or1 (pt_cmp (pc_dnotin (u1 hr.units) (pv 4) (pv 1)))))) (pss_one ps_never) pss_nil)
        (pss_one (ps_if (pt_cmpR op_ne (pe_ix ix_tup (pe_dget (u1 hr.units) (pv 1) (pv 3) (fun _ _ => rfl)) (pe_gI he) (fun _ _ => rfl)) (pe_ix ix_tup (pe_dget (u1 hr.units) (pv 1) (pv 4) (fun _ _ => rfl)) (pe_gI hst) (fun _ _ => rfl)) (nomark _)) (pss_one ps_never) pss_nil))))))
      (pss_cons (ps_setLc (i := 5) (own := [("bar", 2)]) (g := gName 2) (tt := tYes) rfl scBars.nd rfl rfl (sw_true rfl rfl rfl (by decide +kernel)) (pi_list (pv 0)) (blkOk_by (N := nBars) (sc := defScope sBars) (by decide +kernel)) (fun _ _ _ _ _ => pg_name (i := 2) scBars.nd rfl (Or.inl rfl)) (fun _ _ _ _ _ => pts_nil)
          (fun _ _ _ _ _ => pe_callTy (r := rTupOf K) call_tuple_of (by rfl) ht (by decide +kernel) (pa_cons (pv 2) pa_nil)))
      (pss_cons (ps_expr (pe_call GD (hr.mono (by decide)) (by rfl) gD kD bD .nil pass0 (pa_cons (pv 5) pa_nil)))
      (pss_one (ps_ret (pe_callTy call_tuple_of (by rfl) ht (by decide +kernel) (pa_cons (pe_callB cr_sortB (by rfl) hs (by decide +kernel) (pa_cons (pv 5) pa_nil)) pa_nil))))))), ?_⟩
    have hln := Paired.len hG
    have hl40 := ok.len
    refine ⟨_, rfl, a, _, rfl, .inl hS, _, _, rfl, rfl, _, rfl, if_f (decide_eq_false (by omega)) ?_⟩
    refine ⟨_, rfl, a, rfl, ⟨_, hS⟩, for_list (K := K) (a := a) (xs := xs) (fun i σ H' => H' = H ∧ ∃ v1 v2 v3, σ = [some (.ref a), some (.ref d), v1, v2, v3, none])
      ⟨rfl, none, none, none, rfl⟩ (fun i σ H' _ ⟨e, _⟩ => by rw [e]; exact hS) ?_ ?_⟩
    · rintro i y σ H' hi ⟨rfl, v1, v2, v3, rfl⟩
      obtain ⟨b, hb, t, rfl, hT⟩ := Paired.at hG hi
      obtain ⟨r1, hr1, r2, hr2, e1, e2, e3⟩ := ok.ok b (List.mem_of_getElem? hb)
      obtain ⟨kvs, hd, hin, _⟩ := hD
      obtain ⟨w1, l1, p1, q1, h1, rfl, a1, _, _⟩ := hin r1 hr1
      obtain ⟨w2, l2, p2, q2, h2, rfl, a2, _, _⟩ := hin r2 hr2
      rw [← e1] at l1
      rw [← e2] at l2
      have g1 : DGet H' d (.str b.1) (some (.ref p1)) := by rw [← l1]; exact DGet.k (k := .inr b.1) hd
      have g2 : DGet H' d (.str b.2) (some (.ref p2)) := by rw [← l2]; exact DGet.k (k := .inr b.2) hd
      refine ⟨_, rfl, t, _, rfl, .inr (SqT.of hT), rfl, _, rfl, if_f (by rfl) ?_⟩
      refine ⟨_, rfl, t, _, rfl, SqT.of hT, rfl, _, _, rfl, _, _, rfl, rfl, ?_⟩
      refine ⟨_, rfl, _, rfl, d, _, rfl, g1, _, rfl, if_f (by rfl) ?_⟩
      refine ⟨_, rfl, _, rfl, d, _, rfl, g2, _, rfl, if_f (by rfl) ?_⟩
      refine ⟨_, rfl, _, rfl, d, _, rfl, g1, p1, _, 2, .str r1.goal, rfl, rfl, SqT.of a1, rfl, _, rfl, _, rfl, d, _, rfl, g2, p2, _, 1, .str r2.start, rfl, rfl, SqT.of a2, rfl, rfl, _, rfl, if_f ?_ ⟨rfl, _, _, _, rfl⟩⟩
      rw [e3]
      simp
    · rintro σ H' ⟨rfl, v1, v2, v3, rfl⟩
      refine ⟨_, rfl, a, rfl, ⟨_, hS⟩, fun D nD => lc_list (K := K) (a := a) (xs := xs) (fun i H1 => Grew P H' H1 ∧ H1 D = some (.lst (xs.take i)))
        ⟨Grew.new hP nD, upd_same⟩ (fun i H1 _ p => p.1.sqL hP hS) (fun i x H1 hx p => ?_) (fun H1 p => ?_)⟩
      · obtain ⟨g, hD1⟩ := p
        obtain ⟨b, hb, t, rfl, hT⟩ := Paired.at hG hx
        refine ⟨rfl, _, rfl, t, _, rfl, .inr ⟨SqT.of (g.tup hP hT), _, hD1, ?_, g.write hD1 (fun _ z => by cases z) nD, ?_⟩⟩
        · rw [List.length_take, sizeLine_eq]; omega
        · rw [upd_same, List.take_succ, hx]; rfl
      · obtain ⟨g, hD1⟩ := p
        rw [List.take_length] at hD1
        have hG1 : Paired (GBar H1) bs xs := Paired.map' hG fun b v m => m.grew g hP
        obtain ⟨ks, ek1, ek2, ek3⟩ := bars_keys (K := K) hG1
        have lk : ks.length = xs.length := by rw [ek1, List.length_map]
        refine ⟨_, rfl, D, rfl, .inr ⟨ks, by rw [← ek1]; exact SqL.of hD1, ek3, by omega, by rw [ek2]; exact nodup_bars ok.nd⟩, ?_⟩
        refine ⟨_, rfl, D, xs, barAt H1, rfl, SqL.of hD1, fun x hx => ?_, fun ys l hpm hso hl => ⟨l, _, rfl, .inl ⟨SqL.of upd_same, fun p hp2 => ?_⟩⟩⟩
        · obtain ⟨b, _, m⟩ := Paired.mem hG1 hx
          have nm := m.at
          obtain ⟨t, e, q⟩ := m
          exact ⟨t, e, by rw [nm]; exact SqT.of q⟩
        · obtain ⟨bs', pm, hr'⟩ := Paired.perm hpm hG1
          have gl := Grew.new g.tab (o := .lst ys) hl
          have gp := gl.put (o := .tup ys) hp2
          exact k _ p bs' ys (g.trans gp) pm (Paired.pair (fun a b x y m m' e => by rw [m.at, m'.at] at e; exact e) hr' hso) (g.free (gl.free hp2)) upd_same (Paired.map' hr' fun _ _ m => m.grew gp g.tab)
end
end W

set_option Elab.async false
set_option linter.all false
set_option maxRecDepth 100000
set_option maxHeartbeats 800000
namespace W
open PySem PySem.Spec PyProof.Rows L2 GxR MyG MyS
/-! ### Map.__init__ -/
abbrev nInit : List Str := ["self", "day", "kinds", "places", "roads", "bars", "road", "bar"]
abbrev pInit : List Str := ["self", "day", "kinds", "places", "roads", "bars"]
section
variable {K : PySem.W.Frag} {H : Hp} {x C dx : Addr} {fs : List (Str × V)} {o : HO}
theorem insNe (hx : H x = some (.ins C dx fs)) {a : Addr} {u : HO} (e : H a = some u) (d : ∀ C dx fs, u ≠ .ins C dx fs) : a ≠ x := fun z => by
  rw [z, hx] at e
  exact d _ _ _ (Option.some.inj e).symm
theorem tup_ins (hx : H x = some (.ins C dx fs)) {a : Addr} {l : List V} (e : H a = some (.tup l)) : L2.upd H x o a = some (.tup l) := by
  rw [upd_ne (insNe hx e (fun _ _ _ z => by cases z))]
  exact e
theorem RoadAt.ins (hx : H x = some (.ins C dx fs)) {r : RoadD} {v : V} (m : RoadAt K H r v) : RoadAt K (L2.upd H x o) r v := m.upd (fun xs z => by rw [hx] at z; cases z) (KeepT.ins hx)
theorem GBar.ins (hx : H x = some (.ins C dx fs)) {b : Str × Str} {v : V} (m : GBar H b v) : GBar (L2.upd H x o) b v := m.upd (fun xs z => by rw [hx] at z; cases z)
theorem DictR.ins (hx : H x = some (.ins C dx fs)) {d : Addr} {rs : List RoadD} (m : DictR K H d rs) : DictR K (L2.upd H x o) d rs := by
  obtain ⟨kvs, e, m1, m2⟩ := m
  exact ⟨kvs, by rw [upd_ne (insNe hx e (fun _ _ _ z => by cases z))]; exact e, fun r hr => let ⟨v, a, b⟩ := m1 r hr; ⟨v, a, b.ins hx⟩, m2⟩
end
/-- the dict of the bars -/
def DictB (H : Hp) (d : Addr) (bs : List (Str × Str)) : Prop := ∃ kvs : List (List Key × V), H d = some (.dT kvs) ∧ ∀ a b : Str, (valV kvs [.inr a, .inr b]).isSome = true ↔ (a, b) ∈ bs
/-- the fields of a map -/
def nmF : List Str := ["day", "kinds", "places", "roads", "_roads_by_name", "bars", "_barred"]
theorem noF {fs : List (Str × V)} {g : Str} {v : V} (h : ∀ f, f ∉ nmF → fs.lookup f = none) (hg : g ∈ nmF) : ∀ f, f ∉ nmF → (putF g v fs).lookup f = none := fun f hf => by
  rw [lookup_putF, if_neg (by intro e; subst e; exact hf hg)]
  exact h f hf
/-- the map at x -/
structure MapF (K : PySem.W.Frag) (H : Hp) (fs : List (Str × V)) (d : Int) (ks ps : List Str) (rs : List RoadD) (bs : List (Str × Str)) (kk pp rr D bb D2 : Addr) (ys zs : List V) : Prop where
  f0 : ∀ f, f ∉ nmF → fs.lookup f = none
  f1 : fs.lookup ("day" : Str) = some (V.int d)
  f2 : fs.lookup ("kinds" : Str) = some (V.ref kk)
  f3 : fs.lookup ("places" : Str) = some (V.ref pp)
  f4 : fs.lookup ("roads" : Str) = some (V.ref rr)
  f5 : fs.lookup ("_roads_by_name" : Str) = some (V.ref D)
  f6 : fs.lookup ("bars" : Str) = some (V.ref bb)
  f7 : fs.lookup ("_barred" : Str) = some (V.ref D2)
  k : H kk = some (.tup (ks.map V.str))
  p : H pp = some (.tup (ps.map V.str))
  r : H rr = some (.tup ys)
  ry : Paired (RoadAt K H) rs ys
  d : DictR K H D rs
  b : H bb = some (.tup zs)
  bz : Paired (GBar H) bs zs
  db : DictB H D2 bs
def MapAt (K : PySem.W.Frag) (H : Hp) (M x : Addr) (d : Int) (ks ps : List Str) (rs : List RoadD) (bs : List (Str × Str)) : Prop := ∃ dx fs kk pp rr D bb D2 ys zs, H x = some (.ins M dx fs) ∧ MapF K H fs d ks ps rs bs kk pp rr D bb D2 ys zs
structure PartsOk (d : Int) (ks ps : List Str) (rs : List RoadD) (bs : List (Str × Str)) : Prop where
  d1 : 1 ≤ d
  d2 : d ≤ 1440
  k1 : 1 ≤ ks.length
  k2 : ks.length ≤ 4
  p2 : ps.length ≤ 30
  kn : ks.all isNm = true
  pn : ps.all isNm = true
  kd : ks.Nodup
  pd : ps.Nodup
  r : RoadsOk d ps ks rs
  b : BarsOk rs bs
theorem RoadsOk.perm {d : Int} {ps ps' ks ks' : List Str} {rs : List RoadD} (h : RoadsOk d ps ks rs) (hp : ps'.Perm ps) (hk : ks'.Perm ks) : RoadsOk d ps' ks' rs := by
  obtain ⟨a, b, c, e⟩ := h
  refine ⟨a, b, c, fun r hr => ?_⟩
  obtain ⟨h1, h2, h3, h4, h5, h6, h7, h8⟩ := e r hr
  exact ⟨hp.mem_iff.mpr h1, hp.mem_iff.mpr h2, h3, h4, fun k hk' => hk.mem_iff.mpr (h5 k hk'), h6, h7, h8⟩
theorem BarsOk.kept {rs rs' : List RoadD} {bs : List (Str × Str)} (h : BarsOk rs bs) (k : KeptAll rs rs') : BarsOk rs' bs := by
  obtain ⟨a, b, c⟩ := h
  obtain ⟨l, pm, pr⟩ := k
  have f : ∀ r ∈ rs, ∃ r' ∈ rs', r'.name = r.name ∧ r'.start = r.start ∧ r'.goal = r.goal := fun r hr => by
    obtain ⟨r', hr', q⟩ := Paired.mem' pr hr
    exact ⟨r', pm.mem_iff.mp hr', q.1, q.2.1, q.2.2.1⟩
  refine ⟨a, b, fun z hz => ?_⟩
  obtain ⟨r1, h1, r2, h2, e1, e2, e3⟩ := c z hz
  obtain ⟨s1, m1, n1, _, g1⟩ := f r1 h1
  obtain ⟨s2, m2, n2, g2, _⟩ := f r2 h2
  exact ⟨s1, m1, s2, m2, by rw [n1]; exact e1, by rw [n2]; exact e2, by rw [g1, g2]; exact e3⟩
theorem KeptAll.nodup {rs rs' : List RoadD} (k : KeptAll rs rs') (h : (rs.map (·.name)).Nodup) : (rs'.map (·.name)).Nodup := by
  obtain ⟨l, pm, pr⟩ := k
  rw [← kept_names pr] at h
  exact (pm.map (·.name)).nodup_iff.mp h
theorem KeptAll.len {rs rs' : List RoadD} (k : KeptAll rs rs') : rs'.length = rs.length := by
  obtain ⟨l, pm, pr⟩ := k
  rw [← pm.length_eq, ← Paired.len pr]
def spInit (K : PySem.W.Frag) (M P : Addr) : Sp := fun vs H Q _ => ∃ (x dx ki pl ro ba : Addr) (d : Int) (ks ps : List Str) (rs : List RoadD) (bs : List (Str × Str)) (xs zs : List V) (H0 : Hp), vs = [.ref x, .int d, .ref ki, .ref pl, .ref ro, .ref ba] ∧
  Grew P H0 H ∧ TabG H0 P ∧ H0 x = none ∧ H x = some (.ins M dx []) ∧ SqL K H0 ki (ks.map V.str) ∧ SqL K H0 pl (ps.map V.str) ∧ SqL K H0 ro xs ∧ Paired (GRoad K H0) rs xs ∧ SqL K H0 ba zs ∧ Paired (GBar H0) bs zs ∧ PartsOk d ks ps rs bs ∧
  ∀ H' ks' ps' rs' bs', Grew P H0 H' → ks'.Perm ks → Asc ks' → ps'.Perm ps → Asc ps' → KeptAll rs rs' → AscR rs' → bs'.Perm bs → AscB bs' → MapAt K H' M x d ks' ps' rs' bs' → Q .non H'
structure TxtM (K : PySem.W.Frag) (M : Addr) : Prop where
  cl : Cls K M
  n1 : NoAttr K M "day"
  n2 : NoAttr K M "kinds"
  n3 : NoAttr K M "places"
  n4 : NoAttr K M "roads"
  n5 : NoAttr K M "_roads_by_name"
  n6 : NoAttr K M "bars"
  n7 : NoAttr K M "_barred"
section
variable {Pg : Program} {w : World} {K : PySem.W.Frag} {mg : Str → Option Value} {base : Heap} {C P : Addr}
theorem scInit : FnScope nInit pInit (defScope sInit) := ⟨rfl, rfl, rfl, by decide +kernel, rfl, by decide +kernel, by decide +kernel⟩
theorem ok_init {f fY fN fR fB M : Addr} {fd fdY fdN fdR fdB : FuncData} {t1 t2 t3 : Tok} {dvs : List V} {kws : List (Str × V)} (F : FunD K "__init__" "Map.__init__" (defArgs sInit) (defBody sInit) (defScope sInit) dvs kws f fd) (T : TxtM K M)
    (hn : mg "NAME" = some (.int 0 t1)) (hk : mg "MOST_KINDS" = some (.int 4 t2)) (hp : mg "MOST_PLACES" = some (.int 30 t3))
    (GY : FnOk Pg w K mg base CX0 1 fY fdY ["day"] spDay) (gY : mg "_checked_day" = some (.ref fY)) (kY : PySem.W.keepIn K (.ref fY) = true) (bY : Binds K fdY ["day"] [])
    (GN : FnOk Pg w K mg base CX0 3 fN fdN ["names", "least", "most"] (spNames K P)) (gN : mg "_checked_names" = some (.ref fN)) (kN : PySem.W.keepIn K (.ref fN) = true) (bN : Binds K fdN ["names", "least", "most"] [])
    (GR : FnOk Pg w K mg base CX0 4 fR fdR ["roads", "day", "places", "kinds"] (spRoads K P)) (gR : mg "_checked_roads" = some (.ref fR)) (kR : PySem.W.keepIn K (.ref fR) = true) (bR : Binds K fdR ["roads", "day", "places", "kinds"] [])
    (GB : FnOk Pg w K mg base CX0 2 fB fdB ["bars", "roads_by_name"] (spBars K P)) (gB : mg "_checked_bars" = some (.ref fB)) (kB : PySem.W.keepIn K (.ref fB) = true) (bB : Binds K fdB ["bars", "roads_by_name"] []) :
    FnOk Pg w K mg base CX0 5 f fd pInit (spInit K M P) := by
  refine F.ok scInit (fun vs H Q E h => ?_) (fun cdv A outer s H vs Q E hr h => ?_)
  · obtain ⟨x, dx, ki, pl, ro, ba, d, ks, ps, rs, bs, xs, zs, H0, rfl, _⟩ := h
    rfl
  · obtain ⟨x, dx, ki, pl, ro, ba, d, ks, ps, rs, bs, xs, zs, H0, rfl, g0, hP0, nx, hx, hKi, hPl, hRo, hG, hBa, hB, ok, k⟩ := h
    have hr1 : Room 1 _ := hr.mono (by decide)
    have hr2 : Room 2 _ := hr.mono (by decide)
    have hr3 : Room 3 _ := hr.mono (by decide)
    refine ⟨_, pss_cons (ps_fld (pv 0) (pe_call GY hr1 (by rfl) gY kY bY .nil pass0 (pa_cons (pv 1) pa_nil)) rfl)
      (pss_cons (ps_fld (pv 0) (pe_call GN hr3 (by rfl) gN kN bN .nil pass0 (pa_cons (pv 2) (pa_cons pe_int (pa_cons (pe_gI hk) pa_nil)))) rfl)
      (pss_cons (ps_fld (pv 0) (pe_call GN hr3 (by rfl) gN kN bN .nil pass0 (pa_cons (pv 3) (pa_cons pe_int (pa_cons (pe_gI hp) pa_nil)))) rfl)
      (pss_cons (ps_fld (pv 0) (pe_call GR hr (by rfl) gR kR bR .nil pass0 (pa_cons (pv 4) (pa_cons (pv 1) (pa_cons (pe_fld (pv 0) rfl) (pa_cons (pe_fld (pv 0) rfl) pa_nil))))) rfl)
      (pss_cons (ps_fld (pv 0) (pe_dc (own := [("road", 6)]) (g := gName 6) (tt := tYes) rfl scInit.nd (pi_tup (pe_fld (pv 0) rfl)) (blkOk_by (N := nInit) (sc := defScope sInit) (by decide +kernel)) (fun _ _ _ _ _ => pg_name (i := 6) scInit.nd rfl (Or.inl rfl)) (fun _ _ _ _ _ => pts_nil)
          (fun _ _ _ _ _ => pe_ix (r := rIxT K) ix_tup (pv 6) (pe_gI hn) (fun _ _ => rfl)) (fun _ _ _ _ _ => pv 6)) rfl)
      (pss_cons (ps_fld (pv 0) (pe_call GB hr2 (by rfl) gB kB bB .nil pass0 (pa_cons (pv 5) (pa_cons (pe_fld (pv 0) rfl) pa_nil))) rfl)
      (pss_one (ps_fld (pv 0) (pe_dcT (own := [("bar", 7)]) (g := gName 7) (tt := tYes) (u1 hr.units) rfl scInit.nd (pi_tup (pe_fld (pv 0) rfl)) (blkOk_by (N := nInit) (sc := defScope sInit) (by decide +kernel)) (fun _ _ _ _ _ => pg_name (i := 7) scInit.nd rfl (Or.inl rfl)) (fun _ _ _ _ _ => pts_nil)
          (fun _ _ _ _ _ => pv 7) (fun _ _ _ _ _ => pe_bl)) rfl))))))), ?_⟩
    have nins : ∀ (fs : List (Str × V)) (q : Array Value), (HO.ins M dx fs) ≠ .tbl q := fun _ _ z => by cases z
    have k1 := ok.k1
    have k2 := ok.k2
    have p2 := ok.p2
    -- day
    refine ⟨_, rfl, d, rfl, ok.d1, ok.d2, _, rfl, x, M, dx, [], rfl, hx, T.cl, T.n1, by decide, ?_⟩
    have ga := g0.write (o := .ins M dx (putF "day" (.int d) [])) hx (nins _) nx
    have la : (putF ("day" : Str) (V.int d) []).length ≤ 1 := length_putF _ _ []
    -- kinds
    refine ⟨_, rfl, ki, ks, 1, 4, rfl, ga.sqL hP0 hKi, by omega, by omega, by omega, ok.kn, ok.kd, ga.tab, fun Hb kk ks' gb nk ek pk ak => ?_⟩
    have xb := gb.get ga.tab upd_same (nins _)
    refine ⟨_, rfl, x, M, dx, _, rfl, xb, T.cl, T.n2, by omega, ?_⟩
    have gc := (ga.trans gb).write (o := .ins M dx (putF "kinds" (.ref kk) (putF "day" (.int d) []))) xb (nins _) nx
    have lc := length_putF ("kinds" : Str) (V.ref kk) (putF ("day" : Str) (V.int d) [])
    have tk := tup_ins (o := .ins M dx (putF "kinds" (.ref kk) (putF "day" (.int d) []))) xb ek
    -- places
    refine ⟨_, rfl, pl, ps, 0, 30, rfl, gc.sqL hP0 hPl, by omega, by omega, by omega, ok.pn, ok.pd, gc.tab, fun Hd pp ps' gd np ep pp' ap => ?_⟩
    have xd := gd.get gc.tab upd_same (nins _)
    refine ⟨_, rfl, x, M, dx, _, rfl, xd, T.cl, T.n3, by omega, ?_⟩
    have ge := (gc.trans gd).write (o := .ins M dx (putF "places" (.ref pp) (putF "kinds" (.ref kk) (putF "day" (.int d) [])))) xd (nins _) nx
    have le := length_putF ("places" : Str) (V.ref pp) (putF ("kinds" : Str) (V.ref kk) (putF ("day" : Str) (V.int d) []))
    generalize hfs : putF ("places" : Str) (V.ref pp) (putF ("kinds" : Str) (V.ref kk) (putF ("day" : Str) (V.int d) [])) = fs at ge le ⊢
    have f0 : ∀ f, f ∉ nmF → fs.lookup f = none := by rw [← hfs]; exact noF (noF (noF (fun _ _ => rfl) (by decide +kernel)) (by decide +kernel)) (by decide +kernel)
    have f3 : fs.lookup ("places" : Str) = some (V.ref pp) := by rw [← hfs, lookup_putF, if_pos rfl]
    have f2 : fs.lookup ("kinds" : Str) = some (V.ref kk) := by rw [← hfs, lookup_putF, if_neg (by decide +kernel), lookup_putF, if_pos rfl]
    have f1 : fs.lookup ("day" : Str) = some (V.int d) := by rw [← hfs, lookup_putF, if_neg (by decide +kernel), lookup_putF, if_neg (by decide +kernel), lookup_putF, if_pos rfl]
    have tk2 := tup_ins (o := .ins M dx fs) xd (gd.tup gc.tab tk)
    have tp2 := tup_ins (o := .ins M dx fs) xd ep
    -- roads
    have okr := ok.r.perm pp' pk
    refine ⟨_, rfl, _, rfl, _, rfl, x, M, dx, _, _, rfl, upd_same, T.cl, T.n3, f3, _, rfl, x, M, dx, _, _, rfl, upd_same, T.cl, T.n2, f2,
      ro, pp, kk, d, ps', ks', rs, xs, rfl, ge.sqL hP0 hRo, Paired.map' hG (fun r v m => m.keep (KeepT.grew ge hP0)), SqT.of tp2, SqT.of tk2, okr, ge.tab, fun Hf rr rs' ys gf kr ar nr er hm => ?_⟩
    have xf := gf.get ge.tab upd_same (nins _)
    refine ⟨_, rfl, x, M, dx, _, rfl, xf, T.cl, T.n4, by omega, ?_⟩
    have gg := (ge.trans gf).write (o := .ins M dx (putF "roads" (.ref rr) fs)) xf (nins _) nx
    have lg := length_putF ("roads" : Str) (V.ref rr) fs
    have fg4 : (putF ("roads" : Str) (V.ref rr) fs).lookup ("roads" : Str) = some (V.ref rr) := by rw [lookup_putF, if_pos rfl]
    have fg3 : (putF ("roads" : Str) (V.ref rr) fs).lookup ("places" : Str) = some (V.ref pp) := by rw [lookup_putF, if_neg (by decide +kernel)]; exact f3
    have fg2 : (putF ("roads" : Str) (V.ref rr) fs).lookup ("kinds" : Str) = some (V.ref kk) := by rw [lookup_putF, if_neg (by decide +kernel)]; exact f2
    have fg1 : (putF ("roads" : Str) (V.ref rr) fs).lookup ("day" : Str) = some (V.int d) := by rw [lookup_putF, if_neg (by decide +kernel)]; exact f1
    have fg0 := noF (v := V.ref rr) f0 (show ("roads" : Str) ∈ nmF by decide +kernel)
    generalize hgs : putF ("roads" : Str) (V.ref rr) fs = gs at gg lg fg0 fg1 fg2 fg3 fg4 ⊢
    have tr3 := tup_ins (o := .ins M dx gs) xf er
    have tk3 := tup_ins (o := .ins M dx gs) xf (gf.tup ge.tab tk2)
    have tp3 := tup_ins (o := .ins M dx gs) xf (gf.tup ge.tab tp2)
    have hm3 : Paired (RoadAt K (L2.upd Hf x (.ins M dx gs))) rs' ys := Paired.map' hm fun r v m => m.ins xf
    have lys : ys.length ≤ 60 := by rw [← Paired.len hm3, kr.len]; exact ok.r.len
    have ndr := kr.nodup ok.r.nd
    generalize hHg : L2.upd Hf x (.ins M dx gs) = Hg at gg tr3 tk3 tp3 hm3 ⊢
    have xg : Hg x = some (.ins M dx gs) := by rw [← hHg]; exact upd_same
    -- _roads_by_name
    refine ⟨_, rfl, x, M, dx, _, _, rfl, xg, T.cl, T.n4, fg4, rr, rfl, ⟨_, SqT.of tr3⟩, fun D nD => dc_tup (K := K) (a := rr) (xs := ys)
      (fun i H1 => Grew P Hg H1 ∧ ∃ kvs, H1 D = some (.dK kvs) ∧ kvs.length ≤ i ∧ (∀ (j : Nat) r v, j < i → rs'[j]? = some r → ys[j]? = some v → valV kvs (.inr r.name) = some v) ∧ ∀ z : Str, (∀ r ∈ rs'.take i, r.name ≠ z) → valV kvs (.inr z) = none)
      ⟨Grew.new gg.tab nD, [], upd_same, Nat.le_refl _, fun j r v h => absurd h (Nat.not_lt_zero _), fun z _ => rfl⟩ (fun i H1 _ p => SqT.of (p.1.tup gg.tab tr3)) (fun i y H1 hy p => ?_) (fun Hh p => ?_)⟩
    · obtain ⟨g, kvs, hD, hl, hin, hno⟩ := p
      obtain ⟨r, hri, m⟩ := Paired.at hm3 hy
      have hi : i < ys.length := (List.getElem?_eq_some_iff.mp hy).1
      have m1 := m.grew g gg.tab
      obtain ⟨t, q, h, rfl, et, _⟩ := m1
      refine ⟨rfl, _, rfl, t, _, 0, .str r.name, rfl, rfl, SqT.of et, rfl, _, rfl, kvs, .inr r.name, rfl, hD, ?_, g.write hD (fun _ z => by cases z) nD, _, upd_same, ?_, fun j r' v' hj hr' hv' => ?_, fun z hz => ?_⟩
      · rw [sizeLine_eq]; omega
      · exact Nat.le_trans (length_putK kvs (.inr r.name) _) (by omega)
      · rw [valV_put]
        by_cases e : j = i
        · subst e
          rw [hri] at hr'
          rw [hy] at hv'
          cases hr'; cases hv'
          rw [if_pos rfl]
        · have ne : ¬ (Sum.inr r'.name : Key) = .inr r.name := fun z => by
            injection z with z
            have hri' := (List.getElem?_eq_some_iff.mp hri)
            have hrj' := (List.getElem?_eq_some_iff.mp hr')
            obtain ⟨a1, a2⟩ := hri'
            obtain ⟨b1, b2⟩ := hrj'
            refine absurd ?_ (List.pairwise_iff_getElem.mp ndr j i (by rw [List.length_map]; exact b1) (by rw [List.length_map]; exact a1) (by omega))
            rw [List.getElem_map, List.getElem_map, a2, b2]
            exact z
          rw [if_neg ne]
          exact hin j r' v' (by omega) hr' hv'
      · rw [valV_put, if_neg ?_]
        · exact hno z fun r' hr' => hz r' (by rw [List.take_succ]; exact List.mem_append_left _ hr')
        · intro e
          injection e with e
          exact hz r (by rw [List.take_succ, hri]; exact List.mem_append_right _ (List.mem_singleton.mpr rfl)) e.symm
    · obtain ⟨gh, kvs, hD, hl, hin, hno⟩ := p
      have xh := gh.get gg.tab xg (nins _)
      refine ⟨_, rfl, x, M, dx, _, rfl, xh, T.cl, T.n5, by omega, ?_⟩
      have gi := (gg.trans gh).write (o := .ins M dx (putF "_roads_by_name" (.ref D) gs)) xh (nins _) nx
      have li := length_putF ("_roads_by_name" : Str) (V.ref D) gs
      have fi5 : (putF ("_roads_by_name" : Str) (V.ref D) gs).lookup ("_roads_by_name" : Str) = some (V.ref D) := by rw [lookup_putF, if_pos rfl]
      have fi4 : (putF ("_roads_by_name" : Str) (V.ref D) gs).lookup ("roads" : Str) = some (V.ref rr) := by rw [lookup_putF, if_neg (by decide +kernel)]; exact fg4
      have fi3 : (putF ("_roads_by_name" : Str) (V.ref D) gs).lookup ("places" : Str) = some (V.ref pp) := by rw [lookup_putF, if_neg (by decide +kernel)]; exact fg3
      have fi2 : (putF ("_roads_by_name" : Str) (V.ref D) gs).lookup ("kinds" : Str) = some (V.ref kk) := by rw [lookup_putF, if_neg (by decide +kernel)]; exact fg2
      have fi1 : (putF ("_roads_by_name" : Str) (V.ref D) gs).lookup ("day" : Str) = some (V.int d) := by rw [lookup_putF, if_neg (by decide +kernel)]; exact fg1
      have fi0 := noF (v := V.ref D) fg0 (show ("_roads_by_name" : Str) ∈ nmF by decide +kernel)
      generalize his : putF ("_roads_by_name" : Str) (V.ref D) gs = is at gi li fi0 fi1 fi2 fi3 fi4 fi5 ⊢
      have hmh : Paired (RoadAt K Hh) rs' ys := Paired.map' hm3 fun r v m => m.grew gh gg.tab
      have dR : DictR K (L2.upd Hh x (.ins M dx is)) D rs' := by
        refine DictR.ins xh ⟨kvs, hD, fun r hr => ?_, fun z hz => hno z fun r hr => hz r (List.mem_of_mem_take hr)⟩
        obtain ⟨j, hj, ej⟩ := List.getElem_of_mem hr
        have hj' : rs'[j]? = some r := List.getElem?_eq_some_iff.mpr ⟨hj, ej⟩
        obtain ⟨v, hv, m⟩ := Paired.to hmh hj'
        exact ⟨v, hin j r v (List.getElem?_eq_some_iff.mp hv).1 hj' hv, m⟩
      have tr4 := tup_ins (o := .ins M dx is) xh (gh.tup gg.tab tr3)
      have tk4 := tup_ins (o := .ins M dx is) xh (gh.tup gg.tab tk3)
      have tp4 := tup_ins (o := .ins M dx is) xh (gh.tup gg.tab tp3)
      have hm4 : Paired (RoadAt K (L2.upd Hh x (.ins M dx is))) rs' ys := Paired.map' hmh fun r v m => m.ins xh
      generalize hHi : L2.upd Hh x (.ins M dx is) = Hi at gi tr4 tk4 tp4 hm4 dR ⊢
      have xi : Hi x = some (.ins M dx is) := by rw [← hHi]; exact upd_same
      -- bars
      refine ⟨_, rfl, _, rfl, x, M, dx, _, _, rfl, xi, T.cl, T.n5, fi5, ba, D, rs', bs, zs, rfl, gi.sqL hP0 hBa, Paired.map' hB (fun b v m => m.grew gi hP0), dR, ok.b.kept kr, gi.tab, fun Hj bb bs' zs' gj pb ab nb eb hz => ?_⟩
      have xj := gj.get gi.tab xi (nins _)
      refine ⟨_, rfl, x, M, dx, _, rfl, xj, T.cl, T.n6, by omega, ?_⟩
      have gk := (gi.trans gj).write (o := .ins M dx (putF "bars" (.ref bb) is)) xj (nins _) nx
      have lk := length_putF ("bars" : Str) (V.ref bb) is
      have fk6 : (putF ("bars" : Str) (V.ref bb) is).lookup ("bars" : Str) = some (V.ref bb) := by rw [lookup_putF, if_pos rfl]
      have fk5 : (putF ("bars" : Str) (V.ref bb) is).lookup ("_roads_by_name" : Str) = some (V.ref D) := by rw [lookup_putF, if_neg (by decide +kernel)]; exact fi5
      have fk4 : (putF ("bars" : Str) (V.ref bb) is).lookup ("roads" : Str) = some (V.ref rr) := by rw [lookup_putF, if_neg (by decide +kernel)]; exact fi4
      have fk3 : (putF ("bars" : Str) (V.ref bb) is).lookup ("places" : Str) = some (V.ref pp) := by rw [lookup_putF, if_neg (by decide +kernel)]; exact fi3
      have fk2 : (putF ("bars" : Str) (V.ref bb) is).lookup ("kinds" : Str) = some (V.ref kk) := by rw [lookup_putF, if_neg (by decide +kernel)]; exact fi2
      have fk1 : (putF ("bars" : Str) (V.ref bb) is).lookup ("day" : Str) = some (V.int d) := by rw [lookup_putF, if_neg (by decide +kernel)]; exact fi1
      have fk0 := noF (v := V.ref bb) fi0 (show ("bars" : Str) ∈ nmF by decide +kernel)
      generalize hjs : putF ("bars" : Str) (V.ref bb) is = js at gk lk fk0 fk1 fk2 fk3 fk4 fk5 fk6 ⊢
      have tb5 := tup_ins (o := .ins M dx js) xj eb
      have tr5 := tup_ins (o := .ins M dx js) xj (gj.tup gi.tab tr4)
      have tk5 := tup_ins (o := .ins M dx js) xj (gj.tup gi.tab tk4)
      have tp5 := tup_ins (o := .ins M dx js) xj (gj.tup gi.tab tp4)
      have hm5 : Paired (RoadAt K (L2.upd Hj x (.ins M dx js))) rs' ys := Paired.map' hm4 fun r v m => (m.grew gj gi.tab).ins xj
      have hz5 : Paired (GBar (L2.upd Hj x (.ins M dx js))) bs' zs' := Paired.map' hz fun b v m => m.ins xj
      have dR5 : DictR K (L2.upd Hj x (.ins M dx js)) D rs' := (dR.grew gj gi.tab).ins xj
      have lzs : zs'.length ≤ 40 := by rw [← Paired.len hz5, pb.length_eq]; exact ok.b.len
      generalize hHk : L2.upd Hj x (.ins M dx js) = Hk at gk tb5 tr5 tk5 tp5 hm5 hz5 dR5 ⊢
      have xk : Hk x = some (.ins M dx js) := by rw [← hHk]; exact upd_same
      -- _barred
      refine ⟨_, rfl, x, M, dx, _, _, rfl, xk, T.cl, T.n6, fk6, bb, rfl, ⟨_, SqT.of tb5⟩, fun D2 nD2 => dcT_tup (K := K) (a := bb) (xs := zs')
        (fun i H1 => Grew P Hk H1 ∧ ∃ kvs : List (List Key × V), H1 D2 = some (.dT kvs) ∧ kvs.length ≤ i ∧ ∀ a b : Str, (valV kvs [.inr a, .inr b]).isSome = true ↔ (a, b) ∈ bs'.take i)
        ⟨Grew.new gk.tab nD2, [], upd_same, Nat.le_refl _, fun a b => by simp [valV_nil]⟩ (fun i H1 _ p => SqT.of (p.1.tup gk.tab tb5)) (fun i y H1 hy p => ?_) (fun Hl p => ?_)⟩
      · obtain ⟨g, kvs, hD, hl, hin⟩ := p
        obtain ⟨b, hbi, m⟩ := Paired.at hz5 hy
        have hi : i < zs'.length := (List.getElem?_eq_some_iff.mp hy).1
        obtain ⟨t, rfl, et⟩ := m.grew g gk.tab
        refine ⟨rfl, _, rfl, kvs, [.inr b.1, .inr b.2], t, rfl, et, hD, ?_, g.write hD (fun _ z => by cases z) nD2, _, upd_same, ?_, fun a' b' => ?_⟩
        · rw [sizeLine_eq]; omega
        · have := length_putK kvs ([.inr b.1, .inr b.2] : List Key) (V.bl true)
          omega
        · rw [valV_put, List.take_succ, hbi, List.mem_append]
          by_cases e : ([.inr a', .inr b'] : List Key) = [.inr b.1, .inr b.2]
          · rw [if_pos e]
            have e1 : a' = b.1 := Sum.inr.inj (List.cons.inj e).1
            have e2 : b' = b.2 := Sum.inr.inj (List.cons.inj (List.cons.inj e).2).1
            subst e1 e2
            exact ⟨fun _ => .inr (List.mem_singleton.mpr rfl), fun _ => rfl⟩
          · rw [if_neg e, hin a' b']
            refine ⟨.inl, fun h => h.elim id fun h => ?_⟩
            have h' : (a', b') = b := List.mem_singleton.mp h
            subst h'
            exact absurd rfl e
      · obtain ⟨gl, kvs, hD, hl, hin⟩ := p
        have lb : bs'.length = zs'.length := Paired.len hz5
        rw [← lb, List.take_length] at hin
        have xl := gl.get gk.tab xk (nins _)
        refine ⟨_, rfl, x, M, dx, _, rfl, xl, T.cl, T.n7, by omega, ?_⟩
        have gm := (gk.trans gl).write (o := .ins M dx (putF "_barred" (.ref D2) js)) xl (nins _) nx
        refine k _ ks' ps' rs' bs' gm pk ak pp' ap kr ar pb ab ⟨dx, putF "_barred" (.ref D2) js, kk, pp, rr, D, bb, D2, ys, zs', upd_same, ?_⟩
        constructor
        · exact noF fk0 (by decide +kernel)
        · rw [lookup_putF, if_neg (by decide +kernel)]; exact fk1
        · rw [lookup_putF, if_neg (by decide +kernel)]; exact fk2
        · rw [lookup_putF, if_neg (by decide +kernel)]; exact fk3
        · rw [lookup_putF, if_neg (by decide +kernel)]; exact fk4
        · rw [lookup_putF, if_neg (by decide +kernel)]; exact fk5
        · rw [lookup_putF, if_neg (by decide +kernel)]; exact fk6
        · rw [lookup_putF, if_pos rfl]
        · exact tup_ins xl (gl.tup gk.tab tk5)
        · exact tup_ins xl (gl.tup gk.tab tp5)
        · exact tup_ins xl (gl.tup gk.tab tr5)
        · exact Paired.map' hm5 fun r v m => (m.grew gl gk.tab).ins xl
        · exact (dR5.grew gl gk.tab).ins xl
        · exact tup_ins xl (gl.tup gk.tab tb5)
        · exact Paired.map' hz5 fun b v m => (m.grew gl gk.tab).ins xl
        · exact ⟨kvs, by rw [upd_ne (insNe xl hD (fun _ _ _ z => by cases z))]; exact hD, hin⟩
end
end W

set_option Elab.async false
set_option linter.all false
set_option maxRecDepth 100000
set_option maxHeartbeats 400000
namespace W
open PySem PySem.Spec PyProof.Rows L2 GxR MyG
abbrev sRow : Stmt := top 58
abbrev sNumbers : Stmt := top 59
/-- the drawn numbers are small -/
def Sm (ns : List Int) : Prop := ∀ n ∈ ns, 0 ≤ n ∧ n < 1009
theorem Sm.snoc {ns : List Int} {n : Int} (h : Sm ns) (h1 : 0 ≤ n) (h2 : n < 1009) : Sm (ns ++ [n]) := fun z hz => by
  rcases List.mem_append.mp hz with hz | hz
  · exact h z hz
  · rw [List.mem_singleton.mp hz]; exact ⟨h1, h2⟩
theorem mod1009 (a : Int) : 0 ≤ a % 1009 ∧ a % 1009 < 1009 := by omega
def spRow (P : Addr) : Sp := fun vs H Q _ => ∃ (c : Int) (m : Nat), vs = [.int c, .int m] ∧ m ≤ 1000 ∧ TabG H P ∧ ∀ H' p ns, Grew P H H' → H p = none → H' p = some (.lst (ns.map V.int)) → ns.length = m → Sm ns → Q (.ref p) H'
def spNumbers (K : PySem.W.Frag) (P : Addr) : Sp := fun vs H Q _ => ∃ (a : Addr) (zs : List Int) (m : Nat), vs = [.ref a, .int m] ∧ SqL K H a (zs.map V.int) ∧ zs.length ≤ 63 ∧ m ≤ 900 ∧ TabG H P ∧
  ∀ H' p ns, Grew P H H' → H p = none → H' p = some (.lst (ns.map V.int)) → ns.length = m → Sm ns → Q (.ref p) H'
section
variable {Pg : Program} {w : World} {K : PySem.W.Frag} {mg : Str → Option Value} {base : Heap} {C P : Addr}
abbrev nRow : List Str := ["cell", "many", "row", "rest", "mixed", "k"]
theorem scRow : FnScope nRow ["cell", "many"] (defScope sRow) := ⟨rfl, rfl, rfl, by decide +kernel, rfl, by decide +kernel, by decide +kernel⟩
theorem ok_row {f : Addr} {fd : FuncData} (F : Fun K "_law_row" "_law_row" sRow f fd) (ha : mg "abs" = none) (hi : mg "int" = none) (hr' : mg "range" = none) : FnOk Pg w K mg base CX0 1 f fd ["cell", "many"] (spRow P) := by
  refine F.ok scRow (fun vs H Q E h => ?_) (fun cdv A outer s H vs Q E hr h => ?_)
  · obtain ⟨c, m, rfl, _⟩ := h
    rfl
  · obtain ⟨c, m, rfl, hm, hP, k⟩ := h
    refine ⟨_, pss_cons (ps_set (i := 2) scRow.nd rfl (Or.inl rfl) (pe_lst pa_nil))
      (pss_cons (ps_set (i := 3) scRow.nd rfl (Or.inl rfl) (pe_callB call_abs (by rfl) ha (by decide +kernel) (pa_cons (pv 0) pa_nil)))
      (pss_cons (ps_set (i := 4) scRow.nd rfl (Or.inl rfl) (pe_op op_mod (pe_callTy call_int1 (by rfl) hi (by decide +kernel) (pa_cons (pe_op op_add (pe_op op_mul (pv 3) pe_int) pe_int) pa_nil)) pe_int))
      (pss_cons (ps_for PassesOwn.never rfl (pi_range1 rfl hr' (pa_cons (pv 1) pa_nil)) (pg_name (i := 5) scRow.nd rfl (Or.inl rfl))
        (pss_cons (ps_set (i := 4) scRow.nd rfl (Or.inl rfl) (pe_op op_mod (pe_callTy call_int1 (by rfl) hi (by decide +kernel) (pa_cons (pe_op op_add (pe_op op_mul (pv 4) pe_int) (pe_op op_mul pe_int (pe_op op_add (pv 5) pe_int))) pa_nil)) pe_int))
        (pss_one (ps_if (pt_cmpR op_ge (pe_callB call_abs (by rfl) ha (by decide +kernel) (pa_cons (pv 0) pa_nil)) (pe_op op_pow pe_int pe_int) (nomark _))
          (pss_cons (ps_expr (pe_bm PySem.F.plainAttrs_list PySem.F.slot_list_append PySem.F.type_list_append mt_append (pv 2) (pa_cons (pe_op op_mod (pe_callTy call_int1 (by rfl) hi (by decide +kernel) (pa_cons (pv 3) pa_nil)) pe_int) pa_nil)))
            (pss_one (ps_set (i := 3) scRow.nd rfl (Or.inl rfl) (pe_op op_fdiv (pv 3) pe_int))))
          (pss_one (ps_expr (pe_bm PySem.F.plainAttrs_list PySem.F.slot_list_append PySem.F.type_list_append mt_append (pv 2) (pa_cons (pe_op op_mod (pe_callTy call_int1 (by rfl) hi (by decide +kernel) (pa_cons (pe_op op_fdiv (pv 4) pe_int) pa_nil)) pe_int) pa_nil))))))))
      (pss_one (ps_ret (pv 2)))))), ?_⟩
    refine ⟨Nat.zero_le _, fun p np => ?_⟩
    refine ⟨_, rfl, _, rfl, ?_⟩
    refine ⟨_, rfl, _, _, rfl, rfl, .inr ⟨by decide, by decide⟩, _, _, rfl, rfl, .inl ⟨_, rfl, _, _, rfl, rfl, (show (0 : Int) < 2147483647 by decide), ?_⟩⟩
    refine ⟨_, rfl, m, rfl, by omega, by omega, for_range (n := m) (fun i σ H' => ∃ r mx kv, ∃ ns : List Int, σ = [some (.int c), some (.int m), some (.ref p), some (.int r), some (.int mx), kv] ∧ Grew P H H' ∧ H' p = some (.lst (ns.map V.int)) ∧ ns.length = i ∧ Sm ns)
      ⟨_, _, none, [], rfl, Grew.new hP np, upd_same, rfl, fun n hn => by cases hn⟩ ?_ ?_⟩
    · rintro i σ H' hi ⟨r, mx, kv, ns, rfl, g, hp, hl, hsm⟩
      refine ⟨_, rfl, _, _, rfl, rfl, .inr ⟨by decide, by decide⟩, _, rfl, _, _, rfl, rfl, _, _, rfl, rfl, .inl ⟨by decide, by decide⟩, _, _, rfl, rfl, .inl ⟨_, rfl, _, _, rfl, rfl, (show (0 : Int) < 2147483629 by decide), ?_⟩⟩
      refine ⟨_, rfl, _, rfl, _, _, rfl, rfl, ⟨by decide, by decide, by decide⟩, _, _, rfl, rfl, _, rfl, ?_⟩
      have hlen : (ns.map V.int).length < sizeLine := by rw [List.length_map, hl, sizeLine_eq]; omega
      refine ite2 (fun _ => ?_) (fun _ => ?_)
      · refine ⟨_, rfl, .inl ⟨rfl, _, SqL.of hp⟩, _, rfl, .inl ⟨_, rfl, _, _, rfl, rfl, (show (0 : Int) < 1009 by decide), p, _, _, rfl, rfl, hp, hlen, ?_⟩⟩
        refine ⟨_, rfl, _, _, rfl, rfl, ⟨by decide, by decide⟩, _, _, _, ns ++ [_], rfl, g.write hp (fun _ z => by cases z) np, by rw [upd_same, List.map_append]; rfl, by rw [List.length_append, hl]; rfl, hsm.snoc (mod1009 _).1 (mod1009 _).2⟩
      · refine ⟨_, rfl, .inl ⟨rfl, _, SqL.of hp⟩, _, rfl, _, _, rfl, rfl, ⟨by decide, by decide⟩, .inl ⟨_, rfl, _, _, rfl, rfl, (show (0 : Int) < 1009 by decide), p, _, _, rfl, rfl, hp, hlen, ?_⟩⟩
        refine ⟨_, _, _, ns ++ [_], rfl, g.write hp (fun _ z => by cases z) np, by rw [upd_same, List.map_append]; rfl, by rw [List.length_append, hl]; rfl, hsm.snoc (mod1009 _).1 (mod1009 _).2⟩
    · rintro σ H' ⟨r, mx, kv, ns, rfl, g, hp, hl, hsm⟩
      exact ⟨_, rfl, k H' p ns g np hp hl hsm⟩
end
end W

set_option Elab.async false
set_option linter.all false
set_option maxRecDepth 100000
set_option maxHeartbeats 400000
namespace W
open PySem PySem.Spec PyProof.Rows L2 GxR MyG
theorem cutV_pre (xs : List V) (n : Nat) : cutV xs none (some (n : Int)) = xs.take n := by
  unfold cutV
  rw [HT.sIx_none, HT.sIx_nat, List.drop_zero, Nat.sub_zero]
  rcases Nat.le_total n xs.length with h | h
  · rw [Nat.min_eq_left h]
  · rw [Nat.min_eq_right h, List.take_length, List.take_of_length_le h]
theorem Sm.take {ns : List Int} (h : Sm ns) (k : Nat) : Sm (ns.take k) := fun z hz => h z (List.mem_of_mem_take hz)
theorem Sm.app {ns ms : List Int} (h : Sm ns) (h2 : Sm ms) : Sm (ns ++ ms) := fun z hz => by
  rcases List.mem_append.mp hz with hz | hz
  · exact h z hz
  · exact h2 z hz
section
variable {Pg : Program} {w : World} {K : PySem.W.Frag} {mg : Str → Option Value} {base : Heap} {C P : Addr}
abbrev nNumbers : List Str := ["script", "many", "cells", "each", "numbers", "cell", "number"]
theorem scNumbers : FnScope nNumbers ["script", "many"] (defScope sNumbers) := ⟨rfl, rfl, rfl, by decide +kernel, rfl, by decide +kernel, by decide +kernel⟩
theorem ok_numbers {f fR : Addr} {fd fdR : FuncData} (F : Fun K "_law_numbers" "_law_numbers" sNumbers f fd) (hl : mg "len" = none) (hx : mg "max" = none)
    (GR : FnOk Pg w K mg base CX0 1 fR fdR ["cell", "many"] (spRow P)) (gR : mg "_law_row" = some (.ref fR)) (kR : PySem.W.keepIn K (.ref fR) = true) (bR : Binds K fdR ["cell", "many"] []) :
    FnOk Pg w K mg base CX0 2 f fd ["script", "many"] (spNumbers K P) := by
  refine F.ok scNumbers (fun vs H Q E h => ?_) (fun cdv A outer s H vs Q E hr h => ?_)
  · obtain ⟨a, zs, m, rfl, _⟩ := h
    rfl
  · obtain ⟨a, zs, m, rfl, hS, hz, hm, hP, k⟩ := h
    refine ⟨_, pss_cons (ps_set (i := 2) scNumbers.nd rfl (Or.inl rfl) (pe_slice sl_list (pv 0) po_none (po_some pe_int)))
      (pss_cons (ps_set (i := 3) scNumbers.nd rfl (Or.inl rfl) (pe_op op_add pe_int (pe_op op_fdiv (pv 1) (pe_callB (call_max2 rfl) (by rfl) hx (by decide +kernel) (pa_cons pe_int (pa_cons (pe_callB call_len_seq (by rfl) hl PySem.boot_len (pa_cons (pv 2) pa_nil)) pa_nil))))))
      (pss_cons (ps_set (i := 4) scNumbers.nd rfl (Or.inl rfl) (pe_lst pa_nil))
      (pss_cons (ps_for PassesOwn.never rfl (pi_list (pv 2)) (pg_name (i := 5) scNumbers.nd rfl (Or.inl rfl))
        (pss_one (ps_for PassesOwn.never rfl (pi_list (pe_call GR hr (by rfl) gR kR bR .nil pass0 (pa_cons (pv 5) (pa_cons (pv 3) pa_nil)))) (pg_name (i := 6) scNumbers.nd rfl (Or.inl rfl))
          (pss_one (ps_expr (pe_bm PySem.F.plainAttrs_list PySem.F.slot_list_append PySem.F.type_list_append mt_append (pv 4) (pa_cons (pv 6) pa_nil)))))))
      (pss_cons (ps_while PassesOwn.never (pt_cmpR op_lt (pe_callB call_len_seq (by rfl) hl PySem.boot_len (pa_cons (pv 4) pa_nil)) (pv 1) (nomark _))
          (pss_one (ps_expr (pe_bm PySem.F.plainAttrs_list PySem.F.slot_list_append PySem.F.type_list_append mt_append (pv 4) (pa_cons pe_int pa_nil)))))
      (pss_one (ps_ret (pe_slice sl_list (pv 4) po_none (po_some (pv 1))))))))), ?_⟩
    -- cells
    refine ⟨_, rfl, _, rfl, a, _, rfl, hS, fun c nc => ?_⟩
    have ec : cutV (zs.map V.int) none (some 63) = zs.map V.int := by
      have q := cutV_pre (zs.map V.int) 63
      rw [List.take_of_length_le (by rw [List.length_map]; exact hz)] at q
      exact q
    rw [ec]
    have g1 := Grew.new hP (o := .lst (zs.map V.int)) nc
    -- each
    refine ⟨_, rfl, _, rfl, c, _, rfl, .inl (SqL.of upd_same), 1, _, rfl, _, _, rfl, rfl, ?_, _, _, rfl, rfl, ?_⟩
    · rw [List.length_map]
      constructor
      · split <;> omega
      · split <;> omega
    rw [List.length_map]
    generalize hdv : (if ((zs.length : Nat) : Int) > 1 then ((zs.length : Nat) : Int) else 1) = dv
    have hdp : 0 < dv := by rw [← hdv]; split <;> omega
    obtain ⟨e, he, he2⟩ : ∃ e : Nat, 1 + (m : Int) / dv = (e : Int) ∧ e ≤ 1000 := by
      have h1 : 0 ≤ (m : Int) / dv := Int.ediv_nonneg (by omega) (by omega)
      have h2 : (m : Int) / dv ≤ m := Int.ediv_le_self _ (by omega)
      exact ⟨(1 + (m : Int) / dv).toNat, by omega, by omega⟩
    refine ⟨Nat.zero_le _, fun p np => ?_⟩
    have g2 := g1.put (o := .lst []) np
    have hc : L2.upd (L2.upd H c (.lst (zs.map V.int))) p (.lst []) c = some (.lst (zs.map V.int)) := (Grew.new g1.tab np).lst g1.tab upd_same
    have ncp : c ≠ p := ne_of_none upd_same np
    refine ⟨_, rfl, c, rfl, ⟨_, SqL.of hc⟩, for_list (K := K) (a := c) (xs := zs.map V.int) (fun i σ H' => ∃ v5 v6, ∃ ns : List Int, σ = [some (.ref a), some (.int m), some (.ref c), some (.int (1 + (m : Int) / dv)), some (.ref p), v5, v6] ∧ Grew P H H' ∧ H' c = some (.lst (zs.map V.int)) ∧ H' p = some (.lst (ns.map V.int)) ∧ ns.length ≤ 1000 * i ∧ Sm ns)
      ⟨none, none, [], rfl, g2, hc, upd_same, Nat.zero_le _, fun n hn => by cases hn⟩ (fun i σ H' _ ⟨_, _, _, _, _, h, _⟩ => SqL.of h) ?_ ?_⟩
    · rintro i y σ H' hi ⟨v5, v6, ns, rfl, g, hcc, hp, hln, hsm⟩
      obtain ⟨z, rfl⟩ : ∃ z, y = V.int z := by
        rw [List.getElem?_map] at hi
        cases q : zs[i]? with
        | none => rw [q] at hi; cases hi
        | some z => rw [q] at hi; exact ⟨z, (Option.some.inj hi).symm⟩
      have hi63 : i < 63 := by
        have q := (List.getElem?_eq_some_iff.mp hi).1
        rw [List.length_map] at q
        omega
      refine ⟨_, rfl, _, rfl, z, e, by rw [he]; rfl, he2, g.tab, fun H2 q rs gr nq eq hrl hrs => ?_⟩
      have np2 : p ≠ q := ne_of_none hp nq
      have np0 : H p = none := (Grew.new hP nc).free np
      refine ⟨q, rfl, ⟨_, SqL.of eq⟩, for_list (K := K) (a := q) (xs := rs.map V.int) (fun j σ H' => ∃ v5 v6, σ = [some (.ref a), some (.int m), some (.ref c), some (.int (1 + (m : Int) / dv)), some (.ref p), v5, v6] ∧ Grew P H H' ∧ H' c = some (.lst (zs.map V.int)) ∧ H' q = some (.lst (rs.map V.int)) ∧ H' p = some (.lst ((ns ++ rs.take j).map V.int)))
        ⟨_, _, rfl, g.trans gr, gr.lst g.tab hcc, eq, by rw [List.take_zero, List.append_nil]; exact gr.lst g.tab hp⟩ (fun j σ H' _ ⟨_, _, _, _, _, h, _⟩ => SqL.of h) ?_ ?_⟩
      · rintro j y σ H3 hj ⟨w5, w6, rfl, g3, hc3, hq3, hp3⟩
        obtain ⟨z2, hz2, rfl⟩ : ∃ z, rs[j]? = some z ∧ y = V.int z := by
          rw [List.getElem?_map] at hj
          cases q : rs[j]? with
          | none => rw [q] at hj; cases hj
          | some z => rw [q] at hj; exact ⟨z, rfl, (Option.some.inj hj).symm⟩
        refine ⟨_, rfl, .inl ⟨rfl, _, SqL.of hp3⟩, _, rfl, p, _, _, rfl, rfl, hp3, ?_, _, _, rfl, g3.write hp3 (fun _ z => by cases z) np0, ?_, ?_, ?_⟩
        · rw [List.length_map, List.length_append, List.length_take, sizeLine_eq]; omega
        · rw [upd_ne ncp]; exact hc3
        · rw [upd_ne np2.symm]; exact hq3
        · rw [upd_same, List.take_succ, hz2]; simp
      · rintro σ H3 ⟨w5, w6, rfl, g3, hc3, hq3, hp3⟩
        rw [List.length_map, List.take_length] at hp3
        exact ⟨_, _, ns ++ rs, rfl, g3, hc3, hp3, by rw [List.length_append]; omega, hsm.app hrs⟩
    · rintro σ H' ⟨v5, v6, ns, rfl, g, hcc, hp, hln, hsm⟩
      rw [List.length_map] at hln
      have np0 : H p = none := (Grew.new hP nc).free np
      refine ⟨fun n σ H' => ∃ ns : List Int, σ = [some (.ref a), some (.int m), some (.ref c), some (.int (1 + (m : Int) / dv)), some (.ref p), v5, v6] ∧ Grew P H H' ∧ H' p = some (.lst (ns.map V.int)) ∧ ns.length ≤ 70000 ∧ Sm ns ∧ n = m - ns.length,
        ⟨_, ns, rfl, g, hp, by omega, hsm, rfl⟩, ?_⟩
      rintro n σ H3 ⟨ms, rfl, g3, hp3, hl3, hs3, rfl⟩
      refine ⟨_, rfl, p, _, rfl, .inl (SqL.of hp3), _, rfl, _, _, rfl, rfl, _, rfl, ?_⟩
      rw [List.length_map]
      refine ite2 (fun hlt => ?_) (fun hge => ?_)
      · have hlt' : (ms.length : Int) < m := of_decide_eq_true hlt
        refine ⟨_, fun _ _ h => h, _, rfl, .inl ⟨rfl, _, SqL.of hp3⟩, p, _, _, rfl, rfl, hp3, ?_, m - (ms.length + 1), by omega, ms ++ [0], rfl, g3.write hp3 (fun _ z => by cases z) np0, ?_, ?_, hs3.snoc (by decide) (by decide), ?_⟩
        · rw [List.length_map, sizeLine_eq]; omega
        · rw [upd_same, List.map_append]; rfl
        · rw [List.length_append, List.length_singleton]; omega
        · rw [List.length_append, List.length_singleton]
      · have hge' : ¬ (ms.length : Int) < m := fun z => hge (decide_eq_true z)
        refine ⟨_, rfl, _, rfl, _, rfl, p, _, rfl, SqL.of hp3, fun r nr => ?_⟩
        have ec2 := cutV_pre (ms.map V.int) m
        rw [ec2, ← List.map_take]
        exact k _ r (ms.take m) (g3.put nr) (g3.free nr) upd_same (by rw [List.length_take]; omega) (hs3.take m)
end
end W

set_option Elab.async false
set_option linter.all false
set_option maxRecDepth 100000
set_option maxHeartbeats 400000
namespace W
open PySem PySem.Spec PyProof.Rows L2 GxR MyG MyS
abbrev sLNames : Stmt := top 64
abbrev sLRoadG : Stmt := top 61
abbrev sLHours : Stmt := top 60
abbrev sLBarsG : Stmt := top 62
abbrev sLPartsG : Stmt := top 63
abbrev sLMade : Stmt := top 65
def zGood : Str := "abcdefghijklmnopqrstuvwxyz0123456789"
theorem str_len (z : Str) : z.length = z.cps.toList.length := by simp [Str.length]
/-! ### drawn names -/
/-- of the signs of names alone -/
def Gd (z : Str) : Prop := ∀ c ∈ z.cps.toList, goodC c = true
theorem good_all : ∀ c ∈ zGood.cps.toList, goodC c = true := by decide +kernel
theorem good_len : zGood.cps.toList.length = 36 := by decide +kernel
theorem good_nodup : zGood.cps.toList.Nodup := by decide +kernel
theorem good_let : ∀ c ∈ zGood.cps.toList.take 26, c ∈ zLet.cps.toList := by decide +kernel
theorem Gd.one {c : Nat} (h : c ∈ zGood.cps.toList) : Gd ⟨#[c]⟩ := fun x hx => by
  have e : x = c := by simpa using hx
  rw [e]; exact good_all c h
theorem app_cps (a b : Str) : (a ++ b).cps.toList = a.cps.toList ++ b.cps.toList := by
  show (a.cps ++ b.cps).toList = _
  exact Array.toList_append
theorem Gd.app {a b : Str} (h : Gd a) (k : Gd b) : Gd (a ++ b) := fun c hc => by
  rw [app_cps] at hc
  rcases List.mem_append.mp hc with hc | hc
  · exact h c hc
  · exact k c hc
theorem cutS_sub {z : Str} {lo hi : Option Int} {c : Nat} (h : c ∈ (cutS z lo hi).cps.toList) : c ∈ z.cps.toList := by
  unfold cutS at h
  have h2 : c ∈ (z.cps.toList.drop (HT.sIx z.length 0 lo)).take (HT.sIx z.length z.length hi - HT.sIx z.length 0 lo) := by simpa using h
  exact List.mem_of_mem_drop (List.mem_of_mem_take h2)
theorem Gd.cut {z : Str} (h : Gd z) (lo hi : Option Int) : Gd (cutS z lo hi) := fun c hc => h c (cutS_sub hc)
theorem fold_mem {sep : Str} {c : Nat} : ∀ (rest : List Str) (acc : Array Nat), c ∈ (rest.foldl (fun acc p => acc ++ sep.cps ++ p.cps) acc).toList → c ∈ acc.toList ∨ c ∈ sep.cps.toList ∨ ∃ p ∈ rest, c ∈ p.cps.toList
  | [], _, h => .inl h
  | p :: rest, acc, h => by
    rcases fold_mem rest _ h with h | h | ⟨q, hq, h⟩
    · rw [Array.toList_append, Array.toList_append] at h
      rcases List.mem_append.mp h with h | h
      · rcases List.mem_append.mp h with h | h
        · exact .inl h
        · exact .inr (.inl h)
      · exact .inr (.inr ⟨p, List.mem_cons_self, h⟩)
    · exact .inr (.inl h)
    · exact .inr (.inr ⟨q, List.mem_cons_of_mem _ hq, h⟩)
theorem Gd.join {ys : List Str} (h : ∀ y ∈ ys, Gd y) : Gd (Txt.join (Str.ofString "") ys) := fun c hc => by
  have hc2 : c ∈ ((ys.drop 1).foldl (fun acc p => acc ++ (Str.ofString "").cps ++ p.cps) (ys.headD Str.empty).cps).toList := hc
  rcases fold_mem _ _ hc2 with q | q | ⟨p, hp, q⟩
  · cases ys with
    | nil =>
      have e : (([] : List Str).headD Str.empty).cps.toList = [] := by decide +kernel
      rw [e] at q
      cases q
    | cons y ys => exact h y List.mem_cons_self c q
  · have e : (Str.ofString "").cps.toList = [] := by decide +kernel
    rw [e] at q
    cases q
  · exact h p (List.mem_of_mem_drop hp) c q
theorem join_len (ys : List Str) : (Txt.join (Str.ofString "") ys).length = (ys.map (·.length)).sum := by
  have e := size_glued (Str.ofString "") ys
  have e0 : (Str.ofString "").length = 0 := by decide +kernel
  rw [e0, Nat.mul_zero, Nat.add_zero] at e
  exact e
theorem cut_pre {z : Str} {k : Nat} (h : k ≤ z.length) : (cutS z none (some (k : Int))).cps.toList = z.cps.toList.take k := by
  unfold cutS
  rw [HT.sIx_none, HT.sIx_nat, List.drop_zero, Nat.sub_zero, Nat.min_eq_left h]
theorem cut_suf {z : Str} {k : Nat} (h : k ≤ z.length) : (cutS z (some (k : Int)) none).cps.toList = z.cps.toList.drop k := by
  unfold cutS
  rw [HT.sIx_none, HT.sIx_nat, Nat.min_eq_left h]
  show (z.cps.toList.drop k).take (z.length - k) = z.cps.toList.drop k
  refine List.take_of_length_le ?_
  rw [List.length_drop, str_len]
  exact Nat.le_refl _
theorem at_some {α : Type} {l : List α} {i : Int} (h0 : 0 ≤ i) (h1 : i < l.length) : ∃ c, atI l i = some c ∧ l[i.toNat]? = some c := by
  obtain ⟨n, rfl⟩ := Int.eq_ofNat_of_zero_le h0
  have hn : n < l.length := by omega
  exact ⟨l[n], atI_nat (List.getElem?_eq_getElem hn), List.getElem?_eq_getElem hn⟩
/-- a drawn name: the letter, a part, a sign, the rest -/
def nameOf (c : Nat) (z : Str) (k : Nat) (e : Nat) : Str := (((⟨#[c]⟩ : Str) ++ cutS z none (some (k : Int))) ++ (⟨#[e]⟩ : Str)) ++ cutS z (some (k : Int)) none
theorem nameOf_cps {c : Nat} {z : Str} {k e : Nat} (h : k ≤ z.length) : (nameOf c z k e).cps.toList = c :: (z.cps.toList.take k ++ e :: z.cps.toList.drop k) := by
  unfold nameOf
  rw [app_cps, app_cps, app_cps, cut_pre h, cut_suf h]
  simp
theorem nameOf_ok {c : Nat} {z : Str} {k e : Nat} (h : k ≤ z.length) (h10 : z.length ≤ 10) (hz : Gd z) (hc : c ∈ zLet.cps.toList) (he : e ∈ zGood.cps.toList) : isNm (nameOf c z k e) = true := by
  have q := nameOf_cps (c := c) (e := e) h
  have hl : (nameOf c z k e).length = z.length + 2 := by
    rw [str_len, q, List.length_cons, List.length_append, List.length_take, List.length_cons, List.length_drop, ← str_len]
    omega
  unfold isNm
  rw [q]
  simp only [Bool.and_eq_true, decide_eq_true_eq]
  refine ⟨⟨⟨by omega, by omega⟩, hc⟩, List.all_eq_true.mpr fun x hx => ?_⟩
  rcases List.mem_cons.mp hx with e1 | hx
  · subst e1
    unfold goodC
    rw [decide_eq_true hc]; rfl
  · rcases List.mem_append.mp hx with hx | hx
    · exact hz x (List.mem_of_mem_take hx)
    · rcases List.mem_cons.mp hx with e2 | hx
      · subst e2; exact good_all _ he
      · exact hz x (List.mem_of_mem_drop hx)
end W

set_option Elab.async false
set_option linter.all false
set_option maxRecDepth 100000
set_option maxHeartbeats 400000
namespace W
open PySem PySem.Spec PyProof.Rows L2 GxR MyG MyS
theorem heads_nodup (n : Int) {m : Nat} (hm : m ≤ 9) : ((List.range m).map fun (j : Nat) => zGood.cps.toList[((n + 3 * (j : Int)) % 26).toNat]?).Nodup := by
  refine List.pairwise_map.mpr (List.pairwise_iff_getElem.mpr fun a b ha hb hab e => ?_)
  rw [List.length_range] at ha hb
  rw [List.getElem_range, List.getElem_range] at e
  have h1 : ((n + 3 * (a : Int)) % 26).toNat < zGood.cps.toList.length := by rw [good_len]; omega
  have q := (List.getElem?_inj h1 good_nodup).mp e
  omega
def spLNames (P : Addr) : Sp := fun vs H Q _ => ∃ (n : Int) (m : Nat), vs = [.int n, .int m] ∧ 0 ≤ n ∧ m ≤ 9 ∧ TabG H P ∧ ∀ H' p (ns : List Str), Grew P H H' → H p = none → H' p = some (.lst (ns.map V.str)) → ns.length = m → ns.all isNm = true → ns.Nodup → Q (.ref p) H'
abbrev nLNames : List Str := ["number", "many", "letters", "size", "k", "rest", "place", "names", "own", "spot", "step", "first"]
def rInt1 : List V → Hp → VK → Prop := fun xs H Q => (∃ i, xs = [.int i] ∧ Q (.int i) H) ∨ ∃ k, xs = [.bl k] ∧ Q (.int (if k then 1 else 0)) H
/-- the first signs differ -/
def heads (ns : List Str) : List (Option Nat) := ns.map fun z => z.cps.toList.head?
section
variable {Pg : Program} {w : World} {K : PySem.W.Frag} {mg : Str → Option Value} {base : Heap} {C P : Addr}
theorem scLNames : FnScope nLNames ["number", "many"] (defScope sLNames) := ⟨rfl, rfl, rfl, by decide +kernel, rfl, by decide +kernel, by decide +kernel⟩
theorem ok_lnames {f : Addr} {fd : FuncData} (F : Fun K "_law_names" "_law_names" sLNames f fd) (hi : mg "int" = none) (hr' : mg "range" = none) (hl : mg "len" = none) (hm : mg "min" = none) : FnOk Pg w K mg base CX0 1 f fd ["number", "many"] (spLNames P) := by
  refine F.ok scLNames (fun vs H Q E h => ?_) (fun cdv A outer s H vs Q E hr h => ?_)
  · obtain ⟨n, m, rfl, _⟩ := h
    rfl
  · obtain ⟨n, m, rfl, hn, hm9, hP, k⟩ := h
    refine ⟨_, pss_cons (ps_set (i := 2) scLNames.nd rfl (Or.inr rfl) pe_str)
      (pss_cons (ps_set (i := 3) scLNames.nd rfl (Or.inl rfl) (pe_op op_mod (pe_callTy call_int1 (by rfl) hi (by decide +kernel) (pa_cons (pv 0) pa_nil)) pe_int))
      (pss_cons (ps_set (i := 5) scLNames.nd rfl (Or.inl rfl) (pe_join pe_str (pe_lc (own := [("k", 4)]) (g := gName 4) (tt := tYes) rfl scLNames.nd (pi_range1 rfl hr' (pa_cons (pv 3) pa_nil)) (blkOk_by (N := nLNames) (sc := defScope sLNames) (by decide +kernel)) (fun _ _ _ _ _ => pg_name (i := 4) scLNames.nd rfl (Or.inl rfl)) (fun _ _ _ _ _ => pts_nil)
          (fun _ _ _ _ _ => pe_ix (r := rIxS) ix_str (pv 2) (pe_op op_mod (pe_callTy (r := rInt1) call_int1 (by rfl) hi (by decide +kernel) (pa_cons (pe_op op_add (pv 0) (pe_op op_mul (pe_op op_mul pe_int (pv 4)) (pv 4))) pa_nil)) pe_int) (fun _ _ => rfl)))))
      (pss_cons (ps_set (i := 6) scLNames.nd rfl (Or.inl rfl) (pe_op op_mod (pe_callTy call_int1 (by rfl) hi (by decide +kernel) (pa_cons (pe_op op_fdiv (pv 0) pe_int) pa_nil)) (pe_op op_add (pv 3) pe_int)))
      (pss_cons (ps_set (i := 7) scLNames.nd rfl (Or.inl rfl) (pe_lst pa_nil))
      (pss_cons (ps_for PassesOwn.never rfl (pi_range1 rfl hr' (pa_cons (pv 1) pa_nil)) (pg_name (i := 4) scLNames.nd rfl (Or.inl rfl))
        (pss_cons (ps_set (i := 8) scLNames.nd rfl (Or.inl rfl) (pv 5))
        (C8.pss_cut (ps_if (pt_cmpR op_eq (pe_op op_mod (pe_callTy call_int1 (by rfl) hi (by decide +kernel) (pa_cons (pe_op op_add (pe_op op_fdiv (pv 0) pe_int) (pv 4)) pa_nil)) pe_int) pe_int (nomark _))
          (pss_one (ps_set (i := 8) scLNames.nd rfl (Or.inl rfl) (pe_slice sl_str (pv 5) (po_some pe_int) po_none))) pss_nil)
        (pss_cons (ps_set (i := 9) scLNames.nd rfl (Or.inl rfl) (pe_callB (call_min2 rfl) (by rfl) hm (by decide +kernel) (pa_cons (pv 6) (pa_cons (pe_callB call_len_str (by rfl) hl PySem.boot_len (pa_cons (pv 8) pa_nil)) pa_nil))))
        (pss_cons (ps_set (i := 10) scLNames.nd rfl (Or.inl rfl) pe_int)
        (C8.pss_cut (ps_if (pt_cmpR op_eq (pe_op op_mod (pe_callTy call_int1 (by rfl) hi (by decide +kernel) (pa_cons (pe_op op_fdiv (pv 0) pe_int) pa_nil)) pe_int) pe_int (nomark _))
          (pss_one (ps_set (i := 10) scLNames.nd rfl (Or.inl rfl) pe_int)) pss_nil)
        (pss_cons (ps_set (i := 11) scLNames.nd rfl (Or.inl rfl) (pe_op op_add_str (pe_ix ix_str (pv 2) (pe_op op_mod (pe_callTy call_int1 (by rfl) hi (by decide +kernel) (pa_cons (pe_op op_add (pv 0) (pe_op op_mul pe_int (pv 4))) pa_nil)) pe_int) (fun _ _ => rfl)) (pe_slice sl_str (pv 8) po_none (po_some (pv 9)))))
        (pss_one (ps_expr (pe_bm PySem.F.plainAttrs_list PySem.F.slot_list_append PySem.F.type_list_append mt_append (pv 7) (pa_cons
          (pe_op op_add_str (pe_op op_add_str (pv 11) (pe_ix ix_str (pv 2) (pe_op op_mod (pe_callTy call_int1 (by rfl) hi (by decide +kernel) (pa_cons (pe_op op_add (pv 0) (pe_op op_mul (pv 10) (pv 4))) pa_nil)) pe_int) (fun _ _ => rfl))) (pe_slice sl_str (pv 8) (po_some (pv 9)) po_none)) pa_nil)))))))))))
      (pss_one (ps_ret (pv 7)))))))), ?_⟩
    have sG : zGood.length ≤ sizeLine := by rw [str_len, good_len, sizeLine_eq]; decide
    refine ⟨_, rfl, .inl ⟨_, rfl, _, _, rfl, rfl, (show (0 : Int) < 11 by decide), ?_⟩⟩
    have hsz : 0 ≤ n % 11 ∧ n % 11 < 11 := by omega
    refine ⟨⟨_, rfl⟩, _, rfl, n % 11, rfl, by omega, by omega, fun D nD => lc_range (n := (n % 11).toNat) (fun i H1 => Grew P H H1 ∧ ∃ ys : List Str, H1 D = some (.lst (ys.map V.str)) ∧ ys.length = i ∧ ∀ y ∈ ys, Gd y ∧ y.length = 1)
      ⟨Grew.new hP nD, [], upd_same, rfl, fun y hy => by cases hy⟩ (fun i H1 hi p => ?_) (fun H1 p => ?_)⟩
    · obtain ⟨g, ys, hD, hl1, hy⟩ := p
      have hb : 0 ≤ (n + 7 * (0 + (i : Int)) * (0 + (i : Int))) % 36 ∧ (n + 7 * (0 + (i : Int)) * (0 + (i : Int))) % 36 < 36 := by omega
      obtain ⟨c, ec, ec2⟩ := at_some (l := zGood.cps.toList) hb.1 (by rw [good_len]; exact hb.2)
      refine ⟨rfl, _, rfl, _, rfl, _, rfl, _, _, rfl, rfl, .inl ⟨by decide, by decide⟩, _, rfl, _, _, rfl, rfl, .inr ⟨by omega, by omega⟩, _, _, rfl, rfl, .inl ⟨_, rfl, _, _, rfl, rfl, (show (0 : Int) < 36 by decide), _, _, c, rfl, rfl, sG, ec, _, hD, ?_, g.write hD (fun _ z => by cases z) nD, ys ++ [⟨#[c]⟩], ?_, ?_, ?_⟩⟩
      · rw [List.length_map, hl1, sizeLine_eq]; omega
      · rw [upd_same, List.map_append]; rfl
      · rw [List.length_append, hl1]; rfl
      · intro y hy2
        rcases List.mem_append.mp hy2 with hy2 | hy2
        · exact hy y hy2
        · rw [List.mem_singleton.mp hy2]
          exact ⟨Gd.one (List.mem_of_getElem? ec2), rfl⟩
    · obtain ⟨g, ys, hD, hl1, hy⟩ := p
      have hsum : ∀ ys : List Str, (∀ y ∈ ys, y.length = 1) → (ys.map (·.length)).sum = ys.length := by
        intro ys
        induction ys with
        | nil => intro _; rfl
        | cons y ys ih =>
          intro h
          rw [List.map_cons, List.sum_cons, ih fun z hz => h z (List.mem_cons_of_mem _ hz), h y List.mem_cons_self, List.length_cons]
          omega
      have hs1 := hsum ys fun y h => (hy y h).2
      have e0 : (Str.ofString "").length = 0 := by decide +kernel
      refine ⟨_, D, ys, rfl, rfl, .inl (SqL.of hD), by rw [hs1, e0]; omega, ?_⟩
      have hjl := join_len ys
      have hjg := Gd.join fun y h => (hy y h).1
      rw [hs1] at hjl
      generalize Txt.join (Str.ofString "") ys = rest at hjl hjg ⊢
      have hr10 : rest.length ≤ 10 := by omega
      refine ⟨_, rfl, _, _, rfl, rfl, ⟨by decide, by decide⟩, .inl ⟨_, rfl, _, rfl, _, _, rfl, rfl, _, _, rfl, rfl, (show (0 : Int) < n % 11 + 1 by omega), ?_⟩⟩
      have hpl : 0 ≤ n / 11 % (n % 11 + 1) := Int.emod_nonneg _ (by omega)
      refine ⟨Nat.zero_le _, fun p np => ?_⟩
      refine ⟨_, rfl, m, rfl, by omega, by omega, for_range (n := m) (fun i σ H' => ∃ kv ov sv tv fv, ∃ ns : List Str, σ = [some (.int n), some (.int m), some (.str zGood), some (.int (n % 11)), kv, some (.str rest), some (.int (n / 11 % (n % 11 + 1))), some (.ref p), ov, sv, tv, fv] ∧ Grew P H H' ∧ H' p = some (.lst (ns.map V.str)) ∧ ns.length = i ∧ ns.all isNm = true ∧
          heads ns = (List.range i).map fun (j : Nat) => zGood.cps.toList[((n + 3 * (j : Int)) % 26).toNat]?)
        ⟨none, none, none, none, none, [], rfl, g.put np, upd_same, rfl, rfl, rfl⟩ ?_ ?_⟩
      · rintro i σ H' hi ⟨kv, ov, sv, tv, fv, ns, rfl, g1, hp, hln, hall, hheads⟩
        refine ⟨_, rfl, ?_⟩
        -- own
        refine ⟨fun σ2 H2 => ∃ own : Str, σ2 = [some (.int n), some (.int m), some (.str zGood), some (.int (n % 11)), some (.int (0 + (i : Int))), some (.str rest), some (.int (n / 11 % (n % 11 + 1))), some (.ref p), some (.str own), sv, tv, fv] ∧ own.length ≤ 10 ∧ Gd own ∧ H2 = H', ?_, ?_⟩
        · refine ⟨_, rfl, _, _, rfl, rfl, ⟨by decide, by decide⟩, _, rfl, _, _, rfl, rfl, .inl ⟨_, rfl, _, _, rfl, rfl, (show (0 : Int) < 3 by decide), rfl, _, rfl, ?_⟩⟩
          refine ite2 (fun _ => ?_) (fun _ => ?_)
          · have hc : (cutS rest (some 1) none).length ≤ 10 := by
              rw [str_len]
              have q : (cutS rest (some 1) none).cps.toList.length ≤ rest.cps.toList.length := by
                unfold cutS
                show ((rest.cps.toList.drop _).take _).toArray.toList.length ≤ _
                rw [List.toList_toArray, List.length_take, List.length_drop]
                omega
              rw [← str_len rest] at q
              omega
            exact ⟨_, rfl, 1, rfl, rest, rfl, by rw [sizeLine_eq]; omega, _, rfl, hc, hjg.cut _ _, rfl⟩
          · exact ⟨rest, rfl, hr10, hjg, rfl⟩
        rintro σ2 H2 ⟨own, rfl, ho10, hog, rfl⟩
        -- spot
        refine ⟨_, rfl, _, rfl, own, rfl, by rw [sizeLine_eq]; omega, _, _, rfl, ?_⟩
        obtain ⟨sp, hsp, hsp2⟩ : ∃ sp : Nat, (if ((own.length : Nat) : Int) < n / 11 % (n % 11 + 1) then ((own.length : Nat) : Int) else n / 11 % (n % 11 + 1)) = (sp : Int) ∧ sp ≤ own.length := by
          by_cases c : ((own.length : Nat) : Int) < n / 11 % (n % 11 + 1)
          · exact ⟨own.length, if_pos c, Nat.le_refl _⟩
          · refine ⟨(n / 11 % (n % 11 + 1)).toNat, ?_, by omega⟩
            rw [if_neg c]
            omega
        rw [hsp]
        -- step
        refine ⟨fun σ2 H3 => ∃ st : Int, σ2 = [some (.int n), some (.int m), some (.str zGood), some (.int (n % 11)), some (.int (0 + (i : Int))), some (.str rest), some (.int (n / 11 % (n % 11 + 1))), some (.ref p), some (.str own), some (.int sp), some (.int st), fv] ∧ 0 ≤ st ∧ st ≤ 31 ∧ H3 = H2, ?_, ?_⟩
        · refine ⟨_, rfl, _, _, rfl, rfl, ⟨by decide, by decide⟩, .inl ⟨_, rfl, _, _, rfl, rfl, (show (0 : Int) < 2 by decide), rfl, _, rfl, ?_⟩⟩
          refine ite2 (fun _ => ?_) (fun _ => ?_)
          · exact ⟨31, rfl, by decide, by decide, rfl⟩
          · exact ⟨5, rfl, by decide, by decide, rfl⟩
        rintro σ2 H3 ⟨st, rfl, hst1, hst2, rfl⟩
        have b1 : 0 ≤ (n + 3 * (0 + (i : Int))) % 26 ∧ (n + 3 * (0 + (i : Int))) % 26 < 26 := by omega
        have b2 : 0 ≤ (n + st * (0 + (i : Int))) % 36 ∧ (n + st * (0 + (i : Int))) % 36 < 36 := by omega
        obtain ⟨c, ec, ec'⟩ := at_some (l := zGood.cps.toList) b1.1 (by rw [good_len]; omega)
        obtain ⟨e, ee, ee'⟩ := at_some (l := zGood.cps.toList) b2.1 (by rw [good_len]; exact b2.2)
        have l1 : (cutS own none (some (sp : Int))).length = sp := by
          rw [str_len, cut_pre hsp2, List.length_take, ← str_len]; omega
        have l2 : (cutS own (some (sp : Int)) none).length = own.length - sp := by
          rw [str_len, cut_suf hsp2, List.length_drop, ← str_len]
        have lo : ∀ c : Nat, (⟨#[c]⟩ : Str).length = 1 := fun _ => rfl
        have s1 : ((⟨#[c]⟩ : Str) ++ cutS own none (some (sp : Int))).length = 1 + sp := by rw [PySem.Str.length_append, l1, lo]
        have s2 : ((⟨#[c]⟩ : Str) ++ cutS own none (some (sp : Int)) ++ (⟨#[e]⟩ : Str)).length = 1 + sp + 1 := by rw [PySem.Str.length_append, s1, lo]
        refine ⟨_, rfl, _, rfl, _, rfl, _, _, rfl, rfl, .inl ⟨by decide, by decide⟩, _, _, rfl, rfl, .inl ⟨_, rfl, _, _, rfl, rfl, (show (0 : Int) < 26 by decide), _, _, c, rfl, rfl, sG, ec, _, rfl, _, rfl, _, rfl, own, rfl, by rw [sizeLine_eq]; omega, _, _, rfl, rfl, by rw [l1, lo, sizeLine_eq]; omega, ?_⟩⟩
        refine ⟨_, rfl, .inl ⟨rfl, _, SqL.of hp⟩, _, rfl, _, rfl, _, rfl, _, rfl, _, rfl, _, _, rfl, rfl, .inl ⟨by omega, by omega⟩, _, _, rfl, rfl, .inl ⟨_, rfl, _, _, rfl, rfl, (show (0 : Int) < 36 by decide), _, _, e, rfl, rfl, sG, ee, _, _, rfl, rfl, by rw [s1, lo, sizeLine_eq]; omega,
          _, rfl, _, rfl, _, rfl, own, rfl, by rw [sizeLine_eq]; omega, _, _, rfl, rfl, by rw [s2, l2, sizeLine_eq]; omega, p, _, _, rfl, rfl, hp, by rw [List.length_map, hln, sizeLine_eq]; omega, ?_⟩⟩
        have hok : isNm (nameOf c own sp e) = true := nameOf_ok hsp2 ho10 hog (good_let c ?_) (List.mem_of_getElem? ee')
        · refine ⟨_, _, _, _, _, ns ++ [nameOf c own sp e], rfl, g1.write hp (fun _ z => by cases z) (g.free np), ?_, ?_, ?_, ?_⟩
          · rw [upd_same, List.map_append]; rfl
          · rw [List.length_append, hln]; rfl
          · rw [List.all_append, hall, List.all_cons, hok]; rfl
          · unfold heads at hheads ⊢
            rw [List.map_append, hheads, List.range_succ, List.map_append]
            congr 1
            show [(nameOf c own sp e).cps.toList.head?] = [_]
            rw [nameOf_cps hsp2]
            have ez : (0 : Int) + (i : Int) = (i : Int) := by omega
            rw [ez] at ec'
            exact congrArg (fun z => [z]) ec'.symm
        · exact List.mem_of_getElem? (i := ((n + 3 * (0 + (i : Int))) % 26).toNat) (by rw [List.getElem?_take_of_lt (by omega)]; exact ec')
      · rintro σ H' ⟨kv, ov, sv, tv, fv, ns, rfl, g1, hp, hln, hall, hheads⟩
        refine ⟨_, rfl, k H' p ns g1 (g.free np) hp hln hall ?_⟩
        have nd : (heads ns).Nodup := by
          rw [hheads]
          exact heads_nodup n hm9
        exact List.Pairwise.of_map _ (fun a b hne e => hne (congrArg (fun z : Str => z.cps.toList.head?) e)) nd
end
end W

set_option Elab.async false
set_option linter.all false
set_option maxRecDepth 100000
set_option maxHeartbeats 400000
namespace W
open PySem PySem.Spec PyProof.Rows L2 GxR MyG MyS
theorem at_num {ns : List Int} (hs : Sm ns) {i : Int} (h0 : 0 ≤ i) (h1 : i < ns.length) : ∃ n, atI (ns.map V.int) i = some (.int n) ∧ 0 ≤ n ∧ n < 1009 := by
  obtain ⟨k, rfl⟩ := Int.eq_ofNat_of_zero_le h0
  have hn : k < ns.length := by omega
  refine ⟨ns[k], atI_nat (by rw [List.getElem?_map, List.getElem?_eq_getElem hn]; rfl), hs _ (List.getElem_mem hn)⟩
def lastP (c : Int) (ps : List (Int × Int)) : Int := (ps.getLast?.map (·.2)).getD c
theorem hoursOk_snoc {d : Int} {q : Int × Int} : ∀ {ps : List (Int × Int)} {c : Int}, hoursOk d c ps → lastP c ps < q.1 → q.1 < q.2 → q.2 ≤ d → hoursOk d c (ps ++ [q])
  | [], _, _, h1, h2, h3 => ⟨h1, h2, h3, True.intro⟩
  | p :: ps, c, h, h1, h2, h3 => by
    refine ⟨h.1, h.2.1, h.2.2.1, hoursOk_snoc h.2.2.2 ?_ h2 h3⟩
    have e : lastP c (p :: ps) = lastP p.2 ps := by
      unfold lastP
      cases ps with
      | nil => rfl
      | cons a l =>
        rw [List.getLast?_cons_cons]
        cases h : (a :: l).getLast? with
        | none => simp at h
        | some z => rfl
    rw [← e]; exact h1
theorem lastP_snoc (c : Int) (ps : List (Int × Int)) (q : Int × Int) : lastP c (ps ++ [q]) = q.2 := by
  unfold lastP
  rw [List.getLast?_concat]
  rfl
def spLHours (K : PySem.W.Frag) (P : Addr) : Sp := fun vs H Q _ => ∃ (a : Addr) (ns : List Int) (at_ d : Int), vs = [.ref a, .int at_, .int d] ∧ SqL K H a (ns.map V.int) ∧ Sm ns ∧ 0 ≤ at_ ∧ at_ + 4 ≤ ns.length ∧ 1 ≤ d ∧ TabG H P ∧ ∀ H' hs v, Grew P H H' → GHours K H' hs v → HoursOk d hs → Q v H'
section
variable {Pg : Program} {w : World} {K : PySem.W.Frag} {mg : Str → Option Value} {base : Heap} {C P : Addr}
abbrev nLHours : List Str := ["numbers", "at", "day", "hours", "last", "k", "opened", "closed"]
theorem scLHours : FnScope nLHours ["numbers", "at", "day"] (defScope sLHours) := ⟨rfl, rfl, rfl, by decide +kernel, rfl, by decide +kernel, by decide +kernel⟩
theorem ok_lhours {f : Addr} {fd : FuncData} (F : Fun K "_law_hours" "_law_hours" sLHours f fd) (hi : mg "int" = none) (ht : mg "tuple" = none) (hr' : mg "range" = none) : FnOk Pg w K mg base CX0 1 f fd ["numbers", "at", "day"] (spLHours K P) := by
  refine F.ok scLHours (fun vs H Q E h => ?_) (fun cdv A outer s H vs Q E hr h => ?_)
  · obtain ⟨a, ns, at_, d, rfl, _⟩ := h
    rfl
  · obtain ⟨a, ns, at_, d, rfl, hS, hsm, ha0, ha1, hd, hP, k⟩ := h
    refine ⟨_, pss_cons (ps_if (pt_cmpR op_eq (pe_op op_mod (pe_callTy call_int1 (by rfl) hi (by decide +kernel) (pa_cons (pe_ix ix_list (pv 0) (pv 1) (fun _ _ => rfl)) pa_nil)) pe_int) pe_int (nomark _)) (pss_one (ps_ret pe_non)) pss_nil)
      (pss_cons (ps_set (i := 3) scLHours.nd rfl (Or.inl rfl) (pe_lst pa_nil))
      (pss_cons (ps_set (i := 4) scLHours.nd rfl (Or.inl rfl) (pe_un un_neg pe_int))
      (pss_cons (ps_for PassesOwn.never rfl (pi_range1 rfl hr' (pa_cons (pe_op op_mod (pe_callTy call_int1 (by rfl) hi (by decide +kernel) (pa_cons (pe_ix ix_list (pv 0) (pv 1) (fun _ _ => rfl)) pa_nil)) pe_int) pa_nil)) (pg_name (i := 5) scLHours.nd rfl (Or.inl rfl))
        (pss_cons (ps_set (i := 6) scLHours.nd rfl (Or.inl rfl) (pe_op op_add (pe_op op_add (pv 4) pe_int) (pe_op op_mod (pe_callTy call_int1 (by rfl) hi (by decide +kernel) (pa_cons (pe_ix ix_list (pv 0) (pe_op op_add (pe_op op_add (pv 1) pe_int) (pv 5)) (fun _ _ => rfl)) pa_nil)) pe_int)))
        (pss_cons (ps_set (i := 7) scLHours.nd rfl (Or.inl rfl) (pe_op op_add (pe_op op_add (pv 6) pe_int) (pe_op op_mod (pe_callTy call_int1 (by rfl) hi (by decide +kernel) (pa_cons (pe_op op_fdiv (pe_ix ix_list (pv 0) (pe_op op_add (pe_op op_add (pv 1) pe_int) (pv 5)) (fun _ _ => rfl)) pe_int) pa_nil)) pe_int)))
        (pss_one (ps_if (pt_cmpR op_le (pv 7) (pv 2) (nomark _))
          (pss_cons (ps_expr (pe_bm PySem.F.plainAttrs_list PySem.F.slot_list_append PySem.F.type_list_append mt_append (pv 3) (pa_cons (pe_tup (pa_cons (pv 6) (pa_cons (pv 7) pa_nil))) pa_nil)))
          (pss_one (ps_set (i := 4) scLHours.nd rfl (Or.inl rfl) (pv 7)))) pss_nil)))))
      (pss_one (ps_ret (pe_callTy call_tuple_of (by rfl) ht (by decide +kernel) (pa_cons (pv 3) pa_nil))))))), ?_⟩
    obtain ⟨n0, e0, l0, u0⟩ := at_num hsm (i := at_) ha0 (by omega)
    refine ⟨_, rfl, _, rfl, a, _, _, _, rfl, rfl, hS, e0, .inl ⟨_, rfl, _, _, rfl, rfl, (show (0 : Int) < 3 by decide), rfl, _, rfl, ?_⟩⟩
    refine ite2 (fun _ => k H none .non (Grew.refl hP) rfl True.intro) (fun _ => ?_)
    refine ⟨Nat.zero_le _, fun p np => ⟨1, rfl, ?_⟩⟩
    have g1 := Grew.new hP (o := .lst []) np
    refine ⟨_, rfl, _, rfl, a, _, _, _, rfl, rfl, g1.sqL hP hS, e0, .inl ⟨_, rfl, _, _, rfl, rfl, (show (0 : Int) < 4 by decide), n0 % 4, rfl, by omega, by omega,
      for_range (n := (n0 % 4).toNat) (fun i σ H' => ∃ kv ov cv, ∃ (ps : List (Int × Int)) (xs : List V), σ = [some (.ref a), some (.int at_), some (.int d), some (.ref p), some (.int (lastP (-1) ps)), kv, ov, cv] ∧ Grew P H H' ∧ H' p = some (.lst xs) ∧ Paired (GPair K H') ps xs ∧ ps.length ≤ i ∧ hoursOk d (-1) ps)
        ⟨none, none, none, [], [], rfl, g1, upd_same, .nil, Nat.le_refl _, True.intro⟩ ?_ ?_⟩⟩
    · rintro i σ H' hi ⟨kv, ov, cv, ps, xs, rfl, g, hp, hps, hln, hok⟩
      have hi3 : i < 3 := by omega
      obtain ⟨n2, e2, l2, u2⟩ := at_num hsm (i := at_ + 1 + (0 + (i : Int))) (by omega) (by omega)
      have hS2 := g.sqL hP hS
      refine ⟨_, rfl, _, _, rfl, rfl, _, rfl, _, rfl, _, _, rfl, rfl, _, rfl, _, _, rfl, rfl, a, _, _, _, rfl, rfl, hS2, e2, .inl ⟨_, rfl, _, _, rfl, rfl, (show (0 : Int) < 4 by decide), _, _, rfl, rfl, ?_⟩⟩
      refine ⟨_, rfl, _, _, rfl, rfl, _, rfl, _, rfl, _, _, rfl, rfl, _, rfl, _, _, rfl, rfl, a, _, _, _, rfl, rfl, hS2, e2, _, _, rfl, rfl, ⟨by decide, by decide⟩, .inl ⟨_, rfl, _, _, rfl, rfl, (show (0 : Int) < 6 by decide), _, _, rfl, rfl, ?_⟩⟩
      have r1 : 0 ≤ n2 % 4 := Int.emod_nonneg _ (by omega)
      have r2 : 0 ≤ n2 / 4 % 6 := Int.emod_nonneg _ (by omega)
      refine ⟨_, rfl, _, rfl, _, _, rfl, rfl, _, rfl, ?_⟩
      refine ite2 (fun hle => ?_) (fun _ => ⟨_, _, _, ps, xs, rfl, g, hp, hps, by omega, hok⟩)
      have hle' := of_decide_eq_true hle
      refine ⟨_, rfl, .inl ⟨rfl, _, SqL.of hp⟩, _, rfl, _, rfl, by show 2 ≤ sizeLine; decide, fun q hq => ?_⟩
      have gq := g.put (o := .tup [.int (lastP (-1) ps + 1 + n2 % 4), .int (lastP (-1) ps + 1 + n2 % 4 + 1 + n2 / 4 % 6)]) hq
      have hpq := (Grew.new g.tab (o := .tup [.int (lastP (-1) ps + 1 + n2 % 4), .int (lastP (-1) ps + 1 + n2 % 4 + 1 + n2 / 4 % 6)]) hq).lst g.tab hp
      have lx := Paired.len hps
      have kt := KeepT.trans (KeepT.new (K := K) (o := .tup [.int (lastP (-1) ps + 1 + n2 % 4), .int (lastP (-1) ps + 1 + n2 % 4 + 1 + n2 / 4 % 6)]) hq) (KeepT.lst (o := .lst (xs ++ [.ref q])) hpq)
      refine ⟨p, _, _, rfl, rfl, hpq, by rw [sizeLine_eq]; omega, _, rfl, some (.int (0 + (i : Int))), some (.int (lastP (-1) ps + 1 + n2 % 4)), some (.int (lastP (-1) ps + 1 + n2 % 4 + 1 + n2 / 4 % 6)), ps ++ [(lastP (-1) ps + 1 + n2 % 4, lastP (-1) ps + 1 + n2 % 4 + 1 + n2 / 4 % 6)], xs ++ [.ref q], ?_, gq.write hpq (fun _ z => by cases z) np, upd_same, ?_, ?_, ?_⟩
      · rw [lastP_snoc]; rfl
      · refine Paired.snoc (Paired.map' hps fun _ _ m => m.keep kt) ⟨q, rfl, ?_⟩
        exact (KeepT.lst (K := K) (o := .lst (xs ++ [.ref q])) hpq) _ _ (SqT.of upd_same)
      · rw [List.length_append, List.length_singleton]; omega
      · exact hoursOk_snoc hok (by show lastP (-1) ps < lastP (-1) ps + 1 + n2 % 4; omega) (by show lastP (-1) ps + 1 + n2 % 4 < lastP (-1) ps + 1 + n2 % 4 + 1 + n2 / 4 % 6; omega) hle'
    · rintro σ H' ⟨kv, ov, cv, ps, xs, rfl, g, hp, hps, hln, hok⟩
      refine ⟨_, rfl, p, _, rfl, .inl ⟨SqL.of hp, fun q nq => ?_⟩⟩
      exact k _ (some ps) _ (g.put nq) ⟨q, xs, rfl, SqT.of upd_same, Paired.map' hps fun _ _ m => m.keep (KeepT.new nq)⟩ ⟨by omega, hok⟩
end
end W

set_option Elab.async false
set_option linter.all false
set_option maxRecDepth 100000
set_option maxHeartbeats 1000000
namespace W
open PySem PySem.Spec PyProof.Rows L2 GxR MyG MyS
/-! ### _law_road (parts of tuples) -/
theorem at_str {ns : List Str} {i : Int} (h0 : 0 ≤ i) (h1 : i < ns.length) : ∃ z, atI (ns.map V.str) i = some (.str z) ∧ ns[i.toNat]? = some z ∧ z ∈ ns := by
  obtain ⟨k, rfl⟩ := Int.eq_ofNat_of_zero_le h0
  have hn : k < ns.length := by omega
  exact ⟨ns[k], atI_nat (by rw [List.getElem?_map, List.getElem?_eq_getElem hn]; rfl), by rw [Int.toNat_natCast]; exact List.getElem?_eq_getElem hn, List.getElem_mem hn⟩
def spLRoadG (K : PySem.W.Frag) (P : Addr) : Sp := fun vs H Q _ => ∃ (a ki pl : Addr) (ns : List Int) (at_ d : Int) (z : Str) (ks ps : List Str), vs = [.ref a, .int at_, .str z, .int d, .ref ki, .ref pl] ∧ SqL K H a (ns.map V.int) ∧ Sm ns ∧ 0 ≤ at_ ∧ at_ + 9 ≤ ns.length ∧ 1 ≤ d ∧ H ki = some (.tup (ks.map V.str)) ∧ H pl = some (.tup (ps.map V.str)) ∧ 1 ≤ ps.length ∧ ks.length ≤ 4 ∧ ks.Nodup ∧ TabG H P ∧
  ∀ H' r t, Grew P H H' → H t = none → RoadAt K H' r (.ref t) → r.name = z → RoadOk d ps ks r → Q (.ref t) H'
theorem of9 (j : Int) (h0 : 0 ≤ j) (h3 : j < 3) : ∃ c : Int, atI [V.int 9, V.int 9, V.int 40] j = some (.int c) ∧ 0 < c ∧ c ≤ 40 := by
  have : j = 0 ∨ j = 1 ∨ j = 2 := by omega
  rcases this with rfl | rfl | rfl <;> exact ⟨_, rfl, by decide, by decide⟩
section
variable {Pg : Program} {w : World} {K : PySem.W.Frag} {mg : Str → Option Value} {base : Heap} {C P : Addr}
abbrev nRoadG : List Str := ["numbers", "at", "name", "day", "kinds", "places", "start", "end", "minutes", "used", "k"]
theorem scRoadG : FnScope nRoadG ["numbers", "at", "name", "day", "kinds", "places"] (defScope sLRoadG) := ⟨rfl, rfl, rfl, by decide +kernel, rfl, by decide +kernel, by decide +kernel⟩
theorem ok_lroadG {f fH : Addr} {fd fdH : FuncData} (F : Fun K "_law_road" "_law_road" sLRoadG f fd) (hi : mg "int" = none) (hl : mg "len" = none) (ht : mg "tuple" = none) (hr' : mg "range" = none)
    (GH : FnOk Pg w K mg base CX0 1 fH fdH ["numbers", "at", "day"] (spLHours K P)) (gH : mg "_law_hours" = some (.ref fH)) (kH : PySem.W.keepIn K (.ref fH) = true) (bH : Binds K fdH ["numbers", "at", "day"] []) :
    FnOk Pg w K mg base CX0 2 f fd ["numbers", "at", "name", "day", "kinds", "places"] (spLRoadG K P) := by
  refine F.ok scRoadG (fun vs H Q E h => ?_) (fun cdv A outer s H vs Q E hr h => ?_)
  · obtain ⟨a, ki, pl, ns, at_, d, z, ks, ps, rfl, _⟩ := h
    rfl
  · obtain ⟨a, ki, pl, ns, at_, d, z, ks, ps, rfl, hS, hsm, ha0, ha1, hd, hki, hpl, lp, lk, ndk, hP, k⟩ := h
    refine ⟨_, pss_cons (ps_set (i := 6) scRoadG.nd rfl (Or.inl rfl) (pe_ix ix_tup (pv 5) (pe_op op_mod (pe_callTy call_int1 (by rfl) hi (by decide +kernel) (pa_cons (pe_ix ix_list (pv 0) (pv 1) (fun _ _ => rfl)) pa_nil)) (pe_callB call_len_seq (by rfl) hl PySem.boot_len (pa_cons (pv 5) pa_nil))) (fun _ _ => rfl)))
      (pss_cons (ps_set (i := 7) scRoadG.nd rfl (Or.inl rfl) (pe_ix ix_tup (pv 5) (pe_op op_mod (pe_callTy call_int1 (by rfl) hi (by decide +kernel) (pa_cons (pe_ix ix_list (pv 0) (pe_op op_add (pv 1) pe_int) (fun _ _ => rfl)) pa_nil)) (pe_callB call_len_seq (by rfl) hl PySem.boot_len (pa_cons (pv 5) pa_nil))) (fun _ _ => rfl)))
      (pss_cons (ps_set (i := 8) scRoadG.nd rfl (Or.inl rfl) (pe_op op_add pe_int (pe_op op_mod (pe_callTy call_int1 (by rfl) hi (by decide +kernel) (pa_cons (pe_ix ix_list (pv 0) (pe_op op_add (pv 1) pe_int) (fun _ _ => rfl)) pa_nil)) (pe_ix ix_tup (pe_tup (pa_cons pe_int (pa_cons pe_int (pa_cons pe_int pa_nil)))) (pe_op op_mod (pe_callTy call_int1 (by rfl) hi (by decide +kernel) (pa_cons (pe_ix ix_list (pv 0) (pe_op op_add (pv 1) pe_int) (fun _ _ => rfl)) pa_nil)) pe_int) (fun _ _ => rfl)))))
      (C8.pss_cut (ps_set (i := 9) scRoadG.nd rfl (Or.inl rfl) (pe_callTy call_tuple_of (by rfl) ht (by decide +kernel) (pa_cons (pe_lc (own := [("k", 10)]) (g := gName 10) rfl scRoadG.nd (pi_range1 rfl hr' (pa_cons (pe_callB call_len_seq (by rfl) hl PySem.boot_len (pa_cons (pv 4) pa_nil)) pa_nil)) (blkOk_by (N := nRoadG) (sc := defScope sLRoadG) (by decide +kernel)) (fun _ _ _ _ _ => pg_name (i := 10) scRoadG.nd rfl (Or.inl rfl))
          (fun _ _ _ _ _ => pts_one (pt_cmpR op_gt (pe_op op_mod (pe_callTy (r := rInt1) call_int1 (by rfl) hi (by decide +kernel) (pa_cons (pe_op op_add (pe_ix (r := rIxL K) ix_list (pv 0) (pe_op op_add (pv 1) pe_int) (fun _ _ => rfl)) (pv 10)) pa_nil)) pe_int) pe_int (nomark _))) (fun _ _ _ _ _ => pe_ix (r := rIxT K) ix_tup (pv 4) (pv 10) (fun _ _ => rfl))) pa_nil)))
      (pss_one (ps_ret (pe_tup (pa_cons (pv 2) (pa_cons (pv 6) (pa_cons (pv 7) (pa_cons (pv 8) (pa_cons (pv 9) (pa_cons (pe_call GH hr (by rfl) gH kH bH .nil pass0 (pa_cons (pv 0) (pa_cons (pe_op op_add (pv 1) pe_int) (pa_cons (pv 3) pa_nil)))) pa_nil)))))))))))), ?_⟩
    obtain ⟨n0, e0, l0, u0⟩ := at_num hsm (i := at_) ha0 (by omega)
    obtain ⟨n1, e1, l1, u1⟩ := at_num hsm (i := at_ + 1) (by omega) (by omega)
    obtain ⟨n2, e2, l2, u2⟩ := at_num hsm (i := at_ + 2) (by omega) (by omega)
    obtain ⟨n3, e3, l3, u3⟩ := at_num hsm (i := at_ + 3) (by omega) (by omega)
    obtain ⟨n4, e4, l4, u4⟩ := at_num hsm (i := at_ + 4) (by omega) (by omega)
    have cp : (0 : Int) < (((ps.map V.str).length : Nat) : Int) := by rw [List.length_map]; omega
    obtain ⟨s0, es, _, hs'⟩ := at_str (ns := ps) (i := n0 % ((ps.map V.str).length : Nat)) (Int.emod_nonneg _ (by omega)) (by have := Int.emod_lt_of_pos n0 cp; rw [List.length_map] at *; exact this)
    obtain ⟨s1, et, _, hg⟩ := at_str (ns := ps) (i := n1 % ((ps.map V.str).length : Nat)) (Int.emod_nonneg _ (by omega)) (by have := Int.emod_lt_of_pos n1 cp; rw [List.length_map] at *; exact this)
    obtain ⟨c, ec, hc0, hc40⟩ := of9 (n3 % 3) (Int.emod_nonneg _ (by decide)) (Int.emod_lt_of_pos _ (by decide))
    -- start, end
    refine ⟨_, rfl, _, rfl, _, rfl, a, _, _, _, rfl, rfl, hS, e0, .inl ⟨_, rfl, _, rfl, pl, _, rfl, .inr (SqT.of hpl), _, _, rfl, rfl, cp, pl, _, _, _, rfl, rfl, SqT.of hpl, es, ?_⟩⟩
    refine ⟨_, rfl, _, rfl, _, rfl, _, _, rfl, rfl, a, _, _, _, rfl, rfl, hS, e1, .inl ⟨_, rfl, _, rfl, pl, _, rfl, .inr (SqT.of hpl), _, _, rfl, rfl, cp, pl, _, _, _, rfl, rfl, SqT.of hpl, et, ?_⟩⟩
    -- minutes
    refine ⟨_, rfl, _, rfl, _, _, rfl, rfl, a, _, _, _, rfl, rfl, hS, e2, .inl ⟨_, rfl, by show 3 ≤ sizeLine; decide, fun T3 nT3 => ?_⟩⟩
    have g3 := Grew.new hP (o := .tup [V.int 9, V.int 9, V.int 40]) nT3
    have hT3 : (L2.upd H T3 (.tup [V.int 9, V.int 9, V.int 40])) T3 = some (.tup [V.int 9, V.int 9, V.int 40]) := upd_same
    generalize L2.upd H T3 (.tup [V.int 9, V.int 9, V.int 40]) = H1 at g3 hT3
    refine ⟨_, rfl, _, rfl, _, _, rfl, rfl, a, _, _, _, rfl, rfl, g3.sqL hP hS, e3, .inl ⟨_, rfl, _, _, rfl, rfl, (show (0 : Int) < 3 by decide), T3, _, _, _, rfl, rfl, SqT.of hT3, ec, _, _, rfl, rfl, hc0, _, _, rfl, rfl, ?_⟩⟩
    have b0 : 0 ≤ n2 % c := Int.emod_nonneg _ (by omega)
    have b1 : n2 % c < c := Int.emod_lt_of_pos _ hc0
    have hki1 := g3.tup hP hki
    have hS1 := g3.sqL hP hS
    -- used
    refine ⟨fun σ H' => ∃ (u : Addr) (us : List Str), σ = [some (.ref a), some (.int at_), some (.str z), some (.int d), some (.ref ki), some (.ref pl), some (.str s0), some (.str s1), some (.int (1 + n2 % c)), some (.ref u), none] ∧ Grew P H1 H' ∧ H' u = some (.tup (us.map V.str)) ∧ us.Sublist ks, ?_, ?_⟩
    · refine ⟨_, rfl, ki, _, rfl, .inr (SqT.of hki1), _, rfl, by rw [List.length_map]; omega, by rw [List.length_map]; omega, fun D nD => lc_range (n := (((ks.map V.str).length : Nat) : Int).toNat) (fun i H' => Grew P H1 H' ∧ ∃ us : List Str, H' D = some (.lst (us.map V.str)) ∧ us.Sublist (ks.take i))
        ⟨Grew.new g3.tab nD, [], upd_same, List.nil_sublist _⟩ (fun i H2 hi p => ?_) (fun H2 p => ?_)⟩
      · obtain ⟨g, us, hD, hsub⟩ := p
        have hi2 : i < ks.length := by rw [List.length_map] at hi; omega
        have lu : us.length ≤ 4 := Nat.le_trans hsub.length_le (by rw [List.length_take]; omega)
        have tk : ks.take (i + 1) = ks.take i ++ [ks[i]] := by rw [List.take_succ, List.getElem?_eq_getElem hi2]; rfl
        have ek : atI (ks.map V.str) (0 + (i : Int)) = some (.str ks[i]) := by
          rw [Int.zero_add]
          exact atI_nat (by rw [List.getElem?_map, List.getElem?_eq_getElem hi2]; rfl)
        refine ⟨rfl, _, rfl, _, rfl, _, _, rfl, rfl, a, _, _, _, rfl, rfl, g.sqL g3.tab hS1, e4, _, rfl, _, _, rfl, rfl, .inl ⟨_, rfl, _, _, rfl, rfl, (show (0 : Int) < 4 by decide), _, _, rfl, rfl, _, rfl, ?_⟩⟩
        refine ite2 (fun _ => ?_) (fun _ => ⟨g, us, hD, hsub.trans (by rw [tk]; exact List.sublist_append_left _ _)⟩)
        refine ⟨_, rfl, _, rfl, ki, _, _, _, rfl, rfl, SqT.of (g.tup g3.tab hki1), ek, _, hD, by rw [List.length_map, sizeLine_eq]; omega, g.write hD (fun _ z => by cases z) nD, us ++ [ks[i]], ?_, ?_⟩
        · rw [upd_same, List.map_append]; rfl
        · rw [tk]; exact hsub.append (List.Sublist.refl _)
      · obtain ⟨g, us, hD, hsub⟩ := p
        refine ⟨D, _, rfl, .inl ⟨SqL.of hD, fun u nu => ⟨u, us, rfl, g.trans (Grew.new g.tab nu), upd_same, hsub.trans (List.take_sublist _ _)⟩⟩⟩
    rintro σ H2 ⟨u, us, rfl, g2, hu, hsub⟩
    have g02 := g3.trans g2
    refine ⟨_, rfl, _, rfl, _, rfl, _, rfl, _, rfl, _, rfl, _, rfl, _, _, rfl, rfl, _, rfl, a, ns, at_ + 5, d, rfl, g02.sqL hP hS, hsm, by omega, by omega, hd, g02.tab, fun H3 hs v g4 hv hho => ?_⟩
    have g03 := g02.trans g4
    have hu3 := g4.tup g02.tab hu
    refine ⟨by show 6 ≤ sizeLine; decide, fun t nt => ?_⟩
    refine k _ ⟨z, s0, s1, 1 + n2 % c, us, hs⟩ t (g03.trans (Grew.new g03.tab nt)) (g03.free nt) ⟨t, u, v, rfl, upd_same, (Grew.new g03.tab nt).tup g03.tab hu3, hv.keep (KeepT.new nt)⟩ rfl ?_
    exact ⟨hs', hg, by show 1 ≤ 1 + n2 % c; omega, by show 1 + n2 % c ≤ 1000; omega, fun y hy => hsub.subset hy, Nat.le_trans hsub.length_le lk, ndk.sublist hsub, hho⟩
end
end W

set_option Elab.async false
set_option linter.all false
set_option maxRecDepth 100000
set_option maxHeartbeats 1000000
namespace W
open PySem PySem.Spec PyProof.Rows L2 GxR MyG MyS
/-! ### _law_bars (parts of tuples) -/
theorem RoadAt.keepT {K : PySem.W.Frag} {P : Addr} {H H' : Hp} {r : RoadD} {v : V} (m : RoadAt K H r v) (h : TabG H P) (g : Grew P H H') : RoadAt K H' r v := m.grew g h
/-- the pairs of roads that meet -/
def meetL (rs : List RoadD) (one : RoadD) : List (Str × Str) := (rs.filter fun o => decide (one.goal = o.start)).map fun o => (one.name, o.name)
theorem meetL_len (rs : List RoadD) (one : RoadD) : (meetL rs one).length ≤ rs.length := by
  unfold meetL
  rw [List.length_map]
  exact List.length_filter_le _ _
def pairL (rs l : List RoadD) : List (Str × Str) := l.flatMap (meetL rs)
theorem pairL_len (rs : List RoadD) : ∀ l : List RoadD, (pairL rs l).length ≤ l.length * rs.length
  | [] => Nat.zero_le _
  | a :: l => by
    have h := pairL_len rs l
    have h2 := meetL_len rs a
    show (meetL rs a ++ pairL rs l).length ≤ _
    rw [List.length_append, List.length_cons, Nat.succ_mul]
    omega
theorem meetL_mem {rs : List RoadD} {one : RoadD} {b : Str × Str} (h : b ∈ meetL rs one) : b.1 = one.name ∧ ∃ o ∈ rs, b.2 = o.name ∧ one.goal = o.start := by
  obtain ⟨o, ho, rfl⟩ := List.mem_map.mp h
  obtain ⟨h1, h2⟩ := List.mem_filter.mp ho
  exact ⟨rfl, o, h1, rfl, of_decide_eq_true h2⟩
theorem pairL_ok {rs l : List RoadD} {b : Str × Str} (h : b ∈ pairL rs l) : ∃ r1 ∈ l, ∃ r2 ∈ rs, b.1 = r1.name ∧ b.2 = r2.name ∧ r1.goal = r2.start := by
  obtain ⟨one, h1, h2⟩ := List.mem_flatMap.mp h
  obtain ⟨e, o, ho, e2, e3⟩ := meetL_mem h2
  exact ⟨one, h1, o, ho, e, e2, e3⟩
theorem pairL_nd {rs : List RoadD} (nd : (rs.map (·.name)).Nodup) : ∀ {l : List RoadD}, (l.map (·.name)).Nodup → (pairL rs l).Nodup
  | [], _ => List.nodup_nil
  | a :: l, h => by
    obtain ⟨h1, h2⟩ := List.nodup_cons.mp h
    refine List.nodup_append.mpr ⟨?_, pairL_nd nd h2, fun b hb c hc e => ?_⟩
    · unfold meetL
      have s : ((rs.filter fun o => decide (a.goal = o.start)).map (·.name)).Nodup := nd.sublist (List.Sublist.map _ List.filter_sublist)
      refine List.pairwise_map.mpr ((List.pairwise_map.mp s).imp fun {x y} n e => n (congrArg Prod.snd e))
    · subst e
      obtain ⟨r1, m, r2, _, e1, _⟩ := pairL_ok hc
      exact h1 (List.mem_map.mpr ⟨r1, m, by rw [← e1]; exact (meetL_mem hb).1⟩)
theorem paired_app {α β : Type} {F : α → β → Prop} : ∀ {l l2 : List α} {m m2 : List β}, Paired F l m → Paired F l2 m2 → Paired F (l ++ l2) (m ++ m2)
  | _, _, _, _, .nil, h => h
  | _, _, _, _, .cons a r, h => .cons a (paired_app r h)
def spLBarsG (K : PySem.W.Frag) (P : Addr) : Sp := fun vs H Q _ => ∃ (a ro : Addr) (ns : List Int) (at_ : Int) (rs : List RoadD) (xs : List V), vs = [.ref a, .int at_, .ref ro] ∧ SqL K H a (ns.map V.int) ∧ Sm ns ∧ 0 ≤ at_ ∧ at_ + 7 ≤ ns.length ∧ H ro = some (.tup xs) ∧ Paired (RoadAt K H) rs xs ∧ rs.length ≤ 12 ∧ (rs.map (·.name)).Nodup ∧ TabG H P ∧
  ∀ H' p bs ys, Grew P H H' → H p = none → H' p = some (.tup ys) → Paired (GBar H') bs ys → AscB bs → BarsOk rs bs → Q (.ref p) H'
section
variable {Pg : Program} {w : World} {K : PySem.W.Frag} {mg : Str → Option Value} {base : Heap} {C P : Addr}
abbrev nBarsG : List Str := ["numbers", "at", "roads", "pairs", "one", "chosen", "k", "other"]
theorem scBarsG : FnScope nBarsG ["numbers", "at", "roads"] (defScope sLBarsG) := ⟨rfl, rfl, rfl, by decide +kernel, rfl, by decide +kernel, by decide +kernel⟩
theorem ok_lbarsG {f : Addr} {fd : FuncData} (F : Fun K "_law_bars" "_law_bars" sLBarsG f fd) (hi : mg "int" = none) (hl : mg "len" = none) (ht : mg "tuple" = none) (hr' : mg "range" = none) (hs : mg "sorted" = none) :
    FnOk Pg w K mg base CX0 1 f fd ["numbers", "at", "roads"] (spLBarsG K P) := by
  refine F.ok scBarsG (fun vs H Q E h => ?_) (fun cdv A outer s H vs Q E hr h => ?_)
  · obtain ⟨a, ro, ns, at_, rs, xs, rfl, _⟩ := h
    rfl
  · obtain ⟨a, ro, ns, at_, rs, xs, rfl, hS, hsm, ha0, ha1, hro, hrs, lr, nd, hP, k⟩ := h
    refine ⟨_, pss_cons (ps_set (i := 3) scBarsG.nd rfl (Or.inl rfl) (pe_lst pa_nil))
      (C8.pss_cut (ps_for PassesOwn.never rfl (pi_tup (pv 2)) (pg_name (i := 4) scBarsG.nd rfl (Or.inr rfl))
        (pss_one (ps_set (i := 3) scBarsG.nd rfl (Or.inl rfl) (pe_op op_cat (pv 3) (pe_lc (own := [("other", 7)]) (g := gName 7) rfl scBarsG.nd (pi_tup (pv 2)) (blkOk_by (N := nBarsG) (sc := defScope sLBarsG) (by decide +kernel)) (fun _ _ _ _ _ => pg_name (i := 7) scBarsG.nd rfl (Or.inl rfl))
          (fun _ _ _ _ _ => pts_one (pt_cmpR op_eq (pe_ix (r := rIxT K) ix_tup (pv 4) pe_int (fun _ _ => rfl)) (pe_ix (r := rIxT K) ix_tup (pv 7) pe_int (fun _ _ => rfl)) (nomark _))) (fun _ _ _ _ _ => pe_tup (pa_cons (pe_ix (r := rIxT K) ix_tup (pv 4) pe_int (fun _ _ => rfl)) (pa_cons (pe_ix (r := rIxT K) ix_tup (pv 7) pe_int (fun _ _ => rfl)) pa_nil))))))))
      (pss_cons (ps_set (i := 5) scBarsG.nd rfl (Or.inl rfl) (pe_lst pa_nil))
      (C8.pss_cut (ps_for PassesOwn.never rfl (pi_range1 rfl hr' (pa_cons (pe_callB call_len_seq (by rfl) hl PySem.boot_len (pa_cons (pv 3) pa_nil)) pa_nil)) (pg_name (i := 6) scBarsG.nd rfl (Or.inl rfl))
        (pss_one (ps_if (PW.pt (pw_and (pt_cmpR op_eq (pe_op op_mod (pe_callTy call_int1 (by rfl) hi (by decide +kernel) (pa_cons (pe_op op_add (pe_ix ix_list (pv 0) (pe_op op_add (pv 1) (pe_op op_mod (pv 6) pe_int)) (fun _ _ => rfl)) (pe_op op_mul pe_int (pv 6))) pa_nil)) pe_int) pe_int (nomark _)) (pw_and1 (pt_cmpR op_lt (pe_callB call_len_seq (by rfl) hl PySem.boot_len (pa_cons (pv 5) pa_nil)) pe_int (nomark _)))))
          (pss_one (ps_expr (pe_bm PySem.F.plainAttrs_list PySem.F.slot_list_append PySem.F.type_list_append mt_append (pv 5) (pa_cons (pe_ix ix_list (pv 3) (pv 6) (fun _ _ => rfl)) pa_nil)))) pss_nil)))
      (pss_one (ps_ret (pe_callTy call_tuple_of (by rfl) ht (by decide +kernel) (pa_cons (pe_callB cr_sortB (by rfl) hs (by decide +kernel) (pa_cons (pv 5) pa_nil)) pa_nil))))))), ?_⟩
    have lx := Paired.len hrs
    refine ⟨Nat.zero_le _, fun p0 np0 => ?_⟩
    have g0 := Grew.new hP (o := .lst []) np0
    have hp0 : (L2.upd H p0 (.lst [])) p0 = some (.lst []) := upd_same
    generalize L2.upd H p0 (.lst []) = H0 at g0 hp0
    -- pairs
    refine ⟨fun σ H' => ∃ (q : Addr) (v4 : Option V) (ys : List V), σ = [some (.ref a), some (.int at_), some (.ref ro), some (.ref q), v4, none, none, none] ∧ Grew P H H' ∧ H' q = some (.lst ys) ∧ Paired (GBar H') (pairL rs rs) ys, ?_, ?_⟩
    · refine ⟨_, rfl, ro, rfl, ⟨_, SqT.of (g0.tup hP hro)⟩, for_tup (K := K) (a := ro) (xs := xs) (fun i σ H' => ∃ (q : Addr) (v4 : Option V) (ys : List V), σ = [some (.ref a), some (.int at_), some (.ref ro), some (.ref q), v4, none, none, none] ∧ Grew P H H' ∧ H' q = some (.lst ys) ∧ Paired (GBar H') (pairL rs (rs.take i)) ys)
        ⟨p0, none, [], rfl, g0, hp0, .nil⟩ (fun i σ H' _ ⟨_, _, _, _, g, _⟩ => SqT.of (g.tup hP hro)) ?_ ?_⟩
      · rintro i v σ H1 hv ⟨q, v4, ys, rfl, g1, hq, hys⟩
        obtain ⟨one, hone, hr1⟩ := Paired.at hrs hv
        have hr1' := hr1.grew g1 hP
        obtain ⟨t1, u1, h1, rfl, e1, _, _⟩ := hr1'
        have hil := (List.getElem?_eq_some_iff.mp hone).1
        refine ⟨_, rfl, _, rfl, ro, rfl, ⟨_, SqT.of (g1.tup hP hro)⟩, fun D nD => lc_tup (K := K) (a := ro) (xs := xs) (fun j H' => Grew P H1 H' ∧ ∃ acc, H' D = some (.lst acc) ∧ Paired (GBar H') (meetL (rs.take j) one) acc)
          ⟨Grew.new g1.tab nD, [], upd_same, .nil⟩ (fun j H' _ h => SqT.of ((g1.trans h.1).tup hP hro)) (fun j v H2 hj h => ?_) (fun H2 h => ?_)⟩
        · obtain ⟨g2, acc, hD, hacc⟩ := h
          obtain ⟨o, ho, hr2⟩ := Paired.at hrs hj
          have hr2' := hr2.grew (g1.trans g2) hP
          obtain ⟨t2, u2, h2, rfl, e2, _, _⟩ := hr2'
          have hjl := (List.getElem?_eq_some_iff.mp ho).1
          have e12 := g2.tup g1.tab e1
          have la := Paired.len hacc
          have lm := meetL_len (rs.take j) one
          rw [List.length_take] at lm
          have et : meetL (rs.take (j + 1)) one = meetL (rs.take j) one ++ (if decide (one.goal = o.start) = true then [(one.name, o.name)] else []) := by
            unfold meetL
            have e0 : rs.take (j + 1) = rs.take j ++ [o] := by rw [List.take_succ, ho]; rfl
            rw [e0, List.filter_append, List.map_append, List.filter_cons]
            split <;> rfl
          refine ⟨rfl, _, rfl, t1, _, 2, _, rfl, rfl, SqT.of e12, rfl, _, rfl, t2, _, 1, _, rfl, rfl, SqT.of e2, rfl, rfl, _, rfl, ?_⟩
          by_cases c : one.goal = o.start
          · rw [if_pos (decide_eq_true c)] at et
            refine if_t (decide_eq_true (congrArg V.str c)) ?_
            refine ⟨_, rfl, t1, _, 0, _, rfl, rfl, SqT.of e12, rfl, _, rfl, t2, _, 0, _, rfl, rfl, SqT.of e2, rfl, by show 2 ≤ sizeLine; decide, fun tp ntp => ?_⟩
            have gt := Grew.new (g1.trans g2).tab (o := .tup [.str one.name, .str o.name]) ntp
            have hD2 := gt.lst (g1.trans g2).tab hD
            have htp : (L2.upd H2 tp (.tup [.str one.name, .str o.name])) tp = some (.tup [.str one.name, .str o.name]) := upd_same
            generalize L2.upd H2 tp (.tup [.str one.name, .str o.name]) = H3 at gt hD2 htp
            have kp : ∀ {b : Str × Str} {v : V}, GBar H3 b v → GBar (L2.upd H3 D (.lst (acc ++ [.ref tp]))) b v := fun {b v} ⟨t, a, m⟩ => ⟨t, a, by rw [upd_ne (fun z => by rw [z, hD2] at m; cases m)]; exact m⟩
            refine ⟨acc, hD2, by rw [sizeLine_eq]; omega, (g2.trans gt).write hD2 (fun _ z => by cases z) nD, acc ++ [.ref tp], upd_same, ?_⟩
            rw [et]
            exact Paired.snoc (Paired.map' hacc fun b v m => kp (m.grew gt (g1.trans g2).tab)) (kp ⟨tp, rfl, htp⟩)
          · rw [if_neg (by rw [decide_eq_true_iff]; exact c), List.append_nil] at et
            exact if_f (decide_eq_false (fun e => c (V.str.inj e))) ⟨g2, acc, hD, by rw [et]; exact hacc⟩
        · obtain ⟨g2, acc, hD, hacc⟩ := h
          rw [← lx, List.take_length] at hacc
          have g02 := g1.trans g2
          have lp := pairL_len rs (rs.take i)
          rw [List.length_take] at lp
          have ly := Paired.len hys
          have la := Paired.len hacc
          have lm := meetL_len rs one
          have et : pairL rs (rs.take (i + 1)) = pairL rs (rs.take i) ++ meetL rs one := by
            unfold pairL
            rw [List.take_succ, hone, List.flatMap_append]
            simp
          have b1 : (pairL rs (rs.take i)).length ≤ 12 * 12 := Nat.le_trans lp (Nat.mul_le_mul (by omega) lr)
          refine ⟨q, D, ys, acc, rfl, rfl, g2.lst g1.tab hq, hD, by rw [sizeLine_eq]; omega, fun q2 nq2 => ⟨q2, _, ys ++ acc, rfl, g02.trans (Grew.new g02.tab nq2), upd_same, ?_⟩⟩
          rw [et]
          exact paired_app (Paired.map' hys fun b v m => m.grew (g2.trans (Grew.new g02.tab nq2)) g1.tab) (Paired.map' hacc fun b v m => m.grew (Grew.new g02.tab nq2) g02.tab)
      · rintro σ H' ⟨q, v4, ys, rfl, g, hq, hys⟩
        rw [← lx, List.take_length] at hys
        exact ⟨q, v4, ys, rfl, g, hq, hys⟩
    rintro σ H1 ⟨q, v4, ys, rfl, g1, hq, hys⟩
    have ly := Paired.len hys
    have lpp := pairL_len rs rs
    have b1 : (pairL rs rs).length ≤ 12 * 12 := Nat.le_trans lpp (Nat.mul_le_mul lr lr)
    have ndp := pairL_nd nd nd
    have okp : ∀ b ∈ pairL rs rs, ∃ r1 ∈ rs, ∃ r2 ∈ rs, b.1 = r1.name ∧ b.2 = r2.name ∧ r1.goal = r2.start := fun b hb => pairL_ok hb
    generalize pairL rs rs = PL at hys ly b1 ndp okp
    -- chosen
    refine ⟨Nat.zero_le _, fun ch nch => ?_⟩
    have gc := Grew.new g1.tab (o := .lst []) nch
    have hch : (L2.upd H1 ch (.lst [])) ch = some (.lst []) := upd_same
    have hq2 := gc.lst g1.tab hq
    generalize L2.upd H1 ch (.lst []) = H2 at gc hch hq2
    refine ⟨fun σ H' => ∃ (v6 : Option V) (bs : List (Str × Str)) (zs : List V), σ = [some (.ref a), some (.int at_), some (.ref ro), some (.ref q), v4, some (.ref ch), v6, none] ∧ Grew P H1 H' ∧ H' ch = some (.lst zs) ∧ Paired (GBar H') bs zs ∧ bs.Sublist PL ∧ bs.length ≤ 40, ?_, ?_⟩
    · refine ⟨_, rfl, q, _, rfl, .inl (SqL.of hq2), (ys.length : Int), rfl, by omega, by omega, for_range (n := ys.length) (fun i σ H' => ∃ (v6 : Option V) (bs : List (Str × Str)) (zs : List V), σ = [some (.ref a), some (.int at_), some (.ref ro), some (.ref q), v4, some (.ref ch), v6, none] ∧ Grew P H1 H' ∧ H' ch = some (.lst zs) ∧ Paired (GBar H') bs zs ∧ bs.Sublist (PL.take i) ∧ bs.length ≤ 40)
        ⟨none, [], [], rfl, gc, hch, .nil, List.nil_sublist _, Nat.zero_le _⟩ ?_ ?_⟩
      · rintro i σ H3 hi ⟨v6, bs, zs, rfl, g3, hz, hbz, hsub, l40⟩
        rw [Int.zero_add]
        have m7 : 0 ≤ (i : Int) % 7 := Int.emod_nonneg _ (by decide)
        have m7' : (i : Int) % 7 < 7 := Int.emod_lt_of_pos _ (by decide)
        obtain ⟨n0, e0, l0, u0⟩ := at_num hsm (i := at_ + (i : Int) % 7) (by omega) (by omega)
        have hi2 : i < PL.length := by omega
        have hyi : ys[i]? = some (ys[i]'hi) := List.getElem?_eq_getElem hi
        generalize ys[i]'hi = yv at hyi
        obtain ⟨b, hb, hbv⟩ := Paired.at hys hyi
        have tk : PL.take (i + 1) = PL.take i ++ [b] := by rw [List.take_succ, hb]; rfl
        have lz := Paired.len hbz
        have skip : ∃ (v6 : Option V) (bs : List (Str × Str)) (zs : List V), ([some (.ref a), some (.int at_), some (.ref ro), some (.ref q), v4, some (.ref ch), some (.int (i : Int)), none] : L2.St) = [some (.ref a), some (.int at_), some (.ref ro), some (.ref q), v4, some (.ref ch), v6, none] ∧ Grew P H1 H3 ∧ H3 ch = some (.lst zs) ∧ Paired (GBar H3) bs zs ∧ bs.Sublist (PL.take (i + 1)) ∧ bs.length ≤ 40 :=
          ⟨_, bs, zs, rfl, g3, hz, hbz, hsub.trans (by rw [tk]; exact List.sublist_append_left _ _), l40⟩
        refine ⟨_, rfl, _, rfl, _, rfl, _, _, rfl, rfl, (show (0 : Int) < 7 by decide), _, _, rfl, rfl, a, _, _, _, rfl, rfl, (g1.trans g3).sqL hP hS, e0, _, rfl, _, _, rfl, rfl, .inl ⟨by decide, by decide⟩, _, _, rfl, rfl, .inl ⟨_, rfl, _, _, rfl, rfl, (show (0 : Int) < 6 by decide), rfl, _, rfl, ?_⟩⟩
        refine ite2 (fun _ => ?_) (fun _ => skip)
        refine ⟨_, rfl, ch, _, rfl, .inl (SqL.of hz), _, _, rfl, rfl, _, rfl, ?_⟩
        refine ite2 (fun c => ?_) (fun _ => skip)
        have c' : (zs.length : Int) < 40 := of_decide_eq_true c
        refine ⟨_, rfl, .inl ⟨rfl, _, SqL.of hz⟩, _, rfl, _, rfl, q, _, _, _, rfl, rfl, SqL.of (g3.lst g1.tab hq), atI_nat hyi, ch, _, _, rfl, rfl, hz, by rw [sizeLine_eq]; omega, ?_⟩
        have kp : ∀ {b : Str × Str} {v : V}, GBar H3 b v → GBar (L2.upd H3 ch (.lst (zs ++ [yv]))) b v := fun {b v} ⟨t, a, m⟩ => ⟨t, a, by rw [upd_ne (fun z => by rw [z, hz] at m; cases m)]; exact m⟩
        refine ⟨_, bs ++ [b], zs ++ [yv], rfl, g3.write hz (fun _ z => by cases z) nch, upd_same, Paired.snoc (Paired.map' hbz fun b v m => kp m) (kp (hbv.grew g3 g1.tab)), ?_, ?_⟩
        · rw [tk]; exact hsub.append (List.Sublist.refl _)
        · rw [List.length_append, List.length_singleton]; omega
      · rintro σ H' ⟨v6, bs, zs, rfl, g, hz, hbz, hsub, l40⟩
        exact ⟨v6, bs, zs, rfl, g, hz, hbz, hsub.trans (List.take_sublist _ _), l40⟩
    rintro σ H3 ⟨v6, bs, zs, rfl, g3, hz, hbz, hsub, l40⟩
    have g13 := g1.trans g3
    refine ⟨_, rfl, ch, zs, barAt H3, rfl, SqL.of hz, fun x hx => ?_, fun ws l hpm hso hl => ⟨l, _, rfl, .inl ⟨SqL.of upd_same, fun p hp2 => ?_⟩⟩⟩
    · obtain ⟨b, _, m⟩ := Paired.mem hbz hx
      have nm := m.at
      obtain ⟨t, e, q⟩ := m
      exact ⟨t, e, by rw [nm]; exact SqT.of q⟩
    · obtain ⟨bs', pm, hr'⟩ := Paired.perm hpm hbz
      have gl := Grew.new g13.tab (o := .lst ws) hl
      have gp := gl.put (o := .tup ws) hp2
      refine k _ p bs' ws (g13.trans gp) (g13.free (gl.free hp2)) upd_same (Paired.map' hr' fun _ _ m => m.grew gp g13.tab) (Paired.pair (fun a b x y m m' e => by rw [m.at, m'.at] at e; exact e) hr' hso) ⟨?_, ?_, fun b hb => okp b (hsub.subset (pm.mem_iff.mp hb))⟩
      · rw [pm.length_eq]; exact l40
      · exact pm.nodup_iff.mpr (ndp.sublist hsub)
end
end W

set_option Elab.async false
set_option linter.all false
set_option maxRecDepth 100000
set_option maxHeartbeats 1000000
namespace W
open PySem PySem.Spec PyProof.Rows L2 GxR MyG MyS
/-! ### _law_parts (of tuples) -/
/-- parts whose kinds, places, roads and bars are tuples -/
def PartsT (K : PySem.W.Frag) (H : Hp) (p : Addr) (d : Int) (ks ps : List Str) (rs : List RoadD) (bs : List (Str × Str)) : Prop := ∃ ki pl ro ba xs zs, H p = some (.lst [.int d, .ref ki, .ref pl, .ref ro, .ref ba]) ∧
  H ki = some (.tup (ks.map V.str)) ∧ H pl = some (.tup (ps.map V.str)) ∧ H ro = some (.tup xs) ∧ Paired (RoadAt K H) rs xs ∧ H ba = some (.tup zs) ∧ Paired (GBar H) bs zs
theorem PartsT.grew {K : PySem.W.Frag} {P : Addr} {H H' : Hp} {p : Addr} {d : Int} {ks ps : List Str} {rs : List RoadD} {bs : List (Str × Str)} (m : PartsT K H p d ks ps rs bs) (g : Grew P H H') (h : TabG H P) : PartsT K H' p d ks ps rs bs := by
  obtain ⟨ki, pl, ro, ba, xs, zs, e0, e1, e2, e3, e4, e5, e6⟩ := m
  exact ⟨ki, pl, ro, ba, xs, zs, g.lst h e0, g.tup h e1, g.tup h e2, g.tup h e3, Paired.map' e4 fun _ _ m => m.grew g h, g.tup h e5, Paired.map' e6 fun _ _ m => m.grew g h⟩
def spLPartsG (K : PySem.W.Frag) (P : Addr) : Sp := fun vs H Q _ => ∃ (a : Addr) (ns : List Int) (at_ : Int), vs = [.ref a, .int at_] ∧ SqL K H a (ns.map V.int) ∧ Sm ns ∧ 0 ≤ at_ ∧ at_ + 97 ≤ ns.length ∧ TabG H P ∧
  ∀ H' p d ks ps rs bs, Grew P H H' → H p = none → PartsT K H' p d ks ps rs bs → PartsOk d ks ps rs bs → Asc ks → Asc ps → AscR rs → AscB bs → 2 ≤ ps.length → 1 ≤ rs.length → rs.length ≤ 8 → Q (.ref p) H'
theorem day4 (x j : Int) (h0 : 0 ≤ j) (h3 : j < 4) (a : 1 ≤ x) (b : x ≤ 1440) : ∃ c : Int, atI [V.int x, V.int 24, V.int 1440, V.int x] j = some (.int c) ∧ 1 ≤ c ∧ c ≤ 1440 := by
  have : j = 0 ∨ j = 1 ∨ j = 2 ∨ j = 3 := by omega
  rcases this with rfl | rfl | rfl | rfl
  · exact ⟨_, rfl, a, b⟩
  · exact ⟨_, rfl, by decide, by decide⟩
  · exact ⟨_, rfl, by decide, by decide⟩
  · exact ⟨_, rfl, a, b⟩
section
variable {Pg : Program} {w : World} {K : PySem.W.Frag} {mg : Str → Option Value} {base : Heap} {C P : Addr}
abbrev nPartsG : List Str := ["numbers", "at", "day", "kinds", "places", "names", "roads", "k"]
theorem scPartsG : FnScope nPartsG ["numbers", "at"] (defScope sLPartsG) := ⟨rfl, rfl, rfl, by decide +kernel, rfl, by decide +kernel, by decide +kernel⟩
theorem ok_lpartsG {f fN fR fB : Addr} {fd fdN fdR fdB : FuncData} (F : Fun K "_law_parts" "_law_parts" sLPartsG f fd) (hi : mg "int" = none) (ht : mg "tuple" = none) (hr' : mg "range" = none) (hs : mg "sorted" = none)
    (GN : FnOk Pg w K mg base CX0 1 fN fdN ["number", "many"] (spLNames P)) (gN : mg "_law_names" = some (.ref fN)) (kN : PySem.W.keepIn K (.ref fN) = true) (bN : Binds K fdN ["number", "many"] [])
    (GR : FnOk Pg w K mg base CX0 2 fR fdR ["numbers", "at", "name", "day", "kinds", "places"] (spLRoadG K P)) (gR : mg "_law_road" = some (.ref fR)) (kR : PySem.W.keepIn K (.ref fR) = true) (bR : Binds K fdR ["numbers", "at", "name", "day", "kinds", "places"] [])
    (GB : FnOk Pg w K mg base CX0 1 fB fdB ["numbers", "at", "roads"] (spLBarsG K P)) (gB : mg "_law_bars" = some (.ref fB)) (kB : PySem.W.keepIn K (.ref fB) = true) (bB : Binds K fdB ["numbers", "at", "roads"] []) :
    FnOk Pg w K mg base CX0 3 f fd ["numbers", "at"] (spLPartsG K P) := by
  refine F.ok scPartsG (fun vs H Q E h => ?_) (fun cdv A outer s H vs Q E hr h => ?_)
  · obtain ⟨a, ns, at_, rfl, _⟩ := h
    rfl
  · obtain ⟨a, ns, at_, rfl, hS, hsm, ha0, ha1, hP, k⟩ := h
    refine ⟨_, C8.pss_cut (ps_set (i := 2) scPartsG.nd rfl (Or.inl rfl) (pe_ix ix_tup (pe_tup (pa_cons (pe_op op_add pe_int (pe_op op_mod (pe_callTy call_int1 (by rfl) hi (by decide +kernel) (pa_cons (pe_ix ix_list (pv 0) (pv 1) (fun _ _ => rfl)) pa_nil)) pe_int)) (pa_cons pe_int (pa_cons pe_int (pa_cons (pe_op op_add pe_int (pe_op op_mod (pe_callTy call_int1 (by rfl) hi (by decide +kernel) (pa_cons (pe_ix ix_list (pv 0) (pv 1) (fun _ _ => rfl)) pa_nil)) pe_int)) pa_nil)))))
        (pe_op op_mod (pe_callTy call_int1 (by rfl) hi (by decide +kernel) (pa_cons (pe_ix ix_list (pv 0) (pe_op op_add (pv 1) pe_int) (fun _ _ => rfl)) pa_nil)) pe_int) (fun _ _ => rfl)))
      (C8.pss_cut (ps_set (i := 3) scPartsG.nd rfl (Or.inl rfl) (pe_callTy call_tuple_of (by rfl) ht (by decide +kernel) (pa_cons (pe_callB cr_sortSQ (by rfl) hs (by decide +kernel) (pa_cons (pe_call GN (hr.mono (by decide)) (by rfl) gN kN bN .nil pass0 (pa_cons (pe_ix ix_list (pv 0) (pe_op op_add (pv 1) pe_int) (fun _ _ => rfl)) (pa_cons (pe_op op_add pe_int (pe_op op_mod (pe_callTy call_int1 (by rfl) hi (by decide +kernel) (pa_cons (pe_ix ix_list (pv 0) (pe_op op_add (pv 1) pe_int) (fun _ _ => rfl)) pa_nil)) pe_int)) pa_nil))) pa_nil)) pa_nil)))
      (C8.pss_cut (ps_set (i := 4) scPartsG.nd rfl (Or.inl rfl) (pe_callTy call_tuple_of (by rfl) ht (by decide +kernel) (pa_cons (pe_callB cr_sortSQ (by rfl) hs (by decide +kernel) (pa_cons (pe_call GN (hr.mono (by decide)) (by rfl) gN kN bN .nil pass0 (pa_cons (pe_ix ix_list (pv 0) (pe_op op_add (pv 1) pe_int) (fun _ _ => rfl)) (pa_cons (pe_op op_add pe_int (pe_op op_mod (pe_callTy call_int1 (by rfl) hi (by decide +kernel) (pa_cons (pe_ix ix_list (pv 0) (pe_op op_add (pv 1) pe_int) (fun _ _ => rfl)) pa_nil)) pe_int)) pa_nil))) pa_nil)) pa_nil)))
      (C8.pss_cut (ps_set (i := 5) scPartsG.nd rfl (Or.inl rfl) (pe_call GN (hr.mono (by decide)) (by rfl) gN kN bN .nil pass0 (pa_cons (pe_ix ix_list (pv 0) (pe_op op_add (pv 1) pe_int) (fun _ _ => rfl)) (pa_cons pe_int pa_nil))))
      (pss_cons (ps_set (i := 6) scPartsG.nd rfl (Or.inl rfl) (pe_lst pa_nil))
      (C8.pss_cut (ps_for PassesOwn.never rfl (pi_range1 rfl hr' (pa_cons (pe_op op_add pe_int (pe_op op_mod (pe_callTy call_int1 (by rfl) hi (by decide +kernel) (pa_cons (pe_ix ix_list (pv 0) (pe_op op_add (pv 1) pe_int) (fun _ _ => rfl)) pa_nil)) pe_int)) pa_nil)) (pg_name (i := 7) scPartsG.nd rfl (Or.inl rfl))
        (pss_one (ps_expr (pe_bm PySem.F.plainAttrs_list PySem.F.slot_list_append PySem.F.type_list_append mt_append (pv 6) (pa_cons (pe_call GR hr (by rfl) gR kR bR .nil pass0 (pa_cons (pv 0) (pa_cons (pe_op op_add (pe_op op_add (pv 1) pe_int) (pe_op op_mul pe_int (pv 7))) (pa_cons (pe_ix ix_list (pv 5) (pv 7) (fun _ _ => rfl)) (pa_cons (pv 2) (pa_cons (pv 3) (pa_cons (pv 4) pa_nil))))))) pa_nil)))))
      (C8.pss_cut (ps_set (i := 6) scPartsG.nd rfl (Or.inl rfl) (pe_callTy call_tuple_of (by rfl) ht (by decide +kernel) (pa_cons (pe_callB cr_sortR (by rfl) hs (by decide +kernel) (pa_cons (pv 6) pa_nil)) pa_nil)))
      (pss_one (ps_ret (pe_lst (pa_cons (pv 2) (pa_cons (pv 3) (pa_cons (pv 4) (pa_cons (pv 6) (pa_cons (pe_call GB (hr.mono (by decide)) (by rfl) gB kB bB .nil pass0 (pa_cons (pv 0) (pa_cons (pe_op op_add (pv 1) pe_int) (pa_cons (pv 6) pa_nil)))) pa_nil)))))))))))))), ?_⟩
    have num : ∀ {j : Int}, 0 ≤ j → j < at_ + 97 → ∃ n, atI (ns.map V.int) j = some (.int n) ∧ 0 ≤ n ∧ n < 1009 := fun h0 h1 => at_num hsm h0 (by omega)
    obtain ⟨n0, e0, l0, u0⟩ := num (j := at_) (by omega) (by omega)
    obtain ⟨n1, e1, l1, u1⟩ := num (j := at_ + 1) (by omega) (by omega)
    obtain ⟨n2, e2, l2, u2⟩ := num (j := at_ + 2) (by omega) (by omega)
    obtain ⟨n3, e3, l3, u3⟩ := num (j := at_ + 3) (by omega) (by omega)
    obtain ⟨n4, e4, l4, u4⟩ := num (j := at_ + 4) (by omega) (by omega)
    obtain ⟨n5, e5, l5, u5⟩ := num (j := at_ + 5) (by omega) (by omega)
    obtain ⟨n6, e6, l6, u6⟩ := num (j := at_ + 6) (by omega) (by omega)
    obtain ⟨n7, e7, l7, u7⟩ := num (j := at_ + 7) (by omega) (by omega)
    have A0 : L2.start nPartsG [.ref a, .int at_] = [some (.ref a), some (.int at_), none, none, none, none, none, none] := rfl
    -- day
    refine ⟨fun σ H' => ∃ d : Int, σ = [some (.ref a), some (.int at_), some (.int d), none, none, none, none, none] ∧ Grew P H H' ∧ 1 ≤ d ∧ d ≤ 1440, ?_, ?_⟩
    · obtain ⟨c, ec, c1, c2⟩ := day4 (1 + n0 % 24) (n1 % 4) (Int.emod_nonneg _ (by decide)) (Int.emod_lt_of_pos _ (by decide)) (by omega) (by omega)
      refine ⟨_, rfl, _, rfl, a, _, _, _, rfl, rfl, hS, e0, .inl ⟨_, rfl, _, _, rfl, rfl, (show (0 : Int) < 24 by decide), _, _, rfl, rfl, ?_⟩⟩
      refine ⟨_, rfl, _, rfl, a, _, _, _, rfl, rfl, hS, e0, .inl ⟨_, rfl, _, _, rfl, rfl, (show (0 : Int) < 24 by decide), _, _, rfl, rfl, by show 4 ≤ sizeLine; decide, fun T nT => ?_⟩⟩
      have gT := Grew.new hP (o := .tup [V.int (1 + n0 % 24), V.int 24, V.int 1440, V.int (1 + n0 % 24)]) nT
      exact ⟨_, rfl, _, rfl, _, _, rfl, rfl, a, _, _, _, rfl, rfl, gT.sqL hP hS, e1, .inl ⟨_, rfl, _, _, rfl, rfl, (show (0 : Int) < 4 by decide), T, _, _, _, rfl, rfl, SqT.of upd_same, ec, c, rfl, gT, c1, c2⟩⟩
    rintro σ H1 ⟨d, rfl, g1, d1, d2⟩
    -- kinds
    refine ⟨fun σ H' => ∃ (ki : Addr) (ks : List Str), σ = [some (.ref a), some (.int at_), some (.int d), some (.ref ki), none, none, none, none] ∧ Grew P H1 H' ∧ H' ki = some (.tup (ks.map V.str)) ∧ 1 ≤ ks.length ∧ ks.length ≤ 2 ∧ ks.all isNm = true ∧ ks.Nodup ∧ Asc ks, ?_, ?_⟩
    · refine ⟨_, rfl, _, rfl, _, _, rfl, rfl, a, _, _, _, rfl, rfl, g1.sqL hP hS, e2, _, rfl, _, rfl, _, _, rfl, rfl, a, _, _, _, rfl, rfl, g1.sqL hP hS, e3, .inl ⟨_, rfl, _, _, rfl, rfl, (show (0 : Int) < 2 by decide), _, _, rfl, rfl,
        n2, (1 + n3 % 2).toNat, congrArg (fun z => [V.int n2, V.int z]) (Int.toNat_of_nonneg (show 0 ≤ 1 + n3 % 2 by omega)).symm, l2, by omega, g1.tab, fun Ha ki ks ga nki eki lks aks dks => ?_⟩⟩
      refine ⟨_, ks, rfl, .inl (SqL.of eki), fun ys l pm asc nl => ⟨l, _, rfl, .inl ⟨SqL.of upd_same, fun q nq => ?_⟩⟩⟩
      have gl := Grew.new ga.tab (o := .lst (ys.map V.str)) nl
      have gq := gl.put (o := .tup (ys.map V.str)) nq
      refine ⟨q, ys, rfl, ga.trans gq, upd_same, ?_, ?_, ?_, pm.nodup_iff.mpr dks, asc⟩
      · rw [pm.length_eq, lks]; omega
      · rw [pm.length_eq, lks]; omega
      · exact List.all_eq_true.mpr fun z hz => List.all_eq_true.mp aks z (pm.mem_iff.mp hz)
    rintro σ H2 ⟨ki, ks, rfl, g2, hki, k1, k2, aks, dks, sks⟩
    have g02 := g1.trans g2
    -- places
    refine ⟨fun σ H' => ∃ (pl : Addr) (ps : List Str), σ = [some (.ref a), some (.int at_), some (.int d), some (.ref ki), some (.ref pl), none, none, none] ∧ Grew P H2 H' ∧ H' pl = some (.tup (ps.map V.str)) ∧ 2 ≤ ps.length ∧ ps.length ≤ 5 ∧ ps.all isNm = true ∧ ps.Nodup ∧ Asc ps, ?_, ?_⟩
    · refine ⟨_, rfl, _, rfl, _, _, rfl, rfl, a, _, _, _, rfl, rfl, g02.sqL hP hS, e4, _, rfl, _, rfl, _, _, rfl, rfl, a, _, _, _, rfl, rfl, g02.sqL hP hS, e5, .inl ⟨_, rfl, _, _, rfl, rfl, (show (0 : Int) < 4 by decide), _, _, rfl, rfl,
        n4, (2 + n5 % 4).toNat, congrArg (fun z => [V.int n4, V.int z]) (Int.toNat_of_nonneg (show 0 ≤ 2 + n5 % 4 by omega)).symm, l4, by omega, g02.tab, fun Ha ki ks ga nki eki lks aks dks => ?_⟩⟩
      refine ⟨_, ks, rfl, .inl (SqL.of eki), fun ys l pm asc nl => ⟨l, _, rfl, .inl ⟨SqL.of upd_same, fun q nq => ?_⟩⟩⟩
      have gl := Grew.new ga.tab (o := .lst (ys.map V.str)) nl
      have gq := gl.put (o := .tup (ys.map V.str)) nq
      refine ⟨q, ys, rfl, ga.trans gq, upd_same, ?_, ?_, ?_, pm.nodup_iff.mpr dks, asc⟩
      · rw [pm.length_eq, lks]; omega
      · rw [pm.length_eq, lks]; omega
      · exact List.all_eq_true.mpr fun z hz => List.all_eq_true.mp aks z (pm.mem_iff.mp hz)
    rintro σ H3 ⟨pl, ps, rfl, g3, hpl, p1, p2, aps, dps, sps⟩
    have g03 := g02.trans g3
    have hki3 := g3.tup g02.tab hki
    -- names
    refine ⟨fun σ H' => ∃ (nm : Addr) (names : List Str), σ = [some (.ref a), some (.int at_), some (.int d), some (.ref ki), some (.ref pl), some (.ref nm), none, none] ∧ Grew P H3 H' ∧ H' nm = some (.lst (names.map V.str)) ∧ names.length = 8 ∧ names.all isNm = true ∧ names.Nodup, ?_, ?_⟩
    · exact ⟨_, rfl, _, rfl, _, _, rfl, rfl, a, _, _, _, rfl, rfl, g03.sqL hP hS, e6, n6, 8, rfl, l6, by decide, g03.tab, fun Ha q names ga nq eq lq aq dq => ⟨q, names, rfl, ga, eq, lq, aq, dq⟩⟩
    rintro σ H4 ⟨nm, names, rfl, g4, hnm, lnm, anm, dnm⟩
    have g04 := g03.trans g4
    have hki4 := g4.tup g03.tab hki3
    have hpl4 := g4.tup g03.tab hpl
    -- roads
    refine ⟨Nat.zero_le _, fun ro nro => ?_⟩
    have gr := Grew.new g04.tab (o := .lst []) nro
    have hro : (L2.upd H4 ro (.lst [])) ro = some (.lst []) := upd_same
    generalize L2.upd H4 ro (.lst []) = H5 at gr hro
    have nro0 : H ro = none := g04.free nro
    have m8 : 0 ≤ n7 % 8 := Int.emod_nonneg _ (by decide)
    have m8' : n7 % 8 < 8 := Int.emod_lt_of_pos _ (by decide)
    refine ⟨fun σ H' => ∃ (v7 : Option V) (rs : List RoadD) (xs : List V), σ = [some (.ref a), some (.int at_), some (.int d), some (.ref ki), some (.ref pl), some (.ref nm), some (.ref ro), v7] ∧ Grew P H4 H' ∧ H' ro = some (.lst xs) ∧ Paired (RoadAt K H') rs xs ∧ (∀ r ∈ rs, RoadOk d ps ks r) ∧ rs.map (·.name) = names.take rs.length ∧ 1 ≤ rs.length ∧ rs.length ≤ 8, ?_, ?_⟩
    · refine ⟨_, rfl, _, rfl, _, _, rfl, rfl, a, _, _, _, rfl, rfl, (g04.trans gr).sqL hP hS, e7, .inl ⟨_, rfl, _, _, rfl, rfl, (show (0 : Int) < 8 by decide), _, _, rfl, rfl, 1 + n7 % 8, rfl, by omega, by omega,
        for_range (n := (1 + n7 % 8).toNat) (fun i σ H' => ∃ (v7 : Option V) (rs : List RoadD) (xs : List V), σ = [some (.ref a), some (.int at_), some (.int d), some (.ref ki), some (.ref pl), some (.ref nm), some (.ref ro), v7] ∧ Grew P H4 H' ∧ H' ro = some (.lst xs) ∧ Paired (RoadAt K H') rs xs ∧ (∀ r ∈ rs, RoadOk d ps ks r) ∧ rs.map (·.name) = names.take i ∧ rs.length = i)
          ⟨none, [], [], rfl, gr, hro, .nil, fun r hr => absurd hr (by simp), rfl, rfl⟩ ?_ ?_⟩⟩
      · rintro i σ H6 hi ⟨v7, rs, xs, rfl, g6, hxs, hrs, hok, hnms, lrs⟩
        rw [Int.zero_add]
        have hi8 : i < names.length := by omega
        have g06 := g04.trans g6
        have en : names[i]? = some names[i] := List.getElem?_eq_getElem hi8
        refine ⟨_, rfl, .inl ⟨rfl, _, SqL.of hxs⟩, ?_⟩
        refine ⟨_, rfl, _, rfl, _, _, rfl, rfl, _, rfl, _, _, rfl, rfl, .inl ⟨by decide, by decide⟩, _, _, rfl, rfl, _, rfl, _, rfl, nm, _, _, _, rfl, rfl, SqL.of (g6.lst g04.tab hnm), atI_nat (by rw [List.getElem?_map, en]; rfl), _, rfl, _, rfl, _, rfl,
          a, ki, pl, ns, at_ + 8 + 10 * (i : Int), d, names[i], ks, ps, rfl, g06.sqL hP hS, hsm, by omega, by omega, d1, g6.tup g04.tab hki4, g6.tup g04.tab hpl4, by omega, by omega, dks, g06.tab, fun H7 r t g7 nt hr hn hro7 => ?_⟩
        have hxs7 := g7.lst g06.tab hxs
        have lx := Paired.len hrs
        have up : ∀ {r : RoadD} {v : V}, RoadAt K H7 r v → RoadAt K (L2.upd H7 ro (.lst (xs ++ [.ref t]))) r v := fun m => m.upd (fun xs z => by rw [hxs7] at z; cases z) (KeepT.lst hxs7)
        refine ⟨ro, _, .ref t, rfl, rfl, hxs7, by rw [sizeLine_eq]; omega, _, rs ++ [r], xs ++ [.ref t], rfl, (g6.trans g7).write hxs7 (fun _ z => by cases z) nro, upd_same, Paired.snoc (Paired.map' hrs fun r v m => up (m.grew g7 g06.tab)) (up hr), ?_, ?_, ?_⟩
        · intro y hy
          rcases List.mem_append.mp hy with hy | hy
          · exact hok y hy
          · rw [List.mem_singleton.mp hy]; exact hro7
        · rw [List.map_append, hnms, List.take_succ, en]
          show _ ++ [r.name] = _
          rw [hn]
          rfl
        · rw [List.length_append, lrs]; rfl
      · rintro σ H' ⟨v7, rs, xs, rfl, g6, hxs, hrs, hok, hnms, lrs⟩
        exact ⟨v7, rs, xs, rfl, g6, hxs, hrs, hok, by rw [hnms, lrs], by omega, by omega⟩
    rintro σ H6 ⟨v7, rs, xs, rfl, g6, hxs, hrs, hok, hnms, r1, r8⟩
    have g06 := g04.trans g6
    have nd : (rs.map (·.name)).Nodup := by rw [hnms]; exact dnm.sublist (List.take_sublist _ _)
    have nmA : (rs.map (·.name)).all isNm = true := by
      rw [hnms]
      exact List.all_eq_true.mpr fun z hz => List.all_eq_true.mp anm z (List.mem_of_mem_take hz)
    -- sorted
    refine ⟨fun σ H' => ∃ (ro2 : Addr) (rs2 : List RoadD) (ys : List V), σ = [some (.ref a), some (.int at_), some (.int d), some (.ref ki), some (.ref pl), some (.ref nm), some (.ref ro2), v7] ∧ Grew P H6 H' ∧ H' ro2 = some (.tup ys) ∧ Paired (RoadAt K H') rs2 ys ∧ rs2.Perm rs ∧ AscR rs2, ?_, ?_⟩
    · refine ⟨_, rfl, ro, xs, nameAt H6, rfl, SqL.of hxs, fun x hx => ?_, fun x hx y hy e => Paired.inj hrs nd hx hy fun r r' m m' => by rw [← m.name, ← m'.name]; exact e, fun ys l hpm hso hl => ⟨l, _, rfl, .inl ⟨SqL.of upd_same, fun p hp2 => ?_⟩⟩⟩
      · obtain ⟨r, _, m⟩ := Paired.mem hrs hx
        have nm := m.name
        obtain ⟨p, q, hv, e, e1, _⟩ := m
        exact ⟨p, _, e, by rw [nm]; exact SqT.of e1⟩
      · obtain ⟨rs', pm, hr'⟩ := Paired.perm hpm hrs
        have gl := Grew.new g06.tab (o := .lst ys) hl
        have gp := gl.put (o := .tup ys) hp2
        exact ⟨p, rs', ys, rfl, gp, upd_same, Paired.map' hr' fun _ _ m => m.grew gp g06.tab, pm, Paired.pair (fun a b x y m m' e => by rw [m.name, m'.name] at e; exact e) hr' hso⟩
    rintro σ H7 ⟨ro2, rs2, ys, rfl, g7, hys, hrs2, pm, asc⟩
    have g07 := g06.trans g7
    have hki7 := g7.tup g06.tab (g6.tup g04.tab hki4)
    have hpl7 := g7.tup g06.tab (g6.tup g04.tab hpl4)
    have nd2 : (rs2.map (·.name)).Nodup := (pm.map _).nodup_iff.mpr nd
    refine ⟨_, rfl, _, rfl, _, rfl, _, rfl, _, rfl, _, rfl, _, _, rfl, rfl, _, rfl, a, ro2, ns, at_ + 90, rs2, ys, rfl, g07.sqL hP hS, hsm, by omega, by omega, hys, hrs2, by rw [pm.length_eq]; omega, nd2, g07.tab, fun H8 ba bs zs g8 nba hba hzs ab bok => ?_⟩
    have g08 := g07.trans g8
    refine ⟨by show 5 ≤ sizeLine; decide, fun q nq => ?_⟩
    have gq := Grew.new g08.tab (o := .lst [V.int d, .ref ki, .ref pl, .ref ro2, .ref ba]) nq
    refine k _ q d ks ps rs2 bs (g08.trans gq) (g08.free nq) ⟨ki, pl, ro2, ba, ys, zs, upd_same, gq.tup g08.tab (g8.tup g07.tab hki7), gq.tup g08.tab (g8.tup g07.tab hpl7), gq.tup g08.tab (g8.tup g07.tab hys), Paired.map' hrs2 fun _ _ m => (m.grew g8 g07.tab).grew gq g08.tab, gq.tup g08.tab hba, Paired.map' hzs fun _ _ m => m.grew gq g08.tab⟩ ?_ sks sps asc ab p1 (by rw [pm.length_eq]; exact r1) (by rw [pm.length_eq]; exact r8)
    refine ⟨d1, d2, k1, by omega, by omega, aks, aps, dks, dps, ⟨by rw [pm.length_eq]; omega, ?_, nd2, fun r hr => hok r (pm.mem_iff.mp hr)⟩, bok⟩
    exact List.all_eq_true.mpr fun z hz => List.all_eq_true.mp nmA z ((pm.map _).mem_iff.mp hz)
end
end W

set_option Elab.async false
set_option linter.all false
set_option maxRecDepth 100000
set_option maxHeartbeats 2000000
namespace W
open PySem PySem.Spec PyProof.Rows L2 GxR MyG MyS
/-! ### a map of tuples -/
def spNamesT (K : PySem.W.Frag) (P : Addr) : Sp := fun vs H Q _ => ∃ (a : Addr) (ns : List Str) (lo hi : Int), vs = [.ref a, .int lo, .int hi] ∧ SqT K H a (ns.map V.str) ∧ lo ≤ ns.length ∧ (ns.length : Int) ≤ hi ∧ ns.length ≤ 1000 ∧ ns.all isNm = true ∧ ns.Nodup ∧ TabG H P ∧
  ∀ H' p ys, Grew P H H' → H p = none → H' p = some (.tup (ys.map V.str)) → ys.Perm ns → Asc ys → Q (.ref p) H'
def spRoadsT (K : PySem.W.Frag) (P : Addr) : Sp := fun vs H Q _ => ∃ (a pl ki : Addr) (d : Int) (ps ks : List Str) (rs : List RoadD) (xs : List V), vs = [.ref a, .int d, .ref pl, .ref ki] ∧ SqT K H a xs ∧ Paired (GRoad K H) rs xs ∧ SqT K H pl (ps.map V.str) ∧ SqT K H ki (ks.map V.str) ∧ RoadsOk d ps ks rs ∧ TabG H P ∧
  ∀ H' p rs' ys, Grew P H H' → KeptAll rs rs' → AscR rs' → H p = none → H' p = some (.tup ys) → Paired (RoadAt K H') rs' ys → Q (.ref p) H'
def spBarsT (K : PySem.W.Frag) (P : Addr) : Sp := fun vs H Q _ => ∃ (a d : Addr) (rs : List RoadD) (bs : List (Str × Str)) (xs : List V), vs = [.ref a, .ref d] ∧ SqT K H a xs ∧ Paired (GBar H) bs xs ∧ DictR K H d rs ∧ BarsOk rs bs ∧ TabG H P ∧
  ∀ H' p bs' ys, Grew P H H' → bs'.Perm bs → AscB bs' → H p = none → H' p = some (.tup ys) → Paired (GBar H') bs' ys → Q (.ref p) H'
def spInitTT (K : PySem.W.Frag) (M P : Addr) : Sp := fun vs H Q _ => ∃ (x dx ki pl ro ba : Addr) (d : Int) (ks ps : List Str) (rs : List RoadD) (bs : List (Str × Str)) (xs zs : List V) (H0 : Hp), vs = [.ref x, .int d, .ref ki, .ref pl, .ref ro, .ref ba] ∧
  Grew P H0 H ∧ TabG H0 P ∧ H0 x = none ∧ H x = some (.ins M dx []) ∧ SqT K H0 ki (ks.map V.str) ∧ SqT K H0 pl (ps.map V.str) ∧ SqT K H0 ro xs ∧ Paired (GRoad K H0) rs xs ∧ SqT K H0 ba zs ∧ Paired (GBar H0) bs zs ∧ PartsOk d ks ps rs bs ∧
  ∀ H' ks' ps' rs' bs', Grew P H0 H' → ks'.Perm ks → Asc ks' → ps'.Perm ps → Asc ps' → KeptAll rs rs' → AscR rs' → bs'.Perm bs → AscB bs' → MapAt K H' M x d ks' ps' rs' bs' → Q .non H'
section
variable {Pg : Program} {w : World} {K : PySem.W.Frag} {mg : Str → Option Value} {base : Heap} {C P : Addr}
theorem ok_namesT {f fN fD : Addr} {fd fdN fdD : FuncData} (F : Fun K "_checked_names" "_checked_names" sNames f fd) (hl : mg "len" = none) (ht : mg "tuple" = none) (hs : mg "sorted" = none)
    (GN : FnOk Pg w K mg base CX0 2 fN fdN ["text"] (spIsName P)) (gN : mg "is_name" = some (.ref fN)) (kN : PySem.W.keepIn K (.ref fN) = true) (bN : Binds K fdN ["text"] [])
    (GD : FnOk Pg w K mg base CX0 1 fD fdD ["parts"] (spDiff K)) (gD : mg "_check_different" = some (.ref fD)) (kD : PySem.W.keepIn K (.ref fD) = true) (bD : Binds K fdD ["parts"] []) :
    FnOk Pg w K mg base CX0 3 f fd ["names", "least", "most"] (spNamesT K P) := by
  refine F.ok scNames (fun vs H Q E h => ?_) (fun cdv A outer s H vs Q E hr h => ?_)
  · obtain ⟨a, ns, lo, hi, rfl, _⟩ := h
    rfl
  · obtain ⟨a, ns, lo, hi, rfl, hS, hlo, hhi, h1, hz, nd, hP, kQ⟩ := h
    have hr1 : Room 1 _ := hr.mono (by decide)
    refine ⟨_, pss_cons (ps_if (pt_not (pt_chain op_le op_le (pv 1) (pe_callB call_len_seq (by rfl) hl PySem.boot_len (pa_cons (pv 0) pa_nil)) (pv 2))) (pss_one ps_never) pss_nil)
      (pss_cons (ps_for PassesOwn.never rfl (pi_tup (pv 0)) (pg_name (i := 3) scNames.nd rfl (Or.inl rfl))
        (pss_one (ps_if (pt_not (pt_val (pe_call GN hr (by rfl) gN kN bN .nil pass0 (pa_cons (pv 3) pa_nil)))) (pss_one ps_never) pss_nil)))
      (pss_cons (ps_expr (pe_call GD hr1 (by rfl) gD kD bD .nil pass0 (pa_cons (pv 0) pa_nil)))
      (pss_one (ps_ret (pe_callTy call_tuple_of (by rfl) ht (by decide +kernel) (pa_cons (pe_callB cr_sortSQ (by rfl) hs (by decide +kernel) (pa_cons (pv 0) pa_nil)) pa_nil)))))), ?_⟩
    refine ⟨_, rfl, _, rfl, a, _, rfl, .inr hS, _, _, rfl, rfl, _, rfl, ?_⟩
    rw [List.length_map]
    refine if_t (decide_eq_true hlo) ⟨_, rfl, _, _, rfl, rfl, _, rfl, ?_⟩
    rw [decide_eq_true hhi]
    refine iteF ⟨_, rfl, a, rfl, ⟨_, hS⟩, for_tup (K := K) (a := a) (xs := ns.map V.str) (fun i σ H' => ∃ v, σ = [some (.ref a), some (.int lo), some (.int hi), v] ∧ Grew P H H')
      ⟨none, rfl, Grew.refl hP⟩ (fun i σ H' _ ⟨_, _, g⟩ => g.sqT hP hS) ?_ ?_⟩
    · rintro i y σ H' hi ⟨v, rfl, g⟩
      obtain ⟨z, hzi, rfl⟩ : ∃ z, ns[i]? = some z ∧ y = V.str z := by
        rw [List.getElem?_map] at hi
        obtain ⟨z, e1, e2⟩ := Option.map_eq_some_iff.mp hi
        exact ⟨z, e1, e2.symm⟩
      have hn : isNm z = true := List.all_eq_true.mp hz z (List.mem_of_getElem? hzi)
      have hzl := isNm_len hn
      refine ⟨_, rfl, z, rfl, by rw [sizeLine_eq]; omega, g.tab, fun H2 t2 => ⟨_, rfl, ?_⟩⟩
      have g2 := g.trans (Grew.of t2)
      rw [hn]
      exact iteF ⟨_, rfl, g2⟩
    · rintro σ H' ⟨v, rfl, g⟩
      refine ⟨_, rfl, a, rfl, .inl ⟨ns, .inr (g.sqT hP hS), h1, nd⟩, ?_⟩
      refine ⟨_, rfl, a, ns, rfl, .inr (g.sqT hP hS), fun ys l hp hso hl => ⟨l, _, rfl, .inl ⟨SqL.of upd_same, fun p hp2 => ?_⟩⟩⟩
      have gl := g.put (o := .lst (ys.map V.str)) hl
      exact kQ _ p ys (gl.put hp2) (gl.free hp2) upd_same hp hso
theorem ok_roadsT {f fN fR : Addr} {fd fdN fdR : FuncData} {t1 t2 t3 : Tok} (F : Fun K "_checked_roads" "_checked_roads" sRoads f fd) (hl : mg "len" = none) (ht : mg "tuple" = none) (hs : mg "sorted" = none)
    (hp : mg "PARTS" = some (.int 6 t1)) (hn : mg "NAME" = some (.int 0 t2)) (hm : mg "MOST_ROADS" = some (.int 60 t3))
    (GN : FnOk Pg w K mg base CX0 3 fN fdN ["names", "least", "most"] (spNames K P)) (gN : mg "_checked_names" = some (.ref fN)) (kN : PySem.W.keepIn K (.ref fN) = true) (bN : Binds K fdN ["names", "least", "most"] [])
    (GR : FnOk Pg w K mg base CX0 2 fR fdR ["road", "day", "places", "kinds"] (spRoad K P)) (gR : mg "_checked_road" = some (.ref fR)) (kR : PySem.W.keepIn K (.ref fR) = true) (bR : Binds K fdR ["road", "day", "places", "kinds"] []) :
    FnOk Pg w K mg base CX0 4 f fd ["roads", "day", "places", "kinds"] (spRoadsT K P) := by
  refine F.ok scRoads (fun vs H Q E h => ?_) (fun cdv A outer s H vs Q E hr h => ?_)
  · obtain ⟨a, pl, ki, d, ps, ks, rs, xs, rfl, _⟩ := h
    rfl
  · obtain ⟨a, pl, ki, d, ps, ks, rs, xs, rfl, hS, hG, hPl, hKi, ok, hP, k⟩ := h
    have hr2 : Room 2 _ := hr.mono (by decide)
    refine ⟨_, pss_cons (ps_for PassesOwn.never rfl (pi_tup (pv 0)) (pg_name (i := 4) scRoads.nd rfl (Or.inl rfl)) (pss_one (ps_if (pt_cmpR op_ne (pe_callB call_len_seq (by rfl) hl PySem.boot_len (pa_cons (pv 4) pa_nil)) (pe_gI hp) (nomark _)) (pss_one ps_never) pss_nil)))
      (pss_cons (ps_expr (pe_call GN hr (by rfl) gN kN bN .nil pass0 (pa_cons (pe_lc (own := [("road", 4)]) (g := gName 4) (tt := tYes) rfl scRoads.nd (pi_tup (pv 0)) (blkOk_by (N := nRoads) (sc := defScope sRoads) (by decide +kernel)) (fun _ _ _ _ _ => pg_name (i := 4) scRoads.nd rfl (Or.inl rfl)) (fun _ _ _ _ _ => pts_nil)
          (fun _ _ _ _ _ => pe_ix (r := rIxT K) ix_tup (pv 4) (pe_gI hn) (fun _ _ => rfl))) (pa_cons pe_int (pa_cons (pe_gI hm) pa_nil)))))
      (pss_cons (ps_setLc (i := 5) (own := [("road", 4)]) (g := gName 4) (tt := tYes) rfl scRoads.nd rfl rfl (sw_true rfl rfl rfl (by decide +kernel)) (pi_tup (pv 0)) (blkOk_by (N := nRoads) (sc := defScope sRoads) (by decide +kernel)) (fun _ _ _ _ _ => pg_name (i := 4) scRoads.nd rfl (Or.inl rfl)) (fun _ _ _ _ _ => pts_nil)
          (fun _ _ _ _ _ => pe_call GR hr2 (by rfl) gR kR bR .nil pass0 (pa_cons (pv 4) (pa_cons (pv 1) (pa_cons (pv 2) (pa_cons (pv 3) pa_nil))))))
      (pss_one (ps_ret (pe_callTy call_tuple_of (by rfl) ht (by decide +kernel) (pa_cons (pe_callB cr_sortR (by rfl) hs (by decide +kernel) (pa_cons (pv 5) pa_nil)) pa_nil)))))), ?_⟩
    have hln : rs.length = xs.length := Paired.len hG
    have hl60 := ok.len
    refine ⟨_, rfl, a, rfl, ⟨_, hS⟩, for_tup (K := K) (a := a) (xs := xs) (fun i σ H' => H' = H ∧ ∃ v, σ = [some (.ref a), some (.int d), some (.ref pl), some (.ref ki), v, none])
      ⟨rfl, none, rfl⟩ (fun i σ H' _ ⟨e, _⟩ => by rw [e]; exact hS) ?_ ?_⟩
    · rintro i y σ H' hi ⟨rfl, v, rfl⟩
      obtain ⟨r, hr, t, u, h, rfl, hT, _⟩ := Paired.at hG hi
      refine ⟨_, rfl, t, _, rfl, .inr hT, rfl, _, rfl, ?_⟩
      exact if_f (by rfl) ⟨rfl, _, rfl⟩
    · rintro σ H' ⟨rfl, v, rfl⟩
      refine ⟨_, rfl, a, rfl, ⟨_, hS⟩, fun D nD => lc_tup (K := K) (a := a) (xs := xs) (fun i H1 => Grew P H' H1 ∧ H1 D = some (.lst (((rs.map (·.name)).take i).map V.str)))
        ⟨Grew.new hP nD, upd_same⟩ (fun i H1 _ p => p.1.sqT hP hS) (fun i x H1 hx p => ?_) (fun H1 p => ?_)⟩
      · obtain ⟨g, hD⟩ := p
        obtain ⟨r, hr, t, u, h, rfl, hT, _⟩ := Paired.at hG hx
        refine ⟨rfl, _, rfl, t, _, 0, .str r.name, rfl, rfl, g.sqT hP hT, rfl, _, hD, ?_, ?_, ?_⟩
        · rw [List.length_map, List.length_take, List.length_map, sizeLine_eq]
          omega
        · exact g.write hD (fun _ z => by cases z) nD
        · rw [upd_same, List.take_succ, List.getElem?_map, hr, List.map_append]
          rfl
      · obtain ⟨g, hD⟩ := p
        rw [← hln, ← List.length_map (f := (·.name)), List.take_length] at hD
        refine ⟨D, rs.map (·.name), 0, 60, rfl, SqL.of hD, by omega, by rw [List.length_map]; omega, by rw [List.length_map]; omega, ok.nm, ok.nd, g.tab, fun H2 p2 ys2 g2 np e2 _ _ => ?_⟩
        have g3 := g.trans g2
        refine ⟨_, rfl, a, rfl, ⟨_, g3.sqT hP hS⟩, fun D2 nD2 => lc_tup (K := K) (a := a) (xs := xs) (fun i H1 => Grew P H' H1 ∧ ∃ acc ms, H1 D2 = some (.lst acc) ∧ Paired Kept (rs.take i) ms ∧ Paired (RoadAt K H1) ms acc)
          ⟨g3.put nD2, [], [], upd_same, .nil, .nil⟩ (fun i H1 _ p => p.1.sqT hP hS) (fun i x H1 hx p => ?_) (fun H1 p => ?_)⟩
        · obtain ⟨g4, acc, ms, hD4, hk4, hm4⟩ := p
          obtain ⟨r, hr, hgr⟩ := Paired.at hG hx
          have nD2' := g3.free nD2
          refine ⟨rfl, _, rfl, _, rfl, _, rfl, _, rfl, x, pl, ki, d, ps, ks, r, rfl, hgr.keep (KeepT.grew g4 hP), g4.sqT hP hPl, g4.sqT hP hKi, ok.ok r (List.mem_of_getElem? hr), g4.tab, fun H5 p5 q5 h5 r5 g5 kp n5 e5 f5 hh5 => ?_⟩
          have hD5 := g5.lst g4.tab hD4
          have g45 := g4.trans g5
          refine ⟨acc, hD5, ?_, g45.write hD5 (fun _ z => by cases z) nD2', acc ++ [.ref p5], ms ++ [r5], upd_same, ?_, ?_⟩
          · rw [← Paired.len hm4, ← Paired.len hk4, List.length_take, sizeLine_eq]
            omega
          · rw [List.take_succ, hr]
            exact Paired.snoc hk4 kp
          · have up : ∀ {r : RoadD} {v : V}, RoadAt K H5 r v → RoadAt K (L2.upd H5 D2 (.lst (acc ++ [.ref p5]))) r v := fun m => m.upd (fun xs z => by rw [hD5] at z; cases z) (KeepT.lst hD5)
            exact Paired.snoc (Paired.map' hm4 fun r v m => up (m.grew g5 g4.tab)) (up ⟨p5, q5, h5, rfl, e5, f5, hh5⟩)
        · obtain ⟨g4, acc, ms, hD4, hk4, hm4⟩ := p
          rw [← hln, List.take_length] at hk4
          have nd : (ms.map (·.name)).Nodup := by rw [kept_names hk4]; exact ok.nd
          refine ⟨_, rfl, D2, acc, nameAt H1, rfl, SqL.of hD4, fun x hx => ?_, fun x hx y hy e => Paired.inj hm4 nd hx hy fun r r' m m' => by rw [← m.name, ← m'.name]; exact e, fun ys l hpm hso hl => ⟨l, _, rfl, .inl ⟨SqL.of upd_same, fun p hp2 => ?_⟩⟩⟩
          · obtain ⟨r, _, m⟩ := Paired.mem hm4 hx
            have nm := m.name
            obtain ⟨p, q, hv, e, e1, _⟩ := m
            exact ⟨p, _, e, by rw [nm]; exact SqT.of e1⟩
          · obtain ⟨rs', pm, hr'⟩ := Paired.perm hpm hm4
            have gl := Grew.new g4.tab (o := .lst ys) hl
            have gp := gl.put (o := .tup ys) hp2
            exact k _ p rs' ys (g4.trans gp) ⟨ms, pm.symm, hk4⟩ (Paired.pair (fun a b x y m m' e => by rw [m.name, m'.name] at e; exact e) hr' hso) (g4.free (gl.free hp2)) upd_same (Paired.map' hr' fun _ _ m => m.grew gp g4.tab)
theorem ok_barsT {f fD : Addr} {fd fdD : FuncData} {t1 t2 t3 : Tok} (F : Fun K "_checked_bars" "_checked_bars" sBars f fd) (hl : mg "len" = none) (ht : mg "tuple" = none) (hs : mg "sorted" = none)
    (hm : mg "MOST_BARS" = some (.int 40 t1)) (he : mg "END" = some (.int 2 t2)) (hst : mg "START" = some (.int 1 t3))
    (GD : FnOk Pg w K mg base CX0 1 fD fdD ["parts"] (spDiff K)) (gD : mg "_check_different" = some (.ref fD)) (kD : PySem.W.keepIn K (.ref fD) = true) (bD : Binds K fdD ["parts"] []) :
    FnOk Pg w K mg base CX0 2 f fd ["bars", "roads_by_name"] (spBarsT K P) := by
  refine F.ok scBars (fun vs H Q E h => ?_) (fun cdv A outer s H vs Q E hr h => ?_)
  · obtain ⟨a, d, rs, bs, xs, rfl, _⟩ := h
    rfl
  · obtain ⟨a, d, rs, bs, xs, rfl, hS, hG, hD, ok, hP, k⟩ := h
    refine ⟨_, pss_cons (ps_if (pt_cmpR op_gt (pe_callB call_len_seq (by rfl) hl PySem.boot_len (pa_cons (pv 0) pa_nil)) (pe_gI hm) (nomark _)) (pss_one ps_never) pss_nil)
      (pss_cons (ps_for PassesOwn.never rfl (pi_tup (pv 0)) (pg_name (i := 2) scBars.nd rfl (Or.inl rfl))
        (pss_cons (ps_if (pt_cmpR op_ne (pe_callB call_len_seq (by rfl) hl PySem.boot_len (pa_cons (pv 2) pa_nil)) pe_int (nomark _)) (pss_one ps_never) pss_nil)
        (pss_cons (ps_asg (pv 2) (pg_tup (by rfl) (pgs_cons (pg_name (i := 3) scBars.nd rfl (.inl rfl)) (pgs_cons (pg_name (i := 4) scBars.nd rfl (.inl rfl)) pgs_nil))))
        (pss_cons (ps_if (PW.pt (pw_or (pt_cmp (pc_dnotin (u1 hr.units) (pv 3) (pv 1))) (pw_or1 (pt_cmp (pc_dnotin (u1 hr.units) (pv 4) (pv 1)))))) (pss_one ps_never) pss_nil)
        (pss_one (ps_if (pt_cmpR op_ne (pe_ix ix_tup (pe_dget (u1 hr.units) (pv 1) (pv 3) (fun _ _ => rfl)) (pe_gI he) (fun _ _ => rfl)) (pe_ix ix_tup (pe_dget (u1 hr.units) (pv 1) (pv 4) (fun _ _ => rfl)) (pe_gI hst) (fun _ _ => rfl)) (nomark _)) (pss_one ps_never) pss_nil))))))
      (pss_cons (ps_setLc (i := 5) (own := [("bar", 2)]) (g := gName 2) (tt := tYes) rfl scBars.nd rfl rfl (sw_true rfl rfl rfl (by decide +kernel)) (pi_tup (pv 0)) (blkOk_by (N := nBars) (sc := defScope sBars) (by decide +kernel)) (fun _ _ _ _ _ => pg_name (i := 2) scBars.nd rfl (Or.inl rfl)) (fun _ _ _ _ _ => pts_nil)
          (fun _ _ _ _ _ => pe_callTy (r := rTupOf K) call_tuple_of (by rfl) ht (by decide +kernel) (pa_cons (pv 2) pa_nil)))
      (pss_cons (ps_expr (pe_call GD (hr.mono (by decide)) (by rfl) gD kD bD .nil pass0 (pa_cons (pv 5) pa_nil)))
      (pss_one (ps_ret (pe_callTy call_tuple_of (by rfl) ht (by decide +kernel) (pa_cons (pe_callB cr_sortB (by rfl) hs (by decide +kernel) (pa_cons (pv 5) pa_nil)) pa_nil))))))), ?_⟩
    have hln := Paired.len hG
    have hl40 := ok.len
    refine ⟨_, rfl, a, _, rfl, .inr hS, _, _, rfl, rfl, _, rfl, if_f (decide_eq_false (by omega)) ?_⟩
    refine ⟨_, rfl, a, rfl, ⟨_, hS⟩, for_tup (K := K) (a := a) (xs := xs) (fun i σ H' => H' = H ∧ ∃ v1 v2 v3, σ = [some (.ref a), some (.ref d), v1, v2, v3, none])
      ⟨rfl, none, none, none, rfl⟩ (fun i σ H' _ ⟨e, _⟩ => by rw [e]; exact hS) ?_ ?_⟩
    · rintro i y σ H' hi ⟨rfl, v1, v2, v3, rfl⟩
      obtain ⟨b, hb, t, rfl, hT⟩ := Paired.at hG hi
      obtain ⟨r1, hr1, r2, hr2, e1, e2, e3⟩ := ok.ok b (List.mem_of_getElem? hb)
      obtain ⟨kvs, hd, hin, _⟩ := hD
      obtain ⟨w1, l1, p1, q1, h1, rfl, a1, _, _⟩ := hin r1 hr1
      obtain ⟨w2, l2, p2, q2, h2, rfl, a2, _, _⟩ := hin r2 hr2
      rw [← e1] at l1
      rw [← e2] at l2
      have g1 : DGet H' d (.str b.1) (some (.ref p1)) := by rw [← l1]; exact DGet.k (k := .inr b.1) hd
      have g2 : DGet H' d (.str b.2) (some (.ref p2)) := by rw [← l2]; exact DGet.k (k := .inr b.2) hd
      refine ⟨_, rfl, t, _, rfl, .inr (SqT.of hT), rfl, _, rfl, if_f (by rfl) ?_⟩
      refine ⟨_, rfl, t, _, rfl, SqT.of hT, rfl, _, _, rfl, _, _, rfl, rfl, ?_⟩
      refine ⟨_, rfl, _, rfl, d, _, rfl, g1, _, rfl, if_f (by rfl) ?_⟩
      refine ⟨_, rfl, _, rfl, d, _, rfl, g2, _, rfl, if_f (by rfl) ?_⟩
      refine ⟨_, rfl, _, rfl, d, _, rfl, g1, p1, _, 2, .str r1.goal, rfl, rfl, SqT.of a1, rfl, _, rfl, _, rfl, d, _, rfl, g2, p2, _, 1, .str r2.start, rfl, rfl, SqT.of a2, rfl, rfl, _, rfl, if_f ?_ ⟨rfl, _, _, _, rfl⟩⟩
      rw [e3]
      simp
    · rintro σ H' ⟨rfl, v1, v2, v3, rfl⟩
      refine ⟨_, rfl, a, rfl, ⟨_, hS⟩, fun D nD => lc_tup (K := K) (a := a) (xs := xs) (fun i H1 => Grew P H' H1 ∧ H1 D = some (.lst (xs.take i)))
        ⟨Grew.new hP nD, upd_same⟩ (fun i H1 _ p => p.1.sqT hP hS) (fun i x H1 hx p => ?_) (fun H1 p => ?_)⟩
      · obtain ⟨g, hD1⟩ := p
        obtain ⟨b, hb, t, rfl, hT⟩ := Paired.at hG hx
        refine ⟨rfl, _, rfl, t, _, rfl, .inr ⟨SqT.of (g.tup hP hT), _, hD1, ?_, g.write hD1 (fun _ z => by cases z) nD, ?_⟩⟩
        · rw [List.length_take, sizeLine_eq]; omega
        · rw [upd_same, List.take_succ, hx]; rfl
      · obtain ⟨g, hD1⟩ := p
        rw [List.take_length] at hD1
        have hG1 : Paired (GBar H1) bs xs := Paired.map' hG fun b v m => m.grew g hP
        obtain ⟨ks, ek1, ek2, ek3⟩ := bars_keys (K := K) hG1
        have lk : ks.length = xs.length := by rw [ek1, List.length_map]
        refine ⟨_, rfl, D, rfl, .inr ⟨ks, by rw [← ek1]; exact SqL.of hD1, ek3, by omega, by rw [ek2]; exact nodup_bars ok.nd⟩, ?_⟩
        refine ⟨_, rfl, D, xs, barAt H1, rfl, SqL.of hD1, fun x hx => ?_, fun ys l hpm hso hl => ⟨l, _, rfl, .inl ⟨SqL.of upd_same, fun p hp2 => ?_⟩⟩⟩
        · obtain ⟨b, _, m⟩ := Paired.mem hG1 hx
          have nm := m.at
          obtain ⟨t, e, q⟩ := m
          exact ⟨t, e, by rw [nm]; exact SqT.of q⟩
        · obtain ⟨bs', pm, hr'⟩ := Paired.perm hpm hG1
          have gl := Grew.new g.tab (o := .lst ys) hl
          have gp := gl.put (o := .tup ys) hp2
          exact k _ p bs' ys (g.trans gp) pm (Paired.pair (fun a b x y m m' e => by rw [m.at, m'.at] at e; exact e) hr' hso) (g.free (gl.free hp2)) upd_same (Paired.map' hr' fun _ _ m => m.grew gp g.tab)
theorem ok_initTT {f fY fN fR fB M : Addr} {fd fdY fdN fdR fdB : FuncData} {t1 t2 t3 : Tok} {dvs : List V} {kws : List (Str × V)} (F : FunD K "__init__" "Map.__init__" (defArgs sInit) (defBody sInit) (defScope sInit) dvs kws f fd) (T : TxtM K M)
    (hn : mg "NAME" = some (.int 0 t1)) (hk : mg "MOST_KINDS" = some (.int 4 t2)) (hp : mg "MOST_PLACES" = some (.int 30 t3))
    (GY : FnOk Pg w K mg base CX0 1 fY fdY ["day"] spDay) (gY : mg "_checked_day" = some (.ref fY)) (kY : PySem.W.keepIn K (.ref fY) = true) (bY : Binds K fdY ["day"] [])
    (GN : FnOk Pg w K mg base CX0 3 fN fdN ["names", "least", "most"] (spNamesT K P)) (gN : mg "_checked_names" = some (.ref fN)) (kN : PySem.W.keepIn K (.ref fN) = true) (bN : Binds K fdN ["names", "least", "most"] [])
    (GR : FnOk Pg w K mg base CX0 4 fR fdR ["roads", "day", "places", "kinds"] (spRoadsT K P)) (gR : mg "_checked_roads" = some (.ref fR)) (kR : PySem.W.keepIn K (.ref fR) = true) (bR : Binds K fdR ["roads", "day", "places", "kinds"] [])
    (GB : FnOk Pg w K mg base CX0 2 fB fdB ["bars", "roads_by_name"] (spBarsT K P)) (gB : mg "_checked_bars" = some (.ref fB)) (kB : PySem.W.keepIn K (.ref fB) = true) (bB : Binds K fdB ["bars", "roads_by_name"] []) :
    FnOk Pg w K mg base CX0 5 f fd pInit (spInitTT K M P) := by
  refine F.ok scInit (fun vs H Q E h => ?_) (fun cdv A outer s H vs Q E hr h => ?_)
  · obtain ⟨x, dx, ki, pl, ro, ba, d, ks, ps, rs, bs, xs, zs, H0, rfl, _⟩ := h
    rfl
  · obtain ⟨x, dx, ki, pl, ro, ba, d, ks, ps, rs, bs, xs, zs, H0, rfl, g0, hP0, nx, hx, hKi, hPl, hRo, hG, hBa, hB, ok, k⟩ := h
    have hr1 : Room 1 _ := hr.mono (by decide)
    have hr2 : Room 2 _ := hr.mono (by decide)
    have hr3 : Room 3 _ := hr.mono (by decide)
    refine ⟨_, pss_cons (ps_fld (pv 0) (pe_call GY hr1 (by rfl) gY kY bY .nil pass0 (pa_cons (pv 1) pa_nil)) rfl)
      (pss_cons (ps_fld (pv 0) (pe_call GN hr3 (by rfl) gN kN bN .nil pass0 (pa_cons (pv 2) (pa_cons pe_int (pa_cons (pe_gI hk) pa_nil)))) rfl)
      (pss_cons (ps_fld (pv 0) (pe_call GN hr3 (by rfl) gN kN bN .nil pass0 (pa_cons (pv 3) (pa_cons pe_int (pa_cons (pe_gI hp) pa_nil)))) rfl)
      (pss_cons (ps_fld (pv 0) (pe_call GR hr (by rfl) gR kR bR .nil pass0 (pa_cons (pv 4) (pa_cons (pv 1) (pa_cons (pe_fld (pv 0) rfl) (pa_cons (pe_fld (pv 0) rfl) pa_nil))))) rfl)
      (pss_cons (ps_fld (pv 0) (pe_dc (own := [("road", 6)]) (g := gName 6) (tt := tYes) rfl scInit.nd (pi_tup (pe_fld (pv 0) rfl)) (blkOk_by (N := nInit) (sc := defScope sInit) (by decide +kernel)) (fun _ _ _ _ _ => pg_name (i := 6) scInit.nd rfl (Or.inl rfl)) (fun _ _ _ _ _ => pts_nil)
          (fun _ _ _ _ _ => pe_ix (r := rIxT K) ix_tup (pv 6) (pe_gI hn) (fun _ _ => rfl)) (fun _ _ _ _ _ => pv 6)) rfl)
      (pss_cons (ps_fld (pv 0) (pe_call GB hr2 (by rfl) gB kB bB .nil pass0 (pa_cons (pv 5) (pa_cons (pe_fld (pv 0) rfl) pa_nil))) rfl)
      (pss_one (ps_fld (pv 0) (pe_dcT (own := [("bar", 7)]) (g := gName 7) (tt := tYes) (u1 hr.units) rfl scInit.nd (pi_tup (pe_fld (pv 0) rfl)) (blkOk_by (N := nInit) (sc := defScope sInit) (by decide +kernel)) (fun _ _ _ _ _ => pg_name (i := 7) scInit.nd rfl (Or.inl rfl)) (fun _ _ _ _ _ => pts_nil)
          (fun _ _ _ _ _ => pv 7) (fun _ _ _ _ _ => pe_bl)) rfl))))))), ?_⟩
    have nins : ∀ (fs : List (Str × V)) (q : Array Value), (HO.ins M dx fs) ≠ .tbl q := fun _ _ z => by cases z
    have k1 := ok.k1
    have k2 := ok.k2
    have p2 := ok.p2
    -- day
    refine ⟨_, rfl, d, rfl, ok.d1, ok.d2, _, rfl, x, M, dx, [], rfl, hx, T.cl, T.n1, by decide, ?_⟩
    have ga := g0.write (o := .ins M dx (putF "day" (.int d) [])) hx (nins _) nx
    have la : (putF ("day" : Str) (V.int d) []).length ≤ 1 := length_putF _ _ []
    -- kinds
    refine ⟨_, rfl, ki, ks, 1, 4, rfl, ga.sqT hP0 hKi, by omega, by omega, by omega, ok.kn, ok.kd, ga.tab, fun Hb kk ks' gb nk ek pk ak => ?_⟩
    have xb := gb.get ga.tab upd_same (nins _)
    refine ⟨_, rfl, x, M, dx, _, rfl, xb, T.cl, T.n2, by omega, ?_⟩
    have gc := (ga.trans gb).write (o := .ins M dx (putF "kinds" (.ref kk) (putF "day" (.int d) []))) xb (nins _) nx
    have lc := length_putF ("kinds" : Str) (V.ref kk) (putF ("day" : Str) (V.int d) [])
    have tk := tup_ins (o := .ins M dx (putF "kinds" (.ref kk) (putF "day" (.int d) []))) xb ek
    -- places
    refine ⟨_, rfl, pl, ps, 0, 30, rfl, gc.sqT hP0 hPl, by omega, by omega, by omega, ok.pn, ok.pd, gc.tab, fun Hd pp ps' gd np ep pp' ap => ?_⟩
    have xd := gd.get gc.tab upd_same (nins _)
    refine ⟨_, rfl, x, M, dx, _, rfl, xd, T.cl, T.n3, by omega, ?_⟩
    have ge := (gc.trans gd).write (o := .ins M dx (putF "places" (.ref pp) (putF "kinds" (.ref kk) (putF "day" (.int d) [])))) xd (nins _) nx
    have le := length_putF ("places" : Str) (V.ref pp) (putF ("kinds" : Str) (V.ref kk) (putF ("day" : Str) (V.int d) []))
    generalize hfs : putF ("places" : Str) (V.ref pp) (putF ("kinds" : Str) (V.ref kk) (putF ("day" : Str) (V.int d) [])) = fs at ge le ⊢
    have f0 : ∀ f, f ∉ nmF → fs.lookup f = none := by rw [← hfs]; exact noF (noF (noF (fun _ _ => rfl) (by decide +kernel)) (by decide +kernel)) (by decide +kernel)
    have f3 : fs.lookup ("places" : Str) = some (V.ref pp) := by rw [← hfs, lookup_putF, if_pos rfl]
    have f2 : fs.lookup ("kinds" : Str) = some (V.ref kk) := by rw [← hfs, lookup_putF, if_neg (by decide +kernel), lookup_putF, if_pos rfl]
    have f1 : fs.lookup ("day" : Str) = some (V.int d) := by rw [← hfs, lookup_putF, if_neg (by decide +kernel), lookup_putF, if_neg (by decide +kernel), lookup_putF, if_pos rfl]
    have tk2 := tup_ins (o := .ins M dx fs) xd (gd.tup gc.tab tk)
    have tp2 := tup_ins (o := .ins M dx fs) xd ep
    -- roads
    have okr := ok.r.perm pp' pk
    refine ⟨_, rfl, _, rfl, _, rfl, x, M, dx, _, _, rfl, upd_same, T.cl, T.n3, f3, _, rfl, x, M, dx, _, _, rfl, upd_same, T.cl, T.n2, f2,
      ro, pp, kk, d, ps', ks', rs, xs, rfl, ge.sqT hP0 hRo, Paired.map' hG (fun r v m => m.keep (KeepT.grew ge hP0)), SqT.of tp2, SqT.of tk2, okr, ge.tab, fun Hf rr rs' ys gf kr ar nr er hm => ?_⟩
    have xf := gf.get ge.tab upd_same (nins _)
    refine ⟨_, rfl, x, M, dx, _, rfl, xf, T.cl, T.n4, by omega, ?_⟩
    have gg := (ge.trans gf).write (o := .ins M dx (putF "roads" (.ref rr) fs)) xf (nins _) nx
    have lg := length_putF ("roads" : Str) (V.ref rr) fs
    have fg4 : (putF ("roads" : Str) (V.ref rr) fs).lookup ("roads" : Str) = some (V.ref rr) := by rw [lookup_putF, if_pos rfl]
    have fg3 : (putF ("roads" : Str) (V.ref rr) fs).lookup ("places" : Str) = some (V.ref pp) := by rw [lookup_putF, if_neg (by decide +kernel)]; exact f3
    have fg2 : (putF ("roads" : Str) (V.ref rr) fs).lookup ("kinds" : Str) = some (V.ref kk) := by rw [lookup_putF, if_neg (by decide +kernel)]; exact f2
    have fg1 : (putF ("roads" : Str) (V.ref rr) fs).lookup ("day" : Str) = some (V.int d) := by rw [lookup_putF, if_neg (by decide +kernel)]; exact f1
    have fg0 := noF (v := V.ref rr) f0 (show ("roads" : Str) ∈ nmF by decide +kernel)
    generalize hgs : putF ("roads" : Str) (V.ref rr) fs = gs at gg lg fg0 fg1 fg2 fg3 fg4 ⊢
    have tr3 := tup_ins (o := .ins M dx gs) xf er
    have tk3 := tup_ins (o := .ins M dx gs) xf (gf.tup ge.tab tk2)
    have tp3 := tup_ins (o := .ins M dx gs) xf (gf.tup ge.tab tp2)
    have hm3 : Paired (RoadAt K (L2.upd Hf x (.ins M dx gs))) rs' ys := Paired.map' hm fun r v m => m.ins xf
    have lys : ys.length ≤ 60 := by rw [← Paired.len hm3, kr.len]; exact ok.r.len
    have ndr := kr.nodup ok.r.nd
    generalize hHg : L2.upd Hf x (.ins M dx gs) = Hg at gg tr3 tk3 tp3 hm3 ⊢
    have xg : Hg x = some (.ins M dx gs) := by rw [← hHg]; exact upd_same
    -- _roads_by_name
    refine ⟨_, rfl, x, M, dx, _, _, rfl, xg, T.cl, T.n4, fg4, rr, rfl, ⟨_, SqT.of tr3⟩, fun D nD => dc_tup (K := K) (a := rr) (xs := ys)
      (fun i H1 => Grew P Hg H1 ∧ ∃ kvs, H1 D = some (.dK kvs) ∧ kvs.length ≤ i ∧ (∀ (j : Nat) r v, j < i → rs'[j]? = some r → ys[j]? = some v → valV kvs (.inr r.name) = some v) ∧ ∀ z : Str, (∀ r ∈ rs'.take i, r.name ≠ z) → valV kvs (.inr z) = none)
      ⟨Grew.new gg.tab nD, [], upd_same, Nat.le_refl _, fun j r v h => absurd h (Nat.not_lt_zero _), fun z _ => rfl⟩ (fun i H1 _ p => SqT.of (p.1.tup gg.tab tr3)) (fun i y H1 hy p => ?_) (fun Hh p => ?_)⟩
    · obtain ⟨g, kvs, hD, hl, hin, hno⟩ := p
      obtain ⟨r, hri, m⟩ := Paired.at hm3 hy
      have hi : i < ys.length := (List.getElem?_eq_some_iff.mp hy).1
      have m1 := m.grew g gg.tab
      obtain ⟨t, q, h, rfl, et, _⟩ := m1
      refine ⟨rfl, _, rfl, t, _, 0, .str r.name, rfl, rfl, SqT.of et, rfl, _, rfl, kvs, .inr r.name, rfl, hD, ?_, g.write hD (fun _ z => by cases z) nD, _, upd_same, ?_, fun j r' v' hj hr' hv' => ?_, fun z hz => ?_⟩
      · rw [sizeLine_eq]; omega
      · exact Nat.le_trans (length_putK kvs (.inr r.name) _) (by omega)
      · rw [valV_put]
        by_cases e : j = i
        · subst e
          rw [hri] at hr'
          rw [hy] at hv'
          cases hr'; cases hv'
          rw [if_pos rfl]
        · have ne : ¬ (Sum.inr r'.name : Key) = .inr r.name := fun z => by
            injection z with z
            have hri' := (List.getElem?_eq_some_iff.mp hri)
            have hrj' := (List.getElem?_eq_some_iff.mp hr')
            obtain ⟨a1, a2⟩ := hri'
            obtain ⟨b1, b2⟩ := hrj'
            refine absurd ?_ (List.pairwise_iff_getElem.mp ndr j i (by rw [List.length_map]; exact b1) (by rw [List.length_map]; exact a1) (by omega))
            rw [List.getElem_map, List.getElem_map, a2, b2]
            exact z
          rw [if_neg ne]
          exact hin j r' v' (by omega) hr' hv'
      · rw [valV_put, if_neg ?_]
        · exact hno z fun r' hr' => hz r' (by rw [List.take_succ]; exact List.mem_append_left _ hr')
        · intro e
          injection e with e
          exact hz r (by rw [List.take_succ, hri]; exact List.mem_append_right _ (List.mem_singleton.mpr rfl)) e.symm
    · obtain ⟨gh, kvs, hD, hl, hin, hno⟩ := p
      have xh := gh.get gg.tab xg (nins _)
      refine ⟨_, rfl, x, M, dx, _, rfl, xh, T.cl, T.n5, by omega, ?_⟩
      have gi := (gg.trans gh).write (o := .ins M dx (putF "_roads_by_name" (.ref D) gs)) xh (nins _) nx
      have li := length_putF ("_roads_by_name" : Str) (V.ref D) gs
      have fi5 : (putF ("_roads_by_name" : Str) (V.ref D) gs).lookup ("_roads_by_name" : Str) = some (V.ref D) := by rw [lookup_putF, if_pos rfl]
      have fi4 : (putF ("_roads_by_name" : Str) (V.ref D) gs).lookup ("roads" : Str) = some (V.ref rr) := by rw [lookup_putF, if_neg (by decide +kernel)]; exact fg4
      have fi3 : (putF ("_roads_by_name" : Str) (V.ref D) gs).lookup ("places" : Str) = some (V.ref pp) := by rw [lookup_putF, if_neg (by decide +kernel)]; exact fg3
      have fi2 : (putF ("_roads_by_name" : Str) (V.ref D) gs).lookup ("kinds" : Str) = some (V.ref kk) := by rw [lookup_putF, if_neg (by decide +kernel)]; exact fg2
      have fi1 : (putF ("_roads_by_name" : Str) (V.ref D) gs).lookup ("day" : Str) = some (V.int d) := by rw [lookup_putF, if_neg (by decide +kernel)]; exact fg1
      have fi0 := noF (v := V.ref D) fg0 (show ("_roads_by_name" : Str) ∈ nmF by decide +kernel)
      generalize his : putF ("_roads_by_name" : Str) (V.ref D) gs = is at gi li fi0 fi1 fi2 fi3 fi4 fi5 ⊢
      have hmh : Paired (RoadAt K Hh) rs' ys := Paired.map' hm3 fun r v m => m.grew gh gg.tab
      have dR : DictR K (L2.upd Hh x (.ins M dx is)) D rs' := by
        refine DictR.ins xh ⟨kvs, hD, fun r hr => ?_, fun z hz => hno z fun r hr => hz r (List.mem_of_mem_take hr)⟩
        obtain ⟨j, hj, ej⟩ := List.getElem_of_mem hr
        have hj' : rs'[j]? = some r := List.getElem?_eq_some_iff.mpr ⟨hj, ej⟩
        obtain ⟨v, hv, m⟩ := Paired.to hmh hj'
        exact ⟨v, hin j r v (List.getElem?_eq_some_iff.mp hv).1 hj' hv, m⟩
      have tr4 := tup_ins (o := .ins M dx is) xh (gh.tup gg.tab tr3)
      have tk4 := tup_ins (o := .ins M dx is) xh (gh.tup gg.tab tk3)
      have tp4 := tup_ins (o := .ins M dx is) xh (gh.tup gg.tab tp3)
      have hm4 : Paired (RoadAt K (L2.upd Hh x (.ins M dx is))) rs' ys := Paired.map' hmh fun r v m => m.ins xh
      generalize hHi : L2.upd Hh x (.ins M dx is) = Hi at gi tr4 tk4 tp4 hm4 dR ⊢
      have xi : Hi x = some (.ins M dx is) := by rw [← hHi]; exact upd_same
      -- bars
      refine ⟨_, rfl, _, rfl, x, M, dx, _, _, rfl, xi, T.cl, T.n5, fi5, ba, D, rs', bs, zs, rfl, gi.sqT hP0 hBa, Paired.map' hB (fun b v m => m.grew gi hP0), dR, ok.b.kept kr, gi.tab, fun Hj bb bs' zs' gj pb ab nb eb hz => ?_⟩
      have xj := gj.get gi.tab xi (nins _)
      refine ⟨_, rfl, x, M, dx, _, rfl, xj, T.cl, T.n6, by omega, ?_⟩
      have gk := (gi.trans gj).write (o := .ins M dx (putF "bars" (.ref bb) is)) xj (nins _) nx
      have lk := length_putF ("bars" : Str) (V.ref bb) is
      have fk6 : (putF ("bars" : Str) (V.ref bb) is).lookup ("bars" : Str) = some (V.ref bb) := by rw [lookup_putF, if_pos rfl]
      have fk5 : (putF ("bars" : Str) (V.ref bb) is).lookup ("_roads_by_name" : Str) = some (V.ref D) := by rw [lookup_putF, if_neg (by decide +kernel)]; exact fi5
      have fk4 : (putF ("bars" : Str) (V.ref bb) is).lookup ("roads" : Str) = some (V.ref rr) := by rw [lookup_putF, if_neg (by decide +kernel)]; exact fi4
      have fk3 : (putF ("bars" : Str) (V.ref bb) is).lookup ("places" : Str) = some (V.ref pp) := by rw [lookup_putF, if_neg (by decide +kernel)]; exact fi3
      have fk2 : (putF ("bars" : Str) (V.ref bb) is).lookup ("kinds" : Str) = some (V.ref kk) := by rw [lookup_putF, if_neg (by decide +kernel)]; exact fi2
      have fk1 : (putF ("bars" : Str) (V.ref bb) is).lookup ("day" : Str) = some (V.int d) := by rw [lookup_putF, if_neg (by decide +kernel)]; exact fi1
      have fk0 := noF (v := V.ref bb) fi0 (show ("bars" : Str) ∈ nmF by decide +kernel)
      generalize hjs : putF ("bars" : Str) (V.ref bb) is = js at gk lk fk0 fk1 fk2 fk3 fk4 fk5 fk6 ⊢
      have tb5 := tup_ins (o := .ins M dx js) xj eb
      have tr5 := tup_ins (o := .ins M dx js) xj (gj.tup gi.tab tr4)
      have tk5 := tup_ins (o := .ins M dx js) xj (gj.tup gi.tab tk4)
      have tp5 := tup_ins (o := .ins M dx js) xj (gj.tup gi.tab tp4)
      have hm5 : Paired (RoadAt K (L2.upd Hj x (.ins M dx js))) rs' ys := Paired.map' hm4 fun r v m => (m.grew gj gi.tab).ins xj
      have hz5 : Paired (GBar (L2.upd Hj x (.ins M dx js))) bs' zs' := Paired.map' hz fun b v m => m.ins xj
      have dR5 : DictR K (L2.upd Hj x (.ins M dx js)) D rs' := (dR.grew gj gi.tab).ins xj
      have lzs : zs'.length ≤ 40 := by rw [← Paired.len hz5, pb.length_eq]; exact ok.b.len
      generalize hHk : L2.upd Hj x (.ins M dx js) = Hk at gk tb5 tr5 tk5 tp5 hm5 hz5 dR5 ⊢
      have xk : Hk x = some (.ins M dx js) := by rw [← hHk]; exact upd_same
      -- _barred
      refine ⟨_, rfl, x, M, dx, _, _, rfl, xk, T.cl, T.n6, fk6, bb, rfl, ⟨_, SqT.of tb5⟩, fun D2 nD2 => dcT_tup (K := K) (a := bb) (xs := zs')
        (fun i H1 => Grew P Hk H1 ∧ ∃ kvs : List (List Key × V), H1 D2 = some (.dT kvs) ∧ kvs.length ≤ i ∧ ∀ a b : Str, (valV kvs [.inr a, .inr b]).isSome = true ↔ (a, b) ∈ bs'.take i)
        ⟨Grew.new gk.tab nD2, [], upd_same, Nat.le_refl _, fun a b => by simp [valV_nil]⟩ (fun i H1 _ p => SqT.of (p.1.tup gk.tab tb5)) (fun i y H1 hy p => ?_) (fun Hl p => ?_)⟩
      · obtain ⟨g, kvs, hD, hl, hin⟩ := p
        obtain ⟨b, hbi, m⟩ := Paired.at hz5 hy
        have hi : i < zs'.length := (List.getElem?_eq_some_iff.mp hy).1
        obtain ⟨t, rfl, et⟩ := m.grew g gk.tab
        refine ⟨rfl, _, rfl, kvs, [.inr b.1, .inr b.2], t, rfl, et, hD, ?_, g.write hD (fun _ z => by cases z) nD2, _, upd_same, ?_, fun a' b' => ?_⟩
        · rw [sizeLine_eq]; omega
        · have := length_putK kvs ([.inr b.1, .inr b.2] : List Key) (V.bl true)
          omega
        · rw [valV_put, List.take_succ, hbi, List.mem_append]
          by_cases e : ([.inr a', .inr b'] : List Key) = [.inr b.1, .inr b.2]
          · rw [if_pos e]
            have e1 : a' = b.1 := Sum.inr.inj (List.cons.inj e).1
            have e2 : b' = b.2 := Sum.inr.inj (List.cons.inj (List.cons.inj e).2).1
            subst e1 e2
            exact ⟨fun _ => .inr (List.mem_singleton.mpr rfl), fun _ => rfl⟩
          · rw [if_neg e, hin a' b']
            refine ⟨.inl, fun h => h.elim id fun h => ?_⟩
            have h' : (a', b') = b := List.mem_singleton.mp h
            subst h'
            exact absurd rfl e
      · obtain ⟨gl, kvs, hD, hl, hin⟩ := p
        have lb : bs'.length = zs'.length := Paired.len hz5
        rw [← lb, List.take_length] at hin
        have xl := gl.get gk.tab xk (nins _)
        refine ⟨_, rfl, x, M, dx, _, rfl, xl, T.cl, T.n7, by omega, ?_⟩
        have gm := (gk.trans gl).write (o := .ins M dx (putF "_barred" (.ref D2) js)) xl (nins _) nx
        refine k _ ks' ps' rs' bs' gm pk ak pp' ap kr ar pb ab ⟨dx, putF "_barred" (.ref D2) js, kk, pp, rr, D, bb, D2, ys, zs', upd_same, ?_⟩
        constructor
        · exact noF fk0 (by decide +kernel)
        · rw [lookup_putF, if_neg (by decide +kernel)]; exact fk1
        · rw [lookup_putF, if_neg (by decide +kernel)]; exact fk2
        · rw [lookup_putF, if_neg (by decide +kernel)]; exact fk3
        · rw [lookup_putF, if_neg (by decide +kernel)]; exact fk4
        · rw [lookup_putF, if_neg (by decide +kernel)]; exact fk5
        · rw [lookup_putF, if_neg (by decide +kernel)]; exact fk6
        · rw [lookup_putF, if_pos rfl]
        · exact tup_ins xl (gl.tup gk.tab tk5)
        · exact tup_ins xl (gl.tup gk.tab tp5)
        · exact tup_ins xl (gl.tup gk.tab tr5)
        · exact Paired.map' hm5 fun r v m => (m.grew gl gk.tab).ins xl
        · exact (dR5.grew gl gk.tab).ins xl
        · exact tup_ins xl (gl.tup gk.tab tb5)
        · exact Paired.map' hz5 fun b v m => (m.grew gl gk.tab).ins xl
        · exact ⟨kvs, by rw [upd_ne (insNe xl hD (fun _ _ _ z => by cases z))]; exact hD, hin⟩
end
end W

set_option Elab.async false
set_option linter.all false
set_option maxRecDepth 100000
set_option maxHeartbeats 400000
namespace W
open PySem PySem.Spec PyProof.Rows L2 GxR MyG MyS
abbrev kMap : List Str := ["day", "kinds", "places", "roads", "bars"]
def gMap {α : Type} (us mv ws : List α) : List α := us ++ (ws ++ mv)
def spLMade (K : PySem.W.Frag) (M P : Addr) : Sp := fun vs H Q _ => ∃ (p : Addr) (d : Int) (ps ks : List Str) (rs : List RoadD) (bs : List (Str × Str)), vs = [.ref p] ∧ PartsT K H p d ks ps rs bs ∧ PartsOk d ks ps rs bs ∧ TabG H P ∧
  ∀ H' x ks' ps' rs' bs', Grew P H H' → H x = none → ks'.Perm ks → Asc ks' → ps'.Perm ps → Asc ps' → KeptAll rs rs' → AscR rs' → bs'.Perm bs → AscB bs' → MapAt K H' M x d ks' ps' rs' bs' → Q (.ref x) H'
section
variable {Pg : Program} {w : World} {K : PySem.W.Frag} {mg : Str → Option Value} {base : Heap} {C P : Addr}
theorem map_binds {f : Addr} {fd : FuncData} {T1 T2 T : Addr} (F : FunD K "__init__" "Map.__init__" (defArgs sInit) (defBody sInit) (defScope sInit) [] [("places", V.ref T1), ("roads", V.ref T2), ("bars", V.ref T)] f fd) :
    ∃ mv : List Value, KBn K fd pInit 1 kMap (fun us ws => gMap us mv ws) (fun vs zs => gMap vs (([] : List (Str × V)).map (·.2)) zs) := by
  refine FunD.kbinds0 F 1 kMap [] gMap (by simp) (by simp) ?_ ?_
  · intro vs mz zs us mv ws r1 r2 r3
    exact r1.append (Vals.append r3 r2)
  · intro D doc pm an cdv ct us mv ws h1 h2 h3
    match us, mv, ws, h1, h2, h3 with
    | [u], [], [a, b, c, d, e], _, _, _ =>
      first
        | exact ⟨_, _, _, _, _, _, rfl, rfl, rfl⟩
        | exact rfl
        | exact ⟨rfl, rfl⟩
theorem RoadAt.gen {K : PySem.W.Frag} {H : Hp} {r : RoadD} {v : V} (m : RoadAt K H r v) : GRoad K H r v := let ⟨p, q, hv, e, e1, e2, e3⟩ := m; ⟨p, q, hv, e, SqT.of e1, SqT.of e2, e3⟩
theorem scLMade : FnScope ["parts"] ["parts"] (defScope sLMade) := ⟨rfl, rfl, rfl, by decide +kernel, rfl, by decide +kernel, by decide +kernel⟩
theorem ok_lmade {f fI M : Addr} {fd fdI : FuncData} {mv : List Value} (F : Fun K "_law_made" "_law_made" sLMade f fd) (TM : TxtM K M) (Mk : L2.Mk K M fI) (gM : mg "Map" = some (.ref M))
    (GI : FnOk Pg w K mg base CX0 5 fI fdI pInit (spInitTT K M P)) (kb : KBn K fdI pInit 1 kMap (fun us ws => gMap us mv ws) (fun vs zs => gMap vs (([] : List (Str × V)).map (·.2)) zs)) :
    FnOk Pg w K mg base CX0 7 f fd ["parts"] (spLMade K M P) := by
  refine F.ok scLMade (fun vs H Q E h => ?_) (fun cdv A outer s H vs Q E hr h => ?_)
  · obtain ⟨p, d, ps, ks, rs, bs, rfl, _⟩ := h
    rfl
  · obtain ⟨p, d, ps, ks, rs, bs, rfl, ⟨ki, pl, ro, ba, xs, zs, hp, hki, hpl, hro, hrs, hba, hbs⟩, ok, hP, k⟩ := h
    refine ⟨_, pss_one (ps_ret (pe_makeK0 Mk GI hr (by rfl) gM kb pass0 (pk_cons (pe_ix ix_list (pv 0) pe_int (fun _ _ => rfl)) (pk_cons (pe_ix ix_list (pv 0) pe_int (fun _ _ => rfl)) (pk_cons (pe_ix ix_list (pv 0) pe_int (fun _ _ => rfl))
        (pk_cons (pe_ix ix_list (pv 0) pe_int (fun _ _ => rfl)) (pk_cons (pe_ix ix_list (pv 0) pe_int (fun _ _ => rfl)) pk_nil))))))), ?_⟩
    refine ⟨_, rfl, p, _, _, _, rfl, rfl, SqL.of hp, rfl, _, rfl, p, _, _, _, rfl, rfl, SqL.of hp, rfl, _, rfl, p, _, _, _, rfl, rfl, SqL.of hp, rfl, _, rfl, p, _, _, _, rfl, rfl, SqL.of hp, rfl, _, rfl, p, _, _, _, rfl, rfl, SqL.of hp, rfl, rfl, rfl, fun x dx nx ndx nex => ?_⟩
    have gx : Grew P H (L2.upd (L2.upd H dx (.own x)) x (.ins M dx [])) := (Grew.new hP ndx).put (by rw [upd_ne nex.symm]; exact nx)
    refine ⟨x, dx, ki, pl, ro, ba, d, ks, ps, rs, bs, xs, zs, _, rfl, gx, hP, nx, upd_same, SqT.of hki, SqT.of hpl, SqT.of hro, Paired.map' hrs (fun r v m => m.gen), SqT.of hba, hbs, ok, fun H' ks' ps' rs' bs' g5 q1 q2 q3 q4 q5 q6 q7 q8 hm => ⟨rfl, ?_⟩⟩
    exact k H' x ks' ps' rs' bs' g5 nx q1 q2 q3 q4 q5 q6 q7 q8 hm
end
end W

set_option Elab.async false
set_option linter.all false
set_option maxRecDepth 100000
set_option maxHeartbeats 400000
namespace W
open PySem PySem.Spec PyProof.Rows L2 GxR MyG MyS
/-! ### Map.check_road, Map.road -/
abbrev sRoadM : Stmt := inClass (top 32) 2
abbrev sCheck : Stmt := inClass (top 32) 3
/-- an UnknownName with this name flies -/
def Unk (U : Addr) (H : Hp) (E : XK) (z : Str) : Prop := ∀ e, H e = none → E (.ref U) (some e) (L2.upd H e (.xd [("name", V.str z)]))
/-- UnknownName.__init__ -/
def spUInit (K : PySem.W.Frag) (U : Addr) : Sp := fun vs H Q _ => ∃ (a : Addr) (z : Str), vs = [.ref a, .str z] ∧ z.length ≤ 1000 ∧ H a = some (exo a U none) ∧ ∀ dx, H dx = none → dx ≠ a → Q .non (L2.upd (L2.upd H dx (exd dx [("name", V.str z)])) a (exo a U (some dx)))
def spCheck (K : PySem.W.Frag) (M U : Addr) : Sp := fun vs H Q E => ∃ (x : Addr) (z : Str) (d : Int) (ks ps : List Str) (rs : List RoadD) (bs : List (Str × Str)), vs = [.ref x, .str z] ∧ z.length ≤ 1000 ∧ MapAt K H M x d ks ps rs bs ∧
  ((∃ r ∈ rs, r.name = z) → Q .non H) ∧ ((∀ r ∈ rs, r.name ≠ z) → Unk U H E z)
def spRoadM (K : PySem.W.Frag) (M U : Addr) : Sp := fun vs H Q E => ∃ (x : Addr) (z : Str) (d : Int) (ks ps : List Str) (rs : List RoadD) (bs : List (Str × Str)), vs = [.ref x, .str z] ∧ z.length ≤ 1000 ∧ MapAt K H M x d ks ps rs bs ∧
  (∀ r ∈ rs, r.name = z → ∀ v, RoadAt K H r v → Q v H) ∧ ((∀ r ∈ rs, r.name ≠ z) → Unk U H E z)
theorem flown {H : Hp} {U a dx : Addr} {fs : List (Str × V)} (na : H a = none) (ndx : (L2.upd H a (exo a U none)) dx = none) : L2.upd (del (L2.upd (L2.upd (L2.upd H a (exo a U none)) dx (exd dx fs)) a (exo a U (some dx))) a) dx (.xd fs) = L2.upd H dx (.xd fs) := by
  funext b
  by_cases h1 : b = dx
  · subst h1; rw [upd_same, upd_same]
  · rw [upd_ne h1, upd_ne h1]
    by_cases h2 : b = a
    · subst h2; rw [del_same, na]
    · rw [del_ne h2, upd_ne h2, upd_ne h1, upd_ne h2]
section
variable {Pg : Program} {w : World} {K : PySem.W.Frag} {mg : Str → Option Value} {base : Heap} {C P : Addr}
theorem scCheck : FnScope ["self", "name"] ["self", "name"] (defScope sCheck) := ⟨rfl, rfl, rfl, by decide +kernel, rfl, by decide +kernel, by decide +kernel⟩
theorem ok_check {f M U fU : Addr} {fd fdU : FuncData} (F : Fun K "check_road" "Map.check_road" sCheck f fd) (TM : TxtM K M) (gU : mg "UnknownName" = some (.ref U)) (TU : OexC K U) (iU : PySem.W.findIn K (.ref U) "__init__" = some (some (.ref fU))) (tU : PySem.W.typeIn K (.ref fU) = some (.type "function"))
    (GU : FnOk Pg w K mg base CX0 1 fU fdU ["self", "name"] (spUInit K U)) (bU : Binds K fdU ["self", "name"] []) :
    FnOk Pg w K mg base (L2.CX Pg w) 3 f fd ["self", "name"] (spCheck K M U) := by
  refine F.okX scCheck (fun vs H Q E h => ?_) (fun cdv A outer s H vs Q E hr h => ?_)
  · obtain ⟨x, z, d, ks, ps, rs, bs, rfl, _⟩ := h
    rfl
  · obtain ⟨x, z, d, ks, ps, rs, bs, rfl, hz, hM, kQ, kE⟩ := h
    refine ⟨_, pss_one (ps_if (pt_cmp (pc_dnotin (u1 hr.units) (pv 1) (pe_fld (pv 0) rfl))) (pss_one (ps_raise rfl (takes_of rfl rfl rfl rfl) (pmk_oex TU iU tU GU (hr.mono (by decide)) bU .nil pass0 (by rfl) gU (pa_cons (pv 1) pa_nil)))) pss_nil), ?_⟩
    obtain ⟨dx, fs, kk, pp, rr, D, bb, D2, ys, zs, hx, F7⟩ := hM
    obtain ⟨kvs, hD, hin, hno⟩ := F7.d
    refine ⟨_, rfl, _, rfl, x, M, dx, fs, _, rfl, hx, TM.cl, TM.n5, F7.f5, D, _, rfl, DGet.k (k := .inr z) hD, _, rfl, ?_⟩
    by_cases ex : ∃ r ∈ rs, r.name = z
    · obtain ⟨r, hr1, hr2⟩ := ex
      obtain ⟨v, hv, _⟩ := hin r hr1
      rw [hr2] at hv
      rw [hv]
      exact iteF (kQ ⟨r, hr1, hr2⟩)
    · have no : ∀ r ∈ rs, r.name ≠ z := fun r hr e => ex ⟨r, hr, e⟩
      rw [hno z no]
      refine iteT ⟨_, rfl, by simp, fun a na => ⟨a, z, rfl, hz, upd_same, fun dx2 nd ne => ⟨rfl, dx2, [("name", .str z)], upd_same, ?_, ?_, ?_⟩⟩⟩
      · rw [upd_ne ne]; exact upd_same
      · rw [upd_ne ne] at nd; exact nd
      · rw [flown na nd]
        rw [upd_ne ne] at nd
        exact kE no dx2 nd
theorem scRoadM : FnScope ["self", "name"] ["self", "name"] (defScope sRoadM) := ⟨rfl, rfl, rfl, by decide +kernel, rfl, by decide +kernel, by decide +kernel⟩
theorem ok_roadM {f M U fC : Addr} {fd fdC : FuncData} (F : Fun K "road" "Map.road" sRoadM f fd) (TM : TxtM K M) (mC : Meth K M "check_road" fC)
    (GC : FnOk Pg w K mg base (L2.CX Pg w) 3 fC fdC ["self", "name"] (spCheck K M U)) (bC : Binds K fdC ["self", "name"] []) :
    FnOk Pg w K mg base (L2.CX Pg w) 4 f fd ["self", "name"] (spRoadM K M U) := by
  refine F.okX scRoadM (fun vs H Q E h => ?_) (fun cdv A outer s H vs Q E hr h => ?_)
  · obtain ⟨x, z, d, ks, ps, rs, bs, rfl, _⟩ := h
    rfl
  · obtain ⟨x, z, d, ks, ps, rs, bs, rfl, hz, hM, kQ, kE⟩ := h
    refine ⟨_, pss_cons (ps_expr (pe_meth (E := E) (pv 0) TM.cl mC GC hr bC .nil (passes_call (takes_of rfl rfl rfl rfl) (fun _ _ _ _ h => h)) (pa_cons (pv 1) pa_nil)))
      (pss_one (ps_ret (pe_dget (u1 hr.units) (pe_fld (pv 0) rfl) (pv 1) (fun _ _ => rfl)))), ?_⟩
    have hM2 := hM
    obtain ⟨dx, fs, kk, pp, rr, D, bb, D2, ys, zs, hx, F7⟩ := hM
    obtain ⟨kvs, hD, hin, hno⟩ := F7.d
    refine ⟨_, rfl, x, dx, fs, rfl, hx, F7.f0 _ (by decide +kernel), _, rfl, x, z, d, ks, ps, rs, bs, rfl, hz, hM2, fun ⟨r, hr1, hr2⟩ => ?_, kE⟩
    obtain ⟨v, hv, m⟩ := hin r hr1
    rw [hr2] at hv
    refine ⟨_, rfl, x, M, dx, fs, _, rfl, hx, TM.cl, TM.n5, F7.f5, _, rfl, D, v, rfl, ?_, kQ r hr1 hr2 v m⟩
    rw [← hv]
    exact DGet.k (k := .inr z) hD
end
end W

set_option Elab.async false
set_option linter.all false
set_option maxRecDepth 100000
set_option maxHeartbeats 400000
namespace W
open PySem PySem.Spec PyProof.Rows L2 GxR MyG MyS
/-! ### when a road may be entered -/
def optV : Option Int → V
  | none => .non
  | some i => .int i
/-- the first pair that closes later -/
def enterF (m : Int) : List (Int × Int) → Option Int
  | [] => none
  | p :: r => if m < p.2 then some (if p.1 > m then p.1 else m) else enterF m r
def enterD (d : Int) (hs : Option (List (Int × Int))) (t : Int) : Option Int := match hs with
  | none => some t
  | some [] => none
  | some (q :: ps) => match enterF (t % d) (q :: ps) with
    | some v => some (t - t % d + v)
    | none => some (t - t % d + d + q.1)
/-- of the pairs from the last on: the first one that opens in time -/
def lastF (m : Int) : List (Int × Int) → Option Int
  | [] => none
  | p :: r => if p.1 ≤ m then some (if p.2 - 1 < m then p.2 - 1 else m) else lastF m r
def lastD (d : Int) (hs : Option (List (Int × Int))) (t : Int) : Option Int := match hs with
  | none => some t
  | some ps => match lastF (t % d) ps.reverse with
    | some v => some (t - t % d + v)
    | none => if ps = [] ∨ t - t % d = 0 then none else some (t - t % d - d + lastP 0 ps - 1)
theorem enterF_step {m : Int} {ps : List (Int × Int)} {i : Nat} {p : Int × Int} (h : ps[i]? = some p) : enterF m (ps.drop i) = if m < p.2 then some (if p.1 > m then p.1 else m) else enterF m (ps.drop (i + 1)) := by
  have hi := (List.getElem?_eq_some_iff.mp h)
  obtain ⟨h1, h2⟩ := hi
  rw [List.drop_eq_getElem_cons h1, h2]
  rfl
theorem lastF_step {m : Int} {ps : List (Int × Int)} {i : Nat} {p : Int × Int} (h : ps[i]? = some p) : lastF m (ps.drop i) = if p.1 ≤ m then some (if p.2 - 1 < m then p.2 - 1 else m) else lastF m (ps.drop (i + 1)) := by
  have hi := (List.getElem?_eq_some_iff.mp h)
  obtain ⟨h1, h2⟩ := hi
  rw [List.drop_eq_getElem_cons h1, h2]
  rfl
def pairD (p : Int × Int) : PyData := .tuple [.int p.1, .int p.2]
theorem dp_pairs {K : PySem.W.Frag} {H : Hp} : ∀ {ps : List (Int × Int)} {xs : List V}, Paired (GPair K H) ps xs → DpAll K H xs (ps.map pairD)
  | _, _, .nil => .nil
  | _, _, .cons (a := p) ⟨t, e, q⟩ r => by
    subst e
    exact .cons (.tup q (.cons (.int p.1) (.cons (.int p.2) .nil))) (dp_pairs r)
theorem canLay_pairs : ∀ ps : List (Int × Int), PyData.canLayAll0 (ps.map pairD) = true
  | [] => rfl
  | p :: ps => by
    simp [PyData.canLayAll0, PyData.canLay0, pairD, canLay_pairs ps]
theorem depth_pairs : ∀ ps : List (Int × Int), PyData.depthAll (ps.map pairD) ≤ 2
  | [] => by simp [PyData.depthAll]
  | p :: ps => by
    have i := depth_pairs ps
    simp only [List.map_cons, PyData.depthAll, PyData.depth, pairD]
    simp [PyData.depthAll, PyData.depth]
    omega
theorem shaped_pairs (ps : List (Int × Int)) : SeqAt.shaped (PyData.tuple (ps.map pairD)) = true := by
  have c := canLay_pairs ps
  have d := depth_pairs ps
  unfold SeqAt.shaped
  rw [Bool.and_eq_true]
  refine ⟨by simpa [PyData.canLay0] using c, decide_eq_true ?_⟩
  simp only [PyData.depth]
  omega
theorem eqv_pairs (ps : List (Int × Int)) : PyData.eqv (PyData.tuple (ps.map pairD)) (PyData.tuple []) = ps.isEmpty := by
  cases ps with
  | nil => rfl
  | cons p ps => rfl
def enterR (d : Int) (r : RoadD) (t : Int) : Option Int := enterD d r.hours t
def lastR (d : Int) (r : RoadD) (t : Int) : Option Int := lastD d r.hours t
abbrev sEnter : Stmt := top 35
abbrev sArrive : Stmt := top 36
theorem uniq_name : ∀ {rs : List RoadD} {r r' : RoadD}, (rs.map (·.name)).Nodup → r ∈ rs → r' ∈ rs → r.name = r'.name → r = r'
  | a :: rs, r, r', nd, h, h', e => by
    have q := List.nodup_cons.mp nd
    rcases List.mem_cons.mp h with h | h <;> rcases List.mem_cons.mp h' with h' | h'
    · rw [h, h']
    · exact absurd (List.mem_map.mpr ⟨r', h', by rw [← e, h]⟩) q.1
    · exact absurd (List.mem_map.mpr ⟨r, h, by rw [e, h']⟩) q.1
    · exact uniq_name q.2 h h' e
theorem MapAt.grew {K : PySem.W.Frag} {H H' : Hp} {M x P : Addr} {d : Int} {ks ps : List Str} {rs : List RoadD} {bs : List (Str × Str)} (g : Grew P H H') (h : TabG H P) (m : MapAt K H M x d ks ps rs bs) : MapAt K H' M x d ks ps rs bs := by
  obtain ⟨dx, fs, kk, pp, rr, D, bb, D2, ys, zs, hx, F⟩ := m
  obtain ⟨kvs, hd, hin⟩ := F.db
  exact ⟨dx, fs, kk, pp, rr, D, bb, D2, ys, zs, g.get h hx (fun _ z => by cases z), ⟨F.f0, F.f1, F.f2, F.f3, F.f4, F.f5, F.f6, F.f7, g.tup h F.k, g.tup h F.p, g.tup h F.r, Paired.map' F.ry (fun _ _ m => m.grew g h), F.d.grew g h, g.tup h F.b, Paired.map' F.bz (fun _ _ m => m.grew g h), ⟨kvs, g.get h hd (fun _ z => by cases z), hin⟩⟩⟩
/-- a question about the road z at the moment t: answered by f -/
def spTravel (K : PySem.W.Frag) (M U P : Addr) (f : Int → RoadD → Int → Option Int) : Sp := fun vs H Q E => ∃ (x : Addr) (z : Str) (t d : Int) (ks ps : List Str) (rs : List RoadD) (bs : List (Str × Str)), vs = [.ref x, .str z, .int t] ∧ z.length ≤ 1000 ∧ 0 ≤ t ∧ 1 ≤ d ∧ MapAt K H M x d ks ps rs bs ∧ TabG H P ∧
  (∀ r ∈ rs, r.name = z → ∀ H', Grew P H H' → Q (optV (f d r t)) H') ∧ ((∀ r ∈ rs, r.name ≠ z) → Unk U H E z) ∧ (rs.map (·.name)).Nodup
/-- for x in reversed(t), t a tuple -/
theorem for_revT {K : PySem.W.Frag} {a : Addr} {xs : List V} {g : TG} {tb : TS} {D : Ends} {σ : L2.St} {H : Hp} (Pv : Nat → L2.St → Hp → Prop) (h0 : Pv 0 σ H) (hl : ∀ i σ H, i ≤ xs.length → Pv i σ H → SqT K H a xs)
    (hs : ∀ i x σ H, xs.reverse[i]? = some x → Pv i σ H → g x σ H fun σ2 H2 => tb { D with nx := Pv (i + 1), ct := Pv (i + 1), bk := D.nx } σ2 H2) (hd : ∀ σ H, Pv xs.length σ H → D.nx σ H) :
    ∃ W : Nat → Nat → L2.St → Hp → Prop, (∃ m, W 0 m σ H) ∧ ∀ i m σ H, W i m σ H →
      ((RT.ItvT K a xs.length).stop i H ∧ D.nx σ H) ∨ ((RT.ItvT K a xs.length).go i H ∧ ∃ N : L2.St → Hp → Prop, (∀ σ' H', N σ' H' → ∃ m', m' < m ∧ W (i + 1) m' σ' H') ∧ ∀ x H', (RT.ItvT K a xs.length).yld i H x H' → g x σ H' fun σ2 H2 => tb { D with nx := N, ct := N, bk := D.nx } σ2 H2) := by
  refine ⟨fun i m σ H => m = xs.length - i ∧ i ≤ xs.length ∧ Pv i σ H, ⟨xs.length, by simp, Nat.zero_le _, h0⟩, ?_⟩
  rintro i m σ H ⟨rfl, hi, p⟩
  have q := hl i σ H hi p
  rcases Nat.lt_or_ge i xs.length with lt | ge
  · have hx : xs[xs.length - 1 - i]? = some (xs[xs.length - 1 - i]'(by omega)) := List.getElem?_eq_getElem _
    refine .inr ⟨⟨lt, xs, _, q, hx⟩, Pv (i + 1), fun σ' H' p' => ⟨xs.length - (i + 1), by omega, rfl, lt, p'⟩, fun x H' y => ?_⟩
    obtain ⟨rfl, y⟩ := y
    exact hs i x σ _ (by rw [List.getElem?_reverse lt]; exact y xs q) p
  · obtain rfl : i = xs.length := by omega
    exact .inl ⟨Nat.le_refl _, hd σ H p⟩
theorem Paired.last {α β : Type} {F : α → β → Prop} : ∀ {l : List α} {m : List β}, Paired F l m → l ≠ [] → ∃ l0 p m0 v, l = l0 ++ [p] ∧ m = m0 ++ [v] ∧ F p v
  | _, _, .nil, h => absurd rfl h
  | _, _, .cons r .nil, _ => ⟨[], _, [], _, rfl, rfl, r⟩
  | a :: _, b :: _, .cons r (.cons r' t), _ => by
    obtain ⟨l0, p, m0, v, e1, e2, f⟩ := Paired.last (.cons r' t) (by simp)
    exact ⟨a :: l0, p, b :: m0, v, by rw [e1]; rfl, by rw [e2]; rfl, f⟩
theorem Paired.rev {α β : Type} {F : α → β → Prop} : ∀ {l : List α} {m : List β}, Paired F l m → Paired F l.reverse m.reverse
  | _, _, .nil => .nil
  | _, _, .cons r t => by
    rw [List.reverse_cons, List.reverse_cons]
    exact Paired.snoc (Paired.rev t) r
section
variable {Pg : Program} {w : World} {K : PySem.W.Frag} {mg : Str → Option Value} {base : Heap} {C P : Addr}
abbrev nEnter : List Str := ["chart", "name", "moment", "hours", "minute", "midnight", "opens", "closes"]
theorem scEnter : FnScope nEnter ["chart", "name", "moment"] (defScope sEnter) := ⟨rfl, rfl, rfl, by decide +kernel, rfl, by decide +kernel, by decide +kernel⟩
theorem ok_enter {f M U fR : Addr} {fd fdR : FuncData} {t1 : Tok} (F : Fun K "enter" "enter" sEnter f fd) (TM : TxtM K M) (mR : Meth K M "road" fR) (hh : mg "HOURS" = some (.int 5 t1)) (hm : mg "max" = none)
    (GR : FnOk Pg w K mg base (L2.CX Pg w) 4 fR fdR ["self", "name"] (spRoadM K M U)) (bR : Binds K fdR ["self", "name"] []) :
    FnOk Pg w K mg base (L2.CX Pg w) 5 f fd ["chart", "name", "moment"] (spTravel K M U P enterR) := by
  refine F.okX scEnter (fun vs H Q E h => ?_) (fun cdv A outer s H vs Q E hr h => ?_)
  · obtain ⟨x, z, t, d, ks, ps, rs, bs, rfl, _⟩ := h
    rfl
  · obtain ⟨x, z, t, d, ks, ps, rs, bs, rfl, hz, ht, hd, hM, hP, kQ, kE, nd⟩ := h
    refine ⟨_, pss_cons (ps_set (i := 3) scEnter.nd rfl (Or.inl rfl) (pe_ix ix_tup (pe_meth (E := E) (pv 0) TM.cl mR GR hr bR .nil (passes_call (takes_of rfl rfl rfl rfl) (fun _ _ _ _ h => h)) (pa_cons (pv 1) pa_nil)) (pe_gI hh) (fun _ _ => rfl)))
      (pss_cons (ps_if (pt_cmp (pc_isN (pv 3))) (pss_one (ps_ret (pv 2))) pss_nil)
      (pss_cons (ps_if (pt_cmpR (op_eqD hr.units) (pv 3) (pe_tup pa_nil) (nomark _)) (pss_one (ps_ret pe_non)) pss_nil)
      (pss_cons (ps_set (i := 4) scEnter.nd rfl (Or.inl rfl) (pe_op op_mod (pv 2) (pe_fld (pv 0) rfl)))
      (pss_cons (ps_set (i := 5) scEnter.nd rfl (Or.inl rfl) (pe_op op_sub (pv 2) (pv 4)))
      (pss_cons (ps_for (passes_of rfl) rfl (pi_tup (pv 3)) (pg_tup (by rfl) (pgs_cons (pg_name (i := 6) scEnter.nd rfl (.inl rfl)) (pgs_cons (pg_name (i := 7) scEnter.nd rfl (.inl rfl)) pgs_nil)))
        (pss_one (ps_if (pt_cmpR op_lt (pv 4) (pv 7) (nomark _)) (pss_one (ps_ret (pe_op op_add (pv 5) (pe_callB (call_max2 rfl) (by rfl) hm (by decide +kernel) (pa_cons (pv 4) (pa_cons (pv 6) pa_nil)))))) pss_nil)))
      (pss_one (ps_ret (pe_op op_add (pe_op op_add (pv 5) (pe_fld (pv 0) rfl)) (pe_ix ix_tup (pe_ix ix_tup (pv 3) pe_int (fun _ _ => rfl)) pe_int (fun _ _ => rfl)))))))))), ?_⟩
    have hM2 := hM
    obtain ⟨dx, fs, kk, pp, rr, D, bb, D2, ys, zs, hx, F7⟩ := hM
    refine ⟨_, rfl, x, dx, fs, rfl, hx, F7.f0 _ (by decide +kernel), _, rfl, x, z, d, ks, ps, rs, bs, rfl, hz, hM2, fun r hr1 hr2 v hv => ?_, kE⟩
    obtain ⟨p, q, hv, rfl, ep, eq, hh⟩ := hv
    obtain ⟨nm, st, go, mi, us, hs⟩ := r
    refine ⟨p, _, 5, hv, rfl, rfl, SqT.of ep, rfl, ?_⟩
    refine ⟨_, rfl, _, rfl, ?_⟩
    cases hs with
    | none =>
      obtain rfl : hv = .non := hh
      exact iteT ⟨_, rfl, kQ _ hr1 hr2 H (Grew.refl hP)⟩
    | some prs =>
      obtain ⟨l, xs, rfl, hS, hG⟩ := hh
      refine iteF ⟨_, rfl, Nat.zero_le _, fun e0 ne0 => ?_⟩
      have g1 := Grew.new hP (o := .tup []) ne0
      have hS1 := g1.sqT hP hS
      have hG1 : Paired (GPair K (L2.upd H e0 (.tup []))) prs xs := Paired.map' hG fun _ _ m => m.keep (KeepT.grew g1 hP)
      have hx1 := g1.get hP hx (fun _ z => by cases z)
      refine ⟨_, _, .tup hS1 (dp_pairs hG1), .tup (SqT.of upd_same) .nil, shaped_pairs prs, shaped_pairs [], _, rfl, ?_⟩
      rw [eqv_pairs]
      cases prs with
      | nil => exact iteT (kQ _ hr1 hr2 _ g1)
      | cons pr prs =>
        refine iteF ?_
        refine ⟨_, rfl, _, rfl, x, M, dx, fs, _, rfl, hx1, TM.cl, TM.n1, F7.f1, _, _, rfl, rfl, (show (0 : Int) < d by omega), ?_⟩
        refine ⟨_, rfl, _, rfl, _, _, rfl, rfl, ?_⟩
        refine ⟨_, rfl, l, rfl, ⟨_, hS1⟩, for_tup (K := K) (a := l) (xs := xs) (fun i σ H' => H' = L2.upd H e0 (.tup []) ∧ ∃ v6 v7, σ = [some (.ref x), some (.str z), some (.int t), some (.ref l), some (.int (t % d)), some (.int (t - t % d)), v6, v7] ∧ enterF (t % d) (pr :: prs) = enterF (t % d) ((pr :: prs).drop i))
          ⟨rfl, none, none, rfl, rfl⟩ (fun i σ H' _ ⟨e, _⟩ => by rw [e]; exact hS1) ?_ ?_⟩
        · rintro i y σ H' hi ⟨rfl, v6, v7, rfl, he⟩
          obtain ⟨pi, hpi, t2, rfl, hT⟩ := Paired.at hG1 hi
          rw [enterF_step hpi] at he
          refine ⟨t2, _, rfl, hT, rfl, _, _, rfl, _, _, rfl, rfl, ?_⟩
          refine ⟨_, rfl, _, rfl, _, _, rfl, rfl, _, rfl, ?_⟩
          refine ite2 (fun hlt => ?_) (fun hge => ?_)
          · rw [if_pos (of_decide_eq_true hlt)] at he
            refine ⟨_, rfl, _, rfl, _, rfl, _, _, rfl, _, _, rfl, rfl, ?_⟩
            have q := kQ _ hr1 hr2 _ g1
            unfold enterR enterD at q
            simp only [he] at q
            exact q
          · rw [if_neg (fun h => hge (decide_eq_true h))] at he
            exact ⟨rfl, _, _, rfl, he⟩
        · rintro σ H' ⟨rfl, v6, v7, rfl, he⟩
          rw [← Paired.len hG1, List.drop_length] at he
          cases hG1 with
          | cons r0 rs0 =>
            obtain ⟨t0, rfl, hT0⟩ := r0
            refine ⟨_, rfl, _, rfl, x, M, dx, fs, _, rfl, hx1, TM.cl, TM.n1, F7.f1, _, _, rfl, rfl, _, rfl, l, _, 0, _, rfl, rfl, hS1, atI_nat (j := 0) rfl, t0, _, 0, _, rfl, rfl, hT0, rfl, _, _, rfl, rfl, ?_⟩
            have q := kQ _ hr1 hr2 _ g1
            have he' : enterF (t % d) (pr :: prs) = none := he
            unfold enterR enterD at q
            simp only [he'] at q
            exact q
def arriveD (d : Int) (r : RoadD) (t : Int) : Option Int := (enterR d r t).map (· + r.minutes)
abbrev nArrive : List Str := ["chart", "name", "moment", "entered"]
theorem scArrive : FnScope nArrive ["chart", "name", "moment"] (defScope sArrive) := ⟨rfl, rfl, rfl, by decide +kernel, rfl, by decide +kernel, by decide +kernel⟩
theorem ok_arrive {f M U fR fE : Addr} {fd fdR fdE : FuncData} {t1 : Tok} (F : Fun K "arrive" "arrive" sArrive f fd) (TM : TxtM K M) (mR : Meth K M "road" fR) (hh : mg "MINUTES" = some (.int 3 t1))
    (GR : FnOk Pg w K mg base (L2.CX Pg w) 4 fR fdR ["self", "name"] (spRoadM K M U)) (bR : Binds K fdR ["self", "name"] [])
    (GE : FnOk Pg w K mg base (L2.CX Pg w) 5 fE fdE ["chart", "name", "moment"] (spTravel K M U P enterR)) (gE : mg "enter" = some (.ref fE)) (kE : PySem.W.keepIn K (.ref fE) = true) (bE : Binds K fdE ["chart", "name", "moment"] []) :
    FnOk Pg w K mg base (L2.CX Pg w) 6 f fd ["chart", "name", "moment"] (spTravel K M U P arriveD) := by
  refine F.okX scArrive (fun vs H Q E h => ?_) (fun cdv A outer s H vs Q E hr h => ?_)
  · obtain ⟨x, z, t, d, ks, ps, rs, bs, rfl, _⟩ := h
    rfl
  · obtain ⟨x, z, t, d, ks, ps, rs, bs, rfl, hz, ht, hd, hM, hP, kQ, kU, nd⟩ := h
    refine ⟨_, pss_cons (ps_set (i := 3) scArrive.nd rfl (Or.inl rfl) (pe_call (E := E) GE hr (by rfl) gE kE bE .nil (passes_call (takes_of rfl rfl rfl rfl) (fun _ _ _ _ h => h)) (pa_cons (pv 0) (pa_cons (pv 1) (pa_cons (pv 2) pa_nil)))))
      (pss_cons (ps_if (pt_cmp (pc_isN (pv 3))) (pss_one (ps_ret pe_non)) pss_nil)
      (pss_one (ps_ret (pe_op op_add (pv 3) (pe_ix ix_tup (pe_meth (E := E) (pv 0) TM.cl mR GR (hr.mono (by decide)) bR .nil (passes_call (takes_of rfl rfl rfl rfl) (fun _ _ _ _ h => h)) (pa_cons (pv 1) pa_nil)) (pe_gI hh) (fun _ _ => rfl)))))), ?_⟩
    refine ⟨_, rfl, _, rfl, _, rfl, x, z, t, d, ks, ps, rs, bs, rfl, hz, ht, hd, hM, hP, fun r hr1 hr2 H' g => ?_, kU, nd⟩
    have q := kQ r hr1 hr2 H' g
    unfold arriveD at q
    generalize enterR d r t = o at q ⊢
    refine ⟨_, rfl, _, rfl, ?_⟩
    cases o with
    | none => exact iteT q
    | some v =>
      refine iteF ?_
      have hM' := hM.grew g hP
      have hM2 := hM'
      obtain ⟨dx, fs, kk, pp, rr, D, bb, D2, ys, zs, hx, F7⟩ := hM'
      refine ⟨_, rfl, _, rfl, x, dx, fs, rfl, hx, F7.f0 _ (by decide +kernel), _, rfl, x, z, d, ks, ps, rs, bs, rfl, hz, hM2, fun r' hr1' hr2' v' hv => ?_, fun no => absurd hr2 (no r hr1)⟩
      obtain rfl : r' = r := uniq_name nd hr1' hr1 (hr2'.trans hr2.symm)
      obtain ⟨p, q', hv', rfl, ep, _, _⟩ := hv
      exact ⟨p, _, 3, .int r'.minutes, rfl, rfl, SqT.of ep, rfl, _, _, rfl, rfl, q⟩
end
end W

set_option Elab.async false
set_option linter.all false
set_option maxRecDepth 100000
set_option maxHeartbeats 400000
namespace W
/-! ### the first, the last moment at which the road is open -/
def openB (ps : List (Int × Int)) (m : Int) : Bool := ps.any fun p => decide (p.1 ≤ m) && decide (m < p.2)
theorem openB_cons (p : Int × Int) (ps : List (Int × Int)) (m : Int) : openB (p :: ps) m = ((decide (p.1 ≤ m) && decide (m < p.2)) || openB ps m) := rfl
theorem shut_one {p : Int × Int} {m : Int} (h : m < p.1 ∨ p.2 ≤ m) : (decide (p.1 ≤ m) && decide (m < p.2)) = false := by
  rw [Bool.and_eq_false_iff, decide_eq_false_iff_not, decide_eq_false_iff_not]
  omega
theorem open_one {p : Int × Int} {m : Int} (h1 : p.1 ≤ m) (h2 : m < p.2) : (decide (p.1 ≤ m) && decide (m < p.2)) = true := by
  rw [decide_eq_true h1, decide_eq_true h2]; rfl
/-- ahead of the pairs nothing is open -/
theorem open_lo {d : Int} : ∀ {ps : List (Int × Int)} {c j : Int}, hoursOk d c ps → j ≤ c → openB ps j = false
  | [], _, _, _, _ => rfl
  | p :: r, c, j, h, hj => by
    obtain ⟨h1, h2, h3, h4⟩ := h
    rw [openB_cons, shut_one (.inl (by omega)), open_lo h4 (by omega)]
    rfl
theorem open_in {d : Int} : ∀ {ps : List (Int × Int)} {c j : Int}, hoursOk d c ps → openB ps j = true → c < j ∧ j < d
  | [], _, _, _, h => by cases h
  | p :: r, c, j, h, ho => by
    obtain ⟨h1, h2, h3, h4⟩ := h
    rw [openB_cons, Bool.or_eq_true, Bool.and_eq_true, decide_eq_true_eq, decide_eq_true_eq] at ho
    rcases ho with ⟨a, b⟩ | ho
    · omega
    · have q := open_in h4 ho
      omega
theorem enterF_some {d m : Int} : ∀ {ps : List (Int × Int)} {c w : Int}, hoursOk d c ps → enterF m ps = some w → m ≤ w ∧ openB ps w = true ∧ ∀ j, m ≤ j → j < w → openB ps j = false
  | [], _, _, _, h => by cases h
  | p :: r, c, w, h, e => by
    obtain ⟨h1, h2, h3, h4⟩ := h
    unfold enterF at e
    by_cases c1 : m < p.2
    · rw [if_pos c1] at e
      by_cases c2 : p.1 > m
      · rw [if_pos c2] at e
        obtain rfl := Option.some.inj e
        refine ⟨by omega, ?_, fun j hj1 hj2 => ?_⟩
        · rw [openB_cons, open_one (Int.le_refl _) h2]; rfl
        · rw [openB_cons, shut_one (.inl hj2), open_lo h4 (by omega)]; rfl
      · rw [if_neg c2] at e
        obtain rfl := Option.some.inj e
        refine ⟨Int.le_refl _, ?_, fun j hj1 hj2 => by omega⟩
        rw [openB_cons, open_one (by omega) c1]; rfl
    · rw [if_neg c1] at e
      obtain ⟨q1, q2, q3⟩ := enterF_some h4 e
      refine ⟨q1, ?_, fun j hj1 hj2 => ?_⟩
      · rw [openB_cons, q2, Bool.or_true]
      · rw [openB_cons, shut_one (.inr (by omega)), q3 j hj1 hj2]; rfl
theorem enterF_none {d m : Int} : ∀ {ps : List (Int × Int)} {c : Int}, hoursOk d c ps → enterF m ps = none → ∀ j, m ≤ j → openB ps j = false
  | [], _, _, _, _, _ => rfl
  | p :: r, c, h, e, j, hj => by
    obtain ⟨h1, h2, h3, h4⟩ := h
    unfold enterF at e
    by_cases c1 : m < p.2
    · rw [if_pos c1] at e; cases e
    · rw [if_neg c1] at e
      rw [openB_cons, shut_one (.inr (by omega)), enterF_none h4 e j hj]; rfl
theorem lastF_snoc (m : Int) (q : Int × Int) : ∀ l : List (Int × Int), lastF m (l ++ [q]) = match lastF m l with | some w => some w | none => if q.1 ≤ m then some (if q.2 - 1 < m then q.2 - 1 else m) else none
  | [] => rfl
  | p :: l => by
    rw [List.cons_append]
    unfold lastF
    by_cases c1 : p.1 ≤ m
    · rw [if_pos c1, if_pos c1]
    · rw [if_neg c1, if_neg c1]
      exact lastF_snoc m q l
theorem lastF_spec {d m : Int} : ∀ {ps : List (Int × Int)} {c : Int}, hoursOk d c ps → match lastF m ps.reverse with
    | some w => w ≤ m ∧ openB ps w = true ∧ ∀ j, w < j → j ≤ m → openB ps j = false
    | none => ∀ j, j ≤ m → openB ps j = false
  | [], _, _ => fun _ _ => rfl
  | q :: r, c, h => by
    obtain ⟨h1, h2, h3, h4⟩ := h
    have ih := lastF_spec (m := m) h4
    rw [List.reverse_cons, lastF_snoc]
    cases e : lastF m r.reverse with
    | some w =>
      rw [e] at ih
      obtain ⟨i1, i2, i3⟩ := ih
      have q1 := (open_in h4 i2).1
      refine ⟨i1, by rw [openB_cons, i2, Bool.or_true], fun j hj1 hj2 => ?_⟩
      rw [openB_cons, shut_one (.inr (by omega)), i3 j hj1 hj2]; rfl
    | none =>
      rw [e] at ih
      have ih : ∀ j, j ≤ m → openB r j = false := ih
      show match (if q.1 ≤ m then some (if q.2 - 1 < m then q.2 - 1 else m) else none) with
        | some w => w ≤ m ∧ openB (q :: r) w = true ∧ ∀ j, w < j → j ≤ m → openB (q :: r) j = false
        | none => ∀ j, j ≤ m → openB (q :: r) j = false
      by_cases c1 : q.1 ≤ m
      · rw [if_pos c1]
        by_cases c2 : q.2 - 1 < m
        · rw [if_pos c2]
          refine ⟨by omega, by rw [openB_cons, open_one (by omega) (by omega)]; rfl, fun j hj1 hj2 => ?_⟩
          rw [openB_cons, shut_one (.inr (by omega)), ih j hj2]; rfl
        · rw [if_neg c2]
          refine ⟨Int.le_refl _, by rw [openB_cons, open_one c1 (by omega)]; rfl, fun j hj1 hj2 => by omega⟩
      · rw [if_neg c1]
        intro j hj
        rw [openB_cons, shut_one (.inl (by omega)), ih j hj]; rfl
theorem open_hi {d : Int} : ∀ {ps : List (Int × Int)} {c j : Int}, hoursOk d c ps → ps ≠ [] → lastP 0 ps ≤ j → openB ps j = false
  | [], _, _, _, h, _ => absurd rfl h
  | [p], c, j, h, _, hj => by
    have e : lastP 0 [p] = p.2 := rfl
    rw [e] at hj
    rw [openB_cons, shut_one (.inr hj)]; rfl
  | p :: q :: r, c, j, h, _, hj => by
    have e : lastP 0 (p :: q :: r) = lastP 0 (q :: r) := by
      unfold lastP
      rw [List.getLast?_cons_cons]
    rw [e] at hj
    have o := open_hi (ps := q :: r) h.2.2.2 (by simp) hj
    have l1 : q.1 < lastP 0 (q :: r) ∧ p.2 < lastP 0 (q :: r) := by
      have key : ∀ (l : List (Int × Int)) (a : Int × Int) (c : Int), hoursOk d c (a :: l) → a.1 < lastP 0 (a :: l) ∧ c < lastP 0 (a :: l) := by
        intro l
        induction l with
        | nil => intro a c h; exact ⟨h.2.1, by have e : lastP 0 [a] = a.2 := rfl; rw [e]; have := h.1; have := h.2.1; omega⟩
        | cons b l ih =>
          intro a c h
          have e : lastP 0 (a :: b :: l) = lastP 0 (b :: l) := by unfold lastP; rw [List.getLast?_cons_cons]
          rw [e]
          have q := ih b a.2 h.2.2.2
          have := h.1; have := h.2.1
          exact ⟨by omega, by omega⟩
      exact ⟨(key r q p.2 h.2.2.2).1, (key r q p.2 h.2.2.2).2⟩
    rw [openB_cons, shut_one (.inr (by omega)), o]; rfl
theorem open_last {d : Int} {ps : List (Int × Int)} {c : Int} (h : hoursOk d c ps) (hne : ps ≠ []) (hc : -1 ≤ c) : openB ps (lastP 0 ps - 1) = true ∧ 1 ≤ lastP 0 ps ∧ lastP 0 ps ≤ d := by
  induction ps generalizing c with
  | nil => exact absurd rfl hne
  | cons p r ih =>
    obtain ⟨h1, h2, h3, h4⟩ := h
    cases r with
    | nil =>
      have e : lastP 0 [p] = p.2 := rfl
      rw [e]
      exact ⟨by rw [openB_cons, open_one (by omega) (by omega)]; rfl, by omega, by omega⟩
    | cons q r =>
      have e : lastP 0 (p :: q :: r) = lastP 0 (q :: r) := by unfold lastP; rw [List.getLast?_cons_cons]
      rw [e]
      obtain ⟨a, b, c⟩ := ih h4 (by simp) (by omega)
      exact ⟨by rw [openB_cons, a, Bool.or_true], b, c⟩
/-- what the search forward finds -/
def FirstOpen (d : Int) (ps : List (Int × Int)) (t : Int) : Option Int → Prop
  | some v => ∃ k : Int, 0 ≤ k ∧ k < 2 * d ∧ v = t + k ∧ openB ps ((t + k) % d) = true ∧ ∀ j, 0 ≤ j → j < k → openB ps ((t + j) % d) = false
  | none => ∀ k, 0 ≤ k → k < 2 * d → openB ps ((t + k) % d) = false
/-- what the search backward finds -/
def LastOpen (d : Int) (ps : List (Int × Int)) (t : Int) : Option Int → Prop
  | some v => ∃ k : Int, 0 ≤ k ∧ k < 2 * d ∧ v = t - k ∧ 0 ≤ v ∧ openB ps ((t - k) % d) = true ∧ ∀ j, 0 ≤ j → j < k → openB ps ((t - j) % d) = false
  | none => ∀ k, 0 ≤ k → k < 2 * d → 0 ≤ t - k → openB ps ((t - k) % d) = false
theorem mod_base {t d j : Int} (hd : 1 ≤ d) (h0 : 0 ≤ j) (h1 : j < d) : (t - t % d + j) % d = j := by
  have e : t - t % d = d * (t / d) := by have := Int.mul_ediv_add_emod t d; omega
  rw [e, Int.add_comm, Int.add_mul_emod_self_left]
  exact Int.emod_eq_of_lt h0 h1
theorem mod_baseU {t d j : Int} (hd : 1 ≤ d) (h0 : d ≤ j) (h1 : j < 2 * d) : (t - t % d + j) % d = j - d := by
  have q := mod_base (t := t) hd (j := j - d) (by omega) (by omega)
  have e : t - t % d + j = (t - t % d + (j - d)) + d := by omega
  rw [e, Int.add_emod_right]
  exact q
theorem mod_baseD {t d j : Int} (hd : 1 ≤ d) (h0 : -d ≤ j) (h1 : j < 0) : (t - t % d + j) % d = j + d := by
  have q := mod_base (t := t) hd (j := j + d) (by omega) (by omega)
  have e : (t - t % d + (j + d)) = t - t % d + j + d := by omega
  rw [e, Int.add_emod_right] at q
  exact q
theorem enterD_first {d t : Int} {ps : List (Int × Int)} (hd : 1 ≤ d) (h : hoursOk d (-1) ps) : FirstOpen d ps t (enterD d (some ps) t) := by
  have m0 := Int.emod_nonneg t (show d ≠ 0 by omega)
  have m1 := Int.emod_lt_of_pos t (show 0 < d by omega)
  cases ps with
  | nil => exact fun k _ _ => rfl
  | cons q ps =>
    cases e : enterF (t % d) (q :: ps) with
    | some w =>
      have ev : enterD d (some (q :: ps)) t = some (t - t % d + w) := by unfold enterD; simp only [e]
      rw [ev]
      obtain ⟨a, b, c⟩ := enterF_some h e
      have wd := (open_in h b).2
      refine ⟨w - t % d, by omega, by omega, by omega, ?_, fun j hj0 hj1 => ?_⟩
      · have e1 : t + (w - t % d) = t - t % d + w := by omega
        rw [e1, mod_base hd (by omega) wd]; exact b
      · have e1 : t + j = t - t % d + (t % d + j) := by omega
        rw [e1, mod_base hd (by omega) (by omega)]
        exact c _ (by omega) (by omega)
    | none =>
      have ev : enterD d (some (q :: ps)) t = some (t - t % d + d + q.1) := by unfold enterD; simp only [e]
      rw [ev]
      have n := enterF_none h e
      obtain ⟨h1, h2, h3, h4⟩ := id h
      refine ⟨d + q.1 - t % d, by omega, by omega, by omega, ?_, fun j hj0 hj1 => ?_⟩
      · have e1 : t + (d + q.1 - t % d) = t - t % d + (d + q.1) := by omega
        rw [e1, mod_baseU hd (by omega) (by omega)]
        have e2 : d + q.1 - d = q.1 := by omega
        rw [e2, openB_cons, open_one (Int.le_refl _) h2]; rfl
      · have e1 : t + j = t - t % d + (t % d + j) := by omega
        rw [e1]
        by_cases c : t % d + j < d
        · rw [mod_base hd (by omega) c]
          exact n _ (by omega)
        · rw [mod_baseU hd (by omega) (by omega), openB_cons, shut_one (.inl (by omega)), open_lo h4 (by omega)]; rfl
theorem first_uniq {d t : Int} {ps : List (Int × Int)} {a b : Option Int} (ha : FirstOpen d ps t a) (hb : FirstOpen d ps t b) : a = b := by
  cases a with
  | none =>
    cases b with
    | none => rfl
    | some v =>
      obtain ⟨k, k0, k1, e, o, _⟩ := hb
      rw [ha k k0 k1] at o; cases o
  | some u =>
    obtain ⟨k, k0, k1, e, o, l⟩ := ha
    cases b with
    | none => rw [hb k k0 k1] at o; cases o
    | some v =>
      obtain ⟨k', k0', k1', e', o', l'⟩ := hb
      rcases Int.lt_trichotomy k k' with c | c | c
      · rw [l' k k0 c] at o; cases o
      · rw [e, e', c]
      · rw [l k' k0' c] at o'; cases o'
theorem lastD_last {d t : Int} {ps : List (Int × Int)} (hd : 1 ≤ d) (ht : 0 ≤ t) (h : hoursOk d (-1) ps) : LastOpen d ps t (lastD d (some ps) t) := by
  have m0 := Int.emod_nonneg t (show d ≠ 0 by omega)
  have m1 := Int.emod_lt_of_pos t (show 0 < d by omega)
  have mt : t % d ≤ t := (by have := Int.mul_ediv_add_emod t d; have := Int.mul_nonneg (show 0 ≤ d by omega) (Int.ediv_nonneg ht (show 0 ≤ d by omega)); omega)
  have sp := lastF_spec (m := t % d) h
  cases e : lastF (t % d) ps.reverse with
  | some w =>
    have ev : lastD d (some ps) t = some (t - t % d + w) := by unfold lastD; simp only [e]
    rw [ev]
    rw [e] at sp
    obtain ⟨a, b, c⟩ := sp
    have wd := open_in h b
    refine ⟨t % d - w, by omega, by omega, by omega, by omega, ?_, fun j hj0 hj1 => ?_⟩
    · have e1 : t - (t % d - w) = t - t % d + w := by omega
      rw [e1, mod_base hd (by omega) wd.2]; exact b
    · have e1 : t - j = t - t % d + (t % d - j) := by omega
      rw [e1, mod_base hd (by omega) (by omega)]
      exact c _ (by omega) (by omega)
  | none =>
    have ev : lastD d (some ps) t = if ps = [] ∨ t - t % d = 0 then none else some (t - t % d - d + lastP 0 ps - 1) := by unfold lastD; simp only [e]
    rw [ev]
    rw [e] at sp
    have sp : ∀ j, j ≤ t % d → openB ps j = false := sp
    by_cases hz : ps = [] ∨ t - t % d = 0
    · rw [if_pos hz]
      intro k k0 k1 kt
      rcases hz with hz | hz
      · subst hz; rfl
      · have e1 : t - k = t - t % d + (t % d - k) := by omega
        rw [e1, mod_base hd (by omega) (by omega)]
        exact sp _ (by omega)
    · rw [if_neg hz]
      have hne : ps ≠ [] := fun e => hz (.inl e)
      obtain ⟨o1, o2, o3⟩ := open_last h hne (Int.le_refl _)
      have hb : d ≤ t - t % d := by
        have e1 : t - t % d = d * (t / d) := by have := Int.mul_ediv_add_emod t d; omega
        have e2 : t / d ≠ 0 := fun z => hz (.inr (by rw [e1, z, Int.mul_zero]))
        have e3 : 0 ≤ t / d := Int.ediv_nonneg ht (by omega)
        have e4 : 1 ≤ t / d := by omega
        rw [e1]
        have := Int.mul_le_mul_of_nonneg_left e4 (show 0 ≤ d by omega)
        omega
      refine ⟨t % d + d - lastP 0 ps + 1, by omega, by omega, by omega, by omega, ?_, fun j hj0 hj1 => ?_⟩
      · have e1 : t - (t % d + d - lastP 0 ps + 1) = t - t % d + (lastP 0 ps - 1 - d) := by omega
        rw [e1, mod_baseD hd (by omega) (by omega)]
        have e2 : lastP 0 ps - 1 - d + d = lastP 0 ps - 1 := by omega
        rw [e2]; exact o1
      · have e1 : t - j = t - t % d + (t % d - j) := by omega
        rw [e1]
        by_cases c : 0 ≤ t % d - j
        · rw [mod_base hd c (by omega)]
          exact sp _ (by omega)
        · rw [mod_baseD hd (by omega) (by omega)]
          exact open_hi h hne (by omega)
theorem last_uniq {d t : Int} {ps : List (Int × Int)} {a b : Option Int} (ha : LastOpen d ps t a) (hb : LastOpen d ps t b) : a = b := by
  cases a with
  | none =>
    cases b with
    | none => rfl
    | some v =>
      obtain ⟨k, k0, k1, e, p, o, _⟩ := hb
      rw [ha k k0 k1 (by omega)] at o; cases o
  | some u =>
    obtain ⟨k, k0, k1, e, p, o, l⟩ := ha
    cases b with
    | none => rw [hb k k0 k1 (by omega)] at o; cases o
    | some v =>
      obtain ⟨k', k0', k1', e', p', o', l'⟩ := hb
      rcases Int.lt_trichotomy k k' with c | c | c
      · rw [l' k k0 c] at o; cases o
      · rw [e, e', c]
      · rw [l k' k0' c] at o'; cases o'
end W

set_option Elab.async false
set_option linter.all false
set_option maxRecDepth 100000
set_option maxHeartbeats 400000
namespace W
open PySem PySem.Spec PyProof.Rows L2 GxR MyG MyS
/-! ### Map.check_place, Map.check_kind, Map.is_barred, Map.may_follow, Map.may_use -/
abbrev sCheckP : Stmt := inClass (top 32) 4
abbrev sCheckK : Stmt := inClass (top 32) 5
abbrev sBarred : Stmt := inClass (top 32) 8
abbrev sMayF : Stmt := inClass (top 32) 9
abbrev sMayU : Stmt := inClass (top 32) 11
abbrev sCanEver : Stmt := top 38
theorem inV_dec (z : Str) (xs : List Str) : inV (.str z) (xs.map V.str) = decide (z ∈ xs) := by
  by_cases h : z ∈ xs
  · rw [inV_str h, decide_eq_true h]
  · rw [decide_eq_false h]
    unfold inV
    rw [List.any_map, List.any_eq_false]
    intro y hy e
    have q : y = z := by simpa [eqV] using e
    exact h (q ▸ hy)
/-- a map at x, with its table of code -/
structure MIn (K : PySem.W.Frag) (H : Hp) (M P x : Addr) (d : Int) (ks ps : List Str) (rs : List RoadD) (bs : List (Str × Str)) : Prop where
  m : MapAt K H M x d ks ps rs bs
  t : TabG H P
  nd : (rs.map (·.name)).Nodup
  nl : ∀ r ∈ rs, r.name.length ≤ 1000
  d1 : 1 ≤ d
  ho : ∀ r ∈ rs, HoursOk d r.hours
theorem MIn.grew {K : PySem.W.Frag} {H H' : Hp} {M P x : Addr} {d : Int} {ks ps : List Str} {rs : List RoadD} {bs : List (Str × Str)} (h : MIn K H M P x d ks ps rs bs) (g : Grew P H H') : MIn K H' M P x d ks ps rs bs :=
  ⟨h.m.grew g h.t, g.tab, h.nd, h.nl, h.d1, h.ho⟩
def spChkL (K : PySem.W.Frag) (M U : Addr) (f : List Str → List Str → List Str) : Sp := fun vs H Q E => ∃ (x : Addr) (z : Str) (d : Int) (ks ps : List Str) (rs : List RoadD) (bs : List (Str × Str)), vs = [.ref x, .str z] ∧ z.length ≤ 1000 ∧ MapAt K H M x d ks ps rs bs ∧
  (z ∈ f ks ps → Q .non H) ∧ (z ∉ f ks ps → Unk U H E z)
def selK (ks _ps : List Str) : List Str := ks
def selP (_ks ps : List Str) : List Str := ps
def spBarred (K : PySem.W.Frag) (M P : Addr) : Sp := fun vs H Q _ => ∃ (x : Addr) (d : Int) (ks ps : List Str) (rs : List RoadD) (bs : List (Str × Str)) (r1 r2 : RoadD), vs = [.ref x, .str r1.name, .str r2.name] ∧ MIn K H M P x d ks ps rs bs ∧ r1 ∈ rs ∧ r2 ∈ rs ∧
  ∀ H', Grew P H H' → Q (.bl (decide ((r1.name, r2.name) ∈ bs))) H'
def spMayF (K : PySem.W.Frag) (M P : Addr) : Sp := fun vs H Q _ => ∃ (x : Addr) (d : Int) (ks ps : List Str) (rs : List RoadD) (bs : List (Str × Str)) (r1 r2 : RoadD), vs = [.ref x, .str r1.name, .str r2.name] ∧ MIn K H M P x d ks ps rs bs ∧ r1 ∈ rs ∧ r2 ∈ rs ∧
  ∀ H', Grew P H H' → Q (.bl (decide (r1.goal = r2.start) && !decide ((r1.name, r2.name) ∈ bs))) H'
def spMayU (K : PySem.W.Frag) (M P : Addr) : Sp := fun vs H Q _ => ∃ (x : Addr) (z : Str) (d : Int) (ks ps : List Str) (rs : List RoadD) (bs : List (Str × Str)) (r : RoadD), vs = [.ref x, .str z, .str r.name] ∧ z.length ≤ 1000 ∧ z ∈ ks ∧ MIn K H M P x d ks ps rs bs ∧ r ∈ rs ∧
  Q (.bl (decide (z ∈ r.users))) H
def everB (z : Str) (r : RoadD) : Bool := decide (z ∈ r.users) && !decide (r.hours = some [])
def spEver (K : PySem.W.Frag) (M P : Addr) : Sp := fun vs H Q _ => ∃ (x : Addr) (z : Str) (d : Int) (ks ps : List Str) (rs : List RoadD) (bs : List (Str × Str)) (r : RoadD), vs = [.ref x, .str z, .str r.name] ∧ z.length ≤ 1000 ∧ z ∈ ks ∧ MIn K H M P x d ks ps rs bs ∧ r ∈ rs ∧
  ∀ H', Grew P H H' → Q (.bl (everB z r)) H'
def hoursD : Option (List (Int × Int)) → PyData
  | none => .none
  | some ps => .tuple (ps.map pairD)
theorem dp_hours {K : PySem.W.Frag} {H : Hp} {hs : Option (List (Int × Int))} {v : V} (g : GHours K H hs v) : Dp K H v (hoursD hs) := by
  cases hs with
  | none =>
    obtain rfl : v = .non := g
    exact .non
  | some ps =>
    obtain ⟨l, xs, rfl, q, p⟩ := g
    exact .tup q (dp_pairs p)
theorem shaped_hours : ∀ hs : Option (List (Int × Int)), SeqAt.shaped (hoursD hs) = true
  | none => rfl
  | some ps => shaped_pairs ps
theorem eqv_hours (hs : Option (List (Int × Int))) : PyData.eqv (hoursD hs) (PyData.tuple []) = decide (hs = some []) := by
  cases hs with
  | none => rfl
  | some ps =>
    show PyData.eqv (PyData.tuple (ps.map pairD)) (PyData.tuple []) = _
    rw [eqv_pairs]
    cases ps <;> simp
section
variable {Pg : Program} {w : World} {K : PySem.W.Frag} {mg : Str → Option Value} {base : Heap} {C P : Addr}
theorem raise_end {H : Hp} {U a : Addr} {E : XK} {z : Str} (na : H a = none) (kE : Unk U H E z) :
    ∀ dx, (L2.upd H a (exo a U none)) dx = none → dx ≠ a → ∀ H2, H2 = L2.upd (del (L2.upd (L2.upd (L2.upd H a (exo a U none)) dx (exd dx [("name", V.str z)])) a (exo a U (some dx))) a) dx (.xd [("name", V.str z)]) → E (.ref U) (some dx) H2 := fun dx nd ne H2 e2 => by
  rw [e2, flown na nd]
  rw [upd_ne ne] at nd
  exact kE dx nd
theorem scCheckP : FnScope ["self", "place"] ["self", "place"] (defScope sCheckP) := ⟨rfl, rfl, rfl, by decide +kernel, rfl, by decide +kernel, by decide +kernel⟩
theorem ok_checkP {f M U fU : Addr} {fd fdU : FuncData} (F : Fun K "check_place" "Map.check_place" sCheckP f fd) (TM : TxtM K M) (gU : mg "UnknownName" = some (.ref U)) (TU : OexC K U) (iU : PySem.W.findIn K (.ref U) "__init__" = some (some (.ref fU))) (tU : PySem.W.typeIn K (.ref fU) = some (.type "function"))
    (GU : FnOk Pg w K mg base CX0 1 fU fdU ["self", "name"] (spUInit K U)) (bU : Binds K fdU ["self", "name"] []) :
    FnOk Pg w K mg base (L2.CX Pg w) 3 f fd ["self", "place"] (spChkL K M U selP) := by
  refine F.okX scCheckP (fun vs H Q E h => ?_) (fun cdv A outer s H vs Q E hr h => ?_)
  · obtain ⟨x, z, d, ks, ps, rs, bs, rfl, _⟩ := h
    rfl
  · obtain ⟨x, z, d, ks, ps, rs, bs, rfl, hz, hM, kQ, kE⟩ := h
    refine ⟨_, pss_one (ps_if (pt_cmpR op_notIn_seq (pv 1) (pe_fld (pv 0) rfl) (by rfl)) (pss_one (ps_raise rfl (takes_of rfl rfl rfl rfl) (pmk_oex TU iU tU GU (hr.mono (by decide)) bU .nil pass0 (by rfl) gU (pa_cons (pv 1) pa_nil)))) pss_nil), ?_⟩
    obtain ⟨dx, fs, kk, pp, rr, D, bb, D2, ys, zs, hx, F7⟩ := hM
    refine ⟨_, rfl, _, rfl, x, M, dx, fs, _, rfl, hx, TM.cl, TM.n3, F7.f3, pp, _, rfl, .inr (SqT.of F7.p), rfl, flat_strs _, _, rfl, ?_⟩
    by_cases hin : z ∈ ps
    · exact if_f (by simp [inV_dec, hin]) (kQ hin)
    · refine if_t (by simp [inV_dec, hin]) ⟨_, rfl, by simp, fun a na => ⟨a, z, rfl, hz, upd_same, fun dx2 nd ne => ⟨rfl, dx2, [("name", .str z)], upd_same, ?_, ?_, ?_⟩⟩⟩
      · rw [upd_ne ne]; exact upd_same
      · rw [upd_ne ne] at nd; exact nd
      · exact raise_end na (kE hin) dx2 nd ne _ rfl
theorem scCheckK : FnScope ["self", "kind"] ["self", "kind"] (defScope sCheckK) := ⟨rfl, rfl, rfl, by decide +kernel, rfl, by decide +kernel, by decide +kernel⟩
theorem ok_checkK {f M U fU : Addr} {fd fdU : FuncData} (F : Fun K "check_kind" "Map.check_kind" sCheckK f fd) (TM : TxtM K M) (gU : mg "UnknownName" = some (.ref U)) (TU : OexC K U) (iU : PySem.W.findIn K (.ref U) "__init__" = some (some (.ref fU))) (tU : PySem.W.typeIn K (.ref fU) = some (.type "function"))
    (GU : FnOk Pg w K mg base CX0 1 fU fdU ["self", "name"] (spUInit K U)) (bU : Binds K fdU ["self", "name"] []) :
    FnOk Pg w K mg base (L2.CX Pg w) 3 f fd ["self", "kind"] (spChkL K M U selK) := by
  refine F.okX scCheckK (fun vs H Q E h => ?_) (fun cdv A outer s H vs Q E hr h => ?_)
  · obtain ⟨x, z, d, ks, ps, rs, bs, rfl, _⟩ := h
    rfl
  · obtain ⟨x, z, d, ks, ps, rs, bs, rfl, hz, hM, kQ, kE⟩ := h
    refine ⟨_, pss_one (ps_if (pt_cmpR op_notIn_seq (pv 1) (pe_fld (pv 0) rfl) (by rfl)) (pss_one (ps_raise rfl (takes_of rfl rfl rfl rfl) (pmk_oex TU iU tU GU (hr.mono (by decide)) bU .nil pass0 (by rfl) gU (pa_cons (pv 1) pa_nil)))) pss_nil), ?_⟩
    obtain ⟨dx, fs, kk, pp, rr, D, bb, D2, ys, zs, hx, F7⟩ := hM
    refine ⟨_, rfl, _, rfl, x, M, dx, fs, _, rfl, hx, TM.cl, TM.n2, F7.f2, kk, _, rfl, .inr (SqT.of F7.k), rfl, flat_strs _, _, rfl, ?_⟩
    by_cases hin : z ∈ ks
    · exact if_f (by simp [inV_dec, hin]) (kQ hin)
    · refine if_t (by simp [inV_dec, hin]) ⟨_, rfl, by simp, fun a na => ⟨a, z, rfl, hz, upd_same, fun dx2 nd ne => ⟨rfl, dx2, [("name", .str z)], upd_same, ?_, ?_, ?_⟩⟩⟩
      · rw [upd_ne ne]; exact upd_same
      · rw [upd_ne ne] at nd; exact nd
      · exact raise_end na (kE hin) dx2 nd ne _ rfl
theorem scMayU : FnScope ["self", "kind", "name"] ["self", "kind", "name"] (defScope sMayU) := ⟨rfl, rfl, rfl, by decide +kernel, rfl, by decide +kernel, by decide +kernel⟩
theorem ok_mayU {f M U fR fC : Addr} {fd fdR fdC : FuncData} {t1 : Tok} (F : Fun K "may_use" "Map.may_use" sMayU f fd) (TM : TxtM K M) (mR : Meth K M "road" fR) (mC : Meth K M "check_kind" fC) (hk : mg "KINDS" = some (.int 4 t1))
    (GR : FnOk Pg w K mg base (L2.CX Pg w) 4 fR fdR ["self", "name"] (spRoadM K M U)) (bR : Binds K fdR ["self", "name"] [])
    (GC : FnOk Pg w K mg base (L2.CX Pg w) 3 fC fdC ["self", "kind"] (spChkL K M U selK)) (bC : Binds K fdC ["self", "kind"] []) :
    FnOk Pg w K mg base (L2.CX Pg w) 5 f fd ["self", "kind", "name"] (spMayU K M P) := by
  refine F.okX scMayU (fun vs H Q E h => ?_) (fun cdv A outer s H vs Q E hr h => ?_)
  · obtain ⟨x, z, d, ks, ps, rs, bs, r, rfl, _⟩ := h
    rfl
  · obtain ⟨x, z, d, ks, ps, rs, bs, r, rfl, hz, hk2, hM, h1, kQ⟩ := h
    refine ⟨_, pss_cons (ps_expr (pe_meth (E := E) (pv 0) TM.cl mC GC (hr.mono (by decide)) bC .nil (passes_call (takes_of rfl rfl rfl rfl) (fun _ _ _ _ h => h)) (pa_cons (pv 1) pa_nil)))
      (pss_one (ps_ret (pe_cmpR op_in_seq (pv 1) (pe_ix ix_tup (pe_meth (E := E) (pv 0) TM.cl mR GR hr bR .nil (passes_call (takes_of rfl rfl rfl rfl) (fun _ _ _ _ h => h)) (pa_cons (pv 2) pa_nil)) (pe_gI hk) (fun _ _ => rfl)) (by rfl)))), ?_⟩
    obtain ⟨dx, fs, kk, pp, rr, D, bb, D2, ys, zs, hx, F7⟩ := hM.m
    refine ⟨_, rfl, x, dx, fs, rfl, hx, F7.f0 _ (by decide +kernel), _, rfl, x, z, d, ks, ps, rs, bs, rfl, hz, hM.m, fun _ => ?_, fun no => absurd hk2 no⟩
    refine ⟨_, rfl, _, rfl, x, dx, fs, rfl, hx, F7.f0 _ (by decide +kernel), _, rfl, x, r.name, d, ks, ps, rs, bs, rfl, hM.nl _ h1, hM.m, fun r' hr1 he1 v hv => ?_, fun no => absurd rfl (no r h1)⟩
    obtain rfl : r' = r := uniq_name hM.nd hr1 h1 he1
    obtain ⟨p, q, hv, rfl, ep, eq, _⟩ := hv
    refine ⟨p, _, 4, _, rfl, rfl, SqT.of ep, rfl, q, _, rfl, .inr (SqT.of eq), rfl, flat_strs _, ?_⟩
    rw [← inV_dec] at kQ
    exact kQ
theorem scEver : FnScope ["chart", "kind", "name"] ["chart", "kind", "name"] (defScope sCanEver) := ⟨rfl, rfl, rfl, by decide +kernel, rfl, by decide +kernel, by decide +kernel⟩
theorem ok_ever {f M U fR fC : Addr} {fd fdR fdC : FuncData} {t1 : Tok} (F : Fun K "can_ever_enter" "can_ever_enter" sCanEver f fd) (TM : TxtM K M) (mR : Meth K M "road" fR) (mC : Meth K M "may_use" fC) (hh : mg "HOURS" = some (.int 5 t1))
    (GR : FnOk Pg w K mg base (L2.CX Pg w) 4 fR fdR ["self", "name"] (spRoadM K M U)) (bR : Binds K fdR ["self", "name"] [])
    (GC : FnOk Pg w K mg base (L2.CX Pg w) 5 fC fdC ["self", "kind", "name"] (spMayU K M P)) (bC : Binds K fdC ["self", "kind", "name"] []) :
    FnOk Pg w K mg base (L2.CX Pg w) 6 f fd ["chart", "kind", "name"] (spEver K M P) := by
  refine F.okX scEver (fun vs H Q E h => ?_) (fun cdv A outer s H vs Q E hr h => ?_)
  · obtain ⟨x, z, d, ks, ps, rs, bs, r, rfl, _⟩ := h
    rfl
  · obtain ⟨x, z, d, ks, ps, rs, bs, r, rfl, hz, hk2, hM, h1, kQ⟩ := h
    refine ⟨_, pss_one (ps_ret (pe_and (pe_meth (E := E) (pv 0) TM.cl mC GC hr bC .nil (passes_call (takes_of rfl rfl rfl rfl) (fun _ _ _ _ h => h)) (pa_cons (pv 1) (pa_cons (pv 2) pa_nil)))
      (pe_one (pe_cmpR (op_neD hr.units) (pe_ix ix_tup (pe_meth (E := E) (pv 0) TM.cl mR GR (hr.mono (by decide)) bR .nil (passes_call (takes_of rfl rfl rfl rfl) (fun _ _ _ _ h => h)) (pa_cons (pv 2) pa_nil)) (pe_gI hh) (fun _ _ => rfl)) (pe_tup pa_nil) (nomark _))))), ?_⟩
    obtain ⟨dx, fs, kk, pp, rr, D, bb, D2, ys, zs, hx, F7⟩ := hM.m
    refine ⟨_, rfl, x, dx, fs, rfl, hx, F7.f0 _ (by decide +kernel), _, rfl, _, rfl, x, z, d, ks, ps, rs, bs, r, rfl, hz, hk2, hM, h1, _, rfl, ?_⟩
    unfold everB at kQ
    by_cases c : z ∈ r.users
    · rw [decide_eq_true c] at kQ ⊢
      refine iteT ⟨_, rfl, x, dx, fs, rfl, hx, F7.f0 _ (by decide +kernel), _, rfl, x, r.name, d, ks, ps, rs, bs, rfl, hM.nl _ h1, hM.m, fun r' hr1 he1 v hv => ?_, fun no => absurd rfl (no r h1)⟩
      obtain rfl : r' = r := uniq_name hM.nd hr1 h1 he1
      obtain ⟨p, q, hv, rfl, ep, eq, hh⟩ := hv
      refine ⟨p, _, 5, hv, rfl, rfl, SqT.of ep, rfl, Nat.zero_le _, fun e0 ne0 => ?_⟩
      have g := Grew.new hM.t (o := .tup []) ne0
      refine ⟨_, _, dp_hours (hh.keep (KeepT.grew g hM.t)), .tup (SqT.of upd_same) .nil, shaped_hours _, shaped_pairs [], ?_⟩
      rw [show (PyData.tuple []) = PyData.tuple (([] : List (Int × Int)).map pairD) from rfl] at *
      have k := kQ _ g
      rw [← eqv_hours, Bool.true_and] at k
      exact k
    · rw [decide_eq_false c] at kQ ⊢
      exact iteF (kQ H (Grew.refl hM.t))
end
end W

set_option Elab.async false
set_option linter.all false
set_option maxRecDepth 100000
set_option maxHeartbeats 800000
namespace W
open PySem PySem.Spec PyProof.Rows L2 GxR MyG MyS
/-! ### check_names, _can_go_on, run, waiting -/
abbrev sNamesC : Stmt := top 37
def Known (rs : List RoadD) (z : Str) : Prop := ∃ r ∈ rs, r.name = z
/-- z is the first of zs that has not p -/
def FirstNot (p : Str → Prop) (zs : List Str) (z : Str) : Prop := ∃ i, zs[i]? = some z ∧ ¬ p z ∧ ∀ (j : Nat) (y : Str), j < i → zs[j]? = some y → p y
/-- the names of a question: the first unknown one flies -/
def Names4 (U : Addr) (ks ps : List Str) (rs : List RoadD) (kind : Str) (zs1 zs2 : List Str) (B : Str → Prop) (G : Prop) : Prop :=
  (kind ∉ ks ∧ B kind) ∨ (kind ∈ ks ∧ ∃ z, FirstNot (· ∈ ps) zs1 z ∧ B z) ∨ (kind ∈ ks ∧ (∀ z ∈ zs1, z ∈ ps) ∧ ∃ z, FirstNot (Known rs) zs2 z ∧ B z) ∨ (kind ∈ ks ∧ (∀ z ∈ zs1, z ∈ ps) ∧ (∀ z ∈ zs2, Known rs z) ∧ G)
theorem Names4.imp {U : Addr} {ks ps : List Str} {rs : List RoadD} {kind : Str} {zs1 zs2 : List Str} {B B' : Str → Prop} {G G' : Prop} (h : Names4 U ks ps rs kind zs1 zs2 B G) (hB : ∀ z, B z → B' z) (hG : kind ∈ ks → (∀ z ∈ zs1, z ∈ ps) → (∀ z ∈ zs2, Known rs z) → G → G') : Names4 U ks ps rs kind zs1 zs2 B' G' := by
  rcases h with ⟨a, b⟩ | ⟨a, z, b, c⟩ | ⟨a, b, z, c, e⟩ | ⟨a, b, c, e⟩
  · exact .inl ⟨a, hB _ b⟩
  · exact .inr (.inl ⟨a, z, b, hB _ c⟩)
  · exact .inr (.inr (.inl ⟨a, b, z, c, hB _ e⟩))
  · exact .inr (.inr (.inr ⟨a, b, c, hG a b c e⟩))
def spChkN (K : PySem.W.Frag) (M U P : Addr) : Sp := fun vs H Q E => ∃ (x pl ro : Addr) (kind : Str) (zs1 zs2 : List Str) (d : Int) (ks ps : List Str) (rs : List RoadD) (bs : List (Str × Str)), vs = [.ref x, .str kind, .ref pl, .ref ro] ∧ MIn K H M P x d ks ps rs bs ∧ kind.length ≤ 1000 ∧
  SqL K H pl (zs1.map V.str) ∧ SqL K H ro (zs2.map V.str) ∧ (∀ z ∈ zs1, z.length ≤ 1000) ∧ (∀ z ∈ zs2, z.length ≤ 1000) ∧ Names4 U ks ps rs kind zs1 zs2 (Unk U H E) (Q .non H)
theorem str_at {ns : List Str} {i : Nat} {y : V} (h : (ns.map V.str)[i]? = some y) : ∃ z, ns[i]? = some z ∧ y = V.str z := by
  rw [List.getElem?_map] at h
  obtain ⟨z, e1, e2⟩ := Option.map_eq_some_iff.mp h
  exact ⟨z, e1, e2.symm⟩
section
variable {Pg : Program} {w : World} {K : PySem.W.Frag} {mg : Str → Option Value} {base : Heap} {C P : Addr}
abbrev nNamesC : List Str := ["chart", "kind", "places", "roads", "place", "name"]
theorem scNamesC : FnScope nNamesC ["chart", "kind", "places", "roads"] (defScope sNamesC) := ⟨rfl, rfl, rfl, by decide +kernel, rfl, by decide +kernel, by decide +kernel⟩
theorem ok_chkN {f M U fK fP fR : Addr} {fd fdK fdP fdR : FuncData} (F : Fun K "check_names" "check_names" sNamesC f fd) (TM : TxtM K M) (mK : Meth K M "check_kind" fK) (mP : Meth K M "check_place" fP) (mR : Meth K M "check_road" fR)
    (GK : FnOk Pg w K mg base (L2.CX Pg w) 3 fK fdK ["self", "kind"] (spChkL K M U selK)) (bK : Binds K fdK ["self", "kind"] [])
    (GP : FnOk Pg w K mg base (L2.CX Pg w) 3 fP fdP ["self", "place"] (spChkL K M U selP)) (bP : Binds K fdP ["self", "place"] [])
    (GR : FnOk Pg w K mg base (L2.CX Pg w) 3 fR fdR ["self", "name"] (spCheck K M U)) (bR : Binds K fdR ["self", "name"] []) :
    FnOk Pg w K mg base (L2.CX Pg w) 4 f fd ["chart", "kind", "places", "roads"] (spChkN K M U P) := by
  refine F.okX scNamesC (fun vs H Q E h => ?_) (fun cdv A outer s H vs Q E hr h => ?_)
  · obtain ⟨x, pl, ro, kind, zs1, zs2, d, ks, ps, rs, bs, rfl, _⟩ := h
    rfl
  · obtain ⟨x, pl, ro, kind, zs1, zs2, d, ks, ps, rs, bs, rfl, hM, hk, hS1, hS2, hz1, hz2, h4⟩ := h
    refine ⟨_, pss_cons (ps_expr (pe_meth (E := E) (pv 0) TM.cl mK GK hr bK .nil (passes_call (takes_of rfl rfl rfl rfl) (fun _ _ _ _ h => h)) (pa_cons (pv 1) pa_nil)))
      (pss_cons (ps_for (passes_of rfl) rfl (pi_list (pv 2)) (pg_name (i := 4) scNamesC.nd rfl (Or.inl rfl)) (pss_one (ps_expr (pe_meth (E := E) (pv 0) TM.cl mP GP hr bP .nil (passes_call (takes_of rfl rfl rfl rfl) (fun _ _ _ _ h => h)) (pa_cons (pv 4) pa_nil)))))
      (pss_one (ps_for (passes_of rfl) rfl (pi_list (pv 3)) (pg_name (i := 5) scNamesC.nd rfl (Or.inl rfl)) (pss_one (ps_expr (pe_meth (E := E) (pv 0) TM.cl mR GR hr bR .nil (passes_call (takes_of rfl rfl rfl rfl) (fun _ _ _ _ h => h)) (pa_cons (pv 5) pa_nil))))))), ?_⟩
    obtain ⟨dx, fs, kk, pp, rr, D, bb, D2, ys, zs, hx, F7⟩ := hM.m
    refine ⟨_, rfl, x, dx, fs, rfl, hx, F7.f0 _ (by decide +kernel), _, rfl, x, kind, d, ks, ps, rs, bs, rfl, hk, hM.m, fun hkin => ?_, fun hno => ?_⟩
    · have hkin' : kind ∈ ks := hkin
      refine ⟨_, rfl, pl, rfl, ⟨_, hS1⟩, for_list (K := K) (a := pl) (xs := zs1.map V.str) (fun i σ H' => H' = H ∧ ∃ v, σ = [some (.ref x), some (.str kind), some (.ref pl), some (.ref ro), v, none] ∧ ∀ j y, j < i → zs1[j]? = some y → y ∈ ps)
        ⟨rfl, none, rfl, fun j y hj => absurd hj (Nat.not_lt_zero _)⟩ (fun i σ H' _ ⟨e, _⟩ => by rw [e]; exact hS1) ?_ ?_⟩
      · rintro i y σ H' hi ⟨rfl, v, rfl, hb⟩
        obtain ⟨z, ez, rfl⟩ := str_at hi
        refine ⟨_, rfl, x, dx, fs, rfl, hx, F7.f0 _ (by decide +kernel), _, rfl, x, z, d, ks, ps, rs, bs, rfl, hz1 z (List.mem_of_getElem? ez), hM.m, fun hin => ⟨rfl, _, rfl, fun j y hj e => ?_⟩, fun hno => ?_⟩
        · rcases Nat.lt_succ_iff_lt_or_eq.mp hj with h | h
          · exact hb j y h e
          · rw [h, ez] at e
            cases e
            exact hin
        · have hno' : z ∉ ps := hno
          rcases h4 with ⟨a, _⟩ | ⟨_, z', ⟨i', e', n', b'⟩, u⟩ | ⟨_, b, _⟩ | ⟨_, b, _⟩
          · exact absurd hkin' a
          · rcases Nat.lt_trichotomy i i' with c | c | c
            · exact absurd (b' i z c ez) hno'
            · rw [c, e'] at ez
              cases ez
              exact u
            · exact absurd (hb i' z' c e') n'
          · exact absurd (b z (List.mem_of_getElem? ez)) hno'
          · exact absurd (b z (List.mem_of_getElem? ez)) hno'
      · rintro σ H' ⟨rfl, v, rfl, hb⟩
        rw [List.length_map] at hb
        have all1 : ∀ z ∈ zs1, z ∈ ps := fun z hz => by
          obtain ⟨j, hj, e⟩ := List.getElem_of_mem hz
          exact hb j z hj (by rw [List.getElem?_eq_getElem hj, e])
        refine ⟨_, rfl, ro, rfl, ⟨_, hS2⟩, for_list (K := K) (a := ro) (xs := zs2.map V.str) (fun i σ H2 => H2 = H' ∧ ∃ u, σ = [some (.ref x), some (.str kind), some (.ref pl), some (.ref ro), v, u] ∧ ∀ j y, j < i → zs2[j]? = some y → Known rs y)
          ⟨rfl, none, rfl, fun j y hj => absurd hj (Nat.not_lt_zero _)⟩ (fun i σ H' _ ⟨e, _⟩ => by rw [e]; exact hS2) ?_ ?_⟩
        · rintro i y σ H2 hi ⟨rfl, u, rfl, hb2⟩
          obtain ⟨z, ez, rfl⟩ := str_at hi
          refine ⟨_, rfl, x, dx, fs, rfl, hx, F7.f0 _ (by decide +kernel), _, rfl, x, z, d, ks, ps, rs, bs, rfl, hz2 z (List.mem_of_getElem? ez), hM.m, fun hin => ⟨rfl, _, rfl, fun j y hj e => ?_⟩, fun hno => ?_⟩
          · rcases Nat.lt_succ_iff_lt_or_eq.mp hj with h | h
            · exact hb2 j y h e
            · rw [h, ez] at e
              cases e
              exact hin
          · have hno' : ¬ Known rs z := fun ⟨r, h1, h2⟩ => hno r h1 h2
            rcases h4 with ⟨a, _⟩ | ⟨_, z', ⟨i', e', n', b'⟩, u⟩ | ⟨_, _, z', ⟨i', e', n', b'⟩, u⟩ | ⟨_, _, b, _⟩
            · exact absurd hkin' a
            · exact absurd (all1 z' (List.mem_of_getElem? e')) n'
            · rcases Nat.lt_trichotomy i i' with c | c | c
              · exact absurd (b' i z c ez) hno'
              · rw [c, e'] at ez
                cases ez
                exact u
              · exact absurd (hb2 i' z' c e') n'
            · exact absurd (b z (List.mem_of_getElem? ez)) hno'
        · rintro σ H2 ⟨rfl, u, rfl, hb2⟩
          rw [List.length_map] at hb2
          rcases h4 with ⟨a, _⟩ | ⟨_, z', ⟨i', e', n', b'⟩, _⟩ | ⟨_, _, z', ⟨i', e', n', b'⟩, _⟩ | ⟨_, _, _, g⟩
          · exact absurd hkin' a
          · exact absurd (all1 z' (List.mem_of_getElem? e')) n'
          · exact absurd (hb2 i' z' (List.getElem?_eq_some_iff.mp e').1 e') n'
          · exact g
    · have hno' : kind ∉ ks := hno
      rcases h4 with ⟨_, u⟩ | ⟨a, _⟩ | ⟨a, _⟩ | ⟨a, _⟩
      · exact u
      all_goals exact absurd a hno'
end
end W

set_option Elab.async false
set_option linter.all false
set_option maxRecDepth 100000
set_option maxHeartbeats 800000
namespace W
open PySem PySem.Spec PyProof.Rows L2 GxR MyG MyS
/-! ### Map.road_names, roads_from, followers; turns -/
abbrev sRNames : Stmt := inClass (top 32) 1
abbrev sRFrom : Stmt := inClass (top 32) 6
abbrev sFoll : Stmt := inClass (top 32) 10
abbrev sTurns : Stmt := top 39
/-- nothing is let out by a def whose promise lets nothing out -/
theorem passF {P : Program} {w : World} {X : Cx} (hP : X.prog = P) (hw : X.w = w) : Passes (L2.CX P w) X E0 := fun pins σ H s e s' I c => by
  obtain ⟨_, _, _, _, _, _, _, _, _, _, _, _, q⟩ := c
  exact q.elim
theorem pe_fldK {X : Cx} {e : Expr} {f : Str} {pos : Pos} {ta : TE} {K : PySem.W.Frag} (hK : X.K = K) (he : PE X e ta) (hb : attributeBase e f X.env (eval e X.env) = eval e X.env) : PE X (.Attribute e f pos) (tFld K ta f) := by
  subst hK
  exact pe_fld he hb
def namesV (rs : List RoadD) : List V := (rs.map (·.name)).map V.str
def spRNames (K : PySem.W.Frag) (M P : Addr) : Sp := fun vs H Q _ => ∃ (x : Addr) (d : Int) (ks ps : List Str) (rs : List RoadD) (bs : List (Str × Str)), vs = [.ref x] ∧ MIn K H M P x d ks ps rs bs ∧ rs.length ≤ 60 ∧
  ∀ H' p, Grew P H H' → H p = none → H' p = some (.tup (namesV rs)) → Q (.ref p) H'
def spRFrom (K : PySem.W.Frag) (M P : Addr) : Sp := fun vs H Q _ => ∃ (x : Addr) (z : Str) (d : Int) (ks ps : List Str) (rs : List RoadD) (bs : List (Str × Str)), vs = [.ref x, .str z] ∧ z.length ≤ 1000 ∧ z ∈ ps ∧ MIn K H M P x d ks ps rs bs ∧ rs.length ≤ 60 ∧
  ∀ H' p, Grew P H H' → H p = none → H' p = some (.lst (namesV (rs.filter fun r => decide (r.start = z)))) → Q (.ref p) H'
def spFoll (K : PySem.W.Frag) (M P : Addr) : Sp := fun vs H Q _ => ∃ (x : Addr) (r0 : RoadD) (d : Int) (ks ps : List Str) (rs : List RoadD) (bs : List (Str × Str)), vs = [.ref x, .str r0.name] ∧ r0 ∈ rs ∧ r0.goal ∈ ps ∧ r0.goal.length ≤ 1000 ∧ MIn K H M P x d ks ps rs bs ∧ rs.length ≤ 60 ∧
  ∀ H' p, Grew P H H' → H p = none → H' p = some (.lst (namesV (rs.filter fun r => decide (r.start = r0.goal) && !decide ((r0.name, r.name) ∈ bs)))) → Q (.ref p) H'
theorem filter_take {α : Type} {p : α → Bool} {l : List α} {i : Nat} {a : α} (h : l[i]? = some a) : (l.take (i + 1)).filter p = if p a = true then (l.take i).filter p ++ [a] else (l.take i).filter p := by
  rw [List.take_succ, h, List.filter_append]
  by_cases c : p a = true
  · rw [if_pos c]
    simp [c]
  · rw [if_neg c]
    simp [c]
theorem namesV_app (a b : List RoadD) : namesV (a ++ b) = namesV a ++ namesV b := by
  unfold namesV
  rw [List.map_append, List.map_append]
theorem namesV_len (a : List RoadD) : (namesV a).length ≤ a.length := by
  unfold namesV
  rw [List.length_map, List.length_map]
  exact Nat.le_refl _
section
variable {Pg : Program} {w : World} {K : PySem.W.Frag} {mg : Str → Option Value} {base : Heap} {C P : Addr}
theorem scRNames : FnScope ["self", "road"] ["self"] (defScope sRNames) := ⟨rfl, rfl, rfl, by decide +kernel, rfl, by decide +kernel, by decide +kernel⟩
theorem ok_rnames {f M : Addr} {fd : FuncData} {t1 : Tok} (F : Fun K "road_names" "Map.road_names" sRNames f fd) (TM : TxtM K M) (ht : mg "tuple" = none) (hn : mg "NAME" = some (.int 0 t1)) : FnOk Pg w K mg base CX0 1 f fd ["self"] (spRNames K M P) := by
  refine F.ok scRNames (fun vs H Q E h => ?_) (fun cdv A outer s H vs Q E hr h => ?_)
  · obtain ⟨x, d, ks, ps, rs, bs, rfl, _⟩ := h
    rfl
  · obtain ⟨x, d, ks, ps, rs, bs, rfl, hM, h60, k⟩ := h
    refine ⟨_, pss_one (ps_ret (pe_callTy call_tuple_of (by rfl) ht (by decide +kernel) (pa_cons (pe_lc (own := [("road", 1)]) (g := gName 1) (tt := tYes) rfl scRNames.nd (pi_tup (pe_fld (pv 0) rfl)) (blkOk_by (N := ["self", "road"]) (sc := defScope sRNames) (by decide +kernel)) (fun _ _ _ _ _ => pg_name (i := 1) scRNames.nd rfl (Or.inl rfl)) (fun _ _ _ _ _ => pts_nil)
          (fun _ _ _ _ _ => pe_ix (r := rIxT K) ix_tup (pv 1) (pe_gI hn) (fun _ _ => rfl))) pa_nil))), ?_⟩
    obtain ⟨dx, fs, kk, pp, rr, D, bb, D2, ys, zs, hx, F7⟩ := hM.m
    have hP := hM.t
    refine ⟨_, rfl, x, M, dx, fs, _, rfl, hx, TM.cl, TM.n4, F7.f4, rr, rfl, ⟨_, SqT.of F7.r⟩, fun L nL => lc_tup (K := K) (a := rr) (xs := ys) (fun i H1 => Grew P H H1 ∧ H1 L = some (.lst (namesV (rs.take i))))
      ⟨Grew.new hP nL, upd_same⟩ (fun i H1 _ p => SqT.of (p.1.tup hP F7.r)) (fun i y H1 hy p => ?_) (fun H1 p => ?_)⟩
    · obtain ⟨g, hD⟩ := p
      obtain ⟨r, hr1, m⟩ := Paired.at F7.ry hy
      obtain ⟨t, q, h, rfl, et, _⟩ := m.grew g hP
      have hi := (List.getElem?_eq_some_iff.mp hr1).1
      refine ⟨rfl, _, rfl, t, _, 0, .str r.name, rfl, rfl, SqT.of et, rfl, _, hD, ?_, g.write hD (fun _ z => by cases z) nL, ?_⟩
      · unfold namesV
        rw [List.length_map, List.length_map, List.length_take, sizeLine_eq]; omega
      · rw [upd_same, List.take_succ, hr1, namesV_app]; rfl
    · obtain ⟨g, hD⟩ := p
      rw [← Paired.len F7.ry, List.take_length] at hD
      refine ⟨L, _, rfl, .inl ⟨SqL.of hD, fun q nq => ?_⟩⟩
      exact k _ q (g.put nq) (g.free nq) upd_same
theorem scRFrom : FnScope ["self", "place", "road"] ["self", "place"] (defScope sRFrom) := ⟨rfl, rfl, rfl, by decide +kernel, rfl, by decide +kernel, by decide +kernel⟩
theorem ok_rfrom {f M U fC : Addr} {fd fdC : FuncData} {t1 t2 : Tok} (F : Fun K "roads_from" "Map.roads_from" sRFrom f fd) (TM : TxtM K M) (hn : mg "NAME" = some (.int 0 t1)) (hst : mg "START" = some (.int 1 t2)) (mC : Meth K M "check_place" fC)
    (GC : FnOk Pg w K mg base (L2.CX Pg w) 3 fC fdC ["self", "place"] (spChkL K M U selP)) (bC : Binds K fdC ["self", "place"] []) : FnOk Pg w K mg base (L2.CX Pg w) 4 f fd ["self", "place"] (spRFrom K M P) := by
  refine F.okX scRFrom (fun vs H Q E h => ?_) (fun cdv A outer s H vs Q E hr h => ?_)
  · obtain ⟨x, z, d, ks, ps, rs, bs, rfl, _⟩ := h
    rfl
  · obtain ⟨x, z, d, ks, ps, rs, bs, rfl, hz, hzp, hM, h60, k⟩ := h
    refine ⟨_, pss_cons (ps_expr (pe_meth (pv 0) TM.cl mC GC hr bC .nil (passF rfl rfl) (pa_cons (pv 1) pa_nil)))
      (pss_one (ps_ret (pe_lc (own := [("road", 2)]) (g := gName 2) rfl scRFrom.nd (pi_tup (pe_fld (pv 0) rfl)) (blkOk_by (N := ["self", "place", "road"]) (sc := defScope sRFrom) (by decide +kernel)) (fun _ _ _ _ _ => pg_name (i := 2) scRFrom.nd rfl (Or.inl rfl))
          (fun _ _ _ _ _ => pts_one (pt_cmpR op_eq (pe_ix (r := rIxT K) ix_tup (pv 2) (pe_gI hst) (fun _ _ => rfl)) (pv 1) (nomark _)))
          (fun _ _ _ _ _ => pe_ix (r := rIxT K) ix_tup (pv 2) (pe_gI hn) (fun _ _ => rfl))))), ?_⟩
    obtain ⟨dx, fs, kk, pp, rr, D, bb, D2, ys, zs, hx, F7⟩ := hM.m
    have hP := hM.t
    refine ⟨_, rfl, x, dx, fs, rfl, hx, F7.f0 _ (by decide +kernel), _, rfl, x, z, d, ks, ps, rs, bs, rfl, hz, hM.m, fun _ => ?_, fun no => absurd hzp no⟩
    refine ⟨_, rfl, x, M, dx, fs, _, rfl, hx, TM.cl, TM.n4, F7.f4, rr, rfl, ⟨_, SqT.of F7.r⟩, fun L nL => lc_tup (K := K) (a := rr) (xs := ys) (fun i H1 => Grew P H H1 ∧ H1 L = some (.lst (namesV ((rs.take i).filter fun r => decide (r.start = z)))))
      ⟨Grew.new hP nL, upd_same⟩ (fun i H1 _ p => SqT.of (p.1.tup hP F7.r)) (fun i y H1 hy p => ?_) (fun H1 p => ?_)⟩
    · obtain ⟨g, hD⟩ := p
      obtain ⟨r, hr1, m⟩ := Paired.at F7.ry hy
      obtain ⟨t, q, h, rfl, et, _⟩ := m.grew g hP
      have hi := (List.getElem?_eq_some_iff.mp hr1).1
      rw [filter_take hr1]
      refine ⟨rfl, _, rfl, t, _, 1, .str r.start, rfl, rfl, SqT.of et, rfl, _, rfl, rfl, _, rfl, ?_⟩
      by_cases c : r.start = z
      · rw [decide_eq_true (congrArg V.str c), if_pos (decide_eq_true c)]
        refine if_t rfl ⟨_, rfl, t, _, 0, .str r.name, rfl, rfl, SqT.of et, rfl, _, hD, ?_, g.write hD (fun _ z => by cases z) nL, ?_⟩
        · refine Nat.lt_of_le_of_lt (namesV_len _) (Nat.lt_of_le_of_lt (List.length_filter_le _ _) ?_)
          rw [List.length_take, sizeLine_eq]; omega
        · rw [upd_same, namesV_app]; rfl
      · rw [decide_eq_false (show ¬ V.str r.start = V.str z from fun e => c (by injection e)), if_neg (by simp [c])]
        exact if_f rfl ⟨g, hD⟩
    · obtain ⟨g, hD⟩ := p
      rw [← Paired.len F7.ry, List.take_length] at hD
      exact k _ L g nL hD
abbrev nFoll : List Str := ["self", "name", "end", "other"]
theorem scFoll : FnScope nFoll ["self", "name"] (defScope sFoll) := ⟨rfl, rfl, rfl, by decide +kernel, rfl, by decide +kernel, by decide +kernel⟩
theorem barred_dec {kvs : List (List Key × V)} {bs : List (Str × Str)} (h : ∀ a b : Str, (valV kvs [.inr a, .inr b]).isSome = true ↔ (a, b) ∈ bs) (a b : Str) : (valV kvs [.inr a, .inr b]).isSome = decide ((a, b) ∈ bs) := by
  by_cases hb : (a, b) ∈ bs
  · rw [(h _ _).mpr hb, decide_eq_true hb]
  · rw [decide_eq_false hb]
    cases c : (valV kvs [.inr a, .inr b]).isSome with
    | false => rfl
    | true => exact absurd ((h _ _).mp c) hb
theorem namesV_at {rs : List RoadD} {i : Nat} {y : V} (h : (namesV rs)[i]? = some y) : ∃ r, rs[i]? = some r ∧ y = .str r.name := by
  unfold namesV at h
  rw [List.getElem?_map, List.getElem?_map] at h
  cases q : rs[i]? with
  | none => rw [q] at h; cases h
  | some r => rw [q] at h; exact ⟨r, rfl, (Option.some.inj h).symm⟩
theorem ok_foll {f M U fR fF : Addr} {fd fdR fdF : FuncData} {t1 : Tok} (F : Fun K "followers" "Map.followers" sFoll f fd) (TM : TxtM K M) (he : mg "END" = some (.int 2 t1)) (mR : Meth K M "road" fR) (mF : Meth K M "roads_from" fF)
    (GR : FnOk Pg w K mg base (L2.CX Pg w) 4 fR fdR ["self", "name"] (spRoadM K M U)) (bR : Binds K fdR ["self", "name"] [])
    (GF : FnOk Pg w K mg base (L2.CX Pg w) 4 fF fdF ["self", "place"] (spRFrom K M P)) (bF : Binds K fdF ["self", "place"] []) : FnOk Pg w K mg base (L2.CX Pg w) 5 f fd ["self", "name"] (spFoll K M P) := by
  refine F.okX scFoll (fun vs H Q E h => ?_) (fun cdv A outer s H vs Q E hr h => ?_)
  · obtain ⟨x, r0, d, ks, ps, rs, bs, rfl, _⟩ := h
    rfl
  · obtain ⟨x, r0, d, ks, ps, rs, bs, rfl, h0, hgp, hgl, hM, h60, k⟩ := h
    refine ⟨_, pss_cons (ps_set (i := 2) scFoll.nd rfl (Or.inl rfl) (pe_ix ix_tup (pe_meth (pv 0) TM.cl mR GR hr bR .nil (passF rfl rfl) (pa_cons (pv 1) pa_nil)) (pe_gI he) (fun _ _ => rfl)))
      (pss_one (ps_ret (pe_lc (own := [("other", 3)]) (g := gName 3) rfl scFoll.nd (pi_list (pe_meth (pv 0) TM.cl mF GF hr bF .nil (passF rfl rfl) (pa_cons (pv 2) pa_nil))) (blkOk_by (N := nFoll) (sc := defScope sFoll) (by decide +kernel)) (fun _ _ _ _ _ => pg_name (i := 3) scFoll.nd rfl (Or.inl rfl))
          (fun _ _ _ _ _ => pts_one (pt_cmp (pc_dnotin (u1 hr.units) (pe_tup (pa_cons (pv 1) (pa_cons (pv 3) pa_nil))) (pe_fldK (K := K) rfl (pv 0) rfl))))
          (fun _ _ _ _ _ => pv 3)))), ?_⟩
    obtain ⟨dx, fs, kk, pp, rr, D, bb, D2, ys, zs, hx, F7⟩ := hM.m
    have hP := hM.t
    refine ⟨_, rfl, x, dx, fs, rfl, hx, F7.f0 _ (by decide +kernel), _, rfl, x, r0.name, d, ks, ps, rs, bs, rfl, hM.nl _ h0, hM.m, fun r hr1 he1 v hv => ?_, fun no => absurd rfl (no r0 h0)⟩
    obtain rfl : r = r0 := uniq_name hM.nd hr1 h0 he1
    obtain ⟨p, q, hv, rfl, ep, _, _⟩ := hv
    refine ⟨p, _, 2, _, rfl, rfl, SqT.of ep, rfl, ?_⟩
    refine ⟨_, rfl, x, dx, fs, rfl, hx, F7.f0 _ (by decide +kernel), _, rfl, x, r.goal, d, ks, ps, rs, bs, rfl, hgl, hgp, hM, h60, fun H1 L1 g1 nL1 eL1 => ?_⟩
    obtain ⟨kvs, hd, hin⟩ := F7.db
    generalize hfl : rs.filter (fun r' => decide (r'.start = r.goal)) = fl at eL1
    have lfl : fl.length ≤ 60 := by rw [← hfl]; exact Nat.le_trans (List.length_filter_le _ _) h60
    refine ⟨L1, rfl, ⟨_, SqL.of eL1⟩, fun L nL => lc_list (K := K) (a := L1) (xs := namesV fl) (fun i H2 => Grew P H1 H2 ∧ H2 L = some (.lst (namesV ((fl.take i).filter fun r' => !decide ((r.name, r'.name) ∈ bs)))))
      ⟨Grew.new g1.tab nL, upd_same⟩ (fun i H2 _ p => SqL.of (p.1.lst g1.tab eL1)) (fun i y H2 hy p => ?_) (fun H2 p => ?_)⟩
    · obtain ⟨g, hD⟩ := p
      obtain ⟨r', hr', rfl⟩ := namesV_at hy
      have hi := (List.getElem?_eq_some_iff.mp hr').1
      rw [filter_take hr']
      have g2 := g1.trans g
      refine ⟨rfl, _, rfl, _, rfl, by show 2 ≤ sizeLine; decide, fun q nq => ?_⟩
      have gq := Grew.new g.tab (o := .tup [.str r.name, .str r'.name]) nq
      have hDq := gq.lst g.tab hD
      refine ⟨_, rfl, x, M, dx, fs, _, rfl, (g2.trans gq).get hP hx (fun _ z => by cases z), TM.cl, TM.n7, F7.f7, D2, _, rfl, DGet.t (k := [.inr r.name, .inr r'.name]) ((g2.trans gq).get hP hd (fun _ z => by cases z)) upd_same, ?_⟩
      rw [barred_dec hin]
      by_cases c : (r.name, r'.name) ∈ bs
      · rw [decide_eq_true c]
        refine ⟨_, rfl, ?_⟩
        exact if_f rfl ⟨g.trans gq, by rw [if_neg (by simp)]; exact hDq⟩
      · rw [decide_eq_false c]
        refine ⟨_, rfl, ?_⟩
        refine if_t rfl ⟨_, rfl, _, hDq, ?_, (g.trans gq).write hDq (fun _ z => by cases z) nL, ?_⟩
        · refine Nat.lt_of_le_of_lt (namesV_len _) (Nat.lt_of_le_of_lt (List.length_filter_le _ _) ?_)
          rw [List.length_take, sizeLine_eq]; omega
        · rw [upd_same, if_pos (by simp), namesV_app]; rfl
    · obtain ⟨g, hD⟩ := p
      have ef : fl.length = (namesV fl).length := by unfold namesV; rw [List.length_map, List.length_map]
      rw [← ef, List.take_length, ← hfl, List.filter_filter] at hD
      refine k _ L (g1.trans g) (g1.free nL) ?_
      rw [hD]
      congr 3
      exact List.filter_congr fun r' _ => Bool.and_comm _ _
end
end W

set_option Elab.async false
set_option linter.all false
set_option maxRecDepth 100000
set_option maxHeartbeats 800000
namespace W
open PySem PySem.Spec PyProof.Rows L2 GxR MyG MyS
/-! ### turns: where a trip can go on -/
def mayB (kind : Str) (bs : List (Str × Str)) (place : Str) (before : Option Str) (r : RoadD) : Bool := decide (r.start = place) && (everB kind r && (match before with | none => true | some b => !decide ((b, r.name) ∈ bs)))
/-- the roads that can be driven next -/
def nxR (kind : Str) (bs : List (Str × Str)) (rs : List RoadD) (place : Str) (before : Option Str) : List RoadD := rs.filter (mayB kind bs place before)
def BehindAt (H : Hp) (D : Addr) (kind start : Str) (rs : List RoadD) (bs : List (Str × Str)) : Prop := ∃ kvs, H D = some (.dK kvs) ∧ (∃ l, valV kvs (.inr Str.empty) = some (.ref l) ∧ H l = some (.lst (namesV (nxR kind bs rs start none)))) ∧
  ∀ r ∈ rs, ∃ l, valV kvs (.inr r.name) = some (.ref l) ∧ H l = some (.lst (namesV (nxR kind bs rs r.goal (some r.name))))
theorem BehindAt.grew {P : Addr} {H H' : Hp} {D : Addr} {kind start : Str} {rs : List RoadD} {bs : List (Str × Str)} (b : BehindAt H D kind start rs bs) (g : Grew P H H') (h : TabG H P) : BehindAt H' D kind start rs bs := by
  obtain ⟨kvs, e, ⟨l, a1, a2⟩, b2⟩ := b
  refine ⟨kvs, g.get h e (fun _ z => by cases z), ⟨l, a1, g.lst h a2⟩, fun r hr => ?_⟩
  obtain ⟨l, c1, c2⟩ := b2 r hr
  exact ⟨l, c1, g.lst h c2⟩
/-- the map's roads lead between its places; no name is empty -/
structure RsIn (ps : List Str) (rs : List RoadD) : Prop where
  l60 : rs.length ≤ 60
  goal : ∀ r ∈ rs, r.goal ∈ ps
  ne : ∀ r ∈ rs, r.name ≠ Str.empty
abbrev sRTurns : Stmt := top 40
def RowsAt (H : Hp) (D : Addr) (kind : Str) (rs : List RoadD) (bs : List (Str × Str)) : Prop := ∃ kvs, H D = some (.dK kvs) ∧ kvs.length ≤ 60 ∧ ∀ r ∈ rs, ∃ l, valV kvs (.inr r.name) = some (.ref l) ∧ H l = some (.lst (namesV (nxR kind bs rs r.goal (some r.name))))
def spRTurns (K : PySem.W.Frag) (M P : Addr) : Sp := fun vs H Q _ => ∃ (x : Addr) (kind : Str) (d : Int) (ks ps : List Str) (rs : List RoadD) (bs : List (Str × Str)), vs = [.ref x, .str kind] ∧ MIn K H M P x d ks ps rs bs ∧ RsIn ps rs ∧ kind.length ≤ 1000 ∧ kind ∈ ks ∧ (∀ z ∈ ps, z.length ≤ 1000) ∧
  ∀ H' D, Grew P H H' → H D = none → RowsAt H' D kind rs bs → Q (.ref D) H'
def spTurns (K : PySem.W.Frag) (M P : Addr) : Sp := fun vs H Q _ => ∃ (x : Addr) (kind start : Str) (d : Int) (ks ps : List Str) (rs : List RoadD) (bs : List (Str × Str)), vs = [.ref x, .str kind, .str start] ∧ MIn K H M P x d ks ps rs bs ∧ RsIn ps rs ∧ kind.length ≤ 1000 ∧ kind ∈ ks ∧ start ∈ ps ∧ (∀ z ∈ ps, z.length ≤ 1000) ∧
  ∀ H' D, Grew P H H' → H D = none → BehindAt H' D kind start rs bs → Q (.ref D) H'
theorem nx_none (kind : Str) (bs : List (Str × Str)) (rs : List RoadD) (start : Str) : (rs.filter fun r => decide (r.start = start)).filter (everB kind) = nxR kind bs rs start none := by
  rw [List.filter_filter]
  refine List.filter_congr fun r _ => ?_
  unfold mayB
  rw [Bool.and_true, Bool.and_comm]
theorem nx_some (kind : Str) (bs : List (Str × Str)) (rs : List RoadD) (r0 : RoadD) : (rs.filter fun r => decide (r.start = r0.goal) && !decide ((r0.name, r.name) ∈ bs)).filter (everB kind) = nxR kind bs rs r0.goal (some r0.name) := by
  rw [List.filter_filter]
  refine List.filter_congr fun r _ => ?_
  unfold mayB
  generalize everB kind r = a
  generalize decide (r.start = r0.goal) = b
  show (a && (b && !decide ((r0.name, r.name) ∈ bs))) = (b && (a && !decide ((r0.name, r.name) ∈ bs)))
  generalize (!decide ((r0.name, r.name) ∈ bs)) = c
  cases a <;> cases b <;> cases c <;> rfl
section
variable {Pg : Program} {w : World} {K : PySem.W.Frag} {mg : Str → Option Value} {base : Heap} {C P : Addr}
theorem pi_listK {X : Cx} {l tg : Expr} {tl : TE} {K : PySem.W.Frag} (hK : X.K = K) (hl : PE X l tl) : PI X tg l (iList K tl) := by
  subst hK
  exact pi_list hl
abbrev scIn : Scope := { kind := ScopeKind.function, names := [(Str.ofString ".0", NameKind.local), (Str.ofString "last", NameKind.local), (Str.ofString "chart", NameKind.free), (Str.ofString "usable", NameKind.free)], isGenerator := false, isCoroutine := false }
abbrev nRTurns : List Str := ["chart", "kind", "usable", "last", "name"]
theorem scRTurns : FnScope nRTurns ["chart", "kind"] (defScope sRTurns) := ⟨rfl, rfl, rfl, by decide +kernel, rfl, by decide +kernel, by decide +kernel⟩
theorem ok_rturns {f M U fN fL fE pN : Addr} {fd fdN fdL fdE : FuncData} (F : Fun K "road_turns" "road_turns" sRTurns f fd) (TM : TxtM K M) (pr : PropOf K M "road_names" pN fN) (mL : Meth K M "followers" fL)
    (GN : FnOk Pg w K mg base CX0 1 fN fdN ["self"] (spRNames K M P)) (bN : Binds K fdN ["self"] [])
    (GL : FnOk Pg w K mg base (L2.CX Pg w) 5 fL fdL ["self", "name"] (spFoll K M P)) (bL : Binds K fdL ["self", "name"] [])
    (GE : FnOk Pg w K mg base (L2.CX Pg w) 6 fE fdE ["chart", "kind", "name"] (spEver K M P)) (gE : mg "can_ever_enter" = some (.ref fE)) (kE : PySem.W.keepIn K (.ref fE) = true) (bE : Binds K fdE ["chart", "kind", "name"] []) :
    FnOk Pg w K mg base (L2.CX Pg w) 7 f fd ["chart", "kind"] (spRTurns K M P) := by
  refine F.okX scRTurns (fun vs H Q E h => ?_) (fun cdv A outer s H vs Q E hr h => ?_)
  · obtain ⟨x, kind, d, ks, ps, rs, bs, rfl, _⟩ := h
    rfl
  · obtain ⟨x, kind, d, ks, ps, rs, bs, rfl, hM, hin, hkl, hk, hpl, k⟩ := h
    refine ⟨_, pss_cons (ps_set (i := 2) scRTurns.nd rfl (Or.inr rfl) (pe_dc (own := [("name", 4)]) (g := gName 4) (tt := tYes) rfl scRTurns.nd (pi_tup (pe_prop (pv 0) TM.cl pr GN (hr.mono (by decide)) bN .nil pass0 rfl)) (blkOk_by (N := nRTurns) (sc := defScope sRTurns) (by decide +kernel)) (fun _ _ _ _ _ => pg_name (i := 4) scRTurns.nd rfl (Or.inl rfl)) (fun _ _ _ _ _ => pts_nil)
          (fun _ _ _ _ _ => pv 4) (fun _ _ _ _ _ => pe_call (E := E0) GE hr (by rfl) gE kE bE .nil (passF rfl rfl) (pa_cons (pv 0) (pa_cons (pv 1) (pa_cons (pv 4) pa_nil))))))
      (pss_one (ps_ret (pe_dc (own := [("last", 3)]) (g := gName 3) (tt := tYes) rfl scRTurns.nd (pi_tup (pe_prop (pv 0) TM.cl pr GN (hr.mono (by decide)) bN .nil pass0 rfl)) (blkOk_by (N := nRTurns) (sc := defScope sRTurns) (by decide +kernel)) (fun _ _ _ _ _ => pg_name (i := 3) scRTurns.nd rfl (Or.inl rfl)) (fun _ _ _ _ _ => pts_nil)
          (fun _ _ _ _ _ => pv 3)
          (fun _ _ _ _ _ => pe_lc (own := [("name", 4)]) (g := gName 4) rfl scRTurns.nd (pi_listK (K := K) rfl (pe_meth (pv 0) TM.cl mL GL (hr.mono (by decide)) bL .nil (passF rfl rfl) (pa_cons (pv 3) pa_nil))) (blkOk_by (N := nRTurns) (sc := relS scIn (defScope sRTurns)) (by decide +kernel)) (fun _ _ _ _ _ => pg_name (i := 4) scRTurns.nd rfl (Or.inl rfl))
            (fun _ _ _ _ _ => pts_one (pt_val (pe_dget (u1 hr.units) (pv 2) (pv 4) (fun _ _ => rfl)))) (fun _ _ _ _ _ => pv 4))))), ?_⟩
    obtain ⟨dx, fs, kk, pp, rr, D0, bb, D2, ys, zs, hx, F7⟩ := hM.m
    have hP := hM.t
    have l60 := hin.l60
    have hxg : ∀ {H' : Hp}, Grew P H H' → H' x = some (.ins M dx fs) := fun g => g.get hP hx (fun _ z => by cases z)
    have lnv : (namesV rs).length = rs.length := by unfold namesV; rw [List.length_map, List.length_map]
    have nameNe : ∀ {i j : Nat} {r r' : RoadD}, rs[i]? = some r → rs[j]? = some r' → j ≠ i → ¬ (Sum.inr r'.name : Key) = .inr r.name := fun {i j r r'} hr1 hr' hne z => by
      injection z with z
      obtain ⟨a1, a2⟩ := List.getElem?_eq_some_iff.mp hr'
      obtain ⟨b1, b2⟩ := List.getElem?_eq_some_iff.mp hr1
      rcases Nat.lt_or_gt_of_ne hne with lt | lt
      · refine absurd ?_ (List.pairwise_iff_getElem.mp hM.nd j i (by rw [List.length_map]; exact a1) (by rw [List.length_map]; exact b1) lt)
        rw [List.getElem_map, List.getElem_map, a2, b2]
        exact z
      · refine absurd ?_ (List.pairwise_iff_getElem.mp hM.nd i j (by rw [List.length_map]; exact b1) (by rw [List.length_map]; exact a1) lt)
        rw [List.getElem_map, List.getElem_map, a2, b2]
        exact z.symm
    refine ⟨_, rfl, x, dx, fs, rfl, hx, x, d, ks, ps, rs, bs, rfl, hM, l60, fun H1 t1 g1 nt1 et1 => ?_⟩
    refine ⟨t1, rfl, ⟨_, SqT.of et1⟩, fun U nU => dc_tup (K := K) (a := t1) (xs := namesV rs) (fun i H2 => Grew P H1 H2 ∧ ∃ kvs, H2 U = some (.dK kvs) ∧ kvs.length ≤ i ∧ ∀ j r, j < i → rs[j]? = some r → valV kvs (.inr r.name) = some (.bl (everB kind r)))
      ⟨Grew.new g1.tab nU, [], upd_same, Nat.le_refl _, fun j r h => absurd h (Nat.not_lt_zero _)⟩ (fun i H2 _ p => SqT.of (p.1.tup g1.tab et1)) (fun i y H2 hy p => ?_) (fun H2 p => ?_)⟩
    · obtain ⟨g, kvs, hD, hl, hin2⟩ := p
      obtain ⟨r, hr1, rfl⟩ := namesV_at hy
      have hi := (List.getElem?_eq_some_iff.mp hr1).1
      have g2 := g1.trans g
      refine ⟨rfl, _, rfl, _, rfl, _, rfl, _, rfl, x, kind, d, ks, ps, rs, bs, r, rfl, hkl, hk, hM.grew g2, List.mem_of_getElem? hr1, fun H3 g3 => ?_⟩
      have hD3 := g3.get g2.tab hD (fun _ z => by cases z)
      refine ⟨kvs, .inr r.name, rfl, hD3, by rw [sizeLine_eq]; omega, (g.trans g3).write hD3 (fun _ z => by cases z) nU, _, upd_same, Nat.le_trans (length_putK kvs _ _) (by omega), fun j r' hj hr' => ?_⟩
      rw [valV_put]
      by_cases e : j = i
      · subst e
        rw [hr1] at hr'
        cases hr'
        rw [if_pos rfl]
      · rw [if_neg (nameNe hr1 hr' e)]
        exact hin2 j r' (by omega) hr'
    · obtain ⟨g, kvsU, hU, _, hin2⟩ := p
      rw [lnv] at hin2
      have usable : ∀ {H' : Hp}, Grew P H2 H' → ∀ r ∈ rs, DGet H' U (.str r.name) (some (.bl (everB kind r))) := fun g' r hr => by
        obtain ⟨j, hj, ej⟩ := List.getElem_of_mem hr
        rw [← hin2 j r hj (List.getElem?_eq_some_iff.mpr ⟨hj, ej⟩)]
        exact DGet.k (k := .inr r.name) (g'.get g.tab hU (fun _ z => by cases z))
      have gA := g1.trans g
      refine ⟨_, rfl, x, dx, fs, rfl, hxg gA, x, d, ks, ps, rs, bs, rfl, hM.grew gA, l60, fun H6 t2 g6 nt2 et2 => ?_⟩
      have gA6 := gA.trans g6
      refine ⟨t2, rfl, ⟨_, SqT.of et2⟩, fun D nD => dc_tup (K := K) (a := t2) (xs := namesV rs) (fun i H' => Grew P H6 H' ∧ ∃ kvs, H' D = some (.dK kvs) ∧ kvs.length ≤ i ∧ ∀ j r, j < i → rs[j]? = some r → ∃ l, valV kvs (.inr r.name) = some (.ref l) ∧ H' l = some (.lst (namesV (nxR kind bs rs r.goal (some r.name)))))
        ⟨Grew.new g6.tab nD, [], upd_same, Nat.le_refl _, fun j r h => absurd h (Nat.not_lt_zero _)⟩ (fun i H' _ p => SqT.of (p.1.tup g6.tab et2)) (fun i y H7 hy p => ?_) (fun H7 p => ?_)⟩
      · obtain ⟨g67, kvs, hD7, hlk, hall⟩ := p
        obtain ⟨r, hr1, rfl⟩ := namesV_at hy
        have hri := (List.getElem?_eq_some_iff.mp hr1).1
        have mr := List.mem_of_getElem? hr1
        have g27 := g6.trans g67
        have gH7 := gA.trans g27
        refine ⟨rfl, _, rfl, _, rfl, x, dx, fs, rfl, hxg gH7, F7.f0 _ (by decide +kernel), _, rfl, x, r, d, ks, ps, rs, bs, rfl, mr, hin.goal r mr, hpl _ (hin.goal r mr), hM.grew gH7, l60, fun H8 L2' g8 nL2 eL2 => ?_⟩
        generalize hf2 : rs.filter (fun r' => decide (r'.start = r.goal) && !decide ((r.name, r'.name) ∈ bs)) = fl2 at eL2
        have lf2 : fl2.length ≤ 60 := by rw [← hf2]; exact Nat.le_trans (List.length_filter_le _ _) l60
        have sf2 : ∀ r ∈ fl2, r ∈ rs := fun r hr => by rw [← hf2] at hr; exact (List.mem_filter.mp hr).1
        have g28 := g27.trans g8
        refine ⟨L2', rfl, ⟨_, SqL.of eL2⟩, fun L nL => lc_list (K := K) (a := L2') (xs := namesV fl2) (fun i H4 => Grew P H8 H4 ∧ H4 L = some (.lst (namesV ((fl2.take i).filter (everB kind)))))
          ⟨Grew.new g8.tab nL, upd_same⟩ (fun i H4 _ p => SqL.of (p.1.lst g8.tab eL2)) (fun i y H4 hy p => ?_) (fun H4 p => ?_)⟩
        · obtain ⟨g', hD⟩ := p
          obtain ⟨r', hr', rfl⟩ := namesV_at hy
          have hi := (List.getElem?_eq_some_iff.mp hr').1
          rw [filter_take hr']
          refine ⟨rfl, _, rfl, _, rfl, U, _, rfl, usable (g28.trans g') r' (sf2 r' (List.mem_of_getElem? hr')), _, rfl, ?_⟩
          refine ite2 (fun c => ?_) (fun c => ?_)
          · refine ⟨_, rfl, _, hD, ?_, g'.write hD (fun _ z => by cases z) nL, ?_⟩
            · refine Nat.lt_of_le_of_lt (namesV_len _) (Nat.lt_of_le_of_lt (List.length_filter_le _ _) ?_)
              rw [List.length_take, sizeLine_eq]
              have := lf2
              omega
            · rw [upd_same, if_pos c, namesV_app]; rfl
          · rw [if_neg c]
            exact ⟨g', hD⟩
        · obtain ⟨g', hD⟩ := p
          have ef : (fl2).length = (namesV (fl2)).length := by unfold namesV; rw [List.length_map, List.length_map]
          rw [← ef, List.take_length] at hD
          rw [← hf2, nx_some kind bs] at hD
          have g78 := g8.trans g'
          have g7 := g67
          have hD9 := g78.get (g6.trans g67).tab hD7 (fun _ z => by cases z)
          have neD : ∀ {b : Addr} {xs : List V} {H' : Hp}, H' D = some (.dK kvs) → H' b = some (.lst xs) → b ≠ D := fun e1 e2 z => by rw [z, e1] at e2; cases e2
          refine ⟨kvs, .inr r.name, rfl, hD9, by rw [sizeLine_eq]; omega, (g67.trans g78).write hD9 (fun _ z => by cases z) nD, _, upd_same, Nat.le_trans (length_putK kvs _ _) (by omega), fun j r2 hj hr2 => ?_⟩
          rw [valV_put]
          by_cases e : j = i
          · subst e
            rw [hr1] at hr2
            cases hr2
            rw [if_pos rfl]
            exact ⟨L, rfl, by rw [upd_ne (neD hD9 hD)]; exact hD⟩
          · rw [if_neg (nameNe hr1 hr2 e)]
            obtain ⟨l, c1, c2⟩ := hall j r2 (by omega) hr2
            exact ⟨l, c1, by rw [upd_ne (neD hD7 c2)]; exact g78.lst (g6.trans g67).tab c2⟩
      · obtain ⟨g67, kvs, hD7, hlk, hall⟩ := p
        rw [lnv] at hall hlk
        refine k H7 D (gA6.trans g67) (gA6.free nD) ⟨kvs, hD7, Nat.le_trans hlk l60, fun r hr => ?_⟩
        obtain ⟨j, hj, ej⟩ := List.getElem_of_mem hr
        exact hall j r hj (List.getElem?_eq_some_iff.mpr ⟨hj, ej⟩)
abbrev nTurns : List Str := ["chart", "kind", "start", "behind", "name"]
theorem scTurns : FnScope nTurns ["chart", "kind", "start"] (defScope sTurns) := ⟨rfl, rfl, rfl, by decide +kernel, rfl, by decide +kernel, by decide +kernel⟩
theorem ok_turns {f M U fR fF fE : Addr} {fd fdR fdF fdE : FuncData} {t1 : Tok} (F : Fun K "turns" "turns" sTurns f fd) (TM : TxtM K M) (hno : mg "NO_ROAD" = some (.str Str.empty t1)) (mF : Meth K M "roads_from" fF)
    (GR : FnOk Pg w K mg base (L2.CX Pg w) 7 fR fdR ["chart", "kind"] (spRTurns K M P)) (gR : mg "road_turns" = some (.ref fR)) (kR : PySem.W.keepIn K (.ref fR) = true) (bR : Binds K fdR ["chart", "kind"] [])
    (GF : FnOk Pg w K mg base (L2.CX Pg w) 4 fF fdF ["self", "place"] (spRFrom K M P)) (bF : Binds K fdF ["self", "place"] [])
    (GE : FnOk Pg w K mg base (L2.CX Pg w) 6 fE fdE ["chart", "kind", "name"] (spEver K M P)) (gE : mg "can_ever_enter" = some (.ref fE)) (kE : PySem.W.keepIn K (.ref fE) = true) (bE : Binds K fdE ["chart", "kind", "name"] []) :
    FnOk Pg w K mg base (L2.CX Pg w) 8 f fd ["chart", "kind", "start"] (spTurns K M P) := by
  refine F.okX scTurns (fun vs H Q E h => ?_) (fun cdv A outer s H vs Q E hr h => ?_)
  · obtain ⟨x, kind, start, d, ks, ps, rs, bs, rfl, _⟩ := h
    rfl
  · obtain ⟨x, kind, start, d, ks, ps, rs, bs, rfl, hM, hin, hkl, hk, hst, hpl, k⟩ := h
    refine ⟨_, pss_cons (ps_set (i := 3) scTurns.nd rfl (Or.inl rfl) (pe_call (E := E0) GR hr (by rfl) gR kR bR .nil (passF rfl rfl) (pa_cons (pv 0) (pa_cons (pv 1) pa_nil))))
      (pss_cons (ps_dput (u1 hr.units) (pv 3) (pe_gS hno) (pe_lc (own := [("name", 4)]) (g := gName 4) rfl scTurns.nd (pi_list (pe_meth (pv 0) TM.cl mF GF (hr.mono (by decide)) bF .nil (passF rfl rfl) (pa_cons (pv 2) pa_nil))) (blkOk_by (N := nTurns) (sc := defScope sTurns) (by decide +kernel)) (fun _ _ _ _ _ => pg_name (i := 4) scTurns.nd rfl (Or.inl rfl))
          (fun _ _ _ _ _ => pts_one (pt_val (pe_call (E := E0) GE (hr.mono (by decide)) (by rfl) gE kE bE .nil (passF rfl rfl) (pa_cons (pv 0) (pa_cons (pv 1) (pa_cons (pv 4) pa_nil)))))) (fun _ _ _ _ _ => pv 4)) rfl)
      (pss_one (ps_ret (pv 3)))), ?_⟩
    obtain ⟨dx, fs, kk, pp, rr, D0, bb, D2, ys, zs, hx, F7⟩ := hM.m
    have hP := hM.t
    have l60 := hin.l60
    have hxg : ∀ {H' : Hp}, Grew P H H' → H' x = some (.ins M dx fs) := fun g => g.get hP hx (fun _ z => by cases z)
    refine ⟨_, rfl, _, rfl, x, kind, d, ks, ps, rs, bs, rfl, hM, hin, hkl, hk, hpl, fun H2 D g2D nD hRows => ?_⟩
    obtain ⟨kvs, hD2, hlk, hall⟩ := hRows
    refine ⟨_, rfl, x, dx, fs, rfl, hxg g2D, F7.f0 _ (by decide +kernel), _, rfl, x, start, d, ks, ps, rs, bs, rfl, hpl start hst, hst, hM.grew g2D, l60, fun H3 L1 g3 nL1 eL1 => ?_⟩
    generalize hfl : rs.filter (fun r' => decide (r'.start = start)) = fl at eL1
    have lfl : fl.length ≤ 60 := by rw [← hfl]; exact Nat.le_trans (List.length_filter_le _ _) l60
    have sfl : ∀ r ∈ fl, r ∈ rs := fun r hr => by rw [← hfl] at hr; exact (List.mem_filter.mp hr).1
    have g23 := g2D.trans g3
    refine ⟨L1, rfl, ⟨_, SqL.of eL1⟩, fun L nL => lc_list (K := K) (a := L1) (xs := namesV fl) (fun i H4 => Grew P H3 H4 ∧ H4 L = some (.lst (namesV ((fl.take i).filter (everB kind)))))
      ⟨Grew.new g3.tab nL, upd_same⟩ (fun i H4 _ p => SqL.of (p.1.lst g3.tab eL1)) (fun i y H4 hy p => ?_) (fun H4 p => ?_)⟩
    · obtain ⟨g', hD⟩ := p
      obtain ⟨r', hr', rfl⟩ := namesV_at hy
      have hi := (List.getElem?_eq_some_iff.mp hr').1
      rw [filter_take hr']
      refine ⟨rfl, _, rfl, _, rfl, _, rfl, x, kind, d, ks, ps, rs, bs, r', rfl, hkl, hk, hM.grew (g23.trans g'), sfl r' (List.mem_of_getElem? hr'), fun H5 g5 => ⟨_, rfl, ?_⟩⟩
      have hD5 := g5.get (g23.trans g').tab hD (fun _ z => by cases z)
      refine ite2 (fun c => ?_) (fun c => ?_)
      · refine ⟨_, rfl, _, hD5, ?_, (g'.trans g5).write hD5 (fun _ z => by cases z) nL, ?_⟩
        · refine Nat.lt_of_le_of_lt (namesV_len _) (Nat.lt_of_le_of_lt (List.length_filter_le _ _) ?_)
          rw [List.length_take, sizeLine_eq]
          have := lfl
          omega
        · rw [upd_same, if_pos c, namesV_app]; rfl
      · rw [if_neg c]
        exact ⟨g'.trans g5, hD5⟩
    · obtain ⟨g', hD⟩ := p
      have ef : (fl).length = (namesV (fl)).length := by unfold namesV; rw [List.length_map, List.length_map]
      rw [← ef, List.take_length] at hD
      rw [← hfl, nx_none kind bs] at hD
      have g24 := g3.trans g'
      have hD4 := g24.get g2D.tab hD2 (fun _ z => by cases z)
      have neD : ∀ {b : Addr} {xs : List V} {H' : Hp}, H' D = some (.dK kvs) → H' b = some (.lst xs) → b ≠ D := fun e1 e2 z => by rw [z, e1] at e2; cases e2
      refine ⟨_, rfl, D, _, rfl, DPut.k (k := .inr Str.empty) hD4 (by rw [sizeLine_eq]; omega), ?_⟩
      have gW := (g2D.trans g24).write (o := .dK (putK kvs (.inr Str.empty) (.ref L))) hD4 (fun _ z => by cases z) nD
      refine ⟨_, rfl, k _ D gW nD ⟨_, upd_same, ⟨L, ?_, by rw [upd_ne (neD hD4 hD)]; exact hD⟩, fun r mr => ?_⟩⟩
      · rw [valV_put, if_pos rfl]
      · obtain ⟨l, c1, c2⟩ := hall r mr
        refine ⟨l, ?_, by rw [upd_ne (neD hD2 c2)]; exact g24.lst g2D.tab c2⟩
        rw [valV_put, if_neg (fun z => hin.ne r mr (Sum.inr.inj z))]
        exact c1
end
end W

set_option Elab.async false
set_option linter.all false
set_option maxRecDepth 100000
set_option maxHeartbeats 800000
namespace W
open PySem
/-! ### arrivals: there is one, it is not ahead of the moment, and a later moment leads to no earlier one -/
def ar (d : Int) (r : RoadD) (t : Int) : Int := (arriveD d r t).getD 0
theorem ar_some {d : Int} {r : RoadD} (hd : 1 ≤ d) (ho : HoursOk d r.hours) (hn : r.hours ≠ some []) (t : Int) : arriveD d r t = some (ar d r t) ∧ ∃ e, enterR d r t = some e ∧ ar d r t = e + r.minutes ∧ t ≤ e := by
  unfold ar arriveD enterR
  obtain ⟨nm, st, go, mi, us, hs⟩ := r
  cases hs with
  | none => exact ⟨rfl, t, rfl, rfl, Int.le_refl _⟩
  | some ps =>
    have hf := enterD_first (t := t) hd ho.2
    cases e : enterD d (some ps) t with
    | some v =>
      rw [e] at hf
      obtain ⟨k, k0, _, ev, _⟩ := hf
      exact ⟨rfl, v, rfl, rfl, by omega⟩
    | none =>
      exfalso
      have hne : ps ≠ [] := fun z => hn (by rw [z])
      obtain ⟨o1, o2, o3⟩ := open_last ho.2 hne (by decide)
      rw [e] at hf
      -- the last open minute comes within two days
      have m0 := Int.emod_nonneg t (show d ≠ 0 by omega)
      have m1 := Int.emod_lt_of_pos t (show 0 < d by omega)
      by_cases c : t % d ≤ lastP 0 ps - 1
      · have q := hf (lastP 0 ps - 1 - t % d) (by omega) (by omega)
        have em := mod_base (t := t) (d := d) (j := lastP 0 ps - 1) hd (by omega) (by omega)
        rw [show t + (lastP 0 ps - 1 - t % d) = t - t % d + (lastP 0 ps - 1) by omega, em, o1] at q
        cases q
      · have q := hf (lastP 0 ps - 1 + d - t % d) (by omega) (by omega)
        have em := mod_baseU (t := t) (d := d) (j := lastP 0 ps - 1 + d) hd (by omega) (by omega)
        rw [show t + (lastP 0 ps - 1 + d - t % d) = t - t % d + (lastP 0 ps - 1 + d) by omega, em, show lastP 0 ps - 1 + d - d = lastP 0 ps - 1 by omega, o1] at q
        cases q
theorem ar_mono {d : Int} {r : RoadD} (hd : 1 ≤ d) (ho : HoursOk d r.hours) (hn : r.hours ≠ some []) {t u : Int} (h : t ≤ u) : ar d r t ≤ ar d r u := by
  obtain ⟨_, e, he, ha, hle⟩ := ar_some hd ho hn t
  obtain ⟨_, f, hf, hb, hlf⟩ := ar_some hd ho hn u
  rw [ha, hb]
  have key : e ≤ f := by
    unfold enterR at he hf
    obtain ⟨nm, st, go, mi, us, hs⟩ := r
    cases hs with
    | none =>
      obtain rfl := Option.some.inj he
      obtain rfl := Option.some.inj hf
      exact h
    | some ps =>
      have q1 := enterD_first (t := t) hd ho.2
      have q2 := enterD_first (t := u) hd ho.2
      have he' : enterD d (some ps) t = some e := he
      have hf' : enterD d (some ps) u = some f := hf
      rw [he'] at q1
      rw [hf'] at q2
      obtain ⟨k, k0, k1, ev, _, kn⟩ := q1
      obtain ⟨j, j0, j1, fv, jo, _⟩ := q2
      rcases Int.lt_or_le f e with c | c
      · have q := kn (f - t) (by omega) (by omega)
        rw [show t + (f - t) = u + j by omega, jo] at q
        cases q
      · exact c
  omega
/-! ### the search -/
abbrev Node := Option RoadD
def nmN : Node → Str
  | none => Str.empty
  | some r => r.name
structure Ent where
  n : Node
  t : Int
  pv : Option Node
/-- what stands firm all through the search -/
structure SG (d : Int) (rs : List RoadD) : Prop where
  d1 : 1 ≤ d
  nd : (rs.map (·.name)).Nodup
  ne : ∀ r ∈ rs, r.name ≠ Str.empty
  ho : ∀ r ∈ rs, HoursOk d r.hours
  mi : ∀ r ∈ rs, 1 ≤ r.minutes
section
variable (d : Int) (kind : Str) (bs : List (Str × Str)) (rs : List RoadD) (start : Str) (moment : Int)
def nxN : Node → List RoadD
  | none => nxR kind bs rs start none
  | some r => nxR kind bs rs r.goal (some r.name)
structure SInv (es qs : List Ent) (cur : Ent) (rest : List RoadD) : Prop where
  root : (⟨none, moment, none⟩ : Ent) ∈ es
  nd : (es.map (·.n)).Nodup
  mem : ∀ e ∈ es, ∀ r, e.n = some r → r ∈ rs
  rt : ∀ e ∈ es, e.n = none → e.t = moment ∧ e.pv = none
  sub : ∀ q ∈ qs, q ∈ es
  qn : (qs.map (·.n)).Nodup
  lo : ∀ e ∈ es, e ∉ qs → e.t ≤ cur.t
  hi : ∀ q ∈ qs, cur.t ≤ q.t
  cd : rest ≠ [] → cur ∈ es ∧ cur ∉ qs ∧ ∀ r ∈ rest, r ∈ nxN kind bs rs start cur.n
  lnk : ∀ e ∈ es, ∀ r, e.n = some r → ∃ p ∈ es, p ∉ qs ∧ e.pv = some p.n ∧ r ∈ nxN kind bs rs start p.n ∧ e.t = ar d r p.t
  ge : ∀ e ∈ es, moment ≤ e.t
  cls : ∀ p ∈ es, p ∉ qs → ∀ r ∈ nxN kind bs rs start p.n, (p = cur ∧ r ∈ rest) ∨ ∃ e ∈ es, e.n = some r ∧ e.t ≤ ar d r p.t
end
section
variable {d : Int} {kind : Str} {bs : List (Str × Str)} {rs : List RoadD} {start : Str} {moment : Int} {es qs : List Ent} {cur : Ent} {rest : List RoadD}
theorem nx_mem {p : Node} {r : RoadD} (h : r ∈ nxN kind bs rs start p) : r ∈ rs ∧ everB kind r = true := by
  have go : ∀ {pl : Str} {b : Option Str}, r ∈ nxR kind bs rs pl b → r ∈ rs ∧ everB kind r = true := fun h => by
    obtain ⟨h1, h2⟩ := List.mem_filter.mp h
    unfold mayB at h2
    simp only [Bool.and_eq_true] at h2
    exact ⟨h1, h2.2.1⟩
  cases p with
  | none => exact go h
  | some r0 => exact go h
theorem ever_hours {kind : Str} {r : RoadD} (h : everB kind r = true) : r.hours ≠ some [] := by
  unfold everB at h
  simp only [Bool.and_eq_true, Bool.not_eq_true', decide_eq_false_iff_not] at h
  exact h.2
theorem ent_ext (nd : (es.map (·.n)).Nodup) {a b : Ent} (ha : a ∈ es) (hb : b ∈ es) (e : a.n = b.n) : a = b := by
  induction es with
  | nil => cases ha
  | cons x l ih =>
    have q := List.nodup_cons.mp nd
    rcases List.mem_cons.mp ha with h | h <;> rcases List.mem_cons.mp hb with h' | h'
    · rw [h, h']
    · exact absurd (List.mem_map.mpr ⟨b, h', by rw [← e, h]⟩) q.1
    · exact absurd (List.mem_map.mpr ⟨a, h, by rw [e, h']⟩) q.1
    · exact ih q.2 h h'
theorem SInv.init : SInv d kind bs rs start moment [⟨none, moment, none⟩] [⟨none, moment, none⟩] ⟨none, moment, none⟩ [] := by
  refine ⟨List.mem_singleton.mpr rfl, List.nodup_cons.mpr ⟨by simp, List.nodup_nil⟩, fun e he r h => ?_, fun e he _ => ?_, fun q hq => hq, List.nodup_cons.mpr ⟨by simp, List.nodup_nil⟩, fun e he h => absurd he h, fun q hq => ?_, fun h => absurd rfl h, fun e he r h => ?_, fun e he => ?_, fun p hp h => absurd hp h⟩
  · rw [List.mem_singleton.mp he] at h; cases h
  · rw [List.mem_singleton.mp he]; exact ⟨rfl, rfl⟩
  · rw [List.mem_singleton.mp hq]; exact Int.le_refl _
  · rw [List.mem_singleton.mp he] at h; cases h
  · rw [List.mem_singleton.mp he]; exact Int.le_refl _
theorem SInv.pop (I : SInv d kind bs rs start moment es qs cur []) {q : Ent} {qs' : List Ent} (hp : (q :: qs').Perm qs) (hm : ∀ j ∈ qs, q.t ≤ j.t) : SInv d kind bs rs start moment es qs' q (nxN kind bs rs start q.n) := by
  have hq : q ∈ qs := hp.mem_iff.mp List.mem_cons_self
  have nd' : ((q :: qs').map (·.n)).Nodup := (hp.map _).nodup_iff.mpr I.qn
  have nq : q ∉ qs' := fun h => (List.nodup_cons.mp nd').1 (List.mem_map.mpr ⟨q, h, rfl⟩)
  have old : ∀ e, e ∉ qs' → e ∉ qs ∨ e = q := fun e h => by
    by_cases c : e ∈ qs
    · rcases List.mem_cons.mp (hp.mem_iff.mpr c) with z | z
      · exact .inr z
      · exact absurd z h
    · exact .inl c
  have sub' : ∀ e ∈ qs', e ∈ qs := fun e h => hp.mem_iff.mp (List.mem_cons_of_mem _ h)
  refine ⟨I.root, I.nd, I.mem, I.rt, fun e h => I.sub e (sub' e h), (List.nodup_cons.mp nd').2, fun e he h => ?_, fun e h => hm e (sub' e h), fun _ => ⟨I.sub q hq, nq, fun r h => h⟩, fun e he r h => ?_, I.ge, fun p hp' h r hr => ?_⟩
  · rcases old e h with z | z
    · exact Int.le_trans (I.lo e he z) (I.hi q hq)
    · rw [z]; exact Int.le_refl _
  · obtain ⟨p, a1, a2, a3⟩ := I.lnk e he r h
    exact ⟨p, a1, fun z => a2 (sub' p z), a3⟩
  · rcases old p h with z | z
    · rcases I.cls p hp' z r hr with ⟨_, c⟩ | c
      · cases c
      · exact .inr c
    · subst z
      exact .inl ⟨rfl, hr⟩
theorem SInv.skip (G : SG d rs) {r : RoadD} (I : SInv d kind bs rs start moment es qs cur (r :: rest)) (hin : ∃ e ∈ es, e.n = some r) : SInv d kind bs rs start moment es qs cur rest := by
  obtain ⟨hc1, hc2, hc3⟩ := I.cd (by simp)
  refine ⟨I.root, I.nd, I.mem, I.rt, I.sub, I.qn, I.lo, I.hi, fun _ => ⟨hc1, hc2, fun r' h => hc3 r' (List.mem_cons_of_mem _ h)⟩, I.lnk, I.ge, fun p hp h r' hr => ?_⟩
  rcases I.cls p hp h r' hr with ⟨e, c⟩ | c
  · rcases List.mem_cons.mp c with z | z
    · subst z e
      obtain ⟨x, hx, xn⟩ := hin
      obtain ⟨p', a1, a2, _, a4, a5⟩ := I.lnk x hx r' xn
      obtain ⟨m1, m2⟩ := nx_mem a4
      refine .inr ⟨x, hx, xn, ?_⟩
      rw [a5]
      exact ar_mono G.d1 (G.ho r' m1) (ever_hours m2) (I.lo p' a1 a2)
    · exact .inl ⟨e, z⟩
  · exact .inr c
theorem SInv.add (G : SG d rs) {r : RoadD} (I : SInv d kind bs rs start moment es qs cur (r :: rest)) (hno : ∀ e ∈ es, e.n ≠ some r) {qs' : List Ent} (hq : qs'.Perm (qs ++ [⟨some r, ar d r cur.t, some cur.n⟩])) :
    SInv d kind bs rs start moment (es ++ [⟨some r, ar d r cur.t, some cur.n⟩]) qs' cur rest := by
  obtain ⟨hc1, hc2, hc3⟩ := I.cd (by simp)
  have hrn := hc3 r List.mem_cons_self
  obtain ⟨m1, m2⟩ := nx_mem hrn
  obtain ⟨_, e0, _, ea, ele⟩ := ar_some G.d1 (G.ho r m1) (ever_hours m2) cur.t
  have mi := G.mi r m1
  generalize hx : (⟨some r, ar d r cur.t, some cur.n⟩ : Ent) = x at hq
  have xn : x.n = some r := by rw [← hx]
  have xt : x.t = ar d r cur.t := by rw [← hx]
  have xp : x.pv = some cur.n := by rw [← hx]
  have hxq : x ∈ qs' := hq.mem_iff.mpr (List.mem_append_right _ (List.mem_singleton.mpr rfl))
  have out : ∀ e ∈ es ++ [x], e ∉ qs' → e ∈ es ∧ e ∉ qs := fun e he h => by
    rcases List.mem_append.mp he with z | z
    · exact ⟨z, fun w => h (hq.mem_iff.mpr (List.mem_append_left _ w))⟩
    · rw [List.mem_singleton.mp z] at h
      exact absurd hxq h
  have out2 : ∀ e ∈ es, e ∉ qs → e ∉ qs' := fun e he h z => by
    rcases List.mem_append.mp (hq.mem_iff.mp z) with w | w
    · exact h w
    · rw [List.mem_singleton.mp w] at he
      exact hno x he xn
  refine ⟨List.mem_append_left _ I.root, ?_, fun e he r' h => ?_, fun e he h => ?_, fun e h => ?_, ?_, fun e he h => ?_, fun e h => ?_, fun _ => ⟨List.mem_append_left _ hc1, out2 cur hc1 hc2, fun r' h => hc3 r' (List.mem_cons_of_mem _ h)⟩, fun e he r' h => ?_, fun e he => ?_, fun p hp h r' hr => ?_⟩
  · rw [List.map_append, List.nodup_append]
    refine ⟨I.nd, List.nodup_cons.mpr ⟨by simp, List.nodup_nil⟩, fun a ha b hb e => ?_⟩
    obtain ⟨y, hy, rfl⟩ := List.mem_map.mp ha
    rw [List.mem_singleton.mp hb] at e
    exact hno y hy (e.trans xn)
  · rcases List.mem_append.mp he with z | z
    · exact I.mem e z r' h
    · rw [List.mem_singleton.mp z, xn] at h
      rw [← Option.some.inj h]; exact m1
  · rcases List.mem_append.mp he with z | z
    · exact I.rt e z h
    · rw [List.mem_singleton.mp z, xn] at h
      cases h
  · rcases List.mem_append.mp (hq.mem_iff.mp h) with z | z
    · exact List.mem_append_left _ (I.sub e z)
    · exact List.mem_append_right _ z
  · refine (hq.map _).nodup_iff.mpr ?_
    rw [List.map_append, List.nodup_append]
    refine ⟨I.qn, List.nodup_cons.mpr ⟨by simp, List.nodup_nil⟩, fun a ha b hb e => ?_⟩
    obtain ⟨y, hy, rfl⟩ := List.mem_map.mp ha
    rw [List.mem_singleton.mp hb] at e
    exact hno y (I.sub y hy) (e.trans xn)
  · obtain ⟨a1, a2⟩ := out e he h
    exact I.lo e a1 a2
  · rcases List.mem_append.mp (hq.mem_iff.mp h) with z | z
    · exact I.hi e z
    · rw [List.mem_singleton.mp z, xt]; omega
  · rcases List.mem_append.mp he with z | z
    · obtain ⟨p, a1, a2, a3⟩ := I.lnk e z r' h
      exact ⟨p, List.mem_append_left _ a1, out2 p a1 a2, a3⟩
    · rw [List.mem_singleton.mp z] at h ⊢
      rw [xn] at h
      obtain rfl := Option.some.inj h
      exact ⟨cur, List.mem_append_left _ hc1, out2 cur hc1 hc2, xp, hrn, xt⟩
  · rcases List.mem_append.mp he with z | z
    · exact I.ge e z
    · have := I.ge cur hc1
      rw [List.mem_singleton.mp z, xt]; omega
  · obtain ⟨a1, a2⟩ := out p hp h
    rcases I.cls p a1 a2 r' hr with ⟨e, c⟩ | ⟨y, y1, y2⟩
    · rcases List.mem_cons.mp c with z | z
      · subst z e
        exact .inr ⟨x, List.mem_append_right _ (List.mem_singleton.mpr rfl), xn, by rw [xt]; exact Int.le_refl _⟩
      · exact .inl ⟨e, z⟩
    · exact .inr ⟨y, List.mem_append_left _ y1, y2⟩
/-- what the search has found -/
structure Sol (d : Int) (kind : Str) (bs : List (Str × Str)) (rs : List RoadD) (start : Str) (moment : Int) (es : List Ent) : Prop where
  root : (⟨none, moment, none⟩ : Ent) ∈ es
  nd : (es.map (·.n)).Nodup
  mem : ∀ e ∈ es, ∀ r, e.n = some r → r ∈ rs
  rt : ∀ e ∈ es, e.n = none → e.t = moment ∧ e.pv = none
  lnk : ∀ e ∈ es, ∀ r, e.n = some r → ∃ p ∈ es, e.pv = some p.n ∧ r ∈ nxN kind bs rs start p.n ∧ e.t = ar d r p.t
  ge : ∀ e ∈ es, moment ≤ e.t
  cls : ∀ p ∈ es, ∀ r ∈ nxN kind bs rs start p.n, ∃ e ∈ es, e.n = some r ∧ e.t ≤ ar d r p.t
theorem SInv.done (I : SInv d kind bs rs start moment es [] cur []) : Sol d kind bs rs start moment es := by
  refine ⟨I.root, I.nd, I.mem, I.rt, fun e he r h => ?_, I.ge, fun p hp r hr => ?_⟩
  · obtain ⟨p, a1, _, a3⟩ := I.lnk e he r h
    exact ⟨p, a1, a3⟩
  · rcases I.cls p hp (by simp) r hr with ⟨_, c⟩ | c
    · cases c
    · exact c
theorem nodup_sub_len {α : Type} : ∀ {l m : List α}, l.Nodup → (∀ x ∈ l, x ∈ m) → l.length ≤ m.length
  | [], _, _, _ => Nat.zero_le _
  | a :: l, m, nd, h => by
    obtain ⟨s, t, rfl⟩ := List.append_of_mem (h a List.mem_cons_self)
    have q := List.nodup_cons.mp nd
    have := nodup_sub_len (l := l) (m := s ++ t) q.2 fun x hx => by
      rcases List.mem_append.mp (h x (List.mem_cons_of_mem _ hx)) with z | z
      · exact List.mem_append_left _ z
      · rcases List.mem_cons.mp z with w | w
        · exact absurd (w ▸ hx) q.1
        · exact List.mem_append_right _ w
    simp only [List.length_append, List.length_cons] at this ⊢
    omega
/-- there are no more entries than roads, and the one of the start -/
theorem SInv.count (G : SG d rs) (I : SInv d kind bs rs start moment es qs cur rest) : es.length ≤ rs.length + 1 := by
  have h : (es.map (·.n)).length ≤ (none :: rs.map some : List Node).length := by
    refine nodup_sub_len I.nd fun n hn => ?_
    obtain ⟨e, he, rfl⟩ := List.mem_map.mp hn
    cases c : e.n with
    | none => exact List.mem_cons_self
    | some r => exact List.mem_cons_of_mem _ (List.mem_map.mpr ⟨r, I.mem e he r c, rfl⟩)
  simp only [List.length_map, List.length_cons] at h
  exact h
theorem SInv.qlen (I : SInv d kind bs rs start moment es qs cur rest) : qs.length ≤ es.length := nodup_sub_len (List.Pairwise.of_map _ (fun a b h e => h (by rw [e])) I.qn) I.sub
theorem perm_map_cons {α β : Type} {f : α → β} {k : β} {ks : List β} {qs : List α} (h : (k :: ks).Perm (qs.map f)) : ∃ q qs', f q = k ∧ (q :: qs').Perm qs ∧ ks.Perm (qs'.map f) := by
  obtain ⟨q, hq, rfl⟩ := List.mem_map.mp (h.mem_iff.mp List.mem_cons_self)
  obtain ⟨a, b, rfl⟩ := List.append_of_mem hq
  have p : (q :: (a ++ b)).Perm (a ++ q :: b) := List.perm_middle.symm
  refine ⟨q, a ++ b, rfl, p, ?_⟩
  have h2 := h.trans (p.map f).symm
  exact h2.cons_inv
theorem Sol.count (S : Sol d kind bs rs start moment es) : es.length ≤ rs.length + 1 := by
  have h : (es.map (·.n)).length ≤ (none :: rs.map some : List Node).length := by
    refine nodup_sub_len S.nd fun n hn => ?_
    obtain ⟨e, he, rfl⟩ := List.mem_map.mp hn
    cases c : e.n with
    | none => exact List.mem_cons_self
    | some r => exact List.mem_cons_of_mem _ (List.mem_map.mpr ⟨r, S.mem e he r c, rfl⟩)
  simp only [List.length_map, List.length_cons] at h
  exact h
end
end W

set_option Elab.async false
set_option linter.all false
set_option maxRecDepth 100000
set_option maxHeartbeats 400000
/-! heaps in an array: the order of parents and children, one place out of order -/
namespace MyH
open SrtO
section
variable {α : Type} {lt : α → α → Bool}
def par (i : Nat) : Nat := (i - 1) / 2
def IsHeap (lt : α → α → Bool) (xs : Array α) : Prop := ∀ i x y, 0 < i → xs[i]? = some x → xs[par i]? = some y → lt x y = false
structure Hole (lt : α → α → Bool) (xs : Array α) (p : Nat) : Prop where
  a : ∀ i x y, 0 < i → i ≠ p → par i ≠ p → xs[i]? = some x → xs[par i]? = some y → lt x y = false
  b : ∀ i x y, 0 < i → par i = p → 0 < p → xs[i]? = some x → xs[par p]? = some y → lt x y = false
def Below (lt : α → α → Bool) (xs : Array α) (p : Nat) : Prop := ∀ i x y, 0 < i → par i = p → xs[i]? = some x → xs[p]? = some y → lt x y = false
def sw (xs : Array α) (i j : Nat) (x y : α) : Array α := (xs.setIfInBounds i y).setIfInBounds j x
theorem sw_get {xs : Array α} {i j : Nat} {x y : α} (hi : xs[i]? = some x) (hj : xs[j]? = some y) (k : Nat) : (sw xs i j x y)[k]? = if k = j then some x else if k = i then some y else xs[k]? := by
  have li : i < xs.size := (Array.getElem?_eq_some_iff.mp hi).1
  have lj : j < xs.size := (Array.getElem?_eq_some_iff.mp hj).1
  unfold sw
  rw [Array.getElem?_setIfInBounds, Array.getElem?_setIfInBounds]
  by_cases e : j = k
  · subst e
    rw [if_pos rfl, if_pos rfl, if_pos (by rw [Array.size_setIfInBounds]; exact lj)]
  · rw [if_neg e, if_neg (show ¬ k = j from fun z => e z.symm)]
    by_cases e2 : i = k
    · subst e2
      rw [if_pos rfl, if_pos li, if_pos rfl]
    · rw [if_neg e2, if_neg (show ¬ k = i from fun z => e2 z.symm)]
theorem sw_size (xs : Array α) (i j : Nat) (x y : α) : (sw xs i j x y).size = xs.size := by
  unfold sw
  rw [Array.size_setIfInBounds, Array.size_setIfInBounds]
theorem sw_perm {xs : Array α} {i j : Nat} {x y : α} (hi : xs[i]? = some x) (hj : xs[j]? = some y) : (sw xs i j x y).toList.Perm xs.toList := by
  obtain ⟨li, ei⟩ := Array.getElem?_eq_some_iff.mp hi
  obtain ⟨lj, ej⟩ := Array.getElem?_eq_some_iff.mp hj
  have e : sw xs i j x y = xs.swap i j li lj := by
    refine Array.ext_getElem? fun k => ?_
    rw [sw_get hi hj, Array.getElem?_swap]
    by_cases e1 : k = j
    · subst e1
      rw [if_pos rfl]
      by_cases e2 : k = i
      · subst e2; simp; exact ei.symm
      · simp [e2]; exact ei.symm
    · rw [if_neg e1]
      by_cases e2 : k = i
      · subst e2
        have e1' : ¬ j = k := fun z => e1 z.symm
        simp [e1', ej]
      · have e1' : ¬ j = k := fun z => e1 z.symm
        have e2' : ¬ i = k := fun z => e2 z.symm
        simp [e1, e2, e1', e2']
  rw [e]
  exact (Array.swap_perm li lj).toList
theorem par_lt {i : Nat} (h : 0 < i) : par i < i := by unfold par; omega
theorem Hole.down {xs : Array α} {p c : Nat} {z v : α} (h : Hole lt xs p) (hc : 0 < c) (pc : par c = p) (ez : xs[c]? = some z) (ev : xs[p]? = some v) (sib : ∀ i u, 0 < i → i ≠ c → par i = p → xs[i]? = some u → lt u z = false) : Hole lt (sw xs c p z v) c := by
  have ne : c ≠ p := by have := par_lt hc; omega
  constructor
  · intro i x y hi n1 n2 e1 e2
    rw [sw_get ez ev] at e1 e2
    rw [if_neg n1] at e1
    rw [if_neg n2] at e2
    by_cases ip : i = p
    · subst ip
      rw [if_pos rfl] at e1
      have e1 := Option.some.inj e1
      subst e1
      have np : par i ≠ i := by have := par_lt hi; omega
      rw [if_neg np] at e2
      exact h.b c _ _ hc pc hi ez e2
    · rw [if_neg ip] at e1
      by_cases pp : par i = p
      · rw [if_pos pp] at e2
        have e2 := Option.some.inj e2
        subst e2
        exact sib i x hi n1 pp e1
      · rw [if_neg pp] at e2
        exact h.a i x y hi ip pp e1 e2
  · intro i x y hi pi _ e1 e2
    rw [sw_get ez ev] at e1 e2
    rw [pc, if_pos rfl] at e2
    have e2 := Option.some.inj e2
    subst e2
    have l1 := par_lt hi
    have l2 := par_lt hc
    rw [if_neg (by omega), if_neg (by omega)] at e1
    exact h.a i x _ hi (by omega) (by omega) e1 (by rw [pi]; exact ez)
theorem Hole.up (O : Swo lt) {xs : Array α} {p q : Nat} {x y : α} (h : Hole lt xs p) (u : Below lt xs p) (hp : 0 < p) (pq : par p = q) (ex : xs[p]? = some x) (ey : xs[q]? = some y) (hl : lt x y = true) :
    Hole lt (sw xs q p y x) q ∧ Below lt (sw xs q p y x) q := by
  have l1 := par_lt hp
  have ne : p ≠ q := by omega
  refine ⟨⟨?_, ?_⟩, ?_⟩
  · intro i a b hi n1 n2 e1 e2
    rw [sw_get ey ex] at e1 e2
    rw [if_neg n1] at e1
    rw [if_neg n2] at e2
    have ip : i ≠ p := fun z => n2 (by rw [z]; exact pq)
    rw [if_neg ip] at e1
    by_cases pp : par i = p
    · rw [if_pos pp] at e2
      have e2 := Option.some.inj e2
      subst e2
      exact h.b i a _ hi pp hp e1 (by rw [pq]; exact ey)
    · rw [if_neg pp] at e2
      exact h.a i a b hi ip pp e1 e2
  · intro i a b hi pi hq e1 e2
    rw [sw_get ey ex] at e1 e2
    have l2 := par_lt hq
    have l3 := par_lt hi
    rw [if_neg (by omega), if_neg (by omega)] at e2
    have hqb : lt y b = false := h.a q _ _ hq (fun z => ne z.symm) (by omega) ey e2
    by_cases ip : i = p
    · rw [if_pos ip] at e1
      have e1 := Option.some.inj e1
      subst e1
      exact hqb
    · rw [if_neg ip, if_neg (by omega)] at e1
      have hay : lt a y = false := h.a i a y hi ip (by omega) e1 (by rw [pi]; exact ey)
      exact O.tr b y a hqb hay
  · intro i a b hi pi e1 e2
    rw [sw_get ey ex] at e1 e2
    rw [if_neg (fun z => ne z.symm), if_pos rfl] at e2
    have e2 := Option.some.inj e2
    subst e2
    by_cases ip : i = p
    · rw [if_pos ip] at e1
      have e1 := Option.some.inj e1
      subst e1
      exact O.asym _ _ hl
    · have l3 := par_lt hi
      rw [if_neg ip, if_neg (by omega)] at e1
      have hay : lt a y = false := h.a i a y hi ip (by omega) e1 (by rw [pi]; exact ey)
      exact O.tr x y a (O.asym _ _ hl) hay
theorem Hole.done {xs : Array α} {p : Nat} (h : Hole lt xs p) (u : Below lt xs p) (hd : p = 0 ∨ ∀ x y, xs[p]? = some x → xs[par p]? = some y → lt x y = false) : IsHeap lt xs := by
  intro i x y hi e1 e2
  by_cases ip : i = p
  · subst ip
    rcases hd with z | hd
    · omega
    · exact hd x y e1 e2
  · by_cases pp : par i = p
    · exact u i x y hi pp e1 (by rw [← pp]; exact e2)
    · exact h.a i x y hi ip pp e1 e2
theorem leaf {xs : Array α} {p : Nat} (hs : xs.size ≤ 2 * p + 1) : Below lt xs p := by
  intro i x y hi pi e1 _
  have := (Array.getElem?_eq_some_iff.mp e1).1
  unfold par at pi
  omega
theorem IsHeap.least (O : Swo lt) {xs : Array α} {y : α} (h : IsHeap lt xs) (e : xs[0]? = some y) : ∀ (i : Nat) (x : α), xs[i]? = some x → lt x y = false := by
  intro i
  induction i using Nat.strongRecOn with
  | ind i ih =>
    intro x ex
    rcases Nat.eq_zero_or_pos i with z | hi
    · subst z
      rw [e] at ex
      have ex := Option.some.inj ex
      subst ex
      exact O.refl y
    · have l := par_lt hi
      have li := (Array.getElem?_eq_some_iff.mp ex).1
      have ep : xs[par i]? = some (xs[par i]'(by omega)) := Array.getElem?_eq_getElem (by omega)
      exact O.tr y _ x (ih (par i) l _ ep) (h i _ _ hi ex ep)
theorem IsHeap.push {xs : Array α} (h : IsHeap lt xs) (v : α) : Hole lt (xs.push v) xs.size ∧ Below lt (xs.push v) xs.size := by
  have g : ∀ {i : Nat} {x : α}, (xs.push v)[i]? = some x → i ≠ xs.size → xs[i]? = some x := fun {i x} e ne => by
    rw [Array.getElem?_push, if_neg ne] at e
    exact e
  refine ⟨⟨fun i x y hi n1 n2 e1 e2 => h i x y hi (g e1 n1) (g e2 n2), fun i x y hi pi hp e1 e2 => ?_⟩, leaf (by rw [Array.size_push]; omega)⟩
  have l := (Array.getElem?_eq_some_iff.mp e1).1
  rw [Array.size_push] at l
  unfold par at pi
  omega
theorem IsHeap.pop {xs : Array α} (h : IsHeap lt xs) (v : α) : Hole lt (xs.pop.setIfInBounds 0 v) 0 := by
  have g : ∀ {i : Nat} {x : α}, (xs.pop.setIfInBounds 0 v)[i]? = some x → i ≠ 0 → xs[i]? = some x := fun {i x} e ne => by
    rw [Array.getElem?_setIfInBounds, if_neg (fun z => ne z.symm), Array.getElem?_pop] at e
    split at e
    · exact e
    · cases e
  exact ⟨fun i x y hi n1 n2 e1 e2 => h i x y hi (g e1 n1) (g e2 n2), fun i x y hi pi hp => absurd hp (Nat.lt_irrefl _)⟩
end
end MyH

set_option Elab.async false
set_option linter.all false
set_option maxRecDepth 100000
set_option maxHeartbeats 4000000
namespace MyH
open PySem PySem.Spec PyProof.Rows
open SrtO hiding Str
theorem entry_heappush : entryFor table "_heapq.heappush" = some Builtin.«_heapq.heappush» := entryFor_of_fast (by kernel_rfl)
theorem entry_heappop : entryFor table "_heapq.heappop" = some Builtin.«_heapq.heappop» := entryFor_of_fast (by kernel_rfl)
theorem entry_sift : entryFor table "_heapq.heapify.sift" = some Builtin.«_heapq.heapify.sift» := entryFor_of_fast (by kernel_rfl)
theorem plain_sift : plainId "_heapq.heapify.sift" = true := by decide +kernel
theorem plain_push : plainId "_heapq.heappush" = true := by decide +kernel
theorem plain_pop : plainId "_heapq.heappop" = true := by decide +kernel
theorem kind_push : builtinKind "_heapq.heappush" = none := by decide +kernel
theorem kind_pop : builtinKind "_heapq.heappop" = none := by decide +kernel
theorem args_push (a b : Value) : argsOk "_heapq.heappush" ⟨[a, b], []⟩ := by
  with_unfolding_all rfl
theorem args_pop (a : Value) : argsOk "_heapq.heappop" ⟨[a], []⟩ := by
  with_unfolding_all rfl
section
variable {prog : Program} {w : World} {g : Array GenState} {d : Drawn} {tk : Nat} {os : OsState} {A : Around} {R : Result → Shared → Prop} {lt : Value → Value → Bool} {a : Addr} {h0 : Heap} {M : List Value}
def St (a : Addr) (h : Heap) (xs : Array Value) : Prop := ∃ n, h.get? a = some { cls := .type "list", data := .seq xs n }
def Fr (a : Addr) (h0 h : Heap) : Prop := ∀ b o, b ≠ a → h0.get? b = some o → h.get? b = some o
theorem St.upd {h : Heap} {xs : Array Value} (s : St a h xs) (f : Array Value → Array Value) : St a (h.update a (Obj.mapSeq f)) (f xs) := by
  obtain ⟨n, e⟩ := s
  exact ⟨_, get?_update_seq e f⟩
theorem Fr.upd {h : Heap} (k : Fr a h0 h) (f : Obj → Obj) : Fr a h0 (h.update a f) := fun b o ne e => by
  rw [Heap.get?_update_ne _ _ _ _ ne]
  exact k b o ne e
/-- what a builtin's tree leaves is wanted -/
abbrev Goes (prog : Program) (w : World) (A : Around) (R : Result → Shared → Prop) (t : Sem Fin) (s : Shared) : Prop :=
  wpAny (model prog w) A.in1 t (fun fin s' => match fin with | .done f => R (.ok f) s' | .again c' => c'.quiet = true ∧ codeAny (model prog w) A c' R s') (fun e s' => R (.error e) s') s
theorem upSeq {M : Model} {A : Around} {E : Value → Shared → Prop} {h : Heap} {a : Addr} {xs : Array Value} {n : Nat} {f : Array Value → Array Value} {Q : Unit → Shared → Prop} (hl : h.get? a = some { cls := .type "list", data := .seq xs n }) (hz : xs.size ≤ sizeLine)
    (hq : Q () ⟨h.update a (Obj.mapSeq f), g, d, tk, os⟩) (h2 : (f xs).size ≤ sizeLine + 1) : wpAny M A (updateSeq a f) Q E ⟨h, g, d, tk, os⟩ := wpAny_updateSeq (s := ⟨h, g, d, tk, os⟩) hl rfl hq hz h2
abbrev Cmp (A : Around) (R : Result → Shared → Prop) (lt : Value → Value → Bool) (a : Addr) (h0 : Heap) (M : List Value) (g : Array GenState) (d : Drawn) (tk : Nat) (os : OsState) : Prop :=
  ∀ h', Fr a h0 h' → ∀ x ∈ M, ∀ y ∈ M, PySem.SeqAt.RcLt A.in1 ⟨h', g, d, tk, os⟩ x y (lt x y)
theorem sift_up (O : Swo lt) (res : Value) (cmp : Cmp A R lt a h0 M g d tk os) : ∀ (pos : Nat) (h : Heap) (xs : Array Value), St a h xs → Fr a h0 h → Hole lt xs pos → Below lt xs pos → pos < xs.size → xs.size ≤ sizeLine → (∀ x ∈ xs.toList, x ∈ M) →
    (∀ h' ys, St a h' ys → Fr a h0 h' → IsHeap lt ys → ys.toList.Perm xs.toList → R (.ok (.ret res)) ⟨h', g, d, tk, os⟩) →
    Goes prog w A R (Builtin.«_heapq.heapify.sift» ⟨[.ref a, .bool false, .bool false, rawInt pos, rawInt 0, res, rawInt (-1)], []⟩) ⟨h, g, d, tk, os⟩ := by
  intro pos
  induction pos using Nat.strongRecOn with
  | ind pos ih =>
    intro h xs hs hf hh hb hp hz hM k
    obtain ⟨n, hl⟩ := id hs
    show wpAny _ _ _ _ _ _
    wp_walk using wpAny_loadPart' hl
    have en : ((pos : Nat) : Int).toNat = pos := Int.toNat_natCast pos
    rw [en]
    by_cases h0 : pos > 0
    · rw [if_pos (show pos > Int.toNat 0 from h0)]
      have lq := par_lt h0
      have lq' : (pos - 1) / 2 < xs.size := by unfold par at lq; omega
      have ex : xs[pos]? = some xs[pos] := Array.getElem?_eq_getElem hp
      have ey : xs[(pos - 1) / 2]? = some xs[(pos - 1) / 2] := Array.getElem?_eq_getElem lq'
      have mx := hM _ (Array.mem_toList_iff.mpr (Array.mem_of_getElem? ex))
      have my := hM _ (Array.mem_toList_iff.mpr (Array.mem_of_getElem? ey))
      wp_walk
      rw [ex]
      wp_walk
      rw [ey]
      have C : ∀ (E : Value → Shared → Prop) (Q : Value → Shared → Prop), Q (.bool (lt xs[pos] xs[(pos - 1) / 2])) ⟨h, g, d, tk, os⟩ → wpAny (model prog w) A.in1 (richCompare .Lt xs[pos] xs[(pos - 1) / 2]) Q E ⟨h, g, d, tk, os⟩ := fun E Q q => cmp h hf _ mx _ my prog w E Q q
      wp_walk using wpAny_loadPart' hl, C
      by_cases c : lt xs[pos] xs[(pos - 1) / 2] = true
      · rw [c]
        wp_walk using wpAny_loadPart' hl
        rw [ey]
        wp_walk using wpAny_loadPart' hl
        rw [ex]
        wp_walk using wpAny_loadPart' hl, upSeq hl hz
        · refine ⟨plainId_quiet plain_sift _, codeAny_builtin entry_sift ?_⟩
          rw [Around.under_plainId plain_sift _]
          obtain ⟨u1, u2⟩ := hh.up O hb h0 (q := (pos - 1) / 2) rfl ex ey c
          exact ih ((pos - 1) / 2) lq _ (sw xs ((pos - 1) / 2) pos xs[(pos - 1) / 2] xs[pos]) (hs.upd _) (hf.upd _) u1 u2 (by rw [sw_size]; exact lq') (by rw [sw_size]; exact hz)
            (fun x hx => hM x ((sw_perm ey ex).mem_iff.mp hx)) fun h' ys s' f' i' p' => k h' ys s' f' i' (p'.trans (sw_perm ey ex))
        · show (sw xs ((pos - 1) / 2) pos xs[(pos - 1) / 2] xs[pos]).size ≤ sizeLine + 1
          rw [sw_size]; omega
      · have c' : lt xs[pos] xs[(pos - 1) / 2] = false := by simpa using c
        rw [c']
        wp_walk using wpAny_loadPart' hl
        refine k h xs hs hf (hh.done hb (.inr fun x y e1 e2 => ?_)) (List.Perm.refl _)
        rw [ex] at e1
        have e2' : xs[(pos - 1) / 2]? = some y := e2
        rw [ey] at e2'
        rw [← Option.some.inj e1, ← Option.some.inj e2']
        exact c'
    · rw [if_neg (show ¬ pos > Int.toNat 0 from h0)]
      wp_walk using wpAny_loadPart' hl
      exact k h xs hs hf (hh.done hb (.inl (by omega))) (List.Perm.refl _)
theorem sift_down (O : Swo lt) (res : Value) (cmp : Cmp A R lt a h0 M g d tk os) : ∀ (m pos : Nat) (h : Heap) (xs : Array Value), xs.size - pos = m → St a h xs → Fr a h0 h → Hole lt xs pos → pos < xs.size → xs.size ≤ sizeLine → (∀ x ∈ xs.toList, x ∈ M) →
    (∀ h' ys, St a h' ys → Fr a h0 h' → IsHeap lt ys → ys.toList.Perm xs.toList → R (.ok (.ret res)) ⟨h', g, d, tk, os⟩) →
    Goes prog w A R (Builtin.«_heapq.heapify.sift» ⟨[.ref a, .bool false, .bool true, rawInt pos, rawInt 0, res, rawInt (-1)], []⟩) ⟨h, g, d, tk, os⟩ := by
  intro m
  induction m using Nat.strongRecOn with
  | ind m ih =>
    intro pos h xs hm hs hf hh hp hz hM k
    obtain ⟨n, hl⟩ := id hs
    show wpAny _ _ _ _ _ _
    have en : ((pos : Nat) : Int).toNat = pos := Int.toNat_natCast pos
    wp_walk using wpAny_loadPart' hl
    rw [en]
    by_cases h1 : pos < xs.size / 2
    · rw [if_pos h1]
      have l1 : 2 * pos + 1 < xs.size := by omega
      have ev : xs[pos]? = some xs[pos] := Array.getElem?_eq_getElem hp
      have el : xs[2 * pos + 1]? = some xs[2 * pos + 1] := Array.getElem?_eq_getElem l1
      have p1 : par (2 * pos + 1) = pos := by unfold par; omega
      have ml := hM _ (Array.mem_toList_iff.mpr (Array.mem_of_getElem? el))
      -- one child is taken
      have take : ∀ (c : Nat) (z : Value), 0 < c → par c = pos → c < xs.size → xs[c]? = some z → (∀ i u, 0 < i → i ≠ c → par i = pos → xs[i]? = some u → lt u z = false) →
          Goes prog w A R (Builtin.«_heapq.heapify.sift» ⟨[.ref a, .bool false, .bool true, rawInt c, rawInt 0, res, rawInt (-1)], []⟩) ⟨h.update a (Obj.mapSeq fun ys => (ys.setIfInBounds c xs[pos]).setIfInBounds pos z), g, d, tk, os⟩ := fun c z c0 pc cl ez sib => by
        have lc := par_lt c0
        exact ih (xs.size - c) (by omega) c _ (sw xs c pos z xs[pos]) (by rw [sw_size]) (hs.upd _) (hf.upd _) (hh.down c0 pc ez ev sib) (by rw [sw_size]; exact cl) (by rw [sw_size]; exact hz)
          (fun x hx => hM x ((sw_perm ez ev).mem_iff.mp hx)) fun h' ys s' f' i' p' => k h' ys s' f' i' (p'.trans (sw_perm ez ev))
      have kids : ∀ i, 0 < i → par i = pos → i = 2 * pos + 1 ∨ i = 2 * pos + 1 + 1 := fun i hi pi => by unfold par at pi; omega
      wp_walk using wpAny_loadPart' hl
      by_cases h2 : 2 * pos + 1 + 1 < xs.size
      · rw [if_pos h2]
        have er : xs[2 * pos + 1 + 1]? = some xs[2 * pos + 1 + 1] := Array.getElem?_eq_getElem h2
        have p2 : par (2 * pos + 1 + 1) = pos := by unfold par; omega
        have mr := hM _ (Array.mem_toList_iff.mpr (Array.mem_of_getElem? er))
        have C : ∀ (E : Value → Shared → Prop) (Q : Value → Shared → Prop), Q (.bool (lt xs[2 * pos + 1] xs[2 * pos + 1 + 1])) ⟨h, g, d, tk, os⟩ → wpAny (model prog w) A.in1 (richCompare .Lt xs[2 * pos + 1] xs[2 * pos + 1 + 1]) Q E ⟨h, g, d, tk, os⟩ := fun E Q q => cmp h hf _ ml _ mr prog w E Q q
        wp_walk using wpAny_loadPart' hl
        rw [el]
        wp_walk using wpAny_loadPart' hl
        rw [er]
        wp_walk using wpAny_loadPart' hl, C
        by_cases c : lt xs[2 * pos + 1] xs[2 * pos + 1 + 1] = true
        · rw [c]
          wp_walk using wpAny_loadPart' hl
          rw [el]
          wp_walk using wpAny_loadPart' hl
          rw [ev]
          wp_walk using wpAny_loadPart' hl, upSeq hl hz
          · refine ⟨plainId_quiet plain_sift _, codeAny_builtin entry_sift ?_⟩
            rw [Around.under_plainId plain_sift _]
            exact take (2 * pos + 1) _ (by omega) p1 l1 el fun i u hi ni pi eu => by
              rcases kids i hi pi with e | e
              · exact absurd e ni
              · rw [e, er] at eu
                rw [← Option.some.inj eu]
                exact O.asym _ _ c
          · show (sw xs (2 * pos + 1) pos xs[2 * pos + 1] xs[pos]).size ≤ sizeLine + 1
            rw [sw_size]; omega
        · have c' : lt xs[2 * pos + 1] xs[2 * pos + 1 + 1] = false := by simpa using c
          rw [c']
          wp_walk using wpAny_loadPart' hl
          rw [er]
          wp_walk using wpAny_loadPart' hl
          rw [ev]
          wp_walk using wpAny_loadPart' hl, upSeq hl hz
          · refine ⟨plainId_quiet plain_sift _, codeAny_builtin entry_sift ?_⟩
            rw [Around.under_plainId plain_sift _]
            exact take (2 * pos + 1 + 1) _ (by omega) p2 h2 er fun i u hi ni pi eu => by
              rcases kids i hi pi with e | e
              · rw [e, el] at eu
                rw [← Option.some.inj eu]
                exact c'
              · exact absurd e ni
          · show (sw xs (2 * pos + 1 + 1) pos xs[2 * pos + 1 + 1] xs[pos]).size ≤ sizeLine + 1
            rw [sw_size]; omega
      · rw [if_neg h2]
        wp_walk using wpAny_loadPart' hl
        rw [el]
        wp_walk using wpAny_loadPart' hl
        rw [ev]
        wp_walk using wpAny_loadPart' hl, upSeq hl hz
        · refine ⟨plainId_quiet plain_sift _, codeAny_builtin entry_sift ?_⟩
          rw [Around.under_plainId plain_sift _]
          exact take (2 * pos + 1) _ (by omega) p1 l1 el fun i u hi ni pi eu => by
            rcases kids i hi pi with e | e
            · exact absurd e ni
            · rw [e] at eu
              exact absurd (Array.getElem?_eq_some_iff.mp eu).1 h2
        · show (sw xs (2 * pos + 1) pos xs[2 * pos + 1] xs[pos]).size ≤ sizeLine + 1
          rw [sw_size]; omega
    · rw [if_neg h1]
      wp_walk using wpAny_loadPart' hl
      refine ⟨plainId_quiet plain_sift _, codeAny_builtin entry_sift ?_⟩
      rw [Around.under_plainId plain_sift _]
      exact sift_up O res cmp pos h xs hs hf hh (leaf (by omega)) hp hz hM k
theorem push_goes (O : Swo lt) {h : Heap} {xs : Array Value} {v : Value} (cmp : Cmp A R lt a h M g d tk os) (hs : St a h xs) (hh : IsHeap lt xs) (hz : xs.size < sizeLine) (hM : ∀ x ∈ xs.toList, x ∈ M) (hv : v ∈ M)
    (k : ∀ h' ys, St a h' ys → Fr a h h' → IsHeap lt ys → ys.toList.Perm (xs.toList ++ [v]) → R (.ok (.ret .none)) ⟨h', g, d, tk, os⟩) :
    Goes prog w A R (Builtin.«_heapq.heappush» ⟨[.ref a, v], []⟩) ⟨h, g, d, tk, os⟩ := by
  obtain ⟨n, hl⟩ := id hs
  have f3 := AutoSeq1.sub_list_list
  show wpAny _ _ _ _ _ _
  wp_walk using wpAny_loadPart' hl, upSeq hl (Nat.le_of_lt hz)
  · have hs' : St a (h.update a (Obj.mapSeq fun x => x.push v)) (xs.push v) := hs.upd _
    obtain ⟨n', hl'⟩ := id hs'
    wp_walk using wpAny_loadPart' hl'
    have e1 : (((fun x : Array Value => x.push v) xs).size - 1) = xs.size := by show (xs.push v).size - 1 = xs.size; rw [Array.size_push]; omega
    rw [e1]
    refine ⟨plainId_quiet plain_sift _, codeAny_builtin entry_sift ?_⟩
    rw [Around.under_plainId plain_sift _]
    obtain ⟨u1, u2⟩ := hh.push v
    exact sift_up O .none cmp xs.size _ (xs.push v) hs' (Fr.upd (fun _ _ _ e => e) _) u1 u2 (by rw [Array.size_push]; omega) (by rw [Array.size_push]; omega)
      (fun x hx => by
        rw [Array.toList_push] at hx
        rcases List.mem_append.mp hx with hx | hx
        · exact hM x hx
        · rw [List.mem_singleton.mp hx]; exact hv) fun h' ys s' f' i' p' => k h' ys s' f' i' (by rw [Array.toList_push] at p'; exact p')
  · show (xs.push v).size ≤ sizeLine + 1
    rw [Array.size_push]; omega
theorem pop_goes (O : Swo lt) {h : Heap} {xs : Array Value} {y : Value} (cmp : Cmp A R lt a h M g d tk os) (hs : St a h xs) (hh : IsHeap lt xs) (hz : xs.size ≤ sizeLine) (hM : ∀ x ∈ xs.toList, x ∈ M) (hy : xs[0]? = some y)
    (k : ∀ h' ys, St a h' ys → Fr a h h' → IsHeap lt ys → (y :: ys.toList).Perm xs.toList → R (.ok (.ret y)) ⟨h', g, d, tk, os⟩) :
    Goes prog w A R (Builtin.«_heapq.heappop» ⟨[.ref a], []⟩) ⟨h, g, d, tk, os⟩ := by
  obtain ⟨n, hl⟩ := id hs
  have f3 := AutoSeq1.sub_list_list
  have hn : 0 < xs.size := (Array.getElem?_eq_some_iff.mp hy).1
  obtain ⟨z, eb⟩ : ∃ z, xs.back? = some z := ⟨xs[xs.size - 1], by rw [Array.back?_eq_getElem?]; exact Array.getElem?_eq_getElem _⟩
  obtain ⟨zs, ezs⟩ := Array.back?_eq_some_iff.mp eb
  have ep : xs.pop = zs := by rw [ezs, Array.pop_push]
  have et : xs.toList = zs.toList ++ [z] := by rw [ezs, Array.toList_push]
  have esz : xs.size = zs.size + 1 := by rw [ezs, Array.size_push]
  show wpAny _ _ _ _ _ _
  wp_walk using wpAny_loadPart' hl, upSeq hl hz
  rw [eb]
  have hs1 : St a (h.update a (Obj.mapSeq fun x => x.pop)) xs.pop := hs.upd _
  obtain ⟨n1, hl1⟩ := id hs1
  have hz1 : xs.pop.size ≤ sizeLine := by rw [Array.size_pop]; omega
  by_cases h1 : xs.size = 1
  · have e1 : (xs.size == 1) = true := by rw [h1]; rfl
    wp_walk using wpAny_loadPart' hl, upSeq hl hz
    · rw [if_pos e1]
      wp_walk
      have el0 : zs.toList = [] := List.length_eq_zero_iff.mp (by rw [Array.length_toList]; omega)
      rw [el0, List.nil_append] at et
      have ey : z = y := by
        rw [← Array.getElem?_toList, et] at hy
        exact Option.some.inj hy
      rw [ey] at et ⊢
      refine k _ xs.pop hs1 (Fr.upd (fun _ _ _ e => e) _) (fun i x z hi e _ => ?_) ?_
      · have := (Array.getElem?_eq_some_iff.mp e).1
        rw [Array.size_pop] at this
        omega
      · rw [ep, et, el0]
    · show xs.pop.size ≤ sizeLine + 1
      omega
  · have e1 : (xs.size == 1) = false := by simpa using h1
    wp_walk using wpAny_loadPart' hl, upSeq hl hz
    · rw [if_neg (by rw [e1]; exact Bool.false_ne_true)]
      wp_walk
      rw [hy]
      wp_walk using wpAny_loadPart' hl1, upSeq hl1 hz1
      · refine ⟨plainId_quiet plain_sift _, codeAny_builtin entry_sift ?_⟩
        rw [Around.under_plainId plain_sift _]
        have hp1 : 0 < xs.pop.size := by rw [Array.size_pop]; omega
        have pm : (y :: (xs.pop.setIfInBounds 0 z).toList).Perm xs.toList := by
          rw [ep, et, Array.toList_setIfInBounds]
          have hy' : zs.toList[0]? = some y := by
            rw [← Array.getElem?_toList, et, List.getElem?_append_left (by rw [Array.length_toList]; omega)] at hy
            exact hy
          match hq : zs.toList, hy' with
          | b :: l, hy' =>
            have eb' : b = y := Option.some.inj hy'
            rw [eb']
            show (y :: z :: l).Perm (y :: l ++ [z])
            exact (List.perm_append_comm (l₁ := [z]) (l₂ := l)).cons y
        exact sift_down O y cmp _ 0 _ (xs.pop.setIfInBounds 0 z) rfl (hs1.upd _) ((Fr.upd (fun _ _ _ e => e) _).upd _) (hh.pop _) (by rw [Array.size_setIfInBounds]; exact hp1) (by rw [Array.size_setIfInBounds]; exact hz1)
          (fun x hx => hM x (pm.mem_iff.mp (List.mem_cons_of_mem _ hx))) fun h' ys s' f' i' p' => k h' ys s' f' i' ((p'.cons y).trans pm)
      · show (xs.pop.setIfInBounds 0 z).size ≤ sizeLine + 1
        rw [Array.size_setIfInBounds]; omega
    · show xs.pop.size ≤ sizeLine + 1
      omega
end
end MyH

set_option Elab.async false
set_option linter.all false
set_option maxRecDepth 100000
set_option maxHeartbeats 4000000
/-! heappush, heappop of tuples (number, (text, number)): rules over the layer -/
namespace MyH
open PySem PySem.Spec PyProof.Rows L2 MyS
open SrtO hiding Str
/-! ### the order -/
theorem swo_lex {α β : Type} [DecidableEq α] {l1 : α → α → Bool} {l2 : β → β → Bool} (O1 : Swo l1) (tri : ∀ x y, l1 x y = false → l1 y x = false → x = y) (O2 : Swo l2) : Swo fun (p q : α × β) => if p.1 = q.1 then l2 p.2 q.2 else l1 p.1 q.1 := by
  refine ⟨fun x y h => ?_, fun x y z h1 h2 => ?_⟩
  · by_cases e : x.1 = y.1
    · simp only [if_pos e] at h
      simp only [if_pos e.symm]
      exact O2.asym _ _ h
    · simp only [if_neg e] at h
      simp only [if_neg (fun c : y.1 = x.1 => e c.symm)]
      exact O1.asym _ _ h
  · by_cases e : z.1 = x.1
    · simp only [if_pos e]
      by_cases e1 : y.1 = x.1
      · simp only [if_pos e1] at h1
        simp only [if_pos (e.trans e1.symm)] at h2
        exact O2.tr _ _ _ h1 h2
      · simp only [if_neg e1] at h1
        simp only [if_neg (fun c : z.1 = y.1 => e1 (c.symm.trans e))] at h2
        rw [e] at h2
        exact absurd (tri _ _ h1 h2) e1
    · simp only [if_neg e]
      by_cases e1 : y.1 = x.1
      · simp only [if_neg (fun c : z.1 = y.1 => e (c.trans e1))] at h2
        rw [e1] at h2
        exact h2
      · simp only [if_neg e1] at h1
        by_cases e2 : z.1 = y.1
        · rw [e2]; exact h1
        · simp only [if_neg e2] at h2
          exact O1.tr _ _ _ h1 h2
def ilt (a b : Int) : Bool := decide (a < b)
theorem swo_i : Swo ilt := ⟨fun x y h => by unfold ilt at *; simp at *; omega, fun x y z h1 h2 => by unfold ilt at *; simp at *; omega⟩
theorem tri_i (x y : Int) (h1 : ilt x y = false) (h2 : ilt y x = false) : x = y := by unfold ilt at *; simp at *; omega
/-- a place in the queue: when, the road, the marks -/
abbrev K3 := Int × Str × Int
def ltN : Str × Int → Str × Int → Bool := fun p q => if p.1 = q.1 then ilt p.2 q.2 else slt p.1 q.1
def lt3 : K3 → K3 → Bool := fun p q => if p.1 = q.1 then ltN p.2 q.2 else ilt p.1 q.1
theorem swo_n : Swo ltN := swo_lex swo_s (fun _ _ => slt_tri) swo_i
theorem swo_3 : Swo lt3 := swo_lex swo_i tri_i swo_n
theorem lt3_first {p q : K3} (h : lt3 p q = false) : q.1 ≤ p.1 := by
  unfold lt3 at h
  by_cases e : p.1 = q.1
  · omega
  · rw [if_neg e] at h
    unfold ilt at h
    simp at h
    exact h
def dN (k : Str × Int) : PyData := .tuple [.str k.1, .int k.2]
def d3 (k : K3) : PyData := .tuple [.int k.1, dN k.2]
theorem alike_3 (p q : K3) : PySem.W.alike (d3 p) (d3 q) = true := by
  simp [d3, dN, PySem.W.alike, PySem.W.alikeAll]
theorem lex1 {a b : Int ⊕ List Nat} (l m : List (Int ⊕ List Nat)) : lexLt itemOrd (a :: l) (b :: m) = if a = b then lexLt itemOrd l m else itemLt a b := by
  by_cases e : a = b
  · rw [if_pos e, e]
    exact lex_self (O := itemOrd) _ _ _
  · rw [if_neg e]
    exact lex_diff (O := itemOrd) e
theorem dataLt_3 (p q : K3) : PySem.W.dataLt (d3 p) (d3 q) = lt3 p q := by
  obtain ⟨t, n, m⟩ := p
  obtain ⟨t', n', m'⟩ := q
  unfold PySem.W.dataLt lt3 ltN
  simp only [d3, dN, PySem.W.keyToks, PySem.W.keyToksAll, List.cons_append, List.nil_append]
  rw [lex1, if_pos rfl, lex1]
  by_cases e : t = t'
  · subst e
    rw [if_pos rfl, if_pos rfl, lex1, if_pos rfl, lex1, if_pos rfl, lex1]
    by_cases e2 : n = n'
    · subst e2
      rw [if_pos rfl, if_pos rfl, lex1, if_pos rfl, lex1]
      by_cases e3 : m = m'
      · subst e3
        simp [PyProof.Rows.lexLt, ilt, lex1, itemLt]
      · have : ¬ (Sum.inl m : Int ⊕ List Nat) = Sum.inl m' := fun z => e3 (Sum.inl.inj z)
        simp [this, itemLt, ilt]
    · have ne : ¬ (Sum.inr n.cps.toList : Int ⊕ List Nat) = Sum.inr n'.cps.toList := fun z => e2 (str_ext (Sum.inr.inj z))
      rw [if_neg ne, if_neg e2]
      have q := PySem.W.dataLt_str n n'
      unfold PySem.W.dataLt at q
      simp only [PySem.W.keyToks] at q
      rw [lex1, if_neg ne] at q
      exact q
  · have ne : ¬ (Sum.inl t : Int ⊕ List Nat) = Sum.inl t' := fun z => e (Sum.inl.inj z)
    rw [if_neg ne, if_neg e]
    rfl
/-! ### values that are places in the queue -/
def QV (h : Heap) (v : Value) (k : K3) : Prop := ∃ (p q : Addr) (t1 t2 t3 : Tok), v = .ref p ∧ h.IsTuple p #[.int k.1 t1, .ref q] ∧ h.IsTuple q #[.str k.2.1 t2, .int k.2.2 t3]
theorem QV.keep {h h' : Heap} {a : Addr} {xs : Array Value} {v : Value} {k : K3} (x : QV h v k) (hl : ∃ n, h.get? a = some { cls := .type "list", data := .seq xs n }) (f : Fr a h h') : QV h' v k := by
  obtain ⟨p, q, t1, t2, t3, e, ⟨o, h1, c1, n1, d1⟩, ⟨o2, h2, c2, n2, d2⟩⟩ := x
  obtain ⟨n, hl⟩ := hl
  refine ⟨p, q, t1, t2, t3, e, ⟨o, f p o (fun z => ?_) h1, c1, n1, d1⟩, ⟨o2, f q o2 (fun z => ?_) h2, c2, n2, d2⟩⟩
  · rw [z, hl] at h1
    rw [← Option.some.inj h1] at c1
    exact absurd c1 (by simp)
  · rw [z, hl] at h2
    rw [← Option.some.inj h2] at c2
    exact absurd c2 (by simp)
theorem QV.reads {h : Heap} {v : Value} {k : K3} (x : QV h v k) : ∃ as, Reads h v (d3 k) as := by
  obtain ⟨p, q, t1, t2, t3, e, ⟨o, h1, c1, n1, d1⟩, ⟨o2, h2, c2, n2, d2⟩⟩ := x
  subst e
  exact ⟨_, Reads.tuple h1 c1 d1 (.cons (.int _ _) (.cons (Reads.tuple h2 c2 d2 (.cons (.str _ _) (.cons (.int _ _) .nil))) .nil))⟩
/-- the place that a value is -/
noncomputable def kvOf (h : Heap) (v : Value) : K3 := open Classical in if x : ∃ k, QV h v k then x.choose else (0, Str.empty, 0)
theorem QV.at {h : Heap} {v : Value} {k : K3} (x : QV h v k) : kvOf h v = k := by
  have ex : ∃ k, QV h v k := ⟨k, x⟩
  unfold kvOf
  rw [dif_pos ex]
  have y := ex.choose_spec
  generalize ex.choose = k' at y
  obtain ⟨p, q, t1, t2, t3, e, ⟨o, h1, c1, n1, d1⟩, ⟨o2, h2, c2, n2, d2⟩⟩ := x
  obtain ⟨p', q', t1', t2', t3', e', ⟨o', h1', c1', n1', d1'⟩, ⟨o2', h2', c2', n2', d2'⟩⟩ := y
  rw [e] at e'
  injection e' with e'
  subst e'
  rw [h1] at h1'
  have := Option.some.inj h1'
  subst this
  rw [d1] at d1'
  injection d1' with a1 a2
  have a3 := congrArg Array.toList a1
  simp at a3
  obtain ⟨⟨b1, _⟩, b2⟩ := a3
  subst b2
  rw [h2] at h2'
  have := Option.some.inj h2'
  subst this
  rw [d2] at d2'
  injection d2' with a1 a2
  have a4 := congrArg Array.toList a1
  simp at a4
  obtain ⟨⟨b3, _⟩, b4, _⟩ := a4
  exact Prod.ext b1.symm (Prod.ext b3.symm b4.symm)
section
variable {prog : Program} {w : World} {E : Value → Shared → Prop} {s : Shared}
theorem call_again {A : Around} {id : String} {b : Builtin} {args : List Value} {Q : Value → Shared → Prop} (hk : builtinKind id = none) (hp : plainId id = true) (hb : entryFor table id = some b) (ha : argsOk id ⟨args, []⟩)
    (hc : Goes prog w A (fun r s' => match r with | .ok (.ret v) => Q v s' | .ok _ => False | .error e => E e s') (b ⟨args, []⟩) s) : wpAny (model prog w) A (call (.builtin id) args) Q E s := by
  refine wpAny_call (codeAny_call_builtin hp hb ?_)
  simp only [checkBuiltinCall, hk]
  cases hsig : Manifest.signature? id with
  | none => exact wpAny_pure hc
  | some sig =>
    simp only [argsOk, hsig] at ha
    have h2 : Bind.checkArgs id sig ⟨args, []⟩ = pure () := ha
    show wpAny _ A.in1 (Bind.checkArgs id sig ⟨args, []⟩) _ _ s
    rw [h2]; exact wpAny_pure hc
end
/-! ### over the layer -/
def QAt (H : Hp) (k : K3) (x : V) : Prop := ∃ p q, x = .ref p ∧ H p = some (.tup [.int k.1, .ref q]) ∧ H q = some (.tup [.str k.2.1, .int k.2.2])
def HeapK (ks : List K3) : Prop := IsHeap lt3 ks.toArray
section
variable {X : Cx} {pins : List (Addr × Obj)} {σ : L2.St} {H : Hp} {s : Shared}
theorem QAt.val (I : Inv X pins σ H s) {k : K3} {x : V} {u : Value} (q : QAt H k x) (r : RelV x u) : QV s.heap u k := by
  obtain ⟨p, q', e, h1, h2⟩ := q
  subst e
  cases r
  obtain ⟨_, its, rv, p1⟩ := I.hok p _ h1
  obtain ⟨_, its2, rv2, p2⟩ := I.hok q' _ h2
  obtain ⟨u1, u2, e1, r1, r2⟩ := rv.two
  obtain ⟨u3, u4, e2, r3, r4⟩ := rv2.two
  obtain ⟨t1, rfl⟩ := r1
  obtain rfl : u2 = .ref q' := r2
  obtain ⟨t2, rfl⟩ := r3
  obtain ⟨t3, rfl⟩ := r4
  subst e1 e2
  exact ⟨p, q', t1, t2, t3, rfl, p1, p2⟩
/-- a value of the queue's list -/
def FV (H : Hp) (k : K3) (u : Value) : Prop := ∃ x, RelV x u ∧ QAt H k x
theorem fv_of : ∀ {ks : List K3} {xs : List V} {us : List Value}, Paired (QAt H) ks xs → Vals xs us → Paired (FV H) ks us
  | _, _, _, .nil, .nil => .nil
  | _, _, _, .cons q r, .cons q' r' => .cons ⟨_, q', q⟩ (fv_of r r')
theorem fv_to : ∀ {ks : List K3} {us : List Value}, Paired (FV H) ks us → ∃ xs, Paired (QAt H) ks xs ∧ Vals xs us
  | _, _, .nil => ⟨[], .nil, .nil⟩
  | _, _, .cons ⟨x, a, b⟩ r => by
    obtain ⟨xs, h1, h2⟩ := fv_to r
    exact ⟨x :: xs, .cons b h1, .cons a h2⟩
theorem paired_snoc {α β : Type} {F : α → β → Prop} {a : α} {b : β} : ∀ {l : List α} {m : List β}, Paired F l m → F a b → Paired F (l ++ [a]) (m ++ [b])
  | _, _, .nil, h => .cons h .nil
  | _, _, .cons r t, h => .cons r (paired_snoc t h)
theorem fv_kv (I : Inv X pins σ H s) : ∀ {ks : List K3} {us : List Value}, Paired (FV H) ks us → us.map (kvOf s.heap) = ks
  | _, _, .nil => rfl
  | _, _, .cons ⟨x, a, b⟩ r => by
    rw [List.map_cons, fv_kv I r, (b.val I a).at]
theorem fv_mem : ∀ {ks : List K3} {us : List Value} {u : Value}, Paired (FV H) ks us → u ∈ us → ∃ k, FV H k u
  | _, _, _, .cons f r, h => by
    rcases List.mem_cons.mp h with e | h
    · rw [e]; exact ⟨_, f⟩
    · exact fv_mem r h
theorem paired_perm {α β : Type} {F : α → β → Prop} {m m' : List β} (p : m'.Perm m) : ∀ {l : List α}, Paired F l m → ∃ l' : List α, l'.Perm l ∧ Paired F l' m' := by
  induction p with
  | nil => exact fun h => ⟨_, List.Perm.refl _, h⟩
  | cons x p ih =>
    intro l h
    cases h with
    | cons r t =>
      obtain ⟨l', q1, q2⟩ := ih t
      exact ⟨_ :: l', q1.cons _, .cons r q2⟩
  | swap x y l0 =>
    intro l h
    cases h with
    | cons r t =>
      cases t with
      | cons r2 t => exact ⟨_ :: _ :: _, List.Perm.swap .., .cons r2 (.cons r t)⟩
  | trans p q ih1 ih2 =>
    intro l h
    obtain ⟨l1, a1, a2⟩ := ih2 h
    obtain ⟨l2, b1, b2⟩ := ih1 a2
    exact ⟨l2, b1.trans a1, b2⟩
theorem heap_map {α β : Type} {lt : β → β → Bool} {f : α → β} {xs : Array α} : IsHeap (fun x y => lt (f x) (f y)) xs ↔ IsHeap lt (xs.map f) := by
  constructor
  · intro h i x y hi e1 e2
    rw [Array.getElem?_map] at e1 e2
    obtain ⟨a, ea, rfl⟩ := Option.map_eq_some_iff.mp e1
    obtain ⟨b, eb, rfl⟩ := Option.map_eq_some_iff.mp e2
    exact h i a b hi ea eb
  · intro h i x y hi e1 e2
    exact h i (f x) (f y) hi (by rw [Array.getElem?_map, e1]; rfl) (by rw [Array.getElem?_map, e2]; rfl)
theorem kv_keep {h h' : Heap} {a : Addr} {xs : Array Value} {v : Value} {k : K3} (x : QV h v k) (hl : ∃ n, h.get? a = some { cls := .type "list", data := .seq xs n }) (f : Fr a h h') : kvOf h' v = k := (x.keep hl f).at
theorem cmp_of {A : Around} {R : Result → Shared → Prop} {h : Heap} {g : Array GenState} {d : Drawn} {tk : Nat} {os : OsState} {a : Addr} {xs : Array Value} {M : List Value} (hl : ∃ n, h.get? a = some { cls := .type "list", data := .seq xs n }) (hu : A.in1.units + 8 < cLine)
    (hM : ∀ v ∈ M, ∃ k, QV h v k) : Cmp A R (fun x y => lt3 (kvOf h x) (kvOf h y)) a h M g d tk os := by
  intro h' hf x hx y hy
  obtain ⟨kx, qx⟩ := hM x hx
  obtain ⟨ky, qy⟩ := hM y hy
  show PySem.SeqAt.RcLt A.in1 ⟨h', g, d, tk, os⟩ x y (lt3 (kvOf h x) (kvOf h y))
  rw [qx.at, qy.at, ← dataLt_3]
  obtain ⟨as, r1⟩ := (qx.keep hl hf).reads
  obtain ⟨bs, r2⟩ := (qy.keep hl hf).reads
  refine PySem.W.rcLt_alike (d3 kx) (d3 ky) _ ⟨h', g, d, tk, os⟩ x y as bs r1 r2 (alike_3 kx ky) (by unfold d3; exact fun z => nomatch z) ?_
  have e : (d3 kx).depth ≤ 4 := by
    simp [d3, dN, PyData.depth, PyData.depthAll]
  omega
def rPush : List V → Hp → VK → Prop := fun vs H Q => ∃ (l : Addr) (x : V) (xs : List V) (ks : List K3) (k : K3), vs = [.ref l, x] ∧ H l = some (.lst xs) ∧ Paired (QAt H) ks xs ∧ QAt H k x ∧ xs.length < sizeLine ∧ HeapK ks ∧
  ∀ ys ks', ks'.Perm (ks ++ [k]) → Paired (QAt H) ks' ys → HeapK ks' → Q .non (L2.upd H l (.lst ys))
def rPop : List V → Hp → VK → Prop := fun vs H Q => ∃ (l : Addr) (xs : List V) (ks : List K3), vs = [.ref l] ∧ H l = some (.lst xs) ∧ Paired (QAt H) ks xs ∧ ks ≠ [] ∧ HeapK ks ∧
  ∀ y k ys ks', QAt H k y → (k :: ks').Perm ks → (∀ j ∈ ks, lt3 j k = false) → Paired (QAt H) ks' ys → HeapK ks' → Q y (L2.upd H l (.lst ys))
theorem cr_push (hu : X.A.units + 64 < cLine) : CallR X (.builtin "_heapq.heappush") rPush := by
  intro pins s σ H vs us Q I r h
  obtain ⟨l, x, xs, ks, k, rfl, hH, hk, hx, hz, hh, q⟩ := h
  obtain ⟨u0, u, rfl, r0, ru⟩ := vals2 r
  cases r0
  obtain ⟨z, its, n, rv, hl, e⟩ := I.lstM hH
  have fv := fv_of hk rv
  have ek := fv_kv I fv
  refine call_again kind_push plain_push entry_heappush (args_push _ _) ?_
  obtain ⟨h, g, d, tk, os⟩ := s
  have hM : ∀ v ∈ its ++ [u], ∃ k, QV h v k := fun v hv => by
    rcases List.mem_append.mp hv with hv | hv
    · obtain ⟨k', x', a, b⟩ := fv_mem fv hv
      exact ⟨k', b.val I a⟩
    · rw [List.mem_singleton.mp hv]
      exact ⟨k, hx.val I ru⟩
  refine push_goes (lt := fun x y => lt3 (kvOf h x) (kvOf h y)) (M := its ++ [u]) (swo_of swo_3 _) (cmp_of ⟨n, e⟩ (by show X.A.units + 1 + 8 < cLine; omega) hM) ⟨n, e⟩ (heap_map.mpr ?_) (by rw [List.size_toArray]; omega) (fun v hv => List.mem_append_left _ (by simpa using hv)) (by simp) fun h' ys s' f' i' p' => ?_
  · rw [List.map_toArray, ek]
    exact hh
  · have p2 : ys.toList.Perm (its ++ [u]) := p'
    have fvu : Paired (FV H) (ks ++ [k]) (its ++ [u]) := paired_snoc fv ⟨x, ru, hx⟩
    obtain ⟨ks', pm, fv'⟩ := paired_perm p2 fvu
    obtain ⟨xs', hq, hv⟩ := fv_to fv'
    have ek' := fv_kv I fv'
    obtain ⟨n', e'⟩ := s'
    refine ⟨.non, _, I.write (e := l) (o := .lst xs') (t' := tk) (by rw [hH]; trivial) (.inl rfl) (fun b u hb hu => f' b u hb hu) ⟨_, e'⟩ ⟨?_, ys.toList, n', hv, e'⟩, rfl, q xs' ks' pm hq ?_⟩
    · rw [Vals.length hv, p2.length_eq, List.length_append, ← Vals.length rv]
      show xs.length + 1 ≤ sizeLine
      omega
    · have q2 := heap_map.mp i'
      have e3 : ys.map (kvOf h) = ks'.toArray := by
        rw [← ek', ← List.map_toArray, Array.toArray_toList]
      rw [e3] at q2
      exact q2
theorem cr_pop (hu : X.A.units + 64 < cLine) : CallR X (.builtin "_heapq.heappop") rPop := by
  intro pins s σ H vs us Q I r h
  obtain ⟨l, xs, ks, rfl, hH, hk, hne, hh, q⟩ := h
  obtain ⟨u0, rfl, r0⟩ := vals1 r
  cases r0
  obtain ⟨z, its, n, rv, hl, e⟩ := I.lstM hH
  have fv := fv_of hk rv
  have ek := fv_kv I fv
  refine call_again kind_pop plain_pop entry_heappop (args_pop _) ?_
  obtain ⟨h, g, d, tk, os⟩ := s
  have hM : ∀ v ∈ its, ∃ k, QV h v k := fun v hv => by
    obtain ⟨k', x', a, b⟩ := fv_mem fv hv
    exact ⟨k', b.val I a⟩
  have hh' : IsHeap (fun x y => lt3 (kvOf h x) (kvOf h y)) its.toArray := heap_map.mpr (by
    rw [List.map_toArray, ek]
    exact hh)
  obtain ⟨y0, r0, e0⟩ : ∃ y0 r0, its = y0 :: r0 := by
    match its, fv with
    | y0 :: r0, _ => exact ⟨y0, r0, rfl⟩
    | [], .nil => exact absurd rfl hne
  have ey : its.toArray[0]? = some y0 := by rw [e0]; rfl
  refine pop_goes (lt := fun x y => lt3 (kvOf h x) (kvOf h y)) (M := its) (swo_of swo_3 _) (cmp_of ⟨n, e⟩ (by show X.A.units + 1 + 8 < cLine; omega) hM) ⟨n, e⟩ hh' (by rw [List.size_toArray]; omega) (fun v hv => by simpa using hv) ey fun h' ys s' f' i' p' => ?_
  have p2 : (y0 :: ys.toList).Perm its := p'
  obtain ⟨kk, pm, fv'⟩ := paired_perm p2 fv
  match kk, fv' with
  | k :: ks', .cons ⟨y, ry, qy⟩ fv' =>
    obtain ⟨xs', hq, hv⟩ := fv_to fv'
    have ek' := fv_kv I fv'
    obtain ⟨n', e'⟩ := s'
    refine ⟨y, _, I.write (e := l) (o := .lst xs') (t' := tk) (by rw [hH]; trivial) (.inl rfl) (fun b u hb hu => f' b u hb hu) ⟨_, e'⟩ ⟨?_, ys.toList, n', hv, e'⟩, ry, q y k xs' ks' qy pm (fun j hj => ?_) hq ?_⟩
    · have q1 := Vals.length hv
      have q2 := p2.length_eq
      have q3 := Vals.length rv
      rw [List.length_cons] at q2
      omega
    · rw [← ek] at hj
      obtain ⟨v, hv1, rfl⟩ := List.mem_map.mp hj
      obtain ⟨i, hi, ei⟩ := List.getElem_of_mem hv1
      have ei' : its.toArray[i]? = some v := by rw [List.getElem?_toArray, List.getElem?_eq_getElem hi, ei]
      have q2 := hh'.least (swo_of swo_3 _) ey i v ei'
      have q3 : kvOf h y0 = k := (qy.val I ry).at
      rw [← q3]
      exact q2
    · have q2 := heap_map.mp i'
      have e3 : ys.map (kvOf h) = ks'.toArray := by
        rw [← ek', ← List.map_toArray, Array.toArray_toList]
      rw [e3] at q2
      exact q2
end
end MyH

set_option Elab.async false
set_option linter.all false
set_option maxRecDepth 100000
set_option maxHeartbeats 1000000
/-! {k: v} with one tuple as its key -/
namespace MyS
open PySem PySem.Spec PyProof.Rows L2
def tDisp1T (tk tv : TE) : TE := fun σ H Q => ∀ p, H p = none → tk σ (upd H p (.dT [])) fun x H1 => tv σ H1 fun y H2 => H2 p = some (.dT []) ∧ ∃ b k, x = .ref b ∧ H2 b = some (.tup (List.map kV k)) ∧ Q (.ref p) (upd H2 p (.dT (putK [] k y)))
theorem pe_disp1T {X : Cx} {k v : Expr} {pos : Pos} {tk tv : TE} (hu : X.A.units + 1 < cLine) (hk : PE X k tk) (hv : PE X v tv) : PE X (.Dict [some k] [v] pos) (tDisp1T tk tv) := by
  refine ⟨fun pins s σ H Q I q => ?_⟩
  have hn := I.hok.fresh (Nat.le_refl s.heap.objs.size)
  have I1 := I.laid (a := s.heap.objs.size) (o := .dT []) (h' := s.heap.push { cls := .type "dict", data := .dict #[] }) (t' := s.toks) (fun _ _ q => Heap.get?_push_of_some _ q) (Nat.le_refl _) (dt_empty s.heap I.big)
  have hl := pairTrees_length [some k] [v] X.env pos rfl rfl
  rw [arm_eval_Dict, zip_pairTrees [some k] [v] X.env pos rfl rfl, dictDisplay_pairs _ (fun e => by rw [e] at hl; cases hl) (by rw [hl]; show 1 < 17; decide)]
  refine wpAny_bind (wpAny_standAt (wpAny_bind ?_))
  unfold subDict
  refine wpAny_bind (wpAny_alloc ?_)
  refine wpAny_bind (wpAny_holding ?_)
  rw [if_pos (by rw [hl]; show 1 ≤ 15; decide)]
  refine wpAny_bind (pairTrees_cons_walk (thn (hk.run pins _ σ _ _ I1 (q _ hn)) fun u s1 ⟨x, H1, I2, rx, q1⟩ => thn (hv.run pins s1 σ H1 _ I2 q1) fun w2 s2 ⟨y, H2, I3, ry, hp, b, k', ex, hb, q2⟩ => pairTrees_nil_walk ?_))
  subst ex
  refine wpAny_holding (wpAny_bind ?_)
  rw [List.forIn_cons]
  refine wpAny_bind (wpAny_bind (d_dictSetT hu I3 hp (by decide) hb rx ry fun s3 I4 => wpAny_pure ?_))
  show wpAny _ _ (forIn [] PUnit.unit _) _ _ _
  rw [List.forIn_nil]
  exact wpAny_pure (wpAny_pure (wpAny_pure (wpAny_pure ⟨.ref s.heap.objs.size, _, I4, rfl, q2⟩)))
end MyS

set_option Elab.async false
set_option linter.all false
set_option maxRecDepth 100000
set_option maxHeartbeats 1000000
namespace W
open PySem PySem.Spec PyProof.Rows L2 GxR MyG MyS
open MyH (K3 QAt HeapK cr_push cr_pop)
/-! ### search -/
abbrev sSearch : Stmt := top 46
def keyN (n : Node) : List Key := [.inr (nmN n), .inl 0]
def EntAt (H : Hp) (e : Ent) (kv : List Key × V) : Prop := kv.1 = keyN e.n ∧ ∃ p x, kv.2 = .ref p ∧ H p = some (.tup [.int e.t, x]) ∧ (match e.pv with
  | none => x = .non
  | some m => ∃ q, x = .ref q ∧ H q = some (.tup [.str (nmN m), .int 0]))
def CameAt (H : Hp) (D : Addr) (es : List Ent) : Prop := ∃ kvs, H D = some (.dT kvs) ∧ Paired (EntAt H) es kvs
def kOf (e : Ent) : K3 := (e.t, nmN e.n, 0)
/-- tuples stay -/
def TK (H H' : Hp) : Prop := ∀ a xs, H a = some (.tup xs) → H' a = some (.tup xs)
theorem TK.grew {P : Addr} {H H' : Hp} (g : Grew P H H') (h : TabG H P) : TK H H' := fun a xs e => g.tup h e
theorem TK.trans {H H1 H2 : Hp} (a : TK H H1) (b : TK H1 H2) : TK H H2 := fun x xs e => b x xs (a x xs e)
theorem TK.upd {H : Hp} {D : Addr} {o u : HO} (e : H D = some u) (d : ∀ xs, u ≠ .tup xs) : TK H (L2.upd H D o) := fun a xs q => by
  rw [upd_ne (fun z => by rw [z, e] at q; exact d _ (Option.some.inj q))]
  exact q
theorem TK.new {H : Hp} {D : Addr} {o : HO} (e : H D = none) : TK H (L2.upd H D o) := fun a xs q => by
  rw [upd_ne (fun z => by rw [z, e] at q; cases q)]
  exact q
theorem EntAt.keep {H H' : Hp} {e : Ent} {kv : List Key × V} (k : TK H H') (h : EntAt H e kv) : EntAt H' e kv := by
  obtain ⟨h1, p, x, h2, h3, h4⟩ := h
  refine ⟨h1, p, x, h2, k _ _ h3, ?_⟩
  cases c : e.pv with
  | none => rw [c] at h4; exact h4
  | some m =>
    rw [c] at h4
    obtain ⟨q, a, b⟩ := h4
    exact ⟨q, a, k _ _ b⟩
theorem QAt.keep {H H' : Hp} {k : K3} {x : V} (t : TK H H') (h : QAt H k x) : QAt H' k x := by
  obtain ⟨p, q, h1, h2, h3⟩ := h
  exact ⟨p, q, h1, t _ _ h2, t _ _ h3⟩
theorem nm_inj {rs : List RoadD} (nd : (rs.map (·.name)).Nodup) (ne : ∀ r ∈ rs, r.name ≠ Str.empty) {n m : Node} (hn : ∀ r, n = some r → r ∈ rs) (hm : ∀ r, m = some r → r ∈ rs) (e : nmN n = nmN m) : n = m := by
  cases n with
  | none =>
    cases m with
    | none => rfl
    | some r => exact absurd e.symm (ne r (hm r rfl))
  | some r =>
    cases m with
    | none => exact absurd e (ne r (hn r rfl))
    | some r' => rw [uniq_name nd (hn r rfl) (hm r' rfl) e]
theorem key_inj {n m : Node} (e : keyN n = keyN m) : nmN n = nmN m := Sum.inr.inj (List.cons.inj e).1
theorem came_at {H : Hp} : ∀ {es : List Ent} {kvs : List (List Key × V)} {e : Ent}, Paired (EntAt H) es kvs → (∀ a ∈ es, ∀ b ∈ es, nmN a.n = nmN b.n → a = b) → e ∈ es → ∃ v, valV kvs (keyN e.n) = some v ∧ EntAt H e (keyN e.n, v)
  | x :: es, (k, v) :: kvs, e, .cons h t, inj, he => by
    by_cases c : nmN e.n = nmN x.n
    · obtain rfl := inj e he x List.mem_cons_self c
      have e1 : k = keyN e.n := h.1
      subst e1
      exact ⟨v, valV_pos rfl, h⟩
    · have ne : ¬ k = keyN e.n := fun z => c (key_inj (z.symm.trans h.1))
      rcases List.mem_cons.mp he with z | z
      · rw [z] at c; exact absurd rfl c
      · obtain ⟨w, a, b⟩ := came_at t (fun a ha b hb => inj a (List.mem_cons_of_mem _ ha) b (List.mem_cons_of_mem _ hb)) z
        exact ⟨w, by rw [valV_neg (p := (k, v)) ne]; exact a, b⟩
theorem came_no {H : Hp} {z : Str} : ∀ {es : List Ent} {kvs : List (List Key × V)}, Paired (EntAt H) es kvs → (∀ a ∈ es, nmN a.n ≠ z) → valV kvs [.inr z, .inl 0] = none
  | [], [], .nil, _ => rfl
  | x :: es, (k, v) :: kvs, .cons h t, no => by
    have ne : ¬ k = [.inr z, .inl 0] := fun e => no x List.mem_cons_self (by
      have q := h.1
      have e' : k = [.inr z, .inl 0] := e
      rw [e'] at q
      exact (Sum.inr.inj (List.cons.inj q).1).symm)
    rw [valV_neg (p := (k, v)) ne]
    exact came_no t fun a ha => no a (List.mem_cons_of_mem _ ha)
def sgOf {K : PySem.W.Frag} {H : Hp} {M P x : Addr} {d : Int} {ks ps : List Str} {rs : List RoadD} {bs : List (Str × Str)} (hM : MIn K H M P x d ks ps rs bs) (hin : RsIn ps rs) (mi : ∀ r ∈ rs, 1 ≤ r.minutes) : SG d rs :=
  ⟨hM.d1, hM.nd, hin.ne, hM.ho, mi⟩
def spSearch (K : PySem.W.Frag) (M P : Addr) : Sp := fun vs H Q _ => ∃ (x mk : Addr) (kind start : Str) (moment d : Int) (ks ps : List Str) (rs : List RoadD) (bs : List (Str × Str)), vs = [.ref x, .str kind, .str start, .int moment, .ref mk] ∧ H mk = some (.dK []) ∧ 0 ≤ moment ∧ MIn K H M P x d ks ps rs bs ∧ RsIn ps rs ∧ (∀ r ∈ rs, 1 ≤ r.minutes) ∧
  kind.length ≤ 1000 ∧ kind ∈ ks ∧ start ∈ ps ∧ (∀ z ∈ ps, z.length ≤ 1000) ∧ ∀ H' D es, Grew P H H' → H D = none → CameAt H' D es → Sol d kind bs rs start moment es → Q (.ref D) H'
theorem lt3_first' {p q : K3} (h : MyH.lt3 p q = false) : q.1 ≤ p.1 := MyH.lt3_first h
/-- the search under way, at a heap -/
def SrchAt (P : Addr) (H1 H' : Hp) (D L : Addr) (d : Int) (kind : Str) (bs : List (Str × Str)) (rs : List RoadD) (start : Str) (moment : Int) (es qs : List Ent) (cur : Ent) (rest : List RoadD) : Prop :=
  Grew P H1 H' ∧ (∃ kvs, H' D = some (.dT kvs) ∧ Paired (EntAt H') es kvs) ∧ (∃ xs ks, H' L = some (.lst xs) ∧ Paired (QAt H') ks xs ∧ HeapK ks ∧ ks.Perm (qs.map kOf)) ∧ SInv d kind bs rs start moment es qs cur rest
section
variable {Pg : Program} {w : World} {K : PySem.W.Frag} {mg : Str → Option Value} {base : Heap} {C P : Addr}
abbrev nSearch : List Str := ["chart", "kind", "start", "moment", "marks", "behind", "first", "came", "queue", "now", "state", "name", "further", "arrival"]
theorem scSearch : FnScope nSearch ["chart", "kind", "start", "moment", "marks"] (defScope sSearch) := ⟨rfl, rfl, rfl, by decide +kernel, rfl, by decide +kernel, by decide +kernel⟩
theorem ok_search {f M U fT fR fA : Addr} {fd fdT fdR fdA : FuncData} {t1 t2 t3 t4 : Tok} (F : Fun K "search" "search" sSearch f fd) (TM : TxtM K M) (hno : mg "NO_ROAD" = some (.str Str.empty t1)) (hro : mg "ROAD" = some (.int 0 t2)) (hpa : mg "PASSED" = some (.int 1 t3)) (hen : mg "END" = some (.int 2 t4))
    (hpop : mg "heappop" = some (.builtin "_heapq.heappop")) (hpush : mg "heappush" = some (.builtin "_heapq.heappush")) (mR : Meth K M "road" fR)
    (GT : FnOk Pg w K mg base (L2.CX Pg w) 8 fT fdT ["chart", "kind", "start"] (spTurns K M P)) (gT : mg "turns" = some (.ref fT)) (kT : PySem.W.keepIn K (.ref fT) = true) (bT : Binds K fdT ["chart", "kind", "start"] [])
    (GR : FnOk Pg w K mg base (L2.CX Pg w) 4 fR fdR ["self", "name"] (spRoadM K M U)) (bR : Binds K fdR ["self", "name"] [])
    (GA : FnOk Pg w K mg base (L2.CX Pg w) 6 fA fdA ["chart", "name", "moment"] (spTravel K M U P arriveD)) (gA : mg "arrive" = some (.ref fA)) (kA : PySem.W.keepIn K (.ref fA) = true) (bA : Binds K fdA ["chart", "name", "moment"] []) :
    FnOk Pg w K mg base (L2.CX Pg w) 9 f fd ["chart", "kind", "start", "moment", "marks"] (spSearch K M P) := by
  refine F.okX scSearch (fun vs H Q E h => ?_) (fun cdv A outer s H vs Q E hr h => ?_)
  · obtain ⟨x, mk, kind, start, moment, d, ks, ps, rs, bs, rfl, _⟩ := h
    rfl
  · obtain ⟨x, mk, kind, start, moment, d, ks0, ps, rs, bs, rfl, hmk, hmo, hM, hin, hmi, hkl, hk, hst, hpl, k⟩ := h
    refine ⟨_, pss_cons (ps_set (i := 5) scSearch.nd rfl (Or.inl rfl) (pe_call (E := E0) GT hr (by rfl) gT kT bT .nil (passF rfl rfl) (pa_cons (pv 0) (pa_cons (pv 1) (pa_cons (pv 2) pa_nil)))))
      (pss_cons (ps_set (i := 6) scSearch.nd rfl (Or.inl rfl) (pe_tup (pa_cons (pe_gS hno) (pa_cons (pe_dget2 (u1 hr.units) (pv 4) (pv 2) pe_int ⟨rfl, rfl, rfl, rfl⟩) pa_nil))))
      (pss_cons (ps_set (i := 7) scSearch.nd rfl (Or.inl rfl) (pe_disp1T (u1 hr.units) (pv 6) (pe_tup (pa_cons (pv 3) (pa_cons pe_non pa_nil)))))
      (pss_cons (ps_set (i := 8) scSearch.nd rfl (Or.inl rfl) (pe_lst (pa_cons (pe_tup (pa_cons (pv 3) (pa_cons (pv 6) pa_nil))) pa_nil)))
      (pss_cons (ps_while (passes_of rfl) (pt_truth (pv 8) (by intro _; rfl))
        (pss_cons (ps_asg (pe_callBfun (cr_pop hr.units) (by rfl) hpop (pa_cons (pv 8) pa_nil)) (pg_tup (by rfl) (pgs_cons (pg_name (i := 9) scSearch.nd rfl (.inl rfl)) (pgs_cons (pg_name (i := 10) scSearch.nd rfl (.inl rfl)) pgs_nil))))
        (pss_one (ps_for (passes_of rfl) rfl (pi_list (pe_dget (u1 hr.units) (pv 5) (pe_ix ix_tup (pv 10) (pe_gI hro) (fun _ _ => rfl)) (fun _ _ => rfl))) (pg_name (i := 11) scSearch.nd rfl (Or.inl rfl))
          (pss_cons (ps_set (i := 12) scSearch.nd rfl (Or.inl rfl) (pe_tup (pa_cons (pv 11) (pa_cons (pe_op op_or (pe_ix ix_tup (pv 10) (pe_gI hpa) (fun _ _ => rfl)) (pe_dget2 (u1 hr.units) (pv 4) (pe_ix ix_tup (pe_meth (pv 0) TM.cl mR GR (hr.mono (by decide)) bR .nil (passF rfl rfl) (pa_cons (pv 11) pa_nil)) (pe_gI hen) (fun _ _ => rfl)) pe_int ⟨rfl, rfl, rfl, rfl⟩)) pa_nil))))
          (pss_one (ps_if (pt_cmp (pc_dnotin (u1 hr.units) (pv 12) (pv 7)))
            (pss_cons (ps_set (i := 13) scSearch.nd rfl (Or.inl rfl) (pe_call (E := E0) GA (hr.mono (by decide)) (by rfl) gA kA bA .nil (passF rfl rfl) (pa_cons (pv 0) (pa_cons (pv 11) (pa_cons (pv 9) pa_nil)))))
            (pss_cons (ps_dput (u1 hr.units) (pv 7) (pv 12) (pe_tup (pa_cons (pv 13) (pa_cons (pv 10) pa_nil))) rfl)
            (pss_one (ps_expr (pe_callBfun (cr_push hr.units) (by rfl) hpush (pa_cons (pv 8) (pa_cons (pe_tup (pa_cons (pv 13) (pa_cons (pv 12) pa_nil))) pa_nil))))))) pss_nil)))))))
      (pss_one (ps_ret (pv 7))))))), ?_⟩
    have G := sgOf hM hin hmi
    have hP := hM.t
    refine ⟨_, rfl, _, rfl, _, rfl, x, kind, start, d, ks0, ps, rs, bs, rfl, hM, hin, hkl, hk, hst, hpl, fun H1 B g1 nB hB => ?_⟩
    obtain ⟨dx, fs, kk, pp, rr, D0, bb, D2, ys0, zs0, hx, F7⟩ := hM.m
    obtain ⟨kvsB, eB, ⟨l0, vB0, lB0⟩, allB⟩ := hB
    have hmk1 := g1.get hP hmk (fun _ z => by cases z)
    -- first
    refine ⟨_, rfl, mk, rfl, .inl ⟨_, .inl hmk1⟩, _, rfl, none, DGet.k (k := .inr start) hmk1, by show 2 ≤ sizeLine; decide, fun f0 nf0 => ?_⟩
    rw [show (none : Option V).getD (.int 0) = .int 0 from rfl]
    have ga := Grew.new g1.tab (o := .tup [.str Str.empty, .int 0]) nf0
    -- came
    refine fun D nD => ⟨_, rfl, _, rfl, by show 2 ≤ sizeLine; decide, fun e0 ne0 => ?_⟩
    have gb := ga.put (o := .dT []) nD
    have gc := gb.put (o := .tup [.int moment, .non]) ne0
    have nD1 : H1 D = none := ga.free nD
    have eD := (Grew.new gb.tab (o := .tup [.int moment, .non]) ne0).get gb.tab (b := D) upd_same (fun _ z => by cases z)
    have ef0 : L2.upd (L2.upd (L2.upd H1 f0 (.tup [.str Str.empty, .int 0])) D (.dT [])) e0 (.tup [.int moment, .non]) f0 = some (.tup [.str Str.empty, .int 0]) :=
      TK.new ne0 _ _ (TK.new nD _ _ upd_same)
    refine ⟨eD, f0, keyN none, rfl, ef0, ?_⟩
    have gd := gc.write (o := .dT (putK [] (keyN none) (.ref e0))) eD (fun _ z => by cases z) nD1
    generalize hHd : L2.upd (L2.upd (L2.upd (L2.upd H1 f0 (.tup [.str Str.empty, .int 0])) D (.dT [])) e0 (.tup [.int moment, .non])) D (.dT (putK [] (keyN none) (.ref e0))) = Hd at gd ⊢
    have eDd : Hd D = some (.dT [(keyN none, .ref e0)]) := by rw [← hHd]; exact upd_same
    have tkd : TK (L2.upd (L2.upd (L2.upd H1 f0 (.tup [.str Str.empty, .int 0])) D (.dT [])) e0 (.tup [.int moment, .non])) Hd := by rw [← hHd]; exact TK.upd eD (fun _ z => by cases z)
    have ee0 : Hd e0 = some (.tup [.int moment, .non]) := tkd _ _ upd_same
    have eff : Hd f0 = some (.tup [.str Str.empty, .int 0]) := tkd _ _ ef0
    -- queue
    refine ⟨_, rfl, _, rfl, by show 2 ≤ sizeLine; decide, fun q0 nq0 => ⟨by show 1 ≤ sizeLine; decide, fun L nL => ?_⟩⟩
    have ge := gd.put (o := .tup [.int moment, .ref f0]) nq0
    have gf := ge.put (o := .lst [.ref q0]) nL
    have nL1 : H1 L = none := ge.free nL
    have tke : TK Hd (L2.upd (L2.upd Hd q0 (.tup [.int moment, .ref f0])) L (.lst [.ref q0])) := (TK.new nq0).trans (TK.new nL)
    have eDf : L2.upd (L2.upd Hd q0 (.tup [.int moment, .ref f0])) L (.lst [.ref q0]) D = some (.dT [(keyN none, .ref e0)]) := ((Grew.new gd.tab nq0).trans (Grew.new ge.tab nL)).get gd.tab eDd (fun _ z => by cases z)
    have eq0 : L2.upd (L2.upd Hd q0 (.tup [.int moment, .ref f0])) L (.lst [.ref q0]) q0 = some (.tup [.int moment, .ref f0]) := TK.new nL _ _ upd_same
    generalize hHf : L2.upd (L2.upd Hd q0 (.tup [.int moment, .ref f0])) L (.lst [.ref q0]) = Hf at gf tke eDf eq0 ⊢
    have eLf : Hf L = some (.lst [.ref q0]) := by rw [← hHf]; exact upd_same
    refine ⟨fun n σ H' => ∃ es qs cur v9 v10 v11 v12 v13, σ = [some (.ref x), some (.str kind), some (.str start), some (.int moment), some (.ref mk), some (.ref B), some (.ref f0), some (.ref D), some (.ref L), v9, v10, v11, v12, v13] ∧ SrchAt P H1 H' D L d kind bs rs start moment es qs cur [] ∧ n = 2 * (rs.length + 1 - es.length) + qs.length,
      ⟨_, [⟨none, moment, none⟩], [⟨none, moment, none⟩], ⟨none, moment, none⟩, none, none, none, none, none, rfl, ⟨gf, ⟨_, eDf, .cons ⟨rfl, e0, .non, rfl, tke _ _ ee0, rfl⟩ .nil⟩, ⟨_, [(moment, Str.empty, 0)], eLf, .cons ⟨q0, f0, rfl, eq0, tke _ _ eff⟩ .nil, ?_, List.Perm.refl _⟩, SInv.init⟩, rfl⟩, ?_⟩
    · intro i a b hi e1 e2
      have := (Array.getElem?_eq_some_iff.mp e1).1
      simp at this
      omega
    rintro n σ H2 ⟨es, qs, cur, v9, v10, v11, v12, v13, rfl, ⟨g2, ⟨kvs, hD, hE⟩, ⟨xs, ks', hL, hQ, hh, pm⟩, I⟩, hn⟩
    refine ⟨_, rfl, _, .inl ⟨xs, SqL.of hL, rfl⟩, ?_⟩
    refine ite2 (fun hne => ?_) (fun he => ?_)
    · refine ⟨_, fun _ _ h => h, ?_⟩
      have xne : xs ≠ [] := fun z => by rw [z] at hne; cases hne
      have kne : ks' ≠ [] := fun z => by
        rw [z] at hQ
        cases hQ
        exact xne rfl
      refine ⟨_, rfl, L, xs, ks', rfl, hL, hQ, kne, hh, fun y k1 ys ks2 hy hp hmin hq' hh' => ?_⟩
      obtain ⟨q, qs', rfl, hpq, hpk⟩ := perm_map_cons (hp.trans pm)
      obtain ⟨p, q1, rfl, hp1, hq1⟩ := hy
      have I' := I.pop hpq fun j hj => lt3_first' (hmin (kOf j) (pm.mem_iff.mpr (List.mem_map.mpr ⟨j, hj, rfl⟩)))
      have tk3 : TK H2 (L2.upd H2 L (.lst ys)) := TK.upd hL (fun _ z => by cases z)
      have g3 := g2.write (o := .lst ys) hL (fun _ z => by cases z) nL1
      have hD3 : L2.upd H2 L (.lst ys) D = some (.dT kvs) := by rw [upd_ne (fun z => by rw [z, hL] at hD; cases hD)]; exact hD
      have hE3 : Paired (EntAt (L2.upd H2 L (.lst ys))) es kvs := Paired.map' hE fun _ _ m => m.keep tk3
      have hQ3 : Paired (QAt (L2.upd H2 L (.lst ys))) ks2 ys := Paired.map' hq' fun _ _ m => QAt.keep tk3 m
      refine ⟨p, _, rfl, SqT.of (tk3 _ _ hp1), rfl, _, _, rfl, _, _, rfl, rfl, ?_⟩
      have hp1' : H2 p = some (.tup [.int q.t, .ref q1]) := hp1
      have hq1' : H2 q1 = some (.tup [.str (nmN q.n), .int 0]) := hq1
      generalize hH3 : L2.upd H2 L (.lst ys) = H3 at tk3 g3 hD3 hE3 hQ3 ⊢
      have hL3 : H3 L = some (.lst ys) := by rw [← hH3]; exact upd_same
      have hq3 := tk3 _ _ hq1'
      have hqes : q ∈ es := I.sub q (hpq.mem_iff.mp List.mem_cons_self)
      obtain ⟨l, hl1, hl2⟩ : ∃ l, valV kvsB (.inr (nmN q.n)) = some (.ref l) ∧ H1 l = some (.lst (namesV (nxN kind bs rs start q.n))) := by
        cases c : q.n with
        | none => exact ⟨l0, vB0, lB0⟩
        | some r =>
          obtain ⟨l, a, b⟩ := allB r (I.mem q hqes r c)
          exact ⟨l, a, b⟩
      have eB3 := g3.get g1.tab eB (fun _ z => by cases z)
      have gB : DGet H3 B (.str (nmN q.n)) (some (.ref l)) := by rw [← hl1]; exact DGet.k (k := .inr (nmN q.n)) eB3
      have lnx : (namesV (nxN kind bs rs start q.n)).length = (nxN kind bs rs start q.n).length := by unfold namesV; rw [List.length_map, List.length_map]
      have hcnt0 := I.count G
      have hqlen : qs'.length + 1 = qs.length := by have := hpq.length_eq; simpa using this
      refine ⟨_, rfl, _, rfl, q1, _, 0, _, rfl, rfl, SqT.of hq3, rfl, B, _, rfl, gB, l, rfl, ⟨_, SqL.of (g3.lst g1.tab hl2)⟩, for_list (K := K) (a := l) (xs := namesV (nxN kind bs rs start q.n))
        (fun i σ H' => ∃ es qs v11 v12 v13, σ = [some (.ref x), some (.str kind), some (.str start), some (.int moment), some (.ref mk), some (.ref B), some (.ref f0), some (.ref D), some (.ref L), some (.int q.t), some (.ref q1), v11, v12, v13] ∧
          SrchAt P H1 H' D L d kind bs rs start moment es qs q ((nxN kind bs rs start q.n).drop i) ∧ H' q1 = some (.tup [.str (nmN q.n), .int 0]) ∧ 2 * (rs.length + 1 - es.length) + qs.length < n)
        ⟨es, qs', v11, v12, v13, rfl, ⟨g3, ⟨kvs, hD3, hE3⟩, ⟨ys, ks2, hL3, hQ3, hh', hpk⟩, I'⟩, hq3, by omega⟩ (fun i σ H' _ ⟨_, _, _, _, _, _, s, _⟩ => SqL.of (s.1.lst g1.tab hl2)) ?_ ?_⟩
      · rintro i y σ H4 hy ⟨es, qs, v11, v12, v13, rfl, ⟨g4, ⟨kvs, hD, hE⟩, ⟨xs, ks, hL, hQ, hh, pm⟩, I⟩, hq4, hmeas⟩
        obtain ⟨r, hri, rfl⟩ := namesV_at hy
        have hdrop : (nxN kind bs rs start q.n).drop i = r :: (nxN kind bs rs start q.n).drop (i + 1) := by
          obtain ⟨h1, h2⟩ := List.getElem?_eq_some_iff.mp hri
          rw [List.drop_eq_getElem_cons h1, h2]
        rw [hdrop] at I
        obtain ⟨hr1, hever⟩ := nx_mem (List.mem_of_getElem? hri)
        have g04 := g1.trans g4
        have hM4 := hM.grew g04
        have hmk4 := g4.get g1.tab hmk1 (fun _ z => by cases z)
        have hcnt := I.count G
        have hql := I.qlen
        have hDL : D ≠ L := fun z => by rw [z, hL] at hD; cases hD
        -- further
        refine ⟨_, rfl, _, rfl, q1, _, 1, _, rfl, rfl, SqT.of hq4, rfl, _, rfl, mk, rfl, .inl ⟨_, .inl hmk4⟩, _, rfl, x, dx, fs, rfl, g04.get hP hx (fun _ z => by cases z), F7.f0 _ (by decide +kernel), _, rfl, x, r.name, d, ks0, ps, rs, bs, rfl, hM.nl _ hr1, hM4.m, fun r' h1' he1 v hv => ?_, fun no => absurd rfl (no r hr1)⟩
        obtain rfl : r' = r := uniq_name hM.nd h1' hr1 he1
        obtain ⟨pr, qr, hv', rfl, epr, _, _⟩ := hv
        refine ⟨pr, _, 2, .str r'.goal, rfl, rfl, SqT.of epr, rfl, none, DGet.k (k := .inr r'.goal) hmk4, _, _, rfl, rfl, by show 2 ≤ sizeLine; decide, fun fu nfu => ?_⟩
        dsimp only [Option.getD_none]
        rw [show V.int (Builtin.bitOr 0 0) = V.int 0 from rfl]
        have g5 := g4.put (o := .tup [.str r'.name, .int 0]) nfu
        have g45 := Grew.new g4.tab (o := .tup [.str r'.name, .int 0]) nfu
        have tk5 : TK H4 (L2.upd H4 fu (.tup [.str r'.name, .int 0])) := TK.new nfu
        have efu5 : L2.upd H4 fu (.tup [.str r'.name, .int 0]) fu = some (.tup [.str r'.name, .int 0]) := upd_same
        generalize hH5 : L2.upd H4 fu (.tup [.str r'.name, .int 0]) = H5 at g5 g45 tk5 efu5 ⊢
        have hD5 := g45.get g4.tab hD (fun _ z => by cases z)
        have hL5 := g45.lst g4.tab hL
        have hq5 := tk5 _ _ hq4
        have hE5 : Paired (EntAt H5) es kvs := Paired.map' hE fun _ _ m => m.keep tk5
        have hQ5 : Paired (QAt H5) ks xs := Paired.map' hQ fun _ _ m => QAt.keep tk5 m
        have inj : ∀ a ∈ es, ∀ b ∈ es, nmN a.n = nmN b.n → a = b := fun a ha b hb e => ent_ext I.nd ha hb (nm_inj hM.nd hin.ne (I.mem a ha) (I.mem b hb) e)
        have kvl : kvs.length = es.length := (Paired.len hE).symm
        have l60 := hin.l60
        refine ⟨_, rfl, _, rfl, D, _, rfl, DGet.t (k := keyN (some r')) hD5 efu5, _, rfl, ?_⟩
        by_cases hin' : ∃ e ∈ es, e.n = some r'
        · obtain ⟨e, he, en⟩ := hin'
          obtain ⟨v, hv, _⟩ := came_at hE inj he
          rw [en] at hv
          rw [hv]
          refine iteF ?_
          exact ⟨es, qs, _, _, _, rfl, ⟨g5, ⟨kvs, hD5, hE5⟩, ⟨xs, ks, hL5, hQ5, hh, pm⟩, I.skip G ⟨e, he, en⟩⟩, hq5, hmeas⟩
        · have hno' : ∀ e ∈ es, e.n ≠ some r' := fun e he en => hin' ⟨e, he, en⟩
          have hnone : valV kvs (keyN (some r')) = none := came_no hE fun a ha e => hno' a ha (nm_inj hM.nd hin.ne (I.mem a ha) (fun r2 h2 => by rw [← Option.some.inj h2]; exact hr1) e)
          rw [hnone]
          refine iteT ?_
          obtain ⟨hc1, hc2, _⟩ := I.cd (by simp)
          have hq0 : 0 ≤ q.t := Int.le_trans hmo (I.ge q hc1)
          obtain ⟨earr, _⟩ := ar_some G.d1 (G.ho r' hr1) (ever_hours hever) q.t
          have g05 := g1.trans g5
          refine ⟨_, rfl, _, rfl, _, rfl, x, r'.name, q.t, d, ks0, ps, rs, bs, rfl, hM.nl _ hr1, hq0, hM.d1, (hM.grew g05).m, g5.tab, fun r2 h2 he2 H6 g56 => ?_, fun no => absurd rfl (no r' hr1), hM.nd⟩
          obtain rfl : r2 = r' := uniq_name hM.nd h2 hr1 he2
          rw [earr]
          rw [show optV (some (ar d r2 q.t)) = V.int (ar d r2 q.t) from rfl]
          have g6 := g5.trans g56
          have tk6 : TK H5 H6 := TK.grew g56 g5.tab
          have hD6 := g56.get g5.tab hD5 (fun _ z => by cases z)
          have hL6 := g56.lst g5.tab hL5
          have efu6 := tk6 _ _ efu5
          have hq6 := tk6 _ _ hq5
          -- came[further] = ..
          refine ⟨_, rfl, _, rfl, by show 2 ≤ sizeLine; decide, fun en nen => ?_⟩
          have g7 := g6.put (o := .tup [.int (ar d r2 q.t), .ref q1]) nen
          have g67 := Grew.new g6.tab (o := .tup [.int (ar d r2 q.t), .ref q1]) nen
          have tk7 : TK H6 (L2.upd H6 en (.tup [.int (ar d r2 q.t), .ref q1])) := TK.new nen
          have een : L2.upd H6 en (.tup [.int (ar d r2 q.t), .ref q1]) en = some (.tup [.int (ar d r2 q.t), .ref q1]) := upd_same
          generalize hH7 : L2.upd H6 en (.tup [.int (ar d r2 q.t), .ref q1]) = H7 at g7 g67 tk7 een ⊢
          have hD7 := g67.get g6.tab hD6 (fun _ z => by cases z)
          have hL7 := g67.lst g6.tab hL6
          have efu7 := tk7 _ _ efu6
          have hq7 := tk7 _ _ hq6
          refine ⟨_, rfl, _, rfl, D, _, rfl, DPut.t (k := keyN (some r2)) hD7 efu7 (by rw [sizeLine_eq]; omega), ?_⟩
          rw [putK_new _ hnone]
          have g8 := g7.write (o := .dT (kvs ++ [(keyN (some r2), .ref en)])) hD7 (fun _ z => by cases z) nD1
          have tk8 : TK H7 (L2.upd H7 D (.dT (kvs ++ [(keyN (some r2), .ref en)]))) := TK.upd hD7 (fun _ z => by cases z)
          have hD8 : L2.upd H7 D (.dT (kvs ++ [(keyN (some r2), .ref en)])) D = some (.dT (kvs ++ [(keyN (some r2), .ref en)])) := upd_same
          have hL8 : L2.upd H7 D (.dT (kvs ++ [(keyN (some r2), .ref en)])) L = some (.lst xs) := by rw [upd_ne hDL.symm]; exact hL7
          generalize hH8 : L2.upd H7 D (.dT (kvs ++ [(keyN (some r2), .ref en)])) = H8 at g8 tk8 hD8 hL8 ⊢
          -- push
          refine ⟨_, rfl, _, rfl, _, rfl, by show 2 ≤ sizeLine; decide, fun qe nqe => ?_⟩
          have g9 := g8.put (o := .tup [.int (ar d r2 q.t), .ref fu]) nqe
          have g89 := Grew.new g8.tab (o := .tup [.int (ar d r2 q.t), .ref fu]) nqe
          have tk9 : TK H8 (L2.upd H8 qe (.tup [.int (ar d r2 q.t), .ref fu])) := TK.new nqe
          have eqe : L2.upd H8 qe (.tup [.int (ar d r2 q.t), .ref fu]) qe = some (.tup [.int (ar d r2 q.t), .ref fu]) := upd_same
          generalize hH9 : L2.upd H8 qe (.tup [.int (ar d r2 q.t), .ref fu]) = H9 at g9 g89 tk9 eqe ⊢
          have hD9 := g89.get g8.tab hD8 (fun _ z => by cases z)
          have hL9 := g89.lst g8.tab hL8
          have tk49 : TK H5 H9 := ((tk6.trans tk7).trans tk8).trans tk9
          have tk79 : TK H7 H9 := tk8.trans tk9
          have hQ9 : Paired (QAt H9) ks xs := Paired.map' hQ5 fun _ _ m => QAt.keep tk49 m
          have hlx : xs.length = qs.length := by rw [← Paired.len hQ, pm.length_eq, List.length_map]
          refine ⟨L, _, xs, ks, (ar d r2 q.t, r2.name, 0), rfl, hL9, hQ9, ⟨qe, fu, rfl, eqe, tk79 _ _ efu7⟩, by rw [sizeLine_eq]; omega, hh, fun ys ks3 pm3 hQ10 hh10 => ?_⟩
          have g10 := g9.write (o := .lst ys) hL9 (fun _ z => by cases z) nL1
          have tk10 : TK H9 (L2.upd H9 L (.lst ys)) := TK.upd hL9 (fun _ z => by cases z)
          have hD10 : L2.upd H9 L (.lst ys) D = some (.dT (kvs ++ [(keyN (some r2), .ref en)])) := by rw [upd_ne hDL]; exact hD9
          have hE10 : Paired (EntAt (L2.upd H9 L (.lst ys))) (es ++ [⟨some r2, ar d r2 q.t, some q.n⟩]) (kvs ++ [(keyN (some r2), .ref en)]) :=
            Paired.snoc (Paired.map' hE5 fun _ _ m => m.keep (tk49.trans tk10)) (show EntAt _ _ _ from ⟨rfl, en, .ref q1, rfl, (tk79.trans tk10) _ _ een, q1, rfl, (tk79.trans tk10) _ _ hq7⟩)
          have pmq : ks3.Perm ((qs ++ [(⟨some r2, ar d r2 q.t, some q.n⟩ : Ent)]).map kOf) := by
            rw [List.map_append]
            exact pm3.trans (List.Perm.append_right _ pm)
          have hnew := I.add G hno' (List.Perm.refl _)
          have hcn := hnew.count G
          rw [List.length_append, List.length_singleton] at hcn
          refine ⟨_, _, _, _, _, rfl, ⟨g10, ⟨_, hD10, hE10⟩, ⟨ys, ks3, upd_same, Paired.map' hQ10 fun _ _ m => QAt.keep tk10 m, hh10, pmq⟩, hnew⟩, (tk79.trans tk10) _ _ hq7, ?_⟩
          rw [List.length_append, List.length_append, List.length_singleton]
          omega
      · rintro σ H4 ⟨es, qs, v11, v12, v13, rfl, ⟨g4, hc, hl, I⟩, hq4, hmeas⟩
        rw [lnx, List.drop_length] at I
        exact ⟨_, hmeas, es, qs, q, _, _, _, _, _, rfl, ⟨g4, hc, hl, I⟩, rfl⟩
    · have xe : xs = [] := by
        cases xs with
        | nil => rfl
        | cons a l => exact absurd rfl he
      subst xe
      cases hQ
      have qe : qs = [] := by
        have := pm.length_eq
        simp at this
        exact List.length_eq_zero_iff.mp this.symm
      subst qe
      exact ⟨_, rfl, k H2 D es (g1.trans g2) (g1.free nD1) ⟨kvs, hD, hE⟩ I.done⟩
end
end W

set_option Elab.async false
set_option linter.all false
set_option maxRecDepth 100000
set_option maxHeartbeats 400000
/-! comprehensions over a locked dict's keys -/
namespace MyS
open PySem PySem.Spec PyProof.Rows L2
theorem lc_keysT {d : Addr} {o : Obj} {kvs : List (List Key × V)} {g : TG} {tt : TT} {te : TE} {vs : List Nat} {σ : L2.St} {H1 : Hp} {D : Addr} {Qd : Hp → Prop} (Pv : Nat → Hp → Prop) (h0 : Pv 0 (upd H1 D (.lst []))) (hl : ∀ i H, i ≤ kvs.length → Pv i H → H d = some (.frz o (.dT kvs)))
    (hs : ∀ i k v q H, kvs[i]? = some (k, v) → H q = some (.tup (List.map kV k)) → Pv i H → g (.ref q) (wipe σ vs) H fun σ2 H2 => wipe σ2 vs = wipe σ vs ∧ tt σ2 H2 fun b H3 =>
      if b = true then te σ2 H3 fun y H4 => ∃ acc, H4 D = some (.lst acc) ∧ acc.length < sizeLine ∧ Pv (i + 1) (upd H4 D (.lst (acc ++ [y]))) else Pv (i + 1) H3) (hd : ∀ H, Pv kvs.length H → Qd H) :
    ∃ W : Nat → Nat → Hp → Prop, (∃ m, W 0 m (upd H1 D (.lst []))) ∧ ∀ i m H, W i m H →
      ((Itkt d o kvs).stop i H ∧ Qd H) ∨ ((Itkt d o kvs).go i H ∧ ∃ Nx : Hp → Prop, (∀ H', Nx H' → ∃ m', m' < m ∧ W (i + 1) m' H') ∧ ∀ x H', (Itkt d o kvs).yld i H x H' → g x (wipe σ vs) H' fun σ2 H2 => wipe σ2 vs = wipe σ vs ∧ tt σ2 H2 fun b H3 =>
        if b = true then te σ2 H3 fun y H4 => ∃ acc, H4 D = some (.lst acc) ∧ acc.length < sizeLine ∧ Nx (upd H4 D (.lst (acc ++ [y]))) else Nx H3) := by
  refine ⟨fun i m H => m = kvs.length - i ∧ i ≤ kvs.length ∧ Pv i H, ⟨kvs.length, by simp, Nat.zero_le _, h0⟩, ?_⟩
  rintro i m H ⟨rfl, hi, p⟩
  have q := hl i H hi p
  by_cases hlt : i < kvs.length
  · refine .inr ⟨⟨q, hlt⟩, Pv (i + 1), fun H' p' => ⟨kvs.length - (i + 1), by omega, rfl, hlt, p'⟩, fun x H' y => ?_⟩
    obtain ⟨e, k, v, a, e1, e2, e3⟩ := y
    subst e e2
    exact hs i k v a _ e1 e3 p
  · have e : i = kvs.length := by omega
    subst e
    exact .inl ⟨⟨q, Nat.le_refl _⟩, hd H p⟩
theorem lc_keysK {d : Addr} {o : Obj} {kvs : List (Key × V)} {g : TG} {tt : TT} {te : TE} {vs : List Nat} {σ : L2.St} {H1 : Hp} {D : Addr} {Qd : Hp → Prop} (Pv : Nat → Hp → Prop) (h0 : Pv 0 (upd H1 D (.lst []))) (hl : ∀ i H, i ≤ kvs.length → Pv i H → H d = some (.frz o (.dK kvs)))
    (hs : ∀ i k v H, kvs[i]? = some (k, v) → Pv i H → g (kV k) (wipe σ vs) H fun σ2 H2 => wipe σ2 vs = wipe σ vs ∧ tt σ2 H2 fun b H3 =>
      if b = true then te σ2 H3 fun y H4 => ∃ acc, H4 D = some (.lst acc) ∧ acc.length < sizeLine ∧ Pv (i + 1) (upd H4 D (.lst (acc ++ [y]))) else Pv (i + 1) H3) (hd : ∀ H, Pv kvs.length H → Qd H) :
    ∃ W : Nat → Nat → Hp → Prop, (∃ m, W 0 m (upd H1 D (.lst []))) ∧ ∀ i m H, W i m H →
      ((Itk d o kvs).stop i H ∧ Qd H) ∨ ((Itk d o kvs).go i H ∧ ∃ Nx : Hp → Prop, (∀ H', Nx H' → ∃ m', m' < m ∧ W (i + 1) m' H') ∧ ∀ x H', (Itk d o kvs).yld i H x H' → g x (wipe σ vs) H' fun σ2 H2 => wipe σ2 vs = wipe σ vs ∧ tt σ2 H2 fun b H3 =>
        if b = true then te σ2 H3 fun y H4 => ∃ acc, H4 D = some (.lst acc) ∧ acc.length < sizeLine ∧ Nx (upd H4 D (.lst (acc ++ [y]))) else Nx H3) := by
  refine ⟨fun i m H => m = kvs.length - i ∧ i ≤ kvs.length ∧ Pv i H, ⟨kvs.length, by simp, Nat.zero_le _, h0⟩, ?_⟩
  rintro i m H ⟨rfl, hi, p⟩
  have q := hl i H hi p
  by_cases hlt : i < kvs.length
  · refine .inr ⟨⟨q, hlt⟩, Pv (i + 1), fun H' p' => ⟨kvs.length - (i + 1), by omega, rfl, hlt, p'⟩, fun x H' y => ?_⟩
    obtain ⟨e, k, v, e1, e2⟩ := y
    subst e e2
    exact hs i k v _ e1 p
  · have e : i = kvs.length := by omega
    subst e
    exact .inl ⟨⟨q, Nat.le_refl _⟩, hd H p⟩
end MyS

set_option Elab.async false
set_option linter.all false
set_option maxRecDepth 100000
set_option maxHeartbeats 1000000
namespace W
open PySem PySem.Spec PyProof.Rows L2 GxR MyG MyS
open MyH (K3 QAt HeapK cr_push cr_pop)
/-! ### labels, places_from -/
/-- a row of a list that is told -/
def RowAt (H : Hp) (e : Str × Int) (v : V) : Prop := ∃ p, v = .ref p ∧ H p = some (.tup [.str e.1, .int e.2])
theorem RowAt.keep {H H' : Hp} {e : Str × Int} {v : V} (k : TK H H') (h : RowAt H e v) : RowAt H' e v := let ⟨p, a, b⟩ := h; ⟨p, a, k _ _ b⟩
def AscF (ls : List (Str × Int)) : Prop := ls.Pairwise fun a b => slt b.1 a.1 = false
def labsOf (es : List Ent) : List (Str × Int) := es.filterMap fun e => e.n.map fun r => (r.name, e.t)
def fstAt (H : Hp) : V → Str
  | .ref p => match H p with
    | some (.tup (.str n :: _)) => n
    | _ => Str.empty
  | _ => Str.empty
theorem RowAt.fst {H : Hp} {e : Str × Int} {v : V} (m : RowAt H e v) : fstAt H v = e.1 := by
  obtain ⟨p, rfl, h⟩ := m
  unfold fstAt
  simp only [h]
/-- the questions of a kind, a start and a moment: what they are told of -/
def Ask (K : PySem.W.Frag) (H : Hp) (M P x : Addr) (d : Int) (ks ps : List Str) (rs : List RoadD) (bs : List (Str × Str)) (kind start : Str) (moment : Int) : Prop :=
  MIn K H M P x d ks ps rs bs ∧ RsIn ps rs ∧ (∀ r ∈ rs, 1 ≤ r.minutes) ∧ (∀ z ∈ ps, z.length ≤ 1000) ∧ kind.length ≤ 1000 ∧ start.length ≤ 1000 ∧ 0 ≤ moment
def spLabels (K : PySem.W.Frag) (M U P : Addr) (f : List Ent → List (Str × Int)) : Sp := fun vs H Q E => ∃ (x : Addr) (kind start : Str) (moment d : Int) (ks ps : List Str) (rs : List RoadD) (bs : List (Str × Str)), vs = [.ref x, .str kind, .str start, .int moment] ∧ Ask K H M P x d ks ps rs bs kind start moment ∧
  Names4 U ks ps rs kind [start] [] (fun z => ∀ H', Grew P H H' → Unk U H' E z) (∀ H' p es ls ys, Grew P H H' → H p = none → Sol d kind bs rs start moment es → ls.Perm (f es) → AscF ls → H' p = some (.lst ys) → Paired (RowAt H') ls ys → Q (.ref p) H')
theorem names_of_keys {H : Hp} : ∀ {es : List Ent} {kvs : List (List Key × V)} {i : Nat} {k : List Key} {v : V}, Paired (EntAt H) es kvs → kvs[i]? = some (k, v) → ∃ e, es[i]? = some e ∧ k = keyN e.n := fun h hi => by
  obtain ⟨e, he, m⟩ := Paired.at h hi
  exact ⟨e, he, m.1⟩
theorem labs_take {es : List Ent} {i : Nat} {e : Ent} (h : es[i]? = some e) : labsOf (es.take (i + 1)) = labsOf (es.take i) ++ (match e.n with | none => [] | some r => [(r.name, e.t)]) := by
  unfold labsOf
  rw [List.take_succ, h, List.filterMap_append]
  cases c : e.n with
  | none => simp [c]
  | some r => simp [c]
theorem labs_nodup {rs : List RoadD} (nd : (rs.map (·.name)).Nodup) : ∀ {es : List Ent}, (es.map (·.n)).Nodup → (∀ e ∈ es, ∀ r, e.n = some r → r ∈ rs) → ((labsOf es).map (·.1)).Nodup
  | [], _, _ => List.nodup_nil
  | e :: es, h, hm => by
    have q := List.nodup_cons.mp h
    have ih := labs_nodup nd q.2 fun e he => hm e (List.mem_cons_of_mem _ he)
    unfold labsOf at ih ⊢
    cases c : e.n with
    | none => rw [List.filterMap_cons, c]; exact ih
    | some r =>
      rw [List.filterMap_cons, c]
      refine List.nodup_cons.mpr ⟨fun z => ?_, ih⟩
      obtain ⟨y, hy, ey⟩ := List.mem_map.mp z
      obtain ⟨e', he', h2⟩ := List.mem_filterMap.mp hy
      cases c' : e'.n with
      | none => rw [c'] at h2; cases h2
      | some r' =>
        rw [c'] at h2
        have ey' : y = (r'.name, e'.t) := (Option.some.inj h2).symm
        rw [ey'] at ey
        have er := uniq_name nd (hm e' (List.mem_cons_of_mem _ he') r' c') (hm e List.mem_cons_self r c) ey
        rw [er] at c'
        exact q.1 (List.mem_map.mpr ⟨e', he', c'.trans c.symm⟩)
theorem perm_perm {α : Type} {a b c : List α} (h : a.Perm b) (g : b.Perm c) : a.Perm c := h.trans g
section
variable {Pg : Program} {w : World} {K : PySem.W.Frag} {mg : Str → Option Value} {base : Heap} {C P : Addr}
end
end W

set_option Elab.async false
set_option linter.all false
set_option maxRecDepth 100000
set_option maxHeartbeats 1000000
namespace W
open PySem PySem.Spec PyProof.Rows L2 GxR MyG MyS
/-! ### a dict of places and moments -/
def kvZ (p : Str × Int) : Key × V := (.inr p.1, .int p.2)
def zget (zs : List (Str × Int)) (z : Str) : Option Int := (zs.find? fun p => decide (p.1 = z)).map (·.2)
def zput (zs : List (Str × Int)) (z : Str) (t : Int) : List (Str × Int) := if (zs.any fun p => decide (p.1 = z)) = true then zs.map (fun p => if p.1 = z then (p.1, t) else p) else zs ++ [(z, t)]
theorem val_z (z : Str) : ∀ zs : List (Str × Int), valV (zs.map kvZ) (.inr z) = (zget zs z).map V.int
  | [] => rfl
  | p :: zs => by
    by_cases e : p.1 = z
    · have ek : (kvZ p).1 = (.inr z : Key) := congrArg Sum.inr e
      rw [List.map_cons, valV_pos ek]
      unfold zget
      rw [List.find?_cons, decide_eq_true e]
      rfl
    · have ek : ¬ (kvZ p).1 = (.inr z : Key) := fun h => e (Sum.inr.inj h)
      rw [List.map_cons, valV_neg ek, val_z z zs]
      unfold zget
      rw [List.find?_cons, decide_eq_false e]
theorem put_z (zs : List (Str × Int)) (z : Str) (t : Int) : putK (zs.map kvZ) (.inr z) (.int t) = (zput zs z t).map kvZ := by
  have ea : ((zs.map kvZ).any fun kv => decide (kv.1 = (.inr z : Key))) = zs.any fun p => decide (p.1 = z) := by
    rw [List.any_map]
    congr 1
    funext p
    by_cases e : p.1 = z
    · have : (kvZ p).1 = (.inr z : Key) := congrArg Sum.inr e
      simp [e, this]
    · have : ¬ (kvZ p).1 = (.inr z : Key) := fun h => e (Sum.inr.inj h)
      simp [e, this]
  unfold putK zput
  rw [ea]
  by_cases c : (zs.any fun p => decide (p.1 = z)) = true
  · rw [if_pos c, if_pos c, List.map_map, List.map_map]
    refine List.map_congr_left fun p _ => ?_
    show (if (kvZ p).1 = (.inr z : Key) then ((kvZ p).1, V.int t) else kvZ p) = kvZ (if p.1 = z then (p.1, t) else p)
    by_cases e : p.1 = z
    · rw [if_pos (show (kvZ p).1 = (.inr z : Key) from congrArg Sum.inr e), if_pos e]
      rfl
    · rw [if_neg (show ¬ (kvZ p).1 = (.inr z : Key) from fun h => e (Sum.inr.inj h)), if_neg e]
  · rw [if_neg c, if_neg c, List.map_append]
    rfl
theorem zput_mem {zs : List (Str × Int)} {z : Str} {t : Int} {p : Str × Int} : p ∈ zput zs z t ↔ p = (z, t) ∨ (p ∈ zs ∧ p.1 ≠ z) := by
  unfold zput
  by_cases c : (zs.any fun p => decide (p.1 = z)) = true
  · rw [if_pos c]
    constructor
    · intro h
      obtain ⟨q, hq, e⟩ := List.mem_map.mp h
      by_cases d : q.1 = z
      · rw [if_pos d] at e
        exact .inl (by rw [← e, d])
      · rw [if_neg d] at e
        exact .inr ⟨e ▸ hq, e ▸ d⟩
    · rintro (e | ⟨h, d⟩)
      · obtain ⟨q, hq, e2⟩ := List.any_eq_true.mp c
        have e3 := of_decide_eq_true e2
        exact List.mem_map.mpr ⟨q, hq, by rw [if_pos e3, e, e3]⟩
      · exact List.mem_map.mpr ⟨p, h, by rw [if_neg d]⟩
  · rw [if_neg c, List.mem_append, List.mem_singleton]
    have no : ∀ q ∈ zs, q.1 ≠ z := fun q hq e => c (List.any_eq_true.mpr ⟨q, hq, decide_eq_true e⟩)
    exact ⟨fun h => h.elim (fun h => .inr ⟨h, no p h⟩) .inl, fun h => h.elim .inr fun h => .inl h.1⟩
theorem zput_nodup {zs : List (Str × Int)} (nd : (zs.map (·.1)).Nodup) (z : Str) (t : Int) : ((zput zs z t).map (·.1)).Nodup := by
  unfold zput
  by_cases c : (zs.any fun p => decide (p.1 = z)) = true
  · rw [if_pos c, List.map_map]
    have e : zs.map ((fun p : Str × Int => p.1) ∘ fun p => if p.1 = z then (p.1, t) else p) = zs.map (·.1) := List.map_congr_left fun p _ => by
      show (if p.1 = z then (p.1, t) else p).1 = p.1
      by_cases d : p.1 = z
      · rw [if_pos d]
      · rw [if_neg d]
    rw [e]
    exact nd
  · rw [if_neg c, List.map_append, List.nodup_append]
    refine ⟨nd, List.nodup_cons.mpr ⟨by simp, List.nodup_nil⟩, fun a ha b hb e => ?_⟩
    obtain ⟨q, hq, rfl⟩ := List.mem_map.mp ha
    rw [List.mem_singleton.mp hb] at e
    exact c (List.any_eq_true.mpr ⟨q, hq, decide_eq_true e⟩)
theorem zget_some {zs : List (Str × Int)} {z : Str} {t : Int} (nd : (zs.map (·.1)).Nodup) (h : (z, t) ∈ zs) : zget zs z = some t := by
  induction zs with
  | nil => cases h
  | cons p zs ih =>
    have q := List.nodup_cons.mp nd
    unfold zget
    rw [List.find?_cons]
    rcases List.mem_cons.mp h with e | h
    · rw [← e]
      simp
    · have ne : ¬ p.1 = z := fun e => q.1 (List.mem_map.mpr ⟨(z, t), h, e.symm⟩)
      rw [decide_eq_false ne]
      exact ih q.2 h
theorem zget_none {zs : List (Str × Int)} {z : Str} (h : zget zs z = none) : ∀ p ∈ zs, p.1 ≠ z := by
  intro p hp e
  unfold zget at h
  cases c : zs.find? fun p => decide (p.1 = z) with
  | some q => rw [c] at h; cases h
  | none =>
    have := List.find?_eq_none.mp c p hp
    exact this (decide_eq_true e)
theorem zget_mem {zs : List (Str × Int)} {z : Str} {t : Int} (h : zget zs z = some t) : (z, t) ∈ zs := by
  unfold zget at h
  cases c : zs.find? fun p => decide (p.1 = z) with
  | none => rw [c] at h; cases h
  | some q =>
    rw [c] at h
    have e1 := List.mem_of_find?_eq_some c
    have e2 : q.1 = z := of_decide_eq_true (List.find?_some (p := fun p : Str × Int => decide (p.1 = z)) c)
    have e3 : q.2 = t := Option.some.inj h
    rw [← e2, ← e3]
    exact e1
structure PlZ (start : Str) (moment : Int) (rs : List RoadD) (pref zs : List (Str × Int)) : Prop where
  nd : (zs.map (·.1)).Nodup
  so : ∀ p ∈ zs, (p.1 = start ∧ p.2 = moment) ∨ ∃ q ∈ pref, q.2 = p.2 ∧ ∃ r ∈ rs, r.name = q.1 ∧ r.goal = p.1
  st : ∃ t, (start, t) ∈ zs ∧ t ≤ moment
  le : ∀ q ∈ pref, ∀ r ∈ rs, r.name = q.1 → ∃ t, (r.goal, t) ∈ zs ∧ t ≤ q.2
theorem PlZ.init (start : Str) (moment : Int) (rs : List RoadD) : PlZ start moment rs [] [(start, moment)] :=
  ⟨List.nodup_cons.mpr ⟨by simp, List.nodup_nil⟩, fun p hp => .inl (by rw [List.mem_singleton.mp hp]; exact ⟨rfl, rfl⟩), ⟨moment, List.mem_singleton.mpr rfl, Int.le_refl _⟩, fun q hq => absurd hq (by simp)⟩
def minZ (a : Int) (o : Option Int) : Int := if o.getD a < a then o.getD a else a
theorem PlZ.step {start : Str} {moment : Int} {rs : List RoadD} {pref zs : List (Str × Int)} (nd : (rs.map (·.name)).Nodup) (h : PlZ start moment rs pref zs) {n : Str} {a : Int} {r : RoadD} (hr : r ∈ rs) (hn : r.name = n) :
    PlZ start moment rs (pref ++ [(n, a)]) (zput zs r.goal (minZ a (zget zs r.goal))) := by
  have hle : minZ a (zget zs r.goal) ≤ a := by unfold minZ; split <;> omega
  have hold : ∀ t, (r.goal, t) ∈ zs → minZ a (zget zs r.goal) ≤ t := fun t ht => by
    rw [zget_some h.nd ht]
    unfold minZ
    show (if t < a then t else a) ≤ t
    split <;> omega
  have up : ∀ {z : Str} {t b : Int}, (z, t) ∈ zs → t ≤ b → ∃ t', (z, t') ∈ zput zs r.goal (minZ a (zget zs r.goal)) ∧ t' ≤ b := fun {z t b} ht hb => by
    by_cases e : z = r.goal
    · subst e
      exact ⟨_, zput_mem.mpr (.inl rfl), Int.le_trans (hold t ht) hb⟩
    · exact ⟨t, zput_mem.mpr (.inr ⟨ht, e⟩), hb⟩
  refine ⟨zput_nodup h.nd _ _, fun p hp => ?_, ?_, fun q hq r' hr' hn' => ?_⟩
  · rcases zput_mem.mp hp with e | ⟨hp, _⟩
    · rw [e]
      unfold minZ
      cases c : zget zs r.goal with
      | none => exact .inr ⟨(n, a), List.mem_append_right _ (List.mem_singleton.mpr rfl), by show a = if a < a then a else a; split <;> rfl, r, hr, hn, rfl⟩
      | some t =>
        show (_ ∧ (if t < a then t else a) = moment) ∨ _
        by_cases d : t < a
        · rw [if_pos d]
          rcases h.so _ (zget_mem c) with z | ⟨q, h1, h2, h3⟩
          · exact .inl z
          · refine .inr ⟨q, List.mem_append_left _ h1, ?_, h3⟩
            show q.2 = if t < a then t else a
            rw [if_pos d]; exact h2
        · refine .inr ⟨(n, a), List.mem_append_right _ (List.mem_singleton.mpr rfl), ?_, r, hr, hn, rfl⟩
          show a = if t < a then t else a
          rw [if_neg d]
    · rcases h.so p hp with z | ⟨q, h1, h2⟩
      · exact .inl z
      · exact .inr ⟨q, List.mem_append_left _ h1, h2⟩
  · obtain ⟨t, h1, h2⟩ := h.st
    exact up h1 h2
  · rcases List.mem_append.mp hq with hq | hq
    · obtain ⟨t, h1, h2⟩ := h.le q hq r' hr' hn'
      exact up h1 h2
    · have eq := List.mem_singleton.mp hq
      subst eq
      have er := uniq_name nd hr' hr (hn'.trans hn.symm)
      subst er
      exact ⟨_, zput_mem.mpr (.inl rfl), hle⟩
theorem PlZ.len {start : Str} {moment : Int} {rs : List RoadD} {pref zs : List (Str × Int)} {ps : List Str} (h : PlZ start moment rs pref zs) (hs : start ∈ ps) (hg : ∀ r ∈ rs, r.goal ∈ ps) : zs.length ≤ ps.length := by
  rw [← List.length_map (f := (·.1))]
  refine nodup_sub_len h.nd fun z hz => ?_
  obtain ⟨p, hp, rfl⟩ := List.mem_map.mp hz
  rcases h.so p hp with ⟨e, _⟩ | ⟨_, _, _, r, h1, _, h2⟩
  · rw [e]; exact hs
  · rw [← h2]; exact hg r h1
def PlOk (start : Str) (moment : Int) (es : List Ent) (ls : List (Str × Int)) : Prop :=
  (ls.map (·.1)).Nodup ∧ (∃ t, (start, t) ∈ ls ∧ t ≤ moment) ∧ (∀ p ∈ ls, (p.1 = start ∧ p.2 = moment) ∨ ∃ e ∈ es, ∃ r, e.n = some r ∧ r.goal = p.1 ∧ e.t = p.2) ∧ ∀ e ∈ es, ∀ r, e.n = some r → ∃ t, (r.goal, t) ∈ ls ∧ t ≤ e.t
def spPlaces (K : PySem.W.Frag) (M U P : Addr) : Sp := fun vs H Q E => ∃ (x : Addr) (kind start : Str) (moment d : Int) (ks ps : List Str) (rs : List RoadD) (bs : List (Str × Str)), vs = [.ref x, .str kind, .str start, .int moment] ∧ Ask K H M P x d ks ps rs bs kind start moment ∧ ps.length ≤ 1000 ∧
  Names4 U ks ps rs kind [start] [] (fun z => ∀ H', Grew P H H' → Unk U H' E z) (∀ H' p es ls ys, Grew P H H' → H p = none → Sol d kind bs rs start moment es → PlOk start moment es ls → AscF ls → H' p = some (.lst ys) → Paired (RowAt H') ls ys → Q (.ref p) H')
theorem labs_mem {es : List Ent} {q : Str × Int} (h : q ∈ labsOf es) : ∃ e ∈ es, ∃ r, e.n = some r ∧ q = (r.name, e.t) := by
  obtain ⟨e, he, h2⟩ := List.mem_filterMap.mp h
  cases c : e.n with
  | none => rw [c] at h2; cases h2
  | some r => rw [c] at h2; exact ⟨e, he, r, c, (Option.some.inj h2).symm⟩
theorem mem_labs {es : List Ent} {e : Ent} {r : RoadD} (h : e ∈ es) (hr : e.n = some r) : (r.name, e.t) ∈ labsOf es := List.mem_filterMap.mpr ⟨e, h, by rw [hr]; rfl⟩
theorem PlZ.ok {d : Int} {kind : Str} {bs : List (Str × Str)} {start : Str} {moment : Int} {rs : List RoadD} {es : List Ent} {pref zs ls : List (Str × Int)} (nd : (rs.map (·.name)).Nodup) (S : Sol d kind bs rs start moment es) (hp : pref.Perm (labsOf es)) (h : PlZ start moment rs pref zs) (pm : ls.Perm zs) : PlOk start moment es ls := by
  refine ⟨(pm.map _).nodup_iff.mpr h.nd, ?_, fun p hp' => ?_, fun e he r hr => ?_⟩
  · obtain ⟨t, a, b⟩ := h.st
    exact ⟨t, pm.mem_iff.mpr a, b⟩
  · rcases h.so p (pm.mem_iff.mp hp') with z | ⟨q, h1, h2, r, h3, h4, h5⟩
    · exact .inl z
    · obtain ⟨e, he, r', hr', eq⟩ := labs_mem (hp.mem_iff.mp h1)
      rw [eq] at h2 h4
      have er := uniq_name nd (S.mem e he r' hr') h3 h4.symm
      exact .inr ⟨e, he, r', hr', by rw [er]; exact h5, h2⟩
  · obtain ⟨t, a, b⟩ := h.le _ (hp.mem_iff.mpr (mem_labs he hr)) r (S.mem e he r hr) rfl
    exact ⟨t, pm.mem_iff.mpr a, b⟩
section
variable {Pg : Program} {w : World} {K : PySem.W.Frag} {mg : Str → Option Value} {base : Heap} {C P : Addr}
end
end W

set_option Elab.async false
set_option linter.all false
set_option maxRecDepth 100000
set_option maxHeartbeats 1000000
/-! min of a list of rows (time, (name, mark)) -/
namespace MyH
open PySem PySem.Spec PyProof.Rows L2
open SrtO hiding Str
def minK (k : K3) (ks : List K3) : K3 := ks.foldl (fun a y => if lt3 y a = true then y else a) k
theorem minD_3 : ∀ (ks : List K3) (k : K3), PySem.W.minD (d3 k) (ks.map d3) = d3 (minK k ks)
  | [], _ => rfl
  | y :: ks, k => by
    have ih := minD_3 ks (if lt3 y k = true then y else k)
    unfold PySem.W.minD minK at *
    rw [List.map_cons, List.foldl_cons, List.foldl_cons, dataLt_3]
    by_cases c : lt3 y k = true
    · rw [if_pos c] at ih
      rw [if_pos c, if_pos c]
      exact ih
    · rw [if_neg c] at ih
      rw [if_neg c, if_neg c]
      exact ih
theorem minK_is : ∀ (ks : List K3) (k : K3), minK k ks ∈ k :: ks ∧ ∀ j ∈ k :: ks, lt3 j (minK k ks) = false
  | [], k => ⟨List.mem_singleton.mpr rfl, fun j hj => by
      rw [List.mem_singleton.mp hj]
      cases c : lt3 k (minK k []) with
      | false => rfl
      | true => exact c.symm.trans (swo_3.asym _ _ c)⟩
  | y :: ks, k => by
    obtain ⟨h1, h2⟩ := minK_is ks (if lt3 y k = true then y else k)
    have e : minK k (y :: ks) = minK (if lt3 y k = true then y else k) ks := rfl
    rw [e]
    by_cases c : lt3 y k = true
    · rw [if_pos c] at h1 h2 ⊢
      refine ⟨List.mem_cons_of_mem _ h1, fun j hj => ?_⟩
      rcases List.mem_cons.mp hj with rfl | hj
      · exact swo_3.tr _ _ _ (h2 y List.mem_cons_self) (swo_3.asym _ _ c)
      · exact h2 j hj
    · have c' : lt3 y k = false := by cases q : lt3 y k with
        | false => rfl
        | true => exact absurd q c
      rw [if_neg c] at h1 h2 ⊢
      refine ⟨?_, fun j hj => ?_⟩
      · rcases List.mem_cons.mp h1 with q | q
        · rw [q]; exact List.mem_cons_self
        · exact List.mem_cons_of_mem _ (List.mem_cons_of_mem _ q)
      · rcases List.mem_cons.mp hj with rfl | hj
        · exact h2 j List.mem_cons_self
        · rcases List.mem_cons.mp hj with rfl | hj
          · exact swo_3.tr _ _ _ (h2 k List.mem_cons_self) c'
          · exact h2 j (List.mem_cons_of_mem _ hj)
theorem d3_inj {p q : K3} (h : d3 p = d3 q) : p = q := by
  obtain ⟨a, b, c⟩ := p
  obtain ⟨a', b', c'⟩ := q
  simp [d3, dN] at h
  obtain ⟨h1, h2, h3⟩ := h
  rw [h1, h2, h3]
theorem alike_all (ks : List K3) : PySem.W.AlikeAll (ks.map d3) := ⟨fun x hx y hy => by
  obtain ⟨p, _, rfl⟩ := List.mem_map.mp hx
  obtain ⟨q, _, rfl⟩ := List.mem_map.mp hy
  exact alike_3 p q, fun x hx => by
  obtain ⟨p, _, rfl⟩ := List.mem_map.mp hx
  exact fun z => nomatch z⟩
theorem depth_all : ∀ ks : List K3, PyData.depthAll (ks.map d3) ≤ 4
  | [] => by simp [PyData.depthAll]
  | k :: ks => by
    have i := depth_all ks
    simp only [List.map_cons, PyData.depthAll, PyData.depth, d3, dN]
    simp [PyData.depthAll, PyData.depth]
    omega
section
variable {X : Cx} {pins : List (Addr × Obj)} {σ : L2.St} {H : Hp} {s : Shared}
theorem reads_all (I : Inv X pins σ H s) : ∀ {ks : List K3} {us : List Value}, Paired (FV H) ks us → ∃ as, ReadsAll s.heap us (ks.map d3) as
  | _, _, .nil => ⟨_, .nil⟩
  | _, _, .cons ⟨x, r, q⟩ t => by
    obtain ⟨as, h1⟩ := (q.val I r).reads
    obtain ⟨bs, h2⟩ := reads_all I t
    exact ⟨_, .cons h1 h2⟩
theorem Reads.more {h h' : Heap} {v : Value} {k : K3} (q : QV h v k) (f : ∀ b o, h.get? b = some o → h'.get? b = some o) : QV h' v k := by
  obtain ⟨p, q, t1, t2, t3, e, ⟨o, h1, c1, n1, d1⟩, ⟨o2, h2, c2, n2, d2⟩⟩ := q
  exact ⟨p, q, t1, t2, t3, e, ⟨o, f _ _ h1, c1, n1, d1⟩, ⟨o2, f _ _ h2, c2, n2, d2⟩⟩
def rMinQ : List V → Hp → VK → Prop := fun vs H Q => ∃ (l : Addr) (xs : List V) (ks : List K3), vs = [.ref l] ∧ H l = some (.lst xs) ∧ Paired (QAt H) ks xs ∧ ks ≠ [] ∧
  ∀ y k, QAt H k y → k ∈ ks → (∀ j ∈ ks, lt3 j k = false) → Q y H
theorem fv_at : ∀ {ks : List K3} {us : List Value} {i : Nat} {u : Value}, Paired (FV H) ks us → us[i]? = some u → ∃ k ∈ ks, FV H k u
  | _, _, 0, _, .cons (a := k) f _, h => ⟨k, List.mem_cons_self, by rw [← Option.some.inj h]; exact f⟩
  | _, _, i + 1, _, .cons _ t, h => by
    obtain ⟨k, a, b⟩ := fv_at t h
    exact ⟨k, List.mem_cons_of_mem _ a, b⟩
theorem cr_minQ (hh : X.A.handled = none) (hu : X.A.units + 64 < cLine) : CallR X (.builtin "min") rMinQ := by
  intro pins s σ H vs us Q I r h
  obtain ⟨l, xs, ks, rfl, hH, hk, hne, q⟩ := h
  obtain ⟨u0, rfl, r0⟩ := vals1 r
  cases r0
  obtain ⟨z, its, n, rv, hl, e⟩ := I.lstM hH
  have fv := fv_of hk rv
  cases ks with
  | nil => exact absurd rfl hne
  | cons k ks =>
    obtain ⟨as, ra⟩ := reads_all I fv
    refine PySem.W.min_list_data (vs := its.toArray) (x := d3 k) (xs := ks.map d3) (as := as) hh ?_ (by simpa using ra) (alike_all (k :: ks)) (by have := depth_all (k :: ks); rw [List.map_cons] at this; omega) fun i v h' tk bs hi rd mo => ?_
    · exact ⟨_, e, rfl, _, rfl⟩
    · obtain ⟨k', hk', x, rx, qx⟩ := fv_at fv (by simpa using hi)
      have q1 := Reads.more (qx.val I rx) mo
      obtain ⟨cs, r1⟩ := q1.reads
      rw [minD_3] at rd
      have ek : k' = minK k ks := d3_inj (PySem.W.alike_unique _ _ v cs bs (alike_3 _ _) r1 rd)
      obtain ⟨m1, m2⟩ := minK_is ks k
      exact ⟨x, H, I.kept (t' := tk) mo, rx, q x k' qx hk' (by rw [ek]; exact m2)⟩
end
end MyH

set_option Elab.async false
set_option linter.all false
set_option maxRecDepth 100000
set_option maxHeartbeats 1000000
namespace W
open PySem PySem.Spec PyProof.Rows L2 GxR MyG MyS
open MyH (K3 QAt cr_minQ d3 dN)
/-! ### place_of, earliest_of -/
abbrev sPlaceOf : Stmt := top 47
abbrev sEarlOf : Stmt := top 48
abbrev sRouteTo : Stmt := top 49
abbrev sRInit : Stmt := inClass (top 51) 0
abbrev sEarliest : Stmt := top 52
def plN (start : Str) : Node → Str
  | none => start
  | some r => r.goal
/-- the value that names an entry's node -/
def StAt (H : Hp) (e : Ent) (v : V) : Prop := ∃ q, v = .ref q ∧ H q = some (.tup [.str (nmN e.n), .int 0])
theorem StAt.keep {H H' : Hp} {e : Ent} {v : V} (k : TK H H') (h : StAt H e v) : StAt H' e v := let ⟨q, a, b⟩ := h; ⟨q, a, k _ _ b⟩
def spPlaceOf (K : PySem.W.Frag) (M P : Addr) : Sp := fun vs H Q _ => ∃ (x q : Addr) (start : Str) (n : Node) (d : Int) (ks ps : List Str) (rs : List RoadD) (bs : List (Str × Str)), vs = [.ref x, .str start, .ref q] ∧ MIn K H M P x d ks ps rs bs ∧ (∀ r ∈ rs, r.name ≠ Str.empty) ∧ (∀ r, n = some r → r ∈ rs) ∧ H q = some (.tup [.str (nmN n), .int 0]) ∧ Q (.str (plN start n)) H
def spEarlOf (K : PySem.W.Frag) (P : Addr) : Sp := fun vs H Q _ => ∃ (D L : Addr) (es fs : List Ent) (kvs : List (List Key × V)) (xs : List V), vs = [.ref D, .ref L] ∧ H D = some (.dT kvs) ∧ Paired (EntAt H) es kvs ∧ (∀ a ∈ es, ∀ b ∈ es, nmN a.n = nmN b.n → a = b) ∧ H L = some (.lst xs) ∧ Paired (StAt H) fs xs ∧ (∀ f ∈ fs, f ∈ es) ∧ fs.length ≤ 1000 ∧
  (∀ f ∈ fs, PyData.strOk (nmN f.n) = true) ∧ TabG H P ∧ (fs = [] → ∀ H', Grew P H H' → Q .non H') ∧ ∀ H' e v, Grew P H H' → e ∈ fs → (∀ f ∈ fs, e.t ≤ f.t) → StAt H' e v → Q v H'
theorem dp_q {K : PySem.W.Frag} {H : Hp} : ∀ {ks : List K3} {ys : List V}, Paired (QAt H) ks ys → DpAll K H ys (ks.map d3)
  | _, _, .nil => .nil
  | _, _, .cons ⟨p, q, e, h1, h2⟩ r => by
    subst e
    exact .cons (.tup (SqT.of h1) (.cons (.int _) (.cons (.tup (SqT.of h2) (.cons (.str _) (.cons (.int _) .nil))) .nil))) (dp_q r)
theorem canLay_q : ∀ {ks : List K3}, (∀ k ∈ ks, PyData.strOk k.2.1 = true) → PyData.canLayAll0 (ks.map d3) = true
  | [], _ => rfl
  | z :: zs, h => by
    simp [PyData.canLayAll0, PyData.canLay0, d3, dN, h z List.mem_cons_self, canLay_q (ks := zs) fun x hx => h x (List.mem_cons_of_mem _ hx)]
theorem shaped_q {ks : List K3} (h : ∀ k ∈ ks, PyData.strOk k.2.1 = true) : SeqAt.shaped (PyData.list (ks.map d3)) = true := by
  have c := canLay_q h
  have d := MyH.depth_all ks
  unfold SeqAt.shaped
  rw [Bool.and_eq_true]
  refine ⟨by simpa [PyData.canLay0] using c, decide_eq_true ?_⟩
  simp only [PyData.depth]
  omega
section
variable {Pg : Program} {w : World} {K : PySem.W.Frag} {mg : Str → Option Value} {base : Heap} {C P : Addr}
theorem scPlaceOf : FnScope ["chart", "start", "state"] ["chart", "start", "state"] (defScope sPlaceOf) := ⟨rfl, rfl, rfl, by decide +kernel, rfl, by decide +kernel, by decide +kernel⟩
theorem ok_placeOf {f M U fR : Addr} {fd fdR : FuncData} {t1 t2 t3 : Tok} (F : Fun K "place_of" "place_of" sPlaceOf f fd) (TM : TxtM K M) (hno : mg "NO_ROAD" = some (.str Str.empty t1)) (hro : mg "ROAD" = some (.int 0 t2)) (hen : mg "END" = some (.int 2 t3)) (mR : Meth K M "road" fR)
    (GR : FnOk Pg w K mg base (L2.CX Pg w) 4 fR fdR ["self", "name"] (spRoadM K M U)) (bR : Binds K fdR ["self", "name"] []) :
    FnOk Pg w K mg base CX0 5 f fd ["chart", "start", "state"] (spPlaceOf K M P) := by
  refine F.ok scPlaceOf (fun vs H Q E h => ?_) (fun cdv A outer s H vs Q E hr h => ?_)
  · obtain ⟨x, q, start, n, d, ks, ps, rs, bs, rfl, _⟩ := h
    rfl
  · obtain ⟨x, q, start, n, d, ks, ps, rs, bs, rfl, hM, hne, hn, hq, k⟩ := h
    refine ⟨_, pss_cons (ps_if (pt_cmpR op_eq (pe_ix ix_tup (pv 2) (pe_gI hro) (fun _ _ => rfl)) (pe_gS hno) (nomark _)) (pss_one (ps_ret (pv 1))) pss_nil)
      (pss_one (ps_ret (pe_ix ix_tup (pe_meth (E := E0) (pv 0) TM.cl mR GR hr bR .nil (passF rfl rfl) (pa_cons (pe_ix ix_tup (pv 2) (pe_gI hro) (fun _ _ => rfl)) pa_nil)) (pe_gI hen) (fun _ _ => rfl)))), ?_⟩
    have hM2 := hM
    obtain ⟨dx, fs, kk, pp, rr, D, bb, D2, ys, zs, hx, F7⟩ := hM.m
    refine ⟨_, rfl, q, _, 0, .str (nmN n), rfl, rfl, SqT.of hq, rfl, rfl, _, rfl, ?_⟩
    cases n with
    | none => exact if_t (by simp [nmN]) ⟨_, rfl, k⟩
    | some r =>
      have hr1 := hn r rfl
      refine if_f (by simp [nmN, hne r hr1]) ?_
      refine ⟨_, rfl, x, dx, fs, rfl, hx, F7.f0 _ (by decide +kernel), _, rfl, q, _, 0, .str r.name, rfl, rfl, SqT.of hq, rfl, x, r.name, d, ks, ps, rs, bs, rfl, hM.nl _ hr1, hM.m, fun r' h1' he1 v hv => ?_, fun no => absurd rfl (no r hr1)⟩
      obtain rfl : r' = r := uniq_name hM.nd h1' hr1 he1
      obtain ⟨pr, qr, hv', rfl, epr, _, _⟩ := hv
      exact ⟨pr, _, 2, .str r'.goal, rfl, rfl, SqT.of epr, rfl, k⟩
abbrev nEarlOf : List Str := ["came", "states", "arrivals", "state"]
theorem scEarlOf : FnScope nEarlOf ["came", "states"] (defScope sEarlOf) := ⟨rfl, rfl, rfl, by decide +kernel, rfl, by decide +kernel, by decide +kernel⟩
theorem ok_earlOf {f : Addr} {fd : FuncData} {t1 : Tok} (F : Fun K "earliest_of" "earliest_of" sEarlOf f fd) (hm : mg "min" = none) (har : mg "ARRIVAL" = some (.int 0 t1)) : FnOk Pg w K mg base CX0 1 f fd ["came", "states"] (spEarlOf K P) := by
  refine F.ok scEarlOf (fun vs H Q E h => ?_) (fun cdv A outer s H vs Q E hr h => ?_)
  · obtain ⟨D, L, es, fs, kvs, xs, rfl, _⟩ := h
    rfl
  · obtain ⟨D, L, es, fs, kvs, xs, rfl, hD, hE, inj, hL, hfs, sub, l1000, hok, hP, kN, kS⟩ := h
    refine ⟨_, pss_cons (ps_setLc (i := 2) (own := [("state", 3)]) (g := gName 3) rfl scEarlOf.nd rfl rfl (sw_true rfl rfl rfl (by decide +kernel)) (pi_list (pv 1)) (blkOk_by (N := nEarlOf) (sc := defScope sEarlOf) (by decide +kernel)) (fun _ _ _ _ _ => pg_name (i := 3) scEarlOf.nd rfl (Or.inl rfl)) (fun _ _ _ _ _ => pts_nil)
        (fun _ _ _ _ _ => pe_tup (pa_cons (pe_ix (r := rIxT K) ix_tup (pe_dget (u1 hr.units) (pv 0) (pv 3) (fun _ _ => rfl)) (pe_gI har) (fun _ _ => rfl)) (pa_cons (pv 3) pa_nil))))
      (pss_cons (ps_if (pt_cmpR (op_eqD hr.units) (pv 2) (pe_lst pa_nil) (nomark _)) (pss_one (ps_ret pe_non)) pss_nil)
      (pss_one (ps_ret (pe_ix ix_tup (pe_callB (cr_minQ hr.hd hr.units) (by rfl) hm (by decide +kernel) (pa_cons (pv 2) pa_nil)) pe_int (fun _ _ => rfl))))), ?_⟩
    have lf := Paired.len hfs
    refine ⟨_, rfl, L, rfl, ⟨_, SqL.of hL⟩, fun R nR => lc_list (K := K) (a := L) (xs := xs) (fun i H' => ∃ acc, Grew P H H' ∧ H' R = some (.lst acc) ∧ Paired (QAt H') ((fs.take i).map kOf) acc)
      ⟨[], Grew.new hP nR, upd_same, .nil⟩ (fun i H' _ ⟨_, g, _⟩ => SqL.of (g.lst hP hL)) (fun i y H' hy p => ?_) (fun H1 p1 => ?_)⟩
    · obtain ⟨acc, g, hR, hacc⟩ := p
      obtain ⟨e, he, q, rfl, hq⟩ := Paired.at hfs hy
      have hem := List.mem_of_getElem? he
      have hil := (List.getElem?_eq_some_iff.mp he).1
      have lacc : acc.length ≤ i := by rw [← Paired.len hacc, List.length_map, List.length_take]; exact Nat.min_le_left _ _
      obtain ⟨v2, hv2, m⟩ := came_at hE inj (sub e hem)
      obtain ⟨_, p1, x1, ev, hp1, _⟩ := m
      have ev' : v2 = .ref p1 := ev
      subst ev'
      have hD' := g.get hP hD (fun _ z => by cases z)
      have hq' := g.tup hP hq
      have hp1' := g.tup hP hp1
      refine ⟨rfl, _, rfl, _, rfl, D, _, rfl, .inr ⟨kvs, keyN e.n, q, .inl hD', rfl, hq', hv2.symm⟩, p1, _, 0, .int e.t, rfl, rfl, SqT.of hp1', rfl, _, rfl, by show 2 ≤ sizeLine; decide, fun rw nrw => ?_⟩
      have hRq := (Grew.new g.tab (o := .tup [.int e.t, .ref q]) nrw).lst g.tab hR
      have tk3 : TK H' (L2.upd H' rw (.tup [.int e.t, .ref q])) := TK.new nrw
      have tk4 : TK (L2.upd H' rw (.tup [.int e.t, .ref q])) (L2.upd (L2.upd H' rw (.tup [.int e.t, .ref q])) R (.lst (acc ++ [.ref rw]))) := TK.upd hRq (fun _ z => by cases z)
      refine ⟨acc, hRq, by rw [sizeLine_eq]; omega, acc ++ [.ref rw], (g.put nrw).write hRq (fun _ z => by cases z) nR, upd_same, ?_⟩
      rw [show (fs.take (i + 1)).map kOf = (fs.take i).map kOf ++ [kOf e] by rw [List.take_succ, he, List.map_append]; rfl]
      exact Paired.snoc (Paired.map' hacc fun _ _ m => QAt.keep (tk3.trans tk4) m) ⟨rw, q, rfl, tk4 _ _ upd_same, (tk3.trans tk4) _ _ hq'⟩
    obtain ⟨acc, g1, hR, hacc⟩ := p1
    rw [← lf, List.take_length] at hacc
    refine ⟨_, rfl, Nat.zero_le _, fun Z nZ => ?_⟩
    have gz := Grew.new g1.tab (o := .lst []) nZ
    have hRz := gz.lst g1.tab hR
    have haccz : Paired (QAt (L2.upd H1 Z (.lst []))) (fs.map kOf) acc := Paired.map' hacc fun _ _ m => QAt.keep (TK.new nZ) m
    have okk : ∀ k ∈ fs.map kOf, PyData.strOk k.2.1 = true := fun k hk => by
      obtain ⟨e, he, rfl⟩ := List.mem_map.mp hk
      exact hok e he
    refine ⟨.list ((fs.map kOf).map d3), .list ([].map d3), .lst (SqL.of hRz) (dp_q haccz), .lst (SqL.of upd_same) .nil, shaped_q okk, shaped_q (fun k hk => absurd hk (by simp)), _, rfl, ?_⟩
    by_cases c : fs = []
    · subst c
      exact if_t (by simp [PyData.eqv, PyData.eqvAll]) (kN rfl _ (g1.trans gz))
    · refine if_f ?_ ?_
      · cases fs with
        | nil => exact absurd rfl c
        | cons a l => simp [PyData.eqv, PyData.eqvAll]
      · refine ⟨_, rfl, R, acc, fs.map kOf, rfl, hRz, haccz, fun z => c (List.map_eq_nil_iff.mp z), fun y k0 hy hk hmin => ?_⟩
        obtain ⟨e, he, rfl⟩ := List.mem_map.mp hk
        obtain ⟨p, q, rfl, h1, h2⟩ := hy
        refine ⟨p, _, 1, .ref q, rfl, rfl, SqT.of h1, rfl, ?_⟩
        exact kS _ e (.ref q) (g1.trans gz) he (fun f hf => MyH.lt3_first (hmin (kOf f) (List.mem_map.mpr ⟨f, hf, rfl⟩))) ⟨q, rfl, h2⟩
end
end W

set_option Elab.async false
set_option linter.all false
set_option maxRecDepth 100000
set_option maxHeartbeats 1000000
namespace W
open PySem PySem.Spec PyProof.Rows L2 GxR MyG MyS
/-! ### route_to -/
/-- the roads along which a node is come to -/
inductive PathTo (es : List Ent) : Node → List RoadD → Prop
  | root : PathTo es none []
  | step (e p : Ent) (r : RoadD) (l : List RoadD) (he : e ∈ es) (hn : e.n = some r) (hp : p ∈ es) (hv : e.pv = some p.n) (h : PathTo es p.n l) : PathTo es (some r) (l ++ [r])
theorem filter_lt {α : Type} {P Q : α → Bool} (h : ∀ x, P x = true → Q x = true) : ∀ {l : List α} {x : α}, x ∈ l → Q x = true → P x = false → (l.filter P).length < (l.filter Q).length
  | a :: l, x, hx, hq, hp => by
    have le : ∀ l : List α, (l.filter P).length ≤ (l.filter Q).length := fun l => by
      induction l with
      | nil => exact Nat.le_refl _
      | cons b l ih =>
        rw [List.filter_cons, List.filter_cons]
        by_cases c : P b = true
        · rw [if_pos c, if_pos (h b c), List.length_cons, List.length_cons]; omega
        · rw [if_neg c]
          split
          · rw [List.length_cons]; omega
          · exact ih
    rw [List.filter_cons, List.filter_cons]
    rcases List.mem_cons.mp hx with e | hx
    · subst e
      rw [if_pos hq, if_neg (by rw [hp]; exact Bool.false_ne_true), List.length_cons]
      have := le l
      omega
    · have ih := filter_lt h hx hq hp
      by_cases c : P a = true
      · rw [if_pos c, if_pos (h a c), List.length_cons, List.length_cons]; omega
      · rw [if_neg c]
        split
        · rw [List.length_cons]; omega
        · exact ih
def spRouteTo (K : PySem.W.Frag) (P : Addr) : Sp := fun vs H Q _ => ∃ (D : Addr) (v : V) (d : Int) (kind start : Str) (moment : Int) (rs : List RoadD) (bs : List (Str × Str)) (es : List Ent) (e : Ent) (kvs : List (List Key × V)), vs = [.ref D, v] ∧ H D = some (.dT kvs) ∧ Paired (EntAt H) es kvs ∧ (∀ a ∈ es, ∀ b ∈ es, nmN a.n = nmN b.n → a = b) ∧ SG d rs ∧ Sol d kind bs rs start moment es ∧
  (∀ r ∈ rs, r.name ≠ Str.empty) ∧ es.length ≤ 1000 ∧ e ∈ es ∧ StAt H e v ∧ TabG H P ∧ ∀ H' R l, Grew P H H' → H R = none → H' R = some (.lst (namesV l)) → PathTo es e.n l → Q (.ref R) H'
section
variable {Pg : Program} {w : World} {K : PySem.W.Frag} {mg : Str → Option Value} {base : Heap} {C P : Addr}
theorem scRouteTo : FnScope ["came", "state", "route"] ["came", "state"] (defScope sRouteTo) := ⟨rfl, rfl, rfl, by decide +kernel, rfl, by decide +kernel, by decide +kernel⟩
theorem ok_routeTo {f : Addr} {fd : FuncData} {t1 t2 t3 : Tok} (F : Fun K "route_to" "route_to" sRouteTo f fd) (hno : mg "NO_ROAD" = some (.str Str.empty t1)) (hro : mg "ROAD" = some (.int 0 t2)) (hbe : mg "BEFORE" = some (.int 1 t3)) : FnOk Pg w K mg base CX0 1 f fd ["came", "state"] (spRouteTo K P) := by
  refine F.ok scRouteTo (fun vs H Q E h => ?_) (fun cdv A outer s H vs Q E hr h => ?_)
  · obtain ⟨D, v, d, kind, start, moment, rs, bs, es, e, kvs, rfl, _⟩ := h
    rfl
  · obtain ⟨D, v, d, kind, start, moment, rs, bs, es, e, kvs, rfl, hD, hE, inj, G, S, hne, l1000, hem, hst, hP, k⟩ := h
    refine ⟨_, pss_cons (ps_set (i := 2) scRouteTo.nd rfl (Or.inl rfl) (pe_lst pa_nil))
      (pss_cons (ps_while PassesOwn.never (pt_cmpR op_ne (pe_ix ix_tup (pv 1) (pe_gI hro) (fun _ _ => rfl)) (pe_gS hno) (nomark _))
        (pss_cons (ps_expr (pe_bm PySem.F.plainAttrs_list PySem.F.slot_list_append PySem.F.type_list_append mt_append (pv 2) (pa_cons (pe_ix ix_tup (pv 1) (pe_gI hro) (fun _ _ => rfl)) pa_nil)))
        (pss_one (ps_set (i := 1) scRouteTo.nd rfl (Or.inl rfl) (pe_ix ix_tup (pe_dget (u1 hr.units) (pv 0) (pv 1) (fun _ _ => rfl)) (pe_gI hbe) (fun _ _ => rfl))))))
      (pss_one (ps_ret (pe_revL (pv 2))))), ?_⟩
    refine ⟨Nat.zero_le _, fun R nR => ?_⟩
    have g0 := Grew.new hP (o := .lst []) nR
    refine ⟨fun n σ H' => ∃ (c : Ent) (v1 : V) (acc : List RoadD), σ = [some (.ref D), some v1, some (.ref R)] ∧ Grew P H H' ∧ c ∈ es ∧ StAt H c v1 ∧ H' R = some (.lst (namesV acc)) ∧ acc.length + n ≤ 1000 ∧ (∀ l, PathTo es c.n l → PathTo es e.n (l ++ acc.reverse)) ∧ n = (es.filter fun x => decide (x.t < c.t)).length, ?_, ?_⟩
    · exact ⟨_, e, v, [], rfl, g0, hem, hst, upd_same, by have := List.length_filter_le (fun x : Ent => decide (x.t < e.t)) es; show 0 + _ ≤ _; omega, fun l h => by rw [List.reverse_nil, List.append_nil]; exact h, rfl⟩
    rintro n σ H2 ⟨c, v1, acc, rfl, g2, hc, ⟨q, rfl, hq⟩, hR, hl, hpath, hn⟩
    have hq2 := g2.tup hP hq
    have hD2 := g2.get hP hD (fun _ z => by cases z)
    refine ⟨_, rfl, q, _, 0, .str (nmN c.n), rfl, rfl, SqT.of hq2, rfl, rfl, _, rfl, ?_⟩
    cases cn : c.n with
    | none =>
      refine if_f (by simp [nmN]) ?_
      refine ⟨_, rfl, R, _, rfl, SqL.of hR, fun R2 nR2 => ?_⟩
      rw [cn] at hpath
      refine k _ R2 acc.reverse (g2.put nR2) (g2.free nR2) ?_ (by have := hpath [] .root; rw [List.nil_append] at this; exact this)
      rw [upd_same]
      unfold namesV
      rw [List.map_reverse, List.map_reverse]
    | some r =>
      have hr1 := S.mem c hc r cn
      refine if_t (by simp [nmN, hne r hr1]) ⟨_, fun _ _ h => h, ?_⟩
      obtain ⟨p, hp, epv, hnx, ear⟩ := S.lnk c hc r cn
      obtain ⟨v2, hv2, m⟩ := came_at hE inj hc
      obtain ⟨_, p1, x1, ev, hp1, hpv⟩ := m
      have ev' : v2 = .ref p1 := ev
      subst ev'
      rw [epv] at hpv
      obtain ⟨q', ex1, hq'⟩ := hpv
      subst ex1
      have hv : r.hours ≠ some [] := by
        cases pn : p.n with
        | none =>
          rw [pn] at hnx
          have h3 := (List.mem_filter.mp hnx).2
          unfold mayB at h3
          simp only [Bool.and_eq_true] at h3
          exact ever_hours (by first | exact h3.2.1 | exact h3.2 | exact h3.1.2)
        | some r' =>
          rw [pn] at hnx
          have h3 := (List.mem_filter.mp hnx).2
          unfold mayB at h3
          simp only [Bool.and_eq_true] at h3
          exact ever_hours (by first | exact h3.2.1 | exact h3.2 | exact h3.1.2)
      obtain ⟨_, en, _, ea, hle⟩ := ar_some G.d1 (G.ho r hr1) hv p.t
      have mi := G.mi r hr1
      have lt : p.t < c.t := by omega
      refine ⟨_, rfl, .inl ⟨rfl, _, SqL.of hR⟩, _, rfl, q, _, 0, .str (nmN c.n), rfl, rfl, SqT.of hq2, rfl, R, _, _, rfl, rfl, hR, by unfold namesV; rw [List.length_map, List.length_map, sizeLine_eq]; omega, ?_⟩
      have g3 := g2.write (o := .lst (namesV acc ++ [.str (nmN c.n)])) hR (fun _ z => by cases z) nR
      have tk : TK H2 (L2.upd H2 R (.lst (namesV acc ++ [.str (nmN c.n)]))) := TK.upd hR (fun _ z => by cases z)
      have hD3 : L2.upd H2 R (.lst (namesV acc ++ [.str (nmN c.n)])) D = some (.dT kvs) := g3.get hP hD (fun _ z => by cases z)
      refine ⟨_, rfl, _, rfl, D, _, rfl, .inr ⟨kvs, keyN c.n, q, .inl hD3, rfl, g3.tup hP hq, hv2.symm⟩, p1, _, 1, .ref q', rfl, rfl, SqT.of (g3.tup hP hp1), rfl, ?_⟩
      have lf : (es.filter fun x => decide (x.t < p.t)).length < (es.filter fun x => decide (x.t < c.t)).length := filter_lt (fun x h => by have := of_decide_eq_true h; exact decide_eq_true (by omega)) hp (decide_eq_true lt) (decide_eq_false (by omega))
      refine ⟨_, by rw [hn]; exact lf, p, .ref q', acc ++ [r], rfl, g3, hp, ⟨q', rfl, hq'⟩, ?_, by rw [List.length_append]; show _ + 1 + _ ≤ _; omega, fun l h => ?_, rfl⟩
      · rw [upd_same, cn]
        rw [namesV_app]
        rfl
      · rw [List.reverse_append, show ([r].reverse : List RoadD) = [r] from rfl, ← List.append_assoc]
        rw [cn] at hpath
        exact hpath _ (.step c p r l hc cn hp epv h)
end
end W

set_option Elab.async false
set_option linter.all false
set_option maxRecDepth 100000
set_option maxHeartbeats 1000000
namespace W
open PySem PySem.Spec PyProof.Rows L2 GxR MyG MyS
/-! ### Route.__init__ -/
structure TxtR (K : PySem.W.Frag) (Rt : Addr) : Prop where
  cl : Cls K Rt
  n1 : NoAttr K Rt "roads"
  n2 : NoAttr K Rt "arrival"
def RouteAt (H : Hp) (Rt y : Addr) (xs : List V) (t : Int) : Prop := ∃ dx fs q, H y = some (.ins Rt dx fs) ∧ fs.lookup ("roads" : Str) = some (V.ref q) ∧ fs.lookup ("arrival" : Str) = some (V.int t) ∧ (∀ f : Str, f ≠ "roads" → f ≠ "arrival" → fs.lookup f = none) ∧ H q = some (.tup xs)
def spRoInit (K : PySem.W.Frag) (Rt P : Addr) : Sp := fun vs H Q _ => ∃ (x dx L : Addr) (t : Int) (xs : List V) (H0 : Hp), vs = [.ref x, .ref L, .int t] ∧ Grew P H0 H ∧ TabG H0 P ∧ H0 x = none ∧ H x = some (.ins Rt dx []) ∧ SqL K H0 L xs ∧
  ∀ H', Grew P H0 H' → RouteAt H' Rt x xs t → Q .non H'
section
variable {Pg : Program} {w : World} {K : PySem.W.Frag} {mg : Str → Option Value} {base : Heap} {C P : Addr}
theorem scRoInit : FnScope ["self", "roads", "arrival"] ["self", "roads", "arrival"] (defScope sRInit) := ⟨rfl, rfl, rfl, by decide +kernel, rfl, by decide +kernel, by decide +kernel⟩
theorem ok_roInit {f Rt : Addr} {fd : FuncData} (F : Fun K "__init__" "Route.__init__" sRInit f fd) (T : TxtR K Rt) (ht : mg "tuple" = none) : FnOk Pg w K mg base CX0 1 f fd ["self", "roads", "arrival"] (spRoInit K Rt P) := by
  refine F.ok scRoInit (fun vs H Q E h => ?_) (fun cdv A outer s H vs Q E hr h => ?_)
  · obtain ⟨x, dx, L, t, xs, H0, rfl, _⟩ := h
    rfl
  · obtain ⟨x, dx, L, t, xs, H0, rfl, g0, hP0, nx, hx, hL, k⟩ := h
    refine ⟨_, pss_cons (ps_fld (pv 0) (pe_callTy call_tuple_of (by rfl) ht (by decide +kernel) (pa_cons (pv 1) pa_nil)) rfl)
      (pss_one (ps_fld (pv 0) (pv 2) rfl)), ?_⟩
    have nins : ∀ (fs : List (Str × V)) (q : Array Value), (HO.ins Rt dx fs) ≠ .tbl q := fun _ _ z => by cases z
    refine ⟨_, rfl, L, _, rfl, .inl ⟨g0.sqL hP0 hL, fun q nq => ?_⟩⟩
    have g1 := g0.put (o := .tup xs) nq
    have gs := Grew.new g0.tab (o := .tup xs) nq
    have hx1 := gs.get g0.tab hx (nins _)
    refine ⟨_, rfl, x, Rt, dx, [], rfl, hx1, T.cl, T.n1, by decide, ?_⟩
    have nqx : q ≠ x := fun e => by rw [e, hx] at nq; cases nq
    have ga := g1.write (o := .ins Rt dx (putF "roads" (.ref q) [])) hx1 (nins _) nx
    refine ⟨_, rfl, _, rfl, x, Rt, dx, _, rfl, upd_same, T.cl, T.n2, by have := length_putF ("roads" : Str) (V.ref q) []; rw [List.length_nil] at this; omega, ?_⟩
    have gb := ga.write (o := .ins Rt dx (putF "arrival" (.int t) (putF "roads" (.ref q) []))) upd_same (nins _) nx
    refine k _ gb ⟨dx, _, q, upd_same, ?_, ?_, ?_, ?_⟩
    · rw [lookup_putF, if_neg (by decide +kernel), lookup_putF, if_pos rfl]
    · rw [lookup_putF, if_pos rfl]
    · intro g h1 h2
      rw [lookup_putF, if_neg h2, lookup_putF, if_neg h1]
      rfl
    · rw [upd_ne nqx, upd_ne nqx]; exact upd_same
/-! ### earliest -/
abbrev nEarliest : List Str := ["chart", "kind", "start", "goal", "moment", "came", "last", "state"]
theorem scEarliest : FnScope nEarliest ["chart", "kind", "start", "goal", "moment"] (defScope sEarliest) := ⟨rfl, rfl, rfl, by decide +kernel, rfl, by decide +kernel, by decide +kernel⟩
def FoundAt (H : Hp) (Rt : Addr) (start goal : Str) (es : List Ent) (v : V) : Prop := ((∀ e ∈ es, plN start e.n ≠ goal) ∧ v = .non) ∨ ∃ e ∈ es, plN start e.n = goal ∧ (∀ f ∈ es, plN start f.n = goal → e.t ≤ f.t) ∧ ∃ y l, v = .ref y ∧ PathTo es e.n l ∧ RouteAt H Rt y (namesV l) e.t
def spEarliest (K : PySem.W.Frag) (M U Rt P : Addr) : Sp := fun vs H Q E => ∃ (x : Addr) (kind start goal : Str) (moment d : Int) (ks ps : List Str) (rs : List RoadD) (bs : List (Str × Str)), vs = [.ref x, .str kind, .str start, .str goal, .int moment] ∧ Ask K H M P x d ks ps rs bs kind start moment ∧ goal.length ≤ 1000 ∧ (∀ r ∈ rs, PyData.strOk r.name = true) ∧
  Names4 U ks ps rs kind [start, goal] [] (fun z => ∀ H', Grew P H H' → Unk U H' E z) (∀ H' es v, Grew P H H' → Sol d kind bs rs start moment es → FoundAt H' Rt start goal es v → Q v H')
theorem ok_earliest {f M U Rt fN fS fP fO fT fI : Addr} {fd fdN fdS fdP fdO fdT fdI : FuncData} {t1 t2 : Tok} (F : Fun K "earliest" "earliest" sEarliest f fd) (har : mg "ARRIVAL" = some (.int 0 t1))
    (GN : FnOk Pg w K mg base (L2.CX Pg w) 4 fN fdN ["chart", "kind", "places", "roads"] (spChkN K M U P)) (gN : mg "check_names" = some (.ref fN)) (kN : PySem.W.keepIn K (.ref fN) = true) (bN : Binds K fdN ["chart", "kind", "places", "roads"] [])
    (GS : FnOk Pg w K mg base (L2.CX Pg w) 9 fS fdS ["chart", "kind", "start", "moment", "marks"] (spSearch K M P)) (gS : mg "search" = some (.ref fS)) (kS : PySem.W.keepIn K (.ref fS) = true) (bS : Binds K fdS ["chart", "kind", "start", "moment", "marks"] [])
    (GP : FnOk Pg w K mg base CX0 5 fP fdP ["chart", "start", "state"] (spPlaceOf K M P)) (gP : mg "place_of" = some (.ref fP)) (kP : PySem.W.keepIn K (.ref fP) = true) (bP : Binds K fdP ["chart", "start", "state"] [])
    (GO : FnOk Pg w K mg base CX0 1 fO fdO ["came", "states"] (spEarlOf K P)) (gO : mg "earliest_of" = some (.ref fO)) (kO : PySem.W.keepIn K (.ref fO) = true) (bO : Binds K fdO ["came", "states"] [])
    (GT : FnOk Pg w K mg base CX0 1 fT fdT ["came", "state"] (spRouteTo K P)) (gT : mg "route_to" = some (.ref fT)) (kT : PySem.W.keepIn K (.ref fT) = true) (bT : Binds K fdT ["came", "state"] [])
    (Mk : L2.Mk K Rt fI) (gR : mg "Route" = some (.ref Rt)) (GI : FnOk Pg w K mg base CX0 1 fI fdI ["self", "roads", "arrival"] (spRoInit K Rt P)) (bI : Binds K fdI ["self", "roads", "arrival"] []) :
    FnOk Pg w K mg base (L2.CX Pg w) 10 f fd ["chart", "kind", "start", "goal", "moment"] (spEarliest K M U Rt P) := by
  refine F.okX scEarliest (fun vs H Q E h => ?_) (fun cdv A outer s H vs Q E hr h => ?_)
  · obtain ⟨x, kind, start, goal, moment, d, ks, ps, rs, bs, rfl, _⟩ := h
    rfl
  · obtain ⟨x, kind, start, goal, moment, d, ks, ps, rs, bs, rfl, ⟨hM, hin, hmi, hpl, hkl, hsl, hmo⟩, hgl, hso, h4⟩ := h
    refine ⟨_, pss_cons (ps_expr (pe_call (E := E) GN (hr.mono (by decide)) (by rfl) gN kN bN .nil (passes_call (takes_of rfl rfl rfl rfl) (fun _ _ _ _ h => h)) (pa_cons (pv 0) (pa_cons (pv 1) (pa_cons (pe_lst (pa_cons (pv 2) (pa_cons (pv 3) pa_nil))) (pa_cons (pe_lst pa_nil) pa_nil))))))
      (pss_cons (ps_set (i := 5) scEarliest.nd rfl (Or.inl rfl) (pe_call (E := E0) GS hr (by rfl) gS kS bS .nil (passF rfl rfl) (pa_cons (pv 0) (pa_cons (pv 1) (pa_cons (pv 2) (pa_cons (pv 4) (pa_cons pe_dnewK pa_nil)))))))
      (pss_cons (ps_set (i := 6) scEarliest.nd rfl (Or.inl rfl) (pe_call GO (hr.mono (by decide)) (by rfl) gO kO bO .nil pass0 (pa_cons (pv 5) (pa_cons (pe_lock (pe_lc (own := [("state", 7)]) (g := gName 7) rfl scEarliest.nd (pi_keys (pv 5)) (blkOk_by (N := nEarliest) (sc := defScope sEarliest) (by decide +kernel)) (fun _ _ _ _ _ => pg_name (i := 7) scEarliest.nd rfl (Or.inl rfl))
          (fun _ _ _ _ _ => pts_one (pt_cmpR op_eq (pe_call GP (hr.mono (by decide)) (by rfl) gP kP bP .nil pass0 (pa_cons (pv 0) (pa_cons (pv 2) (pa_cons (pv 7) pa_nil)))) (pv 3) (nomark _))) (fun _ _ _ _ _ => pv 7))) pa_nil))))
      (pss_cons (ps_if (pt_cmp (pc_isN (pv 6))) (pss_one (ps_ret pe_non)) pss_nil)
      (pss_one (ps_ret (pe_make Mk GI (hr.mono (by decide)) (by rfl) gR bI .nil pass0 (pa_cons (pe_call GT (hr.mono (by decide)) (by rfl) gT kT bT .nil pass0 (pa_cons (pv 5) (pa_cons (pv 6) pa_nil))) (pa_cons (pe_ix ix_tup (pe_dget (u1 hr.units) (pv 5) (pv 6) (fun _ _ => rfl)) (pe_gI har) (fun _ _ => rfl)) pa_nil)))))))), ?_⟩
    have hP := hM.t
    refine ⟨_, rfl, _, rfl, _, rfl, _, rfl, by show 2 ≤ sizeLine; decide, fun La nLa => ⟨Nat.zero_le _, fun Lb nLb => ?_⟩⟩
    have ga := Grew.new hP (o := .lst [.str start, .str goal]) nLa
    have gb := ga.put (o := .lst []) nLb
    have e1 := (Grew.new ga.tab (o := .lst []) nLb).lst ga.tab (b := La) (xs := [.str start, .str goal]) upd_same
    refine ⟨x, La, Lb, kind, [start, goal], [], d, ks, ps, rs, bs, rfl, hM.grew gb, hkl, SqL.of e1, SqL.of upd_same, fun z hz => ?_, fun z hz => absurd hz (by simp), ?_⟩
    · rcases List.mem_cons.mp hz with rfl | hz
      · exact hsl
      · rw [List.mem_singleton.mp hz]; exact hgl
    refine h4.imp (fun z b => b _ gb) fun hkin hpin _ kQ => ?_
    generalize hHb : L2.upd (L2.upd H La (.lst [.str start, .str goal])) Lb (.lst []) = Hb at gb
    refine ⟨_, rfl, _, rfl, _, rfl, _, rfl, fun mk nmk => ?_⟩
    have gm := gb.put (o := .dK []) nmk
    refine ⟨x, mk, kind, start, moment, d, ks, ps, rs, bs, rfl, upd_same, hmo, hM.grew gm, hin, hmi, hkl, hkin, hpin start List.mem_cons_self, hpl, fun H1 D es g1 nD hC S => ?_⟩
    generalize hHm : L2.upd Hb mk (.dK []) = Hm at gm g1 nD
    obtain ⟨kvs, hD, hE⟩ := hC
    have inj : ∀ a ∈ es, ∀ b ∈ es, nmN a.n = nmN b.n → a = b := fun a ha b hb e => ent_ext S.nd ha hb (nm_inj hM.nd hin.ne (S.mem a ha) (S.mem b hb) e)
    have kvl : es.length = kvs.length := Paired.len hE
    have cnt := S.count
    have l60 := hin.l60
    -- the states at the goal
    refine ⟨_, rfl, D, .dT kvs, hD, True.intro, fun od => ?_⟩
    have gfz := g1.write (o := .frz od (.dT kvs)) hD (fun _ z => by cases z) nD
    have tkz : TK H1 (L2.upd H1 D (.frz od (.dT kvs))) := TK.upd hD (fun _ z => by cases z)
    have hDz : L2.upd H1 D (.frz od (.dT kvs)) D = some (.frz od (.dT kvs)) := upd_same
    generalize hHz : L2.upd H1 D (.frz od (.dT kvs)) = Hz at gfz tkz hDz
    have hEz : Paired (EntAt Hz) es kvs := Paired.map' hE fun _ _ m => m.keep tkz
    refine ⟨_, rfl, D, od, rfl, .inr ⟨kvs, hDz, fun R nR => lc_keysT (kvs := kvs) (fun i H' => ∃ acc, Grew P Hm H' ∧ H' D = some (.frz od (.dT kvs)) ∧ H' R = some (.lst acc) ∧ Paired (StAt H') ((es.take i).filter fun e => decide (plN start e.n = goal)) acc ∧ TK Hz H')
      ⟨[], gfz.put nR, by rw [upd_ne (ne_of_none hDz nR)]; exact hDz, upd_same, .nil, TK.new nR⟩ (fun i H' _ ⟨_, _, h, _⟩ => h) (fun i k v q H' hi hq p => ?_) (fun H' p => ?_)⟩⟩
    · obtain ⟨acc, g, hfz, hR, hrows, tk⟩ := p
      obtain ⟨e, he, rfl⟩ := names_of_keys hEz hi
      have hil := (List.getElem?_eq_some_iff.mp he).1
      have hes := List.mem_of_getElem? he
      have nR0 : Hm R = none := gfz.free nR
      have hq' : H' q = some (.tup [.str (nmN e.n), .int 0]) := hq
      have lacc : acc.length ≤ i := by
        rw [← Paired.len hrows]
        exact Nat.le_trans (List.length_filter_le _ _) (by rw [List.length_take]; exact Nat.min_le_left _ _)
      have etk : es.take (i + 1) = es.take i ++ [e] := by rw [List.take_succ, he]; rfl
      refine ⟨rfl, _, rfl, _, rfl, _, rfl, x, q, start, e.n, d, ks, ps, rs, bs, rfl, hM.grew (gm.trans g), hin.ne, S.mem e hes, hq', _, rfl, rfl, _, rfl, ?_⟩
      by_cases c : plN start e.n = goal
      · refine if_t (decide_eq_true (by rw [c])) ⟨_, rfl, acc, hR, by rw [sizeLine_eq]; omega, acc ++ [.ref q], g.write hR (fun _ z => by cases z) nR0, by rw [upd_ne (fun z => by rw [z, hR] at hfz; cases hfz)]; exact hfz, upd_same, ?_, tk.trans (TK.upd hR (fun _ z => by cases z))⟩
        have tk4 : TK H' (L2.upd H' R (.lst (acc ++ [.ref q]))) := TK.upd hR (fun _ z => by cases z)
        rw [etk, List.filter_append, List.filter_cons, if_pos (decide_eq_true c)]
        exact Paired.snoc (Paired.map' hrows fun _ _ m => m.keep tk4) ⟨q, rfl, tk4 _ _ hq'⟩
      · refine if_f (decide_eq_false (fun z => c (by injection z))) ⟨acc, g, hfz, hR, ?_, tk⟩
        rw [etk, List.filter_append, List.filter_cons, if_neg (fun z => c (of_decide_eq_true z)), List.filter_nil, List.append_nil]
        exact hrows
    obtain ⟨acc, g, hfz, hR, hrows, tk⟩ := p
    rw [← kvl, List.take_length] at hrows
    have tku : TK H' (L2.upd H' D (.dT kvs)) := TK.upd hfz (fun _ z => by cases z)
    have gu := g.write (o := .dT kvs) hfz (fun _ z => by cases z) nD
    have hRu : L2.upd H' D (.dT kvs) R = some (.lst acc) := by rw [upd_ne (fun z => by rw [z, hfz] at hR; cases hR)]; exact hR
    have hDu : L2.upd H' D (.dT kvs) D = some (.dT kvs) := upd_same
    generalize hHu : L2.upd H' D (.dT kvs) = Hu at tku gu hRu hDu ⊢
    have rows := Paired.map' hrows fun _ _ m => m.keep tku
    have hEu : Paired (EntAt Hu) es kvs := Paired.map' hEz fun _ _ m => m.keep (tk.trans tku)
    have gHu := gm.trans gu
    have sokN : ∀ f ∈ es, PyData.strOk (nmN f.n) = true := fun f hf => by
      cases c : f.n with
      | none => decide +kernel
      | some r => exact hso r (S.mem f hf r c)
    refine ⟨hfz, D, R, es, _, kvs, acc, rfl, hDu, hEu, inj, hRu, rows, fun f hf => (List.mem_filter.mp hf).1, by have := List.length_filter_le (fun e : Ent => decide (plN start e.n = goal)) es; omega, fun f hf => sokN f (List.mem_filter.mp hf).1, gu.tab, fun hno H2 g2 => ?_, fun H2 e v g2 he hmin hst => ?_⟩
    · refine ⟨_, rfl, _, rfl, if_t rfl ?_⟩
      exact kQ H2 es .non (gHu.trans g2) S (.inl ⟨fun e he c => (by
        have : e ∈ es.filter fun e => decide (plN start e.n = goal) := List.mem_filter.mpr ⟨he, decide_eq_true c⟩
        rw [hno] at this
        cases this), rfl⟩)
    · obtain ⟨hes, hgo⟩ := List.mem_filter.mp he
      have hgo' := of_decide_eq_true hgo
      obtain ⟨q, rfl, hq⟩ := hst
      refine ⟨_, rfl, _, rfl, if_f rfl ?_⟩
      have hD2 := g2.get gu.tab hDu (fun _ z => by cases z)
      have hE2 : Paired (EntAt H2) es kvs := Paired.map' hEu fun _ _ m => m.keep (fun _ _ e => g2.tup gu.tab e)
      refine ⟨_, rfl, _, rfl, D, .ref q, d, kind, start, moment, rs, bs, es, e, kvs, rfl, hD2, hE2, inj, sgOf hM hin hmi, S, hin.ne, by omega, hes, ⟨q, rfl, hq⟩, g2.tab, fun H3 R3 l g3 nR3 hR3 hpath => ?_⟩
      have hD3 := g3.get g2.tab hD2 (fun _ z => by cases z)
      have hq3 := g3.tup g2.tab hq
      have hE3 : Paired (EntAt H3) es kvs := Paired.map' hE2 fun _ _ m => m.keep (fun _ _ e => g3.tup g2.tab e)
      obtain ⟨v2, hv2, m⟩ := came_at hE3 inj hes
      obtain ⟨_, p1, x1, ev, hp1, _⟩ := m
      have ev' : v2 = .ref p1 := ev
      subst ev'
      refine ⟨_, rfl, _, rfl, D, _, rfl, .inr ⟨kvs, keyN e.n, q, .inl hD3, rfl, hq3, hv2.symm⟩, p1, _, 0, .int e.t, rfl, rfl, SqT.of hp1, rfl, ?_⟩
      intro y dx ny ndx nex
      have gx : Grew P H3 (L2.upd (L2.upd H3 dx (.own y)) y (.ins Rt dx [])) := (Grew.new g3.tab ndx).put (by rw [upd_ne nex.symm]; exact ny)
      refine ⟨y, dx, R3, e.t, namesV l, H3, rfl, gx, g3.tab, ny, upd_same, SqL.of hR3, fun H4 g4 hro => ⟨rfl, ?_⟩⟩
      exact kQ H4 es (.ref y) (((gHu.trans g2).trans g3).trans g4) S (.inr ⟨e, hes, hgo', fun f hf hfg => hmin f (List.mem_filter.mpr ⟨hf, decide_eq_true hfg⟩), y, l, rfl, hpath, hro⟩)
end
end W

set_option Elab.async false
set_option linter.all false
set_option maxRecDepth 100000
set_option maxHeartbeats 800000
namespace MyR
open PySem PySem.Spec PyProof.Rows L2
/-! ### repr of data, where no repr is under way -/
def rRep (K : PySem.W.Frag) : List V → Hp → VK → Prop := fun xs H Q => ∃ (a : Addr) (d : PyData), xs = [.ref a] ∧ Dp K H (.ref a) d ∧ d.showable = true ∧ d.hasDict = false ∧ d.depth ≤ 8 ∧ d.shown.length ≤ sizeLine ∧ Q (.str d.shown) H
theorem call_repD {X : Cx} (hg : X.A.guards = some []) (hu : X.A.units + 64 < cLine) : CallR X (.builtin "repr") (rRep X.K) := by
  intro pins s σ H xs us Q I r h
  obtain ⟨a, d, rfl, hd, hs, hn, hp, hz, q⟩ := h
  obtain ⟨u, rfl, r1⟩ := vals1 r
  obtain rfl : u = Value.ref a := r1
  obtain ⟨as, rd⟩ := Dp.reads I d _ _ hd rfl
  exact repr_of_reads' rd hs (fun e => by rw [hn] at e; cases e) hg (by omega) (fun _ _ e => e) (fun h' u tk k => ⟨.str _, H, I.kept k, ⟨u, rfl⟩, q⟩) hz
end MyR

set_option Elab.async false
set_option linter.all false
set_option maxRecDepth 100000
set_option maxHeartbeats 2000000
namespace MyR
open PySem PySem.Spec PyProof.Rows L2
/-! ### the law's own call: here, and only here, it is known that no repr is under way -/
/-- f called by the caller of the law keeps sp -/
def RunG (P : Program) (w : World) (K : PySem.W.Frag) (mg : Str → Option Value) (base : Heap) (CX : CXT) (f : Addr) (sp : Sp) : Prop :=
  ∀ (s : Shared) (H : Hp) (a : Addr) (Q : VK) (E : XK), Env0 P w K mg base callerA [] s H → sp [.ref a] H Q E → codeAny (model P w) callerA (.call (.ref f) ⟨[.ref a], []⟩) (CR CX [] P w H s Q E) s
section
variable {P : Program} {w : World} {K : PySem.W.Frag} {mg : Str → Option Value} {base : Heap}
theorem runG_of {CX : CXT} {f : Addr} {name qual x : Str} {params : Arguments} {body : List Stmt} {scope : Scope} {dV kV doc pm cdv ct oc : Value} {an od : Option Addr} {osl : Array (Option Value)} {N : List Str} {sp : Sp}
    (lk : K.lookup f = some ⟨oc, od, .func (PySem.W.fnOf name qual params body scope dV kV doc pm an cdv ct), osl⟩) (hcd : PySem.W.codeIn K cdv qual = true) (S : FnScope N [x] scope)
    (hb : ∀ (s : Shared) (u : Value), BindsTo s (PySem.W.fnOf name qual params body scope dV kV doc pm an cdv ct) ⟨[u], []⟩ [(x, u)]) (hr : Room 8 callerA)
    (hbody : ∀ (s : Shared) (H : Hp) (a : Addr) (Q : VK) (E : XK), sp [.ref a] H Q E → ∃ t, PSs (cxOf CX P w K mg base N qual scope f cdv callerA [] s H E) body t ∧ t { nx := fun _ H' => Q .non H', rt := Q } (start N [.ref a]) H) :
    RunG P w K mg base CX f sp := fun s H a Q E e0 hsp => by
  have up : ∀ b o, base.get? b = some o → s.heap.get? b = some o := fun b o e => (e0.bs b o e).1
  have KX : K.In s.heap := e0.mod.kin.keeps up
  have hx : scope.names.lookup x = some .local ∨ (scope.names.lookup x = some .cell ∧ ((cellsFrom (s.heap.objs.size + 1) scope.names []).lookup x).isSome = true) :=
    (S.par x (List.mem_singleton.mpr rfl)).imp id fun q => ⟨q, PySem.W.cellsFrom_some _ _ _ (.inl q)⟩
  refine codeAny_call_function hr.depth (KX _ _ lk) rfl S.co S.gen rfl (PySem.W.codeRec_of KX hcd) (hb s (.ref a) _ _ _ _ ?_)
  refine wpAny_newFunctionEnv_cells S.kind (fun y hy => by rw [List.mem_singleton.mp hy]; exact hx) fun env he s1 st => ?_
  subst he
  refine ⟨(e0.mod.nolimit.keeps up).keeps st.toInCall.keep, codeAny_func ?_⟩
  obtain ⟨t, ht, hq⟩ := hbody s H a Q E hsp
  have I : Inv (cxOf CX P w K mg base N qual scope f cdv callerA [] s H E) [] (start N [.ref a]) H s1 := inv_start S hr.hd e0 rfl (.cons rfl .nil) st
  have out : ∀ {σ2 : L2.St} {H2 : Hp} {s2 : Shared} {v : V} {u : Value}, Inv (cxOf CX P w K mg base N qual scope f cdv callerA [] s H E) [] σ2 H2 s2 → RelV v u → Q v H2 → CE [] P w H s Q u s2 :=
    fun {σ2 H2 s2 v u} J rv q => ⟨v, H2, J.os, J.bare, J.base, J.hok, rv, q⟩
  refine wpAny_mono (ht.run [] s1 _ H _ I hq) (fun fl s2 hs => ?_) fun _ _ z => z
  match fl, hs with
  | .ret u, ⟨v, σ2, H2, J, rv, q⟩ => exact out J rv q
  | .next, ⟨σ2, H2, J, q⟩ => exact out (v := V.non) (u := Value.none) J rfl q
  | .brk, ⟨_, _, _, z⟩ => exact z.elim
  | .cont, ⟨_, _, _, z⟩ => exact z.elim
/-- what is tracked at the top: the one table, and the script where it is not written down -/
def topH (K : PySem.W.Frag) (T a : Addr) (o : Obj) (xs : List V) : Hp := fun b => if b = T then some (.tbl #[]) else if b = a ∧ K.lookup a = none then some (.frz o (.lst xs)) else none
theorem topH_cases {T a b : Addr} {o : Obj} {xs : List V} {u : HO} (h : topH K T a o xs b = some u) : (b = T ∧ u = .tbl #[]) ∨ (b ≠ T ∧ b = a ∧ K.lookup a = none ∧ u = .frz o (.lst xs)) := by
  unfold topH at h
  by_cases h1 : b = T
  · rw [if_pos h1] at h
    exact .inl ⟨h1, (Option.some.inj h).symm⟩
  · rw [if_neg h1] at h
    by_cases h2 : b = a ∧ K.lookup a = none
    · rw [if_pos h2] at h
      exact .inr ⟨h1, h2.1, h2.2, (Option.some.inj h).symm⟩
    · rw [if_neg h2] at h
      cases h
theorem top_call {mb : Str → Option Value} {CX : CXT} {f a c T : Addr} {sp : Sp} {s : Shared} {vs : List Value} {ns : List Int} (KX : K.In s.heap) (G : s.heap.Ns mainGlobals mg) (B : s.heap.Ns builtinsNs mb) (hB : ∀ x : Str, x ≠ "__name__" → mb x = bootBuiltins x) (lim : s.heap.NoLimit) (ng : s.gens = #[])
    (eT : s.heap.get? T = some { cls := .none, data := .fields #[] }) (nT : K.lookup T = none) (C : PySem.W.CodeHd s.heap c T)
    (hbm : ∃ (bm : Addr) (ob : Obj), mg "__builtins__" = some (.ref bm) ∧ bm ≠ builtinsNs ∧ s.heap.get? bm = some ob ∧ ob.cls = .type "module" ∧ ob.dict = some builtinsNs ∧ ob.data = .plain)
    (ea : s.heap.get? a = some { cls := .type "list", data := .seq vs.toArray }) (hi : IntsAre vs ns) (hl : ns.length ≤ sizeLine)
    (R : ∀ base : Heap, K.In base → base.Ns mainGlobals mg → LamX.TabB base mg c T → RunG P w K mg base CX f sp)
    (hsp : ∀ H : Hp, H T = some (.tbl #[]) → SqL K H a (ns.map V.int) → sp [.ref a] H (fun v _ => v = .bl true) fun _ _ _ => False)
    (no : ∀ H e s', CX [] H s (fun _ _ _ => False) e s' → False) :
    codeAny (model P w) callerA (.call (.ref f) ⟨[.ref a], []⟩) (fun r s' => r = .ok (.ret (.bool true)) ∧ OldK s.heap s'.heap ∧ s'.os = s.os ∧ AllBare s'.gens) s := by
  have rv := vals_ints hi
  have nz : a ≠ T := fun z => by
    rw [z, eT] at ea
    cases ea
  obtain ⟨H, eH⟩ : ∃ H, H = topH K T a { cls := .type "list", data := .seq vs.toArray } (ns.map V.int) := ⟨_, rfl⟩
  have tr : ∀ {b : Addr} {u : HO}, H b = some u → _ := fun {b u} h => topH_cases (by rw [eH] at h; exact h)
  have HT : H T = some (.tbl #[]) := by
    rw [eH]
    exact if_pos rfl
  have hS : SqL K H a (ns.map V.int) := by
    cases q : K.lookup a with
    | none => exact .inl (.inr ⟨_, by rw [eH]; exact (if_neg nz).trans (if_pos ⟨rfl, q⟩)⟩)
    | some o =>
      have e := KX a o q
      rw [ea] at e
      cases e
      exact .inr ⟨_, vs.toArray, _, q, rfl, rfl, rfl, by rw [List.size_toArray, hi.length]; exact hl, by simpa using rv⟩
  have ok : HOk P w H s.heap := fun b u h => by
    rcases tr h with ⟨rfl, rfl⟩ | ⟨_, rfl, _, rfl⟩
    · exact eT
    · exact ⟨ea, by rw [List.length_map]; exact hl, vs, _, rv, ea⟩
  have gone : ∀ {b : Addr} {o : Obj}, s.heap.get? b = some o → (∀ xs n, o.data ≠ .seq xs n) → o.data ≠ .fields #[] → H b = none := fun {b o} e d1 d2 => by
    cases h : H b with
    | none => rfl
    | some u =>
      rcases tr h with ⟨rfl, _⟩ | ⟨_, rfl, _, _⟩
      · rw [eT] at e
        cases e
        exact (d2 rfl).elim
      · rw [ea] at e
        cases e
        exact (d1 _ _ rfl).elim
  have toB : ∀ {b : Addr} {m : Str → Option Value}, s.heap.Ns b m → (hidT s.heap H).Ns b m := fun {b m} ⟨o, es, ep, e, d, r⟩ =>
    ⟨o, es, ep, hidT_get e (gone e (fun xs n z => by rw [d] at z; cases z) (fun z => by rw [d] at z; cases z)), d, r⟩
  have KB : K.In (hidT s.heap H) := fun b o e => hidT_get (KX b o e) (by
    cases h : H b with
    | none => rfl
    | some u =>
      rcases tr h with ⟨rfl, _⟩ | ⟨_, rfl, k, _⟩
      · rw [nT] at e; cases e
      · rw [k] at e; cases e)
  have TB : LamX.TabB (hidT s.heap H) mg c T := by
    refine ⟨?_, ?_, fun z => ?_⟩
    · obtain ⟨o, us, file, tf, flags, tg, inF, text, tt, e1, r1, r2, r3, r⟩ := C
      exact ⟨o, us, file, tf, flags, tg, inF, text, tt, hidT_get e1 (gone e1 (fun xs n z => by rw [r2] at z; cases z) (fun z => by rw [r2] at z; cases z; simp at r3)), r1, r2, r3, r⟩
    · obtain ⟨bm, ob, b1, b2, b3, b4, b5, b6⟩ := hbm
      refine ⟨bm, ob, b1, b2, fun z => ?_, fun z => ?_, hidT_get b3 (gone b3 (fun xs n z => by rw [b6] at z; cases z) (fun z => by rw [b6] at z; cases z)), b4, b5, b6⟩
      · obtain ⟨o, es, ep, e, d, _⟩ := G
        rw [z, e] at b3
        cases b3
        rw [d] at b6
        cases b6
      · rw [z, eT] at b3
        cases b3
        cases b6
    · obtain ⟨o, es, ep, e, d, _⟩ := G
      rw [z, eT] at e
      cases e
      cases d
  have e0 : Env0 P w K mg (hidT s.heap H) callerA [] s H :=
    ⟨rfl, ⟨KB, toB G, ⟨mb, toB B, hB⟩, let ⟨mc, h1, h2⟩ := lim; ⟨mc, toB h1, h2⟩⟩, fun b o e => of_hidT e, Nat.le_of_eq (hidT_size _ _), trivial, fun b hb => absurd (show b ∈ ([] : List Addr) from hb) (by simp), ok, .of_eq ng⟩
  refine codeAny_mono (R _ KB (toB G) TB s H a _ _ e0 (hsp H HT hS)) fun r s' h => ?_
  match r, h with
  | .error e, h => exact (no H e s' h).elim
  | .ok .next, h => exact False.elim h
  | .ok .brk, h => exact False.elim h
  | .ok .cont, h => exact False.elim h
  | .ok (.ret u), ⟨v, H', os, bare, un, ok', r', q⟩ =>
    obtain rfl : v = .bl true := q
    obtain rfl : u = Value.bool true := r'
    obtain ⟨more, hm⟩ : ∃ more : Array Value, s'.heap.get? T = some { cls := .none, data := .fields more } := by
      obtain ⟨more, z⟩ := un.tbls T #[] HT
      exact ⟨_, ok' T _ z⟩
    have old : ∀ b o, b ≠ T → s.heap.get? b = some o → s'.heap.get? b = some o := fun b o ne e => by
      cases h : H b with
      | none => exact un.keep b o e h (fun z => absurd (show b ∈ ([] : List Addr) from z) (by simp)) (by simp)
      | some u =>
        rcases tr h with ⟨z, _⟩ | ⟨_, rfl, _, rfl⟩
        · exact absurd z ne
        · obtain ⟨e2, _⟩ := ok' b _ (un.frzs b _ _ h)
          rw [ea] at e
          cases e
          exact e2
    refine ⟨rfl, ⟨fun b o e => ?_, fun b o e => ?_⟩, os, bare⟩
    · by_cases hb : b = T
      · subst hb
        rw [eT] at e
        cases e
        exact .inr (.inl ⟨(C.tab eT).isCodeTable, rfl, #[], more, rfl, by rw [Array.empty_append]; exact hm⟩)
      · exact .inl (old b o hb e)
    · by_cases hb : b = T
      · rw [hb]
        exact ⟨_, hm⟩
      · exact ⟨o, old b o hb e⟩
end

/-- what the law's end asks: the table T of the code object c, and the promise sp -/
def LawG (l : PySem.W.OpenLaw) (w : World) (K : PySem.W.Frag) (CX : CXT) (n : Nat) (mg : Str → Option Value) (fa : Addr) (h : Heap) : Prop :=
  ∃ (c T : Addr) (sp : Sp), h.get? T = some { cls := .none, data := .fields #[] } ∧ K.lookup T = none ∧ PySem.W.CodeHd h c T ∧
    (∀ (H : Hp) (a : Addr) (ns : List Int), ns.length ≤ n → H T = some (.tbl #[]) → SqL K H a (ns.map V.int) → sp [.ref a] H (fun v _ => v = .bl true) fun _ _ _ => False) ∧
    ∀ base : Heap, K.In base → base.Ns mainGlobals mg → LamX.TabB base mg c T → RunG l.prog w K mg base CX fa sp
theorem walk_ofG {l : PySem.W.OpenLaw} {n : Nat} {q : Program} {loose : List Str} {XP : (Str → Option Value) → Heap → Prop} {YP : World → Heap → Prop} {d : DefRec} {K : Params → PySem.W.Frag} {CX : World → CXT} (names : List Str)
    (hn : l.most = some n) (hn2 : n ≤ sizeLine) (hdf : d.params.defaults = []) (hrec : names.all (fun y => (recsOf q).any fun e => e.name == y) = true) (hY : ∀ (w : World) (h : Heap), YP w h → (K w.params).In h)
    (F : ∀ (w : World) (mg : Str → Option Value) (fa : Addr) (h : Heap), YP w h → (K w.params).In h → h.Ns mainGlobals mg → mg d.name = some (.ref fa) → (∀ y ∈ names, ∀ f, mg y = some (.ref f) → LamX.OwnTab (K w.params) f h) → LawG l w (K w.params) (CX w) n mg fa h)
    (no : ∀ (w : World) (H : Hp) (s : Shared) (e : Value) (s' : Shared), CX w [] H s (fun _ _ _ => False) e s' → False) :
    PySem.W.WalkO q loose XP YP l.row.toRowW d [] (fun f vs => PySem.call f vs) := by
  refine Att.attach_callB hn hdf fun w s₀ s₁ mg mb fa o pm cd doc a vs ns G Y ho hd hcd hmg hobj hints hlen hbits hg => ?_
  have KX := hY w _ Y
  obtain ⟨c, T, sp, eT, nT, C, hsp, R⟩ := F w mg fa _ Y KX G.T.g hmg (fun y hy f hf c P o1 fd1 e dd vs1 sl k1 k2 k3 k4 k5 => by
    obtain ⟨dL, hm, hn1⟩ := List.any_eq_true.mp (List.all_eq_true.mp hrec y hy)
    obtain ⟨a', o', fd', c', P', h1, h2, h3, h4, h5, h6⟩ := G.T.tab dL hm
    rw [beq_iff_eq.mp hn1, hf] at h1
    cases h1
    have g1 := KX _ _ k1
    rw [g1] at h2
    cases h2
    rw [k2] at h3
    cases h3
    rw [k3] at h4
    cases h4
    obtain ⟨⟨oc, vc, e1, _, e3, e4⟩, hP⟩ := h6
    have g2 := KX _ _ k4
    rw [g2] at e1
    cases e1
    cases e3
    rw [k5] at e4
    cases e4
    exact hP)
  exact top_call KX G.T.g G.T.b G.T.builtins G.T.nolimit hg eT nT C G.T.bmain hobj hints (Nat.le_trans hlen hn2) R (fun H hH hS => hsp H a ns hlen hH hS) fun H e s' => no w H s₁ e s'
end MyR

set_option Elab.async false
set_option linter.all false
set_option maxRecDepth 100000
set_option maxHeartbeats 1000000
namespace MyR
open PySem PySem.Spec PyProof.Rows L2
/-! ### try: .. except A as n: .. except B as n: .. -/
/-- the ends of a clause's suite: n is gone behind it -/
def offS (i : Nat) (D : Ends) : Ends := { nx := fun σ H => D.nx (σ.set i none) H, rt := D.rt, bk := fun σ H => D.bk (σ.set i none) H, ct := fun σ H => D.ct (σ.set i none) H }
abbrev Suite := Addr → Value → Option Addr → TS
def wAll (K : PySem.W.Frag) (i : Nat) (Wout : WX) (D : Ends) : List (Value × Suite) → WX
  | [] => Wout
  | p :: l => fun cls d σ H => ∃ b, PySem.W.exmOne K cls p.1 = some b ∧ (b = true → ∀ a, H a = none → p.2 a cls d (offS i D) (σ.set i (some (.ref a))) H) ∧ (b = false → wAll K i Wout D l cls d σ H)
inductive Clauses (X : Cx) (n : Str) : List ExceptHandler → List (Value × Suite) → Prop
  | nil : Clauses X n [] []
  | cons {x : Str} {c : Value} {ts : Suite} {s0 : Stmt} {ss : List Stmt} {p1 p2 : Pos} {hs : List ExceptHandler} {l : List (Value × Suite)} (hc : Names X x c)
      (run : ∀ (a : Addr) (o : Obj) (cls : Value) (d : Option Addr) (pn : List (Addr × Obj)), Zc cls d o → (∃ vs, o.data = .fields vs) → PSs (X.suite a ((a, o) :: pn)) (s0 :: ss) (ts a cls d)) (r : Clauses X n hs l) :
      Clauses X n (.ExceptHandler (some (.Name x p1)) (some n) (s0 :: ss) p2 :: hs) ((c, ts) :: l)
section
variable {X : Cx} {n : Str} {i : Nat} {body : List Stmt} {h0 : ExceptHandler} {hs : List ExceptHandler} {l : List (Value × Suite)} {pos : Pos} {tb : WX → TS} {Wout : WX}
theorem ps_try_all (st : X.stack = X.env :: X.outer) (fr : X.env.frame = some X.env.locals) (nd : X.N.Nodup) (at_ : X.N[i]? = some n) (loc : X.env.kindOf n = some .local) (tk : Takes X Wout)
    (hb : ∀ (W : WX) (pn : List (Addr × Obj)) (xe : Value → Shared → Prop), Takes (X.tr pn xe) W → PassesOwn (model X.prog X.w) X.A X.env xe → PSs (X.tr pn xe) body (tb W)) (hh : Clauses X n (h0 :: hs) l) :
    PS X (.Try body (h0 :: hs) [] [] pos) (fun D σ H => tb (wAll X.K i Wout D l) D σ H) := by
  refine ⟨fun pins s σ H D I h => wpAny_Try_except ?_⟩
  have ok := I.ok
  have af : X.A.frames = some (X.env :: X.outer) := by rw [ok.frames, st]
  -- what the catch does with an exception
  obtain ⟨catch_, ec⟩ : ∃ c : Value → Shared → Prop, c = fun e z => wpAny (model X.prog X.w) X.A (noteFrame e X.env) (fun _ z2 => wpAny (model X.prog X.w) X.A (setFlight e none) (fun _ z3 =>
    wpAny (model X.prog X.w) X.A (handleBy e X.env (h0 :: hs)) (SP X pins D) X.xe z3) X.xe z2) X.xe z := ⟨_, rfl⟩
  have T : Takes (X.tr (X.pn ++ pins) catch_) (wAll X.K i Wout D l) := fun u z thrown => by
    obtain ⟨a, B, zI, pins', σ', H', cls, d, rfl, J0, nb, up, sky0, na, os, ag, wish⟩ := thrown
    have J : Inv X pins σ' H' zI := J0.ofTry ok
    have sky : Sky B (X.env :: X.outer) a (Zc cls d) X.env.locals z.heap := by rw [← st]; exact sky0
    rw [ec]
    refine Sky.land Zc.steady af fr sky fun k1 fl1 up1 => ?_
    have J1 : Inv X pins σ' H' { z with heap := k1 } := J.landed nb fl1.1 (up.trans up1) os ag
    obtain ⟨o1, vs1, g1, z1, d1⟩ := fl1.there
    have out : a ∉ frs (X.env :: X.outer) := fun hm => by
      obtain ⟨_, o', e', hnf⟩ := fl1.2.2.1.mem hm
      rw [g1] at e'
      cases e'
      exact hnf _ d1
    have neL : a ≠ X.env.locals := fun e => out (List.mem_filterMap.mpr ⟨X.env, List.mem_cons_self, by rw [fr, e]⟩)
    have neF : a ∉ X.fs := fun hm => by
      obtain ⟨e, he, q⟩ := List.mem_filterMap.mp hm
      exact out (List.mem_filterMap.mpr ⟨e, List.mem_cons_of_mem _ he, q⟩)
    have S1 := J1.suite g1 d1 na neL neF
    suffices go : ∀ {hs' : List ExceptHandler} {l' : List (Value × Suite)}, Clauses X n hs' l' → wAll X.K i Wout D l' cls d σ' H' → wpAny (model X.prog X.w) X.A (handleBy (.ref a) X.env hs') (SP X pins D) X.xe { z with heap := k1 } from go hh wish
    intro hs' l' hk
    induction hk with
    | nil =>
      intro wo
      refine wpAny_handleBy_nil ?_
      obtain ⟨_, _, _, o2, vs2, T2, oT2, ts2, g2, z2, d2, f2, _⟩ := id fl1
      unfold PySem.passOn
      refine wpAny_bind (wpAny_field g2 d2 f2 ?_)
      rw [if_neg (show ¬ ((Value.ref T2 == Value.none) = true) from by simp)]
      have last : wpAny (model X.prog X.w) X.A (setFlight (.ref a) X.env.frame) (fun _ z4 => wpAny (model X.prog X.w) X.A (throw (.ref a) : Sem Flow) (SP X pins D) X.xe z4) X.xe { z with heap := k1 } := by
        rw [fr]
        exact HandSPX.setFlight_upZ fl1 fun k2 sky2 up2 => wpAny_throw (tk _ _ ⟨a, B, zI, pins, σ', H', cls, d, rfl, J, nb, (up.trans up1).trans up2, .inr (.inr (by rw [st]; exact sky2)), na, os, ag, wo⟩)
      first
        | exact wpAny_bind (wpAny_pure (wpAny_bind last))
        | exact wpAny_bind last
    | @cons x c ts s0 ss p1 p2 hs2 l2 hc run r ih =>
      rintro ⟨b, eb, yes, no⟩
      refine wpAny_handleBy_cons (codeAny_handlers_test ?_) (by intro q; cases q)
      have fits := PySem.W.exm_one (M := model X.prog X.w) J1.kIn (fun A Q E z k q => wpAny_typeOf_ref (k _ _ g1) (by rw [z1.1]; exact q)) eb
      have named : ∀ {Q E : Value → Shared → Prop}, Q c { z with heap := k1 } → wpAny (model X.prog X.w) (X.A.mark (some (.ref a))) (eval (.Name x p1) X.env) Q E { z with heap := k1 } := fun {Q E} q => by
        obtain ⟨gl, db, m | ⟨m, v, nn⟩⟩ := hc
        · exact ld_glob (X := X.suite a ((a, o1) :: (X.pn ++ pins))) S1 gl m q db
        · exact ld_blt (X := X.suite a ((a, o1) :: (X.pn ++ pins))) S1 gl m v q nn db
      refine named (fits.here ?_)
      cases b with
      | false => exact ih (no rfl)
      | true =>
        refine codeAny_handlers_suite_as (HandSPX.lands_againZ fl1 fun k2 fl2 up2 => ?_)
        have J2 : Inv X pins σ' H' { z with heap := k2 } := J.landed nb fl2.1 ((up.trans up1).trans up2) os ag
        obtain ⟨o2, vs2, g2, z2, d2⟩ := fl2.there
        refine store_ok (X := X.suite a ((a, o2) :: (X.pn ++ pins))) (v := .ref a) (J2.suite g2 d2 na neL neF) nd at_ (.inl loc) rfl (fun z5 S5 => ?_) (.inr loc)
        refine wpAny_mono ((run a o2 cls d (X.pn ++ pins) z2 ⟨_, d2⟩).run [] z5 _ H' _ S5 (yes rfl a na)) (fun fl z6 hs6 => ?_) (fun _ _ q => False.elim q)
        have bare : ∀ {σ6 : L2.St} {H6 : Hp} {R : Shared → Prop}, Inv (X.suite a ((a, o2) :: (X.pn ++ pins))) [] σ6 H6 z6 → (∀ z7, Inv X pins (σ6.set i none) H6 z7 → R z7) →
          wpAny (model X.prog X.w) X.A (do bindName X.env n .none; unbindBehindTheSuite X.env n p2) (fun _ z7 => R z7) X.xe z6 := fun {σ6 H6 R} S6 q => gone_ok (S6.unsuite ok) nd at_ loc q
        match fl, hs6 with
        | .next, ⟨_, _, S6, q⟩ => exact bare S6 fun _ J7 => ⟨_, _, J7, q⟩
        | .brk, ⟨_, _, S6, q⟩ => exact bare S6 fun _ J7 => ⟨_, _, J7, q⟩
        | .cont, ⟨_, _, S6, q⟩ => exact bare S6 fun _ J7 => ⟨_, _, J7, q⟩
        | .ret u, ⟨_, _, _, S6, rv, q⟩ => exact bare S6 fun _ J7 => ⟨_, _, _, J7, rv, q⟩
  have P : PassesOwn (model X.prog X.w) X.A X.env catch_ := by
    rw [ec]
    exact PassesOwn.looking
  refine wpAny_mono (((hb _ (X.pn ++ pins) catch_ T P).run [] s σ H D (I.toTry _) h)) (fun fl z hsp => ?_) (fun e z he => by
    have he' : catch_ e z := he
    rw [ec] at he'
    exact he')
  match fl, hsp with
  | .next, ⟨_, _, J, q⟩ => exact wpAny_execs_nil ⟨_, _, J.ofTry ok, q⟩
  | .brk, ⟨_, _, J, q⟩ => exact ⟨_, _, J.ofTry ok, q⟩
  | .cont, ⟨_, _, J, q⟩ => exact ⟨_, _, J.ofTry ok, q⟩
  | .ret u, ⟨_, _, _, J, rv, q⟩ => exact ⟨_, _, _, J.ofTry ok, rv, q⟩
end
end MyR

set_option Elab.async false
set_option linter.all false
set_option maxRecDepth 100000
set_option maxHeartbeats 2000000
namespace W
open PySem PySem.Spec PyProof.Rows L2 GxR MyG MyS MyR
/-! ### a map that is made of another: tuples in place of lists -/
def spInitT (K : PySem.W.Frag) (M P : Addr) : Sp := fun vs H Q _ => ∃ (x dx ki pl ro ba : Addr) (d : Int) (ks ps : List Str) (rs : List RoadD) (bs : List (Str × Str)) (xs zs : List V) (H0 : Hp), vs = [.ref x, .int d, .ref ki, .ref pl, .ref ro, .ref ba] ∧
  Grew P H0 H ∧ TabG H0 P ∧ H0 x = none ∧ H x = some (.ins M dx []) ∧ SqT K H0 ki (ks.map V.str) ∧ SqT K H0 pl (ps.map V.str) ∧ SqL K H0 ro xs ∧ Paired (GRoad K H0) rs xs ∧ SqL K H0 ba zs ∧ Paired (GBar H0) bs zs ∧ PartsOk d ks ps rs bs ∧
  ∀ H' ks' ps' rs' bs', Grew P H0 H' → ks'.Perm ks → Asc ks' → ps'.Perm ps → Asc ps' → KeptAll rs rs' → AscR rs' → bs'.Perm bs → AscB bs' → MapAt K H' M x d ks' ps' rs' bs' → Q .non H'
abbrev sWithP : Stmt := inClass (top 32) 19
abbrev sWithoutR : Stmt := inClass (top 32) 13
theorem filter_nodup_map {α β : Type} {f : α → β} {p : α → Bool} : ∀ {l : List α}, (l.map f).Nodup → ((l.filter p).map f).Nodup := fun {l} h => (List.Sublist.map f List.filter_sublist).nodup h
theorem filter_takeA {α : Type} {p : α → Bool} {l : List α} {i : Nat} {a : α} (e : l[i]? = some a) : (l.take (i + 1)).filter p = (l.take i).filter p ++ if p a then [a] else [] := by
  rw [List.take_succ, e, List.filter_append]
  by_cases h : p a = true
  · rw [if_pos h]; simp [h]
  · rw [if_neg h]; simp [h]
/-- the roads but one -/
def butR (z : Str) (rs : List RoadD) : List RoadD := rs.filter fun r => !decide (r.name = z)
def butB (z : Str) (bs : List (Str × Str)) : List (Str × Str) := bs.filter fun b => !decide (z = b.1 ∨ z = b.2)
theorem mem_butR {z : Str} {rs : List RoadD} {r : RoadD} : r ∈ butR z rs ↔ r ∈ rs ∧ r.name ≠ z := by
  unfold butR
  rw [List.mem_filter]
  simp
theorem mem_butB {z : Str} {bs : List (Str × Str)} {b : Str × Str} : b ∈ butB z bs ↔ b ∈ bs ∧ z ≠ b.1 ∧ z ≠ b.2 := by
  unfold butB
  rw [List.mem_filter]
  simp
theorem PartsOk.but {d : Int} {ks ps : List Str} {rs : List RoadD} {bs : List (Str × Str)} (h : PartsOk d ks ps rs bs) (z : Str) : PartsOk d ks ps (butR z rs) (butB z bs) := by
  obtain ⟨d1, d2, k1, k2, p2, kn, pn, kd, pd, hr, hb⟩ := h
  refine ⟨d1, d2, k1, k2, p2, kn, pn, kd, pd, ?_, ?_⟩
  · obtain ⟨a, b, c, e⟩ := hr
    refine ⟨Nat.le_trans (List.length_filter_le _ _) a, ?_, filter_nodup_map c, fun r hr => e r (mem_butR.mp hr).1⟩
    refine List.all_eq_true.mpr fun n hn => ?_
    obtain ⟨r, hr, rfl⟩ := List.mem_map.mp hn
    exact List.all_eq_true.mp b _ (List.mem_map.mpr ⟨r, (mem_butR.mp hr).1, rfl⟩)
  · obtain ⟨a, b, c⟩ := hb
    refine ⟨Nat.le_trans (List.length_filter_le _ _) a, List.filter_sublist.nodup b, fun x hx => ?_⟩
    obtain ⟨x1, x2, x3⟩ := mem_butB.mp hx
    obtain ⟨r1, h1, r2, h2, e1, e2, e3⟩ := c x x1
    exact ⟨r1, mem_butR.mpr ⟨h1, fun e => x2 (by rw [e1, e])⟩, r2, mem_butR.mpr ⟨h2, fun e => x3 (by rw [e2, e])⟩, e1, e2, e3⟩
def spWithP (K : PySem.W.Frag) (M P : Addr) : Sp := fun vs H Q _ => ∃ (x pl ro ba : Addr) (d : Int) (ks ps ps0 : List Str) (rs rs0 : List RoadD) (bs bs0 : List (Str × Str)) (xs zs : List V), vs = [.ref x, .ref pl, .ref ro, .ref ba] ∧ MapAt K H M x d ks ps0 rs0 bs0 ∧ TabG H P ∧
  H pl = some (.tup (ps.map V.str)) ∧ H ro = some (.lst xs) ∧ Paired (GRoad K H) rs xs ∧ H ba = some (.lst zs) ∧ Paired (GBar H) bs zs ∧ PartsOk d ks ps rs bs ∧
  ∀ H' y ks' ps' rs' bs', Grew P H H' → H y = none → ks'.Perm ks → Asc ks' → ps'.Perm ps → Asc ps' → KeptAll rs rs' → AscR rs' → bs'.Perm bs → AscB bs' → MapAt K H' M y d ks' ps' rs' bs' → Q (.ref y) H'
def spWithoutR (K : PySem.W.Frag) (M P : Addr) : Sp := fun vs H Q _ => ∃ (x : Addr) (z : Str) (d : Int) (ks ps : List Str) (rs : List RoadD) (bs : List (Str × Str)), vs = [.ref x, .str z] ∧ z.length ≤ 1000 ∧ Known rs z ∧ MapAt K H M x d ks ps rs bs ∧ TabG H P ∧ PartsOk d ks ps rs bs ∧
  ∀ H' y ks' ps' rs' bs', Grew P H H' → H y = none → ks'.Perm ks → Asc ks' → ps'.Perm ps → Asc ps' → KeptAll (butR z rs) rs' → AscR rs' → bs'.Perm (butB z bs) → AscB bs' → MapAt K H' M y d ks' ps' rs' bs' → Q (.ref y) H'
section
variable {Pg : Program} {w : World} {K : PySem.W.Frag} {mg : Str → Option Value} {base : Heap} {C P : Addr}
theorem ok_initT {f fY fN fR fB M : Addr} {fd fdY fdN fdR fdB : FuncData} {t1 t2 t3 : Tok} {dvs : List V} {kws : List (Str × V)} (F : FunD K "__init__" "Map.__init__" (defArgs sInit) (defBody sInit) (defScope sInit) dvs kws f fd) (T : TxtM K M)
    (hn : mg "NAME" = some (.int 0 t1)) (hk : mg "MOST_KINDS" = some (.int 4 t2)) (hp : mg "MOST_PLACES" = some (.int 30 t3))
    (GY : FnOk Pg w K mg base CX0 1 fY fdY ["day"] spDay) (gY : mg "_checked_day" = some (.ref fY)) (kY : PySem.W.keepIn K (.ref fY) = true) (bY : Binds K fdY ["day"] [])
    (GN : FnOk Pg w K mg base CX0 3 fN fdN ["names", "least", "most"] (spNamesT K P)) (gN : mg "_checked_names" = some (.ref fN)) (kN : PySem.W.keepIn K (.ref fN) = true) (bN : Binds K fdN ["names", "least", "most"] [])
    (GR : FnOk Pg w K mg base CX0 4 fR fdR ["roads", "day", "places", "kinds"] (spRoads K P)) (gR : mg "_checked_roads" = some (.ref fR)) (kR : PySem.W.keepIn K (.ref fR) = true) (bR : Binds K fdR ["roads", "day", "places", "kinds"] [])
    (GB : FnOk Pg w K mg base CX0 2 fB fdB ["bars", "roads_by_name"] (spBars K P)) (gB : mg "_checked_bars" = some (.ref fB)) (kB : PySem.W.keepIn K (.ref fB) = true) (bB : Binds K fdB ["bars", "roads_by_name"] []) :
    FnOk Pg w K mg base CX0 5 f fd pInit (spInitT K M P) := by
  refine F.ok scInit (fun vs H Q E h => ?_) (fun cdv A outer s H vs Q E hr h => ?_)
  · obtain ⟨x, dx, ki, pl, ro, ba, d, ks, ps, rs, bs, xs, zs, H0, rfl, _⟩ := h
    rfl
  · obtain ⟨x, dx, ki, pl, ro, ba, d, ks, ps, rs, bs, xs, zs, H0, rfl, g0, hP0, nx, hx, hKi, hPl, hRo, hG, hBa, hB, ok, k⟩ := h
    have hr1 : Room 1 _ := hr.mono (by decide)
    have hr2 : Room 2 _ := hr.mono (by decide)
    have hr3 : Room 3 _ := hr.mono (by decide)
    refine ⟨_, pss_cons (ps_fld (pv 0) (pe_call GY hr1 (by rfl) gY kY bY .nil pass0 (pa_cons (pv 1) pa_nil)) rfl)
      (pss_cons (ps_fld (pv 0) (pe_call GN hr3 (by rfl) gN kN bN .nil pass0 (pa_cons (pv 2) (pa_cons pe_int (pa_cons (pe_gI hk) pa_nil)))) rfl)
      (pss_cons (ps_fld (pv 0) (pe_call GN hr3 (by rfl) gN kN bN .nil pass0 (pa_cons (pv 3) (pa_cons pe_int (pa_cons (pe_gI hp) pa_nil)))) rfl)
      (pss_cons (ps_fld (pv 0) (pe_call GR hr (by rfl) gR kR bR .nil pass0 (pa_cons (pv 4) (pa_cons (pv 1) (pa_cons (pe_fld (pv 0) rfl) (pa_cons (pe_fld (pv 0) rfl) pa_nil))))) rfl)
      (pss_cons (ps_fld (pv 0) (pe_dc (own := [("road", 6)]) (g := gName 6) (tt := tYes) rfl scInit.nd (pi_tup (pe_fld (pv 0) rfl)) (blkOk_by (N := nInit) (sc := defScope sInit) (by decide +kernel)) (fun _ _ _ _ _ => pg_name (i := 6) scInit.nd rfl (Or.inl rfl)) (fun _ _ _ _ _ => pts_nil)
          (fun _ _ _ _ _ => pe_ix (r := rIxT K) ix_tup (pv 6) (pe_gI hn) (fun _ _ => rfl)) (fun _ _ _ _ _ => pv 6)) rfl)
      (pss_cons (ps_fld (pv 0) (pe_call GB hr2 (by rfl) gB kB bB .nil pass0 (pa_cons (pv 5) (pa_cons (pe_fld (pv 0) rfl) pa_nil))) rfl)
      (pss_one (ps_fld (pv 0) (pe_dcT (own := [("bar", 7)]) (g := gName 7) (tt := tYes) (u1 hr.units) rfl scInit.nd (pi_tup (pe_fld (pv 0) rfl)) (blkOk_by (N := nInit) (sc := defScope sInit) (by decide +kernel)) (fun _ _ _ _ _ => pg_name (i := 7) scInit.nd rfl (Or.inl rfl)) (fun _ _ _ _ _ => pts_nil)
          (fun _ _ _ _ _ => pv 7) (fun _ _ _ _ _ => pe_bl)) rfl))))))), ?_⟩
    have nins : ∀ (fs : List (Str × V)) (q : Array Value), (HO.ins M dx fs) ≠ .tbl q := fun _ _ z => by cases z
    have k1 := ok.k1
    have k2 := ok.k2
    have p2 := ok.p2
    -- day
    refine ⟨_, rfl, d, rfl, ok.d1, ok.d2, _, rfl, x, M, dx, [], rfl, hx, T.cl, T.n1, by decide, ?_⟩
    have ga := g0.write (o := .ins M dx (putF "day" (.int d) [])) hx (nins _) nx
    have la : (putF ("day" : Str) (V.int d) []).length ≤ 1 := length_putF _ _ []
    -- kinds
    refine ⟨_, rfl, ki, ks, 1, 4, rfl, ga.sqT hP0 hKi, by omega, by omega, by omega, ok.kn, ok.kd, ga.tab, fun Hb kk ks' gb nk ek pk ak => ?_⟩
    have xb := gb.get ga.tab upd_same (nins _)
    refine ⟨_, rfl, x, M, dx, _, rfl, xb, T.cl, T.n2, by omega, ?_⟩
    have gc := (ga.trans gb).write (o := .ins M dx (putF "kinds" (.ref kk) (putF "day" (.int d) []))) xb (nins _) nx
    have lc := length_putF ("kinds" : Str) (V.ref kk) (putF ("day" : Str) (V.int d) [])
    have tk := tup_ins (o := .ins M dx (putF "kinds" (.ref kk) (putF "day" (.int d) []))) xb ek
    -- places
    refine ⟨_, rfl, pl, ps, 0, 30, rfl, gc.sqT hP0 hPl, by omega, by omega, by omega, ok.pn, ok.pd, gc.tab, fun Hd pp ps' gd np ep pp' ap => ?_⟩
    have xd := gd.get gc.tab upd_same (nins _)
    refine ⟨_, rfl, x, M, dx, _, rfl, xd, T.cl, T.n3, by omega, ?_⟩
    have ge := (gc.trans gd).write (o := .ins M dx (putF "places" (.ref pp) (putF "kinds" (.ref kk) (putF "day" (.int d) [])))) xd (nins _) nx
    have le := length_putF ("places" : Str) (V.ref pp) (putF ("kinds" : Str) (V.ref kk) (putF ("day" : Str) (V.int d) []))
    generalize hfs : putF ("places" : Str) (V.ref pp) (putF ("kinds" : Str) (V.ref kk) (putF ("day" : Str) (V.int d) [])) = fs at ge le ⊢
    have f0 : ∀ f, f ∉ nmF → fs.lookup f = none := by rw [← hfs]; exact noF (noF (noF (fun _ _ => rfl) (by decide +kernel)) (by decide +kernel)) (by decide +kernel)
    have f3 : fs.lookup ("places" : Str) = some (V.ref pp) := by rw [← hfs, lookup_putF, if_pos rfl]
    have f2 : fs.lookup ("kinds" : Str) = some (V.ref kk) := by rw [← hfs, lookup_putF, if_neg (by decide +kernel), lookup_putF, if_pos rfl]
    have f1 : fs.lookup ("day" : Str) = some (V.int d) := by rw [← hfs, lookup_putF, if_neg (by decide +kernel), lookup_putF, if_neg (by decide +kernel), lookup_putF, if_pos rfl]
    have tk2 := tup_ins (o := .ins M dx fs) xd (gd.tup gc.tab tk)
    have tp2 := tup_ins (o := .ins M dx fs) xd ep
    -- roads
    have okr := ok.r.perm pp' pk
    refine ⟨_, rfl, _, rfl, _, rfl, x, M, dx, _, _, rfl, upd_same, T.cl, T.n3, f3, _, rfl, x, M, dx, _, _, rfl, upd_same, T.cl, T.n2, f2,
      ro, pp, kk, d, ps', ks', rs, xs, rfl, ge.sqL hP0 hRo, Paired.map' hG (fun r v m => m.keep (KeepT.grew ge hP0)), SqT.of tp2, SqT.of tk2, okr, ge.tab, fun Hf rr rs' ys gf kr ar nr er hm => ?_⟩
    have xf := gf.get ge.tab upd_same (nins _)
    refine ⟨_, rfl, x, M, dx, _, rfl, xf, T.cl, T.n4, by omega, ?_⟩
    have gg := (ge.trans gf).write (o := .ins M dx (putF "roads" (.ref rr) fs)) xf (nins _) nx
    have lg := length_putF ("roads" : Str) (V.ref rr) fs
    have fg4 : (putF ("roads" : Str) (V.ref rr) fs).lookup ("roads" : Str) = some (V.ref rr) := by rw [lookup_putF, if_pos rfl]
    have fg3 : (putF ("roads" : Str) (V.ref rr) fs).lookup ("places" : Str) = some (V.ref pp) := by rw [lookup_putF, if_neg (by decide +kernel)]; exact f3
    have fg2 : (putF ("roads" : Str) (V.ref rr) fs).lookup ("kinds" : Str) = some (V.ref kk) := by rw [lookup_putF, if_neg (by decide +kernel)]; exact f2
    have fg1 : (putF ("roads" : Str) (V.ref rr) fs).lookup ("day" : Str) = some (V.int d) := by rw [lookup_putF, if_neg (by decide +kernel)]; exact f1
    have fg0 := noF (v := V.ref rr) f0 (show ("roads" : Str) ∈ nmF by decide +kernel)
    generalize hgs : putF ("roads" : Str) (V.ref rr) fs = gs at gg lg fg0 fg1 fg2 fg3 fg4 ⊢
    have tr3 := tup_ins (o := .ins M dx gs) xf er
    have tk3 := tup_ins (o := .ins M dx gs) xf (gf.tup ge.tab tk2)
    have tp3 := tup_ins (o := .ins M dx gs) xf (gf.tup ge.tab tp2)
    have hm3 : Paired (RoadAt K (L2.upd Hf x (.ins M dx gs))) rs' ys := Paired.map' hm fun r v m => m.ins xf
    have lys : ys.length ≤ 60 := by rw [← Paired.len hm3, kr.len]; exact ok.r.len
    have ndr := kr.nodup ok.r.nd
    generalize hHg : L2.upd Hf x (.ins M dx gs) = Hg at gg tr3 tk3 tp3 hm3 ⊢
    have xg : Hg x = some (.ins M dx gs) := by rw [← hHg]; exact upd_same
    -- _roads_by_name
    refine ⟨_, rfl, x, M, dx, _, _, rfl, xg, T.cl, T.n4, fg4, rr, rfl, ⟨_, SqT.of tr3⟩, fun D nD => dc_tup (K := K) (a := rr) (xs := ys)
      (fun i H1 => Grew P Hg H1 ∧ ∃ kvs, H1 D = some (.dK kvs) ∧ kvs.length ≤ i ∧ (∀ (j : Nat) r v, j < i → rs'[j]? = some r → ys[j]? = some v → valV kvs (.inr r.name) = some v) ∧ ∀ z : Str, (∀ r ∈ rs'.take i, r.name ≠ z) → valV kvs (.inr z) = none)
      ⟨Grew.new gg.tab nD, [], upd_same, Nat.le_refl _, fun j r v h => absurd h (Nat.not_lt_zero _), fun z _ => rfl⟩ (fun i H1 _ p => SqT.of (p.1.tup gg.tab tr3)) (fun i y H1 hy p => ?_) (fun Hh p => ?_)⟩
    · obtain ⟨g, kvs, hD, hl, hin, hno⟩ := p
      obtain ⟨r, hri, m⟩ := Paired.at hm3 hy
      have hi : i < ys.length := (List.getElem?_eq_some_iff.mp hy).1
      have m1 := m.grew g gg.tab
      obtain ⟨t, q, h, rfl, et, _⟩ := m1
      refine ⟨rfl, _, rfl, t, _, 0, .str r.name, rfl, rfl, SqT.of et, rfl, _, rfl, kvs, .inr r.name, rfl, hD, ?_, g.write hD (fun _ z => by cases z) nD, _, upd_same, ?_, fun j r' v' hj hr' hv' => ?_, fun z hz => ?_⟩
      · rw [sizeLine_eq]; omega
      · exact Nat.le_trans (length_putK kvs (.inr r.name) _) (by omega)
      · rw [valV_put]
        by_cases e : j = i
        · subst e
          rw [hri] at hr'
          rw [hy] at hv'
          cases hr'; cases hv'
          rw [if_pos rfl]
        · have ne : ¬ (Sum.inr r'.name : Key) = .inr r.name := fun z => by
            injection z with z
            have hri' := (List.getElem?_eq_some_iff.mp hri)
            have hrj' := (List.getElem?_eq_some_iff.mp hr')
            obtain ⟨a1, a2⟩ := hri'
            obtain ⟨b1, b2⟩ := hrj'
            refine absurd ?_ (List.pairwise_iff_getElem.mp ndr j i (by rw [List.length_map]; exact b1) (by rw [List.length_map]; exact a1) (by omega))
            rw [List.getElem_map, List.getElem_map, a2, b2]
            exact z
          rw [if_neg ne]
          exact hin j r' v' (by omega) hr' hv'
      · rw [valV_put, if_neg ?_]
        · exact hno z fun r' hr' => hz r' (by rw [List.take_succ]; exact List.mem_append_left _ hr')
        · intro e
          injection e with e
          exact hz r (by rw [List.take_succ, hri]; exact List.mem_append_right _ (List.mem_singleton.mpr rfl)) e.symm
    · obtain ⟨gh, kvs, hD, hl, hin, hno⟩ := p
      have xh := gh.get gg.tab xg (nins _)
      refine ⟨_, rfl, x, M, dx, _, rfl, xh, T.cl, T.n5, by omega, ?_⟩
      have gi := (gg.trans gh).write (o := .ins M dx (putF "_roads_by_name" (.ref D) gs)) xh (nins _) nx
      have li := length_putF ("_roads_by_name" : Str) (V.ref D) gs
      have fi5 : (putF ("_roads_by_name" : Str) (V.ref D) gs).lookup ("_roads_by_name" : Str) = some (V.ref D) := by rw [lookup_putF, if_pos rfl]
      have fi4 : (putF ("_roads_by_name" : Str) (V.ref D) gs).lookup ("roads" : Str) = some (V.ref rr) := by rw [lookup_putF, if_neg (by decide +kernel)]; exact fg4
      have fi3 : (putF ("_roads_by_name" : Str) (V.ref D) gs).lookup ("places" : Str) = some (V.ref pp) := by rw [lookup_putF, if_neg (by decide +kernel)]; exact fg3
      have fi2 : (putF ("_roads_by_name" : Str) (V.ref D) gs).lookup ("kinds" : Str) = some (V.ref kk) := by rw [lookup_putF, if_neg (by decide +kernel)]; exact fg2
      have fi1 : (putF ("_roads_by_name" : Str) (V.ref D) gs).lookup ("day" : Str) = some (V.int d) := by rw [lookup_putF, if_neg (by decide +kernel)]; exact fg1
      have fi0 := noF (v := V.ref D) fg0 (show ("_roads_by_name" : Str) ∈ nmF by decide +kernel)
      generalize his : putF ("_roads_by_name" : Str) (V.ref D) gs = is at gi li fi0 fi1 fi2 fi3 fi4 fi5 ⊢
      have hmh : Paired (RoadAt K Hh) rs' ys := Paired.map' hm3 fun r v m => m.grew gh gg.tab
      have dR : DictR K (L2.upd Hh x (.ins M dx is)) D rs' := by
        refine DictR.ins xh ⟨kvs, hD, fun r hr => ?_, fun z hz => hno z fun r hr => hz r (List.mem_of_mem_take hr)⟩
        obtain ⟨j, hj, ej⟩ := List.getElem_of_mem hr
        have hj' : rs'[j]? = some r := List.getElem?_eq_some_iff.mpr ⟨hj, ej⟩
        obtain ⟨v, hv, m⟩ := Paired.to hmh hj'
        exact ⟨v, hin j r v (List.getElem?_eq_some_iff.mp hv).1 hj' hv, m⟩
      have tr4 := tup_ins (o := .ins M dx is) xh (gh.tup gg.tab tr3)
      have tk4 := tup_ins (o := .ins M dx is) xh (gh.tup gg.tab tk3)
      have tp4 := tup_ins (o := .ins M dx is) xh (gh.tup gg.tab tp3)
      have hm4 : Paired (RoadAt K (L2.upd Hh x (.ins M dx is))) rs' ys := Paired.map' hmh fun r v m => m.ins xh
      generalize hHi : L2.upd Hh x (.ins M dx is) = Hi at gi tr4 tk4 tp4 hm4 dR ⊢
      have xi : Hi x = some (.ins M dx is) := by rw [← hHi]; exact upd_same
      -- bars
      refine ⟨_, rfl, _, rfl, x, M, dx, _, _, rfl, xi, T.cl, T.n5, fi5, ba, D, rs', bs, zs, rfl, gi.sqL hP0 hBa, Paired.map' hB (fun b v m => m.grew gi hP0), dR, ok.b.kept kr, gi.tab, fun Hj bb bs' zs' gj pb ab nb eb hz => ?_⟩
      have xj := gj.get gi.tab xi (nins _)
      refine ⟨_, rfl, x, M, dx, _, rfl, xj, T.cl, T.n6, by omega, ?_⟩
      have gk := (gi.trans gj).write (o := .ins M dx (putF "bars" (.ref bb) is)) xj (nins _) nx
      have lk := length_putF ("bars" : Str) (V.ref bb) is
      have fk6 : (putF ("bars" : Str) (V.ref bb) is).lookup ("bars" : Str) = some (V.ref bb) := by rw [lookup_putF, if_pos rfl]
      have fk5 : (putF ("bars" : Str) (V.ref bb) is).lookup ("_roads_by_name" : Str) = some (V.ref D) := by rw [lookup_putF, if_neg (by decide +kernel)]; exact fi5
      have fk4 : (putF ("bars" : Str) (V.ref bb) is).lookup ("roads" : Str) = some (V.ref rr) := by rw [lookup_putF, if_neg (by decide +kernel)]; exact fi4
      have fk3 : (putF ("bars" : Str) (V.ref bb) is).lookup ("places" : Str) = some (V.ref pp) := by rw [lookup_putF, if_neg (by decide +kernel)]; exact fi3
      have fk2 : (putF ("bars" : Str) (V.ref bb) is).lookup ("kinds" : Str) = some (V.ref kk) := by rw [lookup_putF, if_neg (by decide +kernel)]; exact fi2
      have fk1 : (putF ("bars" : Str) (V.ref bb) is).lookup ("day" : Str) = some (V.int d) := by rw [lookup_putF, if_neg (by decide +kernel)]; exact fi1
      have fk0 := noF (v := V.ref bb) fi0 (show ("bars" : Str) ∈ nmF by decide +kernel)
      generalize hjs : putF ("bars" : Str) (V.ref bb) is = js at gk lk fk0 fk1 fk2 fk3 fk4 fk5 fk6 ⊢
      have tb5 := tup_ins (o := .ins M dx js) xj eb
      have tr5 := tup_ins (o := .ins M dx js) xj (gj.tup gi.tab tr4)
      have tk5 := tup_ins (o := .ins M dx js) xj (gj.tup gi.tab tk4)
      have tp5 := tup_ins (o := .ins M dx js) xj (gj.tup gi.tab tp4)
      have hm5 : Paired (RoadAt K (L2.upd Hj x (.ins M dx js))) rs' ys := Paired.map' hm4 fun r v m => (m.grew gj gi.tab).ins xj
      have hz5 : Paired (GBar (L2.upd Hj x (.ins M dx js))) bs' zs' := Paired.map' hz fun b v m => m.ins xj
      have dR5 : DictR K (L2.upd Hj x (.ins M dx js)) D rs' := (dR.grew gj gi.tab).ins xj
      have lzs : zs'.length ≤ 40 := by rw [← Paired.len hz5, pb.length_eq]; exact ok.b.len
      generalize hHk : L2.upd Hj x (.ins M dx js) = Hk at gk tb5 tr5 tk5 tp5 hm5 hz5 dR5 ⊢
      have xk : Hk x = some (.ins M dx js) := by rw [← hHk]; exact upd_same
      -- _barred
      refine ⟨_, rfl, x, M, dx, _, _, rfl, xk, T.cl, T.n6, fk6, bb, rfl, ⟨_, SqT.of tb5⟩, fun D2 nD2 => dcT_tup (K := K) (a := bb) (xs := zs')
        (fun i H1 => Grew P Hk H1 ∧ ∃ kvs : List (List Key × V), H1 D2 = some (.dT kvs) ∧ kvs.length ≤ i ∧ ∀ a b : Str, (valV kvs [.inr a, .inr b]).isSome = true ↔ (a, b) ∈ bs'.take i)
        ⟨Grew.new gk.tab nD2, [], upd_same, Nat.le_refl _, fun a b => by simp [valV_nil]⟩ (fun i H1 _ p => SqT.of (p.1.tup gk.tab tb5)) (fun i y H1 hy p => ?_) (fun Hl p => ?_)⟩
      · obtain ⟨g, kvs, hD, hl, hin⟩ := p
        obtain ⟨b, hbi, m⟩ := Paired.at hz5 hy
        have hi : i < zs'.length := (List.getElem?_eq_some_iff.mp hy).1
        obtain ⟨t, rfl, et⟩ := m.grew g gk.tab
        refine ⟨rfl, _, rfl, kvs, [.inr b.1, .inr b.2], t, rfl, et, hD, ?_, g.write hD (fun _ z => by cases z) nD2, _, upd_same, ?_, fun a' b' => ?_⟩
        · rw [sizeLine_eq]; omega
        · have := length_putK kvs ([.inr b.1, .inr b.2] : List Key) (V.bl true)
          omega
        · rw [valV_put, List.take_succ, hbi, List.mem_append]
          by_cases e : ([.inr a', .inr b'] : List Key) = [.inr b.1, .inr b.2]
          · rw [if_pos e]
            have e1 : a' = b.1 := Sum.inr.inj (List.cons.inj e).1
            have e2 : b' = b.2 := Sum.inr.inj (List.cons.inj (List.cons.inj e).2).1
            subst e1 e2
            exact ⟨fun _ => .inr (List.mem_singleton.mpr rfl), fun _ => rfl⟩
          · rw [if_neg e, hin a' b']
            refine ⟨.inl, fun h => h.elim id fun h => ?_⟩
            have h' : (a', b') = b := List.mem_singleton.mp h
            subst h'
            exact absurd rfl e
      · obtain ⟨gl, kvs, hD, hl, hin⟩ := p
        have lb : bs'.length = zs'.length := Paired.len hz5
        rw [← lb, List.take_length] at hin
        have xl := gl.get gk.tab xk (nins _)
        refine ⟨_, rfl, x, M, dx, _, rfl, xl, T.cl, T.n7, by omega, ?_⟩
        have gm := (gk.trans gl).write (o := .ins M dx (putF "_barred" (.ref D2) js)) xl (nins _) nx
        refine k _ ks' ps' rs' bs' gm pk ak pp' ap kr ar pb ab ⟨dx, putF "_barred" (.ref D2) js, kk, pp, rr, D, bb, D2, ys, zs', upd_same, ?_⟩
        constructor
        · exact noF fk0 (by decide +kernel)
        · rw [lookup_putF, if_neg (by decide +kernel)]; exact fk1
        · rw [lookup_putF, if_neg (by decide +kernel)]; exact fk2
        · rw [lookup_putF, if_neg (by decide +kernel)]; exact fk3
        · rw [lookup_putF, if_neg (by decide +kernel)]; exact fk4
        · rw [lookup_putF, if_neg (by decide +kernel)]; exact fk5
        · rw [lookup_putF, if_neg (by decide +kernel)]; exact fk6
        · rw [lookup_putF, if_pos rfl]
        · exact tup_ins xl (gl.tup gk.tab tk5)
        · exact tup_ins xl (gl.tup gk.tab tp5)
        · exact tup_ins xl (gl.tup gk.tab tr5)
        · exact Paired.map' hm5 fun r v m => (m.grew gl gk.tab).ins xl
        · exact (dR5.grew gl gk.tab).ins xl
        · exact tup_ins xl (gl.tup gk.tab tb5)
        · exact Paired.map' hz5 fun b v m => (m.grew gl gk.tab).ins xl
        · exact ⟨kvs, by rw [upd_ne (insNe xl hD (fun _ _ _ z => by cases z))]; exact hD, hin⟩
theorem scWithP : FnScope ["self", "places", "roads", "bars"] ["self", "places", "roads", "bars"] (defScope sWithP) := ⟨rfl, rfl, rfl, by decide +kernel, rfl, by decide +kernel, by decide +kernel⟩
theorem ok_withP {f fI M : Addr} {fd fdI : FuncData} {mv : List Value} (F : Fun K "_with_parts" "Map._with_parts" sWithP f fd) (TM : TxtM K M) (Mk : L2.Mk K M fI) (gM : mg "Map" = some (.ref M))
    (GI : FnOk Pg w K mg base CX0 5 fI fdI pInit (spInitT K M P)) (kb : KBn K fdI pInit 1 kMap (fun us ws => gMap us mv ws) (fun vs zs => gMap vs (([] : List (Str × V)).map (·.2)) zs)) :
    FnOk Pg w K mg base CX0 7 f fd ["self", "places", "roads", "bars"] (spWithP K M P) := by
  refine F.ok scWithP (fun vs H Q E h => ?_) (fun cdv A outer s H vs Q E hr h => ?_)
  · obtain ⟨x, pl, ro, ba, d, ks, ps, ps0, rs, rs0, bs, bs0, xs, zs, rfl, _⟩ := h
    rfl
  · obtain ⟨x, pl, ro, ba, d, ks, ps, ps0, rs, rs0, bs, bs0, xs, zs, rfl, hM, hP, hpl, hro, hrs, hba, hbs, ok, k⟩ := h
    refine ⟨_, pss_one (ps_ret (pe_makeK0 Mk GI hr (by rfl) gM kb pass0 (pk_cons (pe_fld (pv 0) rfl) (pk_cons (pe_fld (pv 0) rfl) (pk_cons (pv 1) (pk_cons (pv 2) (pk_cons (pv 3) pk_nil))))))), ?_⟩
    obtain ⟨dx0, fs, kk, pp, rr, D, bb, D2, ys, zs0, hx, F7⟩ := id hM
    refine ⟨_, rfl, x, M, dx0, fs, .int d, rfl, hx, TM.cl, TM.n1, F7.f1, ?_⟩
    refine ⟨_, rfl, x, M, dx0, fs, .ref kk, rfl, hx, TM.cl, TM.n2, F7.f2, ?_⟩
    refine ⟨_, rfl, _, rfl, _, rfl, rfl, rfl, fun y dx ny ndx nex => ?_⟩
    have gx : Grew P H (L2.upd (L2.upd H dx (.own y)) y (.ins M dx [])) := (Grew.new hP ndx).put (by rw [upd_ne nex.symm]; exact ny)
    refine ⟨y, dx, kk, pl, ro, ba, d, ks, ps, rs, bs, xs, zs, H, rfl, gx, hP, ny, upd_same, SqT.of F7.k, SqT.of hpl, SqL.of hro, hrs, SqL.of hba, hbs, ok, fun H' ks' ps' rs' bs' g5 q1 q2 q3 q4 q5 q6 q7 q8 hm => ⟨rfl, ?_⟩⟩
    exact k H' y ks' ps' rs' bs' g5 ny q1 q2 q3 q4 q5 q6 q7 q8 hm
abbrev nWoR : List Str := ["self", "name", "roads", "bars", "road", "bar"]
theorem scWoR : FnScope nWoR ["self", "name"] (defScope sWithoutR) := ⟨rfl, rfl, rfl, by decide +kernel, rfl, by decide +kernel, by decide +kernel⟩
theorem ok_woR {f M U fC fW : Addr} {fd fdC fdW : FuncData} {t1 : Tok} (F : Fun K "without_road" "Map.without_road" sWithoutR f fd) (TM : TxtM K M) (hn : mg "NAME" = some (.int 0 t1))
    (mC : Meth K M "check_road" fC) (GC : FnOk Pg w K mg base (L2.CX Pg w) 3 fC fdC ["self", "name"] (spCheck K M U)) (bC : Binds K fdC ["self", "name"] [])
    (mW : Meth K M "_with_parts" fW) (GW : FnOk Pg w K mg base CX0 7 fW fdW ["self", "places", "roads", "bars"] (spWithP K M P)) (bW : Binds K fdW ["self", "places", "roads", "bars"] []) :
    FnOk Pg w K mg base (L2.CX Pg w) 8 f fd ["self", "name"] (spWithoutR K M P) := by
  refine F.okX scWoR (fun vs H Q E h => ?_) (fun cdv A outer s H vs Q E hr h => ?_)
  · obtain ⟨x, z, d, ks, ps, rs, bs, rfl, _⟩ := h
    rfl
  · obtain ⟨x, z, d, ks, ps, rs, bs, rfl, hz, hkn, hM, hP, ok, k⟩ := h
    refine ⟨_, pss_cons (ps_expr (pe_meth (E := E) (pv 0) TM.cl mC GC (hr.mono (by decide)) bC .nil (passes_call (takes_of rfl rfl rfl rfl) (fun _ _ _ _ h => h)) (pa_cons (pv 1) pa_nil)))
      (pss_cons (ps_setLc (i := 2) (own := [("road", 4)]) (g := gName 4) rfl scWoR.nd rfl rfl (sw_true rfl rfl rfl (by decide +kernel)) (pi_tup (pe_fld (pv 0) rfl)) (blkOk_by (N := nWoR) (sc := defScope sWithoutR) (by decide +kernel)) (fun _ _ _ _ _ => pg_name (i := 4) scWoR.nd rfl (Or.inl rfl))
          (fun _ _ _ _ _ => pts_one (pt_cmpR op_ne (pe_ix (r := rIxT K) ix_tup (pv 4) (pe_gI hn) (fun _ _ => rfl)) (pv 1) (nomark _))) (fun _ _ _ _ _ => pv 4))
      (pss_cons (ps_setLc (i := 3) (own := [("bar", 5)]) (g := gName 5) rfl scWoR.nd rfl rfl (sw_true rfl rfl rfl (by decide +kernel)) (pi_tup (pe_fld (pv 0) rfl)) (blkOk_by (N := nWoR) (sc := defScope sWithoutR) (by decide +kernel)) (fun _ _ _ _ _ => pg_name (i := 5) scWoR.nd rfl (Or.inl rfl))
          (fun _ _ _ _ _ => pts_one (pt_cmpR (r := rIn K true) op_notIn_seq (pv 1) (pv 5) (by rfl))) (fun _ _ _ _ _ => pv 5))
      (pss_one (ps_ret (pe_meth (pv 0) TM.cl mW GW hr bW .nil pass0 (pa_cons (pe_fld (pv 0) rfl) (pa_cons (pv 2) (pa_cons (pv 3) pa_nil)))))))), ?_⟩
    obtain ⟨dx0, fs, kk, pp, rr, D0, bb, D2, ys, zs0, hx, F7⟩ := id hM
    refine ⟨_, rfl, x, dx0, fs, rfl, hx, F7.f0 _ (by decide +kernel), _, rfl, x, z, d, ks, ps, rs, bs, rfl, hz, hM, fun _ => ?_, fun no => absurd hkn fun ⟨r, h1, h2⟩ => no r h1 h2⟩
    have okr := ok.r
    have okb := ok.b
    have hrs : Paired (GRoad K H) rs ys := Paired.map' F7.ry fun _ _ m => m.road
    refine ⟨_, rfl, x, M, dx0, fs, _, rfl, hx, TM.cl, TM.n4, F7.f4, rr, rfl, ⟨_, SqT.of F7.r⟩, fun N nN => lc_tup (K := K) (a := rr) (xs := ys) (fun j H1 => Grew P H H1 ∧ ∃ acc, H1 N = some (.lst acc) ∧ Paired (GRoad K H1) ((rs.take j).filter fun r => !decide (r.name = z)) acc)
      ⟨Grew.new hP nN, [], upd_same, .nil⟩ (fun j H1 _ p => SqT.of (p.1.tup hP F7.r)) (fun j y H1 hj p => ?_) (fun H1 p => ?_)⟩
    · obtain ⟨g1, acc, hN, hacc⟩ := p
      obtain ⟨r1, hr1, hroad0⟩ := Paired.at hrs hj
      have hroad := hroad0.keep (KeepT.grew g1 hP)
      have ft := filter_takeA (p := fun r : RoadD => !decide (r.name = z)) hr1
      have kt := fun (o : HO) => KeepT.lst (K := K) (o := o) hN
      have ly := Paired.len hacc
      have l60 := okr.len
      have lj : ((rs.take j).filter fun r => !decide (r.name = z)).length ≤ 60 := by
        refine Nat.le_trans (List.length_filter_le _ _) ?_
        rw [List.length_take]; omega
      obtain ⟨tt, u, hv, rfl, hT, hU, hH⟩ := id hroad
      refine ⟨rfl, _, rfl, tt, _, 0, .str r1.name, rfl, rfl, hT, rfl, _, rfl, rfl, _, rfl, ?_⟩
      refine ite2 (fun c => ?_) (fun c => ?_)
      · have c' : (!decide (r1.name = z)) = true := by simpa using c
        refine ⟨_, rfl, acc, hN, by rw [sizeLine_eq]; omega, g1.write hN (fun _ z => by cases z) nN, _, upd_same, ?_⟩
        rw [ft, if_pos c']
        exact Paired.snoc (Paired.map' hacc fun _ _ m => m.keep (kt _)) (hroad.keep (kt _))
      · have c' : ¬ (!decide (r1.name = z)) = true := by simpa using c
        refine ⟨g1, acc, hN, ?_⟩
        rw [ft, if_neg c', List.append_nil]
        exact hacc
    · obtain ⟨g1, acc, hN, hacc⟩ := p
      rw [← Paired.len hrs, List.take_length] at hacc
      have hx1 := g1.get hP hx (fun _ z => by cases z)
      have hb1 := g1.tup hP F7.b
      have hbz1 : Paired (GBar H1) bs zs0 := Paired.map' F7.bz fun _ _ m => m.grew g1 hP
      refine ⟨_, rfl, x, M, dx0, fs, _, rfl, hx1, TM.cl, TM.n6, F7.f6, bb, rfl, ⟨_, SqT.of hb1⟩, fun N2 nN2 => lc_tup (K := K) (a := bb) (xs := zs0) (fun j H2 => Grew P H1 H2 ∧ ∃ acc, H2 N2 = some (.lst acc) ∧ Paired (GBar H2) ((bs.take j).filter fun b => !decide (z = b.1 ∨ z = b.2)) acc)
        ⟨Grew.new g1.tab nN2, [], upd_same, .nil⟩ (fun j H2 _ p => SqT.of (p.1.tup g1.tab hb1)) (fun j y H2 hj p => ?_) (fun H2 p => ?_)⟩
      · obtain ⟨g2, acc2, hN2, hacc2⟩ := p
        obtain ⟨b1, hbj, hbar0⟩ := Paired.at hbz1 hj
        have hbar := hbar0.grew g2 g1.tab
        have ft := filter_takeA (p := fun b : Str × Str => !decide (z = b.1 ∨ z = b.2)) hbj
        have ly := Paired.len hacc2
        have l40 := okb.len
        have lj : ((bs.take j).filter fun b => !decide (z = b.1 ∨ z = b.2)).length ≤ 40 := by
          refine Nat.le_trans (List.length_filter_le _ _) ?_
          rw [List.length_take]; omega
        have kb : ∀ {o : HO} {b : Str × Str} {v : V}, GBar H2 b v → GBar (L2.upd H2 N2 o) b v := fun m => m.upd (fun xs z => by rw [hN2] at z; cases z)
        obtain ⟨t, rfl, ht⟩ := id hbar
        have ei : inV (.str z) [.str b1.1, .str b1.2] = decide (z = b1.1 ∨ z = b1.2) := by
          rw [show [V.str b1.1, V.str b1.2] = [b1.1, b1.2].map V.str from rfl, inV_dec]
          simp
        refine ⟨rfl, _, rfl, _, rfl, t, _, rfl, .inr (SqT.of ht), rfl, flat_strs [b1.1, b1.2], _, rfl, ?_⟩
        refine ite2 (fun c => ?_) (fun c => ?_)
        · have c' : (!decide (z = b1.1 ∨ z = b1.2)) = true := by rw [← ei]; exact c
          refine ⟨_, rfl, acc2, hN2, by rw [sizeLine_eq]; omega, g2.write hN2 (fun _ z => by cases z) nN2, _, upd_same, ?_⟩
          rw [ft, if_pos c']
          exact Paired.snoc (Paired.map' hacc2 fun _ _ m => kb m) (kb hbar)
        · have c' : ¬ (!decide (z = b1.1 ∨ z = b1.2)) = true := by rw [← ei]; exact c
          refine ⟨g2, acc2, hN2, ?_⟩
          rw [ft, if_neg c', List.append_nil]
          exact hacc2
      · obtain ⟨g2, acc2, hN2, hacc2⟩ := p
        rw [← Paired.len hbz1, List.take_length] at hacc2
        have g02 := g1.trans g2
        have hx2 := g02.get hP hx (fun _ z => by cases z)
        have hN1 := g2.lst g1.tab hN
        refine ⟨_, rfl, x, dx0, fs, rfl, hx2, F7.f0 _ (by decide +kernel), _, rfl, x, M, dx0, fs, _, rfl, hx2, TM.cl, TM.n3, F7.f3, _, rfl, _, rfl, x, pp, N, N2, d, ks, ps, ps, butR z rs, rs, butB z bs, bs, acc, acc2, rfl, hM.grew g02 hP, g02.tab, g02.tup hP F7.p, hN1, Paired.map' hacc (fun _ _ m => m.keep (KeepT.grew g2 g1.tab)), hN2, hacc2, ok.but z, fun H' y ks' ps' rs' bs' g5 ny q1 q2 q3 q4 q5 q6 q7 q8 hm => ?_⟩
        exact k H' y ks' ps' rs' bs' (g02.trans g5) (g02.free ny) q1 q2 q3 q4 q5 q6 q7 q8 hm
end
end W

set_option Elab.async false
set_option linter.all false
set_option maxRecDepth 100000
set_option maxHeartbeats 800000
namespace W
open PySem PySem.Spec PyProof.Rows L2 GxR MyG MyS
/-! ### isinstance of a caught error with fields -/
structure ExcD (K : PySem.W.Frag) (D : Addr) : Prop where
  cl : (PySem.W.clsIn K D).isSome = true
  hg : PySem.W.findIn K (.ref D) "__getattribute__" = some (some (.builtin "BaseException.__getattribute__"))
  hk : PySem.W.findIn K (.ref D) "__getattr__" = some none
  hs : PySem.W.subIn K (.ref D) (.type "BaseException") = some true
  ha : PySem.W.findIn K (.ref D) "__class__" = some (some (.builtin "object.__class__"))
  hn : PySem.W.specialIn K (.builtin "object.__class__") "__get__" = some (some (.builtin "getset_descriptor.__get__"))
  ht : PySem.W.takesIn K (.builtin "object.__class__") = some true
  hm : PySem.W.mroIn K D (.type "object") = some true
def rIsD (K : PySem.W.Frag) (D a : Addr) (cls : Value) (d : Option Addr) : List V → Hp → VK → Prop := fun xs H Q => ∃ (c : V) (cv : Value) (dd : Addr) (fs : List (Str × V)) (b : Bool), xs = [.ref a, c] ∧ cls = .ref D ∧ d = some dd ∧ (∀ u, RelV c u → u = cv) ∧ H dd = some (.xd fs) ∧ PySem.W.kitOne K (.ref D) cv = some b ∧ Q (.bl b) H
theorem call_isD {X : Cx} {a D : Addr} {cls : Value} {d : Option Addr} {oe : Obj} {pn : List (Addr × Obj)} (C : ExcD X.K D) (hz : Zc cls d oe) (hf : ∃ vs, oe.data = .fields vs) : CallR (X.suite a ((a, oe) :: pn)) (.builtin "isinstance") (rIsD X.K D a cls d) := by
  intro pins s σ H xs us Q I r h
  obtain ⟨c, cv, dd, fs, b, rfl, rfl, rfl, hcv, ed, e, q⟩ := h
  obtain ⟨u1, u2, rfl, r1, r2⟩ := vals2 r
  obtain rfl : u1 = Value.ref a := r1
  obtain rfl : u2 = cv := hcv _ r2
  obtain ⟨hget, _⟩ := I.pin (a, oe) (List.mem_append.mpr (.inl List.mem_cons_self))
  obtain ⟨vs, hd⟩ := hf
  have hx : ObjOk X.prog X.w H s.heap dd (.xd fs) := I.hok dd _ ed
  obtain ⟨mA, hns, hr⟩ := hx
  obtain ⟨od, ho, hl⟩ := lookIn_ns hns
  have J : PySem.W.InstAt s.heap a oe D (some od) := ⟨hget, hz.1, by unfold PySem.W.notCls; rw [hd] <;> rfl, by rw [hz.2]; exact ho⟩
  exact PySem.W.kia_one (PySem.W.kitx_exc C.cl C.hg C.hk C.hs C.ha C.hn C.ht C.hm) I.kIn J e (fun z => nomatch z) fun tk => ⟨.bl b, H, I.kept (t' := tk) fun _ _ z => z, rfl, q⟩
/-! ### super().__init__(..) of an own error: the bound __init__ called -/
section
variable {prog : Program} {w : World} {A : Around} {E : Value → Shared → Prop} {h : Heap} {g : Array GenState} {d : Drawn} {t : Nat} {os : OsState}
variable {nm q : Str} {C N : Addr} {bs bm bmB : List Value} {hdct : Bool} {sn : List Str} {sub : List Value} {ab : Bool} {col : Option Bool} {dd : Option Addr} {k0 k1 k2 k3 k5 : Option Value} {newId initId : String} {B : String}
theorem call_mw (FB : ExcBaseFacts B newId initId bmB) {u a t0 : Addr} {rest : List Value} {Q : Value → Shared → Prop} (hu : h.get? u = some (PySem.W.kxs_mw initId a)) (hC : h.get? C = some (excClassObj nm q C N bs bm hdct sn sub ab col dd k0 k1 k2 k3 k5 newId)) (he : h.get? a = some (PySem.HandSPX.excO C t0)) (hz : rest.length ≤ sizeLine)
    (hq : ∀ h' t1, (∀ b o, b ≠ a → h.get? b = some o → h'.get? b = some o) → h'.get? a = some (PySem.HandSPX.excO C t1) → Q .none ⟨h', g, d, t, os⟩) :
    wpAny (model prog w) A (call (.ref u) rest) Q E ⟨h, g, d, t, os⟩ := by
  refine wpAny_call (codeAny_of_tree ?_)
  show wpAny _ A.in1 (callAny (.ref u) ⟨rest, []⟩) _ _ _
  simp only [callAny]
  refine wpAny_bind (wpAny_load hu ?_)
  simp only [PySem.W.kxs_mw, show (Value.type "method-wrapper" == Value.type "method" || Value.type "method-wrapper" == Value.type "builtin_function_or_method" || Value.type "method-wrapper" == Value.type "method-wrapper") = true by decide, if_true]
  refine PySem.W.KFB.if_so (by decide) ?_
  refine wpAny_bind (PySem.W.check_bound_init FB.toExcCallFacts hC he rfl ?_)
  refine wpAny_bind (wpAny_pure (wpAny_pure ?_))
  refine ⟨plainId_quiet FB.init.plain _, codeAny_builtin FB.initEntry ?_⟩
  exact PySem.W.exc_init_tree (cls := .ref C) (t0 := t0) (dv := none) (c2 := .none) (c3 := .none) (b4 := .bool false) he hz fun h' k e1 _ => hq h' _ k e1
end
/-! ### UnknownName.__init__ -/
abbrev sUInit : Stmt := inClass (top 5) 0
def scFake : Scope := { kind := .function, names := [("self", .local), ("name", .local)], isGenerator := false, isCoroutine := false, more := [] }
theorem scFakeOk : FnScope ["self", "name"] ["self", "name"] scFake := ⟨rfl, rfl, rfl, by decide +kernel, rfl, by decide +kernel, by decide +kernel⟩
section
variable {Pg : Program} {w : World} {K : PySem.W.Frag} {mg : Str → Option Value} {base : Heap}
abbrev fdU (dV kV doc pm : Value) (an : Option Addr) (cda : Addr) (ct : Value) (cc : Addr) : FuncData := PySem.W.fnX "__init__" "UnknownName.__init__" (defArgs sUInit) (defBody sUInit) (defScope sUInit) [("__class__", cc)] dV kV doc pm an (.ref cda) ct
theorem ok_uinit {CX : CXT} {f U cc cda : Addr} {oc ccl cl dV kV doc pm ct : Value} {od cdd cld an : Option Addr} {osl ccs csl : Array (Option Value)} {vs : Array Value} {file : Str} {tf : Tok}
    (lk : K.lookup f = some ⟨oc, od, .func (fdU dV kV doc pm an cda ct cc), osl⟩) (hcd : PySem.W.codeIn K (.ref cda) "UnknownName.__init__" = true) (hcode : K.lookup cda = some ⟨ccl, cdd, .fields vs, ccs⟩) (hvs : vs[2]? = some (.str file tf)) (hfile : ((Pg.main.file : Str) == file) = true)
    (hcell : K.lookup cc = some ⟨cl, cld, .cell (some (.ref U)), csl⟩) (hsuper : mg "super" = none) (htop : (Pg.main.scope.names.lookup ("super" : Str)).isSome = false)
    (TU : OexC K U) (hmU : PySem.W.mroIn K U (.ref U) = some true) (hop : PySem.W.nsIn K cStatics "thirdparty.any" = some none) (hsi : PySem.W.ks_superIn K U U "__init__" = some (some (.builtin "ValueError.__init__"))) (hsV : PySem.W.subIn K (.ref U) (.type "ValueError") = some true)
    (hno : PySem.W.findIn K (.ref U) "name" = some none) : FnOk Pg w K mg base CX 1 f (fdU dV kV doc pm an cda ct cc) ["self", "name"] (spUInit K U) := by
  have len : ∀ vs H Q E, spUInit K U vs H Q E → vs.length = 2 := by
    rintro vs H Q E ⟨a, z, rfl, _⟩
    rfl
  refine ⟨len, fun A outer s H args us vs2 Q E hr e0 hb r hsp => ?_⟩
  obtain ⟨a, z, rfl, hz, ea, kq⟩ := hsp
  obtain ⟨u1, u2, rfl, r1, r2⟩ := vals2 r
  obtain rfl : u1 = Value.ref a := r1
  obtain ⟨tk, rfl⟩ := r2
  have KX : K.In s.heap := e0.mod.kin.keeps fun b o e => (e0.bs b o e).1
  have lim : s.heap.NoLimit := e0.mod.nolimit.keeps fun b o e => (e0.bs b o e).1
  obtain ⟨cnm, cq, cN, cbs, cbm, csn, csub, cab, ccol, cdd2, c0, c1, c2, c3, c5, hC, hbm⟩ := TU.cls
  refine PySem.ks_codeAny_call_defAt (body := defBody sUInit) (binds := (["self", "name"] : List Str).zip [Value.ref a, Value.str z tk]) hr.depth (KX _ _ lk) rfl lim (PySem.W.codeRec_of KX hcd) rfl hb (show ∀ x ∈ (defScope sUInit).names, x.2 ≠ .cell by decide +kernel) (by
    intro y hy
    rcases List.mem_cons.mp hy with e | hy
    · subst e; show (defScope sUInit).names.lookup ("self" : Str) = some .local; decide +kernel
    · rw [List.mem_singleton.mp hy]; show (defScope sUInit).names.lookup ("name" : Str) = some .local; decide +kernel) (fun h0 hns hk => ?_) rfl rfl rfl
  have em : (fun x => ((["self", "name"] : List Str).zip [Value.ref a, Value.str z tk]).reverse.lookup x) = bindL (envOfC "UnknownName.__init__" scFake s.heap.objs.size f (.ref cda)).kindOf ((["self", "name"] : List Str).zip [Value.ref a, Value.str z tk]) fun _ => none := by
    funext y
    show ([(("name" : Str), Value.str z tk), ("self", Value.ref a)] : List (Str × Value)).lookup y = if y = "name" then some (Value.str z tk) else if y = "self" then some (Value.ref a) else none
    by_cases h1 : y = ("name" : Str)
    · subst h1; rw [if_pos rfl]; rfl
    · rw [if_neg h1]
      by_cases h2 : y = ("self" : Str)
      · subst h2; rw [if_pos rfl]; rfl
      · rw [if_neg h2]
        simp [List.lookup, h1, h2, beq_eq_false_iff_ne.mpr h1, beq_eq_false_iff_ne.mpr h2]
  have I : Inv (cxOf CX Pg w K mg base ["self", "name"] "UnknownName.__init__" scFake f (.ref cda) A outer s H E) [] (L2.start ["self", "name"] [.ref a, .str z]) H { s with heap := h0, toks := s.toks + 2 } :=
    inv_start scFakeOk hr.hd e0 rfl (.cons rfl (.cons ⟨tk, rfl⟩ .nil)) ⟨⟨⟨h0, s.toks + 2, rfl⟩, by rw [← em]; exact hns, hk, Nat.le_refl _⟩, fun n c e => (by cases e), List.Pairwise.nil, fun n c e => (by cases e)⟩
  refine PySem.ks_wpAt_execs_cons (PySem.ks_wpAt_Expr_any (PySem.ks_wpAt_MethodCall ?_))
  have K0 : K.In h0 := KX.keeps hk
  obtain ⟨t1, ho⟩ := exo_at e0.hok ea
  have ho0 : h0.get? a = some (PySem.HandSPX.excO U t1) := hk a _ ho
  have hcl : PySem.W.clsIn K U = some { name := cnm, bases := cbs, mro := .ref U :: cbm, ns := cN, qualname := cq, hasDict := true, slotNames := csn, subclasses := csub, abstract := cab, collection := ccol, hasDel := false } := by unfold PySem.W.clsIn; rw [hC] <;> rfl
  obtain ⟨mb, hb1, hb2⟩ := e0.mod.blt
  have bk0 : ∀ b o, base.get? b = some o → h0.get? b = some o := fun b o e => hk b o (e0.bs b o e).1
  have m1 : (fun x => ((["self", "name"] : List Str).zip [Value.ref a, Value.str z tk]).reverse.lookup x) "self" = some (Value.ref a) := rfl
  refine PySem.ks_wpAt_super_base (f := f) (fd := fdU dV kV doc pm an cda ct cc) (show (defScope sUInit).names.lookup ("super" : Str) = some .globalImplicit by decide +kernel) (show (defScope sUInit).names.lookup ("__class__" : Str) = some .free by decide +kernel) (by decide) rfl (hk _ _ (KX _ _ lk)) rfl rfl rfl (K0 _ _ hcode) rfl hvs hfile htop ?_
  refine PySem.W.ks_loadName_global rfl (show (defScope sUInit).names.lookup ("super" : Str) = some .globalImplicit by decide +kernel) (Calls.loadGlobal_builtin (e0.mod.glob.keeps bk0) hsuper (hb1.keeps bk0) ((hb2 "super" (by decide)).trans (by decide +kernel)) ⟨rfl, ?_⟩)
  refine wpAny_loadName_free rfl (show (defScope sUInit).names.lookup ("__class__" : Str) = some .free by decide +kernel) rfl ⟨_, K0 _ _ hcell, rfl⟩ ?_
  refine wpAny_loadName_local rfl (show (defScope sUInit).names.lookup ("self" : Str) = some .local by decide +kernel) hns m1 ?_
  refine PySem.ks_wpAny_isType_cls (K0 _ _ hC) rfl ⟨rfl, ?_⟩
  refine PySem.ks_wpAny_call_super (K0 _ _ hC) rfl ho0 rfl (fun c e => by cases e) (PySem.W.looks_mroIn K0 hmU) (fun h1 e1 k1 => ?_)
  have K1 : K.In h1 := K0.keeps k1
  have J1 : PySem.W.InstAt h1 a (PySem.HandSPX.excO U t1) U none := ⟨k1 _ _ ho0, rfl, rfl, trivial⟩
  have hsi' := hsi
  unfold PySem.W.ks_superIn at hsi'
  rw [hcl] at hsi'
  refine PySem.W.kxs_getMethod PySem.W.kxs_ValueError e1 (PySem.W.looks_opaque K1 hop) (l₀ := .ref U :: cbm) (fun A Q E s k q => wpAny_bind ((PySem.W.looks_clsIn K1 hcl) A _ E s k (wpAny_pure q))) rfl K1 hsi' (J1.type.andThen (PySem.W.looks_subIn K1 hsV)) (PySem.W.ks_ne K1 J1 hcl) (by decide) ?_
  have I1 : Inv (cxOf CX Pg w K mg base ["self", "name"] "UnknownName.__init__" scFake f (.ref cda) A outer s H E) [] (L2.start ["self", "name"] [.ref a, .str z]) H ⟨h1.push (PySem.W.kxs_mw "ValueError.__init__" a), s.gens, s.drawn, s.toks + 2 + 1, s.os⟩ :=
    I.kept (t' := s.toks + 2 + 1) fun b o q => Heap.get?_push_of_some _ (k1 b o q)
  have hu1 : (h1.push (PySem.W.kxs_mw "ValueError.__init__" a)).get? h1.objs.size = some (PySem.W.kxs_mw "ValueError.__init__" a) := Heap.get?_push_size _ rfl
  have look : ∀ {x : Str} {v : V} {st : Shared} {σ0 : L2.St} {H0 : Hp} (j : Nat), Inv (cxOf CX Pg w K mg base ["self", "name"] "UnknownName.__init__" scFake f (.ref cda) A outer s H E) [] σ0 H0 st → (["self", "name"] : List Str)[j]? = some x → σ0[j]? = some (some v) → scFake.names.lookup x = some .local → (defScope sUInit).names.lookup x = some .local →
      (x == ("__debug__" : Str)) = false → ∀ (p : Pos) (Q' : Value → Shared → Prop) (E' : Value → Shared → Prop) (A' : Around), (∀ u, RelV v u → Q' u st) → wpAny (model Pg w) A' (eval (.Name x p) (callEnv (fdU dV kV doc pm an cda ct cc) s.heap.objs.size f)) Q' E' st := by
    intro x v st σ0 H0 j J e1 e2 e3 e4 hdb p Q' E' A' hQ
    obtain ⟨m, hn, hm⟩ := J.loc
    obtain ⟨u, ru, lu⟩ := hm j x v e1 e2 (.inl e3)
    have e5 : m x = some u := by
      rcases lu with ⟨_, q⟩ | ⟨q, _⟩
      · exact q
      · have q' : scFake.names.lookup x = some .cell ∨ scFake.names.lookup x = some .free := q
        rw [e3] at q'
        rcases q' with q' | q' <;> cases q'
    exact wpAny_Name (wpAny_loadName_local rfl e4 hn e5 (hQ u ru)) hdb
  refine PySem.W.kxs_callWith (i := "ValueError.__init__") (x := a) (by rfl) (Calls.evalArgs_plain ?_)
  refine PyProof.Rows.args_cons (wpAny_JoinedStr ?_) rfl
  refine Calls.Constant_str ⟨_, _, rfl, (show (Str.empty ++ Str.ofString "unknown name: ").length ≤ sizeLine by decide +kernel), ?_⟩
  have I2 := I1.tok (s.toks + 2 + 1 + 1)
  refine wpAny_FormattedValue_plain (look 1 I2 rfl rfl rfl (by decide +kernel) (by decide) _ _ _ _ fun u ru => ?_)
  obtain ⟨tk2, rfl⟩ := ru
  have hz2 : z.length ≤ sizeLine := by rw [sizeLine_eq]; omega
  have hlen : ((Str.empty ++ Str.ofString "unknown name: ") ++ z).length ≤ sizeLine := by
    rw [PySem.Str.length_append, sizeLine_eq]
    have e : (Str.empty ++ (Str.ofString "unknown name: ")).length ≤ 100 := by decide +kernel
    omega
  have eu : L2.upd H a (exo a U none) = H := by
    funext b
    by_cases hb : b = a
    · rw [hb, upd_same, ea]
    · rw [upd_ne hb]
  have hC1 : (h1.push (PySem.W.kxs_mw "ValueError.__init__" a)).get? U = _ := Heap.get?_push_of_some _ (K1 _ _ hC)
  have he1 : (h1.push (PySem.W.kxs_mw "ValueError.__init__" a)).get? a = some (PySem.HandSPX.excO U t1) := Heap.get?_push_of_some _ (k1 _ _ ho0)
  refine wpAny_formatField_str ?_ ?_ hz2
  all_goals
    refine ⟨z, _, rfl, hlen, hlen, PyProof.Rows.args_nil ⟨hu1, ?_⟩⟩
    refine call_mw PySem.F.excBase_ValueError hu1 hC1 he1 (by show 1 ≤ sizeLine; decide) (fun h5 t5 k5 e5 => ?_)
    have J5 := I1.write (t' := s.toks + 2 + 1 + 1 + 1) (x := a) (e := a) (o := exo a U none) (by rw [ea]; exact True.intro) (.inl rfl) k5 ⟨_, e5⟩ (exo_ok e5)
    rw [eu] at J5
    have J6 := fun tk => J5.tok tk
    refine PySem.ks_wpAt_execs_cons (PySem.ks_wpAt_Assign_Attr (PySem.wpAt_of_wpAny (look 1 (J6 _) rfl rfl rfl (by decide +kernel) (by decide) _ _ _ _ fun u2 r2 => look 0 (J6 _) rfl rfl rfl (by decide +kernel) (by decide) _ _ _ _ fun u3 r3 => ?_)))
    obtain rfl : u3 = Value.ref a := r3
    refine ost_new TU (J6 _) ea hno r2 fun dx s' nd ne J' => ?_
    refine PySem.wpAt_of_wpAny (wpAny_pure ?_)
    exact ⟨.non, _, J'.os, J'.bare, J'.base, J'.hok, rfl, kq dx nd ne⟩
end
end W

set_option Elab.async false
set_option linter.all false
set_option maxRecDepth 100000
set_option maxHeartbeats 800000
namespace W
open PySem PySem.Spec PyProof.Rows L2 GxR MyG MyS MyR
/-! ### _law_is_integer, _law_soon -/
abbrev sLTrip : Stmt := top 73
abbrev sLaw : Stmt := top 74
theorem enter_is {d t : Int} {hs : Option (List (Int × Int))} (h : hs ≠ some []) : ∃ e, enterD d hs t = some e := by
  cases hs with
  | none => exact ⟨_, rfl⟩
  | some ps =>
    cases ps with
    | nil => exact absurd rfl h
    | cons q ps =>
      show ∃ e, (match enterF (t % d) (q :: ps) with | some v => some (t - t % d + v) | none => some (t - t % d + d + q.1)) = some e
      cases enterF (t % d) (q :: ps) with
      | none => exact ⟨_, rfl⟩
      | some v => exact ⟨_, rfl⟩
theorem enter_ge {d t e : Int} {hs : Option (List (Int × Int))} (hd : 1 ≤ d) (ok : HoursOk d hs) (h : enterD d hs t = some e) : t ≤ e := by
  cases hs with
  | none =>
    cases h
    exact Int.le_refl _
  | some ps =>
    have q := enterD_first (t := t) hd ok.2
    rw [h] at q
    obtain ⟨k, k0, _, ek, _⟩ := q
    omega
def spIsInt : Sp := fun vs H Q _ => ∃ i : Int, vs = [.int i] ∧ Q (.bl true) H
def spLWhen (K : PySem.W.Frag) (f : Int → Option (List (Int × Int)) → Int → Option Int) : Sp := fun vs H Q _ => ∃ (d t : Int) (hs : Option (List (Int × Int))) (hv : V), vs = [.int d, hv, .int t] ∧ 1 ≤ d ∧ d ≤ 1440 ∧ 0 ≤ t ∧ GHours K H hs hv ∧ HoursOk d hs ∧ Q (optV (f d hs t)) H
def candF (d t : Int) (p : Int × Int) : Int := if p.2 ≤ t % d then t + d - t % d + p.1 else t + (if p.1 - t % d > 0 then p.1 - t % d else 0)
def Best (f : Int × Int → Int) (l : List (Int × Int)) : Option Int → Prop
  | none => l = []
  | some b => (∃ p ∈ l, f p = b) ∧ ∀ p ∈ l, b ≤ f p
theorem enterF_mem {m w : Int} : ∀ {ps : List (Int × Int)}, enterF m ps = some w → ∃ p ∈ ps, m < p.2 ∧ w = if p.1 > m then p.1 else m
  | [], h => by cases h
  | p :: ps, h => by
    unfold enterF at h
    by_cases c : m < p.2
    · rw [if_pos c] at h
      exact ⟨p, List.mem_cons_self, c, (Option.some.inj h).symm⟩
    · rw [if_neg c] at h
      obtain ⟨q, hq, r⟩ := enterF_mem h
      exact ⟨q, List.mem_cons_of_mem _ hq, r⟩
theorem enterF_shut {m : Int} : ∀ {ps : List (Int × Int)}, enterF m ps = none → ∀ p ∈ ps, p.2 ≤ m
  | [], _, p, hp => by cases hp
  | q :: ps, h, p, hp => by
    unfold enterF at h
    by_cases c : m < q.2
    · rw [if_pos c] at h
      cases h
    · rw [if_neg c] at h
      rcases List.mem_cons.mp hp with e | hp
      · rw [e]; omega
      · exact enterF_shut h p hp
theorem hours_in {d : Int} : ∀ {ps : List (Int × Int)} {c : Int}, hoursOk d c ps → ∀ p ∈ ps, c < p.1 ∧ p.1 < p.2 ∧ p.2 ≤ d
  | [], _, _, p, hp => by cases hp
  | q :: ps, c, h, p, hp => by
    obtain ⟨h1, h2, h3, h4⟩ := h
    rcases List.mem_cons.mp hp with e | hp
    · rw [e]; exact ⟨h1, h2, h3⟩
    · obtain ⟨a, b, e⟩ := hours_in h4 p hp
      exact ⟨by omega, b, e⟩
theorem open_of {ps : List (Int × Int)} {p : Int × Int} {m : Int} (h : p ∈ ps) (h1 : p.1 ≤ m) (h2 : m < p.2) : openB ps m = true := List.any_eq_true.mpr ⟨p, h, open_one h1 h2⟩
theorem soon_end {d t : Int} {ps : List (Int × Int)} {b : Option Int} (hd : 1 ≤ d) (ok : hoursOk d (-1) ps) (h : Best (candF d t) ps b) : b = enterD d (some ps) t := by
  have m0 : 0 ≤ t % d := Int.emod_nonneg _ (by omega)
  have m1 : t % d < d := Int.emod_lt_of_pos _ (by omega)
  cases ps with
  | nil =>
    cases b with
    | none => rfl
    | some v =>
      obtain ⟨⟨p, hp, _⟩, _⟩ := h
      cases hp
  | cons q l =>
    cases b with
    | none => cases h
    | some v =>
      obtain ⟨⟨p, hp, ep⟩, hmin⟩ := h
      obtain ⟨E, eE⟩ := enter_is (d := d) (t := t) (hs := some (q :: l)) (by simp)
      rw [eE]
      have fo := enterD_first (t := t) hd ok
      rw [eE] at fo
      obtain ⟨k, k0, k1, ek, _, shut⟩ := fo
      have lo : ∀ p ∈ q :: l, E ≤ candF d t p := fun p hp => by
        obtain ⟨a, b, c⟩ := hours_in ok p hp
        refine Int.not_lt.mp fun lt => ?_
        by_cases cm : p.2 ≤ t % d
        · have e : candF d t p = t + (d - t % d + p.1) := by unfold candF; rw [if_pos cm]; omega
          have s := shut (d - t % d + p.1) (by omega) (by omega)
          rw [show t + (d - t % d + p.1) = t - t % d + (d + p.1) by omega, mod_baseU hd (by omega) (by omega)] at s
          rw [open_of hp (by omega) (by omega)] at s
          cases s
        · by_cases cp : p.1 - t % d > 0
          · have e : candF d t p = t + (p.1 - t % d) := by unfold candF; rw [if_neg cm, if_pos cp]
            have s := shut (p.1 - t % d) (by omega) (by omega)
            rw [show t + (p.1 - t % d) = t - t % d + p.1 by omega, mod_base hd (by omega) (by omega)] at s
            rw [open_of hp (by omega) (by omega)] at s
            cases s
          · have e : candF d t p = t + 0 := by unfold candF; rw [if_neg cm, if_neg cp]
            have s := shut 0 (Int.le_refl _) (by omega)
            rw [Int.add_zero, open_of hp (by omega) (by omega)] at s
            cases s
      have hit : ∃ p ∈ q :: l, candF d t p = E := by
        have e2 : (match enterF (t % d) (q :: l) with | some v => some (t - t % d + v) | none => some (t - t % d + d + q.1)) = some E := eE
        cases c : enterF (t % d) (q :: l) with
        | some w =>
          rw [c] at e2
          obtain ⟨p, hp, lt, ew⟩ := enterF_mem c
          refine ⟨p, hp, ?_⟩
          have e3 : t - t % d + w = E := Option.some.inj e2
          unfold candF
          rw [if_neg (by omega), ← e3, ew]
          by_cases cp : p.1 > t % d
          · rw [if_pos cp, if_pos (by omega)]; omega
          · rw [if_neg cp, if_neg (by omega)]; omega
        | none =>
          rw [c] at e2
          have e3 : t - t % d + d + q.1 = E := Option.some.inj e2
          refine ⟨q, List.mem_cons_self, ?_⟩
          unfold candF
          rw [if_pos (enterF_shut c q List.mem_cons_self)]
          omega
      obtain ⟨p', hp', ep'⟩ := hit
      have a := hmin p' hp'
      have b := lo p hp
      congr 1
      omega
def bestN (f : Int × Int → Int) (p : Int × Int) : Option Int → Option Int
  | none => some (f p)
  | some v => if f p < v then some (f p) else some v
theorem best_step {f : Int × Int → Int} {ps : List (Int × Int)} {i : Nat} {p : Int × Int} {b : Option Int} (e : ps[i]? = some p) (h : Best f (ps.take i) b) :
    Best f (ps.take (i + 1)) (bestN f p b) := by
  have et : ps.take (i + 1) = ps.take i ++ [p] := by rw [List.take_succ, e]; rfl
  rw [et]
  cases b with
  | none =>
    have h' : ps.take i = [] := h
    rw [h']
    exact ⟨⟨p, by simp, rfl⟩, fun q hq => by
      obtain rfl : q = p := by simpa using hq
      exact Int.le_refl _⟩
  | some v =>
    obtain ⟨⟨q, hq, eq⟩, hm⟩ := h
    show Best f _ (if f p < v then some (f p) else some v)
    by_cases c : f p < v
    · rw [if_pos c]
      refine ⟨⟨p, by simp, rfl⟩, fun z hz => ?_⟩
      rcases List.mem_append.mp hz with hz | hz
      · have := hm z hz; omega
      · rw [List.mem_singleton.mp hz]; exact Int.le_refl _
    · rw [if_neg c]
      refine ⟨⟨q, List.mem_append_left _ hq, eq⟩, fun z hz => ?_⟩
      rcases List.mem_append.mp hz with hz | hz
      · exact hm z hz
      · rw [List.mem_singleton.mp hz]; omega
section
variable {Pg : Program} {w : World} {K : PySem.W.Frag} {mg : Str → Option Value} {base : Heap} {C P : Addr}
end
end W

set_option Elab.async false
set_option linter.all false
set_option maxRecDepth 100000
set_option maxHeartbeats 2000000
namespace W
open PySem PySem.Spec PyProof.Rows L2 GxR MyG MyS MyR
/-! ### _law_waits, _law_over -/
abbrev sLWaits : Stmt := top 66
abbrev sLOver : Stmt := top 67
def candW (d t : Int) (p : Int × Int) : Int := candF d t p - t
theorem best_shift {d t : Int} {l : List (Int × Int)} {b : Option Int} (h : Best (candW d t) l b) : Best (candF d t) l (b.map (t + ·)) := by
  cases b with
  | none => exact h
  | some v =>
    obtain ⟨⟨p, hp, e⟩, hm⟩ := h
    refine ⟨⟨p, hp, ?_⟩, fun q hq => ?_⟩
    · have e' : candF d t p - t = v := e
      show candF d t p = t + v
      omega
    · have := hm q hq
      have e' : candW d t q = candF d t q - t := rfl
      show t + v ≤ _
      omega
theorem wait_is {d t : Int} {p : Int × Int} (h0 : 0 ≤ t % d) (h1 : -1 < p.1) (h2 : p.1 < p.2) :
    (p.1 ≤ t % d → t % d < p.2 → candW d t p = 0) ∧ (¬ (p.1 ≤ t % d ∧ t % d < p.2) → p.1 - t % d < 0 → candW d t p = p.1 - t % d + d) ∧ (¬ (p.1 ≤ t % d ∧ t % d < p.2) → ¬ p.1 - t % d < 0 → candW d t p = p.1 - t % d) := by
  unfold candW candF
  refine ⟨fun a b => ?_, fun a b => ?_, fun a b => ?_⟩
  · rw [if_neg (by omega), if_neg (by omega)]; omega
  · rw [if_pos (by omega)]; omega
  · rw [if_neg (by omega)]
    by_cases c : p.1 - t % d > 0
    · rw [if_pos c]; omega
    · rw [if_neg c]; omega

theorem wait_mod {d t : Int} {p : Int × Int} (hd : 1 ≤ d) (h1 : -1 < p.1) (h2 : p.1 < p.2) (h3 : p.2 ≤ d) (nc : ¬ (p.1 ≤ t % d ∧ t % d < p.2)) : candW d t p = (p.1 - t % d) % d := by
  have m0 : 0 ≤ t % d := Int.emod_nonneg _ (by omega)
  have m1 : t % d < d := Int.emod_lt_of_pos _ (by omega)
  obtain ⟨_, w2, w3⟩ := wait_is (d := d) (t := t) (p := p) m0 h1 h2
  by_cases c : p.1 - t % d < 0
  · have h := Int.add_emod_right (p.1 - t % d) d
    rw [w2 nc c, ← h]
    exact (Int.emod_eq_of_lt (by omega) (by omega)).symm
  · rw [w3 nc c]
    exact (Int.emod_eq_of_lt (by omega) (by omega)).symm
/-- the wait at a road -/
def waitO (d : Int) (r : RoadD) (t : Int) : Option Int := (enterD d r.hours t).map (· - t)
def spLWaits (K : PySem.W.Frag) (P : Addr) : Sp := fun vs H Q _ => ∃ (v : V) (d t : Int) (r : RoadD), vs = [v, .int d, .int t] ∧ GRoad K H r v ∧ 1 ≤ d ∧ d ≤ 1440 ∧ 0 ≤ t ∧ HoursOk d r.hours ∧ TabG H P ∧ ∀ H', Grew P H H' → Q (optV (waitO d r t)) H'
def spLOver (K : PySem.W.Frag) (P : Addr) : Sp := fun vs H Q _ => ∃ (v : V) (d t : Int) (r : RoadD), vs = [v, .int d, .int t] ∧ GRoad K H r v ∧ 1 ≤ d ∧ d ≤ 1440 ∧ 0 ≤ t ∧ HoursOk d r.hours ∧ TabG H P ∧ ∀ H', Grew P H H' → Q (optV (arriveD d r t)) H'
section
variable {Pg : Program} {w : World} {K : PySem.W.Frag} {mg : Str → Option Value} {base : Heap} {C P : Addr}
abbrev nWaits : List Str := ["road", "day", "moment", "waits", "minute", "opened", "closed"]
theorem scWaits : FnScope nWaits ["road", "day", "moment"] (defScope sLWaits) := ⟨rfl, rfl, rfl, by decide +kernel, rfl, by decide +kernel, by decide +kernel⟩
theorem ok_lwaits {f : Addr} {fd : FuncData} (F : Fun K "_law_waits" "_law_waits" sLWaits f fd) (hi : mg "int" = none) (hl : mg "len" = none) (hm : mg "min" = none) : FnOk Pg w K mg base CX0 1 f fd ["road", "day", "moment"] (spLWaits K P) := by
  refine F.ok scWaits (fun vs H Q E h => ?_) (fun cdv A outer s H vs Q E hr h => ?_)
  · obtain ⟨v, d, t, r, rfl, _⟩ := h
    rfl
  · obtain ⟨v, d, t, r, rfl, hG, hd1, hd2, ht, ho, hP, k⟩ := h
    refine ⟨_, pss_cons (ps_if (pt_cmp (pc_isN (pe_ix ix_tup (pv 0) pe_int (fun _ _ => rfl)))) (pss_one (ps_ret pe_int)) pss_nil)
      (pss_cons (ps_set (i := 3) scWaits.nd rfl (Or.inl rfl) (pe_lst pa_nil))
      (pss_cons (ps_set (i := 4) scWaits.nd rfl (Or.inl rfl) (pe_op op_mod (pe_callTy call_int1 (by rfl) hi (by decide +kernel) (pa_cons (pv 2) pa_nil)) (pv 1)))
      (pss_cons (ps_for PassesOwn.never rfl (pi_tup (pe_ix ix_tup (pv 0) pe_int (fun _ _ => rfl))) (pg_tup (by rfl) (pgs_cons (pg_name (i := 5) scWaits.nd rfl (.inl rfl)) (pgs_cons (pg_name (i := 6) scWaits.nd rfl (.inl rfl)) pgs_nil)))
        (pss_one (ps_if (pt_chain op_le op_lt (pv 5) (pv 4) (pv 6))
          (pss_one (ps_expr (pe_bm PySem.F.plainAttrs_list PySem.F.slot_list_append PySem.F.type_list_append mt_append (pv 3) (pa_cons pe_int pa_nil))))
          (pss_one (ps_expr (pe_bm PySem.F.plainAttrs_list PySem.F.slot_list_append PySem.F.type_list_append mt_append (pv 3) (pa_cons (pe_op op_mod (pe_callTy call_int1 (by rfl) hi (by decide +kernel) (pa_cons (pe_op op_sub (pv 5) (pv 4)) pa_nil)) (pv 1)) pa_nil)))))))
      (pss_cons (ps_if (pt_cmpR op_eq (pe_callB call_len_seq (by rfl) hl PySem.boot_len (pa_cons (pv 3) pa_nil)) pe_int (nomark _)) (pss_one (ps_ret pe_non)) pss_nil)
      (pss_one (ps_ret (pe_callB (cr_min rfl) (by rfl) hm (by decide +kernel) (pa_cons (pv 3) pa_nil)))))))), ?_⟩
    obtain ⟨tt, u, hv, rfl, hT, hU, hH⟩ := hG
    obtain ⟨nm, st, go, mi, us, hs⟩ := r
    refine ⟨_, rfl, tt, _, 5, hv, rfl, rfl, hT, rfl, _, rfl, ?_⟩
    cases hs with
    | none =>
      obtain rfl : hv = .non := hH
      refine iteT ?_
      have e : optV (waitO d ⟨nm, st, go, mi, us, none⟩ t) = .int 0 := by
        show V.int (t - t) = V.int 0
        rw [Int.sub_self]
      exact e ▸ k H (Grew.refl hP)
    | some ps =>
      obtain ⟨l, xs, rfl, hS, hGs⟩ := hH
      have m0 : 0 ≤ t % d := Int.emod_nonneg _ (by omega)
      refine iteF ⟨Nat.zero_le _, fun p np => ?_⟩
      have g1 := Grew.new hP (o := .lst []) np
      have hp0 : (L2.upd H p (.lst [])) p = some (.lst []) := upd_same
      generalize L2.upd H p (.lst []) = H1 at g1 hp0
      have lps : ps.length ≤ 4 := ho.1
      have lx := Paired.len hGs
      refine ⟨_, rfl, .inl ⟨_, rfl, _, rfl, _, _, rfl, rfl, (show (0 : Int) < d by omega), ?_⟩⟩
      refine ⟨_, rfl, tt, _, 5, .ref l, rfl, rfl, g1.sqT hP hT, rfl, l, rfl, ⟨_, g1.sqT hP hS⟩, for_tup (K := K) (a := l) (xs := xs) (fun i σ H' => ∃ (v5 v6 : Option V), σ = [some (.ref tt), some (.int d), some (.int t), some (.ref p), some (.int (t % d)), v5, v6] ∧ Grew P H H' ∧ H' p = some (.lst (((ps.take i).map (candW d t)).map V.int)))
        ⟨none, none, rfl, g1, hp0⟩ (fun i σ H' _ ⟨_, _, _, g, _⟩ => g.sqT hP hS) ?_ ?_⟩
      · rintro i y σ H' hi2 ⟨v5, v6, rfl, g, hp⟩
        obtain ⟨pr, hpr, q, rfl, hq⟩ := Paired.at hGs hi2
        obtain ⟨p1, p2, p3⟩ := hours_in ho.2 pr (List.mem_of_getElem? hpr)
        obtain ⟨w1, _, _⟩ := wait_is (d := d) (t := t) m0 p1 p2
        have hil := (List.getElem?_eq_some_iff.mp hpr).1
        have et : ps.take (i + 1) = ps.take i ++ [pr] := by rw [List.take_succ, hpr]; rfl
        have fin : ∀ x : Int, x = candW d t pr → ∃ (v5 v6 : Option V), ([some (.ref tt), some (.int d), some (.int t), some (.ref p), some (.int (t % d)), some (.int pr.1), some (.int pr.2)] : L2.St) = [some (.ref tt), some (.int d), some (.int t), some (.ref p), some (.int (t % d)), v5, v6] ∧ Grew P H (L2.upd H' p (.lst (((ps.take i).map (candW d t)).map V.int ++ [.int x]))) ∧ (L2.upd H' p (.lst (((ps.take i).map (candW d t)).map V.int ++ [.int x]))) p = some (.lst (((ps.take (i + 1)).map (candW d t)).map V.int)) := fun x e => by
          refine ⟨_, _, rfl, g.write hp (fun _ z => by cases z) np, ?_⟩
          rw [upd_same, et, e, List.map_append, List.map_append]
          rfl
        have bound : (((ps.take i).map (candW d t)).map V.int).length < sizeLine := by
          rw [List.length_map, List.length_map, List.length_take, sizeLine_eq]; omega
        refine ⟨q, _, rfl, g.sqT hP hq, rfl, _, _, rfl, _, _, rfl, rfl, ?_⟩
        have no : ¬ (pr.1 ≤ t % d ∧ t % d < pr.2) → rAppend (.ref p) [.int ((pr.1 - t % d) % d)] H' (fun _ H' => ∃ (v5 v6 : Option V), ([some (.ref tt), some (.int d), some (.int t), some (.ref p), some (.int (t % d)), some (.int pr.1), some (.int pr.2)] : L2.St) = [some (.ref tt), some (.int d), some (.int t), some (.ref p), some (.int (t % d)), v5, v6] ∧ Grew P H H' ∧ H' p = some (.lst (((ps.take (i + 1)).map (candW d t)).map V.int))) := fun nc =>
          ⟨p, _, _, rfl, rfl, hp, bound, fin _ (wait_mod hd1 p1 p2 p3 nc).symm⟩
        refine ⟨_, rfl, _, rfl, _, _, rfl, rfl, _, rfl, ?_⟩
        refine ite2 (fun c1 => ?_) (fun c1 => ?_)
        · refine ⟨_, rfl, _, _, rfl, rfl, _, rfl, ?_⟩
          refine ite2 (fun c2 => ?_) (fun c2 => ?_)
          · exact ⟨_, rfl, .inl ⟨rfl, _, SqL.of hp⟩, p, _, _, rfl, rfl, hp, bound, fin 0 (w1 (of_decide_eq_true c1) (of_decide_eq_true c2)).symm⟩
          · exact ⟨_, rfl, .inl ⟨rfl, _, SqL.of hp⟩, _, rfl, _, rfl, _, _, rfl, rfl, .inl ⟨_, rfl, _, rfl, _, _, rfl, rfl, (show (0 : Int) < d by omega), no fun h => c2 (decide_eq_true h.2)⟩⟩
        · refine ⟨_, rfl, iteF ?_⟩
          exact ⟨_, rfl, .inl ⟨rfl, _, SqL.of hp⟩, _, rfl, _, rfl, _, _, rfl, rfl, .inl ⟨_, rfl, _, rfl, _, _, rfl, rfl, (show (0 : Int) < d by omega), no fun h => c1 (decide_eq_true h.1)⟩⟩
      · rintro σ H' ⟨v5, v6, rfl, g, hp⟩
        rw [← lx, List.take_length] at hp
        refine ⟨_, rfl, p, _, rfl, .inl (SqL.of hp), rfl, _, rfl, ?_⟩
        cases ps with
        | nil => exact if_t rfl (k H' g)
        | cons pr ps =>
          refine if_f (decide_eq_false fun e => by
            have e2 := V.int.inj e
            rw [List.length_map, List.length_map, List.length_cons] at e2
            omega) ?_
          refine ⟨_, rfl, p, _, rfl, SqL.of hp, by rw [List.length_map, List.length_cons]; omega, fun m hm hmin => ?_⟩
          obtain ⟨pb, hpb, em⟩ := List.mem_map.mp hm
          have b : Best (candW d t) (pr :: ps) (some m) := ⟨⟨pb, hpb, em⟩, fun x hx => hmin _ (List.mem_map.mpr ⟨x, hx, rfl⟩)⟩
          have e := soon_end hd1 ho.2 (best_shift b)
          have ek : optV (waitO d ⟨nm, st, go, mi, us, some (pr :: ps)⟩ t) = .int m := by
            unfold waitO
            show optV ((enterD d (some (pr :: ps)) t).map (· - t)) = _
            rw [← e]
            show V.int (t + m - t) = _
            rw [show t + m - t = m by omega]
          exact ek ▸ k H' g
theorem scOver : FnScope ["road", "day", "moment", "wait"] ["road", "day", "moment"] (defScope sLOver) := ⟨rfl, rfl, rfl, by decide +kernel, rfl, by decide +kernel, by decide +kernel⟩
theorem ok_lover {f fW : Addr} {fd fdW : FuncData} (F : Fun K "_law_over" "_law_over" sLOver f fd)
    (GW : FnOk Pg w K mg base CX0 1 fW fdW ["road", "day", "moment"] (spLWaits K P)) (gW : mg "_law_waits" = some (.ref fW)) (kW : PySem.W.keepIn K (.ref fW) = true) (bW : Binds K fdW ["road", "day", "moment"] []) :
    FnOk Pg w K mg base CX0 2 f fd ["road", "day", "moment"] (spLOver K P) := by
  refine F.ok scOver (fun vs H Q E h => ?_) (fun cdv A outer s H vs Q E hr h => ?_)
  · obtain ⟨v, d, t, r, rfl, _⟩ := h
    rfl
  · obtain ⟨v, d, t, r, rfl, hG, hd1, hd2, ht, ho, hP, k⟩ := h
    refine ⟨_, C8.pss_cut (ps_set (i := 3) scOver.nd rfl (Or.inl rfl) (pe_call GW hr (by rfl) gW kW bW .nil pass0 (pa_cons (pv 0) (pa_cons (pv 1) (pa_cons (pv 2) pa_nil)))))
      (pss_cons (ps_if (pt_cmp (pc_isN (pv 3))) (pss_one (ps_ret pe_non)) pss_nil)
      (pss_one (ps_ret (pe_op op_add (pe_op op_add (pv 2) (pv 3)) (pe_ix ix_tup (pv 0) pe_int (fun _ _ => rfl)))))), ?_⟩
    refine ⟨fun σ H' => σ = [some v, some (.int d), some (.int t), some (optV (waitO d r t))] ∧ Grew P H H', ?_, ?_⟩
    · exact ⟨_, rfl, _, rfl, _, rfl, v, d, t, r, rfl, hG, hd1, hd2, ht, ho, hP, fun H' g => ⟨rfl, g⟩⟩
    rintro σ H1 ⟨rfl, g⟩
    have hG1 := hG.keep (KeepT.grew g hP)
    obtain ⟨tt, u, hv, rfl, hT, hU, hH⟩ := hG1
    have ea : arriveD d r t = (enterD d r.hours t).map (· + r.minutes) := rfl
    unfold waitO
    cases e : enterD d r.hours t with
    | none =>
      refine ⟨_, rfl, _, rfl, iteT ?_⟩
      have q := k H1 g
      rw [ea, e] at q
      exact q
    | some b =>
      refine ⟨_, rfl, _, rfl, iteF ?_⟩
      have q := k H1 g
      rw [ea, e] at q
      refine ⟨_, rfl, _, rfl, _, _, rfl, rfl, _, rfl, tt, _, 3, _, rfl, rfl, hT, rfl, _, _, rfl, rfl, ?_⟩
      have e2 : t + (b - t) + r.minutes = b + r.minutes := by omega
      show Q (V.int (t + (b - t) + r.minutes)) H1
      rw [e2]
      exact q
end
end W

set_option Elab.async false
set_option linter.all false
set_option maxRecDepth 100000
/-! x in t, x not in t, where t is a tuple of data of any depth -/
namespace MyH
open PySem PySem.Spec PyProof.Rows L2
section
variable {X : Cx}
def rInDT (K : PySem.W.Frag) : R2 := fun x y H Q => ∃ d ds, Dp K H x d ∧ Dp K H y (.tuple ds) ∧ SeqAt.shaped d = true ∧ SeqAt.shaped (.tuple ds) = true ∧ Q (.bl (ds.any fun z => PyData.eqv z d)) H
def rNotInDT (K : PySem.W.Frag) : R2 := fun x y H Q => ∃ d ds, Dp K H x d ∧ Dp K H y (.tuple ds) ∧ SeqAt.shaped d = true ∧ SeqAt.shaped (.tuple ds) = true ∧ Q (.bl (!ds.any fun z => PyData.eqv z d)) H
theorem op_inDT (hu : X.A.units + 65 < cLine) : OpR X (compareOp .In) (rInDT X.K) := by
  intro pins s σ H x y v u Q I rx ry h
  obtain ⟨d, ds, hd, he, sd, se, q⟩ := h
  obtain ⟨as, r1⟩ := Dp.reads I d x v hd rx
  obtain ⟨bs, r2⟩ := Dp.reads I (.tuple ds) y u he ry
  exact SeqAt.in_tuple_reads r2 r1 (SeqAt.canLay_of_shaped se) (SeqAt.canLay_of_shaped sd) (room_in_shaped sd hu) ⟨.bl _, H, I, rfl, q⟩
theorem op_notInDT (hu : X.A.units + 65 < cLine) : OpR X (compareOp .NotIn) (rNotInDT X.K) := by
  intro pins s σ H x y v u Q I rx ry h
  obtain ⟨d, ds, hd, he, sd, se, q⟩ := h
  obtain ⟨as, r1⟩ := Dp.reads I d x v hd rx
  obtain ⟨bs, r2⟩ := Dp.reads I (.tuple ds) y u he ry
  exact SeqAt.notIn_tuple_reads r2 r1 (SeqAt.canLay_of_shaped se) (SeqAt.canLay_of_shaped sd) (room_in_shaped sd hu) ⟨.bl _, H, I, rfl, q⟩
end
end MyH

set_option Elab.async false
set_option linter.all false
set_option maxRecDepth 100000
set_option maxHeartbeats 2000000
namespace W
open PySem PySem.Spec PyProof.Rows L2 GxR MyG MyS MyR
/-! ### _law_open, _law_follows, _law_without, _law_trip -/
abbrev sLOpen : Stmt := top 68
abbrev sLFollows : Stmt := top 69
abbrev sLWithout : Stmt := top 72
def OkB (bs : List (Str × Str)) : Prop := ∀ b ∈ bs, PyData.strOk b.1 = true ∧ PyData.strOk b.2 = true
def barD (b : Str × Str) : PyData := .tuple [.str b.1, .str b.2]
theorem dp_bars {K : PySem.W.Frag} {H : Hp} : ∀ {bs : List (Str × Str)} {xs : List V}, Paired (GBar H) bs xs → DpAll K H xs (bs.map barD)
  | _, _, .nil => .nil
  | _, _, .cons (a := p) ⟨t, e, q⟩ r => by
    subst e
    exact .cons (.tup (SqT.of q) (.cons (.str p.1) (.cons (.str p.2) .nil))) (dp_bars r)
theorem canLay_bars : ∀ bs : List (Str × Str), OkB bs → PyData.canLayAll0 (bs.map barD) = true
  | [], _ => rfl
  | p :: bs, h => by
    have a := h p List.mem_cons_self
    simp [PyData.canLayAll0, PyData.canLay0, barD, canLay_bars bs (fun b hb => h b (List.mem_cons_of_mem _ hb)), a.1, a.2]
theorem depth_bars : ∀ bs : List (Str × Str), PyData.depthAll (bs.map barD) ≤ 2
  | [] => by simp [PyData.depthAll]
  | p :: bs => by
    have i := depth_bars bs
    simp only [List.map_cons, PyData.depthAll, PyData.depth, barD]
    simp [PyData.depthAll, PyData.depth]
    omega
theorem eqv_bar (a b : Str × Str) : PyData.eqv (barD a) (barD b) = decide (a = b) := by
  obtain ⟨a1, a2⟩ := a
  obtain ⟨b1, b2⟩ := b
  have e : ∀ x y : Str, (x == y) = decide (x = y) := fun x y => by by_cases h : x = y <;> simp [h]
  simp [barD, PyData.eqv, PyData.eqvAll, Prod.mk.injEq, Bool.decide_and, e]
theorem any_bars (bs : List (Str × Str)) (b : Str × Str) : ((bs.map barD).any fun z => PyData.eqv z (barD b)) = decide (b ∈ bs) := by
  rw [List.any_map]
  by_cases h : b ∈ bs
  · rw [decide_eq_true h, List.any_eq_true]
    exact ⟨b, h, by simp [eqv_bar]⟩
  · rw [decide_eq_false h, List.any_eq_false]
    intro c hc e
    have e2 : PyData.eqv (barD c) (barD b) = true := e
    rw [eqv_bar] at e2
    exact h (of_decide_eq_true e2 ▸ hc)
theorem shaped_bar {b : Str × Str} (h : PyData.strOk b.1 = true ∧ PyData.strOk b.2 = true) : SeqAt.shaped (barD b) = true := by
  have c := canLay_bars [b] (fun x hx => by rw [List.mem_singleton.mp hx]; exact h)
  have d := depth_bars [b]
  unfold SeqAt.shaped
  rw [Bool.and_eq_true]
  refine ⟨by simpa [PyData.canLayAll0] using c, decide_eq_true ?_⟩
  simp [PyData.depthAll] at d
  omega
theorem u65 {k : Nat} {A : Around} (h : Room k A) : A.units + 65 < cLine := by
  have := h.un
  omega
theorem goodC_lt {c : Nat} (h : goodC c = true) : c < 0x110000 := by
  unfold goodC at h
  rw [Bool.or_eq_true, decide_eq_true_eq, decide_eq_true_eq] at h
  have a : zLet.cps.toList.all (fun c => decide (c < 0x110000)) = true := by decide +kernel
  have b : zDig.cps.toList.all (fun c => decide (c < 0x110000)) = true := by decide +kernel
  rcases h with h | h
  · exact of_decide_eq_true (List.all_eq_true.mp a c h)
  · exact of_decide_eq_true (List.all_eq_true.mp b c h)
theorem isNm_ok {z : Str} (h : isNm z = true) : PyData.strOk z = true := by
  unfold isNm at h
  simp only [Bool.and_eq_true] at h
  have q := h.2
  unfold PyData.strOk
  rw [← Array.all_toList]
  exact List.all_eq_true.mpr fun c hc => decide_eq_true (goodC_lt (List.all_eq_true.mp q c hc))
theorem okB_of {d : Int} {ks ps : List Str} {rs : List RoadD} {bs : List (Str × Str)} (ok : PartsOk d ks ps rs bs) : OkB bs := fun b hb => by
  obtain ⟨r1, h1, r2, h2, e1, e2, _⟩ := ok.b.ok b hb
  have a := List.all_eq_true.mp ok.r.nm r1.name (List.mem_map.mpr ⟨r1, h1, rfl⟩)
  have c := List.all_eq_true.mp ok.r.nm r2.name (List.mem_map.mpr ⟨r2, h2, rfl⟩)
  rw [e1, e2]
  exact ⟨isNm_ok a, isNm_ok c⟩
theorem isNm_ne {z : Str} (h : isNm z = true) : z ≠ Str.empty := fun e => by
  rw [e] at h
  have : isNm Str.empty = false := by decide +kernel
  rw [this] at h
  cases h
theorem shaped_barsT {bs : List (Str × Str)} (h : OkB bs) : SeqAt.shaped (PyData.tuple (bs.map barD)) = true := by
  have c := canLay_bars bs h
  have d := depth_bars bs
  unfold SeqAt.shaped
  rw [Bool.and_eq_true]
  refine ⟨by simpa [PyData.canLay0] using c, decide_eq_true ?_⟩
  simp only [PyData.depth]
  omega
def spLFollows (K : PySem.W.Frag) (P : Addr) : Sp := fun vs H Q _ => ∃ (q : Addr) (v1 v2 : V) (d : Int) (ps ks : List Str) (rs : List RoadD) (bs : List (Str × Str)) (r1 r2 : RoadD), vs = [.ref q, v1, v2] ∧ PartsT K H q d ks ps rs bs ∧ OkB bs ∧ PyData.strOk r1.name = true ∧ PyData.strOk r2.name = true ∧ GRoad K H r1 v1 ∧ GRoad K H r2 v2 ∧ TabG H P ∧
  ∀ H', Grew P H H' → Q (.bl (decide (r1.goal = r2.start) && !decide ((r1.name, r2.name) ∈ bs))) H'
section
variable {Pg : Program} {w : World} {K : PySem.W.Frag} {mg : Str → Option Value} {base : Heap} {C P : Addr}
theorem scLFollows : FnScope ["parts", "one", "other"] ["parts", "one", "other"] (defScope sLFollows) := ⟨rfl, rfl, rfl, by decide +kernel, rfl, by decide +kernel, by decide +kernel⟩
theorem ok_lfollows {f : Addr} {fd : FuncData} (F : Fun K "_law_follows" "_law_follows" sLFollows f fd) : FnOk Pg w K mg base CX0 1 f fd ["parts", "one", "other"] (spLFollows K P) := by
  refine F.ok scLFollows (fun vs H Q E h => ?_) (fun cdv A outer s H vs Q E hr h => ?_)
  · obtain ⟨q, v1, v2, d, ps, ks, rs, bs, r1, r2, rfl, _⟩ := h
    rfl
  · obtain ⟨q, v1, v2, d, ps, ks, rs, bs, r1, r2, rfl, hq, hob, h1, h2, G1, G2, hP, k⟩ := h
    refine ⟨_, pss_one (ps_ret (pe_and (pe_cmpR op_eq (pe_ix ix_tup (pv 1) pe_int (fun _ _ => rfl)) (pe_ix ix_tup (pv 2) pe_int (fun _ _ => rfl)) (nomark _))
      (pe_one (pe_cmpR (MyH.op_notInDT (u65 hr)) (pe_tup (pa_cons (pe_ix ix_tup (pv 1) pe_int (fun _ _ => rfl)) (pa_cons (pe_ix ix_tup (pv 2) pe_int (fun _ _ => rfl)) pa_nil))) (pe_ix ix_list (pv 0) pe_int (fun _ _ => rfl)) (by rfl))))), ?_⟩
    obtain ⟨t1, u1, w1, rfl, hT1, _, _⟩ := G1
    obtain ⟨t2, u2, w2, rfl, hT2, _, _⟩ := G2
    refine ⟨_, rfl, t1, _, 2, _, rfl, rfl, hT1, rfl, _, rfl, t2, _, 1, _, rfl, rfl, hT2, rfl, rfl, _, rfl, ?_⟩
    by_cases c : r1.goal = r2.start
    · refine if_t (decide_eq_true (congrArg V.str c)) ?_
      refine ⟨_, rfl, t1, _, 0, _, rfl, rfl, hT1, rfl, _, rfl, t2, _, 0, _, rfl, rfl, hT2, rfl, by show 2 ≤ sizeLine; decide, fun q5 nq5 => ?_⟩
      have g := Grew.new hP (o := .tup [.str r1.name, .str r2.name]) nq5
      obtain ⟨ki, pl, ro, ba, xs, zs, eq, eki, epl, ero, hrs, eba, hbs⟩ := PartsT.grew hq g hP
      refine ⟨_, rfl, q, _, 4, _, rfl, rfl, SqL.of eq, rfl, barD (r1.name, r2.name), bs.map barD, .tup (SqT.of upd_same) (.cons (.str _) (.cons (.str _) .nil)), .tup (SqT.of eba) (dp_bars hbs), shaped_bar ⟨h1, h2⟩, shaped_barsT hob, ?_⟩
      rw [any_bars]
      have q' := k _ g
      rw [decide_eq_true c, Bool.true_and] at q'
      exact q'
    · refine if_f (decide_eq_false fun e => c (by injection e)) ?_
      have q' := k H (Grew.refl hP)
      rw [decide_eq_false c, Bool.false_and] at q'
      exact q'
end
end W

set_option Elab.async false
set_option linter.all false
set_option maxRecDepth 100000
set_option maxHeartbeats 2000000
namespace W
open PySem PySem.Spec PyProof.Rows L2 GxR MyG MyS MyR
/-! ### _law_open, _law_without, _law_trip -/
theorem fsnoc {α : Type} {p : α → Bool} {l : List α} {i : Nat} {r : α} (e : l[i]? = some r) : (l.take (i + 1)).filter p = (l.take i).filter p ++ (if p r = true then [r] else []) := by
  have et : l.take (i + 1) = l.take i ++ [r] := by rw [List.take_succ, e]; rfl
  rw [et, List.filter_append]
  congr 1
  rw [List.filter_cons]
  rfl
def spLOpen (K : PySem.W.Frag) (P : Addr) : Sp := fun vs H Q _ => ∃ (q : Addr) (kind : Str) (d : Int) (ps ks : List Str) (rs : List RoadD) (bs : List (Str × Str)), vs = [.ref q, .str kind] ∧ PartsT K H q d ks ps rs bs ∧ rs.length ≤ 60 ∧ TabG H P ∧
  ∀ H' L ys, Grew P H H' → H L = none → H' L = some (.lst ys) → Paired (RoadAt K H') (rs.filter (everB kind)) ys → Q (.ref L) H'
def spLWithout (K : PySem.W.Frag) (P : Addr) : Sp := fun vs H Q _ => ∃ (q L : Addr) (z : Str) (d : Int) (ps ks : List Str) (rs : List RoadD) (bs : List (Str × Str)), vs = [.ref q, .ref L] ∧ H L = some (.lst [.str z]) ∧ PartsT K H q d ks ps rs bs ∧ rs.length ≤ 60 ∧ bs.length ≤ 60 ∧ TabG H P ∧
  ∀ H' q', Grew P H H' → H q' = none → PartsT K H' q' d ks ps (butR z rs) (butB z bs) → Q (.ref q') H'
def spLTripG (K : PySem.W.Frag) (P : Addr) : Sp := fun vs H Q _ => ∃ (q a : Addr) (at_ d : Int) (ps ks : List Str) (rs : List RoadD) (bs : List (Str × Str)) (ns : List Int), vs = [.ref a, .int at_, .ref q] ∧ PartsT K H q d ks ps rs bs ∧ 1 ≤ ks.length ∧ 1 ≤ ps.length ∧ SqL K H a (ns.map V.int) ∧ Sm ns ∧ 0 ≤ at_ ∧ at_ + 5 ≤ ns.length ∧ TabG H P ∧
  ∀ H' tp kind start goal t, Grew P H H' → kind ∈ ks → start ∈ ps → goal ∈ ps → 0 ≤ t → t ≤ 99999 → H' tp = some (.tup [.str kind, .str start, .str goal, .int t]) → Q (.ref tp) H'
theorem fac4 (j : Int) (h0 : 0 ≤ j) (h3 : j < 4) : ∃ c : Int, atI [V.int 0, V.int 1, V.int 1, V.int 99] j = some (.int c) ∧ 0 ≤ c ∧ c ≤ 99 := by
  have : j = 0 ∨ j = 1 ∨ j = 2 ∨ j = 3 := by omega
  rcases this with rfl | rfl | rfl | rfl <;> exact ⟨_, rfl, by decide, by decide⟩
section
variable {Pg : Program} {w : World} {K : PySem.W.Frag} {mg : Str → Option Value} {base : Heap} {C P : Addr}
abbrev nOpen : List Str := ["parts", "kind", "road"]
theorem scOpen : FnScope nOpen ["parts", "kind"] (defScope sLOpen) := ⟨rfl, rfl, rfl, by decide +kernel, rfl, by decide +kernel, by decide +kernel⟩
theorem ok_lopen {f : Addr} {fd : FuncData} (F : Fun K "_law_open" "_law_open" sLOpen f fd) : FnOk Pg w K mg base CX0 1 f fd ["parts", "kind"] (spLOpen K P) := by
  refine F.ok scOpen (fun vs H Q E h => ?_) (fun cdv A outer s H vs Q E hr h => ?_)
  · obtain ⟨q, kind, d, ps, ks, rs, bs, rfl, _⟩ := h
    rfl
  · obtain ⟨q, kind, d, ps, ks, rs, bs, rfl, hq, l60, hP, k⟩ := h
    refine ⟨_, pss_one (ps_ret (pe_lc (own := [("road", 2)]) (g := gName 2) rfl scOpen.nd (pi_tup (pe_ix ix_list (pv 0) pe_int (fun _ _ => rfl))) (blkOk_by (N := nOpen) (sc := defScope sLOpen) (by decide +kernel)) (fun _ _ _ _ _ => pg_name (i := 2) scOpen.nd rfl (Or.inl rfl))
        (fun _ _ _ _ _ => pts_one (PW.pt (pw_and (pt_cmpR (r := rIn K false) op_in_seq (pv 1) (pe_ix (r := rIxT K) ix_tup (pv 2) pe_int (fun _ _ => rfl)) (by rfl)) (pw_and1 (pt_cmpR (r := rNeD K) (op_neD hr.units) (pe_ix (r := rIxT K) ix_tup (pv 2) pe_int (fun _ _ => rfl)) (pe_tup pa_nil) (nomark _)))))) (fun _ _ _ _ _ => pv 2))), ?_⟩
    obtain ⟨ki, pl, ro, ba, xs, zs, eq, eki, epl, ero, hrs, eba, hbs⟩ := hq
    have lx := Paired.len hrs
    refine ⟨_, rfl, q, _, 3, .ref ro, rfl, rfl, SqL.of eq, rfl, ro, rfl, ⟨_, SqT.of ero⟩, fun D nD => lc_tup (K := K) (a := ro) (xs := xs) (fun i H' => Grew P H H' ∧ ∃ acc, H' D = some (.lst acc) ∧ Paired (RoadAt K H') ((rs.take i).filter (everB kind)) acc)
      ⟨Grew.new hP nD, [], upd_same, .nil⟩ (fun i H' _ h => SqT.of (h.1.tup hP ero)) (fun i v H1 hv h => ?_) (fun H1 h => ?_)⟩
    · obtain ⟨g, acc, hD, hacc⟩ := h
      obtain ⟨r, hr0, hrt⟩ := Paired.at hrs hv
      have hrt1 := hrt.grew g hP
      have hil := (List.getElem?_eq_some_iff.mp hr0).1
      have la := Paired.len hacc
      have lf := List.length_filter_le (everB kind) (rs.take i)
      rw [List.length_take] at lf
      have et := fsnoc (p := everB kind) hr0
      have hrt2 := hrt1
      obtain ⟨t, u, hh, rfl, e1, e2, e3⟩ := hrt1
      refine ⟨rfl, _, rfl, _, rfl, t, _, 4, .ref u, rfl, rfl, SqT.of e1, rfl, u, _, rfl, .inr (SqT.of e2), rfl, flat_strs _, _, rfl, ?_⟩
      rw [if_neg (by decide : ¬ false = true), inV_dec]
      by_cases c2 : kind ∈ r.users
      · refine if_t (decide_eq_true c2) ?_
        refine ⟨_, rfl, t, _, 5, hh, rfl, rfl, SqT.of e1, rfl, Nat.zero_le _, fun e0 ne0 => ?_⟩
        have g0 := g.trans (Grew.new g.tab (o := .tup []) ne0)
        have hD0 := (Grew.new g.tab (o := .tup []) ne0).lst g.tab hD
        have gk := KeepT.grew (K := K) (Grew.new g.tab (o := .tup []) ne0) g.tab
        have acc0 : Paired (RoadAt K (L2.upd H1 e0 (.tup []))) ((rs.take i).filter (everB kind)) acc := Paired.map' hacc fun _ _ m => m.grew (Grew.new g.tab ne0) g.tab
        have hr0' := hrt2.grew (Grew.new g.tab (o := .tup []) ne0) g.tab
        have d0 : Dp K (L2.upd H1 e0 (.tup [])) (.ref e0) (.tuple []) := .tup (SqT.of upd_same) .nil
        have dh := dp_hours (e3.keep gk)
        generalize L2.upd H1 e0 (.tup []) = H2 at g0 hD0 acc0 hr0' d0 dh
        refine ⟨_, _, dh, d0, shaped_hours _, shaped_pairs [], _, rfl, ?_⟩
        show if (!PyData.eqv (hoursD r.hours) (PyData.tuple [])) = true then _ else _
        rw [eqv_hours]
        have eb : everB kind r = !decide (r.hours = some []) := by
          unfold everB
          rw [decide_eq_true c2, Bool.true_and]
        rw [← eb]
        cases ce : everB kind r with
        | true =>
          rw [ce, if_pos rfl] at et
          refine if_t rfl ⟨_, rfl, acc, hD0, by rw [sizeLine_eq]; omega, g0.write hD0 (fun _ z => by cases z) nD, acc ++ [.ref t], upd_same, ?_⟩
          have up : ∀ {r : RoadD} {v : V}, RoadAt K H2 r v → RoadAt K (L2.upd H2 D (.lst (acc ++ [.ref t]))) r v := fun m => m.upd (fun xs z => by rw [hD0] at z; cases z) (KeepT.lst hD0)
          rw [et]
          exact Paired.snoc (Paired.map' acc0 fun _ _ m => up m) (up hr0')
        | false =>
          rw [ce, if_neg (by decide), List.append_nil] at et
          exact if_f rfl ⟨g0, acc, hD0, by rw [et]; exact acc0⟩
      · have ce : everB kind r = false := by
          unfold everB
          rw [decide_eq_false c2, Bool.false_and]
        rw [ce, if_neg (by decide), List.append_nil] at et
        exact if_f (decide_eq_false c2) (if_f rfl ⟨g, acc, hD, by rw [et]; exact hacc⟩)
    · obtain ⟨g, acc, hD, hacc⟩ := h
      rw [← lx, List.take_length] at hacc
      exact k H1 D acc g nD hD hacc
abbrev nWithout : List Str := ["parts", "names", "roads", "bars", "road", "bar"]
theorem scWithout : FnScope nWithout ["parts", "names"] (defScope sLWithout) := ⟨rfl, rfl, rfl, by decide +kernel, rfl, by decide +kernel, by decide +kernel⟩
theorem in_one (y z : Str) : inV (.str y) [.str z] = decide (y = z) := by
  have h := inV_dec y [z]
  rw [List.map_cons, List.map_nil] at h
  rw [h]
  by_cases c : y = z
  · simp [c]
  · simp [c]
theorem ok_lwithout {f : Addr} {fd : FuncData} (F : Fun K "_law_without" "_law_without" sLWithout f fd) (ht : mg "tuple" = none) : FnOk Pg w K mg base CX0 1 f fd ["parts", "names"] (spLWithout K P) := by
  refine F.ok scWithout (fun vs H Q E h => ?_) (fun cdv A outer s H vs Q E hr h => ?_)
  · obtain ⟨q, L, z, d, ps, ks, rs, bs, rfl, _⟩ := h
    rfl
  · obtain ⟨q, L, z, d, ps, ks, rs, bs, rfl, hL, hq, l60, b60, hP, k⟩ := h
    refine ⟨_, C8.pss_cut (ps_set (i := 2) scWithout.nd rfl (Or.inl rfl) (pe_callTy call_tuple_of (by rfl) ht (by decide +kernel) (pa_cons (pe_lc (own := [("road", 4)]) (g := gName 4) rfl scWithout.nd (pi_tup (pe_ix ix_list (pv 0) pe_int (fun _ _ => rfl))) (blkOk_by (N := nWithout) (sc := defScope sLWithout) (by decide +kernel)) (fun _ _ _ _ _ => pg_name (i := 4) scWithout.nd rfl (Or.inl rfl))
        (fun _ _ _ _ _ => pts_one (pt_cmpR (r := rIn K true) op_notIn_seq (pe_ix (r := rIxT K) ix_tup (pv 4) pe_int (fun _ _ => rfl)) (pv 1) (by rfl))) (fun _ _ _ _ _ => pv 4)) pa_nil)))
      (C8.pss_cut (ps_set (i := 3) scWithout.nd rfl (Or.inl rfl) (pe_callTy call_tuple_of (by rfl) ht (by decide +kernel) (pa_cons (pe_lc (own := [("bar", 5)]) (g := gName 5) rfl scWithout.nd (pi_tup (pe_ix ix_list (pv 0) pe_int (fun _ _ => rfl))) (blkOk_by (N := nWithout) (sc := defScope sLWithout) (by decide +kernel)) (fun _ _ _ _ _ => pg_name (i := 5) scWithout.nd rfl (Or.inl rfl))
        (fun _ _ _ _ _ => pts_one (PW.pt (pw_and (pt_cmpR (r := rIn K true) op_notIn_seq (pe_ix (r := rIxT K) ix_tup (pv 5) pe_int (fun _ _ => rfl)) (pv 1) (by rfl)) (pw_and1 (pt_cmpR (r := rIn K true) op_notIn_seq (pe_ix (r := rIxT K) ix_tup (pv 5) pe_int (fun _ _ => rfl)) (pv 1) (by rfl)))))) (fun _ _ _ _ _ => pv 5)) pa_nil)))
      (pss_one (ps_ret (pe_lst (pa_cons (pe_ix ix_list (pv 0) pe_int (fun _ _ => rfl)) (pa_cons (pe_ix ix_list (pv 0) pe_int (fun _ _ => rfl)) (pa_cons (pe_ix ix_list (pv 0) pe_int (fun _ _ => rfl)) (pa_cons (pv 2) (pa_cons (pv 3) pa_nil))))))))), ?_⟩
    obtain ⟨ki, pl, ro, ba, xs, zs, eq, eki, epl, ero, hrs, eba, hbs⟩ := hq
    have lx := Paired.len hrs
    have lz := Paired.len hbs
    -- roads
    refine ⟨fun σ H' => ∃ (R : Addr) (ys : List V), σ = [some (.ref q), some (.ref L), some (.ref R), none, none, none] ∧ Grew P H H' ∧ H' R = some (.tup ys) ∧ Paired (RoadAt K H') (butR z rs) ys, ?_, ?_⟩
    · refine ⟨_, rfl, q, _, 3, .ref ro, rfl, rfl, SqL.of eq, rfl, ro, rfl, ⟨_, SqT.of ero⟩, fun D nD => lc_tup (K := K) (a := ro) (xs := xs) (fun i H' => Grew P H H' ∧ ∃ acc, H' D = some (.lst acc) ∧ Paired (RoadAt K H') (butR z (rs.take i)) acc)
        ⟨Grew.new hP nD, [], upd_same, .nil⟩ (fun i H' _ h => SqT.of (h.1.tup hP ero)) (fun i v H1 hv h => ?_) (fun H1 h => ?_)⟩
      · obtain ⟨g, acc, hD, hacc⟩ := h
        obtain ⟨r, hr0, hrt⟩ := Paired.at hrs hv
        have hrt1 := hrt.grew g hP
        have hil := (List.getElem?_eq_some_iff.mp hr0).1
        have la := Paired.len hacc
        have lf : (butR z (rs.take i)).length ≤ (rs.take i).length := List.length_filter_le _ _
        rw [List.length_take] at lf
        have et : butR z (rs.take (i + 1)) = butR z (rs.take i) ++ (if (!decide (r.name = z)) = true then [r] else []) := fsnoc (p := fun r : RoadD => !decide (r.name = z)) hr0
        have hrt2 := hrt1
        obtain ⟨t, u, hh, rfl, e1, e2, e3⟩ := hrt1
        refine ⟨rfl, _, rfl, t, _, 0, _, rfl, rfl, SqT.of e1, rfl, _, rfl, L, _, rfl, .inl (SqL.of (g.lst hP hL)), rfl, rfl, _, rfl, ?_⟩
        rw [if_pos rfl, in_one]
        by_cases c : r.name = z
        · rw [if_neg (by rw [decide_eq_true c]; decide), List.append_nil] at et
          exact if_f (by rw [decide_eq_true c]; rfl) ⟨g, acc, hD, by rw [et]; exact hacc⟩
        · rw [if_pos (by rw [decide_eq_false c]; rfl)] at et
          refine if_t (by rw [decide_eq_false c]; rfl) ⟨_, rfl, acc, hD, by rw [sizeLine_eq]; omega, g.write hD (fun _ z => by cases z) nD, acc ++ [.ref t], upd_same, ?_⟩
          have up : ∀ {r : RoadD} {v : V}, RoadAt K H1 r v → RoadAt K (L2.upd H1 D (.lst (acc ++ [.ref t]))) r v := fun m => m.upd (fun xs z => by rw [hD] at z; cases z) (KeepT.lst hD)
          rw [et]
          exact Paired.snoc (Paired.map' hacc fun _ _ m => up m) (up hrt2)
      · obtain ⟨g, acc, hD, hacc⟩ := h
        rw [← lx, List.take_length] at hacc
        refine ⟨D, _, rfl, .inl ⟨SqL.of hD, fun R nR => ⟨R, acc, rfl, g.trans (Grew.new g.tab nR), upd_same, Paired.map' hacc fun _ _ m => m.grew (Grew.new g.tab nR) g.tab⟩⟩⟩
    rintro σ H1 ⟨R, ys, rfl, g1, hR, hys⟩
    have eq1 := g1.lst hP eq
    have eba1 := g1.tup hP eba
    have hL1 := g1.lst hP hL
    -- bars
    refine ⟨fun σ H' => ∃ (B : Addr) (ws : List V), σ = [some (.ref q), some (.ref L), some (.ref R), some (.ref B), none, none] ∧ Grew P H1 H' ∧ H' B = some (.tup ws) ∧ Paired (GBar H') (butB z bs) ws, ?_, ?_⟩
    · refine ⟨_, rfl, q, _, 4, .ref ba, rfl, rfl, SqL.of eq1, rfl, ba, rfl, ⟨_, SqT.of eba1⟩, fun D nD => lc_tup (K := K) (a := ba) (xs := zs) (fun i H' => Grew P H1 H' ∧ ∃ acc, H' D = some (.lst acc) ∧ Paired (GBar H') (butB z (bs.take i)) acc)
        ⟨Grew.new g1.tab nD, [], upd_same, .nil⟩ (fun i H' _ h => SqT.of (h.1.tup g1.tab eba1)) (fun i v H2 hv h => ?_) (fun H2 h => ?_)⟩
      · obtain ⟨g, acc, hD, hacc⟩ := h
        obtain ⟨b, hb0, hbt⟩ := Paired.at hbs hv
        have hbt1 := hbt.grew (g1.trans g) hP
        have hil := (List.getElem?_eq_some_iff.mp hb0).1
        have la := Paired.len hacc
        have lf : (butB z (bs.take i)).length ≤ (bs.take i).length := List.length_filter_le _ _
        rw [List.length_take] at lf
        have et : butB z (bs.take (i + 1)) = butB z (bs.take i) ++ (if (!decide (z = b.1 ∨ z = b.2)) = true then [b] else []) := fsnoc (p := fun b : Str × Str => !decide (z = b.1 ∨ z = b.2)) hb0
        have hbt2 := hbt1
        obtain ⟨t, rfl, e1⟩ := hbt1
        have kp : ∀ {b : Str × Str} {v : V}, GBar H2 b v → GBar (L2.upd H2 D (.lst (acc ++ [.ref t]))) b v := fun {b v} ⟨t, a, m⟩ => ⟨t, a, by rw [upd_ne (fun z => by rw [z, hD] at m; cases m)]; exact m⟩
        refine ⟨rfl, _, rfl, t, _, 0, _, rfl, rfl, SqT.of e1, rfl, _, rfl, L, _, rfl, .inl (SqL.of (g.lst g1.tab hL1)), rfl, rfl, _, rfl, ?_⟩
        rw [if_pos rfl, in_one]
        by_cases c : b.1 = z
        · rw [if_neg (by rw [decide_eq_true (Or.inl c.symm)]; decide), List.append_nil] at et
          exact if_f (by rw [decide_eq_true c]; rfl) (if_f rfl ⟨g, acc, hD, by rw [et]; exact hacc⟩)
        · refine if_t (by rw [decide_eq_false c]; rfl) ?_
          refine ⟨_, rfl, t, _, 1, _, rfl, rfl, SqT.of e1, rfl, _, rfl, L, _, rfl, .inl (SqL.of (g.lst g1.tab hL1)), rfl, rfl, _, rfl, ?_⟩
          rw [if_pos rfl, in_one]
          by_cases c2 : b.2 = z
          · rw [if_neg (by rw [decide_eq_true (Or.inr c2.symm)]; decide), List.append_nil] at et
            exact if_f (by rw [decide_eq_true c2]; rfl) ⟨g, acc, hD, by rw [et]; exact hacc⟩
          · rw [if_pos (by rw [decide_eq_false (fun h => h.elim (fun e => c e.symm) (fun e => c2 e.symm))]; rfl)] at et
            refine if_t (by rw [decide_eq_false c2]; rfl) ⟨_, rfl, acc, hD, by rw [sizeLine_eq]; omega, g.write hD (fun _ z => by cases z) nD, acc ++ [.ref t], upd_same, ?_⟩
            rw [et]
            exact Paired.snoc (Paired.map' hacc fun _ _ m => kp m) (kp hbt2)
      · obtain ⟨g, acc, hD, hacc⟩ := h
        rw [← lz, List.take_length] at hacc
        refine ⟨D, _, rfl, .inl ⟨SqL.of hD, fun B nB => ⟨B, acc, rfl, g.trans (Grew.new g.tab nB), upd_same, Paired.map' hacc fun _ _ m => m.grew (Grew.new g.tab nB) g.tab⟩⟩⟩
    rintro σ H2 ⟨B, ws, rfl, g2, hB, hws⟩
    have g02 := g1.trans g2
    have eq2 := g2.lst g1.tab eq1
    refine ⟨_, rfl, q, _, 0, _, rfl, rfl, SqL.of eq2, rfl, _, rfl, q, _, 1, _, rfl, rfl, SqL.of eq2, rfl, _, rfl, q, _, 2, _, rfl, rfl, SqL.of eq2, rfl, _, rfl, _, rfl, by show 5 ≤ sizeLine; decide, fun q' nq' => ?_⟩
    have gq := Grew.new g02.tab (o := .lst [.int d, .ref ki, .ref pl, .ref R, .ref B]) nq'
    refine k _ q' (g02.trans gq) (g02.free nq') ⟨ki, pl, R, B, ys, ws, upd_same, gq.tup g02.tab (g02.tup hP eki), gq.tup g02.tab (g02.tup hP epl), gq.tup g02.tab (g2.tup g1.tab hR), Paired.map' hys fun _ _ m => (m.grew g2 g1.tab).grew gq g02.tab, gq.tup g02.tab hB, Paired.map' hws fun _ _ m => m.grew gq g02.tab⟩
abbrev nTripG : List Str := ["numbers", "at", "parts", "kind", "start", "goal", "moment"]
theorem scTripG : FnScope nTripG ["numbers", "at", "parts"] (defScope sLTrip) := ⟨rfl, rfl, rfl, by decide +kernel, rfl, by decide +kernel, by decide +kernel⟩
theorem ok_ltripG {f : Addr} {fd : FuncData} (F : Fun K "_law_trip" "_law_trip" sLTrip f fd) (hi : mg "int" = none) (hl : mg "len" = none) : FnOk Pg w K mg base CX0 1 f fd ["numbers", "at", "parts"] (spLTripG K P) := by
  refine F.ok scTripG (fun vs H Q E h => ?_) (fun cdv A outer s H vs Q E hr h => ?_)
  · obtain ⟨q, a, at_, d, ps, ks, rs, bs, ns, rfl, _⟩ := h
    rfl
  · obtain ⟨q, a, at_, d, ps, ks, rs, bs, ns, rfl, hq, lk, lp, hS, hsm, h0, h1, hP, k⟩ := h
    refine ⟨_, pss_cons (ps_set (i := 3) scTripG.nd rfl (Or.inl rfl) (pe_ix ix_tup (pe_ix ix_list (pv 2) pe_int (fun _ _ => rfl)) (pe_op op_mod (pe_callTy call_int1 (by rfl) hi (by decide +kernel) (pa_cons (pe_ix ix_list (pv 0) (pv 1) (fun _ _ => rfl)) pa_nil)) (pe_callB call_len_seq (by rfl) hl PySem.boot_len (pa_cons (pe_ix ix_list (pv 2) pe_int (fun _ _ => rfl)) pa_nil))) (fun _ _ => rfl)))
      (pss_cons (ps_set (i := 4) scTripG.nd rfl (Or.inl rfl) (pe_ix ix_tup (pe_ix ix_list (pv 2) pe_int (fun _ _ => rfl)) (pe_op op_mod (pe_callTy call_int1 (by rfl) hi (by decide +kernel) (pa_cons (pe_ix ix_list (pv 0) (pe_op op_add (pv 1) pe_int) (fun _ _ => rfl)) pa_nil)) (pe_callB call_len_seq (by rfl) hl PySem.boot_len (pa_cons (pe_ix ix_list (pv 2) pe_int (fun _ _ => rfl)) pa_nil))) (fun _ _ => rfl)))
      (pss_cons (ps_set (i := 5) scTripG.nd rfl (Or.inl rfl) (pe_ix ix_tup (pe_ix ix_list (pv 2) pe_int (fun _ _ => rfl)) (pe_op op_mod (pe_callTy call_int1 (by rfl) hi (by decide +kernel) (pa_cons (pe_ix ix_list (pv 0) (pe_op op_add (pv 1) pe_int) (fun _ _ => rfl)) pa_nil)) (pe_callB call_len_seq (by rfl) hl PySem.boot_len (pa_cons (pe_ix ix_list (pv 2) pe_int (fun _ _ => rfl)) pa_nil))) (fun _ _ => rfl)))
      (pss_cons (ps_set (i := 6) scTripG.nd rfl (Or.inl rfl) (pe_op op_mul (pe_callTy call_int1 (by rfl) hi (by decide +kernel) (pa_cons (pe_ix ix_list (pv 0) (pe_op op_add (pv 1) pe_int) (fun _ _ => rfl)) pa_nil)) (pe_ix ix_list (pe_lst (pa_cons pe_int (pa_cons pe_int (pa_cons pe_int (pa_cons pe_int pa_nil))))) (pe_op op_mod (pe_callTy call_int1 (by rfl) hi (by decide +kernel) (pa_cons (pe_ix ix_list (pv 0) (pe_op op_add (pv 1) pe_int) (fun _ _ => rfl)) pa_nil)) pe_int) (fun _ _ => rfl))))
      (pss_one (ps_ret (pe_tup (pa_cons (pv 3) (pa_cons (pv 4) (pa_cons (pv 5) (pa_cons (pv 6) pa_nil)))))))))), ?_⟩
    obtain ⟨n0, e0, l0, u0⟩ := at_num hsm (i := at_) h0 (by omega)
    obtain ⟨n1, e1, l1, u1⟩ := at_num hsm (i := at_ + 1) (by omega) (by omega)
    obtain ⟨n2, e2, l2, u2⟩ := at_num hsm (i := at_ + 2) (by omega) (by omega)
    obtain ⟨n3, e3, l3, u3⟩ := at_num hsm (i := at_ + 3) (by omega) (by omega)
    obtain ⟨n4, e4, l4, u4⟩ := at_num hsm (i := at_ + 4) (by omega) (by omega)
    obtain ⟨ki, pl, ro, ba, xs, zs, eq, eki, epl, ero, hrs, eba, hbs⟩ := hq
    have ck : (0 : Int) < (((ks.map V.str).length : Nat) : Int) := by rw [List.length_map]; omega
    have cp : (0 : Int) < (((ps.map V.str).length : Nat) : Int) := by rw [List.length_map]; omega
    obtain ⟨z0, ez0, _, m0⟩ := at_str (ns := ks) (i := n0 % ((ks.map V.str).length : Nat)) (Int.emod_nonneg _ (by omega)) (by have := Int.emod_lt_of_pos n0 ck; rw [List.length_map] at *; exact this)
    obtain ⟨z1, ez1, _, m1⟩ := at_str (ns := ps) (i := n1 % ((ps.map V.str).length : Nat)) (Int.emod_nonneg _ (by omega)) (by have := Int.emod_lt_of_pos n1 cp; rw [List.length_map] at *; exact this)
    obtain ⟨z2, ez2, _, m2⟩ := at_str (ns := ps) (i := n2 % ((ps.map V.str).length : Nat)) (Int.emod_nonneg _ (by omega)) (by have := Int.emod_lt_of_pos n2 cp; rw [List.length_map] at *; exact this)
    obtain ⟨c, ec, c0, c99⟩ := fac4 (n4 % 4) (Int.emod_nonneg _ (by decide)) (Int.emod_lt_of_pos _ (by decide))
    refine ⟨_, rfl, q, _, 1, _, rfl, rfl, SqL.of eq, rfl, _, rfl, _, rfl, a, _, _, _, rfl, rfl, hS, e0, .inl ⟨_, rfl, _, rfl, q, _, 1, _, rfl, rfl, SqL.of eq, rfl, ki, _, rfl, .inr (SqT.of eki), _, _, rfl, rfl, ck, ki, _, _, _, rfl, rfl, SqT.of eki, ez0, ?_⟩⟩
    refine ⟨_, rfl, q, _, 2, _, rfl, rfl, SqL.of eq, rfl, _, rfl, _, rfl, _, _, rfl, rfl, a, _, _, _, rfl, rfl, hS, e1, .inl ⟨_, rfl, _, rfl, q, _, 2, _, rfl, rfl, SqL.of eq, rfl, pl, _, rfl, .inr (SqT.of epl), _, _, rfl, rfl, cp, pl, _, _, _, rfl, rfl, SqT.of epl, ez1, ?_⟩⟩
    refine ⟨_, rfl, q, _, 2, _, rfl, rfl, SqL.of eq, rfl, _, rfl, _, rfl, _, _, rfl, rfl, a, _, _, _, rfl, rfl, hS, e2, .inl ⟨_, rfl, _, rfl, q, _, 2, _, rfl, rfl, SqL.of eq, rfl, pl, _, rfl, .inr (SqT.of epl), _, _, rfl, rfl, cp, pl, _, _, _, rfl, rfl, SqT.of epl, ez2, ?_⟩⟩
    refine ⟨_, rfl, _, rfl, _, _, rfl, rfl, a, _, _, _, rfl, rfl, hS, e3, .inl ⟨_, rfl, by show 4 ≤ sizeLine; decide, fun T nT => ?_⟩⟩
    have gT := Grew.new hP (o := .lst [V.int 0, V.int 1, V.int 1, V.int 99]) nT
    have hT : (L2.upd H T (.lst [V.int 0, V.int 1, V.int 1, V.int 99])) T = some (.lst [V.int 0, V.int 1, V.int 1, V.int 99]) := upd_same
    generalize L2.upd H T (.lst [V.int 0, V.int 1, V.int 1, V.int 99]) = H1 at gT hT
    have m9 : n3 * c ≤ 1008 * 99 := Int.mul_le_mul (by omega) c99 c0 (by decide)
    have m9' : 0 ≤ n3 * c := Int.mul_nonneg l3 c0
    refine ⟨_, rfl, _, rfl, _, _, rfl, rfl, a, _, _, _, rfl, rfl, gT.sqL hP hS, e4, .inl ⟨_, rfl, _, _, rfl, rfl, (show (0 : Int) < 4 by decide), T, _, _, _, rfl, rfl, SqL.of hT, ec, _, _, rfl, rfl, .inl ⟨by omega, by omega⟩, ?_⟩⟩
    refine ⟨_, rfl, _, rfl, _, rfl, _, rfl, by show 4 ≤ sizeLine; decide, fun tp ntp => ?_⟩
    exact k _ tp z0 z1 z2 (n3 * c) (gT.trans (Grew.new gT.tab ntp)) m0 m1 m2 m9' (by omega) upd_same
end
end W

set_option Elab.async false
set_option linter.all false
set_option maxRecDepth 100000
set_option maxHeartbeats 1000000
namespace W
open PySem
/-! ### the law's rounds: what they find -/
/-- the arrivals by name, as they are told of the roads rs -/
structure LSol (d : Int) (kind : Str) (bs : List (Str × Str)) (rs : List RoadD) (start : Str) (moment : Int) (T : Str → Option Int) : Prop where
  dom : ∀ z t, T z = some t → (∃ r ∈ rs, r.name = z) ∧ moment ≤ t
  a : ∀ r ∈ rs, mayB kind bs start none r = true → ∃ t, T r.name = some t ∧ t ≤ ar d r moment
  b : ∀ p ∈ rs, ∀ tp, T p.name = some tp → ∀ r ∈ rs, mayB kind bs p.goal (some p.name) r = true → ∃ t, T r.name = some t ∧ t ≤ ar d r tp
  c : ∀ r ∈ rs, ∀ t, T r.name = some t → (mayB kind bs start none r = true ∧ t = ar d r moment) ∨ ∃ p ∈ rs, ∃ tp, T p.name = some tp ∧ tp < t ∧ mayB kind bs p.goal (some p.name) r = true ∧ t = ar d r tp
def leB (T : Str → Option Int) (z : Str) (r : RoadD) : Bool := match T r.name, T z with
  | some a, some b => decide (a ≤ b)
  | _, _ => false
def rk (T : Str → Option Int) (rs : List RoadD) (z : Str) : Nat := (rs.filter (leB T z)).length
theorem rk_lt {T : Str → Option Int} {rs : List RoadD} {p r : RoadD} {tp t : Int} (hr : r ∈ rs) (ep : T p.name = some tp) (er : T r.name = some t) (h : tp < t) : rk T rs p.name < rk T rs r.name := by
  refine filter_lt (x := r) (fun x hx => ?_) hr ?_ ?_
  · unfold leB at hx ⊢
    rw [ep] at hx
    rw [er]
    cases c : T x.name with
    | none => rw [c] at hx; cases hx
    | some a =>
      rw [c] at hx
      have := of_decide_eq_true hx
      exact decide_eq_true (by omega)
  · unfold leB
    rw [er]
    exact decide_eq_true (Int.le_refl _)
  · unfold leB
    rw [er, ep]
    exact decide_eq_false (by omega)
theorem rk_le (T : Str → Option Int) (rs : List RoadD) (z : Str) : rk T rs z ≤ rs.length := List.length_filter_le _ _
theorem rk_pos {T : Str → Option Int} {rs : List RoadD} {r : RoadD} {t : Int} (hr : r ∈ rs) (er : T r.name = some t) : 1 ≤ rk T rs r.name := by
  unfold rk
  refine List.length_pos_of_mem (a := r) (List.mem_filter.mpr ⟨hr, ?_⟩)
  unfold leB
  rw [er]
  exact decide_eq_true (Int.le_refl _)
/-- a value is there, and not above b -/
def Has (zs : List (Str × Int)) (z : Str) (b : Int) : Prop := ∃ v, (z, v) ∈ zs ∧ v ≤ b
structure BF (d : Int) (kind : Str) (bs : List (Str × Str)) (rs : List RoadD) (start : Str) (moment : Int) (T : Str → Option Int) (k : Nat) (zs : List (Str × Int)) : Prop where
  nd : (zs.map (·.1)).Nodup
  lo : ∀ q ∈ zs, ∃ t, T q.1 = some t ∧ t ≤ q.2
  up : ∀ z t, T z = some t → rk T rs z ≤ k → Has zs z t
section
variable {d : Int} {kind : Str} {bs : List (Str × Str)} {rs : List RoadD} {start : Str} {moment : Int} {T : Str → Option Int} {k : Nat} {zs : List (Str × Int)}
/-- a lower value is put in, or a new one -/
theorem Has.put {z y : Str} {a b : Int} (h : Has zs z b) (hlow : ∀ v, (y, v) ∈ zs → a ≤ v) : Has (zput zs y a) z b := by
  obtain ⟨v, hv, hb⟩ := h
  by_cases e : z = y
  · subst e
    exact ⟨a, zput_mem.mpr (.inl rfl), Int.le_trans (hlow v hv) hb⟩
  · exact ⟨v, zput_mem.mpr (.inr ⟨hv, e⟩), hb⟩
theorem BF.put (h : BF d kind bs rs start moment T k zs) {y : Str} {a t : Int} (ht : T y = some t) (hle : t ≤ a) (hlow : ∀ v, (y, v) ∈ zs → a ≤ v) : BF d kind bs rs start moment T k (zput zs y a) := by
  refine ⟨zput_nodup h.nd _ _, fun q hq => ?_, fun z t hz hk => (h.up z t hz hk).put hlow⟩
  rcases zput_mem.mp hq with e | ⟨hq, _⟩
  · rw [e]; exact ⟨t, ht, hle⟩
  · exact h.lo q hq
theorem BF.len (h : BF d kind bs rs start moment T k zs) (S : LSol d kind bs rs start moment T) : zs.length ≤ rs.length := by
  rw [← List.length_map (f := (·.1)), ← List.length_map (as := rs) (f := (·.name))]
  refine nodup_sub_len h.nd fun z hz => ?_
  obtain ⟨q, hq, rfl⟩ := List.mem_map.mp hz
  obtain ⟨t, e, _⟩ := h.lo q hq
  obtain ⟨⟨r, hr, en⟩, _⟩ := S.dom _ _ e
  exact List.mem_map.mpr ⟨r, hr, en⟩
/-- what the first roads have got at the start -/
def Ini (d : Int) (kind : Str) (bs : List (Str × Str)) (start : Str) (moment : Int) (l : List RoadD) (zs : List (Str × Int)) : Prop := ∀ r ∈ l, mayB kind bs start none r = true → Has zs r.name (ar d r moment)
theorem Ini.put {l : List RoadD} {y : Str} {a : Int} (h : Ini d kind bs start moment l zs) (hlow : ∀ v, (y, v) ∈ zs → a ≤ v) : Ini d kind bs start moment l (zput zs y a) := fun r hr c => (h r hr c).put hlow
/-- what has gone on in a round from the roads l -/
def Gone (d : Int) (kind : Str) (bs : List (Str × Str)) (rs : List RoadD) (T : Str → Option Int) (k : Nat) (l m : List RoadD) (zs : List (Str × Int)) : Prop :=
  ∀ p ∈ l, ∀ tp, T p.name = some tp → rk T rs p.name ≤ k → ∀ r ∈ m, mayB kind bs p.goal (some p.name) r = true → Has zs r.name (ar d r tp)
theorem Gone.put {l m : List RoadD} {y : Str} {a : Int} (h : Gone d kind bs rs T k l m zs) (hlow : ∀ v, (y, v) ∈ zs → a ≤ v) : Gone d kind bs rs T k l m (zput zs y a) := fun p hp tp e hk r hr c => (h p hp tp e hk r hr c).put hlow
theorem BF.next (S : LSol d kind bs rs start moment T) (h : BF d kind bs rs start moment T k zs) (hi : Ini d kind bs start moment rs zs) (hg : Gone d kind bs rs T k rs rs zs) : BF d kind bs rs start moment T (k + 1) zs := by
  refine ⟨h.nd, h.lo, fun z t hz hk => ?_⟩
  obtain ⟨⟨r, hr, rfl⟩, _⟩ := S.dom z t hz
  rcases S.c r hr t hz with ⟨c, e⟩ | ⟨p, hp, tp, ep, lt, c, e⟩
  · rw [e]; exact hi r hr c
  · rw [e]
    have := rk_lt hr ep hz lt
    exact hg p hp tp ep (by omega) r hr c
/-- after as many rounds as there are roads: just the arrivals -/
theorem BF.exact (S : LSol d kind bs rs start moment T) (h : BF d kind bs rs start moment T rs.length zs) : ∀ z t, (z, t) ∈ zs ↔ T z = some t := by
  have hu : ∀ z t, T z = some t → (z, t) ∈ zs := fun z t e => by
    obtain ⟨v, hv, hle⟩ := h.up z t e (rk_le T rs z)
    obtain ⟨t', e', hle'⟩ := h.lo _ hv
    have e'' : T z = some t' := e'
    rw [e] at e''
    have := Option.some.inj e''
    have hv2 : v = t := by
      have : t' ≤ v := hle'
      omega
    rw [← hv2]; exact hv
  refine fun z t => ⟨fun hz => ?_, hu z t⟩
  obtain ⟨t', e', hle'⟩ := h.lo _ hz
  have e'' : T z = some t' := e'
  have q := hu z t' e''
  have q1 := zget_some h.nd hz
  rw [zget_some h.nd q] at q1
  rw [← Option.some.inj q1]; exact e''
end
/-! ### the map's search, told by the law's roads -/
def tOf (es : List Ent) (z : Str) : Option Int := zget (labsOf es) z
theorem tOf_iff {d : Int} {kind : Str} {bs : List (Str × Str)} {rs : List RoadD} {start : Str} {moment : Int} {es : List Ent} (nd : (rs.map (·.name)).Nodup) (S : Sol d kind bs rs start moment es) {z : Str} {t : Int} : tOf es z = some t ↔ ∃ e ∈ es, ∃ r, e.n = some r ∧ r.name = z ∧ e.t = t := by
  constructor
  · intro h
    obtain ⟨e, he, r, hr, eq⟩ := labs_mem (zget_mem h)
    exact ⟨e, he, r, hr, (congrArg Prod.fst eq).symm, (congrArg Prod.snd eq).symm⟩
  · rintro ⟨e, he, r, hr, rfl, rfl⟩
    exact zget_some (labs_nodup nd S.nd S.mem) (mem_labs he hr)
theorem nx_iff {kind : Str} {bs : List (Str × Str)} {rs : List RoadD} {start : Str} {p : Node} {r : RoadD} : r ∈ nxN kind bs rs start p ↔ r ∈ rs ∧ (match p with | none => mayB kind bs start none r | some q => mayB kind bs q.goal (some q.name) r) = true := by
  cases p with
  | none => exact List.mem_filter
  | some q => exact List.mem_filter
theorem may_keptB {kind place : Str} {bs bs' : List (Str × Str)} {before : Option Str} {r r' : RoadD} (k : Kept r r') (hb : ∀ b, b ∈ bs' ↔ b ∈ bs) : mayB kind bs' place before r' = mayB kind bs place before r := by
  obtain ⟨k1, k2, k3, k4, k5, k6, _⟩ := k
  unfold mayB everB
  rw [k1, k2, k5]
  have e : decide (kind ∈ r'.users) = decide (kind ∈ r.users) := decide_eq_decide.mpr k6.mem_iff
  rw [e]
  cases before with
  | none => rfl
  | some b =>
    have e2 : decide ((b, r.name) ∈ bs') = decide ((b, r.name) ∈ bs) := decide_eq_decide.mpr (hb _)
    simp only [e2]
theorem ar_kept {d : Int} {r r' : RoadD} (k : Kept r r') (t : Int) : ar d r' t = ar d r t := by
  obtain ⟨k1, k2, k3, k4, k5, _⟩ := k
  unfold ar arriveD enterR
  rw [k4, k5]
theorem Sol.lsol {d : Int} {kind : Str} {bs bs' : List (Str × Str)} {rs rs' : List RoadD} {start : Str} {moment : Int} {es : List Ent} (G : SG d rs') (S : Sol d kind bs' rs' start moment es) (ndr : (rs.map (·.name)).Nodup) (kr : KeptAll rs rs') (hb : ∀ b, b ∈ bs' ↔ b ∈ bs) : LSol d kind bs rs start moment (tOf es) := by
  have out : ∀ {r'}, r' ∈ rs' → ∃ r ∈ rs, Kept r r' := fun {r'} h => by
    obtain ⟨l, pm, pr⟩ := kr
    obtain ⟨r, hr0, qq⟩ := Paired.mem pr (pm.mem_iff.mpr h)
    exact ⟨r, hr0, qq⟩
  have inn : ∀ {r}, r ∈ rs → ∃ r' ∈ rs', Kept r r' := fun {r} h => by
    obtain ⟨l, pm, pr⟩ := kr
    obtain ⟨r', hr0, qq⟩ := Paired.mem' pr h
    exact ⟨r', pm.mem_iff.mp hr0, qq⟩
  have iff := @tOf_iff d kind bs' rs' start moment es G.nd S
  refine ⟨fun z t h => ?_, fun r hr c => ?_, fun p hp tp ep r hr c => ?_, fun r hr t h => ?_⟩
  · obtain ⟨e, he, r', hr', rfl, rfl⟩ := iff.mp h
    obtain ⟨r, hr, k⟩ := out (S.mem e he r' hr')
    exact ⟨⟨r, hr, k.1.symm⟩, S.ge e he⟩
  · obtain ⟨r', hr', k⟩ := inn hr
    obtain ⟨e, he, en, le⟩ := S.cls _ S.root r' (nx_iff.mpr ⟨hr', by rw [may_keptB k hb]; exact c⟩)
    rw [ar_kept k] at le
    exact ⟨e.t, iff.mpr ⟨e, he, r', en, k.1, rfl⟩, le⟩
  · obtain ⟨q, hq, p', hp', en, rfl⟩ := iff.mp ep
    obtain ⟨p2, hp2, kp⟩ := inn hp
    have e1 := uniq_name G.nd (S.mem q hq p' hp') hp2 (en.trans kp.1.symm)
    subst e1
    obtain ⟨r', hr', k⟩ := inn hr
    obtain ⟨e, he, en2, le⟩ := S.cls q hq r' (by
      rw [hp']
      refine nx_iff.mpr ⟨hr', ?_⟩
      show mayB kind bs' p'.goal (some p'.name) r' = true
      rw [may_keptB k hb, kp.1, kp.2.2.1]
      exact c)
    rw [ar_kept k] at le
    exact ⟨e.t, iff.mpr ⟨e, he, r', en2, k.1, rfl⟩, le⟩
  · obtain ⟨e, he, r2, hr2, en, rfl⟩ := iff.mp h
    obtain ⟨r', hr', k⟩ := inn hr
    have e1 := uniq_name G.nd (S.mem e he r2 hr2) hr' (en.trans k.1.symm)
    subst e1
    obtain ⟨p, hp, _, hn, et⟩ := S.lnk e he r2 hr2
    obtain ⟨m1, m2⟩ := nx_mem hn
    obtain ⟨_, e0, _, ea, ele⟩ := ar_some G.d1 (G.ho r2 m1) (ever_hours m2) p.t
    have mi := G.mi r2 m1
    cases c : p.n with
    | none =>
      rw [c] at hn
      have q := (nx_iff.mp hn).2
      have q' : mayB kind bs' start none r2 = true := q
      rw [may_keptB k hb] at q'
      refine .inl ⟨q', ?_⟩
      rw [et, (S.rt p hp c).1, ar_kept k]
    | some q2 =>
      rw [c] at hn
      have q := (nx_iff.mp hn).2
      have q' : mayB kind bs' q2.goal (some q2.name) r2 = true := q
      obtain ⟨q1, hq1, kq⟩ := out (S.mem p hp q2 c)
      rw [may_keptB k hb, kq.1, kq.2.2.1] at q'
      refine .inr ⟨q1, hq1, p.t, iff.mpr ⟨p, hp, q2, c, kq.1, rfl⟩, by omega, q', ?_⟩
      rw [et, ar_kept k]
end W

set_option Elab.async false
set_option linter.all false
set_option maxRecDepth 100000
set_option maxHeartbeats 4000000
namespace W
open PySem PySem.Spec PyProof.Rows L2 GxR MyG MyS MyR
/-! ### _law_labels -/
abbrev sLLabelsG : Stmt := top 70
theorem may_ever {kind place : Str} {bs : List (Str × Str)} {before : Option Str} {r : RoadD} (h : mayB kind bs place before r = true) : r.hours ≠ some [] := by
  unfold mayB at h
  simp only [Bool.and_eq_true] at h
  exact ever_hours h.2.1
theorem zget_put_same {zs : List (Str × Int)} (nd : (zs.map (·.1)).Nodup) (z : Str) (a : Int) : zget (zput zs z a) z = some a := zget_some (zput_nodup nd z a) (zput_mem.mpr (.inl rfl))
theorem zget_put_ne {zs : List (Str × Int)} (nd : (zs.map (·.1)).Nodup) {z y : Str} (a : Int) (ne : y ≠ z) : zget (zput zs z a) y = zget zs y := by
  cases h : zget zs y with
  | some t => exact zget_some (zput_nodup nd z a) (zput_mem.mpr (.inr ⟨zget_mem h, ne⟩))
  | none =>
    cases h2 : zget (zput zs z a) y with
    | none => rfl
    | some t =>
      rcases zput_mem.mp (zget_mem h2) with e | ⟨m, _⟩
      · exact absurd (congrArg Prod.fst e) ne
      · exact absurd rfl (zget_none h _ m)
/-- the arrivals, road by road -/
def arrV (os : List RoadD) (zs : List (Str × Int)) : List V := os.map fun r => optV (zget zs r.name)
theorem arrV_at {os : List RoadD} {zs : List (Str × Int)} {n : Nat} {r : RoadD} (e : os[n]? = some r) : (arrV os zs)[n]? = some (optV (zget zs r.name)) := by
  unfold arrV
  rw [List.getElem?_map, e]
  rfl
theorem arrV_put {os : List RoadD} {zs : List (Str × Int)} (nd : (zs.map (·.1)).Nodup) (ndo : (os.map (·.name)).Nodup) {n : Nat} {r : RoadD} (e : os[n]? = some r) (a : Int) : (arrV os zs).set n (.int a) = arrV os (zput zs r.name a) := by
  have hn := (List.getElem?_eq_some_iff.mp e).1
  apply List.ext_getElem?
  intro m
  rw [List.getElem?_set]
  by_cases c : n = m
  · subst c
    rw [if_pos rfl, if_pos (by unfold arrV; rw [List.length_map]; exact hn), arrV_at e, zget_put_same nd]
    rfl
  · rw [if_neg c]
    cases e2 : os[m]? with
    | none =>
      unfold arrV
      rw [List.getElem?_map, List.getElem?_map, e2]
      rfl
    | some r2 =>
      rw [arrV_at e2, arrV_at e2, zget_put_ne nd]
      intro en
      have h1 : (os.map (·.name))[n]? = some r.name := by rw [List.getElem?_map, e]; rfl
      have h2 : (os.map (·.name))[m]? = some r.name := by rw [List.getElem?_map, e2]; exact congrArg some en
      exact c ((List.getElem?_inj (by rw [List.length_map]; exact hn) ndo).mp (h1.trans h2.symm))
def LabAt (K : PySem.W.Frag) (H : Hp) (e : RoadD × Int) (v : V) : Prop := ∃ t w, v = .ref t ∧ H t = some (.tup [w, .int e.2]) ∧ RoadAt K H e.1 w
def labL (T : Str → Option Int) (os : List RoadD) : List (RoadD × Int) := os.filterMap fun r => (T r.name).map fun t => (r, t)
def spLLabelsG (K : PySem.W.Frag) (P : Addr) : Sp := fun vs H Q _ => ∃ (q : Addr) (kind start : Str) (moment d : Int) (ps ks : List Str) (rs : List RoadD) (bs : List (Str × Str)) (T : Str → Option Int), vs = [.ref q, .str kind, .str start, .int moment] ∧ PartsT K H q d ks ps rs bs ∧ OkB bs ∧ 1 ≤ d ∧ d ≤ 1440 ∧ (rs.map (·.name)).Nodup ∧ rs.length ≤ 60 ∧ (∀ r ∈ rs, PyData.strOk r.name = true) ∧ (∀ r ∈ rs, HoursOk d r.hours) ∧ 0 ≤ moment ∧ LSol d kind bs (rs.filter (everB kind)) start moment T ∧ TabG H P ∧
  ∀ H' L ys, Grew P H H' → H L = none → H' L = some (.lst ys) → Paired (LabAt K H') (labL T (rs.filter (everB kind))) ys → Q (.ref L) H'
section
variable {Pg : Program} {w : World} {K : PySem.W.Frag} {mg : Str → Option Value} {base : Heap} {C P : Addr}
abbrev nLabs : List Str := ["parts", "kind", "start", "moment", "roads", "arrivals", "k", "turn", "n", "arrival", "road"]
theorem scLabs : FnScope nLabs ["parts", "kind", "start", "moment"] (defScope sLLabelsG) := ⟨rfl, rfl, rfl, by decide +kernel, rfl, by decide +kernel, by decide +kernel⟩
theorem ok_llabelsG {f fO fV fF : Addr} {fd fdO fdV fdF : FuncData} (F : Fun K "_law_labels" "_law_labels" sLLabelsG f fd) (hl : mg "len" = none) (hr' : mg "range" = none)
    (GO : FnOk Pg w K mg base CX0 1 fO fdO ["parts", "kind"] (spLOpen K P)) (gO : mg "_law_open" = some (.ref fO)) (kO : PySem.W.keepIn K (.ref fO) = true) (bO : Binds K fdO ["parts", "kind"] [])
    (GV : FnOk Pg w K mg base CX0 2 fV fdV ["road", "day", "moment"] (spLOver K P)) (gV : mg "_law_over" = some (.ref fV)) (kV : PySem.W.keepIn K (.ref fV) = true) (bV : Binds K fdV ["road", "day", "moment"] [])
    (GF : FnOk Pg w K mg base CX0 1 fF fdF ["parts", "one", "other"] (spLFollows K P)) (gF : mg "_law_follows" = some (.ref fF)) (kF : PySem.W.keepIn K (.ref fF) = true) (bF : Binds K fdF ["parts", "one", "other"] []) :
    FnOk Pg w K mg base CX0 3 f fd ["parts", "kind", "start", "moment"] (spLLabelsG K P) := by
  refine F.ok scLabs (fun vs H Q E h => ?_) (fun cdv A outer s H vs Q E hr h => ?_)
  · obtain ⟨q, kind, start, moment, d, ps, ks, rs, bs, T, rfl, _⟩ := h
    rfl
  · obtain ⟨q, kind, start, moment, d, ps, ks, rs, bs, T, rfl, hq, okB, d1, d2, ndr0, l60, nmk0, hoR0, hmo, S, hP, k⟩ := h
    refine ⟨_, C8.pss_cut (ps_set (i := 4) scLabs.nd rfl (Or.inr rfl) (pe_call GO (hr.mono (by decide)) (by rfl) gO kO bO .nil pass0 (pa_cons (pv 0) (pa_cons (pv 1) pa_nil))))
      (C8.pss_cut (ps_set (i := 5) scLabs.nd rfl (Or.inr rfl) (pe_lc (own := [("road", 10)]) (g := gName 10) (tt := tYes) rfl scLabs.nd (pi_list (pv 4)) (blkOk_by (N := nLabs) (sc := defScope sLLabelsG) (by decide +kernel)) (fun _ _ _ _ _ => pg_name (i := 10) scLabs.nd rfl (Or.inl rfl)) (fun _ _ _ _ _ => pts_nil) (fun _ _ _ _ _ => pe_non)))
      (C8.pss_cut (ps_for PassesOwn.never rfl (pi_range1 rfl hr' (pa_cons (pe_callB call_len_seq (by rfl) hl PySem.boot_len (pa_cons (pv 4) pa_nil)) pa_nil)) (pg_name (i := 6) scLabs.nd rfl (Or.inl rfl))
        (pss_one (ps_if (pt_cmpR op_eq (pe_ix ix_tup (pe_ix ix_list (pv 4) (pv 6) (fun _ _ => rfl)) pe_int (fun _ _ => rfl)) (pv 2) (nomark _))
          (pss_one (ps_asg (pe_call GV hr (by rfl) gV kV bV .nil pass0 (pa_cons (pe_ix ix_list (pv 4) (pv 6) (fun _ _ => rfl)) (pa_cons (pe_ix ix_list (pv 0) pe_int (fun _ _ => rfl)) (pa_cons (pv 3) pa_nil)))) (pg_sub (pv 5) (pv 6) set_list))) pss_nil)))
      (C8.pss_cut (ps_for PassesOwn.never rfl (pi_range1 rfl hr' (pa_cons (pe_callB call_len_seq (by rfl) hl PySem.boot_len (pa_cons (pv 4) pa_nil)) pa_nil)) (pg_name (i := 7) scLabs.nd rfl (Or.inl rfl))
        (pss_one (ps_for PassesOwn.never rfl (pi_range1 rfl hr' (pa_cons (pe_callB call_len_seq (by rfl) hl PySem.boot_len (pa_cons (pv 4) pa_nil)) pa_nil)) (pg_name (i := 6) scLabs.nd rfl (Or.inl rfl))
          (pss_one (ps_for PassesOwn.never rfl (pi_range1 rfl hr' (pa_cons (pe_callB call_len_seq (by rfl) hl PySem.boot_len (pa_cons (pv 4) pa_nil)) pa_nil)) (pg_name (i := 8) scLabs.nd rfl (Or.inl rfl))
            (pss_one (ps_if (PW.pt (pw_and (pt_cmp (pc_notN (pe_ix ix_list (pv 5) (pv 6) (fun _ _ => rfl)))) (pw_and1 (pt_val (pe_call GF (hr.mono (by decide)) (by rfl) gF kF bF .nil pass0 (pa_cons (pv 0) (pa_cons (pe_ix ix_list (pv 4) (pv 6) (fun _ _ => rfl)) (pa_cons (pe_ix ix_list (pv 4) (pv 8) (fun _ _ => rfl)) pa_nil))))))))
              (C8.pss_cut (ps_set (i := 9) scLabs.nd rfl (Or.inl rfl) (pe_call GV hr (by rfl) gV kV bV .nil pass0 (pa_cons (pe_ix ix_list (pv 4) (pv 8) (fun _ _ => rfl)) (pa_cons (pe_ix ix_list (pv 0) pe_int (fun _ _ => rfl)) (pa_cons (pe_ix ix_list (pv 5) (pv 6) (fun _ _ => rfl)) pa_nil)))))
              (pss_one (ps_if (PW.pt (pw_or (pt_cmp (pc_isN (pe_ix ix_list (pv 5) (pv 8) (fun _ _ => rfl)))) (pw_or1 (pt_cmpR op_lt (pv 9) (pe_ix ix_list (pv 5) (pv 8) (fun _ _ => rfl)) (nomark _))))) (pss_one (ps_asg (pv 9) (pg_sub (pv 5) (pv 8) set_list))) pss_nil))) pss_nil)))))))
      (pss_one (ps_ret (pe_lc (own := [("k", 6)]) (g := gName 6) rfl scLabs.nd (pi_range1 rfl hr' (pa_cons (pe_callB call_len_seq (by rfl) hl PySem.boot_len (pa_cons (pv 4) pa_nil)) pa_nil)) (blkOk_by (N := nLabs) (sc := defScope sLLabelsG) (by decide +kernel)) (fun _ _ _ _ _ => pg_name (i := 6) scLabs.nd rfl (Or.inl rfl))
          (fun _ _ _ _ _ => pts_one (pt_cmp (pc_notN (pe_ix (r := rIxL K) ix_list (pv 5) (pv 6) (fun _ _ => rfl))))) (fun _ _ _ _ _ => pe_tup (pa_cons (pe_ix (r := rIxL K) ix_list (pv 4) (pv 6) (fun _ _ => rfl)) (pa_cons (pe_ix (r := rIxL K) ix_list (pv 5) (pv 6) (fun _ _ => rfl)) pa_nil))))))))), ?_⟩
    -- roads
    refine ⟨fun σ H' => ∃ (Lr : Addr) (xs : List V), σ = [some (.ref q), some (.str kind), some (.str start), some (.int moment), some (.ref Lr), none, none, none, none, none, none] ∧ Grew P H H' ∧ H' Lr = some (.lst xs) ∧ Paired (RoadAt K H') (rs.filter (everB kind)) xs, ?_, ?_⟩
    · exact ⟨_, rfl, _, rfl, q, kind, d, ps, ks, rs, bs, rfl, hq, l60, hP, fun H' L ys g nL hL hys => ⟨L, ys, rfl, g, hL, hys⟩⟩
    rintro σ H1 ⟨Lr, xs, rfl, g1, hLr, hxs⟩
    have hos : ∀ r ∈ rs.filter (everB kind), r ∈ rs ∧ everB kind r = true := fun r h => List.mem_filter.mp h
    have ndo : ((rs.filter (everB kind)).map (·.name)).Nodup := ndr0.sublist (List.Sublist.map _ List.filter_sublist)
    have lo : (rs.filter (everB kind)).length ≤ 60 := Nat.le_trans (List.length_filter_le _ _) l60
    generalize rs.filter (everB kind) = os at S k hxs hos ndo lo
    have lx := Paired.len hxs
    have nmk : ∀ r ∈ os, PyData.strOk r.name = true := fun r h => nmk0 r (hos r h).1
    have hoR : ∀ r ∈ os, HoursOk d r.hours := fun r h => hoR0 r (hos r h).1
    have ever : ∀ r ∈ os, everB kind r = true := fun r h => (hos r h).2
    have hq1 := hq.grew g1 hP
    -- arrivals
    refine ⟨fun σ H' => ∃ (La : Addr), σ = [some (.ref q), some (.str kind), some (.str start), some (.int moment), some (.ref Lr), some (.ref La), none, none, none, none, none] ∧ Grew P H1 H' ∧ H1 La = none ∧ H' La = some (.lst (arrV os [])), ?_, ?_⟩
    · refine ⟨_, rfl, Lr, rfl, ⟨_, SqL.of hLr⟩, fun D nD => lc_list (K := K) (a := Lr) (xs := xs) (fun i H' => Grew P H1 H' ∧ H' D = some (.lst (arrV (os.take i) [])))
        ⟨Grew.new g1.tab nD, upd_same⟩ (fun i H' _ h => SqL.of (h.1.lst g1.tab hLr)) (fun i v H2 hv h => ?_) (fun H2 h => ?_)⟩
      · obtain ⟨g, hD⟩ := h
        obtain ⟨r, hr0, _⟩ := Paired.at hxs hv
        refine ⟨rfl, _, hD, ?_, g.write hD (fun _ z => by cases z) nD, ?_⟩
        · unfold arrV; rw [List.length_map, List.length_take, sizeLine_eq]; omega
        · unfold arrV
          rw [upd_same, List.take_succ, hr0, List.map_append]
          rfl
      · obtain ⟨g, hD⟩ := h
        rw [← lx, List.take_length] at hD
        exact ⟨D, rfl, g, nD, hD⟩
    rintro σ H2 ⟨La, rfl, g2, nLa, hLa⟩
    have g02 := g1.trans g2
    have lenA : ∀ zs, (arrV os zs).length = os.length := fun zs => by unfold arrV; rw [List.length_map]
    have atN : ∀ {n : Nat} {m : Nat}, n < m → ixN m (n : Int) = some n := fun {n m} h => by
      unfold ixN
      rw [if_pos (by omega), if_pos (by omega)]
      simp
    have eqAt : ∀ {H' : Hp}, Grew P H1 H' → ∃ L0, H' q = some (.lst L0) ∧ atI L0 0 = some (.int d) := fun g => by
      obtain ⟨ki, pl, ro, ba, x1, z1, eq, _⟩ := hq1
      exact ⟨_, g.lst g1.tab eq, rfl⟩
    have mayN : ∀ r ∈ os, mayB kind bs start none r = decide (r.start = start) := fun r h => by
      unfold mayB
      rw [ever r h]
      simp
    have mayS : ∀ r ∈ os, ∀ p : RoadD, mayB kind bs p.goal (some p.name) r = (decide (p.goal = r.start) && !decide ((p.name, r.name) ∈ bs)) := fun r h p => by
      unfold mayB
      rw [ever r h]
      by_cases c : p.goal = r.start
      · simp [c]
      · simp [c, Ne.symm c]
    have uniqO : ∀ {r r2 : RoadD}, r ∈ os → r2 ∈ os → r.name = r2.name → r = r2 := fun h h2 e => uniq_name ndo h h2 e
    -- the first roads
    refine ⟨fun σ H' => ∃ (v6 : Option V) (zs : List (Str × Int)), σ = [some (.ref q), some (.str kind), some (.str start), some (.int moment), some (.ref Lr), some (.ref La), v6, none, none, none, none] ∧ Grew P H1 H' ∧ H' La = some (.lst (arrV os zs)) ∧ BF d kind bs os start moment T 0 zs ∧ Ini d kind bs start moment os zs, ?_, ?_⟩
    · refine ⟨_, rfl, Lr, _, rfl, .inl (SqL.of (g2.lst g1.tab hLr)), (xs.length : Int), rfl, by omega, by omega, for_range (n := xs.length) (fun i σ H' => ∃ (v6 : Option V) (zs : List (Str × Int)), σ = [some (.ref q), some (.str kind), some (.str start), some (.int moment), some (.ref Lr), some (.ref La), v6, none, none, none, none] ∧ Grew P H1 H' ∧ H' La = some (.lst (arrV os zs)) ∧ BF d kind bs os start moment T 0 zs ∧ Ini d kind bs start moment (os.take i) zs ∧ ∀ p ∈ zs, ∃ r ∈ os, r.name = p.1 ∧ p.2 = ar d r moment)
        ⟨none, [], rfl, g2, hLa, ⟨List.nodup_nil, fun p hp => absurd hp (by simp), fun z t hz hk => ?_⟩, fun r hr => absurd hr (by simp), fun p hp => absurd hp (by simp)⟩ ?_ ?_⟩
      · obtain ⟨⟨r, hr, e⟩, _⟩ := S.dom z t hz
        rw [← e] at hz hk
        have := rk_pos hr hz
        omega
      · rintro i σ H3 hi ⟨v6, zs, rfl, g3, hLa3, hbf, hini, hval⟩
        rw [Int.zero_add]
        have hx : xs[i]? = some (xs[i]'hi) := List.getElem?_eq_getElem hi
        generalize xs[i]'hi = xv at hx
        obtain ⟨r, hr, hroad⟩ := Paired.at hxs hx
        have hrm := List.mem_of_getElem? hr
        have hroad3 := hroad.grew g3 g1.tab
        have hgen := hroad3.gen
        have hLr3 := g3.lst g1.tab hLr
        have itake : ∀ {zs' : List (Str × Int)}, Ini d kind bs start moment (os.take i) zs' → (mayB kind bs start none r = true → Has zs' r.name (ar d r moment)) → Ini d kind bs start moment (os.take (i + 1)) zs' := fun h1 h2 r2 hr2 c => by
          rw [List.take_succ, hr] at hr2
          rcases List.mem_append.mp hr2 with z | z
          · exact h1 r2 z c
          · have er : r2 = r := by simpa using z
            subst er
            exact h2 c
        obtain ⟨t, u, hh, rfl, e1, e2, e3⟩ := hroad3
        refine ⟨_, rfl, _, rfl, Lr, _, _, _, rfl, rfl, SqL.of hLr3, atI_nat hx, t, _, 1, _, rfl, rfl, SqT.of e1, rfl, _, rfl, rfl, _, rfl, ?_⟩
        by_cases c : r.start = start
        · have cm : mayB kind bs start none r = true := by rw [mayN r hrm]; exact decide_eq_true c
          refine if_t (decide_eq_true (congrArg V.str c)) ?_
          obtain ⟨L0, eq0, a0⟩ := eqAt g3
          have t13 := g3.tab
          refine ⟨_, rfl, _, rfl, Lr, _, _, _, rfl, rfl, SqL.of hLr3, atI_nat hx, _, rfl, q, _, 0, _, rfl, rfl, SqL.of eq0, a0, _, rfl, .ref t, d, moment, r, rfl, hgen, d1, d2, hmo, hoR r hrm, t13, fun H4 g4 => ?_⟩
          obtain ⟨ea, _⟩ := ar_some d1 (hoR r hrm) (may_ever cm) moment
          rw [ea]
          have hLa4 := g4.lst t13 hLa3
          refine ⟨_, rfl, _, rfl, La, _, _, i, rfl, rfl, hLa4, atN (by rw [lenA]; omega), ?_⟩
          have hlow : ∀ v, (r.name, v) ∈ zs → ar d r moment ≤ v := fun v hv => by
            obtain ⟨r2, h2, en, ev⟩ := hval _ hv
            have er := uniqO h2 hrm en
            rw [er] at ev
            exact Int.le_of_eq ev.symm
          obtain ⟨tt, et, lt⟩ := S.a r hrm cm
          refine ⟨_, zput zs r.name (ar d r moment), rfl, (g3.trans g4).write hLa4 (fun _ z => by cases z) nLa, ?_, hbf.put et lt hlow, itake (hini.put hlow) (fun _ => ⟨_, zput_mem.mpr (.inl rfl), Int.le_refl _⟩), fun p hp => ?_⟩
          · rw [upd_same]
            exact congrArg (fun l => some (HO.lst l)) (arrV_put hbf.nd ndo hr _)
          · rcases zput_mem.mp hp with e | ⟨hp, _⟩
            · rw [e]; exact ⟨r, hrm, rfl, rfl⟩
            · exact hval p hp
        · refine if_f (decide_eq_false fun e => c (V.str.inj e)) ⟨_, zs, rfl, g3, hLa3, hbf, itake hini (fun h => ?_), hval⟩
          rw [mayN r hrm] at h
          exact absurd (of_decide_eq_true h) c
      · rintro σ H3 ⟨v6, zs, rfl, g3, hLa3, hbf, hini, _⟩
        rw [← lx, List.take_length] at hini
        exact ⟨v6, zs, rfl, g3, hLa3, hbf, hini⟩
    rintro σ H3 ⟨v6, zs, rfl, g3, hLa3, hbf, hini⟩
    -- the rounds
    refine ⟨fun σ H' => ∃ (v6 v7 v8 v9 : Option V) (zs : List (Str × Int)), σ = [some (.ref q), some (.str kind), some (.str start), some (.int moment), some (.ref Lr), some (.ref La), v6, v7, v8, v9, none] ∧ Grew P H1 H' ∧ H' La = some (.lst (arrV os zs)) ∧ BF d kind bs os start moment T os.length zs, ?_, ?_⟩
    · refine ⟨_, rfl, Lr, _, rfl, .inl (SqL.of (g3.lst g1.tab hLr)), (xs.length : Int), rfl, by omega, by omega, for_range (n := xs.length) (fun i σ H' => ∃ (v6 v7 v8 v9 : Option V) (zs : List (Str × Int)), σ = [some (.ref q), some (.str kind), some (.str start), some (.int moment), some (.ref Lr), some (.ref La), v6, v7, v8, v9, none] ∧ Grew P H1 H' ∧ H' La = some (.lst (arrV os zs)) ∧ BF d kind bs os start moment T i zs ∧ Ini d kind bs start moment os zs)
        ⟨v6, none, none, none, zs, rfl, g3, hLa3, hbf, hini⟩ ?_ ?_⟩
      · rintro i σ H4 hi ⟨v6, v7, v8, v9, zs, rfl, g4, hLa4, hbf, hini⟩
        rw [Int.zero_add]
        refine ⟨_, rfl, Lr, _, rfl, .inl (SqL.of (g4.lst g1.tab hLr)), (xs.length : Int), rfl, by omega, by omega, for_range (n := xs.length) (fun j σ H' => ∃ (v6 v8 v9 : Option V) (zs : List (Str × Int)), σ = [some (.ref q), some (.str kind), some (.str start), some (.int moment), some (.ref Lr), some (.ref La), v6, some (.int (i : Int)), v8, v9, none] ∧ Grew P H1 H' ∧ H' La = some (.lst (arrV os zs)) ∧ BF d kind bs os start moment T i zs ∧ Ini d kind bs start moment os zs ∧ Gone d kind bs os T i (os.take j) os zs)
          ⟨v6, v8, v9, zs, rfl, g4, hLa4, hbf, hini, fun p hp => absurd hp (by simp)⟩ ?_ ?_⟩
        · rintro j σ H5 hj ⟨v6, v8, v9, zs, rfl, g5, hLa5, hbf, hini, hgone⟩
          rw [Int.zero_add]
          have hxj : xs[j]? = some (xs[j]'hj) := List.getElem?_eq_getElem hj
          generalize xs[j]'hj = pv0 at hxj
          obtain ⟨p, hp, hproad⟩ := Paired.at hxs hxj
          have hpm := List.mem_of_getElem? hp
          have gtake : ∀ {zs' : List (Str × Int)}, Gone d kind bs os T i (os.take j) os zs' → Gone d kind bs os T i [p] os zs' → Gone d kind bs os T i (os.take (j + 1)) os zs' := fun h1 h2 p2 hp2 => by
            rw [List.take_succ, hp] at hp2
            rcases List.mem_append.mp hp2 with z | z
            · exact h1 p2 z
            · exact h2 p2 (by simpa using z)
          refine ⟨_, rfl, Lr, _, rfl, .inl (SqL.of (g5.lst g1.tab hLr)), (xs.length : Int), rfl, by omega, by omega, for_range (n := xs.length) (fun l σ H' => ∃ (v8 v9 : Option V) (zs : List (Str × Int)), σ = [some (.ref q), some (.str kind), some (.str start), some (.int moment), some (.ref Lr), some (.ref La), some (.int (j : Int)), some (.int (i : Int)), v8, v9, none] ∧ Grew P H1 H' ∧ H' La = some (.lst (arrV os zs)) ∧ BF d kind bs os start moment T i zs ∧ Ini d kind bs start moment os zs ∧ Gone d kind bs os T i (os.take j) os zs ∧ Gone d kind bs os T i [p] (os.take l) zs)
            ⟨v8, v9, zs, rfl, g5, hLa5, hbf, hini, hgone, fun _ _ _ _ _ r hr => absurd hr (by simp)⟩ ?_ ?_⟩
          · rintro l σ H6 hl2 ⟨v8, v9, zs, rfl, g6, hLa6, hbf, hini, hgone, hg1⟩
            rw [Int.zero_add]
            have hxl : xs[l]? = some (xs[l]'hl2) := List.getElem?_eq_getElem hl2
            generalize xs[l]'hl2 = rv0 at hxl
            obtain ⟨r, hr, hroad⟩ := Paired.at hxs hxl
            have hrm := List.mem_of_getElem? hr
            have t6 := g6.tab
            have hLr6 := g6.lst g1.tab hLr
            have gtl : ∀ {zs' : List (Str × Int)}, Gone d kind bs os T i [p] (os.take l) zs' → (∀ t2, T p.name = some t2 → rk T os p.name ≤ i → mayB kind bs p.goal (some p.name) r = true → Has zs' r.name (ar d r t2)) → Gone d kind bs os T i [p] (os.take (l + 1)) zs' := fun h1 h2 p2 hp2 t2 e2 hk r2 hr2 c => by
              have ep := List.mem_singleton.mp hp2
              rw [List.take_succ, hr] at hr2
              rcases List.mem_append.mp hr2 with z | z
              · exact h1 p2 hp2 t2 e2 hk r2 z c
              · have er : r2 = r := by simpa using z
                subst er ep
                exact h2 t2 e2 hk c
            refine ⟨_, rfl, _, rfl, La, _, _, _, rfl, rfl, SqL.of hLa6, atI_nat (arrV_at hp), _, rfl, ?_⟩
            cases hg : zget zs p.name with
            | none =>
              refine iteF (iteF ⟨_, _, zs, rfl, g6, hLa6, hbf, hini, hgone, gtl hg1 fun t2 e2 hk _ => ?_⟩)
              obtain ⟨v, hv, _⟩ := hbf.up _ _ e2 hk
              exact absurd rfl (zget_none hg _ hv)
            | some vp =>
              refine iteT ?_
              refine ⟨_, rfl, _, rfl, _, rfl, Lr, _, _, _, rfl, rfl, SqL.of hLr6, atI_nat hxj, _, rfl, _, rfl, Lr, _, _, _, rfl, rfl, SqL.of hLr6, atI_nat hxl, q, pv0, rv0, d, ps, ks, rs, bs, p, r, rfl, hq1.grew g6 g1.tab, okB, nmk p hpm, nmk r hrm, (hproad.grew g6 g1.tab).gen, (hroad.grew g6 g1.tab).gen, t6, fun H7 g7 => ⟨_, rfl, ?_⟩⟩
              rw [← mayS r hrm p]
              have g17 := g6.trans g7
              have hLa7 := g7.lst t6 hLa6
              have hLr7 := g7.lst t6 hLr6
              cases c : mayB kind bs p.goal (some p.name) r with
              | false => exact iteF ⟨_, _, zs, rfl, g17, hLa7, hbf, hini, hgone, gtl hg1 (fun _ _ _ h => Bool.noConfusion (c.symm.trans h))⟩
              | true =>
                refine iteT ?_
                have hne := may_ever c
                obtain ⟨tpv, etp, ltp⟩ := hbf.lo _ (zget_mem hg)
                have etp' : T p.name = some tpv := etp
                have ltp' : tpv ≤ vp := ltp
                have hvp0 : 0 ≤ vp := by have := (S.dom _ _ etp').2; omega
                obtain ⟨ea, _⟩ := ar_some d1 (hoR r hrm) hne vp
                obtain ⟨L0, eq0, a0⟩ := eqAt g17
                have aP : (arrV os zs)[j]? = some (.int vp) := by rw [arrV_at hp, hg]; rfl
                refine ⟨fun σ H' => σ = [some (.ref q), some (.str kind), some (.str start), some (.int moment), some (.ref Lr), some (.ref La), some (.int (j : Int)), some (.int (i : Int)), some (.int (l : Int)), some (.int (ar d r vp)), none] ∧ Grew P H7 H', ?_, ?_⟩
                · refine ⟨_, rfl, _, rfl, Lr, _, _, _, rfl, rfl, SqL.of hLr7, atI_nat hxl, _, rfl, q, _, 0, _, rfl, rfl, SqL.of eq0, a0, _, rfl, _, rfl, La, _, _, _, rfl, rfl, SqL.of hLa7, atI_nat aP, rv0, d, vp, r, rfl, (hroad.grew g17 g1.tab).gen, d1, d2, hvp0, hoR r hrm, g17.tab, fun H8 g8 => ?_⟩
                  rw [ea]
                  exact ⟨rfl, g8⟩
                rintro σ H8 ⟨rfl, g8⟩
                have g18 := g17.trans g8
                have hLa8 := g8.lst g17.tab hLa7
                obtain ⟨tr, etr, ltr⟩ := S.b p hpm tpv etp' r hrm c
                have mono := ar_mono d1 (hoR r hrm) hne ltp'
                have good : ∀ {zs' : List (Str × Int)}, Has zs' r.name (ar d r vp) → ∀ t2, T p.name = some t2 → rk T os p.name ≤ i → mayB kind bs p.goal (some p.name) r = true → Has zs' r.name (ar d r t2) := fun h t2 e2 hk _ => by
                  obtain ⟨v, hv, hle⟩ := hbf.up _ _ e2 hk
                  have ev := zget_some hbf.nd hv
                  rw [hg] at ev
                  have ev' := Option.some.inj ev
                  obtain ⟨v2, hv2, hle2⟩ := h
                  exact ⟨v2, hv2, Int.le_trans hle2 (ar_mono d1 (hoR r hrm) hne (by omega))⟩
                have putit : ∀ (hlow : ∀ v, (r.name, v) ∈ zs → ar d r vp ≤ v), ∃ (v8 v9 : Option V) (zs' : List (Str × Int)), ([some (.ref q), some (.str kind), some (.str start), some (.int moment), some (.ref Lr), some (.ref La), some (.int (j : Int)), some (.int (i : Int)), some (.int (l : Int)), some (.int (ar d r vp)), none] : L2.St) = [some (.ref q), some (.str kind), some (.str start), some (.int moment), some (.ref Lr), some (.ref La), some (.int (j : Int)), some (.int (i : Int)), v8, v9, none] ∧ Grew P H1 (L2.upd H8 La (.lst ((arrV os zs).set l (.int (ar d r vp))))) ∧ (L2.upd H8 La (.lst ((arrV os zs).set l (.int (ar d r vp))))) La = some (.lst (arrV os zs')) ∧
                    BF d kind bs os start moment T i zs' ∧ Ini d kind bs start moment os zs' ∧ Gone d kind bs os T i (os.take j) os zs' ∧ Gone d kind bs os T i [p] (os.take (l + 1)) zs' := fun hlow => by
                  have hb2 := hbf.put etr (Int.le_trans ltr mono) hlow
                  refine ⟨_, _, zput zs r.name (ar d r vp), rfl, g18.write hLa8 (fun _ z => by cases z) nLa, ?_, hb2, hini.put hlow, hgone.put hlow, gtl (hg1.put hlow) (good ⟨_, zput_mem.mpr (.inl rfl), Int.le_refl _⟩)⟩
                  rw [upd_same]
                  exact congrArg (fun l => some (HO.lst l)) (arrV_put hbf.nd ndo hr _)
                refine ⟨_, rfl, _, rfl, La, _, _, _, rfl, rfl, SqL.of hLa8, atI_nat (arrV_at hr), _, rfl, ?_⟩
                cases hgr : zget zs r.name with
                | none =>
                  refine iteT ?_
                  exact ⟨_, rfl, _, rfl, _, rfl, La, _, _, l, rfl, rfl, hLa8, atN (by rw [lenA]; omega), putit fun v hv => absurd rfl (zget_none hgr _ hv)⟩
                | some vr =>
                  have aR : (arrV os zs)[l]? = some (.int vr) := by rw [arrV_at hr, hgr]; rfl
                  refine iteF ⟨_, rfl, _, rfl, _, rfl, La, _, _, _, rfl, rfl, SqL.of hLa8, atI_nat aR, _, _, rfl, rfl, _, rfl, ?_⟩
                  refine ite2 (fun lt => ?_) (fun ge => ?_)
                  · have lt' := of_decide_eq_true lt
                    refine ⟨_, rfl, _, rfl, _, rfl, La, _, _, l, rfl, rfl, hLa8, atN (by rw [lenA]; omega), putit fun v hv => ?_⟩
                    have ev := zget_some hbf.nd hv
                    rw [hgr] at ev
                    have := Option.some.inj ev
                    omega
                  · have ge' : ¬ ar d r vp < vr := fun z => ge (decide_eq_true z)
                    exact ⟨_, _, zs, rfl, g18, hLa8, hbf, hini, hgone, gtl hg1 (good ⟨vr, zget_mem hgr, by omega⟩)⟩
          · rintro σ H6 ⟨v8, v9, zs, rfl, g6, hLa6, hbf, hini, hgone, hg1⟩
            rw [← lx, List.take_length] at hg1
            exact ⟨_, _, _, zs, rfl, g6, hLa6, hbf, hini, gtake hgone hg1⟩
        · rintro σ H5 ⟨v6, v8, v9, zs, rfl, g5, hLa5, hbf, hini, hgone⟩
          rw [← lx, List.take_length] at hgone
          exact ⟨_, _, _, _, zs, rfl, g5, hLa5, hbf.next S hini hgone, hini⟩
      · rintro σ H4 ⟨v6, v7, v8, v9, zs, rfl, g4, hLa4, hbf, hini⟩
        rw [← lx] at hbf
        exact ⟨_, _, _, _, zs, rfl, g4, hLa4, hbf⟩
    rintro σ H4 ⟨v6, v7, v8, v9, zs, rfl, g4, hLa4, hbf⟩
    have ex := hbf.exact S
    have getT : ∀ z, zget zs z = T z := fun z => by
      cases e : T z with
      | some t => exact zget_some hbf.nd ((ex z t).mpr e)
      | none =>
        cases e2 : zget zs z with
        | none => rfl
        | some t => rw [(ex z t).mp (zget_mem e2)] at e; cases e
    have hLr4 := g4.lst g1.tab hLr
    have g04 := g1.trans g4
    refine ⟨_, rfl, Lr, _, rfl, .inl (SqL.of hLr4), (xs.length : Int), rfl, by omega, by omega, fun D nD => lc_range (n := (xs.length : Int).toNat) (fun i H' => Grew P H4 H' ∧ ∃ acc, H' D = some (.lst acc) ∧ Paired (LabAt K H') (labL T (os.take i)) acc)
      ⟨Grew.new g4.tab nD, [], upd_same, .nil⟩ (fun i H5 hi h => ?_) (fun H5 h => ?_)⟩
    · obtain ⟨g, acc, hD, hacc⟩ := h
      rw [Int.zero_add]
      have hi2 : i < xs.length := by omega
      have hx : xs[i]? = some (xs[i]'hi2) := List.getElem?_eq_getElem hi2
      generalize xs[i]'hi2 = xv at hx
      obtain ⟨r, hr, hroad⟩ := Paired.at hxs hx
      have la := Paired.len hacc
      have lf : (labL T (os.take i)).length ≤ (os.take i).length := List.length_filterMap_le _ _
      rw [List.length_take] at lf
      have et : labL T (os.take (i + 1)) = labL T (os.take i) ++ ((T r.name).map fun t => (r, t)).toList := by
        unfold labL
        rw [List.take_succ, hr, List.filterMap_append]
        cases c : T r.name <;> simp [c]
      have hLa5 := g.lst g4.tab hLa4
      have hLr5 := g.lst g4.tab hLr4
      have aR := arrV_at (zs := zs) hr
      rw [getT] at aR
      refine ⟨rfl, _, rfl, _, rfl, La, _, _, _, rfl, rfl, SqL.of hLa5, atI_nat aR, _, rfl, ?_⟩
      cases c : T r.name with
      | none =>
        rw [c] at et
        refine iteF ⟨g, acc, hD, ?_⟩
        rw [et]
        simpa using hacc
      | some a =>
        rw [c] at et aR
        have aR : (arrV os zs)[i]? = some (V.int a) := aR
        refine iteT ?_
        refine ⟨_, rfl, _, rfl, Lr, _, _, _, rfl, rfl, SqL.of hLr5, atI_nat hx, _, rfl, _, rfl, La, _, _, _, rfl, rfl, SqL.of hLa5, atI_nat aR, by show 2 ≤ sizeLine; decide, fun tp ntp => ?_⟩
        have gt := Grew.new g.tab (o := .tup [xv, .int a]) ntp
        have hD6 := gt.lst g.tab hD
        have htp : (L2.upd H5 tp (.tup [xv, .int a])) tp = some (.tup [xv, .int a]) := upd_same
        have acc6 : Paired (LabAt K (L2.upd H5 tp (.tup [xv, .int a]))) (labL T (os.take i)) acc := Paired.map' hacc fun e v ⟨t, w, a, b, m⟩ => ⟨t, w, a, gt.tup g.tab b, m.grew gt g.tab⟩
        have hr6 := (hroad.grew (g4.trans g) g1.tab).grew gt g.tab
        generalize L2.upd H5 tp (.tup [xv, .int a]) = H6 at gt hD6 htp acc6 hr6
        have kp : ∀ {e : RoadD × Int} {v : V}, LabAt K H6 e v → LabAt K (L2.upd H6 D (.lst (acc ++ [.ref tp]))) e v := fun {e v} ⟨t, w, a, b, m⟩ => ⟨t, w, a, by rw [upd_ne (fun z => by rw [z, hD6] at b; cases b)]; exact b, m.upd (fun xs z => by rw [hD6] at z; cases z) (KeepT.lst hD6)⟩
        refine ⟨acc, hD6, by rw [sizeLine_eq]; omega, (g.trans gt).write hD6 (fun _ z => by cases z) nD, acc ++ [.ref tp], upd_same, ?_⟩
        rw [et]
        exact Paired.snoc (Paired.map' acc6 fun _ _ m => kp m) (kp (e := (r, a)) ⟨tp, xv, rfl, htp, hr6⟩)
    · obtain ⟨g, acc, hD, hacc⟩ := h
      have en : (xs.length : Int).toNat = os.length := by omega
      rw [en, List.take_length] at hacc
      exact k H5 D acc (g04.trans g) (g04.free nD) hD hacc
end
end W

set_option Elab.async false
set_option linter.all false
set_option maxRecDepth 100000
set_option maxHeartbeats 1000000
/-! min(l, default=d) of a list of ints: a rule over the layer -/
namespace MyH
open PySem PySem.Spec PyProof.Rows L2
def rMinDef : List V → List V → Hp → VK → Prop := fun vs zs H Q => ∃ (l : Addr) (ns : List Int) (d : V), vs = [.ref l] ∧ zs = [d] ∧ H l = some (.lst (ns.map V.int)) ∧
  (ns = [] → Q d H) ∧ ∀ n ns', ns = n :: ns' → Q (.int (ns'.foldl min n)) H
theorem reads_ints {h : Heap} : ∀ {ns : List Int} {us : List Value}, IntsAre us ns → ∃ as, ReadsAll h us (ns.map PyData.int) as
  | _, _, .nil => ⟨_, .nil⟩
  | _, _, .cons n t r => by
    obtain ⟨as, q⟩ := reads_ints r
    exact ⟨_, .cons (.int n t) q⟩
theorem alike_ints (ns : List Int) : PySem.W.AlikeAll (ns.map PyData.int) := ⟨fun x hx y hy => by
  obtain ⟨p, _, rfl⟩ := List.mem_map.mp hx
  obtain ⟨q, _, rfl⟩ := List.mem_map.mp hy
  rfl, fun x hx => by
  obtain ⟨p, _, rfl⟩ := List.mem_map.mp hx
  exact fun z => nomatch z⟩
theorem depth_ints : ∀ ns : List Int, PyData.depthAll (ns.map PyData.int) ≤ 1
  | [] => by simp [PyData.depthAll]
  | n :: ns => by
    have i := depth_ints ns
    simp only [List.map_cons, PyData.depthAll, PyData.depth]
    omega
section
variable {X : Cx}
theorem cr_minDef (hh : X.A.handled = none) (hu : X.A.units + 8 < cLine) : CallRK X (.builtin "min") [Str.ofString "default"] rMinDef := by
  intro pins s σ H vs zs us ws Q I r rz h
  obtain ⟨l, ns, d, rfl, rfl, hH, q0, q⟩ := h
  obtain rfl := Vals.ref1 r
  obtain ⟨w1, rfl, e1⟩ := vals1 rz
  obtain ⟨z, its, n, rv, hl, e⟩ := I.lstM hH
  have hi := ints_vals rv
  obtain ⟨as, ra⟩ := reads_ints (h := s.heap) hi
  refine PySem.W.min_list_default (vs := its.toArray) (xs := ns.map PyData.int) (as := as) hh ?_ (by simpa using ra) (alike_ints ns) (by have := depth_ints ns; omega) (fun hz h' tk mo => ?_) fun y ys i v h' tk bs hy hi' rd mo => ?_
  · exact ⟨_, e, rfl, _, rfl⟩
  · exact ⟨d, H, I.kept (t' := tk) mo, e1, q0 (List.map_eq_nil_iff.mp hz)⟩
  · cases ns with
    | nil => cases hy
    | cons m ms =>
      rw [List.map_cons] at hy
      injection hy with h1 h2
      subst h1 h2
      rw [PySem.W.minD_ints] at rd
      cases rd with
      | int _ t => exact ⟨.int _, H, I.kept (t' := tk) mo, ⟨t, rfl⟩, q m ms rfl⟩
end
theorem foldl_min : ∀ (ns : List Int) (n : Int), (ns.foldl min n ∈ n :: ns) ∧ ∀ m ∈ n :: ns, ns.foldl min n ≤ m
  | [], n => ⟨List.mem_cons_self, fun m hm => by rw [List.mem_singleton.mp hm]; exact Int.le_refl _⟩
  | k :: ns, n => by
    obtain ⟨h1, h2⟩ := foldl_min ns (min n k)
    rw [List.foldl_cons]
    refine ⟨?_, fun m hm => ?_⟩
    · rcases List.mem_cons.mp h1 with e | h
      · rw [e]
        by_cases c : n ≤ k
        · rw [Int.min_eq_left c]; exact List.mem_cons_self
        · rw [Int.min_eq_right (by omega)]; exact List.mem_cons_of_mem _ List.mem_cons_self
      · exact List.mem_cons_of_mem _ (List.mem_cons_of_mem _ h)
    · have h0 := h2 (min n k) List.mem_cons_self
      rcases List.mem_cons.mp hm with e | h
      · rw [e]; omega
      · rcases List.mem_cons.mp h with e | h
        · rw [e]; omega
        · exact h2 m (List.mem_cons_of_mem _ h)
end MyH

set_option Elab.async false
set_option linter.all false
set_option maxRecDepth 100000
set_option maxHeartbeats 4000000
namespace W
open PySem PySem.Spec PyProof.Rows L2 GxR MyG MyS MyR
/-! ### _law_earliest -/
abbrev sLEarlG : Stmt := top 71
/-- the law's earliest arrival -/
def EarlZ (os : List RoadD) (T : Str → Option Int) (start goal : Str) (moment : Int) (o : Option Int) : Prop := (start = goal ∧ o = some moment) ∨ (start ≠ goal ∧ ((o = none ∧ ∀ r ∈ os, r.goal = goal → T r.name = none) ∨
  ∃ t, o = some t ∧ (∃ r ∈ os, r.goal = goal ∧ T r.name = some t) ∧ ∀ r ∈ os, r.goal = goal → ∀ u, T r.name = some u → t ≤ u))
def spLEarlG (K : PySem.W.Frag) (P : Addr) : Sp := fun vs H Q _ => ∃ (q : Addr) (kind start goal : Str) (moment d : Int) (ps ks : List Str) (rs : List RoadD) (bs : List (Str × Str)) (T : Str → Option Int), vs = [.ref q, .str kind, .str start, .str goal, .int moment] ∧ PartsT K H q d ks ps rs bs ∧ OkB bs ∧ 1 ≤ d ∧ d ≤ 1440 ∧ (rs.map (·.name)).Nodup ∧ rs.length ≤ 60 ∧ (∀ r ∈ rs, PyData.strOk r.name = true) ∧ (∀ r ∈ rs, HoursOk d r.hours) ∧ 0 ≤ moment ∧ LSol d kind bs (rs.filter (everB kind)) start moment T ∧ TabG H P ∧
  ∀ H' o, Grew P H H' → EarlZ (rs.filter (everB kind)) T start goal moment o → Q (optV o) H'
/-- the arrivals at the goal -/
def endsL (T : Str → Option Int) (goal : Str) (es : List (RoadD × Int)) : List Int := (es.filter fun e => decide (e.1.goal = goal)).map (·.2)
theorem endsL_mem {T : Str → Option Int} {goal : Str} {os : List RoadD} {t : Int} : t ∈ endsL T goal (labL T os) ↔ ∃ r ∈ os, r.goal = goal ∧ T r.name = some t := by
  unfold endsL labL
  constructor
  · intro h
    obtain ⟨e, he, rfl⟩ := List.mem_map.mp h
    obtain ⟨h1, h2⟩ := List.mem_filter.mp he
    obtain ⟨r, hr, h3⟩ := List.mem_filterMap.mp h1
    obtain ⟨u, hu, rfl⟩ := Option.map_eq_some_iff.mp h3
    exact ⟨r, hr, of_decide_eq_true h2, hu⟩
  · rintro ⟨r, hr, hg, ht⟩
    exact List.mem_map.mpr ⟨(r, t), List.mem_filter.mpr ⟨List.mem_filterMap.mpr ⟨r, hr, by rw [ht]; rfl⟩, decide_eq_true hg⟩, rfl⟩
section
variable {Pg : Program} {w : World} {K : PySem.W.Frag} {mg : Str → Option Value} {base : Heap} {C P : Addr}
abbrev nEarlG : List Str := ["parts", "kind", "start", "goal", "moment", "ends", "pair"]
theorem scEarlG : FnScope nEarlG ["parts", "kind", "start", "goal", "moment"] (defScope sLEarlG) := ⟨rfl, rfl, rfl, by decide +kernel, rfl, by decide +kernel, by decide +kernel⟩
theorem ok_learlG {f fL : Addr} {fd fdL : FuncData} (F : Fun K "_law_earliest" "_law_earliest" sLEarlG f fd) (hm : mg "min" = none)
    (GL : FnOk Pg w K mg base CX0 3 fL fdL ["parts", "kind", "start", "moment"] (spLLabelsG K P)) (gL : mg "_law_labels" = some (.ref fL)) (kL : PySem.W.keepIn K (.ref fL) = true) (bL : Binds K fdL ["parts", "kind", "start", "moment"] []) :
    FnOk Pg w K mg base CX0 4 f fd ["parts", "kind", "start", "goal", "moment"] (spLEarlG K P) := by
  refine F.ok scEarlG (fun vs H Q E h => ?_) (fun cdv A outer s H vs Q E hr h => ?_)
  · obtain ⟨q, kind, start, goal, moment, d, ps, ks, rs, bs, T, rfl, _⟩ := h
    rfl
  · obtain ⟨q, kind, start, goal, moment, d, ps, ks, rs, bs, T, rfl, hq, okB, d1, d2, ndr0, l60, nmk0, hoR0, hmo, S, hP, k⟩ := h
    refine ⟨_, pss_cons (ps_if (pt_cmpR op_eq (pv 2) (pv 3) (nomark _)) (pss_one (ps_ret (pv 4))) pss_nil)
      (C8.pss_cut (ps_setLc (i := 5) (own := [("pair", 6)]) (g := gName 6) rfl scEarlG.nd rfl rfl (sw_true rfl rfl rfl (by decide +kernel)) (pi_list (pe_call GL hr (by rfl) gL kL bL .nil pass0 (pa_cons (pv 0) (pa_cons (pv 1) (pa_cons (pv 2) (pa_cons (pv 4) pa_nil)))))) (blkOk_by (N := nEarlG) (sc := defScope sLEarlG) (by decide +kernel)) (fun _ _ _ _ _ => pg_name (i := 6) scEarlG.nd rfl (Or.inl rfl))
          (fun _ _ _ _ _ => pts_one (pt_cmpR op_eq (pe_ix (r := rIxT K) ix_tup (pe_ix (r := rIxT K) ix_tup (pv 6) pe_int (fun _ _ => rfl)) pe_int (fun _ _ => rfl)) (pv 3) (nomark _))) (fun _ _ _ _ _ => pe_ix (r := rIxT K) ix_tup (pv 6) pe_int (fun _ _ => rfl)))
      (pss_one (ps_ret (pe_callBK (MyH.cr_minDef hr.hd (Nat.lt_of_le_of_lt (Nat.add_le_add_left (by decide : 8 ≤ 64) _) hr.units)) (by rfl) hm (by decide +kernel) (pa_cons (pv 5) pa_nil) (pk_cons pe_non pk_nil))))), ?_⟩
    refine ⟨_, rfl, _, rfl, rfl, _, rfl, ?_⟩
    by_cases c : start = goal
    · exact if_t (decide_eq_true (congrArg V.str c)) ⟨_, rfl, k H (some moment) (Grew.refl hP) (.inl ⟨c, rfl⟩)⟩
    refine if_f (decide_eq_false fun e => c (V.str.inj e)) ?_
    have lo : (rs.filter (everB kind)).length ≤ 60 := Nat.le_trans (List.length_filter_le _ _) l60
    refine ⟨fun σ H' => ∃ (En : Addr), σ = [some (.ref q), some (.str kind), some (.str start), some (.str goal), some (.int moment), some (.ref En), none] ∧ Grew P H H' ∧ H' En = some (.lst ((endsL T goal (labL T (rs.filter (everB kind)))).map V.int)), ?_, ?_⟩
    · refine ⟨_, rfl, _, rfl, _, rfl, _, rfl, q, kind, start, moment, d, ps, ks, rs, bs, T, rfl, hq, okB, d1, d2, ndr0, l60, nmk0, hoR0, hmo, S, hP, fun H1 L ys g1 nL hL hys => ?_⟩
      have ll : (labL T (rs.filter (everB kind))).length ≤ 60 := Nat.le_trans (List.length_filterMap_le _ _) lo
      generalize labL T (rs.filter (everB kind)) = es at hys ll
      have ly := Paired.len hys
      refine ⟨L, rfl, ⟨_, SqL.of hL⟩, fun D nD => lc_list (K := K) (a := L) (xs := ys) (fun i H' => Grew P H1 H' ∧ H' D = some (.lst ((endsL T goal (es.take i)).map V.int)))
        ⟨Grew.new g1.tab nD, upd_same⟩ (fun i H' _ h => SqL.of (h.1.lst g1.tab hL)) (fun i v H2 hv h => ?_) (fun H2 h => ?_)⟩
      · obtain ⟨g, hD⟩ := h
        obtain ⟨e, he, t, wv, rfl, et, hro⟩ := Paired.at hys hv
        have hil := (List.getElem?_eq_some_iff.mp he).1
        have hro2 := hro.grew g g1.tab
        obtain ⟨t2, u2, h2, rfl, e1, e2, e3⟩ := hro2
        have et2 := g.tup g1.tab et
        have eE : endsL T goal (es.take (i + 1)) = endsL T goal (es.take i) ++ (if decide (e.1.goal = goal) = true then [e.2] else []) := by
          unfold endsL
          rw [fsnoc (p := fun e : RoadD × Int => decide (e.1.goal = goal)) he, List.map_append]
          split <;> rfl
        have lf : (endsL T goal (es.take i)).length ≤ 60 := by
          unfold endsL
          rw [List.length_map]
          refine Nat.le_trans (List.length_filter_le _ _) ?_
          rw [List.length_take]; omega
        refine ⟨rfl, _, rfl, t, _, 0, _, rfl, rfl, SqT.of et2, rfl, t2, _, 2, _, rfl, rfl, SqT.of e1, rfl, _, rfl, rfl, _, rfl, ?_⟩
        by_cases cg : e.1.goal = goal
        · rw [if_pos (decide_eq_true cg)] at eE
          refine if_t (decide_eq_true (congrArg V.str cg)) ⟨_, rfl, t, _, 1, _, rfl, rfl, SqT.of et2, rfl, _, hD, by rw [List.length_map, sizeLine_eq]; omega, g.write hD (fun _ z => by cases z) nD, ?_⟩
          rw [upd_same, eE, List.map_append]
          rfl
        · rw [if_neg (by rw [decide_eq_true_iff]; exact cg), List.append_nil] at eE
          exact if_f (decide_eq_false fun e => cg (V.str.inj e)) ⟨g, by rw [eE]; exact hD⟩
      · obtain ⟨g, hD⟩ := h
        rw [← ly, List.take_length] at hD
        exact ⟨D, rfl, g1.trans g, hD⟩
    rintro σ H1 ⟨En, rfl, g1, hEn⟩
    have mem : ∀ t, t ∈ endsL T goal (labL T (rs.filter (everB kind))) ↔ ∃ r ∈ rs.filter (everB kind), r.goal = goal ∧ T r.name = some t := fun t => endsL_mem
    generalize endsL T goal (labL T (rs.filter (everB kind))) = ts at hEn mem
    refine ⟨_, rfl, En, ts, .non, rfl, rfl, hEn, fun e => ?_, fun n ts' e => ?_⟩
    · refine k H1 none g1 (.inr ⟨c, .inl ⟨rfl, fun r hr hg => ?_⟩⟩)
      cases h : T r.name with
      | none => rfl
      | some t =>
        have := (mem t).mpr ⟨r, hr, hg, h⟩
        rw [e] at this
        cases this
    · obtain ⟨h1, h2⟩ := MyH.foldl_min ts' n
      refine k H1 (some _) g1 (.inr ⟨c, .inr ⟨_, rfl, (mem _).mp (by rw [e]; exact h1), fun r hr hg u hu => h2 u ?_⟩⟩)
      have := (mem u).mpr ⟨r, hr, hg, hu⟩
      rw [e] at this
      exact this
end
end W

set_option Elab.async false
set_option linter.all false
set_option maxRecDepth 100000
set_option maxHeartbeats 4000000
namespace W
open PySem PySem.Spec PyProof.Rows L2 GxR MyG MyS MyR
/-! ### delays -/
abbrev sDelays : Stmt := top 54
/-- what a made map is good for -/
theorem ask_of {K : PySem.W.Frag} {H : Hp} {M P x : Addr} {d : Int} {ks ps ks' ps' : List Str} {rs rs' : List RoadD} {bs bs' : List (Str × Str)} (hok : PartsOk d ks ps rs bs) (pk : ks'.Perm ks) (pp : ps'.Perm ps) (kr : KeptAll rs rs') (hM : MapAt K H M x d ks' ps' rs' bs') (hP : TabG H P) :
    MIn K H M P x d ks' ps' rs' bs' ∧ RsIn ps' rs' ∧ (∀ r ∈ rs', 1 ≤ r.minutes) ∧ (∀ z ∈ ps', z.length ≤ 1000) ∧ (∀ r ∈ rs', PyData.strOk r.name = true) := by
  have ndn : (rs.map (·.name)).Nodup := hok.r.nd
  have ndn' := kr.nodup ndn
  have hd1 := hok.d1
  have out : ∀ {r'}, r' ∈ rs' → ∃ r ∈ rs, Kept r r' := fun {r'} h => by
    obtain ⟨l, pm, pr⟩ := kr
    obtain ⟨r, hr0, qq⟩ := Paired.mem pr (pm.mem_iff.mpr h)
    exact ⟨r, hr0, qq⟩
  have nm1 : ∀ r ∈ rs, isNm r.name = true := fun r h => List.all_eq_true.mp hok.r.nm r.name (List.mem_map.mpr ⟨r, h, rfl⟩)
  have nm' : ∀ r' ∈ rs', isNm r'.name = true := fun r' h => by
    obtain ⟨r, h1, h2⟩ := out h
    rw [h2.1]
    exact nm1 r h1
  have lrs : rs'.length = rs.length := by
    obtain ⟨l, pm, pr⟩ := kr
    rw [← pm.length_eq, Paired.len pr]
  have l60 := hok.r.len
  refine ⟨⟨hM, hP, ndn', fun r' h => Nat.le_trans (isNm_len (nm' r' h)) (by decide), hd1, fun r' h => ?_⟩, ⟨by omega, fun r' h => ?_, fun r' h => isNm_ne (nm' r' h)⟩, fun r' h => ?_, fun z h => Nat.le_trans (isNm_len (List.all_eq_true.mp hok.pn z (pp.mem_iff.mp h))) (by decide), fun r' h => isNm_ok (nm' r' h)⟩
  · obtain ⟨r, h1, h2⟩ := out h
    rw [h2.2.2.2.2.1]
    exact (hok.r.ok r h1).h
  · obtain ⟨r, h1, h2⟩ := out h
    rw [h2.2.2.1]
    exact pp.mem_iff.mpr (hok.r.ok r h1).g
  · obtain ⟨r, h1, h2⟩ := out h
    rw [h2.2.2.2.1]
    exact (hok.r.ok r h1).m1
/-- when a trip arrives at a goal at first -/
def GoalE (d : Int) (kind : Str) (bs : List (Str × Str)) (rs : List RoadD) (start goal : Str) (moment : Int) (o : Option Int) : Prop := ∃ es, Sol d kind bs rs start moment es ∧ ((o = none ∧ ∀ e ∈ es, plN start e.n ≠ goal) ∨ ∃ e ∈ es, plN start e.n = goal ∧ (∀ f ∈ es, plN start f.n = goal → e.t ≤ f.t) ∧ o = some e.t)
/-- the same without a road -/
def OthZ (d : Int) (kind : Str) (bs : List (Str × Str)) (rs : List RoadD) (start goal : Str) (moment : Int) (z : Str) (o : Option Int) : Prop := ∃ rs' bs', KeptAll (butR z rs) rs' ∧ bs'.Perm (butB z bs) ∧ GoalE d kind bs' rs' start goal moment o
def RowO (H : Hp) (e : Str × Option Int) (v : V) : Prop := ∃ t, v = .ref t ∧ H t = some (.tup [.str e.1, optV e.2])
/-- the roads of the route that are asked for, in the map's order -/
def onR (l : List RoadD) (rs : List RoadD) : List RoadD := rs.filter fun r => decide (r.name ∈ l.map (·.name))
def lateL (a : Int) (rs : List RoadD) (os : List (Option Int)) : List (Str × Option Int) := (rs.zip os).map fun p => (p.1.name, p.2.map fun b => b - a)
def notZ (ls : List (Str × Option Int)) : List (Str × Option Int) := ls.filter fun e => !decide (e.2 = some 0)
def DelAt (H : Hp) (d : Int) (kind : Str) (bs : List (Str × Str)) (rs : List RoadD) (start goal : Str) (moment : Int) (v : V) : Prop := ∃ es, Sol d kind bs rs start moment es ∧ ((v = .non ∧ ∀ e ∈ es, plN start e.n ≠ goal) ∨
  ∃ e l L ys os, e ∈ es ∧ plN start e.n = goal ∧ (∀ f ∈ es, plN start f.n = goal → e.t ≤ f.t) ∧ PathTo es e.n l ∧ v = .ref L ∧ H L = some (.lst ys) ∧ Paired (fun r o => OthZ d kind bs rs start goal moment r.name o) (onR l rs) os ∧ Paired (RowO H) (notZ (lateL e.t (onR l rs) os)) ys)
def spDelays (K : PySem.W.Frag) (M P : Addr) : Sp := fun vs H Q _ => ∃ (x : Addr) (kind start goal : Str) (moment d : Int) (ks ps : List Str) (rs : List RoadD) (bs : List (Str × Str)), vs = [.ref x, .str kind, .str start, .str goal, .int moment] ∧ MIn K H M P x d ks ps rs bs ∧ RsIn ps rs ∧ (∀ r ∈ rs, 1 ≤ r.minutes) ∧ (∀ z ∈ ps, z.length ≤ 1000) ∧ (∀ r ∈ rs, PyData.strOk r.name = true) ∧ PartsOk d ks ps rs bs ∧ kind ∈ ks ∧ start ∈ ps ∧ goal ∈ ps ∧ 0 ≤ moment ∧
  ∀ H' v, Grew P H H' → (∀ L, v = .ref L → H L = none) → DelAt H' d kind bs rs start goal moment v → Q v H'
section
variable {Pg : Program} {w : World} {K : PySem.W.Frag} {mg : Str → Option Value} {base : Heap} {C P : Addr}
abbrev nDelays : List Str := ["chart", "kind", "start", "goal", "moment", "route", "rows", "name", "other", "row"]
theorem scDelays : FnScope nDelays ["chart", "kind", "start", "goal", "moment"] (defScope sDelays) := ⟨rfl, rfl, rfl, by decide +kernel, rfl, by decide +kernel, by decide +kernel⟩
theorem ok_delays {f M U Rt fE fN fW pN : Addr} {fd fdE fdN fdW : FuncData} (F : Fun K "delays" "delays" sDelays f fd) (TM : TxtM K M) (TR : TxtR K Rt)
    (GE : FnOk Pg w K mg base (L2.CX Pg w) 10 fE fdE ["chart", "kind", "start", "goal", "moment"] (spEarliest K M U Rt P)) (gE : mg "earliest" = some (.ref fE)) (kE : PySem.W.keepIn K (.ref fE) = true) (bE : Binds K fdE ["chart", "kind", "start", "goal", "moment"] [])
    (pr : PropOf K M "road_names" pN fN) (GN : FnOk Pg w K mg base CX0 1 fN fdN ["self"] (spRNames K M P)) (bN : Binds K fdN ["self"] [])
    (mW : Meth K M "without_road" fW) (GW : FnOk Pg w K mg base (L2.CX Pg w) 8 fW fdW ["self", "name"] (spWithoutR K M P)) (bW : Binds K fdW ["self", "name"] []) :
    FnOk Pg w K mg base (L2.CX Pg w) 11 f fd ["chart", "kind", "start", "goal", "moment"] (spDelays K M P) := by
  refine F.okX scDelays (fun vs H Q E h => ?_) (fun cdv A outer s H vs Q E hr h => ?_)
  · obtain ⟨x, kind, start, goal, moment, d, ks, ps, rs, bs, rfl, _⟩ := h
    rfl
  · obtain ⟨x, kind, start, goal, moment, d, ks, ps, rs, bs, rfl, hM, rin, rmin, pl, rso, hok, hk, hs, hg, hmo, k⟩ := h
    refine ⟨_, C8.pss_cut (ps_set (i := 5) scDelays.nd rfl (Or.inl rfl) (pe_call (E := E0) GE hr (by rfl) gE kE bE .nil (passF rfl rfl) (pa_cons (pv 0) (pa_cons (pv 1) (pa_cons (pv 2) (pa_cons (pv 3) (pa_cons (pv 4) pa_nil)))))))
      (pss_cons (ps_if (pt_cmp (pc_isN (pv 5))) (pss_one (ps_ret pe_non)) pss_nil)
      (pss_cons (ps_set (i := 6) scDelays.nd rfl (Or.inl rfl) (pe_lst pa_nil))
      (C8.pss_cut (ps_for (passes_of rfl) rfl (pi_tup (pe_prop (pv 0) TM.cl pr GN (hr.mono (by decide)) bN .nil pass0 rfl)) (pg_name (i := 7) scDelays.nd rfl (Or.inl rfl))
        (pss_one (ps_if (pt_cmpR (r := rIn K false) op_in_seq (pv 7) (pe_fld (pv 5) rfl) (by rfl))
          (C8.pss_cut (ps_set (i := 8) scDelays.nd rfl (Or.inl rfl) (pe_call (E := E0) GE hr (by rfl) gE kE bE .nil (passF rfl rfl) (pa_cons (pe_meth (E := E0) (pv 0) TM.cl mW GW (hr.mono (by decide)) bW .nil (passF rfl rfl) (pa_cons (pv 7) pa_nil)) (pa_cons (pv 1) (pa_cons (pv 2) (pa_cons (pv 3) (pa_cons (pv 4) pa_nil)))))))
          (pss_one (ps_expr (pe_bm PySem.F.plainAttrs_list PySem.F.slot_list_append PySem.F.type_list_append mt_append (pv 6) (pa_cons (pe_tup (pa_cons (pv 7) (pa_cons (pe_ifExp (pt_cmp (pc_isN (pv 8))) pe_non (pe_op op_sub (pe_fld (pv 8) rfl) (pe_fld (pv 5) rfl))) pa_nil))) pa_nil))))) pss_nil)))
      (pss_one (ps_ret (pe_lc (own := [("row", 9)]) (g := gName 9) rfl scDelays.nd (pi_list (pv 6)) (blkOk_by (N := nDelays) (sc := defScope sDelays) (by decide +kernel)) (fun _ _ _ _ _ => pg_name (i := 9) scDelays.nd rfl (Or.inl rfl))
          (fun _ _ _ _ _ => pts_one (pt_cmpR op_ne (pe_ix (r := rIxT K) ix_tup (pv 9) pe_int (fun _ _ => rfl)) pe_int (nomark _))) (fun _ _ _ _ _ => pv 9))))))), ?_⟩
    have hP := hM.t
    have kl : kind.length ≤ 1000 := Nat.le_trans (isNm_len (List.all_eq_true.mp hok.kn _ hk)) (by decide)
    have in2 : ∀ {ps' : List Str}, ps'.Perm ps → ∀ z ∈ [start, goal], z ∈ ps' := fun pp z hz => by
      rcases List.mem_cons.mp hz with e | e
      · rw [e]; exact pp.mem_iff.mpr hs
      · rw [List.mem_singleton.mp e]; exact pp.mem_iff.mpr hg
    -- route
    refine ⟨fun σ H' => ∃ (v : V) (es : List Ent), σ = [some (.ref x), some (.str kind), some (.str start), some (.str goal), some (.int moment), some v, none, none, none, none] ∧ Grew P H H' ∧ Sol d kind bs rs start moment es ∧ FoundAt H' Rt start goal es v, ?_, ?_⟩
    · exact ⟨_, rfl, _, rfl, _, rfl, _, rfl, _, rfl, x, kind, start, goal, moment, d, ks, ps, rs, bs, rfl, ⟨hM, rin, rmin, pl, kl, pl start hs, hmo⟩, pl goal hg, rso, .inr (.inr (.inr ⟨hk, in2 (List.Perm.refl _), fun z hz => absurd hz (by simp), fun H' es v g S hF => ⟨v, es, rfl, g, S, hF⟩⟩))⟩
    rintro σ H1 ⟨v, es, rfl, g1, S, hF⟩
    rcases hF with ⟨hno, rfl⟩ | ⟨e, hes, hgo, hmin, y, l, rfl, hpath, hroute⟩
    · exact ⟨_, rfl, _, rfl, iteT (k H1 .non g1 (fun _ h => by cases h) ⟨es, S, .inl ⟨rfl, hno⟩⟩)⟩
    refine ⟨_, rfl, _, rfl, iteF ?_⟩
    obtain ⟨dr, fr, qr, k1, k2, k3, k4, k5⟩ := hroute
    refine ⟨Nat.zero_le _, fun R nR => ?_⟩
    have gR := Grew.new g1.tab (o := .lst []) nR
    have hR0 : (L2.upd H1 R (.lst [])) R = some (.lst []) := upd_same
    generalize L2.upd H1 R (.lst []) = H2 at gR hR0
    obtain ⟨dx, fs7, kk, pp, rr, D0, bb, D2, ys7, zs7, hx, F7⟩ := id hM.m
    have g02 := g1.trans gR
    -- rows
    refine ⟨fun σ H' => ∃ (v7 v8 : Option V) (os : List (Option Int)) (ys : List V), σ = [some (.ref x), some (.str kind), some (.str start), some (.str goal), some (.int moment), some (.ref y), some (.ref R), v7, v8, none] ∧ Grew P H1 H' ∧ H' R = some (.lst ys) ∧ Paired (fun r o => OthZ d kind bs rs start goal moment r.name o) (onR l rs) os ∧ Paired (RowO H') (lateL e.t (onR l rs) os) ys, ?_, ?_⟩
    · refine ⟨_, rfl, x, dx, fs7, rfl, g02.get hP hx (fun _ z => by cases z), x, d, ks, ps, rs, bs, rfl, hM.grew g02, rin.l60, fun H3 pn g3 npn hpn => ?_⟩
      have lnv : (namesV rs).length = rs.length := by unfold namesV; rw [List.length_map, List.length_map]
      refine ⟨pn, rfl, ⟨_, SqT.of hpn⟩, for_tup (K := K) (a := pn) (xs := namesV rs) (fun i σ H' => ∃ (v7 v8 : Option V) (os : List (Option Int)) (ys : List V), σ = [some (.ref x), some (.str kind), some (.str start), some (.str goal), some (.int moment), some (.ref y), some (.ref R), v7, v8, none] ∧ Grew P H1 H' ∧ H' R = some (.lst ys) ∧ H' pn = some (.tup (namesV rs)) ∧ Paired (fun r o => OthZ d kind bs rs start goal moment r.name o) (onR l (rs.take i)) os ∧ Paired (RowO H') (lateL e.t (onR l (rs.take i)) os) ys)
        ⟨none, none, [], [], rfl, gR.trans g3, g3.lst gR.tab hR0, hpn, .nil, .nil⟩ (fun i σ H' _ ⟨_, _, _, _, _, _, _, h, _⟩ => SqT.of h) ?_ ?_⟩
      · rintro i v σ H4 hv ⟨v7, v8, os, ys, rfl, g4, hR4, hpn4, hos, hrows⟩
        obtain ⟨z, hz, rfl⟩ := str_at hv
        rw [List.getElem?_map] at hz
        obtain ⟨r, hr0, rfl⟩ := Option.map_eq_some_iff.mp hz
        have hrm := List.mem_of_getElem? hr0
        have hil := (List.getElem?_eq_some_iff.mp hr0).1
        have g14 := g1.trans g4
        have hy4 := g4.get g1.tab k1 (fun _ z => by cases z)
        have hq4 := g4.tup g1.tab k5
        have et : onR l (rs.take (i + 1)) = onR l (rs.take i) ++ (if decide (r.name ∈ l.map (·.name)) = true then [r] else []) := by
          unfold onR
          exact fsnoc hr0
        have l60 := rin.l60
        have lor : (onR l (rs.take i)).length ≤ 60 := Nat.le_trans (List.length_filter_le _ _) (by rw [List.length_take]; omega)
        have lo := Paired.len hos
        have ly := Paired.len hrows
        have ll : (lateL e.t (onR l (rs.take i)) os).length ≤ 60 := by unfold lateL; rw [List.length_map, List.length_zip]; omega
        refine ⟨_, rfl, _, rfl, y, Rt, dr, fr, .ref qr, rfl, hy4, TR.cl, TR.n1, k2, qr, _, rfl, .inr (SqT.of hq4), rfl, flat_strs _, _, rfl, ?_⟩
        rw [if_neg (by decide : ¬ false = true)]
        show if inV (.str r.name) ((l.map (·.name)).map V.str) = true then _ else _
        rw [inV_dec]
        by_cases c : r.name ∈ l.map (·.name)
        · rw [if_pos (decide_eq_true c)] at et
          refine if_t (decide_eq_true c) ?_
          -- other
          refine ⟨fun σ H' => ∃ (v : V) (o : Option Int), σ = [some (.ref x), some (.str kind), some (.str start), some (.str goal), some (.int moment), some (.ref y), some (.ref R), some (.str r.name), some v, none] ∧ Grew P H4 H' ∧ OthZ d kind bs rs start goal moment r.name o ∧ ((v = .non ∧ o = none) ∨ ∃ y2 xs2 t2, v = .ref y2 ∧ o = some t2 ∧ RouteAt H' Rt y2 xs2 t2), ?_, ?_⟩
          · refine ⟨_, rfl, x, dx, fs7, rfl, g14.get hP hx (fun _ z => by cases z), F7.f0 _ (by decide +kernel), _, rfl, x, r.name, d, ks, ps, rs, bs, rfl, hM.nl r hrm, ⟨r, hrm, rfl⟩, (hM.grew g14).m, g14.tab, hok, fun H5 y5 ks' ps' rs' bs' g5 ny pk ak pp' ap kr ar pb ab hM5 => ?_⟩
            obtain ⟨mi5, ri5, rm5, pl5, so5⟩ := ask_of (hok.but r.name) pk pp' kr hM5 g5.tab
            refine ⟨_, rfl, _, rfl, _, rfl, _, rfl, y5, kind, start, goal, moment, d, ks', ps', rs', bs', rfl, ⟨mi5, ri5, rm5, pl5, kl, pl start hs, hmo⟩, pl goal hg, so5, .inr (.inr (.inr ⟨pk.mem_iff.mpr hk, in2 pp', fun z hz => absurd hz (by simp), fun H6 es6 v6 g6 S6 hF6 => ?_⟩))⟩
            rcases hF6 with ⟨hno6, rfl⟩ | ⟨e6, he6, hg6, hm6, y6, l6, rfl, _, hro6⟩
            · exact ⟨.non, none, rfl, g5.trans g6, ⟨rs', bs', kr, pb, es6, S6, .inl ⟨rfl, hno6⟩⟩, .inl ⟨rfl, rfl⟩⟩
            · exact ⟨.ref y6, some e6.t, rfl, g5.trans g6, ⟨rs', bs', kr, pb, es6, S6, .inr ⟨e6, he6, hg6, hm6, rfl⟩⟩, .inr ⟨y6, _, e6.t, rfl, rfl, hro6⟩⟩
          rintro σ H5 ⟨v5, o, rfl, g5, hoth, hv5⟩
          have g15 := g4.trans g5
          have hR5 := g5.lst g4.tab hR4
          have hpn5 := g5.tup g4.tab hpn4
          have hrows5 : Paired (RowO H5) (lateL e.t (onR l (rs.take i)) os) ys := Paired.map' hrows fun _ _ ⟨t, a, b⟩ => ⟨t, a, g5.tup g4.tab b⟩
          have el : lateL e.t (onR l (rs.take i) ++ [r]) (os ++ [o]) = lateL e.t (onR l (rs.take i)) os ++ [(r.name, o.map fun b => b - e.t)] := by
            unfold lateL
            rw [List.zip_append lo, List.map_append]
            rfl
          have fin : ∀ tp, H5 tp = none → rAppend (.ref R) [.ref tp] (L2.upd H5 tp (.tup [.str r.name, optV (o.map fun b => b - e.t)])) (fun _ H' => ∃ (v7 v8 : Option V) (os : List (Option Int)) (ys : List V), ([some (.ref x), some (.str kind), some (.str start), some (.str goal), some (.int moment), some (.ref y), some (.ref R), some (.str r.name), some v5, none] : L2.St) = [some (.ref x), some (.str kind), some (.str start), some (.str goal), some (.int moment), some (.ref y), some (.ref R), v7, v8, none] ∧ Grew P H1 H' ∧ H' R = some (.lst ys) ∧ H' pn = some (.tup (namesV rs)) ∧ Paired (fun r o => OthZ d kind bs rs start goal moment r.name o) (onR l (rs.take (i + 1))) os ∧ Paired (RowO H') (lateL e.t (onR l (rs.take (i + 1))) os) ys) := fun tp ntp => by
            have gt := Grew.new g15.tab (o := .tup [.str r.name, optV (o.map fun b => b - e.t)]) ntp
            have hR6 := gt.lst g15.tab hR5
            have hpn6 := gt.tup g15.tab hpn5
            have htp : (L2.upd H5 tp (.tup [.str r.name, optV (o.map fun b => b - e.t)])) tp = some (.tup [.str r.name, optV (o.map fun b => b - e.t)]) := upd_same
            have hrows6 : Paired (RowO (L2.upd H5 tp (.tup [.str r.name, optV (o.map fun b => b - e.t)]))) (lateL e.t (onR l (rs.take i)) os) ys := Paired.map' hrows5 fun _ _ ⟨t, a, b⟩ => ⟨t, a, gt.tup g15.tab b⟩
            generalize L2.upd H5 tp (.tup [.str r.name, optV (o.map fun b => b - e.t)]) = H6 at gt hR6 hpn6 htp hrows6
            have kp : ∀ {e : Str × Option Int} {v : V}, RowO H6 e v → RowO (L2.upd H6 R (.lst (ys ++ [.ref tp]))) e v := fun {e v} ⟨t, a, m⟩ => ⟨t, a, by rw [upd_ne (fun z => by rw [z, hR6] at m; cases m)]; exact m⟩
            refine ⟨R, _, .ref tp, rfl, rfl, hR6, by rw [sizeLine_eq]; omega, _, _, os ++ [o], ys ++ [.ref tp], rfl, (g15.trans gt).write hR6 (fun _ z => by cases z) nR, upd_same, ?_, ?_, ?_⟩
            · rw [upd_ne (fun z => by rw [z, hR6] at hpn6; cases hpn6)]; exact hpn6
            · rw [et]; exact Paired.snoc hos hoth
            · rw [et, el]
              exact Paired.snoc (Paired.map' hrows6 fun _ _ m => kp m) (kp ⟨tp, rfl, htp⟩)
          refine ⟨_, rfl, .inl ⟨rfl, _, SqL.of hR5⟩, _, rfl, _, rfl, ?_⟩
          rcases hv5 with ⟨rfl, rfl⟩ | ⟨y2, xs2, t2, rfl, rfl, hro2⟩
          · exact ⟨_, rfl, iteT ⟨by show 2 ≤ sizeLine; decide, fun tp ntp => fin tp ntp⟩⟩
          · obtain ⟨dr2, fr2, qr2, j1, j2, j3, j4, j5⟩ := hro2
            refine ⟨_, rfl, iteF ⟨_, rfl, y2, Rt, dr2, fr2, .int t2, rfl, j1, TR.cl, TR.n2, j3, _, rfl, y, Rt, dr, fr, .int e.t, rfl, g5.get g4.tab hy4 (fun _ z => by cases z), TR.cl, TR.n2, k3, _, _, rfl, rfl, by show 2 ≤ sizeLine; decide, fun tp ntp => fin tp ntp⟩⟩
        · rw [if_neg (by rw [decide_eq_true_iff]; exact c), List.append_nil] at et
          exact if_f (decide_eq_false c) ⟨_, _, os, ys, rfl, g4, hR4, hpn4, by rw [et]; exact hos, by rw [et]; exact hrows⟩
      · rintro σ H' ⟨v7, v8, os, ys, rfl, g4, hR4, hpn4, hos, hrows⟩
        rw [lnv, List.take_length] at hos hrows
        exact ⟨v7, v8, os, ys, rfl, g4, hR4, hos, hrows⟩
    rintro σ H3 ⟨v7, v8, os, ys, rfl, g3, hR3, hos, hrows⟩
    have g03 := g1.trans g3
    have lor : (onR l rs).length ≤ 60 := Nat.le_trans (List.length_filter_le _ _) rin.l60
    have lo := Paired.len hos
    have ll : (lateL e.t (onR l rs) os).length ≤ 60 := by unfold lateL; rw [List.length_map, List.length_zip]; omega
    have k := fun H' v g fr L ys h1 h2 h3 => k H' v g fr ⟨es, S, .inr ⟨e, l, L, ys, os, hes, hgo, hmin, hpath, h1, h2, hos, h3⟩⟩
    generalize lateL e.t (onR l rs) os = ls at hrows k ll
    have ly := Paired.len hrows
    refine ⟨_, rfl, R, rfl, ⟨_, SqL.of hR3⟩, fun D nD => lc_list (K := K) (a := R) (xs := ys) (fun i H' => Grew P H3 H' ∧ ∃ acc, H' D = some (.lst acc) ∧ Paired (RowO H') (notZ (ls.take i)) acc)
      ⟨Grew.new g3.tab nD, [], upd_same, .nil⟩ (fun i H' _ h => SqL.of (h.1.lst g3.tab hR3)) (fun i v H4 hv h => ?_) (fun H4 h => ?_)⟩
    · obtain ⟨g, acc, hD, hacc⟩ := h
      obtain ⟨w, hw, t, rfl, ht⟩ := Paired.at hrows hv
      have ht4 := g.tup g3.tab ht
      have et : notZ (ls.take (i + 1)) = notZ (ls.take i) ++ (if (!decide (w.2 = some 0)) = true then [w] else []) := by
        unfold notZ
        exact fsnoc hw
      have la := Paired.len hacc
      have lf : (notZ (ls.take i)).length ≤ 60 := Nat.le_trans (List.length_filter_le _ _) (by rw [List.length_take]; omega)
      have kp : ∀ {e : Str × Option Int} {v : V}, RowO H4 e v → RowO (L2.upd H4 D (.lst (acc ++ [.ref t]))) e v := fun {e v} ⟨t, a, m⟩ => ⟨t, a, by rw [upd_ne (fun z => by rw [z, hD] at m; cases m)]; exact m⟩
      refine ⟨rfl, _, rfl, t, _, 1, _, rfl, rfl, SqT.of ht4, rfl, ?_⟩
      cases hc : w.2 with
      | none =>
        rw [hc, if_pos (show (!decide ((none : Option Int) = some 0)) = true by rfl)] at et
        refine ⟨rfl, _, rfl, if_t rfl ⟨_, rfl, acc, hD, by rw [sizeLine_eq]; omega, g.write hD (fun _ z => by cases z) nD, acc ++ [.ref t], upd_same, ?_⟩⟩
        rw [et]
        exact Paired.snoc (Paired.map' hacc fun _ _ m => kp m) (kp ⟨t, rfl, ht4⟩)
      | some b =>
        rw [hc] at et
        by_cases cb : b = 0
        · rw [if_neg (by rw [cb]; decide), List.append_nil] at et
          refine ⟨rfl, _, rfl, if_f (by rw [cb]; decide) ⟨g, acc, hD, by rw [et]; exact hacc⟩⟩
        · rw [if_pos (by rw [decide_eq_false (fun h => cb (Option.some.inj h))]; rfl)] at et
          refine ⟨rfl, _, rfl, if_t (by show (!decide (V.int b = V.int 0)) = true; rw [decide_eq_false (fun h => cb (V.int.inj h))]; rfl) ⟨_, rfl, acc, hD, by rw [sizeLine_eq]; omega, g.write hD (fun _ z => by cases z) nD, acc ++ [.ref t], upd_same, ?_⟩⟩
          rw [et]
          exact Paired.snoc (Paired.map' hacc fun _ _ m => kp m) (kp ⟨t, rfl, ht4⟩)
    · obtain ⟨g, acc, hD, hacc⟩ := h
      rw [← ly, List.take_length] at hacc
      exact k H4 (.ref D) (g03.trans g) (fun L h => by cases h; exact g03.free nD) D acc rfl hD hacc
end
end W

set_option Elab.async false
set_option linter.all false
set_option maxRecDepth 100000
set_option maxHeartbeats 2000000
namespace W
open PySem PySem.Spec PyProof.Rows L2 GxR MyG MyS MyR
/-! ### the law's answers exist, and there is one of them -/
theorem least {S : Int → Prop} {m : Int} (low : ∀ t, S t → m ≤ t) : ∀ (n : Nat) (t : Int), S t → (t - m).toNat ≤ n → ∃ t, S t ∧ ∀ u, S u → t ≤ u
  | 0, t, h, hn => ⟨t, h, fun u hu => by have := low u hu; have := low t h; omega⟩
  | n + 1, t, h, hn => by
    by_cases c : ∃ u, S u ∧ u < t
    · obtain ⟨u, hu, hlt⟩ := c
      exact least low n u hu (by have := low u hu; omega)
    · exact ⟨t, h, fun u hu => Int.not_lt.mp fun l => c ⟨u, hu, l⟩⟩
inductive Rch (d : Int) (kind : Str) (bs : List (Str × Str)) (rs : List RoadD) (start : Str) (moment : Int) : Str → Int → Prop
  | fst (r : RoadD) (hr : r ∈ rs) (c : mayB kind bs start none r = true) : Rch d kind bs rs start moment r.name (ar d r moment)
  | nxt (p r : RoadD) (t : Int) (hp : p ∈ rs) (hr : r ∈ rs) (h : Rch d kind bs rs start moment p.name t) (c : mayB kind bs p.goal (some p.name) r = true) : Rch d kind bs rs start moment r.name (ar d r t)
section
variable {d : Int} {kind : Str} {bs : List (Str × Str)} {rs : List RoadD} {start : Str} {moment : Int}
theorem ar_gt (d1 : 1 ≤ d) {r : RoadD} (ho : HoursOk d r.hours) (hm : 1 ≤ r.minutes) (hn : r.hours ≠ some []) (t : Int) : t < ar d r t := by
  obtain ⟨_, e, _, ea, hle⟩ := ar_some d1 ho hn t
  omega
theorem Rch.ge (d1 : 1 ≤ d) (ho : ∀ r ∈ rs, HoursOk d r.hours) (hm : ∀ r ∈ rs, 1 ≤ r.minutes) {z : Str} {t : Int} (h : Rch d kind bs rs start moment z t) : (∃ r ∈ rs, r.name = z) ∧ moment ≤ t := by
  induction h with
  | fst r hr c => exact ⟨⟨r, hr, rfl⟩, Int.le_of_lt (ar_gt d1 (ho r hr) (hm r hr) (may_ever c) _)⟩
  | nxt p r t hp hr h c ih =>
    have := ar_gt d1 (ho r hr) (hm r hr) (may_ever c) t
    exact ⟨⟨r, hr, rfl⟩, by have := ih.2; omega⟩
theorem lsol_ex (d1 : 1 ≤ d) (nd : (rs.map (·.name)).Nodup) (ho : ∀ r ∈ rs, HoursOk d r.hours) (hm : ∀ r ∈ rs, 1 ≤ r.minutes) : ∃ T, LSol d kind bs rs start moment T := by
  have ex : ∀ z, ∃ o : Option Int, ∀ t, o = some t ↔ Rch d kind bs rs start moment z t ∧ ∀ u, Rch d kind bs rs start moment z u → t ≤ u := fun z => by
    by_cases c : ∃ t, Rch d kind bs rs start moment z t
    · obtain ⟨t0, h0⟩ := c
      obtain ⟨t, h1, h2⟩ := least (S := Rch d kind bs rs start moment z) (m := moment) (fun t h => (h.ge d1 ho hm).2) _ t0 h0 (Nat.le_refl _)
      refine ⟨some t, fun u => ⟨fun e => ?_, fun ⟨a, b⟩ => ?_⟩⟩
      · rw [← Option.some.inj e]; exact ⟨h1, h2⟩
      · rw [Int.le_antisymm (h2 u a) (b t h1)]
    · exact ⟨none, fun t => ⟨fun e => (by cases e), fun ⟨a, _⟩ => absurd ⟨t, a⟩ c⟩⟩
  have key : ∃ T : Str → Option Int, ∀ z t, T z = some t ↔ Rch d kind bs rs start moment z t ∧ ∀ u, Rch d kind bs rs start moment z u → t ≤ u := ⟨fun z => Classical.choose (ex z), fun z => Classical.choose_spec (ex z)⟩
  obtain ⟨T, hT⟩ := key
  have get : ∀ {z t}, Rch d kind bs rs start moment z t → ∃ u, T z = some u ∧ u ≤ t := fun {z t} h => by
    obtain ⟨u, h1, h2⟩ := least (S := Rch d kind bs rs start moment z) (m := moment) (fun t h => (h.ge d1 ho hm).2) _ t h (Nat.le_refl _)
    exact ⟨u, (hT z u).mpr ⟨h1, h2⟩, h2 t h⟩
  refine ⟨T, fun z t h => ((hT z t).mp h).1.ge d1 ho hm, fun r hr c => get (.fst r hr c), fun p hp tp h r hr c => get (.nxt p r tp hp hr ((hT _ _).mp h).1 c), fun r hr t h => ?_⟩
  obtain ⟨h1, h2⟩ := (hT _ _).mp h
  generalize ez : r.name = z at h1 h2 h
  cases h1 with
  | fst r' hr' c =>
    obtain rfl := uniq_name nd hr' hr ez.symm
    exact .inl ⟨c, rfl⟩
  | nxt p r' t' hp hr' hpt c =>
    obtain rfl := uniq_name nd hr' hr ez.symm
    obtain ⟨tp, e, hle⟩ := get hpt
    have hn := may_ever c
    have a1 := ar_mono d1 (ho r' hr) hn hle
    have a2 := h2 _ (.nxt p r' tp hp hr ((hT _ _).mp e).1 c)
    have a3 := ar_gt d1 (ho r' hr) (hm r' hr) hn tp
    exact .inr ⟨p, hp, tp, e, by omega, c, by omega⟩
theorem LSol.le (d1 : 1 ≤ d) (ho : ∀ r ∈ rs, HoursOk d r.hours) {T U : Str → Option Int} (A : LSol d kind bs rs start moment T) (B : LSol d kind bs rs start moment U) : ∀ (n : Nat) (z : Str) (t : Int), T z = some t → (t - moment).toNat ≤ n → ∃ u, U z = some u ∧ u ≤ t := by
  intro n
  induction n using Nat.strongRecOn with
  | ind n ih =>
    intro z t h hn
    obtain ⟨⟨r, hr, rfl⟩, hge⟩ := A.dom z t h
    rcases A.c r hr t h with ⟨c, e⟩ | ⟨p, hp, tp, ep, lt, c, e⟩
    · rw [e]; exact B.a r hr c
    · have hgp := (A.dom _ _ ep).2
      obtain ⟨up, eu, hle⟩ := ih (tp - moment).toNat (by omega) p.name tp ep (Nat.le_refl _)
      obtain ⟨u, h1, h2⟩ := B.b p hp up eu r hr c
      have := ar_mono d1 (ho r hr) (may_ever c) hle
      exact ⟨u, h1, by omega⟩
theorem LSol.one (d1 : 1 ≤ d) (ho : ∀ r ∈ rs, HoursOk d r.hours) {T U : Str → Option Int} (A : LSol d kind bs rs start moment T) (B : LSol d kind bs rs start moment U) : T = U := by
  have half : ∀ {T U : Str → Option Int}, LSol d kind bs rs start moment T → LSol d kind bs rs start moment U → ∀ z t, T z = some t → U z = some t := fun A B z t h => by
    obtain ⟨u, h1, h2⟩ := A.le d1 ho B _ z t h (Nat.le_refl _)
    obtain ⟨v, h3, h4⟩ := B.le d1 ho A _ z u h1 (Nat.le_refl _)
    rw [h] at h3
    have : t = v := Option.some.inj h3
    have e : u = t := by omega
    rw [← e]; exact h1
  funext z
  cases c : T z with
  | some t => exact (half A B z t c).symm
  | none =>
    cases c2 : U z with
    | none => rfl
    | some u => rw [half B A z u c2] at c; cases c
end
theorem mem_labs_iff {d : Int} {kind : Str} {bs : List (Str × Str)} {rs : List RoadD} {start : Str} {moment : Int} {es : List Ent} (nd : (rs.map (·.name)).Nodup) (S : Sol d kind bs rs start moment es) {z : Str} {t : Int} : (z, t) ∈ labsOf es ↔ tOf es z = some t :=
  ⟨fun h => zget_some (labs_nodup nd S.nd S.mem) h, fun h => zget_mem h⟩
end W

set_option Elab.async false
set_option linter.all false
set_option maxRecDepth 100000
set_option maxHeartbeats 1000000
namespace W
open PySem PySem.Spec PyProof.Rows L2 GxR MyG MyS MyR
/-! ### the law's earliest is the map's -/
theorem may_everB {kind place : Str} {bs : List (Str × Str)} {before : Option Str} {r : RoadD} (h : mayB kind bs place before r = true) : everB kind r = true := by
  unfold mayB at h
  simp only [Bool.and_eq_true] at h
  exact h.2.1
section
variable {d : Int} {kind : Str} {bs : List (Str × Str)} {rs : List RoadD} {start : Str} {moment : Int} {T : Str → Option Int}
theorem LSol.open_of (h : LSol d kind bs rs start moment T) {r : RoadD} (hr : r ∈ rs) {t : Int} (e : T r.name = some t) : r ∈ rs.filter (everB kind) := by
  refine List.mem_filter.mpr ⟨hr, ?_⟩
  rcases h.c r hr t e with ⟨c, _⟩ | ⟨_, _, _, _, _, c, _⟩
  · exact may_everB c
  · exact may_everB c
theorem LSol.open (h : LSol d kind bs rs start moment T) : LSol d kind bs (rs.filter (everB kind)) start moment T := by
  have m : ∀ {r}, r ∈ rs.filter (everB kind) → r ∈ rs := fun h => (List.mem_filter.mp h).1
  refine ⟨fun z t e => ?_, fun r hr c => h.a r (m hr) c, fun p hp tp e r hr c => h.b p (m hp) tp e r (m hr) c, fun r hr t e => ?_⟩
  · obtain ⟨⟨r, hr, rfl⟩, hm⟩ := h.dom z t e
    exact ⟨⟨r, h.open_of hr e, rfl⟩, hm⟩
  · rcases h.c r (m hr) t e with c | ⟨p, hp, tp, ep, lt, c, et⟩
    · exact .inl c
    · exact .inr ⟨p, h.open_of hp ep, tp, ep, lt, c, et⟩
end
theorem earl_goal {d : Int} {kind : Str} {bs bs' : List (Str × Str)} {rs rs' : List RoadD} {start goal : Str} {moment : Int} {T : Str → Option Int} {o o' : Option Int} (G : SG d rs') (d1 : 1 ≤ d) (ndr : (rs.map (·.name)).Nodup) (hoR : ∀ r ∈ rs, HoursOk d r.hours) (kr : KeptAll rs rs') (hb : ∀ b, b ∈ bs' ↔ b ∈ bs)
    (hT : LSol d kind bs (rs.filter (everB kind)) start moment T) (hE : EarlZ (rs.filter (everB kind)) T start goal moment o) (hG : GoalE d kind bs' rs' start goal moment o') : o = o' := by
  obtain ⟨es, S, h⟩ := hG
  have m : ∀ {r}, r ∈ rs.filter (everB kind) → r ∈ rs := fun h => (List.mem_filter.mp h).1
  have eT : T = tOf es := hT.one d1 (fun r hr => hoR r (m hr)) (S.lsol G ndr kr hb).open
  subst eT
  have iff := @tOf_iff d kind bs' rs' start moment es G.nd S
  have out : ∀ {r'}, r' ∈ rs' → ∃ r ∈ rs, Kept r r' := fun {r'} h => by
    obtain ⟨l, pm, pr⟩ := kr
    obtain ⟨r, hr0, qq⟩ := Paired.mem pr (pm.mem_iff.mpr h)
    exact ⟨r, hr0, qq⟩
  have inn : ∀ {r}, r ∈ rs → ∃ r' ∈ rs', Kept r r' := fun {r} h => by
    obtain ⟨l, pm, pr⟩ := kr
    obtain ⟨r', hr0, qq⟩ := Paired.mem' pr h
    exact ⟨r', pm.mem_iff.mp hr0, qq⟩
  -- an entry at the goal is an open road to it
  have ent : ∀ e ∈ es, plN start e.n = goal → start ≠ goal → ∃ r ∈ rs.filter (everB kind), r.goal = goal ∧ tOf es r.name = some e.t := fun e he hg hne => by
    cases c : e.n with
    | none =>
      rw [c] at hg
      exact absurd hg hne
    | some r' =>
      rw [c] at hg
      obtain ⟨r, hr, k⟩ := out (S.mem e he r' c)
      have ht : tOf es r.name = some e.t := iff.mpr ⟨e, he, r', c, k.1, rfl⟩
      obtain ⟨⟨r2, hr2, en⟩, _⟩ := hT.dom _ _ ht
      have er := uniq_name ndr (m hr2) hr en
      rw [er] at hr2
      exact ⟨r, hr2, by rw [← k.2.2.1]; exact hg, ht⟩
  have back : ∀ r ∈ rs.filter (everB kind), r.goal = goal → ∀ t, tOf es r.name = some t → ∃ e ∈ es, plN start e.n = goal ∧ e.t = t := fun r hr hg t ht => by
    obtain ⟨e, he, r', hn, en, et⟩ := iff.mp ht
    obtain ⟨r2, hr2, k⟩ := inn (m hr)
    have er := uniq_name G.nd (S.mem e he r' hn) hr2 (en.trans k.1.symm)
    subst er
    exact ⟨e, he, by rw [hn]; show r'.goal = goal; rw [k.2.2.1]; exact hg, et⟩
  rcases hE with ⟨hs, rfl⟩ | ⟨hne, ⟨rfl, hno⟩ | ⟨t, rfl, ⟨r, hr, hg, ht⟩, least⟩⟩
  · rcases h with ⟨rfl, hno⟩ | ⟨e, he, hg, hm, rfl⟩
    · exact absurd hs (hno _ S.root)
    · have h1 := hm _ S.root hs
      have h2 := S.ge e he
      have h3 : e.t ≤ moment := h1
      have : e.t = moment := by omega
      rw [this]
  · rcases h with ⟨rfl, _⟩ | ⟨e, he, hg, hm, rfl⟩
    · rfl
    · obtain ⟨r, hr, hg2, ht⟩ := ent e he hg hne
      rw [hno r hr hg2] at ht
      cases ht
  · obtain ⟨e2, he2, hg2, et2⟩ := back r hr hg t ht
    rcases h with ⟨rfl, hno⟩ | ⟨e, he, hg3, hm, rfl⟩
    · exact absurd hg2 (hno e2 he2)
    · obtain ⟨r3, hr3, hg4, ht3⟩ := ent e he hg3 hne
      have h1 := hm e2 he2 hg2
      have h2 := least r3 hr3 hg4 _ ht3
      have : t = e.t := by omega
      rw [this]
end W

set_option Elab.async false
set_option linter.all false
set_option maxRecDepth 100000
set_option maxHeartbeats 1000000
namespace W
open PySem PySem.Spec PyProof.Rows L2 GxR MyG MyS MyR
/-! ### without a road: never earlier; not later where the route does not use it -/
theorem may_but {kind place z : Str} {bs : List (Str × Str)} {before : Option Str} {r : RoadD} (hb : ∀ b, before = some b → b ≠ z) (hr : r.name ≠ z) : mayB kind (butB z bs) place before r = mayB kind bs place before r := by
  unfold mayB
  cases before with
  | none => rfl
  | some b =>
    have h1 := hb b rfl
    have e : decide ((b, r.name) ∈ butB z bs) = decide ((b, r.name) ∈ bs) := by
      refine decide_eq_decide.mpr ⟨fun h => (mem_butB.mp h).1, fun h => mem_butB.mpr ⟨h, fun e => h1 e.symm, fun e => hr e.symm⟩⟩
    simp only [e]
section
variable {d : Int} {kind : Str} {bs : List (Str × Str)} {rs : List RoadD} {start : Str} {moment : Int} {T T2 : Str → Option Int} {z : Str}
/-- without a road nothing is reached earlier -/
theorem late_ge (d1 : 1 ≤ d) (hoR : ∀ r ∈ rs, HoursOk d r.hours) (S : LSol d kind bs rs start moment T) (S2 : LSol d kind (butB z bs) (butR z rs) start moment T2) : ∀ (n : Nat) (r : RoadD) (t : Int), r ∈ rs → T2 r.name = some t → (t - moment).toNat ≤ n → ∃ u, T r.name = some u ∧ u ≤ t := by
  intro n
  induction n with
  | zero =>
    intro r t hr h hn
    obtain ⟨⟨r2, hr2, en⟩, hm⟩ := S2.dom _ _ h
    rw [← en] at h ⊢
    obtain ⟨m1, m2⟩ := mem_butR.mp hr2
    rcases S2.c r2 hr2 t h with ⟨c, e⟩ | ⟨p, hp, tp, ep, lt, c, e⟩
    · rw [may_but (fun b h => by cases h) m2] at c
      obtain ⟨u, hu, le⟩ := S.a r2 m1 c
      exact ⟨u, hu, by omega⟩
    · have := (S2.dom _ _ ep).2
      omega
  | succ n ih =>
    intro r t hr h hn
    obtain ⟨⟨r2, hr2, en⟩, hm⟩ := S2.dom _ _ h
    rw [← en] at h ⊢
    obtain ⟨m1, m2⟩ := mem_butR.mp hr2
    rcases S2.c r2 hr2 t h with ⟨c, e⟩ | ⟨p, hp, tp, ep, lt, c, e⟩
    · rw [may_but (fun b h => by cases h) m2] at c
      obtain ⟨u, hu, le⟩ := S.a r2 m1 c
      exact ⟨u, hu, by omega⟩
    · obtain ⟨p1, p2⟩ := mem_butR.mp hp
      have hmp := (S2.dom _ _ ep).2
      obtain ⟨up, hup, lep⟩ := ih p tp p1 ep (by omega)
      rw [may_but (fun b h => by cases h; exact p2) m2] at c
      obtain ⟨u, hu, le⟩ := S.b p p1 up hup r2 m1 c
      have mono := ar_mono d1 (hoR r2 m1) (ever_hours (may_everB c)) lep
      exact ⟨u, hu, by omega⟩
/-- along a route that does not use the road, nothing is later -/
theorem path_kept {bs' : List (Str × Str)} {rs' : List RoadD} {es : List Ent} (G : SG d rs') (d1 : 1 ≤ d) (S : Sol d kind bs' rs' start moment es) (kr : KeptAll rs rs') (hb : ∀ b, b ∈ bs' ↔ b ∈ bs) (hoR : ∀ r ∈ rs, HoursOk d r.hours) (S2 : LSol d kind (butB z bs) (butR z rs) start moment T2) :
    ∀ {n : Node} {l : List RoadD}, PathTo es n l → z ∉ l.map (·.name) → ∀ e ∈ es, e.n = n → ∀ r, n = some r → ∃ t, T2 r.name = some t ∧ t ≤ e.t := by
  have out : ∀ {r'}, r' ∈ rs' → ∃ r ∈ rs, Kept r r' := fun {r'} h => by
    obtain ⟨l, pm, pr⟩ := kr
    obtain ⟨r, hr0, qq⟩ := Paired.mem pr (pm.mem_iff.mpr h)
    exact ⟨r, hr0, qq⟩
  have uniqE : ∀ {a b : Ent}, a ∈ es → b ∈ es → a.n = b.n → a = b := fun ha hb h => by
    obtain ⟨i, hi, ei⟩ := List.getElem_of_mem ha
    obtain ⟨j, hj, ej⟩ := List.getElem_of_mem hb
    have q : (es.map (·.n))[i]? = (es.map (·.n))[j]? := by
      rw [List.getElem?_map, List.getElem?_map, List.getElem?_eq_getElem hi, List.getElem?_eq_getElem hj, ei, ej]
      exact congrArg some h
    have := (List.getElem?_inj (by rw [List.length_map]; exact hi) S.nd).mp q
    subst this
    exact ei.symm.trans ej
  intro n l h
  induction h with
  | root => intro _ e _ _ r hr; cases hr
  | step e p r l he hn hp hv h ih =>
    intro hz e0 he0 hn0 r0 hr0
    cases hr0
    have ee := uniqE he0 he (hn0.trans hn.symm)
    subst ee
    rw [List.map_append, List.mem_append] at hz
    have hz1 : z ∉ l.map (·.name) := fun h => hz (.inl h)
    have hz2 : r.name ≠ z := fun h => hz (.inr (by rw [← h]; exact List.mem_singleton.mpr rfl))
    obtain ⟨p', hp', ev, hnx, et⟩ := S.lnk e0 he0 r hn
    rw [hv] at ev
    have ep := uniqE hp hp' (Option.some.inj ev)
    subst ep
    obtain ⟨hrm, hmay⟩ := nx_iff.mp hnx
    obtain ⟨r1, hr1, k⟩ := out hrm
    have hr1z : r1.name ≠ z := by rw [← k.1]; exact hz2
    have hr1b : r1 ∈ butR z rs := mem_butR.mpr ⟨hr1, hr1z⟩
    cases cp : p.n with
    | none =>
      rw [cp] at hmay
      have c1 : mayB kind bs' start none r = true := hmay
      rw [may_keptB k hb, ← may_but (z := z) (fun b h => by cases h) hr1z] at c1
      obtain ⟨t, ht, le⟩ := S2.a r1 hr1b c1
      refine ⟨t, by rw [k.1]; exact ht, ?_⟩
      rw [et, (S.rt p hp cp).1, ar_kept k]
      exact le
    | some q =>
      rw [cp] at hmay
      have c1 : mayB kind bs' q.goal (some q.name) r = true := hmay
      obtain ⟨tq, htq, leq⟩ := ih hz1 p hp rfl q cp
      obtain ⟨q1, hq1, kq⟩ := out (S.mem p hp q cp)
      have hql : q.name ∈ l.map (·.name) := by
        rw [cp] at h
        cases h with
        | step _ _ _ l2 _ _ _ _ _ => rw [List.map_append, List.mem_append]; exact .inr (List.mem_singleton.mpr rfl)
      have hqz : q.name ≠ z := fun e => hz1 (e ▸ hql)
      have hq1z : q1.name ≠ z := by rw [← kq.1]; exact hqz
      rw [may_keptB k hb, kq.1, kq.2.2.1, ← may_but (z := z) (fun b h => by cases h; exact hq1z) hr1z] at c1
      rw [kq.1] at htq
      obtain ⟨t, ht, le⟩ := S2.b q1 (mem_butR.mpr ⟨hq1, hq1z⟩) tq htq r1 hr1b c1
      refine ⟨t, by rw [k.1]; exact ht, ?_⟩
      have c2 := c1
      have mono := ar_mono d1 (hoR r1 hr1) (ever_hours (may_everB c2)) leq
      rw [et, ar_kept k]
      omega
end
end W

set_option Elab.async false
set_option linter.all false
set_option maxRecDepth 100000
set_option maxHeartbeats 1000000
namespace W
open PySem PySem.Spec PyProof.Rows L2 GxR MyG MyS MyR
/-! ### what the law expects is what delays tells -/
def expO (a : Int) (z : Str) : Option Int → List (Str × Option Int)
  | none => [(z, none)]
  | some t => if t > a then [(z, some (t - a))] else []
def expL (a : Int) : List RoadD → List (Option Int) → List (Str × Option Int)
  | r :: rs, o :: os => expO a r.name o ++ expL a rs os
  | _, _ => []
theorem exp_ind {P2 : RoadD → Option Int → Prop} {O : Str → Option Int → Prop} {l : List RoadD} {a : Int} {rs : List RoadD} (H1 : ∀ r ∈ rs, ∀ o2 o, P2 r o2 → O r.name o → o2 = o) (H2 : ∀ r ∈ rs, r.name ∉ l.map (·.name) → ∀ o2, P2 r o2 → o2 = some a) (H3 : ∀ r ∈ rs, ∀ t, P2 r (some t) → a ≤ t) :
    ∀ {L L' : List RoadD} {os2 os : List (Option Int)}, (∀ r ∈ L, r ∈ rs) → L.map (·.name) = L'.map (·.name) → Paired P2 L os2 → Paired (fun r o => O r.name o) (onR l L') os → expL a L os2 = notZ (lateL a (onR l L') os)
  | [], [], _, _, _, _, .nil, .nil => rfl
  | [], _ :: _, _, _, _, h, _, _ => by cases h
  | _ :: _, [], _, _, _, h, _, _ => by cases h
  | r :: L, r' :: L', _, os, hin, h, .cons (b := o2) (l₂ := os2) hp hps, ho => by
    have hn : r.name = r'.name := (List.cons.inj h).1
    have ht := (List.cons.inj h).2
    have hr := hin r List.mem_cons_self
    have hin' : ∀ r ∈ L, r ∈ rs := fun x hx => hin x (List.mem_cons_of_mem _ hx)
    by_cases c : r'.name ∈ l.map (·.name)
    · have e : onR l (r' :: L') = r' :: onR l L' := by
        unfold onR
        rw [List.filter_cons, if_pos (decide_eq_true c)]
      rw [e] at ho ⊢
      cases ho with
      | cons h1 h2 =>
        rename_i o os'
        have ih := exp_ind H1 H2 H3 hin' ht hps h2
        have eo : o2 = o := H1 r hr o2 o hp (by rw [hn]; exact h1)
        subst eo
        show expO a r.name o2 ++ expL a L os2 = notZ ((r'.name, o2.map fun b => b - a) :: lateL a (onR l L') os')
        unfold notZ at ih ⊢
        rw [ih, List.filter_cons, hn]
        cases o2 with
        | none => rfl
        | some t =>
          have le := H3 r hr t hp
          by_cases ct : t > a
          · have e1 : expO a r'.name (some t) = [(r'.name, some (t - a))] := if_pos ct
            rw [e1, if_pos (by
              show (!decide (some (t - a) = some 0)) = true
              rw [decide_eq_false (fun h => by have := Option.some.inj h; omega)]; rfl)]
            rfl
          · have e1 : expO a r'.name (some t) = [] := if_neg ct
            have e2 : t - a = 0 := by omega
            rw [e1, if_neg (by
              show ¬ (!decide (some (t - a) = some 0)) = true
              rw [e2]; decide)]
            rfl
    · have e : onR l (r' :: L') = onR l L' := by
        unfold onR
        rw [List.filter_cons, if_neg (by rw [decide_eq_true_iff]; exact c)]
      rw [e] at ho ⊢
      have eo := H2 r hr (by rw [hn]; exact c) o2 hp
      subst eo
      show expO a r.name (some a) ++ expL a L os2 = _
      have e1 : expO a r.name (some a) = [] := if_neg (by omega)
      rw [e1]
      exact exp_ind H1 H2 H3 hin' ht hps ho
end W

set_option Elab.async false
set_option linter.all false
set_option maxRecDepth 100000
set_option maxHeartbeats 1000000
namespace W
open PySem PySem.Spec PyProof.Rows L2 GxR MyG MyS MyR
/-! ### the law's parts and the map's -/
theorem PartsOk.kept {d : Int} {ks ps ks' ps' : List Str} {rs rs' : List RoadD} {bs bs' : List (Str × Str)} (h : PartsOk d ks ps rs bs) (pk : ks'.Perm ks) (pp : ps'.Perm ps) (kr : KeptAll rs rs') (pb : bs'.Perm bs) : PartsOk d ks' ps' rs' bs' := by
  obtain ⟨d1, d2, k1, k2, p2, kn, pn, kd, pd, hr, hb⟩ := h
  have hr' := hr.perm pp pk
  obtain ⟨a, b, c, e⟩ := hr'
  have out : ∀ {r'}, r' ∈ rs' → ∃ r ∈ rs, Kept r r' := fun {r'} h => by
    obtain ⟨l, q1, q2⟩ := kr
    exact Paired.mem q2 (q1.mem_iff.mpr h)
  have hb' := hb.kept kr
  obtain ⟨b1, b2, b3⟩ := hb'
  refine ⟨d1, d2, by rw [pk.length_eq]; exact k1, by rw [pk.length_eq]; exact k2, by rw [pp.length_eq]; exact p2, ?_, ?_, pk.nodup_iff.mpr kd, pp.nodup_iff.mpr pd, ⟨by rw [kr.len]; exact a, ?_, kr.nodup c, fun r' hr' => ?_⟩, ⟨by rw [pb.length_eq]; exact b1, pb.nodup_iff.mpr b2, fun x hx => b3 x (pb.mem_iff.mp hx)⟩⟩
  · exact List.all_eq_true.mpr fun z hz => List.all_eq_true.mp kn z (pk.mem_iff.mp hz)
  · exact List.all_eq_true.mpr fun z hz => List.all_eq_true.mp pn z (pp.mem_iff.mp hz)
  · refine List.all_eq_true.mpr fun z hz => ?_
    obtain ⟨r', hr', rfl⟩ := List.mem_map.mp hz
    obtain ⟨r, h1, k⟩ := out hr'
    rw [k.1]
    exact List.all_eq_true.mp b _ (List.mem_map.mpr ⟨r, h1, rfl⟩)
  · obtain ⟨r, h1, k⟩ := out hr'
    obtain ⟨e1, e2, e3, e4, e5, e6, e7, e8⟩ := e r h1
    obtain ⟨k1, k2, k3, k4, k5, k6, k7⟩ := k
    exact ⟨by rw [k2]; exact e1, by rw [k3]; exact e2, by rw [k4]; exact e3, by rw [k4]; exact e4, fun u hu => e5 u (k6.mem_iff.mp hu), by rw [k6.length_eq]; exact e6, k6.nodup_iff.mpr e7, by rw [k5]; exact e8⟩
theorem asc_eqS {a b : List Str} (ha : Asc a) (hb : Asc b) (na : a.Nodup) (nb : b.Nodup) (h : ∀ z, z ∈ a ↔ z ∈ b) : a = b := List.Perm.eq_of_pairwise (le := fun a b => slt b a = false) (fun a b _ _ h1 h2 => slt_tri h2 h1) ha hb ((List.perm_ext_iff_of_nodup na nb).mpr h)
theorem paired_permL {α β : Type} {F : α → β → Prop} {l l' : List α} (h : l.Perm l') : ∀ {m : List β}, Paired F l' m → ∃ m', m'.Perm m ∧ Paired F l m' := by
  induction h with
  | nil => intro m p; cases p; exact ⟨[], .refl _, .nil⟩
  | cons x h ih =>
    intro m p
    cases p with
    | cons a q =>
      obtain ⟨m', pm, pr⟩ := ih q
      exact ⟨_, pm.cons _, .cons a pr⟩
  | swap x y l =>
    intro m p
    cases p with
    | cons a q =>
      cases q with
      | cons b q => exact ⟨_, .swap _ _ _, .cons b (.cons a q)⟩
  | trans h1 h2 ih1 ih2 =>
    intro m p
    obtain ⟨m1, p1, q1⟩ := ih2 p
    obtain ⟨m2, p2, q2⟩ := ih1 q1
    exact ⟨m2, p2.trans p1, q2⟩
theorem Kept.trans {a b c : RoadD} (h : Kept a b) (k : Kept b c) : Kept a c := by
  obtain ⟨h1, h2, h3, h4, h5, h6, _⟩ := h
  obtain ⟨k1, k2, k3, k4, k5, k6, k7⟩ := k
  exact ⟨k1.trans h1, k2.trans h2, k3.trans h3, k4.trans h4, k5.trans h5, k6.trans h6, k7⟩
theorem paired_kept_trans : ∀ {a b c : List RoadD}, Paired Kept a b → Paired Kept b c → Paired Kept a c
  | _, _, _, .nil, .nil => .nil
  | _, _, _, .cons h hs, .cons k ks => .cons (h.trans k) (paired_kept_trans hs ks)
theorem paired_but {z : Str} : ∀ {a b : List RoadD}, Paired Kept a b → Paired Kept (butR z a) (butR z b)
  | _, _, .nil => .nil
  | _, _, .cons (a := x) (b := y) h hs => by
    have q := paired_but (z := z) hs
    have en := h.1
    unfold butR at q ⊢
    by_cases c : x.name = z
    · rw [List.filter_cons, List.filter_cons, if_neg (by rw [decide_eq_true c]; decide), if_neg (by rw [decide_eq_true (en.trans c)]; decide)]
      exact q
    · rw [List.filter_cons, List.filter_cons, if_pos (by rw [decide_eq_false c]; rfl), if_pos (by rw [decide_eq_false (fun e => c (en.symm.trans e))]; rfl)]
      exact .cons h q
theorem kept_but {z : Str} {rs rs' rs'' : List RoadD} (k1 : KeptAll rs rs') (k2 : KeptAll (butR z rs') rs'') : KeptAll (butR z rs) rs'' := by
  obtain ⟨l1, p1, q1⟩ := k1
  obtain ⟨l2, p2, q2⟩ := k2
  have pb : (butR z l1).Perm (butR z rs') := p1.filter _
  obtain ⟨m, pm, qm⟩ := paired_permL pb q2
  exact ⟨m, pm.trans p2, paired_kept_trans (paired_but q1) qm⟩
theorem sg_of {d : Int} {ks ps : List Str} {rs rs' : List RoadD} {bs : List (Str × Str)} (hok : PartsOk d ks ps rs bs) (kr : KeptAll rs rs') : SG d rs' := by
  have out : ∀ {r'}, r' ∈ rs' → ∃ r ∈ rs, Kept r r' := fun {r'} h => by
    obtain ⟨l, pm, pr⟩ := kr
    obtain ⟨r, hr0, qq⟩ := Paired.mem pr (pm.mem_iff.mpr h)
    exact ⟨r, hr0, qq⟩
  refine ⟨hok.d1, kr.nodup hok.r.nd, fun r' h => ?_, fun r' h => ?_, fun r' h => ?_⟩
  · obtain ⟨r, h1, h2⟩ := out h
    rw [h2.1]
    exact isNm_ne (List.all_eq_true.mp hok.r.nm r.name (List.mem_map.mpr ⟨r, h1, rfl⟩))
  · obtain ⟨r, h1, h2⟩ := out h
    rw [h2.2.2.2.2.1]
    exact (hok.r.ok r h1).h
  · obtain ⟨r, h1, h2⟩ := out h
    rw [h2.2.2.2.1]
    exact (hok.r.ok r h1).m1
/-- what the law finds without a road -/
def LateZ (d : Int) (kind : Str) (bs : List (Str × Str)) (rs : List RoadD) (start goal : Str) (moment : Int) (r : RoadD) (o : Option Int) : Prop := ∃ T2, LSol d kind (butB r.name bs) ((butR r.name rs).filter (everB kind)) start moment T2 ∧ EarlZ ((butR r.name rs).filter (everB kind)) T2 start goal moment o
theorem names_same {rs rs' : List RoadD} (kr : KeptAll rs rs') (nd : (rs.map (·.name)).Nodup) (a : AscR rs) (a' : AscR rs') : rs.map (·.name) = rs'.map (·.name) := by
  have asc : ∀ {l : List RoadD}, AscR l → Asc (l.map (·.name)) := fun h => List.pairwise_map.mpr h
  refine asc_eqS (asc a) (asc a') nd (kr.nodup nd) fun z => ?_
  obtain ⟨l, pm, pr⟩ := kr
  constructor
  · intro h
    obtain ⟨r, hr, rfl⟩ := List.mem_map.mp h
    obtain ⟨r', hr', q⟩ := Paired.mem' pr hr
    exact List.mem_map.mpr ⟨r', pm.mem_iff.mp hr', q.1⟩
  · intro h
    obtain ⟨r', hr', rfl⟩ := List.mem_map.mp h
    obtain ⟨r, hr, q⟩ := Paired.mem pr (pm.mem_iff.mpr hr')
    exact List.mem_map.mpr ⟨r, hr, q.1.symm⟩
end W

set_option Elab.async false
set_option linter.all false
set_option maxRecDepth 100000
set_option maxHeartbeats 1000000
namespace W
open PySem PySem.Spec PyProof.Rows L2 GxR MyG MyS MyR
/-! ### what the law expects is what delays tells: for the law's parts and the map -/
theorem LSol.wide {d : Int} {kind : Str} {bs : List (Str × Str)} {rs : List RoadD} {start : Str} {moment : Int} {T : Str → Option Int} (nd : (rs.map (·.name)).Nodup) (h : LSol d kind bs (rs.filter (everB kind)) start moment T) : LSol d kind bs rs start moment T := by
  have m : ∀ {r}, r ∈ rs.filter (everB kind) → r ∈ rs := fun h => (List.mem_filter.mp h).1
  have op : ∀ {r}, r ∈ rs → ∀ {t}, T r.name = some t → r ∈ rs.filter (everB kind) := fun {r} hr {t} e => by
    obtain ⟨⟨r2, hr2, en⟩, _⟩ := h.dom _ _ e
    rw [← uniq_name nd (m hr2) hr en]
    exact hr2
  refine ⟨fun z t e => ?_, fun r hr c => h.a r (List.mem_filter.mpr ⟨hr, may_everB c⟩) c, fun p hp tp e r hr c => h.b p (op hp e) tp e r (List.mem_filter.mpr ⟨hr, may_everB c⟩) c, fun r hr t e => ?_⟩
  · obtain ⟨⟨r, hr, en⟩, hm⟩ := h.dom z t e
    exact ⟨⟨r, m hr, en⟩, hm⟩
  · rcases h.c r (op hr e) t e with c | ⟨p, hp, tp, ep, lt, c, et⟩
    · exact .inl c
    · exact .inr ⟨p, m hp, tp, ep, lt, c, et⟩
theorem exp_same {d : Int} {kind : Str} {ks ps : List Str} {bs bs' : List (Str × Str)} {rs rs' : List RoadD} {start goal : Str} {moment : Int} {es : List Ent} {e : Ent} {l : List RoadD} {os os2 : List (Option Int)} (hok : PartsOk d ks ps rs bs) (kr : KeptAll rs rs') (pb : bs'.Perm bs) (ar1 : AscR rs) (ar2 : AscR rs')
    (S : Sol d kind bs' rs' start moment es) (he : e ∈ es) (hg : plN start e.n = goal) (hm : ∀ f ∈ es, plN start f.n = goal → e.t ≤ f.t) (hp : PathTo es e.n l) (hos : Paired (fun r o => OthZ d kind bs' rs' start goal moment r.name o) (onR l rs') os) (h2 : Paired (LateZ d kind bs rs start goal moment) rs os2) :
    expL e.t rs os2 = notZ (lateL e.t (onR l rs') os) := by
  have d1 := hok.d1
  have ndr := hok.r.nd
  have hoR : ∀ r ∈ rs, HoursOk d r.hours := fun r h => (hok.r.ok r h).h
  have G := sg_of hok kr
  have hb : ∀ b, b ∈ bs' ↔ b ∈ bs := fun b => pb.mem_iff
  have S1 := S.lsol G ndr kr hb
  have iff := @tOf_iff d kind bs' rs' start moment es G.nd S
  have ndb : ∀ z, ((butR z rs).map (·.name)).Nodup := fun z => (hok.but z).r.nd
  have out : ∀ {r'}, r' ∈ rs' → ∃ r ∈ rs, Kept r r' := fun {r'} h => by
    obtain ⟨l, pm, pr⟩ := kr
    obtain ⟨r, hr0, qq⟩ := Paired.mem pr (pm.mem_iff.mpr h)
    exact ⟨r, hr0, qq⟩
  have inn : ∀ {r}, r ∈ rs → ∃ r' ∈ rs', Kept r r' := fun {r} h => by
    obtain ⟨l, pm, pr⟩ := kr
    obtain ⟨r', hr0, qq⟩ := Paired.mem' pr h
    exact ⟨r', pm.mem_iff.mp hr0, qq⟩
  have back : ∀ r ∈ rs, r.goal = goal → ∀ t, tOf es r.name = some t → e.t ≤ t := fun r hr hgr t ht => by
    obtain ⟨e3, he3, r', hn, en, et⟩ := iff.mp ht
    obtain ⟨r2, hr2, k⟩ := inn hr
    have er := uniq_name G.nd (S.mem e3 he3 r' hn) hr2 (en.trans k.1.symm)
    subst er
    have q := hm e3 he3 (by rw [hn]; show r'.goal = goal; rw [k.2.2.1]; exact hgr)
    omega
  have mb : ∀ {z : Str} {r : RoadD}, r ∈ (butR z rs).filter (everB kind) → r ∈ rs ∧ r.name ≠ z := fun h => mem_butR.mp (List.mem_filter.mp h).1
  have H3 : ∀ r ∈ rs, ∀ t, LateZ d kind bs rs start goal moment r (some t) → e.t ≤ t := fun r hr t ⟨T2, S2, E2⟩ => by
    have S2w := S2.wide (ndb r.name)
    rcases E2 with ⟨hs, ho⟩ | ⟨hne, ⟨ho, _⟩ | ⟨t', ho, ⟨r2, hr2, hg2, ht2⟩, _⟩⟩
    · cases ho
      exact hm _ S.root hs
    · cases ho
    · cases ho
      obtain ⟨m1, m2⟩ := mb hr2
      obtain ⟨u, hu, le⟩ := late_ge d1 hoR S1 S2w _ r2 t m1 ht2 (Nat.le_refl _)
      have := back r2 m1 hg2 u hu
      omega
  refine exp_ind (P2 := LateZ d kind bs rs start goal moment) (O := OthZ d kind bs' rs' start goal moment) (rs := rs) (fun r hr o2 o hl ho => ?_) (fun r hr hz o2 hl => ?_) H3 (fun r h => h) (names_same kr ndr ar1 ar2) h2 hos
  · obtain ⟨T2, S2, E2⟩ := hl
    obtain ⟨rs2, bs2, kr2, pb2, GE⟩ := ho
    have kk := kept_but kr kr2
    refine earl_goal (sg_of (hok.but r.name) kk) d1 (ndb r.name) (fun x hx => hoR x (mem_butR.mp hx).1) kk (fun b => ?_) S2 E2 GE
    rw [pb2.mem_iff, mem_butB, mem_butB, pb.mem_iff]
  · have hl0 := hl
    obtain ⟨T2, S2, E2⟩ := hl
    have S2w := S2.wide (ndb r.name)
    rcases E2 with ⟨hs, ho⟩ | ⟨hne, E2⟩
    · have h1 : e.t ≤ moment := hm _ S.root hs
      have h2 := S.ge e he
      rw [ho]
      congr 1
      omega
    · cases cn : e.n with
      | none =>
        rw [cn] at hg
        exact absurd hg hne
      | some q =>
        have hq' := hg
        rw [cn] at hq'
        have hqg : q.goal = goal := hq'
        obtain ⟨t, ht, le⟩ := path_kept G d1 S kr hb hoR S2w hp hz e he rfl q cn
        obtain ⟨q1, hq1, kq⟩ := out (S.mem e he q cn)
        obtain ⟨⟨q2, hq2, en⟩, _⟩ := S2.dom _ _ ht
        obtain ⟨m1, m2⟩ := mb hq2
        have eq2 := uniq_name ndr m1 hq1 (en.trans kq.1)
        have hg2 : q2.goal = goal := by rw [eq2, ← kq.2.2.1]; exact hqg
        rcases E2 with ⟨ho, hno⟩ | ⟨t', ho, _, least⟩
        · have := hno q2 hq2 hg2
          rw [en, ht] at this
          cases this
        · have h1 := least q2 hq2 hg2 t (by rw [en]; exact ht)
          rw [ho] at hl0
          have h3 := H3 r hr t' hl0
          rw [ho]
          congr 1
          omega
end W

set_option Elab.async false
set_option linter.all false
set_option maxRecDepth 100000
set_option maxHeartbeats 800000
namespace MyR
open PySem PySem.Spec PyProof.Rows L2
/-! ### repr of data or of None -/
def rRepN (K : PySem.W.Frag) : List V → Hp → VK → Prop := fun xs H Q => (xs = [.non] ∧ Q (.str "None") H) ∨ rRep K xs H Q
theorem call_repN {X : Cx} (hg : X.A.guards = some []) (hu : X.A.units + 64 < cLine) : CallR X (.builtin "repr") (rRepN X.K) := by
  intro pins s σ H xs us Q I r h
  rcases h with ⟨rfl, q⟩ | h
  · obtain ⟨u, rfl, r1⟩ := vals1 r
    obtain rfl : u = Value.none := r1
    exact PySem.P.repr_of_none ⟨.str _, H, I.tok _, ⟨_, rfl⟩, q⟩
  · exact call_repD hg hu pins s σ H xs us Q I r h
end MyR

set_option Elab.async false
set_option linter.all false
set_option maxRecDepth 100000
set_option maxHeartbeats 1000000
namespace W
open PySem PySem.Spec PyProof.Rows L2 GxR MyG MyS MyR
/-! ### repr of the rows -/
theorem nat_small {i : Int} (h0 : 0 ≤ i) (h1 : i ≤ 1000000) : i.natAbs < 2 ^ 20 := by
  have : (2 : Nat) ^ 20 = 1048576 := by decide
  omega
theorem log_small {i : Int} (h0 : 0 ≤ i) (h1 : i ≤ 1000000) : i.natAbs.log2 ≤ 20 := by
  by_cases z : i.natAbs = 0
  · rw [z]; decide
  · exact Nat.le_of_lt ((Nat.log2_lt z).mpr (nat_small h0 h1))
theorem int_w {i : Int} (h0 : 0 ≤ i) (h1 : i ≤ 1000000) : PyData.weight (.int i) ≤ 21 := by
  have := log_small h0 h1
  simp only [PyData.weight]
  split <;> omega
structure RepOk (d : PyData) : Prop where
  s : d.showable = true
  h : d.hasDict = false
  p : d.depth ≤ 8
  z : d.shown.length ≤ sizeLine
theorem rep_of {d : PyData} (c : d.canLay0 = true) (s : d.showable = true) (i : d.intsShort 13 = true) (p : d.depth ≤ 8) (w : d.weight ≤ 2 ^ 20) : RepOk d :=
  ⟨s, PyData.hasDict_of_canLay d c, p, PyData.shown_fits (B := 13) (by decide) (by decide) (PyData.leavesShort_of_canLay0 13 d c i) w⟩
theorem ar_le {d : Int} {r : RoadD} (hd : 1 ≤ d) (ho : HoursOk d r.hours) (hn : r.hours ≠ some []) (t : Int) : ar d r t ≤ t + 2 * d + r.minutes := by
  obtain ⟨_, e, he, ha, hle⟩ := ar_some hd ho hn t
  rw [ha]
  have key : e ≤ t + 2 * d := by
    unfold enterR at he
    obtain ⟨nm, st, go, mi, us, hs⟩ := r
    cases hs with
    | none =>
      obtain rfl := Option.some.inj he
      omega
    | some ps =>
      have q1 := enterD_first (t := t) hd ho.2
      have he' : enterD d (some ps) t = some e := he
      rw [he'] at q1
      obtain ⟨k, k0, k1, ev, _, kn⟩ := q1
      omega
  omega
theorem LSol.bound {d : Int} {kind : Str} {bs : List (Str × Str)} {rs : List RoadD} {start : Str} {moment : Int} {T : Str → Option Int} (d1 : 1 ≤ d) (d2 : d ≤ 1440) (ho : ∀ r ∈ rs, HoursOk d r.hours) (hm : ∀ r ∈ rs, r.minutes ≤ 1000) (A : LSol d kind bs rs start moment T) : ∀ z t, T z = some t → t ≤ moment + 4000 * (rs.length : Nat) := by
  have key : ∀ (n : Nat) (r : RoadD), r ∈ rs → ∀ t, T r.name = some t → rk T rs r.name ≤ n → t ≤ moment + 4000 * (n : Nat) := by
    intro n
    induction n with
    | zero =>
      intro r hr t ht hn
      exfalso
      have : 0 < rk T rs r.name := List.length_pos_of_mem (List.mem_filter.mpr ⟨hr, by unfold leB; rw [ht]; exact decide_eq_true (Int.le_refl _)⟩)
      omega
    | succ n ih =>
      intro r hr t ht hn
      have m := hm r hr
      rcases A.c r hr t ht with ⟨c, e⟩ | ⟨p, hp, tp, ep, lt, c, e⟩
      · have := ar_le d1 (ho r hr) (may_ever c) moment
        omega
      · have := ar_le d1 (ho r hr) (may_ever c) tp
        have q := rk_lt hr ep ht lt
        have := ih p hp tp ep (by omega)
        omega
  intro z t h
  obtain ⟨⟨r, hr, rfl⟩, _⟩ := A.dom z t h
  exact key rs.length r hr t h (List.length_filter_le _ _)
def oD : Option Int → PyData
  | none => .none
  | some i => .int i
def rowOD (e : Str × Option Int) : PyData := .tuple [.str e.1, oD e.2]
theorem dp_opt {K : PySem.W.Frag} {H : Hp} : ∀ o : Option Int, Dp K H (optV o) (oD o)
  | none => .non
  | some i => .int i
theorem dp_rowsO {K : PySem.W.Frag} {H : Hp} : ∀ {ls : List (Str × Option Int)} {ys : List V}, Paired (RowO H) ls ys → DpAll K H ys (ls.map rowOD)
  | _, _, .nil => .nil
  | _, _, .cons h t => by
    obtain ⟨p, rfl, hp⟩ := h
    exact .cons (.tup (SqT.of hp) (.cons (.str _) (.cons (dp_opt _) .nil))) (dp_rowsO t)
def SmallO (e : Str × Option Int) : Prop := PyData.strOk e.1 = true ∧ e.1.cps.size ≤ 12 ∧ ∀ i, e.2 = some i → 0 ≤ i ∧ i ≤ 1000000
theorem oD_all {o : Option Int} (h : ∀ i, o = some i → 0 ≤ i ∧ i ≤ 1000000) : (oD o).canLay0 = true ∧ (oD o).showable = true ∧ (oD o).intsShort 13 = true ∧ (oD o).depth ≤ 1 ∧ (oD o).weight ≤ 21 := by
  cases o with
  | none => exact ⟨by rfl, by rfl, by rfl, by decide, by decide⟩
  | some i =>
    obtain ⟨a3, a4⟩ := h i rfl
    have b1 : i.natAbs < 10 ^ 12 := by
      have : (10 : Nat) ^ 12 = 1000000000000 := by decide
      omega
    have l1 := log_small a3 a4
    have w1 := int_w a3 a4
    have s1 := PyData.shown_int_le b1
    have c1 : i.natAbs.log2 < 1920 := by omega
    refine ⟨by simp [oD, PyData.canLay0], by simp [oD, PyData.showable, c1], by simp [oD, PyData.intsShort, s1], by simp [oD, PyData.depth], w1⟩
theorem rowO_all {e : Str × Option Int} (h : SmallO e) : (rowOD e).canLay0 = true ∧ (rowOD e).showable = true ∧ (rowOD e).intsShort 13 = true ∧ (rowOD e).depth ≤ 3 ∧ (rowOD e).weight ≤ 50 := by
  obtain ⟨a1, a2, a3⟩ := h
  obtain ⟨o1, o2, o3, o4, o5⟩ := oD_all a3
  refine ⟨?_, ?_, ?_, ?_, ?_⟩
  · simp [PyData.canLayAll0, PyData.canLay0, rowOD, a1, o1]
  · simp [PyData.showableAll, PyData.showable, rowOD, o2]
  · simp [PyData.intsShortAll, PyData.intsShort, rowOD, o3]
  · simp only [PyData.depthAll, PyData.depth, rowOD]; omega
  · have q : PyData.weight (rowOD e) = e.1.cps.size + 1 + (PyData.weight (oD e.2) + 1 + 0) := by simp only [rowOD, PyData.weight, PyData.weightAll]
    omega
theorem rowsO_all : ∀ {ls : List (Str × Option Int)}, (∀ s ∈ ls, SmallO s) → PyData.canLayAll0 (ls.map rowOD) = true ∧ PyData.showableAll (ls.map rowOD) = true ∧ PyData.intsShortAll 13 (ls.map rowOD) = true ∧ PyData.depthAll (ls.map rowOD) ≤ 3 ∧ PyData.weightAll (ls.map rowOD) ≤ 60 * ls.length
  | [], _ => by simp [PyData.canLayAll0, PyData.showableAll, PyData.intsShortAll, PyData.depthAll, PyData.weightAll]
  | s :: ls, h => by
    obtain ⟨i1, i2, i3, i4, i5⟩ := rowsO_all (ls := ls) fun x hx => h x (List.mem_cons_of_mem _ hx)
    obtain ⟨a1, a2, a3, a4, a5⟩ := rowO_all (h s List.mem_cons_self)
    refine ⟨?_, ?_, ?_, ?_, ?_⟩
    · simp only [List.map_cons, PyData.canLayAll0, a1, i1, Bool.and_self]
    · simp only [List.map_cons, PyData.showableAll, a2, i2, Bool.and_self]
    · simp only [List.map_cons, PyData.intsShortAll, a3, i3, Bool.and_self]
    · simp only [List.map_cons, PyData.depthAll]; omega
    · simp only [List.map_cons, PyData.weightAll, List.length_cons]; omega
theorem rowsO_rep {ls : List (Str × Option Int)} (h : ∀ s ∈ ls, SmallO s) (hl : ls.length ≤ 1000) : RepOk (.list (ls.map rowOD)) := by
  obtain ⟨i1, i2, i3, i4, i5⟩ := rowsO_all h
  refine rep_of ?_ ?_ ?_ ?_ ?_
  · simpa [PyData.canLay0] using i1
  · simpa [PyData.showable] using i2
  · simpa [PyData.intsShort] using i3
  · simp only [PyData.depth]; omega
  · have e : PyData.weight (.list (ls.map rowOD)) = PyData.weightAll (ls.map rowOD) := by simp only [PyData.weight]
    rw [e, show (2 : Nat) ^ 20 = 1048576 by decide]
    omega
theorem shaped_rowsO {ls : List (Str × Option Int)} (h : ∀ s ∈ ls, SmallO s) : SeqAt.shaped (PyData.list (ls.map rowOD)) = true := by
  obtain ⟨i1, _, _, i4, _⟩ := rowsO_all h
  unfold SeqAt.shaped
  rw [Bool.and_eq_true]
  refine ⟨by simpa [PyData.canLay0] using i1, decide_eq_true ?_⟩
  simp only [PyData.depth]
  omega
end W

set_option Elab.async false
set_option linter.all false
set_option maxRecDepth 100000
set_option maxHeartbeats 2000000
namespace W
open PySem PySem.Spec PyProof.Rows L2 GxR MyG MyS MyR
/-! ### the worst of some delays -/
def worseB : Option Int → Option Int → Bool
  | none, o => o.isSome
  | some _, none => false
  | some a, some b => decide (a > b)
def worstS (c e : Str × Option Int) : Str × Option Int := if worseB e.2 c.2 = true then e else c
def worstO : List (Str × Option Int) → Option (Str × Option Int)
  | [] => none
  | h :: t => some (t.foldl worstS h)
theorem worseB_self : ∀ o, worseB o o = false
  | none => rfl
  | some a => by show decide (a > a) = false; exact decide_eq_false (by omega)
theorem worstS_self (e : Str × Option Int) : worstS e e = e := by unfold worstS; rw [worseB_self]; rfl
theorem foldl_mem {e : Str × Option Int} : ∀ {l : List (Str × Option Int)} {c}, e = l.foldl worstS c → e = c ∨ e ∈ l
  | [], c, h => .inl h
  | x :: l, c, h => by
    rcases foldl_mem (l := l) h with h | h
    · unfold worstS at h
      split at h
      · exact .inr (by rw [h]; exact List.mem_cons_self)
      · exact .inl h
    · exact .inr (List.mem_cons_of_mem _ h)
theorem worstO_mem {ls : List (Str × Option Int)} {e} (h : worstO ls = some e) : e ∈ ls := by
  cases ls with
  | nil => cases h
  | cons x l =>
    rcases foldl_mem (Option.some.inj h).symm with h | h
    · rw [h]; exact List.mem_cons_self
    · exact List.mem_cons_of_mem _ h
theorem worstO_snoc (ls : List (Str × Option Int)) (e : Str × Option Int) : worstO (ls ++ [e]) = some (match worstO ls with | none => e | some c => worstS c e) := by
  cases ls with
  | nil => rfl
  | cons x l =>
    show some ((l ++ [e]).foldl worstS x) = _
    rw [List.foldl_append]
    rfl
theorem shaped_rowsN {ls : List (Str × Option Int)} (h : ∀ e ∈ ls, PyData.strOk e.1 = true) : SeqAt.shaped (PyData.list (ls.map rowOD)) = true := by
  have key : ∀ {ls : List (Str × Option Int)}, (∀ e ∈ ls, PyData.strOk e.1 = true) → PyData.canLayAll0 (ls.map rowOD) = true ∧ PyData.depthAll (ls.map rowOD) ≤ 3 := fun {ls} => by
    induction ls with
    | nil => intro _; simp [PyData.canLayAll0, PyData.depthAll]
    | cons s ls ih =>
      intro h
      obtain ⟨i1, i4⟩ := ih fun x hx => h x (List.mem_cons_of_mem _ hx)
      have a1 := h s List.mem_cons_self
      have o1 : (oD s.2).canLay0 = true ∧ (oD s.2).depth ≤ 1 := by
        cases s.2 with
        | none => exact ⟨by rfl, by decide⟩
        | some i => exact ⟨by simp [oD, PyData.canLay0], by simp [oD, PyData.depth]⟩
      refine ⟨?_, ?_⟩
      · simp [PyData.canLayAll0, PyData.canLay0, rowOD, a1, o1.1] at i1 ⊢
        exact i1
      · simp only [List.map_cons, PyData.depthAll, PyData.depth, rowOD] at i4 ⊢
        have := o1.2
        omega
  obtain ⟨i1, i4⟩ := key h
  unfold SeqAt.shaped
  rw [Bool.and_eq_true]
  refine ⟨by simpa [PyData.canLay0] using i1, decide_eq_true ?_⟩
  simp only [PyData.depth]
  omega
abbrev sWorse : Stmt := top 56
abbrev sWorst : Stmt := top 55
def spWorse (K : PySem.W.Frag) : Sp := fun vs H Q _ => ∃ a b : Option Int, vs = [optV a, optV b] ∧ Q (.bl (worseB a b)) H
def RowOE (H : Hp) : Option (Str × Option Int) → V → Prop
  | none, v => v = .non
  | some e, v => RowO H e v
def WorstAt (H : Hp) (d : Int) (kind : Str) (bs : List (Str × Str)) (rs : List RoadD) (start goal : Str) (moment : Int) (v : V) : Prop := ∃ es, Sol d kind bs rs start moment es ∧ ((v = .non ∧ ∀ e ∈ es, plN start e.n ≠ goal) ∨
  ∃ e l os, e ∈ es ∧ plN start e.n = goal ∧ (∀ f ∈ es, plN start f.n = goal → e.t ≤ f.t) ∧ PathTo es e.n l ∧ Paired (fun r o => OthZ d kind bs rs start goal moment r.name o) (onR l rs) os ∧ RowOE H (worstO (notZ (lateL e.t (onR l rs) os))) v)
def spWorst (K : PySem.W.Frag) (M P : Addr) : Sp := fun vs H Q _ => ∃ (x : Addr) (kind start goal : Str) (moment d : Int) (ks ps : List Str) (rs : List RoadD) (bs : List (Str × Str)), vs = [.ref x, .str kind, .str start, .str goal, .int moment] ∧ MIn K H M P x d ks ps rs bs ∧ RsIn ps rs ∧ (∀ r ∈ rs, 1 ≤ r.minutes) ∧ (∀ z ∈ ps, z.length ≤ 1000) ∧ (∀ r ∈ rs, PyData.strOk r.name = true) ∧ PartsOk d ks ps rs bs ∧ kind ∈ ks ∧ start ∈ ps ∧ goal ∈ ps ∧ 0 ≤ moment ∧
  ∀ H' v, Grew P H H' → WorstAt H' d kind bs rs start goal moment v → Q v H'
section
variable {Pg : Program} {w : World} {K : PySem.W.Frag} {mg : Str → Option Value} {base : Heap} {C P : Addr}
theorem scWorse : FnScope ["delay", "other"] ["delay", "other"] (defScope sWorse) := ⟨rfl, rfl, rfl, by decide +kernel, rfl, by decide +kernel, by decide +kernel⟩
theorem ok_worse {f : Addr} {fd : FuncData} (F : Fun K "_is_worse" "_is_worse" sWorse f fd) : FnOk Pg w K mg base CX0 1 f fd ["delay", "other"] (spWorse K) := by
  refine F.ok scWorse (fun vs H Q E h => ?_) (fun cdv A outer s H vs Q E hr h => ?_)
  · obtain ⟨a, b, rfl, _⟩ := h
    rfl
  · obtain ⟨a, b, rfl, k⟩ := h
    refine ⟨_, pss_cons (ps_if (PW.pt (pw_or (pt_cmp (pc_isN (pv 0))) (pw_or1 (pt_cmp (pc_isN (pv 1)))))) (pss_one (ps_ret (pe_and (pe_cmp (pc_isN (pv 0))) (pe_one (pe_cmp (pc_notN (pv 1))))))) pss_nil)
      (pss_one (ps_ret (pe_cmpR op_gt (pv 0) (pv 1) (nomark _)))), ?_⟩
    cases a with
    | none =>
      cases b with
      | none => exact ⟨_, rfl, _, rfl, iteT ⟨_, rfl, _, rfl, if_t rfl ⟨_, rfl, k⟩⟩⟩
      | some b => exact ⟨_, rfl, _, rfl, iteT ⟨_, rfl, _, rfl, if_t rfl ⟨_, rfl, k⟩⟩⟩
    | some a =>
      cases b with
      | none => exact ⟨_, rfl, _, rfl, iteF ⟨_, rfl, _, rfl, iteT ⟨_, rfl, _, rfl, if_f rfl k⟩⟩⟩
      | some b => exact ⟨_, rfl, _, rfl, iteF ⟨_, rfl, _, rfl, iteF ⟨_, rfl, _, rfl, _, _, rfl, rfl, k⟩⟩⟩
abbrev nWorst : List Str := ["chart", "kind", "start", "goal", "moment", "rows", "worst", "row"]
theorem scWorst : FnScope nWorst ["chart", "kind", "start", "goal", "moment"] (defScope sWorst) := ⟨rfl, rfl, rfl, by decide +kernel, rfl, by decide +kernel, by decide +kernel⟩
theorem ok_worst {f M fD fW : Addr} {fd fdD fdW : FuncData} (F : Fun K "worst_delay" "worst_delay" sWorst f fd)
    (GD : FnOk Pg w K mg base (L2.CX Pg w) 11 fD fdD ["chart", "kind", "start", "goal", "moment"] (spDelays K M P)) (gD : mg "delays" = some (.ref fD)) (kD : PySem.W.keepIn K (.ref fD) = true) (bD : Binds K fdD ["chart", "kind", "start", "goal", "moment"] [])
    (GW : FnOk Pg w K mg base CX0 1 fW fdW ["delay", "other"] (spWorse K)) (gW : mg "_is_worse" = some (.ref fW)) (kW : PySem.W.keepIn K (.ref fW) = true) (bW : Binds K fdW ["delay", "other"] []) :
    FnOk Pg w K mg base (L2.CX Pg w) 12 f fd ["chart", "kind", "start", "goal", "moment"] (spWorst K M P) := by
  refine F.okX scWorst (fun vs H Q E h => ?_) (fun cdv A outer s H vs Q E hr h => ?_)
  · obtain ⟨x, kind, start, goal, moment, d, ks, ps, rs, bs, rfl, _⟩ := h
    rfl
  · obtain ⟨x, kind, start, goal, moment, d, ks, ps, rs, bs, rfl, hM, rin, rmin, pl, rso, hok, hk, hs, hg, hmo, k⟩ := h
    refine ⟨_, C8.pss_cut (ps_set (i := 5) scWorst.nd rfl (Or.inl rfl) (pe_call (E := E0) GD (hr.mono (by decide)) (by rfl) gD kD bD .nil (passF rfl rfl) (pa_cons (pv 0) (pa_cons (pv 1) (pa_cons (pv 2) (pa_cons (pv 3) (pa_cons (pv 4) pa_nil)))))))
      (pss_cons (ps_if (PW.pt (pw_or (pt_cmp (pc_isN (pv 5))) (pw_or1 (pt_cmpR (op_eqD hr.units) (pv 5) (pe_lst pa_nil) (nomark _))))) (pss_one (ps_ret pe_non)) pss_nil)
      (pss_cons (ps_set (i := 6) scWorst.nd rfl (Or.inl rfl) (pe_ix (r := rIxL K) ix_list (pv 5) pe_int (fun _ _ => rfl)))
      (C8.pss_cut (ps_for (passes_of rfl) rfl (pi_list (pv 5)) (pg_name (i := 7) scWorst.nd rfl (Or.inl rfl))
        (pss_one (ps_if (pt_val (pe_call GW (hr.mono (by decide)) (by rfl) gW kW bW .nil pass0 (pa_cons (pe_ix (r := rIxT K) ix_tup (pv 7) pe_int (fun _ _ => rfl)) (pa_cons (pe_ix (r := rIxT K) ix_tup (pv 6) pe_int (fun _ _ => rfl)) pa_nil)))) (pss_one (ps_set (i := 6) scWorst.nd rfl (Or.inl rfl) (pv 7))) pss_nil)))
      (pss_one (ps_ret (pv 6)))))), ?_⟩
    have hP := hM.t
    -- rows
    refine ⟨fun σ H' => ∃ (v : V), σ = [some (.ref x), some (.str kind), some (.str start), some (.str goal), some (.int moment), some v, none, none] ∧ Grew P H H' ∧ DelAt H' d kind bs rs start goal moment v, ?_, ?_⟩
    · exact ⟨_, rfl, _, rfl, _, rfl, _, rfl, _, rfl, x, kind, start, goal, moment, d, ks, ps, rs, bs, rfl, hM, rin, rmin, pl, rso, hok, hk, hs, hg, hmo, fun H' v g _ hd => ⟨v, rfl, g, hd⟩⟩
    rintro σ H1 ⟨v, rfl, g1, es, S, hd⟩
    rcases hd with ⟨rfl, hno⟩ | ⟨e, l, L, ys, os, he, hgo, hm, hpa, rfl, hL, hos, hrows⟩
    · exact ⟨_, rfl, _, rfl, iteT (k H1 .non g1 ⟨es, S, .inl ⟨rfl, hno⟩⟩)⟩
    have sok : ∀ z ∈ notZ (lateL e.t (onR l rs) os), PyData.strOk z.1 = true := fun z hz => by
      have h1 : z ∈ lateL e.t (onR l rs) os := (List.mem_filter.mp hz).1
      obtain ⟨p, hp, rfl⟩ := List.mem_map.mp h1
      obtain ⟨r, o⟩ := p
      have h2 := (List.of_mem_zip hp).1
      exact rso r (List.mem_filter.mp h2).1
    have k := fun H' v g h => k H' v g ⟨es, S, .inr ⟨e, l, os, he, hgo, hm, hpa, hos, h⟩⟩
    generalize notZ (lateL e.t (onR l rs) os) = ls at sok hrows k
    have ly := Paired.len hrows
    refine ⟨_, rfl, _, rfl, iteF ⟨_, rfl, Nat.zero_le _, fun Z nZ => ?_⟩⟩
    have gz := Grew.new g1.tab (o := .lst []) nZ
    have hLz := gz.lst g1.tab hL
    have hrz : Paired (RowO (L2.upd H1 Z (.lst []))) ls ys := Paired.map' hrows fun _ _ ⟨t, a, b⟩ => ⟨t, a, gz.tup g1.tab b⟩
    refine ⟨.list (ls.map rowOD), .list ([].map rowOD), .lst (SqL.of hLz) (dp_rowsO hrz), .lst (SqL.of upd_same) .nil, shaped_rowsN sok, shaped_rowsN (fun k hk => absurd hk (by simp)), _, rfl, ?_⟩
    have g2 := g1.trans gz
    generalize L2.upd H1 Z (.lst []) = H2 at g2 hLz hrz
    cases hrz with
    | nil => exact if_t (by simp [PyData.eqv, PyData.eqvAll]) (k H2 .non g2 rfl)
    | cons h1 h2 =>
      rename_i e0 y0 ls ys
      refine if_f (by simp [PyData.eqv, PyData.eqvAll]) ?_
      refine ⟨_, rfl, L, _, 0, y0, rfl, rfl, SqL.of hLz, atI_nat (xs := y0 :: ys) (j := 0) (v := y0) rfl, ?_⟩
      -- the loop
      refine ⟨fun σ H' => ∃ (v6 v7 : Option V), σ = [some (.ref x), some (.str kind), some (.str start), some (.str goal), some (.int moment), some (.ref L), v6, v7] ∧ ∃ t, v6 = some (.ref t) ∧ H' = H2 ∧ RowO H2 (ls.foldl worstS e0) (.ref t), ?_, ?_⟩
      · have tot := Paired.cons h1 h2
        refine ⟨_, rfl, L, rfl, ⟨_, SqL.of hLz⟩, for_list (K := K) (a := L) (xs := y0 :: ys) (fun i σ H' => ∃ (t : Addr) (v7 : Option V), σ = [some (.ref x), some (.str kind), some (.str start), some (.str goal), some (.int moment), some (.ref L), some (.ref t), v7] ∧ H' = H2 ∧ RowO H2 (((e0 :: ls).take i).foldl worstS e0) (.ref t))
          ?_ (fun i σ H' _ ⟨t, v7, _, h, _⟩ => by rw [h]; exact SqL.of hLz) ?_ ?_⟩
        · obtain ⟨t, rfl, ht⟩ := h1
          exact ⟨t, none, rfl, rfl, ⟨t, rfl, ht⟩⟩
        · rintro i v σ H' hv ⟨t, v7, rfl, rfl, t0, e0', ht⟩
          cases e0'
          obtain ⟨z, hz, u, rfl, hu⟩ := Paired.at tot hv
          have et : ((e0 :: ls).take (i + 1)).foldl worstS e0 = worstS (((e0 :: ls).take i).foldl worstS e0) z := by
            rw [List.take_succ, hz, List.foldl_append]
            rfl
          generalize ((e0 :: ls).take i).foldl worstS e0 = c at et ht
          refine ⟨_, rfl, u, _, 1, _, rfl, rfl, SqT.of hu, rfl, _, rfl, t, _, 1, _, rfl, rfl, SqT.of ht, rfl, z.2, c.2, rfl, ?_⟩
          cases hw : worseB z.2 c.2 with
          | true => exact ⟨_, rfl, if_t rfl ⟨_, rfl, u, _, rfl, rfl, ⟨u, rfl, by rw [et]; unfold worstS; rw [hw]; exact hu⟩⟩⟩
          | false => exact ⟨_, rfl, if_f rfl ⟨t, _, rfl, rfl, ⟨t, rfl, by rw [et]; unfold worstS; rw [hw]; exact ht⟩⟩⟩
        · rintro σ H' ⟨t, v7, rfl, rfl, h⟩
          have e9 : (e0 :: ls).take (y0 :: ys).length = e0 :: ls := by rw [← ly]; exact List.take_length
          rw [e9] at h
          have e8 : (e0 :: ls).foldl worstS e0 = ls.foldl worstS e0 := by show ls.foldl worstS (worstS e0 e0) = _; rw [worstS_self]
          rw [e8] at h
          exact ⟨_, _, rfl, t, rfl, rfl, h⟩
      rintro σ H3 ⟨v6, v7, rfl, t, rfl, rfl, h⟩
      exact ⟨_, rfl, k H3 (.ref t) g2 h⟩
end
end W

set_option Elab.async false
set_option linter.all false
set_option maxRecDepth 100000
set_option maxHeartbeats 4000000
namespace W
open PySem PySem.Spec PyProof.Rows L2 GxR MyG MyS MyR
/-! ### the law -/
theorem iteC2 {p : Prop} [Decidable p] {A B : Prop} (h1 : p → A) (h2 : ¬ p → B) : if decide p = true then A else B := by
  by_cases c : p
  · rw [if_pos (decide_eq_true c)]; exact h1 c
  · rw [if_neg (by rw [decide_eq_true_iff]; exact c)]; exact h2 c
theorem expL_snoc (a : Int) : ∀ {L : List RoadD} {os : List (Option Int)}, L.length = os.length → ∀ (r : RoadD) (o : Option Int), expL a (L ++ [r]) (os ++ [o]) = expL a L os ++ expO a r.name o
  | [], [], _, r, o => by show expO a r.name o ++ [] = [] ++ expO a r.name o; rw [List.append_nil]; rfl
  | [], _ :: _, h, _, _ => by cases h
  | _ :: _, [], h, _, _ => by cases h
  | x :: L, y :: os, h, r, o => by
    show expO a x.name y ++ expL a (L ++ [r]) (os ++ [o]) = (expO a x.name y ++ expL a L os) ++ expO a r.name o
    rw [expL_snoc a (Nat.succ.inj h) r o, List.append_assoc]
theorem expL_len (a : Int) : ∀ (L : List RoadD) (os : List (Option Int)), (expL a L os).length ≤ L.length
  | [], _ => Nat.zero_le _
  | _ :: _, [] => Nat.zero_le _
  | x :: L, y :: os => by
    have h := expL_len a L os
    have h2 : (expO a x.name y).length ≤ 1 := by
      cases y with
      | none => exact Nat.le_refl _
      | some t =>
        by_cases c : t > a
        · have e : expO a x.name (some t) = [(x.name, some (t - a))] := if_pos c
          rw [e]
          exact Nat.le_refl _
        · have e : expO a x.name (some t) = [] := if_neg c
          rw [e]
          exact Nat.zero_le _
    show (expO a x.name y ++ expL a L os).length ≤ _
    rw [List.length_append, List.length_cons]
    omega
theorem expL_small {d : Int} {kind : Str} {ks ps : List Str} {bs : List (Str × Str)} {rs : List RoadD} {start goal : Str} {moment a : Int} (hok : PartsOk d ks ps rs bs) (hmo : 0 ≤ moment) (hmo2 : moment ≤ 99999) (ha : 0 ≤ a) :
    ∀ {L : List RoadD} {os2 : List (Option Int)}, (∀ r ∈ L, r ∈ rs) → Paired (LateZ d kind bs rs start goal moment) L os2 → ∀ e ∈ expL a L os2, SmallO e
  | [], _, _, .nil, e, he => by cases he
  | r :: L, _, hin, .cons (b := o) (l₂ := os2) h hs, e, he => by
    rcases List.mem_append.mp (show e ∈ expO a r.name o ++ _ from he) with m | m
    · have hr := hin r List.mem_cons_self
      have nm : isNm r.name = true := List.all_eq_true.mp hok.r.nm r.name (List.mem_map.mpr ⟨r, hr, rfl⟩)
      cases o with
      | none =>
        rw [List.mem_singleton.mp m]
        exact ⟨isNm_ok nm, isNm_len nm, fun i hi => by cases hi⟩
      | some t =>
        by_cases c : t > a
        · have e1 : expO a r.name (some t) = [(r.name, some (t - a))] := if_pos c
          rw [e1] at m
          rw [List.mem_singleton.mp m]
          refine ⟨isNm_ok nm, isNm_len nm, fun i hi => ?_⟩
          cases hi
          obtain ⟨T2, S2, E2⟩ := h
          have hob := hok.but r.name
          have mO : ∀ {x : RoadD}, x ∈ (butR r.name rs).filter (everB kind) → x ∈ butR r.name rs := fun h => (List.mem_filter.mp h).1
          have bd : t ≤ 1000000 := by
            rcases E2 with ⟨_, q⟩ | ⟨_, ⟨q, _⟩ | ⟨t', q, ⟨r2, hr2, _, ht2⟩, _⟩⟩
            · cases q; omega
            · cases q
            · cases q
              have q2 := S2.bound hok.d1 hok.d2 (fun x hx => (hob.r.ok x (mO hx)).h) (fun x hx => (hob.r.ok x (mO hx)).m2) _ _ ht2
              have l1 : ((butR r.name rs).filter (everB kind)).length ≤ 60 := Nat.le_trans (List.length_filter_le _ _) hob.r.len
              omega
          exact ⟨by omega, by omega⟩
        · have e1 : expO a r.name (some t) = [] := if_neg c
          rw [e1] at m
          cases m
    · exact expL_small hok hmo hmo2 ha (fun x hx => hin x (List.mem_cons_of_mem _ hx)) hs e m
def spLaw (K : PySem.W.Frag) (P : Addr) : Sp := fun vs H Q _ => ∃ (a : Addr) (ns : List Int), vs = [.ref a] ∧ SqL K H a (ns.map V.int) ∧ ns.length ≤ 63 ∧ TabG H P ∧ ∀ H', Q (.bl true) H'
section
variable {Pg : Program} {w : World} {K : PySem.W.Frag} {mg : Str → Option Value} {base : Heap} {C P : Addr}
abbrev nLaw : List Str := ["script", "numbers", "parts", "kind", "start", "goal", "moment", "first", "expected", "road", "later"]
theorem scLaw : FnScope nLaw ["script"] (defScope sLaw) := ⟨rfl, rfl, rfl, by decide +kernel, rfl, by decide +kernel, by decide +kernel⟩
theorem room12 {q : Str} {sc : Scope} {n : Nat} {f : Addr} {cd : Value} : Room 12 (callerA.deeper (envOfC q sc n f cd)) := ⟨rfl, by show 1 + claimMargin + 1 + 3 * 12 + 5 < _; decide, by show 4 + 3 + 16 * 12 + 200 < _; decide⟩
theorem ok_law {M f fN fM fC fT fE fW fD : Addr} {fdN fdM fdC fdT fdE fdW fdD : FuncData} {dV kV doc pm cdv ct oc : Value} {an od : Option Addr} {osl : Array (Option Value)}
    (lk : K.lookup f = some ⟨oc, od, .func (PySem.W.fnOf "law" "law" (defArgs sLaw) (defBody sLaw) (defScope sLaw) dV kV doc pm an cdv ct), osl⟩) (hcd : PySem.W.codeIn K cdv "law" = true)
    (hb : ∀ (s : Shared) (u : Value), BindsTo s (PySem.W.fnOf "law" "law" (defArgs sLaw) (defBody sLaw) (defScope sLaw) dV kV doc pm an cdv ct) ⟨[u], []⟩ [("script", u)])
    (hrp : mg "repr" = none)
    (GN : FnOk Pg w K mg base CX0 2 fN fdN ["script", "many"] (spNumbers K P)) (gN : mg "_law_numbers" = some (.ref fN)) (kN : PySem.W.keepIn K (.ref fN) = true) (bN : Binds K fdN ["script", "many"] [])
    (GM : FnOk Pg w K mg base CX0 3 fM fdM ["numbers", "at"] (spLPartsG K P)) (gM : mg "_law_parts" = some (.ref fM)) (kM : PySem.W.keepIn K (.ref fM) = true) (bM : Binds K fdM ["numbers", "at"] [])
    (GC : FnOk Pg w K mg base CX0 7 fC fdC ["parts"] (spLMade K M P)) (gC : mg "_law_made" = some (.ref fC)) (kC : PySem.W.keepIn K (.ref fC) = true) (bC : Binds K fdC ["parts"] [])
    (GT : FnOk Pg w K mg base CX0 1 fT fdT ["numbers", "at", "parts"] (spLTripG K P)) (gT : mg "_law_trip" = some (.ref fT)) (kT : PySem.W.keepIn K (.ref fT) = true) (bT : Binds K fdT ["numbers", "at", "parts"] [])
    (GE : FnOk Pg w K mg base CX0 4 fE fdE ["parts", "kind", "start", "goal", "moment"] (spLEarlG K P)) (gE : mg "_law_earliest" = some (.ref fE)) (kE : PySem.W.keepIn K (.ref fE) = true) (bE : Binds K fdE ["parts", "kind", "start", "goal", "moment"] [])
    (GW : FnOk Pg w K mg base CX0 1 fW fdW ["parts", "names"] (spLWithout K P)) (gW : mg "_law_without" = some (.ref fW)) (kW : PySem.W.keepIn K (.ref fW) = true) (bW : Binds K fdW ["parts", "names"] [])
    (GD : FnOk Pg w K mg base (L2.CX Pg w) 12 fD fdD ["chart", "kind", "start", "goal", "moment"] (spWorst K M P)) (gD : mg "worst_delay" = some (.ref fD)) (kD : PySem.W.keepIn K (.ref fD) = true) (bD : Binds K fdD ["chart", "kind", "start", "goal", "moment"] []) :
    RunG Pg w K mg base (L2.CX Pg w) f (spLaw K P) := by
  refine runG_of lk hcd scLaw hb ⟨rfl, by decide, by decide⟩ fun s H a0 Q E h => ?_
  obtain ⟨a, zs, ea, hS, hz, hP, k⟩ := h
  cases ea
  have hr : Room 12 (callerA.deeper (envOfC "law" (defScope sLaw) s.heap.objs.size f cdv)) := room12
  have hr1 : Room 1 _ := hr.mono (by decide)
  have hr2 : Room 2 _ := hr.mono (by decide)
  have hr3 : Room 3 _ := hr.mono (by decide)
  have hr4 : Room 4 _ := hr.mono (by decide)
  have hr7 : Room 7 _ := hr.mono (by decide)
  refine ⟨_, pss_cons (ps_set (i := 1) scLaw.nd rfl (Or.inl rfl) (pe_call GN hr2 (by rfl) gN kN bN .nil pass0 (pa_cons (pv 0) (pa_cons pe_int pa_nil))))
      (pss_cons (ps_set (i := 2) scLaw.nd rfl (Or.inl rfl) (pe_call GM hr3 (by rfl) gM kM bM .nil pass0 (pa_cons (pv 1) (pa_cons pe_int pa_nil))))
      (C8.pss_cut (ps_asg (pe_call GT hr1 (by rfl) gT kT bT .nil pass0 (pa_cons (pv 1) (pa_cons pe_int (pa_cons (pv 2) pa_nil)))) (pg_tup (by rfl) (pgs_cons (pg_name (i := 3) scLaw.nd rfl (Or.inl rfl)) (pgs_cons (pg_name (i := 4) scLaw.nd rfl (Or.inl rfl)) (pgs_cons (pg_name (i := 5) scLaw.nd rfl (Or.inl rfl)) (pgs_cons (pg_name (i := 6) scLaw.nd rfl (Or.inl rfl)) pgs_nil))))))
      (C8.pss_cut (ps_set (i := 7) scLaw.nd rfl (Or.inl rfl) (pe_call GE hr4 (by rfl) gE kE bE .nil pass0 (pa_cons (pv 2) (pa_cons (pv 3) (pa_cons (pv 4) (pa_cons (pv 5) (pa_cons (pv 6) pa_nil)))))))
      (pss_cons (ps_set (i := 8) scLaw.nd rfl (Or.inl rfl) pe_non)
      (C8.pss_cut (ps_if (pt_cmp (pc_notN (pv 7))) (pss_one (ps_for (passes_of rfl) rfl (pi_tup (pe_ix (r := rIxL K) ix_list (pv 2) pe_int (fun _ _ => rfl))) (pg_name (i := 9) scLaw.nd rfl (Or.inl rfl))
      (C8.pss_cut (ps_set (i := 10) scLaw.nd rfl (Or.inl rfl) (pe_call GE hr4 (by rfl) gE kE bE .nil pass0 (pa_cons (pe_call GW hr1 (by rfl) gW kW bW .nil pass0 (pa_cons (pv 2) (pa_cons (pe_lst (pa_cons (pe_ix (r := rIxT K) ix_tup (pv 9) pe_int (fun _ _ => rfl)) pa_nil)) pa_nil))) (pa_cons (pv 3) (pa_cons (pv 4) (pa_cons (pv 5) (pa_cons (pv 6) pa_nil)))))))
      (pss_one (ps_if (PW.pt (pw_and (pt_cmp (pc_isN (pv 10))) (pw_and1 (PW.pt (pw_or (pt_cmp (pc_isN (pv 8))) (pw_or1 (pt_cmp (pc_notN (pe_ix (r := rIxT K) ix_tup (pv 8) pe_int (fun _ _ => rfl)))))))))) (pss_one (ps_set (i := 8) scLaw.nd rfl (Or.inl rfl) (pe_tup (pa_cons (pe_ix (r := rIxT K) ix_tup (pv 9) pe_int (fun _ _ => rfl)) (pa_cons pe_non pa_nil))))) (pss_one (ps_if (PW.pt (pw_and (pt_cmp (pc_notN (pv 10))) (pw_and1 (pt_cmpR op_gt (pv 10) (pv 7) (nomark _))))) (pss_one (ps_if (PW.pt (pw_or (pt_cmp (pc_isN (pv 8))) (pw_or1 (PW.pt (pw_and (pt_cmp (pc_notN (pe_ix (r := rIxT K) ix_tup (pv 8) pe_int (fun _ _ => rfl)))) (pw_and1 (pt_cmpR op_lt (pe_ix (r := rIxT K) ix_tup (pv 8) pe_int (fun _ _ => rfl)) (pe_op op_sub (pv 10) (pv 7)) (nomark _)))))))) (pss_one (ps_set (i := 8) scLaw.nd rfl (Or.inl rfl) (pe_tup (pa_cons (pe_ix (r := rIxT K) ix_tup (pv 9) pe_int (fun _ _ => rfl)) (pa_cons (pe_op op_sub (pv 10) (pv 7)) pa_nil))))) pss_nil)) pss_nil))))))) pss_nil)
      (pss_one (ps_ret (pe_cmpR op_eq (pe_callB (call_repN rfl hr.units) (by rfl) hrp (by decide +kernel) (pa_cons (pe_call (E := E0) GD hr (by rfl) gD kD bD .nil (passF rfl rfl) (pa_cons (pe_call GC hr7 (by rfl) gC kC bC .nil pass0 (pa_cons (pv 2) pa_nil)) (pa_cons (pv 3) (pa_cons (pv 4) (pa_cons (pv 5) (pa_cons (pv 6) pa_nil)))))) pa_nil)) (pe_callB (call_repN rfl hr.units) (by rfl) hrp (by decide +kernel) (pa_cons (pv 8) pa_nil)) (nomark _))))))))), ?_⟩
  refine ⟨_, rfl, a0, zs, 112, rfl, hS, hz, by decide, hP, fun H1 p ns g1 np hp hlen hsm => ?_⟩
  refine ⟨_, rfl, p, ns, 0, rfl, SqL.of hp, hsm, by decide, by omega, g1.tab, fun H2 q d ks ps rs bs g2 nq hq hok sks sps ar1 ab1 p2 r1 r8 => ?_⟩
  have g12 := g1.trans g2
  have hp2 := g2.lst g1.tab hp
  have okB := okB_of hok
  have ndr := hok.r.nd
  have nm1 : ∀ r ∈ rs, isNm r.name = true := fun r h => List.all_eq_true.mp hok.r.nm r.name (List.mem_map.mpr ⟨r, h, rfl⟩)
  have nmk : ∀ r ∈ rs, PyData.strOk r.name = true := fun r h => isNm_ok (nm1 r h)
  have hoR : ∀ r ∈ rs, HoursOk d r.hours := fun r h => (hok.r.ok r h).h
  have m1R : ∀ r ∈ rs, 1 ≤ r.minutes := fun r h => (hok.r.ok r h).m1
  have m2R : ∀ r ∈ rs, r.minutes ≤ 1000 := fun r h => (hok.r.ok r h).m2
  -- trip
  refine ⟨fun σ H' => ∃ (kind start goal : Str) (moment : Int), σ = [some (.ref a0), some (.ref p), some (.ref q), some (.str kind), some (.str start), some (.str goal), some (.int moment), none, none, none, none] ∧ Grew P H2 H' ∧ kind ∈ ks ∧ start ∈ ps ∧ goal ∈ ps ∧ 0 ≤ moment ∧ moment ≤ 99999, ?_, ?_⟩
  · refine ⟨_, rfl, _, rfl, q, p, 100, d, ps, ks, rs, bs, ns, rfl, hq, hok.k1, by omega, SqL.of hp2, hsm, by decide, by omega, g12.tab, fun H3 tp kind start goal t g3 hk hs hg ht0 ht1 htp => ?_⟩
    exact ⟨tp, _, rfl, SqT.of htp, rfl, _, _, rfl, _, _, rfl, _, _, rfl, _, _, rfl, rfl, kind, start, goal, t, rfl, g3, hk, hs, hg, ht0, ht1⟩
  rintro σ H3 ⟨kind, start, goal, moment, rfl, g3, hkin, hsin, hgin, hmo, hmo2⟩
  have g13 := g12.trans g3
  have hq3 := hq.grew g3 g12.tab
  -- the arrivals
  have mO : ∀ {l : List RoadD} {r : RoadD}, r ∈ l.filter (everB kind) → r ∈ l := fun h => (List.mem_filter.mp h).1
  obtain ⟨T, hT⟩ := lsol_ex (kind := kind) (bs := bs) (start := start) (moment := moment) hok.d1 (ndr.sublist (List.Sublist.map (fun r : RoadD => r.name) List.filter_sublist)) (fun r (h : r ∈ rs.filter (everB kind)) => hoR r (mO h)) (fun r h => m1R r (mO h))
  refine ⟨fun σ H' => ∃ (first : Option Int), σ = [some (.ref a0), some (.ref p), some (.ref q), some (.str kind), some (.str start), some (.str goal), some (.int moment), some (optV first), none, none, none] ∧ Grew P H3 H' ∧ EarlZ (rs.filter (everB kind)) T start goal moment first, ?_, ?_⟩
  · exact ⟨_, rfl, _, rfl, _, rfl, _, rfl, _, rfl, q, kind, start, goal, moment, d, ps, ks, rs, bs, T, rfl, hq3, okB, hok.d1, hok.d2, ndr, hok.r.len, nmk, hoR, hmo, hT, g13.tab, fun H' o g hE => ⟨o, rfl, g, hE⟩⟩
  rintro σ H4 ⟨first, rfl, g4, hE⟩
  have g14 := g13.trans g4
  have hq4 := hq3.grew g4 g13.tab
  -- expected
  refine ⟨fun σ H' => ∃ (ev : V) (v9 v10 : Option V), σ = [some (.ref a0), some (.ref p), some (.ref q), some (.str kind), some (.str start), some (.str goal), some (.int moment), some (optV first), some ev, v9, v10] ∧ Grew P H4 H' ∧ ((first = none ∧ ev = .non) ∨ ∃ a os2, first = some a ∧ Paired (LateZ d kind bs rs start goal moment) rs os2 ∧ RowOE H' (worstO (expL a rs os2)) ev), ?_, ?_⟩
  · have hq4' := hq4
    obtain ⟨ki, pl, ro, ba, xs, zs2, eq, eki, epl, ero, hrs, eba, hbs⟩ := hq4'
    cases first with
    | none => exact ⟨_, rfl, _, rfl, iteF ⟨.non, none, none, rfl, Grew.refl g14.tab, .inl ⟨rfl, rfl⟩⟩⟩
    | some a =>
      refine ⟨_, rfl, _, rfl, iteT ?_⟩
      have lx := Paired.len hrs
      refine ⟨_, rfl, q, _, 3, .ref ro, rfl, rfl, SqL.of eq, rfl, ro, rfl, ⟨_, SqT.of ero⟩, for_tup (K := K) (a := ro) (xs := xs) (fun i σ H' => ∃ (ev : V) (v9 v10 : Option V) (os2 : List (Option Int)), σ = [some (.ref a0), some (.ref p), some (.ref q), some (.str kind), some (.str start), some (.str goal), some (.int moment), some (.int a), some ev, v9, v10] ∧ Grew P H4 H' ∧ Paired (LateZ d kind bs rs start goal moment) (rs.take i) os2 ∧ RowOE H' (worstO (expL a (rs.take i) os2)) ev)
        ⟨.non, none, none, [], rfl, Grew.refl g14.tab, .nil, rfl⟩ (fun i σ H' _ ⟨_, _, _, _, _, g, _⟩ => SqT.of (g.tup g14.tab ero)) ?_ ?_⟩
      · rintro i v σ H6 hv ⟨ev, v9, v10, os2, rfl, g6, hos, hev⟩
        obtain ⟨r, hr0, hroad⟩ := Paired.at hrs hv
        have hrm := List.mem_of_getElem? hr0
        have hil := (List.getElem?_eq_some_iff.mp hr0).1
        have hroad6 := hroad.grew g6 g14.tab
        have hq6 := hq4.grew g6 g14.tab
        obtain ⟨t, u, hh, rfl, e1, e2, e3⟩ := hroad6
        have g16 := g14.trans g6
        -- later
        refine ⟨fun σ H' => ∃ (o : Option Int), σ = [some (.ref a0), some (.ref p), some (.ref q), some (.str kind), some (.str start), some (.str goal), some (.int moment), some (.int a), some ev, some (.ref t), some (optV o)] ∧ Grew P H6 H' ∧ LateZ d kind bs rs start goal moment r o, ?_, ?_⟩
        · refine ⟨_, rfl, _, rfl, t, _, 0, _, rfl, rfl, SqT.of e1, rfl, by show 1 ≤ sizeLine; decide, fun Lz nLz => ?_⟩
          have gz := Grew.new g16.tab (o := .lst [.str r.name]) nLz
          have l60 := hok.r.len
          have l40 := hok.b.len
          refine ⟨q, Lz, r.name, d, ps, ks, rs, bs, rfl, upd_same, hq6.grew gz g16.tab, l60, by omega, gz.tab, fun H8 q8 g8 nq8 hq8 => ?_⟩
          have hob := hok.but r.name
          obtain ⟨T2, hT2⟩ := lsol_ex (kind := kind) (bs := butB r.name bs) (start := start) (moment := moment) hok.d1 (hob.r.nd.sublist (List.Sublist.map (fun r : RoadD => r.name) List.filter_sublist)) (fun x (h : x ∈ (butR r.name rs).filter (everB kind)) => (hob.r.ok x (mO h)).h) (fun x h => (hob.r.ok x (mO h)).m1)
          have g68 := gz.trans g8
          exact ⟨_, rfl, _, rfl, _, rfl, _, rfl, q8, kind, start, goal, moment, d, ps, ks, butR r.name rs, butB r.name bs, T2, rfl, hq8, okB_of hob, hok.d1, hok.d2, hob.r.nd, hob.r.len, fun x hx => nmk x (mem_butR.mp hx).1, fun x hx => hoR x (mem_butR.mp hx).1, hmo, hT2, g8.tab, fun H9 o g9 hE9 => ⟨o, rfl, g68.trans g9, T2, hT2, hE9⟩⟩
        rintro σ H7 ⟨o, rfl, g7, hlate⟩
        have g17 := g6.trans g7
        have e17 := g7.tup g6.tab e1
        have et : rs.take (i + 1) = rs.take i ++ [r] := by rw [List.take_succ, hr0]; rfl
        have lo := Paired.len hos
        have ex := expL_snoc a lo r o
        have hos2 : Paired (LateZ d kind bs rs start goal moment) (rs.take (i + 1)) (os2 ++ [o]) := by rw [et]; exact Paired.snoc hos hlate
        rw [← et] at ex
        have keepE : ∀ {H' : Hp} {c : Option (Str × Option Int)} {ev : V}, Grew P H6 H' → RowOE H6 c ev → RowOE H' c ev := fun {H' c ev} g h => by
          cases c with
          | none => exact h
          | some c => obtain ⟨t, a, b⟩ := h; exact ⟨t, a, g.tup g6.tab b⟩
        have stay : worstO (expL a (rs.take (i + 1)) (os2 ++ [o])) = worstO (expL a (rs.take i) os2) → ∃ (ev2 : V) (v9 v10 : Option V) (os2 : List (Option Int)), ([some (.ref a0), some (.ref p), some (.ref q), some (.str kind), some (.str start), some (.str goal), some (.int moment), some (.int a), some ev, some (.ref t), some (optV o)] : L2.St) = [some (.ref a0), some (.ref p), some (.ref q), some (.str kind), some (.str start), some (.str goal), some (.int moment), some (.int a), some ev2, v9, v10] ∧ Grew P H4 H7 ∧ Paired (LateZ d kind bs rs start goal moment) (rs.take (i + 1)) os2 ∧ RowOE H7 (worstO (expL a (rs.take (i + 1)) os2)) ev2 := fun e =>
          ⟨ev, _, _, _, rfl, g17, hos2, by rw [e]; exact keepE g7 hev⟩
        have fin : ∀ (w : Option Int) (tp : Addr), expO a r.name o = [(r.name, w)] → (∀ c, worstO (expL a (rs.take i) os2) = some c → worseB w c.2 = true) → H7 tp = none → ∃ (ev2 : V) (v9 v10 : Option V) (os2 : List (Option Int)), ([some (.ref a0), some (.ref p), some (.ref q), some (.str kind), some (.str start), some (.str goal), some (.int moment), some (.int a), some (.ref tp), some (.ref t), some (optV o)] : L2.St) = [some (.ref a0), some (.ref p), some (.ref q), some (.str kind), some (.str start), some (.str goal), some (.int moment), some (.int a), some ev2, v9, v10] ∧ Grew P H4 (L2.upd H7 tp (.tup [.str r.name, optV w])) ∧ Paired (LateZ d kind bs rs start goal moment) (rs.take (i + 1)) os2 ∧ RowOE (L2.upd H7 tp (.tup [.str r.name, optV w])) (worstO (expL a (rs.take (i + 1)) os2)) ev2 := fun w tp ew hw ntp => by
          refine ⟨.ref tp, _, _, _, rfl, g17.trans (Grew.new g17.tab ntp), hos2, ?_⟩
          rw [ex, ew, worstO_snoc]
          cases hc : worstO (expL a (rs.take i) os2) with
          | none => exact ⟨tp, rfl, upd_same⟩
          | some c =>
            refine ⟨tp, rfl, ?_⟩
            have ews : worstS c (r.name, w) = (r.name, w) := if_pos (hw c hc)
            show _ = some (HO.tup [.str (worstS c (r.name, w)).1, optV (worstS c (r.name, w)).2])
            rw [ews]
            exact upd_same
        have skip : ∀ (w : Option Int), expO a r.name o = [(r.name, w)] → (∃ c, worstO (expL a (rs.take i) os2) = some c ∧ worseB w c.2 = false) → worstO (expL a (rs.take (i + 1)) (os2 ++ [o])) = worstO (expL a (rs.take i) os2) := fun w ew ⟨c, hc, hw⟩ => by
          rw [ex, ew, worstO_snoc, hc]
          show some (worstS c (r.name, w)) = some c
          unfold worstS
          rw [if_neg (by rw [hw]; decide)]
        have hev7 := keepE g7 hev
        cases o with
        | none =>
          refine ⟨_, rfl, _, rfl, iteT ?_⟩
          cases hc : worstO (expL a (rs.take i) os2) with
          | none =>
            rw [hc] at hev7
            obtain rfl : ev = .non := hev7
            refine ⟨_, rfl, _, rfl, iteT ?_⟩
            exact ⟨_, rfl, t, _, 0, _, rfl, rfl, SqT.of e17, rfl, by show 2 ≤ sizeLine; decide, fun tp ntp => fin none tp rfl (fun c h => by rw [hc] at h; cases h) ntp⟩
          | some c =>
            rw [hc] at hev7
            obtain ⟨te, rfl, hte⟩ := hev7
            refine ⟨_, rfl, _, rfl, iteF ?_⟩
            obtain ⟨cn, c2⟩ := c
            refine ⟨_, rfl, te, _, 1, _, rfl, rfl, SqT.of hte, rfl, ?_⟩
            cases c2 with
            | some x =>
              refine ⟨_, rfl, iteT ?_⟩
              exact ⟨_, rfl, t, _, 0, _, rfl, rfl, SqT.of e17, rfl, by show 2 ≤ sizeLine; decide, fun tp ntp => fin none tp rfl (fun c h => by rw [hc] at h; cases h; rfl) ntp⟩
            | none =>
              refine ⟨_, rfl, iteF ?_⟩
              exact ⟨_, rfl, _, rfl, iteF (stay (skip none rfl ⟨_, hc, rfl⟩))⟩
        | some b =>
          refine ⟨_, rfl, _, rfl, iteF ?_⟩
          refine ⟨_, rfl, _, rfl, iteT ?_⟩
          refine ⟨_, rfl, _, rfl, _, _, rfl, rfl, _, rfl, ?_⟩
          refine iteC2 (fun c => ?_) (fun c => ?_)
          · have ew : expO a r.name (some b) = [(r.name, some (b - a))] := if_pos c
            cases hc : worstO (expL a (rs.take i) os2) with
            | none =>
              rw [hc] at hev7
              obtain rfl : ev = .non := hev7
              refine ⟨_, rfl, _, rfl, iteT ?_⟩
              exact ⟨_, rfl, t, _, 0, _, rfl, rfl, SqT.of e17, rfl, _, rfl, _, rfl, _, _, rfl, rfl, by show 2 ≤ sizeLine; decide, fun tp ntp => fin (some (b - a)) tp ew (fun c h => by rw [hc] at h; cases h) ntp⟩
            | some c0 =>
              rw [hc] at hev7
              obtain ⟨te, rfl, hte⟩ := hev7
              obtain ⟨cn, c2⟩ := c0
              refine ⟨_, rfl, _, rfl, iteF ?_⟩
              refine ⟨_, rfl, te, _, 1, _, rfl, rfl, SqT.of hte, rfl, ?_⟩
              cases c2 with
              | none =>
                refine ⟨_, rfl, iteF (stay (skip _ ew ⟨_, hc, rfl⟩))⟩
              | some x =>
                refine ⟨_, rfl, iteT ?_⟩
                refine ⟨_, rfl, te, _, 1, _, rfl, rfl, SqT.of hte, rfl, _, rfl, _, rfl, _, _, rfl, rfl, _, _, rfl, rfl, _, rfl, ?_⟩
                refine iteC2 (fun cx => ?_) (fun cx => ?_)
                · exact ⟨_, rfl, t, _, 0, _, rfl, rfl, SqT.of e17, rfl, _, rfl, _, rfl, _, _, rfl, rfl, by show 2 ≤ sizeLine; decide, fun tp ntp => fin (some (b - a)) tp ew (fun c h => by rw [hc] at h; cases h; exact decide_eq_true cx) ntp⟩
                · exact stay (skip _ ew ⟨_, hc, decide_eq_false cx⟩)
          · refine stay ?_
            have ew : expO a r.name (some b) = [] := if_neg c
            rw [ex, ew, List.append_nil]
      · rintro σ H' ⟨ev, v9, v10, os2, rfl, g6, hos, hev⟩
        rw [← lx, List.take_length] at hos hev
        exact ⟨ev, v9, v10, rfl, g6, .inr ⟨a, os2, rfl, hos, hev⟩⟩
  rintro σ H5 ⟨ev, v9, v10, rfl, g5, hexp⟩
  have g15 := g14.trans g5
  -- the end
  refine ⟨_, rfl, q, d, ps, ks, rs, bs, rfl, hq4.grew g5 g14.tab, hok, g15.tab, fun H6 x ks' ps' rs' bs' g6 nx pk ak pp ap kr ar2 pb ab hM => ?_⟩
  have g16 := g15.trans g6
  have hok' := hok.kept pk pp kr pb
  obtain ⟨min6, rin, rmin, pl', rso⟩ := ask_of hok pk pp kr hM g16.tab
  have hb : ∀ b, b ∈ bs' ↔ b ∈ bs := fun b => pb.mem_iff
  refine ⟨_, rfl, _, rfl, _, rfl, _, rfl, x, kind, start, goal, moment, d, ks', ps', rs', bs', rfl, min6, rin, rmin, pl', rso, hok', pk.mem_iff.mpr hkin, pp.mem_iff.mpr hsin, pp.mem_iff.mpr hgin, hmo, fun H7 v g7 hw => ?_⟩
  obtain ⟨es, S, hw⟩ := hw
  have tell : (v = .non ∧ ev = .non) ∨ ∃ t te c, v = .ref t ∧ ev = .ref te ∧ SmallO c ∧ H7 t = some (.tup [.str c.1, optV c.2]) ∧ H7 te = some (.tup [.str c.1, optV c.2]) := by
    rcases hw with ⟨hv, hno⟩ | ⟨e, l, os, he, hg, hm, hpa, hos, hrow⟩
    · have ef := earl_goal (sg_of hok kr) hok.d1 ndr hoR kr hb hT hE ⟨es, S, .inl ⟨rfl, hno⟩⟩
      rcases hexp with ⟨_, he⟩ | ⟨a2, os2, hf2, _⟩
      · exact .inl ⟨hv, he⟩
      · rw [ef] at hf2; cases hf2
    · have ef := earl_goal (sg_of hok kr) hok.d1 ndr hoR kr hb hT hE ⟨es, S, .inr ⟨e, he, hg, hm, rfl⟩⟩
      rcases hexp with ⟨hf2, _⟩ | ⟨a2, os2, hf2, hlate, hrow2⟩
      · rw [ef] at hf2; cases hf2
      · rw [ef] at hf2
        cases hf2
        have q := exp_same hok kr pb ar1 ar2 S he hg hm hpa hos hlate
        rw [← q] at hrow
        have ha : 0 ≤ e.t := by have := S.ge e he; omega
        have sm := expL_small hok hmo hmo2 ha (fun r h => h) hlate
        cases hc : worstO (expL e.t rs os2) with
        | none =>
          rw [hc] at hrow hrow2
          exact .inl ⟨hrow, hrow2⟩
        | some c =>
          rw [hc] at hrow hrow2
          obtain ⟨t, rfl, ht⟩ := hrow
          obtain ⟨te, rfl, hte⟩ := hrow2
          exact .inr ⟨t, te, c, rfl, rfl, sm c (worstO_mem hc), ht, (g6.trans g7).tup g15.tab hte⟩
  rcases tell with ⟨rfl, rfl⟩ | ⟨t, te, c, rfl, rfl, sm, ht, hte⟩
  · refine .inl ⟨rfl, _, rfl, .inl ⟨rfl, rfl, ?_⟩⟩
    rw [decide_eq_true rfl]
    exact k _
  · obtain ⟨i1, i2, i3, i4, i5⟩ := rowO_all sm
    have rp : RepOk (rowOD c) := rep_of i1 i2 i3 (by omega) (by rw [show (2 : Nat) ^ 20 = 1048576 by decide]; omega)
    refine .inr ⟨t, _, rfl, .tup (SqT.of ht) (.cons (.str _) (.cons (dp_opt _) .nil)), rp.s, rp.h, rp.p, rp.z, _, rfl, .inr ⟨te, _, rfl, .tup (SqT.of hte) (.cons (.str _) (.cons (dp_opt _) .nil)), rp.s, rp.h, rp.p, rp.z, rfl, ?_⟩⟩
    rw [decide_eq_true rfl]
    exact k _
end
end W

set_option Elab.async false
set_option linter.all false
set_option maxRecDepth 100000
set_option maxHeartbeats 4000000
namespace W
open PySem PySem.Spec PyProof.Rows L2 GxR MyG MyS MyR
theorem exm_two {K : PySem.W.Frag} {A S : Addr} {b : Bool} (h1 : PySem.W.subIn K (.ref S) (.type "BaseException") = some true) (h2 : PySem.W.isClsIn K S = true) (h3 : PySem.W.typeIn K (.ref S) = some (.type "type")) (h4 : PySem.W.subIn K (.ref A) (.ref S) = some b) :
    PySem.W.exmOne K (.ref A) (.ref S) = some b := by
  have e1 : (PySem.W.subIn K (.ref S) (.type "BaseException") == some true) = true := by rw [h1]; rfl
  have e2 : ((PySem.W.clsIn K S).isSome && PySem.W.typeIn K (.ref S) == some (.type "type")) = true := by
    have q : (PySem.W.clsIn K S).isSome = true := h2
    rw [q, h3]; rfl
  show (if (PySem.W.subIn K (.ref S) (.type "BaseException") == some true) = true then (if ((PySem.W.clsIn K S).isSome && PySem.W.typeIn K (.ref S) == some (.type "type")) = true then PySem.W.subIn K (.ref A) (.ref S) else none) else none) = some b
  rw [if_pos e1, if_pos e2, h4]
theorem no_fly {P : Program} (w : World) (H : Hp) (s : Shared) (e : Value) (s' : Shared) (h : L2.CX P w [] H s (fun _ _ _ => False) e s') : False := by
  obtain ⟨_, _, _, _, _, _, _, _, _, _, _, _, q⟩ := h
  exact q
theorem all_mk {l : PySem.W.OpenLaw} {w : World} {K : PySem.W.Frag} {h : Heap} {mg : Str → Option Value} {fa fNm fDy fNa fDf fRs fRd fHr fBr fEn fAr fCn fEv fRb fTu fSe fPo fEo fRo fEa fDl fRw fNu fLn fLh fLr fLq fMp fMd fWt fOv fOp fFl fLl fLe fWo fLt fIe fWd fLw fRm fCk fCp fCi fRf fFo fMu fWr fWp fRn ppRn Rt fRj fI M U fXU cdaXU ccXU B P qN D0 T0 T1 T2 : Addr} (X : K.In h) (G : h.Ns mainGlobals mg) (hfa : mg "law" = some (.ref fa)) (own : ∀ y ∈ ([("is_name" : Str)] : List Str), ∀ f, mg y = some (.ref f) → LamX.OwnTab K f h)
    {odNm anNm : Option Addr} {slNm : Array (Option Value)} {ocNm kVNm dcNm pmNm ctNm : Value}
    {odDy anDy : Option Addr} {slDy : Array (Option Value)} {ocDy kVDy dcDy pmDy cdDy ctDy : Value}
    {odNa anNa : Option Addr} {slNa : Array (Option Value)} {ocNa kVNa dcNa pmNa cdNa ctNa : Value}
    {odDf anDf : Option Addr} {slDf : Array (Option Value)} {ocDf kVDf dcDf pmDf cdDf ctDf : Value}
    {odRs anRs : Option Addr} {slRs : Array (Option Value)} {ocRs kVRs dcRs pmRs cdRs ctRs : Value}
    {odRd anRd : Option Addr} {slRd : Array (Option Value)} {ocRd kVRd dcRd pmRd cdRd ctRd : Value}
    {odHr anHr : Option Addr} {slHr : Array (Option Value)} {ocHr kVHr dcHr pmHr cdHr ctHr : Value}
    {odBr anBr : Option Addr} {slBr : Array (Option Value)} {ocBr kVBr dcBr pmBr cdBr ctBr : Value}
    {odEn anEn : Option Addr} {slEn : Array (Option Value)} {ocEn kVEn dcEn pmEn cdEn ctEn : Value}
    {odAr anAr : Option Addr} {slAr : Array (Option Value)} {ocAr kVAr dcAr pmAr cdAr ctAr : Value}
    {odCn anCn : Option Addr} {slCn : Array (Option Value)} {ocCn kVCn dcCn pmCn cdCn ctCn : Value}
    {odEv anEv : Option Addr} {slEv : Array (Option Value)} {ocEv kVEv dcEv pmEv cdEv ctEv : Value}
    {odRb anRb : Option Addr} {slRb : Array (Option Value)} {ocRb kVRb dcRb pmRb cdRb ctRb : Value}
    {odTu anTu : Option Addr} {slTu : Array (Option Value)} {ocTu kVTu dcTu pmTu cdTu ctTu : Value}
    {odSe anSe : Option Addr} {slSe : Array (Option Value)} {ocSe kVSe dcSe pmSe cdSe ctSe : Value}
    {odPo anPo : Option Addr} {slPo : Array (Option Value)} {ocPo kVPo dcPo pmPo cdPo ctPo : Value}
    {odEo anEo : Option Addr} {slEo : Array (Option Value)} {ocEo kVEo dcEo pmEo cdEo ctEo : Value}
    {odRo anRo : Option Addr} {slRo : Array (Option Value)} {ocRo kVRo dcRo pmRo cdRo ctRo : Value}
    {odEa anEa : Option Addr} {slEa : Array (Option Value)} {ocEa kVEa dcEa pmEa cdEa ctEa : Value}
    {odDl anDl : Option Addr} {slDl : Array (Option Value)} {ocDl kVDl dcDl pmDl cdDl ctDl : Value}
    {odRw anRw : Option Addr} {slRw : Array (Option Value)} {ocRw kVRw dcRw pmRw cdRw ctRw : Value}
    {odNu anNu : Option Addr} {slNu : Array (Option Value)} {ocNu kVNu dcNu pmNu cdNu ctNu : Value}
    {odLn anLn : Option Addr} {slLn : Array (Option Value)} {ocLn kVLn dcLn pmLn cdLn ctLn : Value}
    {odLh anLh : Option Addr} {slLh : Array (Option Value)} {ocLh kVLh dcLh pmLh cdLh ctLh : Value}
    {odLr anLr : Option Addr} {slLr : Array (Option Value)} {ocLr kVLr dcLr pmLr cdLr ctLr : Value}
    {odLq anLq : Option Addr} {slLq : Array (Option Value)} {ocLq kVLq dcLq pmLq cdLq ctLq : Value}
    {odMp anMp : Option Addr} {slMp : Array (Option Value)} {ocMp kVMp dcMp pmMp cdMp ctMp : Value}
    {odMd anMd : Option Addr} {slMd : Array (Option Value)} {ocMd kVMd dcMd pmMd cdMd ctMd : Value}
    {odWt anWt : Option Addr} {slWt : Array (Option Value)} {ocWt kVWt dcWt pmWt cdWt ctWt : Value}
    {odOv anOv : Option Addr} {slOv : Array (Option Value)} {ocOv kVOv dcOv pmOv cdOv ctOv : Value}
    {odOp anOp : Option Addr} {slOp : Array (Option Value)} {ocOp kVOp dcOp pmOp cdOp ctOp : Value}
    {odFl anFl : Option Addr} {slFl : Array (Option Value)} {ocFl kVFl dcFl pmFl cdFl ctFl : Value}
    {odLl anLl : Option Addr} {slLl : Array (Option Value)} {ocLl kVLl dcLl pmLl cdLl ctLl : Value}
    {odLe anLe : Option Addr} {slLe : Array (Option Value)} {ocLe kVLe dcLe pmLe cdLe ctLe : Value}
    {odWo anWo : Option Addr} {slWo : Array (Option Value)} {ocWo kVWo dcWo pmWo cdWo ctWo : Value}
    {odLt anLt : Option Addr} {slLt : Array (Option Value)} {ocLt kVLt dcLt pmLt cdLt ctLt : Value}
    {odIe anIe : Option Addr} {slIe : Array (Option Value)} {ocIe kVIe dcIe pmIe cdIe ctIe : Value}
    {odWd anWd : Option Addr} {slWd : Array (Option Value)} {ocWd kVWd dcWd pmWd cdWd ctWd : Value}
    {odLw anLw : Option Addr} {slLw : Array (Option Value)} {ocLw kVLw dcLw pmLw cdLw ctLw : Value}
    {odRm anRm : Option Addr} {slRm : Array (Option Value)} {ocRm kVRm dcRm pmRm cdRm ctRm : Value}
    {odCk anCk : Option Addr} {slCk : Array (Option Value)} {ocCk kVCk dcCk pmCk cdCk ctCk : Value}
    {odCp anCp : Option Addr} {slCp : Array (Option Value)} {ocCp kVCp dcCp pmCp cdCp ctCp : Value}
    {odCi anCi : Option Addr} {slCi : Array (Option Value)} {ocCi kVCi dcCi pmCi cdCi ctCi : Value}
    {odRf anRf : Option Addr} {slRf : Array (Option Value)} {ocRf kVRf dcRf pmRf cdRf ctRf : Value}
    {odFo anFo : Option Addr} {slFo : Array (Option Value)} {ocFo kVFo dcFo pmFo cdFo ctFo : Value}
    {odMu anMu : Option Addr} {slMu : Array (Option Value)} {ocMu kVMu dcMu pmMu cdMu ctMu : Value}
    {odWr anWr : Option Addr} {slWr : Array (Option Value)} {ocWr kVWr dcWr pmWr cdWr ctWr : Value}
    {odWp anWp : Option Addr} {slWp : Array (Option Value)} {ocWp kVWp dcWp pmWp cdWp ctWp : Value}
    {odRn anRn : Option Addr} {slRn : Array (Option Value)} {ocRn kVRn dcRn pmRn cdRn ctRn : Value}
    {rsRn : List Value}
    {eN : Value} {dN : Option Addr} {vsN : Array Value} {slcN : Array (Option Value)}
    {odI anI : Option Addr} {slI : Array (Option Value)} {ocI dcI pmI cdI ctI : Value}
    {nmU qU : Str} {NU : Addr} {bsU bmU : List Value} {snU : List Str} {subU : List Value} {abU : Bool} {colU : Option Bool} {ddU : Option Addr} {x0U x1U x2U x3U x5U : Option Value}
    {odXU anXU cddXU cldXU : Option Addr} {slXU ccsXU cslXU : Array (Option Value)} {ocXU kVXU dcXU pmXU ctXU cclXU clXU : Value} {vsXU : Array Value} {fileXU : Str} {tfXU : Tok}
    {odRj anRj : Option Addr} {slRj : Array (Option Value)} {ocRj kVRj dcRj pmRj cdRj ctRj : Value}
    {t_LONGEST_NAME t_LONGEST_DAY t_MOST_PLACES t_MOST_KINDS t_MOST_ROADS t_MOST_MINUTES t_MOST_PAIRS t_MOST_BARS t_NAME t_START t_END t_MINUTES t_KINDS t_HOURS t_PARTS t_ROAD t_PASSED t_ARRIVAL t_BEFORE t_LETTERS t_DIGITS t_NO_ROAD : Tok}
    (aM : PySem.W.nsIn K mainGlobals "Map" = some (some (.ref M)))
    (gU : PySem.W.nsIn K mainGlobals "UnknownName" = some (some (.ref U)))
    (gB : PySem.W.nsIn K mainGlobals "WaypapersError" = some (some (.ref B)))
    (aNm : PySem.W.nsIn K mainGlobals "is_name" = some (some (.ref fNm)))
    (lNm : K.lookup fNm = some ⟨ocNm, odNm, .func (PySem.W.fnOf "is_name" "is_name" (defArgs sIsName) (defBody sIsName) (defScope sIsName) .none kVNm dcNm pmNm anNm (.ref qN) ctNm), slNm⟩)
    (cNm : PySem.W.codeIn K (.ref qN) "is_name" = true)
    (kNm : PySem.W.keepIn K (.ref fNm) = true)
    (aDy : PySem.W.nsIn K mainGlobals "_checked_day" = some (some (.ref fDy)))
    (lDy : K.lookup fDy = some ⟨ocDy, odDy, .func (PySem.W.fnOf "_checked_day" "_checked_day" (defArgs sDay) (defBody sDay) (defScope sDay) .none kVDy dcDy pmDy anDy (cdDy) ctDy), slDy⟩)
    (cDy : PySem.W.codeIn K (cdDy) "_checked_day" = true)
    (kDy : PySem.W.keepIn K (.ref fDy) = true)
    (aNa : PySem.W.nsIn K mainGlobals "_checked_names" = some (some (.ref fNa)))
    (lNa : K.lookup fNa = some ⟨ocNa, odNa, .func (PySem.W.fnOf "_checked_names" "_checked_names" (defArgs sNames) (defBody sNames) (defScope sNames) .none kVNa dcNa pmNa anNa (cdNa) ctNa), slNa⟩)
    (cNa : PySem.W.codeIn K (cdNa) "_checked_names" = true)
    (kNa : PySem.W.keepIn K (.ref fNa) = true)
    (aDf : PySem.W.nsIn K mainGlobals "_check_different" = some (some (.ref fDf)))
    (lDf : K.lookup fDf = some ⟨ocDf, odDf, .func (PySem.W.fnOf "_check_different" "_check_different" (defArgs sDiff) (defBody sDiff) (defScope sDiff) .none kVDf dcDf pmDf anDf (cdDf) ctDf), slDf⟩)
    (cDf : PySem.W.codeIn K (cdDf) "_check_different" = true)
    (kDf : PySem.W.keepIn K (.ref fDf) = true)
    (aRs : PySem.W.nsIn K mainGlobals "_checked_roads" = some (some (.ref fRs)))
    (lRs : K.lookup fRs = some ⟨ocRs, odRs, .func (PySem.W.fnOf "_checked_roads" "_checked_roads" (defArgs sRoads) (defBody sRoads) (defScope sRoads) .none kVRs dcRs pmRs anRs (cdRs) ctRs), slRs⟩)
    (cRs : PySem.W.codeIn K (cdRs) "_checked_roads" = true)
    (kRs : PySem.W.keepIn K (.ref fRs) = true)
    (aRd : PySem.W.nsIn K mainGlobals "_checked_road" = some (some (.ref fRd)))
    (lRd : K.lookup fRd = some ⟨ocRd, odRd, .func (PySem.W.fnOf "_checked_road" "_checked_road" (defArgs sRoad) (defBody sRoad) (defScope sRoad) .none kVRd dcRd pmRd anRd (cdRd) ctRd), slRd⟩)
    (cRd : PySem.W.codeIn K (cdRd) "_checked_road" = true)
    (kRd : PySem.W.keepIn K (.ref fRd) = true)
    (aHr : PySem.W.nsIn K mainGlobals "_checked_hours" = some (some (.ref fHr)))
    (lHr : K.lookup fHr = some ⟨ocHr, odHr, .func (PySem.W.fnOf "_checked_hours" "_checked_hours" (defArgs sHours) (defBody sHours) (defScope sHours) .none kVHr dcHr pmHr anHr (cdHr) ctHr), slHr⟩)
    (cHr : PySem.W.codeIn K (cdHr) "_checked_hours" = true)
    (kHr : PySem.W.keepIn K (.ref fHr) = true)
    (aBr : PySem.W.nsIn K mainGlobals "_checked_bars" = some (some (.ref fBr)))
    (lBr : K.lookup fBr = some ⟨ocBr, odBr, .func (PySem.W.fnOf "_checked_bars" "_checked_bars" (defArgs sBars) (defBody sBars) (defScope sBars) .none kVBr dcBr pmBr anBr (cdBr) ctBr), slBr⟩)
    (cBr : PySem.W.codeIn K (cdBr) "_checked_bars" = true)
    (kBr : PySem.W.keepIn K (.ref fBr) = true)
    (aEn : PySem.W.nsIn K mainGlobals "enter" = some (some (.ref fEn)))
    (lEn : K.lookup fEn = some ⟨ocEn, odEn, .func (PySem.W.fnOf "enter" "enter" (defArgs sEnter) (defBody sEnter) (defScope sEnter) .none kVEn dcEn pmEn anEn (cdEn) ctEn), slEn⟩)
    (cEn : PySem.W.codeIn K (cdEn) "enter" = true)
    (kEn : PySem.W.keepIn K (.ref fEn) = true)
    (aAr : PySem.W.nsIn K mainGlobals "arrive" = some (some (.ref fAr)))
    (lAr : K.lookup fAr = some ⟨ocAr, odAr, .func (PySem.W.fnOf "arrive" "arrive" (defArgs sArrive) (defBody sArrive) (defScope sArrive) .none kVAr dcAr pmAr anAr (cdAr) ctAr), slAr⟩)
    (cAr : PySem.W.codeIn K (cdAr) "arrive" = true)
    (kAr : PySem.W.keepIn K (.ref fAr) = true)
    (aCn : PySem.W.nsIn K mainGlobals "check_names" = some (some (.ref fCn)))
    (lCn : K.lookup fCn = some ⟨ocCn, odCn, .func (PySem.W.fnOf "check_names" "check_names" (defArgs sNamesC) (defBody sNamesC) (defScope sNamesC) .none kVCn dcCn pmCn anCn (cdCn) ctCn), slCn⟩)
    (cCn : PySem.W.codeIn K (cdCn) "check_names" = true)
    (kCn : PySem.W.keepIn K (.ref fCn) = true)
    (aEv : PySem.W.nsIn K mainGlobals "can_ever_enter" = some (some (.ref fEv)))
    (lEv : K.lookup fEv = some ⟨ocEv, odEv, .func (PySem.W.fnOf "can_ever_enter" "can_ever_enter" (defArgs sCanEver) (defBody sCanEver) (defScope sCanEver) .none kVEv dcEv pmEv anEv (cdEv) ctEv), slEv⟩)
    (cEv : PySem.W.codeIn K (cdEv) "can_ever_enter" = true)
    (kEv : PySem.W.keepIn K (.ref fEv) = true)
    (aRb : PySem.W.nsIn K mainGlobals "road_turns" = some (some (.ref fRb)))
    (lRb : K.lookup fRb = some ⟨ocRb, odRb, .func (PySem.W.fnOf "road_turns" "road_turns" (defArgs sRTurns) (defBody sRTurns) (defScope sRTurns) .none kVRb dcRb pmRb anRb (cdRb) ctRb), slRb⟩)
    (cRb : PySem.W.codeIn K (cdRb) "road_turns" = true)
    (kRb : PySem.W.keepIn K (.ref fRb) = true)
    (aTu : PySem.W.nsIn K mainGlobals "turns" = some (some (.ref fTu)))
    (lTu : K.lookup fTu = some ⟨ocTu, odTu, .func (PySem.W.fnOf "turns" "turns" (defArgs sTurns) (defBody sTurns) (defScope sTurns) .none kVTu dcTu pmTu anTu (cdTu) ctTu), slTu⟩)
    (cTu : PySem.W.codeIn K (cdTu) "turns" = true)
    (kTu : PySem.W.keepIn K (.ref fTu) = true)
    (aSe : PySem.W.nsIn K mainGlobals "search" = some (some (.ref fSe)))
    (lSe : K.lookup fSe = some ⟨ocSe, odSe, .func (PySem.W.fnOf "search" "search" (defArgs sSearch) (defBody sSearch) (defScope sSearch) .none kVSe dcSe pmSe anSe (cdSe) ctSe), slSe⟩)
    (cSe : PySem.W.codeIn K (cdSe) "search" = true)
    (kSe : PySem.W.keepIn K (.ref fSe) = true)
    (aPo : PySem.W.nsIn K mainGlobals "place_of" = some (some (.ref fPo)))
    (lPo : K.lookup fPo = some ⟨ocPo, odPo, .func (PySem.W.fnOf "place_of" "place_of" (defArgs sPlaceOf) (defBody sPlaceOf) (defScope sPlaceOf) .none kVPo dcPo pmPo anPo (cdPo) ctPo), slPo⟩)
    (cPo : PySem.W.codeIn K (cdPo) "place_of" = true)
    (kPo : PySem.W.keepIn K (.ref fPo) = true)
    (aEo : PySem.W.nsIn K mainGlobals "earliest_of" = some (some (.ref fEo)))
    (lEo : K.lookup fEo = some ⟨ocEo, odEo, .func (PySem.W.fnOf "earliest_of" "earliest_of" (defArgs sEarlOf) (defBody sEarlOf) (defScope sEarlOf) .none kVEo dcEo pmEo anEo (cdEo) ctEo), slEo⟩)
    (cEo : PySem.W.codeIn K (cdEo) "earliest_of" = true)
    (kEo : PySem.W.keepIn K (.ref fEo) = true)
    (aRo : PySem.W.nsIn K mainGlobals "route_to" = some (some (.ref fRo)))
    (lRo : K.lookup fRo = some ⟨ocRo, odRo, .func (PySem.W.fnOf "route_to" "route_to" (defArgs sRouteTo) (defBody sRouteTo) (defScope sRouteTo) .none kVRo dcRo pmRo anRo (cdRo) ctRo), slRo⟩)
    (cRo : PySem.W.codeIn K (cdRo) "route_to" = true)
    (kRo : PySem.W.keepIn K (.ref fRo) = true)
    (aEa : PySem.W.nsIn K mainGlobals "earliest" = some (some (.ref fEa)))
    (lEa : K.lookup fEa = some ⟨ocEa, odEa, .func (PySem.W.fnOf "earliest" "earliest" (defArgs sEarliest) (defBody sEarliest) (defScope sEarliest) .none kVEa dcEa pmEa anEa (cdEa) ctEa), slEa⟩)
    (cEa : PySem.W.codeIn K (cdEa) "earliest" = true)
    (kEa : PySem.W.keepIn K (.ref fEa) = true)
    (aDl : PySem.W.nsIn K mainGlobals "delays" = some (some (.ref fDl)))
    (lDl : K.lookup fDl = some ⟨ocDl, odDl, .func (PySem.W.fnOf "delays" "delays" (defArgs sDelays) (defBody sDelays) (defScope sDelays) .none kVDl dcDl pmDl anDl (cdDl) ctDl), slDl⟩)
    (cDl : PySem.W.codeIn K (cdDl) "delays" = true)
    (kDl : PySem.W.keepIn K (.ref fDl) = true)
    (aRw : PySem.W.nsIn K mainGlobals "_law_row" = some (some (.ref fRw)))
    (lRw : K.lookup fRw = some ⟨ocRw, odRw, .func (PySem.W.fnOf "_law_row" "_law_row" (defArgs sRow) (defBody sRow) (defScope sRow) .none kVRw dcRw pmRw anRw (cdRw) ctRw), slRw⟩)
    (cRw : PySem.W.codeIn K (cdRw) "_law_row" = true)
    (kRw : PySem.W.keepIn K (.ref fRw) = true)
    (aNu : PySem.W.nsIn K mainGlobals "_law_numbers" = some (some (.ref fNu)))
    (lNu : K.lookup fNu = some ⟨ocNu, odNu, .func (PySem.W.fnOf "_law_numbers" "_law_numbers" (defArgs sNumbers) (defBody sNumbers) (defScope sNumbers) .none kVNu dcNu pmNu anNu (cdNu) ctNu), slNu⟩)
    (cNu : PySem.W.codeIn K (cdNu) "_law_numbers" = true)
    (kNu : PySem.W.keepIn K (.ref fNu) = true)
    (aLn : PySem.W.nsIn K mainGlobals "_law_names" = some (some (.ref fLn)))
    (lLn : K.lookup fLn = some ⟨ocLn, odLn, .func (PySem.W.fnOf "_law_names" "_law_names" (defArgs sLNames) (defBody sLNames) (defScope sLNames) .none kVLn dcLn pmLn anLn (cdLn) ctLn), slLn⟩)
    (cLn : PySem.W.codeIn K (cdLn) "_law_names" = true)
    (kLn : PySem.W.keepIn K (.ref fLn) = true)
    (aLh : PySem.W.nsIn K mainGlobals "_law_hours" = some (some (.ref fLh)))
    (lLh : K.lookup fLh = some ⟨ocLh, odLh, .func (PySem.W.fnOf "_law_hours" "_law_hours" (defArgs sLHours) (defBody sLHours) (defScope sLHours) .none kVLh dcLh pmLh anLh (cdLh) ctLh), slLh⟩)
    (cLh : PySem.W.codeIn K (cdLh) "_law_hours" = true)
    (kLh : PySem.W.keepIn K (.ref fLh) = true)
    (aLr : PySem.W.nsIn K mainGlobals "_law_road" = some (some (.ref fLr)))
    (lLr : K.lookup fLr = some ⟨ocLr, odLr, .func (PySem.W.fnOf "_law_road" "_law_road" (defArgs sLRoadG) (defBody sLRoadG) (defScope sLRoadG) .none kVLr dcLr pmLr anLr (cdLr) ctLr), slLr⟩)
    (cLr : PySem.W.codeIn K (cdLr) "_law_road" = true)
    (kLr : PySem.W.keepIn K (.ref fLr) = true)
    (aLq : PySem.W.nsIn K mainGlobals "_law_bars" = some (some (.ref fLq)))
    (lLq : K.lookup fLq = some ⟨ocLq, odLq, .func (PySem.W.fnOf "_law_bars" "_law_bars" (defArgs sLBarsG) (defBody sLBarsG) (defScope sLBarsG) .none kVLq dcLq pmLq anLq (cdLq) ctLq), slLq⟩)
    (cLq : PySem.W.codeIn K (cdLq) "_law_bars" = true)
    (kLq : PySem.W.keepIn K (.ref fLq) = true)
    (aMp : PySem.W.nsIn K mainGlobals "_law_parts" = some (some (.ref fMp)))
    (lMp : K.lookup fMp = some ⟨ocMp, odMp, .func (PySem.W.fnOf "_law_parts" "_law_parts" (defArgs sLPartsG) (defBody sLPartsG) (defScope sLPartsG) .none kVMp dcMp pmMp anMp (cdMp) ctMp), slMp⟩)
    (cMp : PySem.W.codeIn K (cdMp) "_law_parts" = true)
    (kMp : PySem.W.keepIn K (.ref fMp) = true)
    (aMd : PySem.W.nsIn K mainGlobals "_law_made" = some (some (.ref fMd)))
    (lMd : K.lookup fMd = some ⟨ocMd, odMd, .func (PySem.W.fnOf "_law_made" "_law_made" (defArgs sLMade) (defBody sLMade) (defScope sLMade) .none kVMd dcMd pmMd anMd (cdMd) ctMd), slMd⟩)
    (cMd : PySem.W.codeIn K (cdMd) "_law_made" = true)
    (kMd : PySem.W.keepIn K (.ref fMd) = true)
    (aWt : PySem.W.nsIn K mainGlobals "_law_waits" = some (some (.ref fWt)))
    (lWt : K.lookup fWt = some ⟨ocWt, odWt, .func (PySem.W.fnOf "_law_waits" "_law_waits" (defArgs sLWaits) (defBody sLWaits) (defScope sLWaits) .none kVWt dcWt pmWt anWt (cdWt) ctWt), slWt⟩)
    (cWt : PySem.W.codeIn K (cdWt) "_law_waits" = true)
    (kWt : PySem.W.keepIn K (.ref fWt) = true)
    (aOv : PySem.W.nsIn K mainGlobals "_law_over" = some (some (.ref fOv)))
    (lOv : K.lookup fOv = some ⟨ocOv, odOv, .func (PySem.W.fnOf "_law_over" "_law_over" (defArgs sLOver) (defBody sLOver) (defScope sLOver) .none kVOv dcOv pmOv anOv (cdOv) ctOv), slOv⟩)
    (cOv : PySem.W.codeIn K (cdOv) "_law_over" = true)
    (kOv : PySem.W.keepIn K (.ref fOv) = true)
    (aOp : PySem.W.nsIn K mainGlobals "_law_open" = some (some (.ref fOp)))
    (lOp : K.lookup fOp = some ⟨ocOp, odOp, .func (PySem.W.fnOf "_law_open" "_law_open" (defArgs sLOpen) (defBody sLOpen) (defScope sLOpen) .none kVOp dcOp pmOp anOp (cdOp) ctOp), slOp⟩)
    (cOp : PySem.W.codeIn K (cdOp) "_law_open" = true)
    (kOp : PySem.W.keepIn K (.ref fOp) = true)
    (aFl : PySem.W.nsIn K mainGlobals "_law_follows" = some (some (.ref fFl)))
    (lFl : K.lookup fFl = some ⟨ocFl, odFl, .func (PySem.W.fnOf "_law_follows" "_law_follows" (defArgs sLFollows) (defBody sLFollows) (defScope sLFollows) .none kVFl dcFl pmFl anFl (cdFl) ctFl), slFl⟩)
    (cFl : PySem.W.codeIn K (cdFl) "_law_follows" = true)
    (kFl : PySem.W.keepIn K (.ref fFl) = true)
    (aLl : PySem.W.nsIn K mainGlobals "_law_labels" = some (some (.ref fLl)))
    (lLl : K.lookup fLl = some ⟨ocLl, odLl, .func (PySem.W.fnOf "_law_labels" "_law_labels" (defArgs sLLabelsG) (defBody sLLabelsG) (defScope sLLabelsG) .none kVLl dcLl pmLl anLl (cdLl) ctLl), slLl⟩)
    (cLl : PySem.W.codeIn K (cdLl) "_law_labels" = true)
    (kLl : PySem.W.keepIn K (.ref fLl) = true)
    (aLe : PySem.W.nsIn K mainGlobals "_law_earliest" = some (some (.ref fLe)))
    (lLe : K.lookup fLe = some ⟨ocLe, odLe, .func (PySem.W.fnOf "_law_earliest" "_law_earliest" (defArgs sLEarlG) (defBody sLEarlG) (defScope sLEarlG) .none kVLe dcLe pmLe anLe (cdLe) ctLe), slLe⟩)
    (cLe : PySem.W.codeIn K (cdLe) "_law_earliest" = true)
    (kLe : PySem.W.keepIn K (.ref fLe) = true)
    (aWo : PySem.W.nsIn K mainGlobals "_law_without" = some (some (.ref fWo)))
    (lWo : K.lookup fWo = some ⟨ocWo, odWo, .func (PySem.W.fnOf "_law_without" "_law_without" (defArgs sLWithout) (defBody sLWithout) (defScope sLWithout) .none kVWo dcWo pmWo anWo (cdWo) ctWo), slWo⟩)
    (cWo : PySem.W.codeIn K (cdWo) "_law_without" = true)
    (kWo : PySem.W.keepIn K (.ref fWo) = true)
    (aLt : PySem.W.nsIn K mainGlobals "_law_trip" = some (some (.ref fLt)))
    (lLt : K.lookup fLt = some ⟨ocLt, odLt, .func (PySem.W.fnOf "_law_trip" "_law_trip" (defArgs sLTrip) (defBody sLTrip) (defScope sLTrip) .none kVLt dcLt pmLt anLt (cdLt) ctLt), slLt⟩)
    (cLt : PySem.W.codeIn K (cdLt) "_law_trip" = true)
    (kLt : PySem.W.keepIn K (.ref fLt) = true)
    (aIe : PySem.W.nsIn K mainGlobals "_is_worse" = some (some (.ref fIe)))
    (lIe : K.lookup fIe = some ⟨ocIe, odIe, .func (PySem.W.fnOf "_is_worse" "_is_worse" (defArgs sWorse) (defBody sWorse) (defScope sWorse) .none kVIe dcIe pmIe anIe (cdIe) ctIe), slIe⟩)
    (cIe : PySem.W.codeIn K (cdIe) "_is_worse" = true)
    (kIe : PySem.W.keepIn K (.ref fIe) = true)
    (aWd : PySem.W.nsIn K mainGlobals "worst_delay" = some (some (.ref fWd)))
    (lWd : K.lookup fWd = some ⟨ocWd, odWd, .func (PySem.W.fnOf "worst_delay" "worst_delay" (defArgs sWorst) (defBody sWorst) (defScope sWorst) .none kVWd dcWd pmWd anWd (cdWd) ctWd), slWd⟩)
    (cWd : PySem.W.codeIn K (cdWd) "worst_delay" = true)
    (kWd : PySem.W.keepIn K (.ref fWd) = true)
    (aLw : PySem.W.nsIn K mainGlobals "law" = some (some (.ref fLw)))
    (lLw : K.lookup fLw = some ⟨ocLw, odLw, .func (PySem.W.fnOf "law" "law" (defArgs sLaw) (defBody sLaw) (defScope sLaw) .none kVLw dcLw pmLw anLw (cdLw) ctLw), slLw⟩)
    (cLw : PySem.W.codeIn K (cdLw) "law" = true)
    (kLw : PySem.W.keepIn K (.ref fLw) = true)
    (aRm : PySem.W.findIn K (.ref M) "road" = some (some (.ref fRm)))
    (iRm : PySem.W.isFn K (.ref fRm) = true)
    (lRm : K.lookup fRm = some ⟨ocRm, odRm, .func (PySem.W.fnOf "road" "Map.road" (defArgs sRoadM) (defBody sRoadM) (defScope sRoadM) .none kVRm dcRm pmRm anRm (cdRm) ctRm), slRm⟩)
    (cRm : PySem.W.codeIn K (cdRm) "Map.road" = true)
    (kRm : PySem.W.keepIn K (.ref fRm) = true)
    (aCk : PySem.W.findIn K (.ref M) "check_road" = some (some (.ref fCk)))
    (iCk : PySem.W.isFn K (.ref fCk) = true)
    (lCk : K.lookup fCk = some ⟨ocCk, odCk, .func (PySem.W.fnOf "check_road" "Map.check_road" (defArgs sCheck) (defBody sCheck) (defScope sCheck) .none kVCk dcCk pmCk anCk (cdCk) ctCk), slCk⟩)
    (cCk : PySem.W.codeIn K (cdCk) "Map.check_road" = true)
    (kCk : PySem.W.keepIn K (.ref fCk) = true)
    (aCp : PySem.W.findIn K (.ref M) "check_place" = some (some (.ref fCp)))
    (iCp : PySem.W.isFn K (.ref fCp) = true)
    (lCp : K.lookup fCp = some ⟨ocCp, odCp, .func (PySem.W.fnOf "check_place" "Map.check_place" (defArgs sCheckP) (defBody sCheckP) (defScope sCheckP) .none kVCp dcCp pmCp anCp (cdCp) ctCp), slCp⟩)
    (cCp : PySem.W.codeIn K (cdCp) "Map.check_place" = true)
    (kCp : PySem.W.keepIn K (.ref fCp) = true)
    (aCi : PySem.W.findIn K (.ref M) "check_kind" = some (some (.ref fCi)))
    (iCi : PySem.W.isFn K (.ref fCi) = true)
    (lCi : K.lookup fCi = some ⟨ocCi, odCi, .func (PySem.W.fnOf "check_kind" "Map.check_kind" (defArgs sCheckK) (defBody sCheckK) (defScope sCheckK) .none kVCi dcCi pmCi anCi (cdCi) ctCi), slCi⟩)
    (cCi : PySem.W.codeIn K (cdCi) "Map.check_kind" = true)
    (kCi : PySem.W.keepIn K (.ref fCi) = true)
    (aRf : PySem.W.findIn K (.ref M) "roads_from" = some (some (.ref fRf)))
    (iRf : PySem.W.isFn K (.ref fRf) = true)
    (lRf : K.lookup fRf = some ⟨ocRf, odRf, .func (PySem.W.fnOf "roads_from" "Map.roads_from" (defArgs sRFrom) (defBody sRFrom) (defScope sRFrom) .none kVRf dcRf pmRf anRf (cdRf) ctRf), slRf⟩)
    (cRf : PySem.W.codeIn K (cdRf) "Map.roads_from" = true)
    (kRf : PySem.W.keepIn K (.ref fRf) = true)
    (aFo : PySem.W.findIn K (.ref M) "followers" = some (some (.ref fFo)))
    (iFo : PySem.W.isFn K (.ref fFo) = true)
    (lFo : K.lookup fFo = some ⟨ocFo, odFo, .func (PySem.W.fnOf "followers" "Map.followers" (defArgs sFoll) (defBody sFoll) (defScope sFoll) .none kVFo dcFo pmFo anFo (cdFo) ctFo), slFo⟩)
    (cFo : PySem.W.codeIn K (cdFo) "Map.followers" = true)
    (kFo : PySem.W.keepIn K (.ref fFo) = true)
    (aMu : PySem.W.findIn K (.ref M) "may_use" = some (some (.ref fMu)))
    (iMu : PySem.W.isFn K (.ref fMu) = true)
    (lMu : K.lookup fMu = some ⟨ocMu, odMu, .func (PySem.W.fnOf "may_use" "Map.may_use" (defArgs sMayU) (defBody sMayU) (defScope sMayU) .none kVMu dcMu pmMu anMu (cdMu) ctMu), slMu⟩)
    (cMu : PySem.W.codeIn K (cdMu) "Map.may_use" = true)
    (kMu : PySem.W.keepIn K (.ref fMu) = true)
    (aWr : PySem.W.findIn K (.ref M) "without_road" = some (some (.ref fWr)))
    (iWr : PySem.W.isFn K (.ref fWr) = true)
    (lWr : K.lookup fWr = some ⟨ocWr, odWr, .func (PySem.W.fnOf "without_road" "Map.without_road" (defArgs sWithoutR) (defBody sWithoutR) (defScope sWithoutR) .none kVWr dcWr pmWr anWr (cdWr) ctWr), slWr⟩)
    (cWr : PySem.W.codeIn K (cdWr) "Map.without_road" = true)
    (kWr : PySem.W.keepIn K (.ref fWr) = true)
    (aWp : PySem.W.findIn K (.ref M) "_with_parts" = some (some (.ref fWp)))
    (iWp : PySem.W.isFn K (.ref fWp) = true)
    (lWp : K.lookup fWp = some ⟨ocWp, odWp, .func (PySem.W.fnOf "_with_parts" "Map._with_parts" (defArgs sWithP) (defBody sWithP) (defScope sWithP) .none kVWp dcWp pmWp anWp (cdWp) ctWp), slWp⟩)
    (cWp : PySem.W.codeIn K (cdWp) "Map._with_parts" = true)
    (kWp : PySem.W.keepIn K (.ref fWp) = true)
    (aRn : PySem.W.findIn K (.ref M) "road_names" = some (some (.ref ppRn)))
    (pgRn : PySem.W.specialIn K (.ref ppRn) "__get__" = some (some (.builtin "property.__get__")))
    (tkRn : PySem.W.takesIn K (.ref ppRn) = some true)
    (rcRn : PySem.W.recIn K ppRn "property" = some (.ref fRn :: rsRn))
    (lRn : K.lookup fRn = some ⟨ocRn, odRn, .func (PySem.W.fnOf "road_names" "Map.road_names" (defArgs sRNames) (defBody sRNames) (defScope sRNames) .none kVRn dcRn pmRn anRn (cdRn) ctRn), slRn⟩)
    (cRn : PySem.W.codeIn K (cdRn) "Map.road_names" = true)
    (kRn : PySem.W.keepIn K (.ref fRn) = true)
    (lcN : K.lookup qN = some ⟨eN, dN, .fields vsN, slcN⟩)
    (v11 : vsN[11]? = some (.ref P))
    (hcN : PySem.W.codeHdIn K qN P = true)
    (nP : K.lookup P = none)
    (aI : PySem.W.findIn K (.ref M) "__init__" = some (some (.ref fI)))
    (iI : PySem.W.isFn K (.ref fI) = true)
    (lI : K.lookup fI = some ⟨ocI, odI, .func (PySem.W.fnOf "__init__" "Map.__init__" (defArgs sInit) (defBody sInit) (defScope sInit) .none (.ref D0) dcI pmI anI cdI ctI), slI⟩)
    (cI : PySem.W.codeIn K cdI "Map.__init__" = true)
    (kI : PySem.W.keepIn K (.ref fI) = true)
    (d_places : PySem.W.nsIn K D0 "places" = some (some (.ref T1)))
    (d_roads : PySem.W.nsIn K D0 "roads" = some (some (.ref T2)))
    (d_bars : PySem.W.nsIn K D0 "bars" = some (some (.ref T0)))
    (pg : PySem.W.plainGet K M Str.empty = true)
    (hd : PySem.W.hasDictIn K M = true)
    (po : PySem.W.plainOver K M = true)
    (sa : PySem.W.findIn K (.ref M) "__setattr__" = some (some (.builtin "object.__setattr__")))
    (mk : PySem.W.makesIn K M = true)
    (kM : PySem.W.keepIn K (.ref M) = true)
    (n_day : PySem.W.findIn K (.ref M) "day" = some none)
    (n_kinds : PySem.W.findIn K (.ref M) "kinds" = some none)
    (n_places : PySem.W.findIn K (.ref M) "places" = some none)
    (n_roads : PySem.W.findIn K (.ref M) "roads" = some none)
    (n__roads_by_name : PySem.W.findIn K (.ref M) "_roads_by_name" = some none)
    (n_bars : PySem.W.findIn K (.ref M) "bars" = some none)
    (n__barred : PySem.W.findIn K (.ref M) "_barred" = some none)
    (snU1 : PySem.W.specialIn K (.builtin "object.__class__") "__get__" = some (some (.builtin "getset_descriptor.__get__")))
    (tkU : PySem.W.takesIn K (.builtin "object.__class__") = some true)
    (opU : PySem.W.nsIn K cStatics "thirdparty.any" = some none)
    (toX : (l.prog.main.scope.names.lookup ("super" : Str)).isSome = false)
    (lU : K.lookup U = some (excClassObj nmU qU U NU bsU bmU true snU subU abU colU ddU x0U x1U x2U x3U x5U "ValueError.__new__"))
    (rvU : PySem.HandSPX.refsVE bmU = true)
    (saU : PySem.W.findIn K (.ref U) "__setattr__" = some (some (.builtin "object.__setattr__")))
    (bU : PySem.W.subIn K (.ref U) (.type "BaseException") = some true)
    (tU : PySem.W.typeIn K (.ref U) = some (.type "type"))
    (kU : PySem.W.keepIn K (.ref U) = true)
    (iU : PySem.W.isClsIn K U = true)
    (sU : PySem.W.subIn K (.ref U) (.ref U) = some true)
    (xU : xfB K U = true)
    (clU : (PySem.W.clsIn K U).isSome = true)
    (gaU : PySem.W.findIn K (.ref U) "__getattribute__" = some (some (.builtin "BaseException.__getattribute__")))
    (ggU : PySem.W.findIn K (.ref U) "__getattr__" = some none)
    (ccU : PySem.W.findIn K (.ref U) "__class__" = some (some (.builtin "object.__class__")))
    (moU : PySem.W.mroIn K U (.type "object") = some true)
    (muU : PySem.W.mroIn K U (.ref U) = some true)
    (suU : PySem.W.ks_superIn K U U "__init__" = some (some (.builtin "ValueError.__init__")))
    (svU : PySem.W.subIn K (.ref U) (.type "ValueError") = some true)
    (nnU : PySem.W.findIn K (.ref U) "name" = some none)
    (aXU : PySem.W.findIn K (.ref U) "__init__" = some (some (.ref fXU)))
    (tXU : PySem.W.typeIn K (.ref fXU) = some (.type "function"))
    (lXU : K.lookup fXU = some ⟨ocXU, odXU, .func (fdU .none kVXU dcXU pmXU anXU cdaXU ctXU ccXU), slXU⟩)
    (cXU : PySem.W.codeIn K (.ref cdaXU) "UnknownName.__init__" = true)
    (coXU : K.lookup cdaXU = some ⟨cclXU, cddXU, .fields vsXU, ccsXU⟩)
    (v2XU : vsXU[2]? = some (.str fileXU tfXU))
    (fiXU : ((l.prog.main.file : Str) == fileXU) = true)
    (ceXU : K.lookup ccXU = some ⟨clXU, cldXU, .cell (some (.ref U)), cslXU⟩)
    (aRt : PySem.W.nsIn K mainGlobals "Route" = some (some (.ref Rt)))
    (aRj : PySem.W.findIn K (.ref Rt) "__init__" = some (some (.ref fRj)))
    (iRj : PySem.W.isFn K (.ref fRj) = true)
    (lRj : K.lookup fRj = some ⟨ocRj, odRj, .func (PySem.W.fnOf "__init__" "Route.__init__" (defArgs sRInit) (defBody sRInit) (defScope sRInit) .none kVRj dcRj pmRj anRj (cdRj) ctRj), slRj⟩)
    (cRj : PySem.W.codeIn K (cdRj) "Route.__init__" = true)
    (kRj : PySem.W.keepIn K (.ref fRj) = true)
    (pgRt : PySem.W.plainGet K Rt Str.empty = true)
    (hdRt : PySem.W.hasDictIn K Rt = true)
    (poRt : PySem.W.plainOver K Rt = true)
    (saRt : PySem.W.findIn K (.ref Rt) "__setattr__" = some (some (.builtin "object.__setattr__")))
    (mkRt : PySem.W.makesIn K Rt = true)
    (kpRt : PySem.W.keepIn K (.ref Rt) = true)
    (nRt_roads : PySem.W.findIn K (.ref Rt) "roads" = some none)
    (nRt_arrival : PySem.W.findIn K (.ref Rt) "arrival" = some none)
    (g_LONGEST_NAME : PySem.W.nsIn K mainGlobals "LONGEST_NAME" = some (some (.int 12 t_LONGEST_NAME)))
    (g_LONGEST_DAY : PySem.W.nsIn K mainGlobals "LONGEST_DAY" = some (some (.int 1440 t_LONGEST_DAY)))
    (g_MOST_PLACES : PySem.W.nsIn K mainGlobals "MOST_PLACES" = some (some (.int 30 t_MOST_PLACES)))
    (g_MOST_KINDS : PySem.W.nsIn K mainGlobals "MOST_KINDS" = some (some (.int 4 t_MOST_KINDS)))
    (g_MOST_ROADS : PySem.W.nsIn K mainGlobals "MOST_ROADS" = some (some (.int 60 t_MOST_ROADS)))
    (g_MOST_MINUTES : PySem.W.nsIn K mainGlobals "MOST_MINUTES" = some (some (.int 1000 t_MOST_MINUTES)))
    (g_MOST_PAIRS : PySem.W.nsIn K mainGlobals "MOST_PAIRS" = some (some (.int 4 t_MOST_PAIRS)))
    (g_MOST_BARS : PySem.W.nsIn K mainGlobals "MOST_BARS" = some (some (.int 40 t_MOST_BARS)))
    (g_NAME : PySem.W.nsIn K mainGlobals "NAME" = some (some (.int 0 t_NAME)))
    (g_START : PySem.W.nsIn K mainGlobals "START" = some (some (.int 1 t_START)))
    (g_END : PySem.W.nsIn K mainGlobals "END" = some (some (.int 2 t_END)))
    (g_MINUTES : PySem.W.nsIn K mainGlobals "MINUTES" = some (some (.int 3 t_MINUTES)))
    (g_KINDS : PySem.W.nsIn K mainGlobals "KINDS" = some (some (.int 4 t_KINDS)))
    (g_HOURS : PySem.W.nsIn K mainGlobals "HOURS" = some (some (.int 5 t_HOURS)))
    (g_PARTS : PySem.W.nsIn K mainGlobals "PARTS" = some (some (.int 6 t_PARTS)))
    (g_ROAD : PySem.W.nsIn K mainGlobals "ROAD" = some (some (.int 0 t_ROAD)))
    (g_PASSED : PySem.W.nsIn K mainGlobals "PASSED" = some (some (.int 1 t_PASSED)))
    (g_ARRIVAL : PySem.W.nsIn K mainGlobals "ARRIVAL" = some (some (.int 0 t_ARRIVAL)))
    (g_BEFORE : PySem.W.nsIn K mainGlobals "BEFORE" = some (some (.int 1 t_BEFORE)))
    (g_LETTERS : PySem.W.nsIn K mainGlobals "LETTERS" = some (some (.str zLet t_LETTERS)))
    (g_DIGITS : PySem.W.nsIn K mainGlobals "DIGITS" = some (some (.str zDig t_DIGITS)))
    (g_NO_ROAD : PySem.W.nsIn K mainGlobals "NO_ROAD" = some (some (.str Str.empty t_NO_ROAD)))
    (g_heappop : PySem.W.nsIn K mainGlobals "heappop" = some (some (.builtin "_heapq.heappop")))
    (g_heappush : PySem.W.nsIn K mainGlobals "heappush" = some (some (.builtin "_heapq.heappush")))
    (z_len : PySem.W.nsIn K mainGlobals "len" = some none)
    (z_all : PySem.W.nsIn K mainGlobals "all" = some none)
    (z_set : PySem.W.nsIn K mainGlobals "set" = some none)
    (z_tuple : PySem.W.nsIn K mainGlobals "tuple" = some none)
    (z_sorted : PySem.W.nsIn K mainGlobals "sorted" = some none)
    (z_abs : PySem.W.nsIn K mainGlobals "abs" = some none)
    (z_int : PySem.W.nsIn K mainGlobals "int" = some none)
    (z_range : PySem.W.nsIn K mainGlobals "range" = some none)
    (z_max : PySem.W.nsIn K mainGlobals "max" = some none)
    (z_min : PySem.W.nsIn K mainGlobals "min" = some none)
    (z_super : PySem.W.nsIn K mainGlobals "super" = some none)
    (z_repr : PySem.W.nsIn K mainGlobals "repr" = some none) :
    LawG l w K (L2.CX l.prog w) 63 mg fa h := by
  have e := hfa.symm.trans (PySem.W.mg_of X G aLw)
  cases e
  have FNm := fun_mk (st := sIsName) lNm cNm kNm
  have bNm := FNm.binds (ps := ["text"]) fun _ _ _ _ _ _ us hl => match us, hl with | [_], _ => rfl
  have mNm := PySem.W.mg_of X G aNm
  have FDy := fun_mk (st := sDay) lDy cDy kDy
  have bDy := FDy.binds (ps := ["day"]) fun _ _ _ _ _ _ us hl => match us, hl with | [_], _ => rfl
  have mDy := PySem.W.mg_of X G aDy
  have FNa := fun_mk (st := sNames) lNa cNa kNa
  have bNa := FNa.binds (ps := ["names", "least", "most"]) fun _ _ _ _ _ _ us hl => match us, hl with | [_, _, _], _ => rfl
  have mNa := PySem.W.mg_of X G aNa
  have FDf := fun_mk (st := sDiff) lDf cDf kDf
  have bDf := FDf.binds (ps := ["parts"]) fun _ _ _ _ _ _ us hl => match us, hl with | [_], _ => rfl
  have mDf := PySem.W.mg_of X G aDf
  have FRs := fun_mk (st := sRoads) lRs cRs kRs
  have bRs := FRs.binds (ps := ["roads", "day", "places", "kinds"]) fun _ _ _ _ _ _ us hl => match us, hl with | [_, _, _, _], _ => rfl
  have mRs := PySem.W.mg_of X G aRs
  have FRd := fun_mk (st := sRoad) lRd cRd kRd
  have bRd := FRd.binds (ps := ["road", "day", "places", "kinds"]) fun _ _ _ _ _ _ us hl => match us, hl with | [_, _, _, _], _ => rfl
  have mRd := PySem.W.mg_of X G aRd
  have FHr := fun_mk (st := sHours) lHr cHr kHr
  have bHr := FHr.binds (ps := ["hours", "day"]) fun _ _ _ _ _ _ us hl => match us, hl with | [_, _], _ => rfl
  have mHr := PySem.W.mg_of X G aHr
  have FBr := fun_mk (st := sBars) lBr cBr kBr
  have bBr := FBr.binds (ps := ["bars", "roads_by_name"]) fun _ _ _ _ _ _ us hl => match us, hl with | [_, _], _ => rfl
  have mBr := PySem.W.mg_of X G aBr
  have FEn := fun_mk (st := sEnter) lEn cEn kEn
  have bEn := FEn.binds (ps := ["chart", "name", "moment"]) fun _ _ _ _ _ _ us hl => match us, hl with | [_, _, _], _ => rfl
  have mEn := PySem.W.mg_of X G aEn
  have FAr := fun_mk (st := sArrive) lAr cAr kAr
  have bAr := FAr.binds (ps := ["chart", "name", "moment"]) fun _ _ _ _ _ _ us hl => match us, hl with | [_, _, _], _ => rfl
  have mAr := PySem.W.mg_of X G aAr
  have FCn := fun_mk (st := sNamesC) lCn cCn kCn
  have bCn := FCn.binds (ps := ["chart", "kind", "places", "roads"]) fun _ _ _ _ _ _ us hl => match us, hl with | [_, _, _, _], _ => rfl
  have mCn := PySem.W.mg_of X G aCn
  have FEv := fun_mk (st := sCanEver) lEv cEv kEv
  have bEv := FEv.binds (ps := ["chart", "kind", "name"]) fun _ _ _ _ _ _ us hl => match us, hl with | [_, _, _], _ => rfl
  have mEv := PySem.W.mg_of X G aEv
  have FRb := fun_mk (st := sRTurns) lRb cRb kRb
  have bRb := FRb.binds (ps := ["chart", "kind"]) fun _ _ _ _ _ _ us hl => match us, hl with | [_, _], _ => rfl
  have mRb := PySem.W.mg_of X G aRb
  have FTu := fun_mk (st := sTurns) lTu cTu kTu
  have bTu := FTu.binds (ps := ["chart", "kind", "start"]) fun _ _ _ _ _ _ us hl => match us, hl with | [_, _, _], _ => rfl
  have mTu := PySem.W.mg_of X G aTu
  have FSe := fun_mk (st := sSearch) lSe cSe kSe
  have bSe := FSe.binds (ps := ["chart", "kind", "start", "moment", "marks"]) fun _ _ _ _ _ _ us hl => match us, hl with | [_, _, _, _, _], _ => rfl
  have mSe := PySem.W.mg_of X G aSe
  have FPo := fun_mk (st := sPlaceOf) lPo cPo kPo
  have bPo := FPo.binds (ps := ["chart", "start", "state"]) fun _ _ _ _ _ _ us hl => match us, hl with | [_, _, _], _ => rfl
  have mPo := PySem.W.mg_of X G aPo
  have FEo := fun_mk (st := sEarlOf) lEo cEo kEo
  have bEo := FEo.binds (ps := ["came", "states"]) fun _ _ _ _ _ _ us hl => match us, hl with | [_, _], _ => rfl
  have mEo := PySem.W.mg_of X G aEo
  have FRo := fun_mk (st := sRouteTo) lRo cRo kRo
  have bRo := FRo.binds (ps := ["came", "state"]) fun _ _ _ _ _ _ us hl => match us, hl with | [_, _], _ => rfl
  have mRo := PySem.W.mg_of X G aRo
  have FEa := fun_mk (st := sEarliest) lEa cEa kEa
  have bEa := FEa.binds (ps := ["chart", "kind", "start", "goal", "moment"]) fun _ _ _ _ _ _ us hl => match us, hl with | [_, _, _, _, _], _ => rfl
  have mEa := PySem.W.mg_of X G aEa
  have FDl := fun_mk (st := sDelays) lDl cDl kDl
  have bDl := FDl.binds (ps := ["chart", "kind", "start", "goal", "moment"]) fun _ _ _ _ _ _ us hl => match us, hl with | [_, _, _, _, _], _ => rfl
  have mDl := PySem.W.mg_of X G aDl
  have FRw := fun_mk (st := sRow) lRw cRw kRw
  have bRw := FRw.binds (ps := ["cell", "many"]) fun _ _ _ _ _ _ us hl => match us, hl with | [_, _], _ => rfl
  have mRw := PySem.W.mg_of X G aRw
  have FNu := fun_mk (st := sNumbers) lNu cNu kNu
  have bNu := FNu.binds (ps := ["script", "many"]) fun _ _ _ _ _ _ us hl => match us, hl with | [_, _], _ => rfl
  have mNu := PySem.W.mg_of X G aNu
  have FLn := fun_mk (st := sLNames) lLn cLn kLn
  have bLn := FLn.binds (ps := ["number", "many"]) fun _ _ _ _ _ _ us hl => match us, hl with | [_, _], _ => rfl
  have mLn := PySem.W.mg_of X G aLn
  have FLh := fun_mk (st := sLHours) lLh cLh kLh
  have bLh := FLh.binds (ps := ["numbers", "at", "day"]) fun _ _ _ _ _ _ us hl => match us, hl with | [_, _, _], _ => rfl
  have mLh := PySem.W.mg_of X G aLh
  have FLr := fun_mk (st := sLRoadG) lLr cLr kLr
  have bLr := FLr.binds (ps := ["numbers", "at", "name", "day", "kinds", "places"]) fun _ _ _ _ _ _ us hl => match us, hl with | [_, _, _, _, _, _], _ => rfl
  have mLr := PySem.W.mg_of X G aLr
  have FLq := fun_mk (st := sLBarsG) lLq cLq kLq
  have bLq := FLq.binds (ps := ["numbers", "at", "roads"]) fun _ _ _ _ _ _ us hl => match us, hl with | [_, _, _], _ => rfl
  have mLq := PySem.W.mg_of X G aLq
  have FMp := fun_mk (st := sLPartsG) lMp cMp kMp
  have bMp := FMp.binds (ps := ["numbers", "at"]) fun _ _ _ _ _ _ us hl => match us, hl with | [_, _], _ => rfl
  have mMp := PySem.W.mg_of X G aMp
  have FMd := fun_mk (st := sLMade) lMd cMd kMd
  have bMd := FMd.binds (ps := ["parts"]) fun _ _ _ _ _ _ us hl => match us, hl with | [_], _ => rfl
  have mMd := PySem.W.mg_of X G aMd
  have FWt := fun_mk (st := sLWaits) lWt cWt kWt
  have bWt := FWt.binds (ps := ["road", "day", "moment"]) fun _ _ _ _ _ _ us hl => match us, hl with | [_, _, _], _ => rfl
  have mWt := PySem.W.mg_of X G aWt
  have FOv := fun_mk (st := sLOver) lOv cOv kOv
  have bOv := FOv.binds (ps := ["road", "day", "moment"]) fun _ _ _ _ _ _ us hl => match us, hl with | [_, _, _], _ => rfl
  have mOv := PySem.W.mg_of X G aOv
  have FOp := fun_mk (st := sLOpen) lOp cOp kOp
  have bOp := FOp.binds (ps := ["parts", "kind"]) fun _ _ _ _ _ _ us hl => match us, hl with | [_, _], _ => rfl
  have mOp := PySem.W.mg_of X G aOp
  have FFl := fun_mk (st := sLFollows) lFl cFl kFl
  have bFl := FFl.binds (ps := ["parts", "one", "other"]) fun _ _ _ _ _ _ us hl => match us, hl with | [_, _, _], _ => rfl
  have mFl := PySem.W.mg_of X G aFl
  have FLl := fun_mk (st := sLLabelsG) lLl cLl kLl
  have bLl := FLl.binds (ps := ["parts", "kind", "start", "moment"]) fun _ _ _ _ _ _ us hl => match us, hl with | [_, _, _, _], _ => rfl
  have mLl := PySem.W.mg_of X G aLl
  have FLe := fun_mk (st := sLEarlG) lLe cLe kLe
  have bLe := FLe.binds (ps := ["parts", "kind", "start", "goal", "moment"]) fun _ _ _ _ _ _ us hl => match us, hl with | [_, _, _, _, _], _ => rfl
  have mLe := PySem.W.mg_of X G aLe
  have FWo := fun_mk (st := sLWithout) lWo cWo kWo
  have bWo := FWo.binds (ps := ["parts", "names"]) fun _ _ _ _ _ _ us hl => match us, hl with | [_, _], _ => rfl
  have mWo := PySem.W.mg_of X G aWo
  have FLt := fun_mk (st := sLTrip) lLt cLt kLt
  have bLt := FLt.binds (ps := ["numbers", "at", "parts"]) fun _ _ _ _ _ _ us hl => match us, hl with | [_, _, _], _ => rfl
  have mLt := PySem.W.mg_of X G aLt
  have FIe := fun_mk (st := sWorse) lIe cIe kIe
  have bIe := FIe.binds (ps := ["delay", "other"]) fun _ _ _ _ _ _ us hl => match us, hl with | [_, _], _ => rfl
  have mIe := PySem.W.mg_of X G aIe
  have FWd := fun_mk (st := sWorst) lWd cWd kWd
  have bWd := FWd.binds (ps := ["chart", "kind", "start", "goal", "moment"]) fun _ _ _ _ _ _ us hl => match us, hl with | [_, _, _, _, _], _ => rfl
  have mWd := PySem.W.mg_of X G aWd
  have FLw := fun_mk (st := sLaw) lLw cLw kLw
  have bLw := FLw.binds (ps := ["script"]) fun _ _ _ _ _ _ us hl => match us, hl with | [_], _ => rfl
  have mLw := PySem.W.mg_of X G aLw
  have FRm := fun_mk (st := sRoadM) lRm cRm kRm
  have bRm := FRm.binds (ps := ["self", "name"]) fun _ _ _ _ _ _ us hl => match us, hl with | [_, _], _ => rfl
  have FCk := fun_mk (st := sCheck) lCk cCk kCk
  have bCk := FCk.binds (ps := ["self", "name"]) fun _ _ _ _ _ _ us hl => match us, hl with | [_, _], _ => rfl
  have FCp := fun_mk (st := sCheckP) lCp cCp kCp
  have bCp := FCp.binds (ps := ["self", "place"]) fun _ _ _ _ _ _ us hl => match us, hl with | [_, _], _ => rfl
  have FCi := fun_mk (st := sCheckK) lCi cCi kCi
  have bCi := FCi.binds (ps := ["self", "kind"]) fun _ _ _ _ _ _ us hl => match us, hl with | [_, _], _ => rfl
  have FRf := fun_mk (st := sRFrom) lRf cRf kRf
  have bRf := FRf.binds (ps := ["self", "place"]) fun _ _ _ _ _ _ us hl => match us, hl with | [_, _], _ => rfl
  have FFo := fun_mk (st := sFoll) lFo cFo kFo
  have bFo := FFo.binds (ps := ["self", "name"]) fun _ _ _ _ _ _ us hl => match us, hl with | [_, _], _ => rfl
  have FMu := fun_mk (st := sMayU) lMu cMu kMu
  have bMu := FMu.binds (ps := ["self", "kind", "name"]) fun _ _ _ _ _ _ us hl => match us, hl with | [_, _, _], _ => rfl
  have FWr := fun_mk (st := sWithoutR) lWr cWr kWr
  have bWr := FWr.binds (ps := ["self", "name"]) fun _ _ _ _ _ _ us hl => match us, hl with | [_, _], _ => rfl
  have FWp := fun_mk (st := sWithP) lWp cWp kWp
  have bWp := FWp.binds (ps := ["self", "places", "roads", "bars"]) fun _ _ _ _ _ _ us hl => match us, hl with | [_, _, _, _], _ => rfl
  have FRn := fun_mk (st := sRNames) lRn cRn kRn
  have bRn := FRn.binds (ps := ["self"]) fun _ _ _ _ _ _ us hl => match us, hl with | [_], _ => rfl
  have e_len := PySem.W.mg_none_of X G z_len
  have e_all := PySem.W.mg_none_of X G z_all
  have e_set := PySem.W.mg_none_of X G z_set
  have e_tuple := PySem.W.mg_none_of X G z_tuple
  have e_sorted := PySem.W.mg_none_of X G z_sorted
  have e_abs := PySem.W.mg_none_of X G z_abs
  have e_int := PySem.W.mg_none_of X G z_int
  have e_range := PySem.W.mg_none_of X G z_range
  have e_max := PySem.W.mg_none_of X G z_max
  have e_min := PySem.W.mg_none_of X G z_min
  have e_super := PySem.W.mg_none_of X G z_super
  have e_repr := PySem.W.mg_none_of X G z_repr
  have i_LONGEST_NAME := PySem.W.mg_of X G g_LONGEST_NAME
  have i_LONGEST_DAY := PySem.W.mg_of X G g_LONGEST_DAY
  have i_MOST_PLACES := PySem.W.mg_of X G g_MOST_PLACES
  have i_MOST_KINDS := PySem.W.mg_of X G g_MOST_KINDS
  have i_MOST_ROADS := PySem.W.mg_of X G g_MOST_ROADS
  have i_MOST_MINUTES := PySem.W.mg_of X G g_MOST_MINUTES
  have i_MOST_PAIRS := PySem.W.mg_of X G g_MOST_PAIRS
  have i_MOST_BARS := PySem.W.mg_of X G g_MOST_BARS
  have i_NAME := PySem.W.mg_of X G g_NAME
  have i_START := PySem.W.mg_of X G g_START
  have i_END := PySem.W.mg_of X G g_END
  have i_MINUTES := PySem.W.mg_of X G g_MINUTES
  have i_KINDS := PySem.W.mg_of X G g_KINDS
  have i_HOURS := PySem.W.mg_of X G g_HOURS
  have i_PARTS := PySem.W.mg_of X G g_PARTS
  have i_ROAD := PySem.W.mg_of X G g_ROAD
  have i_PASSED := PySem.W.mg_of X G g_PASSED
  have i_ARRIVAL := PySem.W.mg_of X G g_ARRIVAL
  have i_BEFORE := PySem.W.mg_of X G g_BEFORE
  have i_LETTERS := PySem.W.mg_of X G g_LETTERS
  have i_DIGITS := PySem.W.mg_of X G g_DIGITS
  have i_NO_ROAD := PySem.W.mg_of X G g_NO_ROAD
  have i_heappop := PySem.W.mg_of X G g_heappop
  have i_heappush := PySem.W.mg_of X G g_heappush
  have FRj := fun_mk (st := sRInit) lRj cRj kRj
  have bRj := FRj.binds (ps := ["self", "roads", "arrival"]) fun _ _ _ _ _ _ us hl => match us, hl with | [_, _, _], _ => rfl
  have mRt := PySem.W.mg_of X G aRt
  have eU := exm_two bU iU tU sU
  have TU : OexC K U := ⟨⟨_, _, _, _, _, _, _, _, _, _, _, _, _, _, _, lU, rvU⟩, saU, bU, tU, kU⟩
  have DU : ExcD K U := ⟨clU, gaU, ggU, bU, ccU, snU1, tkU, moU⟩
  have bXU : L2.Binds K (fdU .none kVXU dcXU pmXU anXU cdaXU ctXU ccXU) ["self", "name"] [] := .all fun us hl => match us, hl with | [_, _], _ => rfl
  have mU := PySem.W.mg_of X G gU
  have yU : XfC K U := xfB_ok xU
  have mB := PySem.W.mg_of X G gB
  have TM : TxtM K M := ⟨⟨pg, hd, po, sa⟩, n_day, n_kinds, n_places, n_roads, n__roads_by_name, n_bars, n__barred⟩
  have TN : Txt K mg M P := ⟨⟨_, i_LETTERS⟩, ⟨_, i_DIGITS⟩, ⟨_, i_LONGEST_NAME⟩, e_len, e_all⟩
  have FI : FunD K "__init__" "Map.__init__" (defArgs sInit) (defBody sInit) (defScope sInit) [] [("places", V.ref T1), ("roads", V.ref T2), ("bars", V.ref T0)] fI (PySem.W.fnOf "__init__" "Map.__init__" (defArgs sInit) (defBody sInit) (defScope sInit) .none (.ref D0) dcI pmI anI cdI ctI) :=
    ⟨⟨_, _, _, _, _, _, _, _, _, _, rfl, lI, cI, .inl ⟨rfl, rfl⟩, .inr ⟨D0, rfl, fun q hq => by
      simp only [List.mem_cons, List.not_mem_nil, or_false] at hq
      rcases hq with e | e | e <;> rw [e]
      · exact ⟨_, d_places, rfl⟩
      · exact ⟨_, d_roads, rfl⟩
      · exact ⟨_, d_bars, rfl⟩⟩⟩, kI⟩
  obtain ⟨mv, kb⟩ := map_binds FI
  have tabP : h.get? P = some { cls := .none, data := .fields #[] } := own _ (List.mem_singleton.mpr rfl) _ mNm qN P _ _ _ _ _ _ lNm rfl rfl lcN v11
  refine ⟨qN, P, spLaw K P, tabP, nP, PySem.W.codeHd_of_K X hcN, fun H a ns hl hT hS => ⟨a, ns, rfl, hS, hl, ⟨#[], hT, by first | trivial | exact True.intro | decide⟩, fun _ => rfl⟩, fun base KB NB TBL => ?_⟩
  have TBN : TabB base mg qN P := ⟨TBL.code, TBL.bm, TBL.gP⟩
  have GNm : FnOk l.prog w K mg base CX0 2 fNm _ ["text"] (spIsName P) := ok_isName FNm TN TBN rfl NB
  have GDy : FnOk l.prog w K mg base CX0 1 fDy _ ["day"] spDay := ok_day FDy i_LONGEST_DAY
  have GDf : FnOk l.prog w K mg base CX0 1 fDf _ ["parts"] (spDiff K) := ok_diff FDf e_len e_set
  have GHr : FnOk l.prog w K mg base CX0 1 fHr _ ["hours", "day"] (spHours K P) := ok_hours FHr e_len e_tuple i_MOST_PAIRS
  have GNa := ok_names FNa e_len e_tuple e_sorted GNm mNm kNm bNm GDf mDf kDf bDf
  have GRd := ok_road FRd e_tuple e_sorted i_MOST_MINUTES GDf mDf kDf bDf GHr mHr kHr bHr
  have GRs := ok_roads FRs e_len e_tuple e_sorted i_PARTS i_NAME i_MOST_ROADS GNa mNa kNa bNa GRd mRd kRd bRd
  have GBr : FnOk l.prog w K mg base CX0 2 fBr _ ["bars", "roads_by_name"] (spBars K P) := ok_bars FBr e_len e_tuple e_sorted i_MOST_BARS i_END i_START GDf mDf kDf bDf
  have GNaT := ok_namesT FNa e_len e_tuple e_sorted GNm mNm kNm bNm GDf mDf kDf bDf
  have GRsT := ok_roadsT FRs e_len e_tuple e_sorted i_PARTS i_NAME i_MOST_ROADS GNa mNa kNa bNa GRd mRd kRd bRd
  have GBrT : FnOk l.prog w K mg base CX0 2 fBr _ ["bars", "roads_by_name"] (spBarsT K P) := ok_barsT FBr e_len e_tuple e_sorted i_MOST_BARS i_END i_START GDf mDf kDf bDf
  have GIT := ok_initT FI TM i_NAME i_MOST_KINDS i_MOST_PLACES GDy mDy kDy bDy GNaT mNa kNa bNa GRs mRs kRs bRs GBr mBr kBr bBr
  have GITT := ok_initTT FI TM i_NAME i_MOST_KINDS i_MOST_PLACES GDy mDy kDy bDy GNaT mNa kNa bNa GRsT mRs kRs bRs GBrT mBr kBr bBr
  have GX : FnOk l.prog w K mg base CX0 1 fXU _ ["self", "name"] (spUInit K U) := ok_uinit lXU cXU coXU v2XU fiXU ceXU e_super toX TU muU opU suU svU nnU
  have GCk := ok_check FCk TM mU TU aXU tXU GX bXU
  have GCp := ok_checkP FCp TM mU TU aXU tXU GX bXU
  have GCi := ok_checkK FCi TM mU TU aXU tXU GX bXU
  have GRm := ok_roadM FRm TM ⟨aCk, iCk, kCk⟩ GCk bCk
  have GMu := ok_mayU (P := P) FMu TM ⟨aRm, iRm, kRm⟩ ⟨aCi, iCi, kCi⟩ i_KINDS GRm bRm GCi bCi
  have GEv := ok_ever FEv TM ⟨aRm, iRm, kRm⟩ ⟨aMu, iMu, kMu⟩ i_HOURS GRm bRm GMu bMu
  have GEn := ok_enter (P := P) FEn TM ⟨aRm, iRm, kRm⟩ i_HOURS e_max GRm bRm
  have GAr := ok_arrive FAr TM ⟨aRm, iRm, kRm⟩ i_MINUTES GRm bRm GEn mEn kEn bEn
  have GCn := ok_chkN (P := P) FCn TM ⟨aCi, iCi, kCi⟩ ⟨aCp, iCp, kCp⟩ ⟨aCk, iCk, kCk⟩ GCi bCi GCp bCp GCk bCk
  have GRn : FnOk l.prog w K mg base CX0 1 fRn _ ["self"] (spRNames K M P) := ok_rnames FRn TM e_tuple i_NAME
  have GRf := ok_rfrom (P := P) FRf TM i_NAME i_START ⟨aCp, iCp, kCp⟩ GCp bCp
  have GFo := ok_foll FFo TM i_END ⟨aRm, iRm, kRm⟩ ⟨aRf, iRf, kRf⟩ GRm bRm GRf bRf
  have GRb := ok_rturns (U := U) FRb TM ⟨aRn, pgRn, tkRn, ⟨_, rcRn⟩⟩ ⟨aFo, iFo, kFo⟩ GRn bRn GFo bFo GEv mEv kEv bEv
  have GTu := ok_turns (U := U) FTu TM i_NO_ROAD ⟨aRf, iRf, kRf⟩ GRb mRb kRb bRb GRf bRf GEv mEv kEv bEv
  have GSe := ok_search FSe TM i_NO_ROAD i_ROAD i_PASSED i_END i_heappop i_heappush ⟨aRm, iRm, kRm⟩ GTu mTu kTu bTu GRm bRm GAr mAr kAr bAr
  have GRw : FnOk l.prog w K mg base CX0 1 fRw _ ["cell", "many"] (spRow P) := ok_row FRw e_abs e_int e_range
  have GNu := ok_numbers FNu e_len e_max GRw mRw kRw bRw
  have GLn : FnOk l.prog w K mg base CX0 1 fLn _ ["number", "many"] (spLNames P) := ok_lnames FLn e_int e_range e_len e_min
  have TR : TxtR K Rt := ⟨⟨pgRt, hdRt, poRt, saRt⟩, nRt_roads, nRt_arrival⟩
  have MkR : L2.Mk K Rt fRj := ⟨mkRt, aRj, iRj, kpRt⟩
  have GRj : FnOk l.prog w K mg base CX0 1 fRj _ ["self", "roads", "arrival"] (spRoInit K Rt P) := ok_roInit FRj TR e_tuple
  have GPo := ok_placeOf (P := P) FPo TM i_NO_ROAD i_ROAD i_END ⟨aRm, iRm, kRm⟩ GRm bRm
  have GEo : FnOk l.prog w K mg base CX0 1 fEo _ ["came", "states"] (spEarlOf K P) := ok_earlOf FEo e_min i_ARRIVAL
  have GRo : FnOk l.prog w K mg base CX0 1 fRo _ ["came", "state"] (spRouteTo K P) := ok_routeTo FRo i_NO_ROAD i_ROAD i_BEFORE
  have GEa := ok_earliest (t2 := t_ARRIVAL) FEa i_ARRIVAL GCn mCn kCn bCn GSe mSe kSe bSe GPo mPo kPo bPo GEo mEo kEo bEo GRo mRo kRo bRo MkR mRt GRj bRj
  have GLh : FnOk l.prog w K mg base CX0 1 fLh _ ["numbers", "at", "day"] (spLHours K P) := ok_lhours FLh e_int e_tuple e_range
  have GLr := ok_lroadG FLr e_int e_len e_tuple e_range GLh mLh kLh bLh
  have GLq : FnOk l.prog w K mg base CX0 1 fLq _ ["numbers", "at", "roads"] (spLBarsG K P) := ok_lbarsG FLq e_int e_len e_tuple e_range e_sorted
  have GMp := ok_lpartsG FMp e_int e_tuple e_range e_sorted GLn mLn kLn bLn GLr mLr kLr bLr GLq mLq kLq bLq
  have GMd := ok_lmade FMd TM ⟨mk, aI, iI, kM⟩ (PySem.W.mg_of X G aM) GITT kb
  have GWp := ok_withP FWp TM ⟨mk, aI, iI, kM⟩ (PySem.W.mg_of X G aM) GIT kb
  have GWr := ok_woR FWr TM i_NAME ⟨aCk, iCk, kCk⟩ GCk bCk ⟨aWp, iWp, kWp⟩ GWp bWp
  have GDl := ok_delays FDl TM TR GEa mEa kEa bEa ⟨aRn, pgRn, tkRn, ⟨_, rcRn⟩⟩ GRn bRn ⟨aWr, iWr, kWr⟩ GWr bWr
  have GWt : FnOk l.prog w K mg base CX0 1 fWt _ ["road", "day", "moment"] (spLWaits K P) := ok_lwaits FWt e_int e_len e_min
  have GOv := ok_lover FOv GWt mWt kWt bWt
  have GOp : FnOk l.prog w K mg base CX0 1 fOp _ ["parts", "kind"] (spLOpen K P) := ok_lopen FOp
  have GFl : FnOk l.prog w K mg base CX0 1 fFl _ ["parts", "one", "other"] (spLFollows K P) := ok_lfollows FFl
  have GLl := ok_llabelsG FLl e_len e_range GOp mOp kOp bOp GOv mOv kOv bOv GFl mFl kFl bFl
  have GLe := ok_learlG FLe e_min GLl mLl kLl bLl
  have GWo : FnOk l.prog w K mg base CX0 1 fWo _ ["parts", "names"] (spLWithout K P) := ok_lwithout FWo e_tuple
  have GLt : FnOk l.prog w K mg base CX0 1 fLt _ ["numbers", "at", "parts"] (spLTripG K P) := ok_ltripG FLt e_int e_len
  have GIe : FnOk l.prog w K mg base CX0 1 fIe _ ["delay", "other"] (spWorse K) := ok_worse FIe
  have GWd := ok_worst FWd GDl mDl kDl bDl GIe mIe kIe bIe
  exact ok_law lLw cLw (fun s v => .of_eq rfl) e_repr GNu mNu kNu bNu GMp mMp kMp bMp GMd mMd kMd bMd GLt mLt kLt bLt GLe mLe kLe bLe GWo mWo kWo bWo GWd mWd kWd bWd
end W

set_option Elab.async false
open PySem PySem.W PyProof.Rows in
set_option maxRecDepth 100000 in
set_option maxHeartbeats 0 in
theorem PySem.Challenge.cw_waypapers_k37_worst_delays_holds : PySem.Challenge.rw_waypapers_k37_worst_delays.Holds := by
  w_on; o_law; k_head; (case hw => w_witness2)
  k_fill
  refine MyR.walk_ofG (l := PySem.Challenge.rw_waypapers_k37_worst_delays) (n := 63) (CX := fun w => L2.CX (PySem.Challenge.rw_waypapers_k37_worst_delays).prog w) ["is_name"] rfl (by decide) rfl (by decide +kernel) (fun w h Y => PySem.W.kIn_of Y) ?F (fun w H s e s' h => W.no_fly w H s e s' h)
  case F =>
    intro w mg fa h Y KX G hmg own
    refine' W.all_mk KX G hmg own ?aM ?gU ?gB ?aNm ?lNm ?cNm ?kNm ?aDy ?lDy ?cDy ?kDy ?aNa ?lNa ?cNa ?kNa ?aDf ?lDf ?cDf ?kDf ?aRs ?lRs ?cRs ?kRs ?aRd ?lRd ?cRd ?kRd ?aHr ?lHr ?cHr ?kHr ?aBr ?lBr ?cBr ?kBr ?aEn ?lEn ?cEn ?kEn ?aAr ?lAr ?cAr ?kAr ?aCn ?lCn ?cCn ?kCn ?aEv ?lEv ?cEv ?kEv ?aRb ?lRb ?cRb ?kRb ?aTu ?lTu ?cTu ?kTu ?aSe ?lSe ?cSe ?kSe ?aPo ?lPo ?cPo ?kPo ?aEo ?lEo ?cEo ?kEo ?aRo ?lRo ?cRo ?kRo ?aEa ?lEa ?cEa ?kEa ?aDl ?lDl ?cDl ?kDl ?aRw ?lRw ?cRw ?kRw ?aNu ?lNu ?cNu ?kNu ?aLn ?lLn ?cLn ?kLn ?aLh ?lLh ?cLh ?kLh ?aLr ?lLr ?cLr ?kLr ?aLq ?lLq ?cLq ?kLq ?aMp ?lMp ?cMp ?kMp ?aMd ?lMd ?cMd ?kMd ?aWt ?lWt ?cWt ?kWt ?aOv ?lOv ?cOv ?kOv ?aOp ?lOp ?cOp ?kOp ?aFl ?lFl ?cFl ?kFl ?aLl ?lLl ?cLl ?kLl ?aLe ?lLe ?cLe ?kLe ?aWo ?lWo ?cWo ?kWo ?aLt ?lLt ?cLt ?kLt ?aIe ?lIe ?cIe ?kIe ?aWd ?lWd ?cWd ?kWd ?aLw ?lLw ?cLw ?kLw ?aRm ?iRm ?lRm ?cRm ?kRm ?aCk ?iCk ?lCk ?cCk ?kCk ?aCp ?iCp ?lCp ?cCp ?kCp ?aCi ?iCi ?lCi ?cCi ?kCi ?aRf ?iRf ?lRf ?cRf ?kRf ?aFo ?iFo ?lFo ?cFo ?kFo ?aMu ?iMu ?lMu ?cMu ?kMu ?aWr ?iWr ?lWr ?cWr ?kWr ?aWp ?iWp ?lWp ?cWp ?kWp ?aRn ?pgRn ?tkRn ?rcRn ?lRn ?cRn ?kRn ?lcN ?v11 ?hcN ?nP ?aI ?iI ?lI ?cI ?kI ?d_places ?d_roads ?d_bars ?pg ?hd ?po ?sa ?mk ?kM ?n_day ?n_kinds ?n_places ?n_roads ?n__roads_by_name ?n_bars ?n__barred ?snU1 ?tkU ?opU ?toX ?lU ?rvU ?saU ?bU ?tU ?kU ?iU ?sU ?xU ?clU ?gaU ?ggU ?ccU ?moU ?muU ?suU ?svU ?nnU ?aXU ?tXU ?lXU ?cXU ?coXU ?v2XU ?fiXU ?ceXU ?aRt ?aRj ?iRj ?lRj ?cRj ?kRj ?pgRt ?hdRt ?poRt ?saRt ?mkRt ?kpRt ?nRt_roads ?nRt_arrival ?g_LONGEST_NAME ?g_LONGEST_DAY ?g_MOST_PLACES ?g_MOST_KINDS ?g_MOST_ROADS ?g_MOST_MINUTES ?g_MOST_PAIRS ?g_MOST_BARS ?g_NAME ?g_START ?g_END ?g_MINUTES ?g_KINDS ?g_HOURS ?g_PARTS ?g_ROAD ?g_PASSED ?g_ARRIVAL ?g_BEFORE ?g_LETTERS ?g_DIGITS ?g_NO_ROAD ?g_heappop ?g_heappush ?z_len ?z_all ?z_set ?z_tuple ?z_sorted ?z_abs ?z_int ?z_range ?z_max ?z_min ?z_super ?z_repr
    (case aM => k_is)
    (case gU => k_is)
    (case gB => k_is)
    (case aNm => k_is)
    (case lNm => k_is)
    (case cNm => k_is)
    (case kNm => k_is)
    (case aDy => k_is)
    (case lDy => k_is)
    (case cDy => k_is)
    (case kDy => k_is)
    (case aNa => k_is)
    (case lNa => k_is)
    (case cNa => k_is)
    (case kNa => k_is)
    (case aDf => k_is)
    (case lDf => k_is)
    (case cDf => k_is)
    (case kDf => k_is)
    (case aRs => k_is)
    (case lRs => k_is)
    (case cRs => k_is)
    (case kRs => k_is)
    (case aRd => k_is)
    (case lRd => k_is)
    (case cRd => k_is)
    (case kRd => k_is)
    (case aHr => k_is)
    (case lHr => k_is)
    (case cHr => k_is)
    (case kHr => k_is)
    (case aBr => k_is)
    (case lBr => k_is)
    (case cBr => k_is)
    (case kBr => k_is)
    (case aEn => k_is)
    (case lEn => k_is)
    (case cEn => k_is)
    (case kEn => k_is)
    (case aAr => k_is)
    (case lAr => k_is)
    (case cAr => k_is)
    (case kAr => k_is)
    (case aCn => k_is)
    (case lCn => k_is)
    (case cCn => k_is)
    (case kCn => k_is)
    (case aEv => k_is)
    (case lEv => k_is)
    (case cEv => k_is)
    (case kEv => k_is)
    (case aRb => k_is)
    (case lRb => k_is)
    (case cRb => k_is)
    (case kRb => k_is)
    (case aTu => k_is)
    (case lTu => k_is)
    (case cTu => k_is)
    (case kTu => k_is)
    (case aSe => k_is)
    (case lSe => k_is)
    (case cSe => k_is)
    (case kSe => k_is)
    (case aPo => k_is)
    (case lPo => k_is)
    (case cPo => k_is)
    (case kPo => k_is)
    (case aEo => k_is)
    (case lEo => k_is)
    (case cEo => k_is)
    (case kEo => k_is)
    (case aRo => k_is)
    (case lRo => k_is)
    (case cRo => k_is)
    (case kRo => k_is)
    (case aEa => k_is)
    (case lEa => k_is)
    (case cEa => k_is)
    (case kEa => k_is)
    (case aDl => k_is)
    (case lDl => k_is)
    (case cDl => k_is)
    (case kDl => k_is)
    (case aRw => k_is)
    (case lRw => k_is)
    (case cRw => k_is)
    (case kRw => k_is)
    (case aNu => k_is)
    (case lNu => k_is)
    (case cNu => k_is)
    (case kNu => k_is)
    (case aLn => k_is)
    (case lLn => k_is)
    (case cLn => k_is)
    (case kLn => k_is)
    (case aLh => k_is)
    (case lLh => k_is)
    (case cLh => k_is)
    (case kLh => k_is)
    (case aLr => k_is)
    (case lLr => k_is)
    (case cLr => k_is)
    (case kLr => k_is)
    (case aLq => k_is)
    (case lLq => k_is)
    (case cLq => k_is)
    (case kLq => k_is)
    (case aMp => k_is)
    (case lMp => k_is)
    (case cMp => k_is)
    (case kMp => k_is)
    (case aMd => k_is)
    (case lMd => k_is)
    (case cMd => k_is)
    (case kMd => k_is)
    (case aWt => k_is)
    (case lWt => k_is)
    (case cWt => k_is)
    (case kWt => k_is)
    (case aOv => k_is)
    (case lOv => k_is)
    (case cOv => k_is)
    (case kOv => k_is)
    (case aOp => k_is)
    (case lOp => k_is)
    (case cOp => k_is)
    (case kOp => k_is)
    (case aFl => k_is)
    (case lFl => k_is)
    (case cFl => k_is)
    (case kFl => k_is)
    (case aLl => k_is)
    (case lLl => k_is)
    (case cLl => k_is)
    (case kLl => k_is)
    (case aLe => k_is)
    (case lLe => k_is)
    (case cLe => k_is)
    (case kLe => k_is)
    (case aWo => k_is)
    (case lWo => k_is)
    (case cWo => k_is)
    (case kWo => k_is)
    (case aLt => k_is)
    (case lLt => k_is)
    (case cLt => k_is)
    (case kLt => k_is)
    (case aIe => k_is)
    (case lIe => k_is)
    (case cIe => k_is)
    (case kIe => k_is)
    (case aWd => k_is)
    (case lWd => k_is)
    (case cWd => k_is)
    (case kWd => k_is)
    (case aLw => k_is)
    (case lLw => k_is)
    (case cLw => k_is)
    (case kLw => k_is)
    (case aRm => k_is)
    (case iRm => k_is)
    (case lRm => k_is)
    (case cRm => k_is)
    (case kRm => k_is)
    (case aCk => k_is)
    (case iCk => k_is)
    (case lCk => k_is)
    (case cCk => k_is)
    (case kCk => k_is)
    (case aCp => k_is)
    (case iCp => k_is)
    (case lCp => k_is)
    (case cCp => k_is)
    (case kCp => k_is)
    (case aCi => k_is)
    (case iCi => k_is)
    (case lCi => k_is)
    (case cCi => k_is)
    (case kCi => k_is)
    (case aRf => k_is)
    (case iRf => k_is)
    (case lRf => k_is)
    (case cRf => k_is)
    (case kRf => k_is)
    (case aFo => k_is)
    (case iFo => k_is)
    (case lFo => k_is)
    (case cFo => k_is)
    (case kFo => k_is)
    (case aMu => k_is)
    (case iMu => k_is)
    (case lMu => k_is)
    (case cMu => k_is)
    (case kMu => k_is)
    (case aWr => k_is)
    (case iWr => k_is)
    (case lWr => k_is)
    (case cWr => k_is)
    (case kWr => k_is)
    (case aWp => k_is)
    (case iWp => k_is)
    (case lWp => k_is)
    (case cWp => k_is)
    (case kWp => k_is)
    (case aRn => k_is)
    (case pgRn => k_is)
    (case tkRn => k_is)
    (case rcRn => first | k_is | rfl | kernel_rfl)
    (case lRn => k_is)
    (case cRn => k_is)
    (case kRn => k_is)
    (case lcN => k_is)
    (case v11 => rfl)
    (case hcN => kernel_rfl)
    (case nP => kernel_rfl)
    (case aI => k_is)
    (case iI => k_is)
    (case lI => k_is)
    (case cI => k_is)
    (case kI => k_is)
    (case d_places => k_is)
    (case d_roads => k_is)
    (case d_bars => k_is)
    (case pg => k_is)
    (case hd => k_is)
    (case po => k_is)
    (case sa => k_is)
    (case mk => k_is)
    (case kM => k_is)
    (case n_day => k_is)
    (case n_kinds => k_is)
    (case n_places => k_is)
    (case n_roads => k_is)
    (case n__roads_by_name => k_is)
    (case n_bars => k_is)
    (case n__barred => k_is)
    (case snU1 => k_is)
    (case tkU => k_is)
    (case opU => k_is)
    (case toX => first | rfl | decide +kernel | kernel_rfl)
    (case lU => k_is)
    (case rvU => rfl)
    (case saU => k_is)
    (case bU => k_is)
    (case tU => k_is)
    (case kU => k_is)
    (case iU => k_is)
    (case sU => first | rfl | k_is)
    (case xU => first | kernel_rfl | k_is)
    (case clU => first | kernel_rfl | k_is)
    (case gaU => k_is)
    (case ggU => k_is)
    (case ccU => k_is)
    (case moU => k_is)
    (case muU => k_is)
    (case suU => first | kernel_rfl | k_is)
    (case svU => k_is)
    (case nnU => k_is)
    (case aXU => k_is)
    (case tXU => k_is)
    (case lXU => k_is)
    (case cXU => k_is)
    (case coXU => k_is)
    (case v2XU => rfl)
    (case fiXU => first | rfl | decide +kernel | kernel_rfl)
    (case ceXU => k_is)
    (case aRt => k_is)
    (case aRj => k_is)
    (case iRj => k_is)
    (case lRj => k_is)
    (case cRj => k_is)
    (case kRj => k_is)
    (case pgRt => k_is)
    (case hdRt => k_is)
    (case poRt => k_is)
    (case saRt => k_is)
    (case mkRt => k_is)
    (case kpRt => k_is)
    (case nRt_roads => k_is)
    (case nRt_arrival => k_is)
    (case g_LONGEST_NAME => k_is)
    (case g_LONGEST_DAY => k_is)
    (case g_MOST_PLACES => k_is)
    (case g_MOST_KINDS => k_is)
    (case g_MOST_ROADS => k_is)
    (case g_MOST_MINUTES => k_is)
    (case g_MOST_PAIRS => k_is)
    (case g_MOST_BARS => k_is)
    (case g_NAME => k_is)
    (case g_START => k_is)
    (case g_END => k_is)
    (case g_MINUTES => k_is)
    (case g_KINDS => k_is)
    (case g_HOURS => k_is)
    (case g_PARTS => k_is)
    (case g_ROAD => k_is)
    (case g_PASSED => k_is)
    (case g_ARRIVAL => k_is)
    (case g_BEFORE => k_is)
    (case g_LETTERS => k_is)
    (case g_DIGITS => k_is)
    (case g_NO_ROAD => k_is)
    (case g_heappop => k_is)
    (case g_heappush => k_is)
    (case z_len => k_is)
    (case z_all => k_is)
    (case z_set => k_is)
    (case z_tuple => k_is)
    (case z_sorted => k_is)
    (case z_abs => k_is)
    (case z_int => k_is)
    (case z_range => k_is)
    (case z_max => k_is)
    (case z_min => k_is)
    (case z_super => k_is)
    (case z_repr => k_is)

