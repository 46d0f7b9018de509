import PyProof.Rows.All
import Wide.All
import OpenK.AllK
import Wide.FinOn
import HandS.ForMost
import HandS.ForExc
import HandS.AnyAll
import HandS.TupSets
import HandS.Strs
import HandS.Sort
import HandS.SortOrd
import HandS.SortRule
import KE.KSortTup
import PyProof.EqAt
import PyProof.EqKinds
import HandS.DictComp
import HandS.FStr
import HandS.RaiseMore
import HandS.MakeKwOnly
import HandS.EndTab
import KE.KNestM
import HandS.Defaults
import HandS.Codes
import HandS.Text
import PyProof.ReprRoads
import PyProof.ReprLen
import HandS.EndOwn
import HandS.ExcInit
import KE.KExcSuper
import KE.KExcIs
import HandS.ExcField
import HandS.ExcOwn
import HandS.TryMany
import HandS.Star
import HandS.TryOnly
import HandS.TupAny
import HandS.Deep
import HandS.Base
import HandS.Call
import HandS.List
import HandS.Replace
import HandS.ReplaceLit
import PyProof.ToksMono
import HandS.ReplaceList
import PySem.Challenge.RW_waypapers_k68_texts_that_are_no_papers
set_option Elab.async false
set_option linter.all false
set_option maxRecDepth 100000
set_option maxHeartbeats 4000000
/-! all(test for x in text), where the test reads constants of the module: the walked element knows the base heap and the def's globals. -/
namespace MyG
open PySem PySem.Spec PyProof.Rows L2 GxR
/-- what the element's evaluation may lean on: the base heap stands, the globals are the module's, no exception is handled -/
def EltB (prog : Program) (w : World) (base : Heap) (scope : Scope) (x : Str) (elt : Expr) (pb : Nat → Bool) : Prop :=
  ∀ (ce : Env) (B : Around) (F : Value → Shared → Prop) (c : Nat) (t : Tok) (z : Shared) (m : Str → Option Value),
    ce.scope = scope → ce.globals = mainGlobals → B.handled = none → (∀ b o, base.get? b = some o → z.heap.get? b = some o) →
    z.heap.Ns ce.locals m → m x = some (.str ⟨#[c]⟩ t) → wpAny (model prog w) B (eval elt ce) (fun y z' => y = .bool (pb c) ∧ Keeps z z') F z
section
variable {X : Cx} {pins : List (Addr × Obj)} {σ : L2.St} {H : Hp} {s : Shared}
theorem genB {c P : Addr} {elt iter : Expr} {x : Str} {px gpos : Pos} {scope : Scope} {pb : Nat → Bool} {te : TE} {k : Nat} {Q' : Value → Shared → Prop} {R : Str → Hp → Prop}
    (hr : Room k X.A) (TB : TabB X.base X.mg c P) (hcode : X.env.code = .ref c) (S : GenS X.env scope x) (hi : PE X iter te) (hel : EltB X.prog X.w X.base scope x elt pb)
    (hs : ∀ v, genFold iter X.env v = pure v) (I : Inv X pins σ H s) (h : te σ H fun v H1 => ∃ a : Str, v = .str a ∧ TabG H1 P ∧ R a H1)
    (hQ : ∀ a H1 g z, R a H1 → Ready X pins σ H1 P a pb g z → Q' (.ref g) z) :
    wpAny (model X.prog X.w) X.A (eval (.GeneratorExp elt [⟨.Name x px, iter, [], 0⟩] scope gpos) X.env) Q' X.xe s := by
  refine wpAny_GeneratorExp_walksQ hr.hd S.co (closure_ok S.free) S.cell S.dot S.loc S.kind (by have := hr.dp; omega) ?_ hs
  refine thn (hi.run pins s σ H _ I h) fun xv s1 ⟨v, H1, I1, r1, a, ev, tb, q1⟩ => ?_
  subst ev
  obtain ⟨t, rfl⟩ := _root_.id r1
  obtain ⟨ps, hP, ht⟩ := tb
  refine wpAny_pyIter_str fun o St W hst => ?_
  have eP : s1.heap.get? P = some { cls := .none, data := .fields ps } := I1.hok P _ hP
  have ltP : P < s1.heap.objs.size := Heap.lt_size eP
  have eP2 := Heap.get?_push_of_some o eP
  have cd : PySem.W.CodeHd (s1.heap.push o) c P := TB.code.keeps fun b u e => Heap.get?_push_of_some _ (I1.bk b u e)
  have lim := I1.nolimit.push o
  have szp : (s1.heap.push o).objs.size = s1.heap.objs.size + 1 := Heap.size_push ..
  -- the base is not the table
  have nbP : ∀ b u, X.base.get? b = some u → b ≠ P := fun b u e z => by
    have q := (I1.bs b u e).2
    rw [z, hP] at q
    cases q
  have stP : cStatics ≠ P := fun e => by
    obtain ⟨_, ⟨o', es, ep, ho, hd, _⟩, _⟩ := I1.nolimit
    rw [e, eP] at ho
    cases ho
    cases hd
  have stlt : cStatics < s1.heap.objs.size := let ⟨_, hns, _⟩ := I1.nolimit; hns.lt
  -- behind the code object (made or found): h3, the table ps'
  have go : ∀ (code : Value) (h3 : Heap) (tk : Nat) (more : Array Value), Heap.ExtBut P (s1.heap.push o) h3 → (s1.heap.push o).objs.size ≤ h3.objs.size → h3.get? P = some { cls := .none, data := .fields (ps ++ more) } → TriplesOk (ps ++ more).toList →
      wpAny (model X.prog X.w) X.A (builtinsFor X.env.globals X.env.builtins) (fun bi s₄ =>
        ∃ Ia fp wr n₀ Pf St₀ pz F, Value.ref s1.heap.objs.size = .ref Ia ∧ (∀ A' : Around, A'.handled = none → Walks X.prog X.w A' Ia fp wr n₀ Pf St₀) ∧ St₀ 0 s₄.heap ∧ (∀ b ∈ fp, b < s₄.heap.objs.size) ∧ s₄.heap.NoLimit ∧ cStatics ∉ wr ∧
          (∀ href : Heap, (∀ b o, s₄.heap.get? b = some o → href.get? b = some o) →
            QuietGen X.prog X.w (genEnv scope (cloFrom X.env.cells scope.names []) s₄.heap.objs.size code bi X.env) x [] elt (List.range s₄.heap.objs.size) wr Pf pz F href) ∧
          (∀ a h₅ tk gs, gs.bare = true → s₄.heap.objs.size < a → h₅.objs.size = a + 1 → (∀ b o, s₄.heap.get? b = some o → h₅.get? b = some o) →
            WalksS X.prog X.w X.A.in4 a (a :: s₄.heap.objs.size :: List.range s₄.heap.objs.size) (s₄.heap.objs.size :: wr) (GenOnlyQ s₄.gens.size) (passing pz n₀ 0).length
              (fun j y => ∃ i, (passing pz n₀ 0)[j]? = some i ∧ F i y) (GenAt X.prog X.w X.A.in4 a s₄.gens.size s₄.heap.objs.size (List.range s₄.heap.objs.size) wr pz n₀ F) →
            GenAt X.prog X.w X.A.in4 a s₄.gens.size s₄.heap.objs.size (List.range s₄.heap.objs.size) wr pz n₀ F 0 { s₄ with gens := s₄.gens.push gs, toks := tk, heap := h₅ } →
            Q' (.ref a) { s₄ with gens := s₄.gens.push gs, toks := tk, heap := h₅ })) X.xe { s1 with heap := h3, toks := tk } := by
    intro code h3 tk more hx hsz e3 ht3
    obtain ⟨bm, ob, b1, b2, b3, b4, b5, b6, b7, b8⟩ := TB.bm
    have old : ∀ b u, b ≠ P → s1.heap.get? b = some u → h3.get? b = some u := fun b u hb e => hx b u hb (Heap.get?_push_of_some _ e)
    refine wpAny_builtinsFor (m := X.mg) (by rw [I1.ok.glob]; exact ((I1.mod.glob.keeps I1.bk).push o).extBut hx TB.gP) b1 b2 (old _ _ b4 (I1.bk _ _ b5)) b6 b7 b8 ?_
    refine ⟨s1.heap.objs.size, [s1.heap.objs.size], [s1.heap.objs.size], a.cps.size, SignAt a, St, (fun _ => true), (fun i y => ∃ cc, a.cps[i]? = some cc ∧ y = .bool (pb cc)), rfl, W, ?_, ?_, lim.extBut hx stP, ?_, ?_, ?_⟩
    · refine (W X.A hr.hd).frame _ _ _ hst fun b hb u e => hx b u (fun z => ?_) e
      have hb' : b = s1.heap.objs.size := List.mem_singleton.mp hb
      exact Nat.ne_of_lt ltP (z.symm.trans hb')
    · intro b hb
      have hb' : b = s1.heap.objs.size := List.mem_singleton.mp hb
      rw [hb']
      exact Nat.lt_of_lt_of_le (by rw [szp]; exact Nat.lt_succ_self _) hsz
    · intro z
      exact Nat.ne_of_lt stlt (List.mem_singleton.mp z)
    · intro href hk
      constructor
      · intro A' E' i v s₂ m₂ hA hPv hn hm hk2
        simp only [List.forIn_nil]
        exact wpAny_pure ⟨rfl, keeps_refl _⟩
      · intro A' E' i v s₂ m₂ hA hPv hp hn hm hk2
        obtain ⟨cc, u, hcc, rfl⟩ := hPv
        refine wpAny_mono (hel _ A' E' cc u s₂ m₂ rfl I1.ok.glob hA (fun b w' e => ?_) hn hm) (fun y s3 r => ⟨⟨cc, hcc, r.1⟩, r.2⟩) fun _ _ e => e
        have e1 := I1.bk b w' e
        have e2 := old b w' (nbP b w' e) e1
        have l1 : b < s1.heap.objs.size := Heap.lt_size e1
        refine hk2 b (List.mem_range.mpr (Heap.lt_size e2)) (fun z => ?_) w' (hk b w' e2)
        exact Nat.ne_of_lt l1 (List.mem_singleton.mp z)
    · intro g h5 tk5 gs hgb hag hsz5 hk5 W5 hat
      simp only [GxR.passing_true, List.length_range] at W5
      refine hQ a H1 g _ q1 ⟨_, _, _, _, _, W5.in4_1, hat, ?_, fun s' hm => ?_⟩
      · intro j y sj Qj Ej hy hQj
        obtain ⟨i, hij, cc, hcc, rfl⟩ := hy
        obtain ⟨hj, ej⟩ := List.getElem?_eq_some_iff.mp hij
        rw [List.getElem_range] at ej
        subst ej
        have e9 : a.cps.toList[j]? = some cc := by rw [Array.getElem?_toList]; exact hcc
        have hQ2 : Qj (trF pb a.cps.toList j) sj := hQj
        rw [trF_some e9] at hQ2
        exact wpAny_truthy_bool hQ2
      · have nwr : ∀ b u, s1.heap.get? b = some u → b ∉ h3.objs.size :: [s1.heap.objs.size] := fun b u e hb => by
          have hl := Heap.lt_size e
          rcases List.mem_cons.mp hb with z | z
          · exact Nat.ne_of_lt (Nat.lt_of_lt_of_le (Nat.lt_trans hl (Nat.lt_succ_self _)) (Nat.le_trans (Nat.le_of_eq szp.symm) hsz)) z
          · exact Nat.ne_of_lt hl (List.mem_singleton.mp z)
        have J := inv_tab (more := more) (h' := s'.heap) (g' := s'.gens) (d' := s'.drawn) (t' := s'.toks) I1 hP (fun b u hb e => hm.heap b u (nwr b u e) (hk5 b u (old b u hb e)))
          (hm.heap P _ (nwr P _ eP) (hk5 P _ e3)) (AllBare.movedS (I1.bare.push hgb) hm)
        rw [sh_eta s1 s' hm.os] at J
        exact ⟨upd H1 P (.tbl (ps ++ more)), ⟨⟨ps ++ more, upd_same, ht3⟩, fun b hb => upd_ne hb⟩, J⟩
  refine ⟨lim, ?_⟩
  cases hf : codeAmong gpos ps.toList with
  | none =>
    refine wpAny_genexprCodeX hcode (cd.code eP2 ht) (cd.tab eP2) hf fun c' h' tk hx hge hlt hco' _ htab' _ => ?_
    obtain ⟨o1, vs, f1, tf, fl, tg, inF, tx, tt, op, _, _, _, _, _, _, _, _, _, htr, _⟩ := hco'
    exact go _ h' tk _ hx (Nat.le_trans hge (Nat.le_of_lt hlt)) htab'.2 htr
  | some cv =>
    refine wpAny_genexprCode_hit hcode (cd.code eP2 ht) hf ?_
    refine go cv (s1.heap.push o) s1.toks #[] (Heap.ExtBut.refl _ _) (Nat.le_refl _) ?_ ?_
    · rw [Array.append_empty]; exact eP2
    · rw [Array.append_empty]; exact ht

/-- all(test for x in e), e a text -/
theorem pe_allB {c P : Addr} {elt iter : Expr} {x : Str} {px p pos gpos : Pos} {scope : Scope} {pb : Nat → Bool} {te : TE} {k : Nat}
    (hr : Room k X.A) (hg : Gl X "all") (hm : X.mg "all" = none) (TB : TabB X.base X.mg c P) (hcode : X.env.code = .ref c) (S : GenS X.env scope x) (hi : PE X iter te) (hel : EltB X.prog X.w X.base scope x elt pb)
    (hs : ∀ v, genFold iter X.env v = pure v)
    (he : starEach [.GeneratorExp elt [⟨.Name x px, iter, [], 0⟩] scope gpos] X.env = (false, eval (.GeneratorExp elt [⟨.Name x px, iter, [], 0⟩] scope gpos) X.env) :: starEach [] X.env := by rfl) :
    PE X (.Call (.Name "all" p) [.GeneratorExp elt [⟨.Name x px, iter, [], 0⟩] scope gpos] [] pos) (tAllS P pb te) := by
  refine ⟨fun pins s σ H Q I h => ?_⟩
  refine wpAny_Call_Name_kw (ld_blt I hg hm (by decide +kernel : bootBuiltins "all" = some (.builtin "all")) ?_)
  refine PyProof.Rows.callWith_builtin1 ?_ he (by rfl)
  rw [he]
  refine Calls.spliced_cons (genB (R := fun a H1 => ∀ H2, Tabbed P H1 H2 → Q (.bl (a.cps.toList.all pb)) H2) hr TB hcode S hi hel hs I h fun a H1 g z hR hG => Calls.spliced_nil ?_)
  obtain ⟨fp, wr, G, F, St, W, hst, htr, hI⟩ := hG
  refine call_all_walkS (W.self 0 _ _ _ hst ⟨g, fp, wr, G, _, F, St, _, rfl, W, hst, htr, fun s' hmv => ?_⟩)
  obtain ⟨H2, hT, J⟩ := hI s' hmv
  exact ⟨.bl _, H2, J, rfl, by rw [all_signs a pb]; exact hR H2 hT⟩
end
end MyG

set_option Elab.async false
set_option linter.all false
set_option maxRecDepth 100000
set_option maxHeartbeats 4000000
/-! set(xs) of a list or a tuple, by what one adding does: J i h says what the set at S holds of the first i items in the heap h. -/
namespace MyS
open PySem PySem.Spec PyProof.Rows L2
section
variable {P : Program} {w : World} {A : Around} {E : Value → Shared → Prop} {s : Shared}
/-- one adding -/
def Adds (P : Program) (w : World) (A : Around) (S : Addr) (h0 : Heap) (J : Nat → Heap → Prop) (i : Nat) (v : Value) : Prop :=
  ∀ (z : Shared) (Q : Bool → Shared → Prop) (E : Value → Shared → Prop), J i z.heap → (∀ b o, h0.get? b = some o → z.heap.get? b = some o) →
    (∀ b h' tk, z.toks ≤ tk → Heap.SameBut S z.heap h' → J (i + 1) h' → Q b { z with heap := h', toks := tk }) → wpAny (model P w) A (setAdd S v) Q E z
def KeepsJ (S : Addr) (h0 : Heap) (J : Nat → Heap → Prop) : Prop := ∀ i h h', J i h → (∀ o, h.get? S = some o → h'.get? S = some o) → (∀ b o, h0.get? b = some o → h'.get? b = some o) → J i h'
theorem loopJ {I : Addr} {fp wr : List Addr} {G : Array GenState → Array GenState → Prop} {n : Nat} {Pv : Nat → Value → Prop} {St : Nat → Shared → Prop} {R : Result → Shared → Prop} {J : Nat → Heap → Prop} {S : Addr} {h0 : Heap}
    (W : WalksS P w A.in1 I fp wr G n Pv St) (hSf : S ∉ fp) (hS0 : h0.get? S = none) (hw0 : ∀ b ∈ wr, h0.get? b = none) (kj : KeepsJ S h0 J) (step : ∀ i v, i < n → Pv i v → Adds P w A.in1 S h0 J i v) :
    ∀ (k i : Nat) (z : Shared), n - i = k → i ≤ n → St i z → (∀ b o, h0.get? b = some o → z.heap.get? b = some o) → J i z.heap →
      (∀ z', Moved (S :: wr) G z z' → J n z'.heap → (∀ b o, h0.get? b = some o → z'.heap.get? b = some o) → R (.ok (.ret .none)) z') →
      codeAny (model P w) A (.builtin "set.update.loop" ⟨[.ref S, .ref I], []⟩) R z := by
  have Sw : S ∉ wr := fun h => hSf (W.sub _ h)
  have up : ∀ b ∈ wr, b ∈ S :: wr := fun b hb => List.mem_cons_of_mem _ hb
  have old : ∀ {z z' : Shared}, Moved wr G z z' → (∀ b o, h0.get? b = some o → z.heap.get? b = some o) → ∀ b o, h0.get? b = some o → z'.heap.get? b = some o := fun m k b o e =>
    m.heap b o (fun hb => by rw [hw0 b hb] at e; cases e) (k b o e)
  intro k
  induction k with
  | zero =>
    intro i z hk hi hst hkp hJ hR
    obtain rfl : i = n := by omega
    refine codeAny_builtin F.entry_set_update_loop ?_
    rw [Around.under_plainId F.plain_set_update_loop _]
    show wpAny _ A.in1 (pyNext (.ref I) >>= _) _ _ z
    refine wpAny_bind (W.done z _ _ hst fun z' m => ?_)
    show wpAny _ A.in1 (ret Value.none) _ _ z'
    have o' := old m hkp
    exact wpAny_pure (hR z' (m.mono up) (kj _ _ _ hJ (fun o e => m.heap S o Sw e) o') o')
  | succ k ih =>
    intro i z hk hi hst hkp hJ hR
    have lt : i < n := by omega
    refine codeAny_builtin F.entry_set_update_loop ?_
    rw [Around.under_plainId F.plain_set_update_loop _]
    show wpAny _ A.in1 (pyNext (.ref I) >>= _) _ _ z
    refine wpAny_bind (W.item i z _ _ lt hst fun v z' hP hst' m => ?_)
    have o' := old m hkp
    show wpAny _ A.in1 (holding [v] (setAdd S v) >>= _) _ _ z'
    refine wpAny_bind (wpAny_holding (step i v lt hP z' _ _ (kj _ _ _ hJ (fun o e => m.heap S o Sw e) o') o' fun b h' tk ht sb hJ2 => ?_))
    have nS : ∀ {b : Addr}, b ≠ S → ∀ o, z'.heap.get? b = some o → h'.get? b = some o := fun hb o e => (sb.2 _ hb).trans e
    have o2 : ∀ b o, h0.get? b = some o → h'.get? b = some o := fun b o e => nS (fun q => by rw [q, hS0] at e; cases e) o (o' b o e)
    refine wpAny_pure ⟨plainId_quiet F.plain_set_update_loop _, ih (i + 1) _ (by omega) lt (W.frame _ z' _ _ hst' ht fun b hb o e => nS (fun q => hSf (by rw [← q]; exact hb)) o e) o2 hJ2 fun z2 m2 hJ3 o3 => ?_⟩
    exact hR z2 (Moved.trans W.gtrans ((m.mono up).then_heap ht fun b o hb e => nS (fun q => hb (by rw [q]; exact List.mem_cons_self)) o e) m2) hJ3 o3

abbrev freshSet (w : World) : Obj := { cls := .type "set", dict := none, data := .set #[] 0 (.fresh 0 0 (!w.params.followText "set-order")) }
theorem gone_of {h : Heap} {b : Addr} (hb : h.objs.size ≤ b) : h.get? b = none := by
  cases q : h.get? b with
  | none => rfl
  | some o => exact absurd (Nat.lt_of_lt_of_le (Heap.lt_size q) hb) (Nat.lt_irrefl _)
theorem code_new (a : Value) {Q₁ : Value → Shared → Prop} (h : Q₁ (.ref s.heap.objs.size) { s with heap := s.heap.push (freshSet w) }) :
    codeAny (model P w) A (.call (.builtin "set.__new__") ⟨[.type "set", a], []⟩) (wants Q₁ E) s := code_set_led1 a h
set_option maxHeartbeats 3200000 in
/-- set(l), l a list or a tuple of n items -/
theorem call_setJ {l : Addr} {items : Array Value} {J : Nat → Heap → Prop} {Q : Value → Shared → Prop} (hh : A.handled = none) (hl : s.heap.IsList l items ∨ s.heap.IsTuple l items) (hJ0 : ∀ h, h.get? s.heap.objs.size = some (freshSet w) → J 0 h)
    (kj : KeepsJ s.heap.objs.size s.heap J) (hex : ∀ h, J items.size h → ∃ o, h.get? s.heap.objs.size = some o) (step : ∀ (A' : Around), A'.units ≤ A.units + 4 → ∀ i v, items[i]? = some v → Adds P w A' s.heap.objs.size s.heap J i v)
    (h : ∀ (h' : Heap) (tk : Nat), J items.size h' → (∀ b o, s.heap.get? b = some o → h'.get? b = some o) → (∃ o, h'.get? s.heap.objs.size = some o) → Q (.ref s.heap.objs.size) { s with heap := h', toks := tk }) :
    wpAny (model P w) A (call (.type "set") [.ref l]) Q E s := by
  obtain ⟨c, tl, hmro⟩ := F.called_set.mro
  have hmade := F.called_set.made
  have hsub := F.called_set.sub
  refine wpAny_call (codeAny_of_tree ?_)
  show wpAny _ _ (callAny (.type "set") _) _ _ _
  refine wpAny_pure ⟨Code.quiet_builtin _ (by decide +kernel), codeAny_builtin F.entry_type_call ?_⟩
  rw [Around.under_plain (weight_type_call_type "set" [.ref l] []) rfl]
  have h1 := F.called_set.notType
  have h2 := F.called_set.canCreate
  have hct := F.typeCall_set_1 (.ref l)
  repeat (any_goals (first | assumption | wp_step))

  refine codeAny_mono (code_new (.ref l) (E := E) (Q₁ := fun obj z => obj = .ref s.heap.objs.size ∧ z = { s with heap := s.heap.push (freshSet w) }) ⟨rfl, rfl⟩) fun r z hr => ?_
  cases r with
  | error e => exact hr
  | ok fl =>
    cases fl with
    | ret obj =>
      obtain ⟨rfl, rfl⟩ := hr
      have hS : (s.heap.push (freshSet w)).get? s.heap.objs.size = some (freshSet w) := Heap.get?_push_size _ rfl
      have hT : Shared.TypeIs { s with heap := s.heap.push (freshSet w) } (.ref s.heap.objs.size) "set" := ⟨_, hS, rfl⟩
      have hli := F.called_set.init.lookup
      have hbi := F.called_set.init.bind (.ref s.heap.objs.size)
      repeat (any_goals (first | assumption | wp_step))

      refine codeAny_mono (codeAny_call_builtin (R := wants (fun r z => r = .none ∧ ∃ h' tk, z = { s with heap := h', toks := tk } ∧ J items.size h' ∧ (∀ b o, s.heap.get? b = some o → h'.get? b = some o) ∧ ∃ o, h'.get? s.heap.objs.size = some o) E) F.called_set.init.plain F.entry_set_init (check_set_init_1 hT ?_)) fun r₂ z₂ hr₂ => ?_
      · have hneS : ∀ b o, s.heap.get? b = some o → b ≠ s.heap.objs.size := fun b o e z => Nat.lt_irrefl _ (z ▸ Heap.lt_size e)
        have szp : (s.heap.push (freshSet w)).objs.size = s.heap.objs.size + 1 := Heap.size_push ..
        have hu3 : (A.in1.in1.in1).units ≤ A.units + 4 := by have e : (A.in1.in1.in1).units = A.units + 3 := rfl; omega
        rcases hl with hl | hl
        · obtain ⟨ol, hol, hcl, nl, hdl⟩ := hl
          obtain ⟨ocls, odict, odata, oslots⟩ := ol
          simp only at hcl hdl
          subst hcl; subst hdl
          have hol' : (s.heap.push (freshSet w)).get? l = some { cls := .type "list", dict := odict, data := .seq items nl, slots := oslots } := Heap.get?_push_of_some _ hol
          have hsls := F.sub_list_set
          have hslf := F.sub_list_frozenset
          have hne : (Value.type "list" == Value.type "dict") = false := by decide
          have hl1 : (s.heap.push (freshSet w)).IsList l items := ⟨_, hol', rfl, nl, rfl⟩
          unfold Builtin.«set.__init__» noKeywords Builtin.Frozenset.updateFrom
          generalize hPI : pyIter = PI
          wp_walk
          subst hPI

          refine wpAny_pyIter_list hl1 ?_
          refine wpAny_bind (wpAny_runValue ?_)
          have hlS : l < s.heap.objs.size := Heap.lt_size hol
          have hneI : l ≠ (s.heap.push (freshSet w)).objs.size := by
            rw [szp]; exact Nat.ne_of_lt (Nat.lt_succ_of_lt hlS)
          have hSf : s.heap.objs.size ∉ [(s.heap.push (freshSet w)).objs.size, l] := fun z => by
            rw [szp] at z
            rcases List.mem_cons.mp z with z | z
            · exact Nat.ne_of_lt (Nat.lt_succ_self _) z
            · exact Nat.ne_of_gt hlS (List.mem_singleton.mp z)
          refine loopJ (S := s.heap.objs.size) (h0 := s.heap) (J := J) ((Walks.list (show A.in1.in1.in1.handled = none by simp [hh]) _ l hneI items).toS) hSf (gone_of (Nat.le_refl _)) (fun b hb => gone_of (by
              rw [List.mem_singleton.mp hb, szp]
              exact Nat.le_succ _)) kj (fun i v _ hv => step _ hu3 i v hv) (items.size - 0) 0 _ (by omega) (Nat.zero_le _)
            ⟨⟨_, Heap.get?_push_size _ rfl, rfl, rfl⟩, (hl1.push _)⟩ (fun b o e => Heap.get?_push_of_some _ (Heap.get?_push_of_some _ e)) (hJ0 _ (Heap.get?_push_of_some _ hS)) ?_
          intro z' m hJ o'
          have hso : ∃ o, z'.heap.get? s.heap.objs.size = some o := hex _ hJ
          obtain ⟨h', g2, d', tk', os'⟩ := z'
          have eg : g2 = s.gens := m.gens
          have ed : d' = s.drawn := m.drawn
          have eo : os' = s.os := m.os
          subst eg; subst ed; subst eo
          show wpAny _ _ _ _ _ _
          refine wpAny_pure ?_
          show wpAny _ _ (ret Value.none) _ _ _
          exact wpAny_pure ⟨rfl, h', tk', rfl, hJ, o', hso⟩
        · obtain ⟨ol, hol, hcl, nl, hdl⟩ := hl
          obtain ⟨ocls, odict, odata, oslots⟩ := ol
          simp only at hcl hdl
          subst hcl; subst hdl
          have hol' : (s.heap.push (freshSet w)).get? l = some { cls := .type "tuple", dict := odict, data := .seq items nl, slots := oslots } := Heap.get?_push_of_some _ hol
          have hsls := F.sub_tuple_set
          have hslf := F.sub_tuple_frozenset
          have hne : (Value.type "tuple" == Value.type "dict") = false := by decide
          have hl1 : (s.heap.push (freshSet w)).IsTuple l items := ⟨_, hol', rfl, nl, rfl⟩
          unfold Builtin.«set.__init__» noKeywords Builtin.Frozenset.updateFrom
          generalize hPI : pyIter = PI
          wp_walk
          subst hPI

          refine wpAny_pyIter_tuple hl1 ?_
          refine wpAny_bind (wpAny_runValue ?_)
          have hlS : l < s.heap.objs.size := Heap.lt_size hol
          have hneI : l ≠ (s.heap.push (freshSet w)).objs.size := by
            rw [szp]; exact Nat.ne_of_lt (Nat.lt_succ_of_lt hlS)
          have hSf : s.heap.objs.size ∉ [(s.heap.push (freshSet w)).objs.size, l] := fun z => by
            rw [szp] at z
            rcases List.mem_cons.mp z with z | z
            · exact Nat.ne_of_lt (Nat.lt_succ_self _) z
            · exact Nat.ne_of_gt hlS (List.mem_singleton.mp z)
          refine loopJ (S := s.heap.objs.size) (h0 := s.heap) (J := J) ((Walks.tuple (show A.in1.in1.in1.handled = none by simp [hh]) _ l hneI items).toS) hSf (gone_of (Nat.le_refl _)) (fun b hb => gone_of (by
              rw [List.mem_singleton.mp hb, szp]
              exact Nat.le_succ _)) kj (fun i v _ hv => step _ hu3 i v hv) (items.size - 0) 0 _ (by omega) (Nat.zero_le _)
            ⟨⟨_, Heap.get?_push_size _ rfl, rfl, rfl⟩, (hl1.push _)⟩ (fun b o e => Heap.get?_push_of_some _ (Heap.get?_push_of_some _ e)) (hJ0 _ (Heap.get?_push_of_some _ hS)) ?_
          intro z' m hJ o'
          have hso : ∃ o, z'.heap.get? s.heap.objs.size = some o := hex _ hJ
          obtain ⟨h', g2, d', tk', os'⟩ := z'
          have eg : g2 = s.gens := m.gens
          have ed : d' = s.drawn := m.drawn
          have eo : os' = s.os := m.os
          subst eg; subst ed; subst eo
          show wpAny _ _ _ _ _ _
          refine wpAny_pure ?_
          show wpAny _ _ (ret Value.none) _ _ _
          exact wpAny_pure ⟨rfl, h', tk', rfl, hJ, o', hso⟩
      · cases r₂ with
        | error e => exact hr₂
        | ok fl₂ =>
          cases fl₂ with
          | ret r =>
            obtain ⟨rfl, h', tk, rfl, hJ, hk', ho⟩ := hr₂
            repeat (any_goals (first | assumption | wp_step))
            exact h _ _ hJ hk' ho
          | _ => exact hr₂.elim
    | _ => exact hr.elim
end
end MyS

set_option Elab.async false
set_option linter.all false
set_option maxRecDepth 100000
set_option maxHeartbeats 4000000
/-! len(set(xs)) of a list or a tuple of texts: as many as there are different ones. -/
namespace MyS
open PySem PySem.Spec PyProof.Rows L2
theorem nodup_snoc {α : Type} {l : List α} {x : α} : (l ++ [x]).Nodup ↔ l.Nodup ∧ x ∉ l := by
  rw [List.nodup_append]
  constructor
  · rintro ⟨h1, _, h3⟩
    exact ⟨h1, fun h => h3 x h x (List.mem_singleton.mpr rfl) rfl⟩
  · rintro ⟨h1, h2⟩
    refine ⟨h1, by simp, fun a ha b hb e => ?_⟩
    rw [List.mem_singleton.mp hb] at e
    exact h2 (e ▸ ha)
/-- how many different ones the first i items are: n, whole exactly if they all differ -/
structure Cnt {α : Type} (l : List α) (n : Nat) : Prop where
  le : n ≤ l.length
  eq : n = l.length ↔ l.Nodup
theorem Cnt.nil {α : Type} : Cnt ([] : List α) 0 := ⟨Nat.le_refl _, ⟨fun _ => List.nodup_nil, fun _ => rfl⟩⟩
theorem Cnt.old {α : Type} {l : List α} {n : Nat} {x : α} (c : Cnt l n) (h : x ∈ l) : Cnt (l ++ [x]) n := by
  have h1 := c.le
  refine ⟨by rw [List.length_append]; exact Nat.le_succ_of_le h1, ?_⟩
  rw [List.length_append, List.length_singleton]
  exact ⟨fun e => absurd e (by omega), fun e => absurd h (nodup_snoc.mp e).2⟩
theorem Cnt.new {α : Type} {l : List α} {n : Nat} {x : α} (c : Cnt l n) (h : x ∉ l) : Cnt (l ++ [x]) (n + 1) := by
  have h1 := c.le
  refine ⟨by rw [List.length_append, List.length_singleton]; omega, ?_⟩
  rw [List.length_append, List.length_singleton, nodup_snoc, ← c.eq]
  constructor
  · intro e; exact ⟨by omega, h⟩
  · rintro ⟨e, _⟩; omega
section
variable {P : Program} {w : World} {A : Around} {E : Value → Shared → Prop} {s : Shared}
/-- the set at S behind the first i texts -/
def JT (P : Program) (w : World) (S : Addr) (xs : List Str) (i : Nat) (h : Heap) : Prop := ∃ n M, h.SetOf (PySem.strKind P w) S M n ∧ (∀ k, M k = true ↔ k ∈ xs.take i) ∧ Cnt (xs.take i) n
theorem take_snoc {α : Type} {l : List α} {i : Nat} {x : α} (h : l[i]? = some x) : l.take (i + 1) = l.take i ++ [x] := by rw [List.take_succ, h]; rfl
theorem JT.adds {S : Addr} {xs : List Str} {h0 : Heap} {i : Nat} {x : Str} {t : Tok} (hx : xs[i]? = some x) (hb : xs.length + 1 < scanBound) : Adds P w A S h0 (JT P w S xs) i (.str x t) := by
  intro z Q E hJ hk hQ
  obtain ⟨n, M, hS, hM, hc⟩ := hJ
  have hi : i < xs.length := (List.getElem?_eq_some_iff.mp hx).1
  have hn := hc.le
  rw [List.length_take] at hn
  unfold setAdd
  refine wpAny_holding ?_
  refine wpAny_bind ((PySem.strKind P w).pyHash (k := x) (strKind_is _ _ _ _) ?_)
  refine wpAny_setAddHashed_of (knd := PySem.strKind P w) (s := { z with toks := z.toks + 1 }) (strKind_is _ _ _ _) rfl hS (by omega) fun h' sb hS2 => ?_
  refine hQ _ h' _ (Nat.le_succ _) sb ⟨_, _, hS2, fun k => ?_, ?_⟩
  · rw [take_snoc hx, Bool.or_eq_true, hM k, decide_eq_true_eq, List.mem_append, List.mem_singleton]
  · rw [take_snoc hx]
    by_cases q : M x = true
    · rw [if_pos q]
      exact hc.old ((hM x).mp q)
    · rw [if_neg q]
      exact hc.new fun m => q ((hM x).mpr m)
theorem JT.keeps {S : Addr} {xs : List Str} {h0 : Heap} : KeepsJ S h0 (JT P w S xs) := by
  rintro i h h' ⟨n, M, ⟨o, es, ep, t, ho, r⟩, hM, hc⟩ k1 _
  exact ⟨n, M, ⟨o, es, ep, t, k1 o ho, r⟩, hM, hc⟩
theorem JT.zero {S : Addr} {xs : List Str} {h : Heap} (ho : h.get? S = some (freshSet w)) : JT P w S xs 0 h := by
  refine ⟨0, fun _ => false, ⟨_, #[], 0, _, ho, ⟨rfl, rfl, rfl⟩, rfl, (fun e he => by simp at he), (fun k => by simp), by decide, rfl, rfl⟩, fun k => by simp, Cnt.nil⟩
end
section
variable {X : Cx}
/-- len(set(xs)) -/
def tLenSetS (K : PySem.W.Frag) (ta : TE) : TE := fun σ H Q => ta σ H fun x H1 => ∃ (l : Addr) (xs : List Str), x = .ref l ∧ (SqL K H1 l (xs.map V.str) ∨ SqT K H1 l (xs.map V.str)) ∧ xs.length ≤ 4000 ∧ ∀ n, Cnt xs n → Q (.int (n : Nat)) H1
theorem strs_get {ys : List Str} {us : List Value} (r : Vals (ys.map V.str) us) {i : Nat} {v : Value} (h : us[i]? = some v) : ∃ x t, ys[i]? = some x ∧ v = .str x t := by
  have hl : i < ys.length := by
    have q := (List.getElem?_eq_some_iff.mp h).1
    have e := r.length
    rw [List.length_map] at e
    omega
  obtain ⟨u, e1, e2⟩ := Vals.get r (i := i) (x := V.str ys[i]) (by rw [List.getElem?_map, List.getElem?_eq_getElem hl]; rfl)
  rw [h] at e1
  cases e1
  obtain ⟨t, e⟩ := e2
  exact ⟨ys[i], t, List.getElem?_eq_getElem hl, e⟩
theorem pe_lenSetS {a : Expr} {ta : TE} {p p2 q pos : Pos} (hc : X.calm = true) (hm : X.mg "len" = none) (hm2 : X.mg "set" = none) (ha : PE X a ta) (hg : Gl X "len" := by rfl) (hg2 : Gl X "set" := by rfl)
    (na : starEach [a] X.env = (false, eval a X.env) :: starEach [] X.env := by rfl) : PE X (.Call (.Name "len" p) [.Call (.Name "set" p2) [a] [] q] [] pos) (tLenSetS X.K ta) := by
  refine ⟨fun pins s σ H Q I h => ?_⟩
  refine Call_ (ld_blt I hg hm boot_len ?_)
  refine PyProof.Rows.callWith_builtin1 (PyProof.Rows.args_cons ?_ rfl) rfl rfl
  refine Call_ (ld_blt I hg2 hm2 boot_set ?_)
  refine PyProof.Rows.callWith_type1 (PyProof.Rows.args_cons (thn (ha.run pins s σ H _ I h) fun v s1 ⟨x, H1, I1, r1, q1⟩ => PyProof.Rows.args_nil ?_) na) na rfl
  obtain ⟨l, xs, rfl, hq, h1, q1⟩ := q1
  cases r1
  have go : ∀ (its : List Value), Vals (xs.map V.str) its → (s1.heap.IsList l its.toArray ∨ s1.heap.IsTuple l its.toArray) → wpAny (model X.prog X.w) X.A (call (.type "set") [.ref l])
      (fun v s₂ => wpAny (model X.prog X.w) X.A (spliced (backTo pos (starEach [] X.env))) (fun vs s₃ => wpAny (model X.prog X.w) X.A (call (.builtin "len") (v :: vs)) (EP X pins σ Q) X.xe s₃) X.xe s₂) X.xe s1 := fun its r hl => by
    have hsz : its.toArray.size = xs.length := by rw [List.size_toArray, ← r.length, List.length_map]
    have hbd : xs.length + 1 < scanBound := by unfold scanBound; omega
    refine call_setJ (J := JT X.prog X.w s1.heap.objs.size xs) (I1.ok.hd hc) hl (fun h ho => JT.zero ho) JT.keeps (fun h hJ => ?_) (fun A' _ i v hv => ?_) fun h' tk hJ hk _ => ?_
    · obtain ⟨n, M, ⟨o, es, ep, t, ho, _⟩, _⟩ := hJ
      exact ⟨o, ho⟩
    · obtain ⟨x, t, hx, rfl⟩ := strs_get r (i := i) (v := v) (by simpa using hv)
      exact JT.adds hx hbd
    · rw [hsz] at hJ
      obtain ⟨n, M, ⟨o, es, ep, t, ho, hex, hd, _, _, _, hf, hn⟩, hM, hcn⟩ := hJ
      rw [List.take_length] at hcn
      have I2 : Inv X pins σ H1 { s1 with heap := h', toks := tk } := I1.kept fun b o e => hk b o e
      refine PyProof.Rows.args_nil ?_
      have hle := hcn.le
      refine call_len_set ho hex hd hf (by rw [hn]; omega) ⟨.int (n : Nat), H1, I2.tok _, ⟨_, by rw [hn]⟩, q1 n hcn⟩
  rcases hq with hq | hq
  · obtain ⟨its, r, pl, hz⟩ := I1.list hq
    exact go its r (.inl pl.isList)
  · obtain ⟨its, r, pl, hz⟩ := I1.tuple hq
    exact go its r (.inr (by first | exact pl | exact pl.isTuple))
end
end MyS

set_option Elab.async false
set_option linter.all false
set_option maxRecDepth 100000
set_option maxHeartbeats 4000000
/-! len(set(xs)) of a list of tuples of texts, fewer than 64: over the library's table of a set (TabOk, go_spec, relaid_ok). -/
namespace MyS
open PySem PySem.Spec PyProof.Rows L2
section
variable {P : Program} {w : World} {A : Around} {E : Value → Shared → Prop} {s : Shared}
/-- the tuple at b has the texts k; its hash -/
abbrev IsP (P : Program) (w : World) (h : Heap) (k : List Str) (b : Addr) : Prop := IsTupleKey (PySem.strKind P w) h k b
abbrev hashP (P : Program) (w : World) (k : List Str) : Int := tupleKeyHash (PySem.strKind P w) k
theorem IsP.keep {h h' : Heap} {k : List Str} {b : Addr} (x : IsP P w h k b) (hk : ∀ o, h.get? b = some o → h'.get? b = some o) : IsP P w h' k b :=
  let ⟨o, items, n, ho, r⟩ := x; ⟨o, items, n, hk o ho, r⟩
theorem strs_of {k : List Str} {vs : List Value} (h : ItemsAre (PySem.strKind P w) k vs) : ∀ v ∈ vs, ∃ x t, v = Value.str x t := by
  induction h with
  | nil => intro v hv; cases hv
  | @cons k0 v' ks vs h1 _ ih =>
    intro v hv
    rcases List.mem_cons.mp hv with e | hv
    · obtain ⟨t, e2⟩ := Value.isStrOf_shape h1
      exact ⟨k0, t, e.trans e2⟩
    · exact ih v hv
/-- a text is of no class statement -/
theorem noClass_str (n : Nat) (x : Str) (t : Tok) : ofAClassStatement n (.str x t) = pure false := by cases n <;> rfl
theorem hashBy_str (n : Nat) (x : Str) (t : Tok) : hashByValue n (.str x t) = pure false := by cases n <;> rfl
theorem noClass {k : List Str} {b : Addr} {Q : Bool → Shared → Prop} (hk : IsP P w s.heap k b) (h : Q false s) : wpAny (model P w) A (ofAClassStatement 8 (.ref b)) Q E s := by
  have hT := hk.typeIs
  obtain ⟨o, items, n, ho, _, hd, hi⟩ := hk
  unfold ofAClassStatement
  refine wpAny_bind (wpAny_typeOf hT ?_)
  have e : (("tuple" : String) == "tuple") = true := by decide
  simp only [e, if_true, Bool.not_true, Bool.false_eq_true, if_false]
  try refine wpAny_bind (wpAny_pure ?_)
  try simp only [Bool.not_true, Bool.false_eq_true, if_false]
  show wpAny _ _ (seqItems? (.ref b) >>= _) _ _ s
  refine wpAny_bind (wpAny_seqItems ho hd ?_)
  refine wpAny_bind ?_
  show wpAny _ _ (forIn items _ _) _ _ s
  rw [← Array.forIn_toList]
  refine wpAny_forIn_list _ (fun rest r z => r.1 = none ∧ z = s ∧ ∀ v ∈ rest, ∃ x t, v = Value.str x t) _ ?_ ?_ _ _ ⟨rfl, rfl, strs_of hi⟩
  · rintro v rest r z ⟨hr, rfl, hall⟩
    obtain ⟨x, t, rfl⟩ := hall v List.mem_cons_self
    rw [noClass_str]
    refine wpAny_bind (wpAny_pure ?_)
    simp only [Bool.false_eq_true, if_false]
    exact wpAny_pure ⟨rfl, rfl, fun u hu => hall u (List.mem_cons_of_mem _ hu)⟩
  · rintro ⟨r1, r2⟩ z ⟨hr, rfl, _⟩
    simp only at hr
    subst hr
    exact wpAny_pure h
/-- whether the hash is by value: either answer will do -/
theorem hashBy {k : List Str} {b : Addr} {Q : Bool → Shared → Prop} (hk : IsP P w s.heap k b) (h : ∀ r, Q r s) : wpAny (model P w) A (hashByValue 8 (.ref b)) Q E s := by
  have hT := hk.typeIs
  obtain ⟨o, items, n, ho, _, hd, hi⟩ := hk
  unfold hashByValue
  refine wpAny_bind (wpAny_specialOf hT F.slot_tuple_hash.lookup ?_)
  show wpAny _ _ (seqItems? (.ref b) >>= _) _ _ s
  refine wpAny_bind (wpAny_seqItems ho hd ?_)
  refine wpAny_bind ?_
  show wpAny _ _ (forIn items _ _) _ _ s
  rw [← Array.forIn_toList]
  refine wpAny_forIn_list _ (fun rest r z => r.1 = none ∧ z = s ∧ ∀ v ∈ rest, ∃ x t, v = Value.str x t) _ ?_ ?_ _ _ ⟨rfl, rfl, strs_of hi⟩
  · rintro v rest r z ⟨hr, rfl, hall⟩
    obtain ⟨x, t, rfl⟩ := hall v List.mem_cons_self
    rw [hashBy_str]
    refine wpAny_bind (wpAny_pure ?_)
    simp only [Bool.not_false, if_true]
    exact wpAny_pure (wpAny_pure (h _))
  · rintro ⟨r1, r2⟩ z ⟨hr, rfl, _⟩
    simp only at hr
    subst hr
    exact wpAny_pure (h _)
/-- a search among such tuples shows nothing -/
theorem unseen {k : List Str} {b : Addr} {Q : Bool → Shared → Prop} (hk : IsP P w s.heap k b) {ys : List Value} (hy : ∀ y ∈ ys, ∃ k' c, y = Value.ref c ∧ IsP P w s.heap k' c) (h : Q false s) :
    wpAny (model P w) A (searchCouldBeSeen (.ref b) ys) Q E s := by
  unfold searchCouldBeSeen
  refine wpAny_bind ?_
  refine wpAny_forIn_list _ (fun rest r z => r.1 = none ∧ z = s ∧ ∀ y ∈ rest, ∃ k' c, y = Value.ref c ∧ IsP P w s.heap k' c) _ ?_ ?_ _ _ ⟨rfl, rfl, hy⟩
  · rintro v rest r z ⟨hr, rfl, hall⟩
    obtain ⟨k', c, rfl, hc⟩ := hall v List.mem_cons_self
    have more : ∀ y ∈ rest, ∃ k' c, y = Value.ref c ∧ IsP P w z.heap k' c := fun u hu => hall u (List.mem_cons_of_mem _ hu)
    by_cases hv : (b == c || (carriedByValue (.ref b) && carriedByValue (.ref c))) = true
    · refine wp_if_pos hv ?_
      exact wpAny_pure ⟨rfl, rfl, more⟩
    · refine wp_if_neg hv ?_
      refine wpAny_bind (wpAny_eqIsQuiet_tuple hk ?_)
      simp only [Bool.not_true, Bool.false_eq_true, if_false]
      refine wpAny_bind (wpAny_eqIsQuiet_tuple hc ?_)
      simp only [Bool.not_true, Bool.false_eq_true, if_false]
      refine wpAny_bind (noClass hk ?_)
      simp only [Bool.false_eq_true, if_false]
      refine wpAny_bind (noClass hc ?_)
      simp only [Bool.false_eq_true, if_false]
      exact wpAny_pure ⟨rfl, rfl, more⟩
  · rintro ⟨r1, r2⟩ z ⟨hr, rfl, _⟩
    simp only at hr
    subst hr
    exact wpAny_pure h

/-! ### the set at a, its tuples in the table's order -/
def rowP (P : Program) (w : World) (p : Addr × List Str) : Int × Value := (hashP P w p.2, .ref p.1)
structure PSet (P : Program) (w : World) (h : Heap) (a : Addr) (L : List (Addr × List Str)) (es : Array (Int × Value)) (ep : Nat) (t : SetTable) : Prop where
  ob : ∃ o, h.get? a = some o ∧ o.ExactSet ∧ o.data = .set es ep t
  rows : es.toList = L.map (rowP P w)
  tab : TabOk t (L.map fun p => hashP P w p.2)
  nd : (L.map (·.2)).Nodup
  tup : ∀ p ∈ L, IsP P w h p.2 p.1
  room : L.length * 5 < t.mask * 3
  few : L.length < 64
variable {a : Addr} {L : List (Addr × List Str)} {es : Array (Int × Value)} {ep : Nat} {t : SetTable}
theorem PSet.size (R : PSet P w s.heap a L es ep t) : es.size = L.length := by
  have h := congrArg List.length R.rows
  rwa [Array.length_toList, List.length_map] at h
theorem PSet.fits (R : PSet P w s.heap a L es ep t) : t.fits es.size = true := by
  have h1 := R.tab.sz
  rw [List.length_map] at h1
  have h2 := R.size
  have h3 := R.room
  unfold SetTable.fits SetTable.fill
  rw [R.tab.dm, Bool.and_eq_true, beq_iff_eq, decide_eq_true_eq]
  show t.place.size = es.size ∧ t.place.size + 0 ≤ t.mask
  omega
theorem PSet.entry (R : PSet P w s.heap a L es ep t) {i : Nat} {p : Addr × List Str} (h : L[i]? = some p) : es[i]? = some (rowP P w p) := by
  rw [← Array.getElem?_toList, R.rows, List.getElem?_map, h]
  rfl
/-- the way of the hash g through the table: the probe behind k steps -/
abbrev stepP (m : Nat) (g : Int) (k : Nat) : SetTable.Probe := nth m (runAt m (SetTable.bits g % (m + 1)) (SetTable.bits g)) k
theorem stepP_add (m : Nat) (g : Int) (c q : Nat) : nth m (stepP m g c) q = stepP m g (c + q) := (nth_add m c _ q).symm
theorem stepP_clean (m : Nat) (g : Int) (c : Nat) : (stepP m g c).dummy = none := by
  have key : ∀ (n : Nat) (p : SetTable.Probe), p.dummy = none → (nth m p n).dummy = none := by
    intro n
    induction n with
    | zero => intro p h; exact h
    | succ n ih =>
      intro p h
      refine ih (adv m p) ?_
      unfold adv
      split <;> exact h
  exact key c _ rfl
/-- what is asked of the search for k among L: found, or the first free slot of the way -/
structure Seek (P : Program) (w : World) (t : SetTable) (L : List (Addr × List Str)) (k : List Str) (K : Nat) (Q : SetFound → Shared → Prop) (z : Shared) : Prop where
  few : K < 10 * SetTable.turns t.mask
  free : way t.mask (hashP P w k) K ∉ t.place.toList
  full : ∀ c, c < K → way t.mask (hashP P w k) c ∈ t.place.toList
  hit : k ∈ L.map (·.2) → Q (.there none) z
  miss : k ∉ L.map (·.2) → Q (.free (way t.mask (hashP P w k) K) false) z
theorem seek {x : Addr} {k : List Str} {K : Nat} {Q : SetFound → Shared → Prop} (R : PSet P w s.heap a L es ep t) (hx : IsP P w s.heap k x) (hu : A.units < cLine) (B : Seek P w t L k K Q s) :
    ∀ (f c : Nat) (stand : Option SetTable.Probe), stand.getD (t.probeStart (hashP P w k)) = stepP t.mask (hashP P w k) c → c ≤ K → K - c < f →
      (∀ (i : Nat) p, L[i]? = some p → p.2 = k → ∃ c', c ≤ c' ∧ c' < K ∧ t.place.toList[i]? = some (way t.mask (hashP P w k) c')) →
      wpAny (model P w) A (setSearchFrom a (.ref x) (hashP P w k) true f stand) Q E s
  | 0, c, stand, _, _, hf, _ => absurd hf (Nat.not_lt_zero _)
  | f + 1, c, stand, hst, hc, hf, hre => by
    obtain ⟨o, ho, hex, hd⟩ := R.ob
    rw [setSearchFrom_succ]
    refine wpAny_bind (wpAny_setState_of ho hd R.fits ?_)
    dsimp only
    refine wp_if_neg (by unfold SetTable.gaveWay; rw [mask_odd R.tab.mok]; decide) ?_
    try refine wpAny_bind (wpAny_pure ?_)
    have at_ : ∀ q, (nth t.mask (stepP t.mask (hashP P w k) c) q).j = way t.mask (hashP P w k) (c + q) := fun q => congrArg SetTable.Probe.j (stepP_add _ _ _ _)
    have hashAt : ∀ (i : Nat) p, L[i]? = some p → (fun i => (es[i]?.map (·.1)).getD 0) i = hashP P w p.2 := fun i p hp => by
      show (es[i]?.map (·.1)).getD 0 = _
      rw [R.entry hp]
      rfl
    rcases go_spec t R.tab.ris R.tab.dm (fun i => (es[i]?.map (·.1)).getD 0) (hashP P w k) (10 * SetTable.turns t.mask) (K - c) _ (stepP_clean t.mask (hashP P w k) c) (by have := B.few; omega)
      (fun q hq => by rw [at_]; exact B.full (c + q) (by omega)) (by rw [at_, show c + (K - c) = K by omega]; exact B.free) with ⟨q, i, hq, hi, hh, hno, hpr⟩ | ⟨hno, hpr⟩
    · -- a candidate: the entry i at the slot of the step c + q
      have hpr' : t.probe (fun i => (es[i]?.map (·.1)).getD 0) (hashP P w k) (stand.getD (t.probeStart (hashP P w k))) = some (.candidate (way t.mask (hashP P w k) (c + q)) i (stepP t.mask (hashP P w k) (c + (q + 1)))) := by
        rw [hst, ← at_, ← stepP_add]
        exact hpr
      rw [hpr']
      dsimp only
      rw [at_] at hi
      have hil : i < L.length := by
        have h1 : i < t.place.toList.length := (List.getElem?_eq_some_iff.mp hi).1
        have h2 := R.tab.sz
        rw [List.length_map] at h2
        rw [Array.length_toList] at h1
        omega
      obtain ⟨p, hp⟩ : ∃ p, L[i]? = some p := ⟨_, List.getElem?_eq_getElem hil⟩
      have pm : p ∈ L := List.mem_of_getElem? hp
      have rest : wpAny (model P w) A (searchRest a (.ref x) (hashP P w k) true f es t (way t.mask (hashP P w k) (c + q)) i (stepP t.mask (hashP P w k) (c + (q + 1)))) Q E s := by
        unfold searchRest
        rw [R.entry hp]
        dsimp only [rowP]
        refine wpAny_bind (wpAny_holding (wpAny_eqBool_tuple hu (R.tup p pm) hx ?_))
        refine wpAny_bind (wpAny_setState_of ho hd R.fits ?_)
        dsimp only
        by_cases hkk : p.2 = k
        · refine wp_if_pos (by simp [hkk]) ?_
          exact wpAny_pure (B.hit (List.mem_map.mpr ⟨p, pm, hkk⟩))
        · refine wp_if_neg (by simp [hkk]) ?_
          try refine wpAny_bind (wpAny_pure ?_)
          rw [sameMem]
          dsimp only
          have hsl : t.slot (way t.mask (hashP P w k) (c + q)) = .live i := slot_live R.tab.ris hi
          simp only [if_true, hsl, R.entry hp, rowP]
          refine wpAny_bind (wpAny_isSame_ref_self (wpAny_bind (wpAny_pure ?_)))
          simp only [if_true]
          refine wp_if_neg (by simp [hkk]) ?_
          refine seek R hx hu B f (c + (q + 1)) _ rfl (by omega) (by omega) fun i0 p0 h0 hk0 => ?_
          obtain ⟨c', a1, a2, a3⟩ := hre i0 p0 h0 hk0
          refine ⟨c', ?_, a2, a3⟩
          -- what has k is not behind us
          rcases Nat.lt_trichotomy c' (c + q) with y | y | y
          · exact absurd ((hashAt i0 p0 h0).trans (congrArg (hashP P w) hk0)) (hno (c' - c) i0 (by omega) (by rw [at_, show c + (c' - c) = c' by omega]; exact a3))
          · rw [y] at a3
            have s0 := (slot_live R.tab.ris a3).symm.trans hsl
            injection s0 with s0
            rw [s0, hp] at h0
            cases h0
            exact absurd hk0 hkk
          · omega
      by_cases hl : t.led = true
      · refine wp_if_neg (by simp [hl]) ?_
        try refine wpAny_bind (wpAny_pure ?_)
        exact rest
      · refine wp_if_pos (by simp [hl]) ?_
        refine wpAny_bind (unseen hx (fun y hy => ?_) ?_)
        · obtain ⟨e, he, ee⟩ := List.mem_map.mp hy
          have he1 : e ∈ es ∧ e.1 = hashP P w k := by simpa using he
          have he2 : e ∈ es.toList := by simpa using he1.1
          rw [R.rows] at he2
          obtain ⟨p2, hp2, e2⟩ := List.mem_map.mp he2
          exact ⟨p2.2, p2.1, by rw [← ee, ← e2]; rfl, R.tup p2 hp2⟩
        · refine wp_if_neg (by decide) ?_
          try refine wpAny_bind (wpAny_pure ?_)
          exact rest
    · -- the way's first free slot
      have hpr' : t.probe (fun i => (es[i]?.map (·.1)).getD 0) (hashP P w k) (stand.getD (t.probeStart (hashP P w k))) = some (.empty (way t.mask (hashP P w k) K) none) := by
        have e2 : way t.mask (hashP P w k) K = (nth t.mask (stepP t.mask (hashP P w k) c) (K - c)).j := by rw [at_, show c + (K - c) = K by omega]
        rw [hst, e2]
        exact hpr
      rw [hpr']
      dsimp only
      refine wpAny_pure (B.miss fun hm => ?_)
      obtain ⟨p0, h0, hk0⟩ := List.mem_map.mp hm
      obtain ⟨i0, hi0, e0⟩ := List.getElem_of_mem h0
      have h00 : L[i0]? = some p0 := by rw [List.getElem?_eq_getElem hi0, e0]
      obtain ⟨c', a1, a2, a3⟩ := hre i0 p0 h00 hk0
      exact hno (c' - c) i0 (by omega) (by rw [at_, show c + (c' - c) = c' by omega]; exact a3) ((hashAt i0 p0 h00).trans (congrArg (hashP P w) hk0))
/-- the search as adding asks for it -/
theorem seek_all {x : Addr} {k : List Str} {Q : SetFound → Shared → Prop} (R : PSet P w s.heap a L es ep t) (hx : IsP P w s.heap k x) (hu : A.units < cLine) (hit : k ∈ L.map (·.2) → Q (.there none) s)
    (miss : ∀ K, k ∉ L.map (·.2) → way t.mask (hashP P w k) K ∉ t.place.toList → (∀ c, c < K → way t.mask (hashP P w k) c ∈ t.place.toList) → Q (.free (way t.mask (hashP P w k) K) false) s) :
    wpAny (model P w) A (setSearch a (.ref x) (hashP P w k) true) Q E s := by
  have hroom := R.room
  obtain ⟨K, f1, f2, f3⟩ := R.tab.first (by rw [List.length_map]; omega) (hashP P w k)
  have big : K < 100000 := by
    have : 10 * SetTable.turns t.mask ≤ 1420 := by
      unfold SetTable.turns
      rcases R.tab.mok with e | e | e <;> omega
    omega
  unfold setSearch
  refine seek R hx hu ⟨f1, f2, f3, hit, fun hn => miss K hn f2 f3⟩ 100000 0 none rfl (Nat.zero_le _) (by omega) fun i p hp hk => ?_
  have hi : (L.map fun p => hashP P w p.2)[i]? = some (hashP P w k) := by rw [List.getElem?_map, hp, ← hk]; rfl
  have hil : i < t.place.toList.length := by
    have h1 : i < L.length := (List.getElem?_eq_some_iff.mp hp).1
    have h2 := R.tab.sz
    rw [List.length_map] at h2
    rw [Array.length_toList]
    omega
  obtain ⟨c, hc, e⟩ := R.tab.before f2 hi (List.getElem?_eq_getElem hil)
  exact ⟨c, Nat.zero_le _, hc, by rw [List.getElem?_eq_getElem hil, e]⟩
/-- the entries in another order -/
theorem reorder {α : Type} (row : α → Int × Value) (L : List α) (es : Array (Int × Value)) (order : Array Nat) (hr : es.toList = L.map row) (hp : order.toList.Perm (List.range L.length)) :
    ∃ L2 : List α, (order.filterMap (es[·]?)).toList = L2.map row ∧ L2.Perm L ∧ (L2.map fun p => (row p).1) = order.toList.map fun i => (es.map (·.1)).getD i 0 := by
  have at_ : ∀ i, es[i]? = (L[i]?).map row := fun i => by rw [← Array.getElem?_toList, hr, List.getElem?_map]
  have all : (List.range L.length).filterMap (fun i => L[i]?) = L := by
    have key : ∀ n, n ≤ L.length → (List.range n).filterMap (fun i => L[i]?) = L.take n := by
      intro n
      induction n with
      | zero => intro _; rfl
      | succ n ih =>
        intro hn
        have hlt : n < L.length := hn
        rw [List.range_succ, List.filterMap_append, ih (Nat.le_of_lt hlt), List.take_succ, List.getElem?_eq_getElem hlt]
        simp [List.getElem?_eq_getElem hlt]
    rw [key L.length (Nat.le_refl _), List.take_length]
  refine ⟨order.toList.filterMap (fun i => L[i]?), ?_, ?_, ?_⟩
  · rw [Array.toList_filterMap, List.map_filterMap]
    congr 1
    funext i
    exact at_ i
  · have h := hp.filterMap (fun i => L[i]?)
    rwa [all] at h
  · have hlt : ∀ i ∈ order.toList, i < L.length := fun i hi => List.mem_range.mp (hp.mem_iff.mp hi)
    generalize order.toList = l at hlt
    induction l with
    | nil => rfl
    | cons i l ih =>
      have hi := hlt i List.mem_cons_self
      rw [List.filterMap_cons_some (List.getElem?_eq_getElem hi), List.map_cons, List.map_cons, ih fun j hj => hlt j (List.mem_cons_of_mem _ hj)]
      have e5 : (es.map (·.1))[i]? = some (row L[i]).1 := by rw [Array.getElem?_map, at_, List.getElem?_eq_getElem hi]; rfl
      simp [Array.getD_eq_getD_getElem?, e5]
end
end MyS

set_option Elab.async false
set_option linter.all false
set_option maxRecDepth 100000
set_option maxHeartbeats 4000000
/-! A tuple of texts is added to a set; len(set(xs)) of a list of such. -/
namespace MyS
open PySem PySem.Spec PyProof.Rows L2
section
variable {P : Program} {w : World} {A : Around} {E : Value → Shared → Prop} {s : Shared}
variable {a : Addr} {L : List (Addr × List Str)} {es : Array (Int × Value)} {ep : Nat} {t : SetTable}
theorem IsP.other {h h' : Heap} {k : List Str} {a b : Addr} {o : Obj} {es : Array (Int × Value)} {ep : Nat} {t : SetTable} (hb : IsP P w h k b) (ho : h.get? a = some o) (hd : o.data = .set es ep t) (hs : Heap.SameBut a h h') : IsP P w h' k b := by
  obtain ⟨o', items, n, ho', r⟩ := hb
  have hne : b ≠ a := fun z => by
    rw [z, ho] at ho'
    cases ho'
    rw [hd] at r
    exact nomatch r.2.1
  exact ⟨o', items, n, (hs.2 b hne).trans ho', r⟩
/-- TabOk looks at the places, the dummies and the mask alone -/
theorem tabOk_congr {t u : SetTable} {hs : List Int} (T : TabOk t hs) (e1 : u.place = t.place) (e2 : u.dummies = t.dummies) (e3 : u.mask = t.mask) : TabOk u hs := by
  obtain ⟨h1, h2, h3, h4, h5, h6⟩ := T
  constructor
  · rw [e1]; exact h1
  · rw [e2]; exact h2
  · rw [e1]; exact h3
  · rw [e3]; exact h4
  · intro x hx; rw [e3]; rw [e1] at hx; exact h5 x hx
  · intro i g j hi hj
    rw [e1] at hj
    obtain ⟨k, c1, c2⟩ := h6 i g j hi hj
    exact ⟨k, by rw [e3]; exact c1, fun k' hk' => by rw [e3, e1]; exact c2 k' hk'⟩
/-- the table laid anew, larger -/
theorem relayP {o : Obj} (ho : s.heap.get? a = some o) (hex : o.ExactSet) (hd : o.data = .set es ep t) (rows : es.toList = L.map (rowP P w)) (T : TabOk t (L.map fun p => hashP P w p.2)) (hfl : L.length ≤ t.mask)
    (nd : (L.map (·.2)).Nodup) (tup : ∀ p ∈ L, IsP P w s.heap p.2 p.1) (few : L.length < 64) {wanted M : Nat}
    (hw : SetTable.sizeAbove wanted - 1 = M) (hM : MaskOk M) (hw2 : SetTable.sizeAbove wanted ≤ 128) (hn : L.length * 5 < M * 3) {Q : Unit → Shared → Prop}
    (hQ : ∀ h' L' es' ep' t', Heap.SameBut a s.heap h' → PSet P w h' a L' es' ep' t' → L'.Perm L → Q () { s with heap := h' }) : wpAny (model P w) A (setRelay a wanted) Q E s := by
  have hsl : es.size = L.length := by
    have h := congrArg List.length rows
    rwa [Array.length_toList, List.length_map] at h
  have hsz := T.sz
  rw [List.length_map] at hsz
  have hfits : t.fits es.size = true := by
    unfold SetTable.fits SetTable.fill
    rw [T.dm, Bool.and_eq_true, beq_iff_eq, decide_eq_true_eq]
    show t.place.size = es.size ∧ t.place.size + 0 ≤ t.mask
    omega
  obtain ⟨t', order, e, hp, T', em, el, epl, ed⟩ := relaid_ok t (hs := es.map (·.1)) (wanted := wanted) hw hM (by rw [Array.size_map, hsl]; omega)
  rw [Array.size_map, hsl] at hp
  obtain ⟨L2, r1, r2, r3⟩ := reorder (rowP P w) L es order rows hp
  rw [← r3] at T'
  have hs2 : (order.filterMap (es[·]?)).size = es.size := by
    have h := congrArg List.length r1
    rw [Array.length_toList, List.length_map, r2.length_eq] at h
    rw [h, hsl]
  rw [setRelay_eq]
  refine wpAny_bind (wpAny_setState_of ho hd hfits ?_)
  dsimp only
  refine wp_if_neg (by rw [sizeLine_eq]; omega) ?_
  try refine wpAny_bind (wpAny_pure ?_)
  rw [e]
  dsimp only
  refine wpAny_bind ?_
  refine wp_if_neg (by rw [hs2]; simp) ?_
  try refine wpAny_bind (wpAny_pure ?_)
  refine wpAny_pure ?_
  dsimp only
  refine wpAny_storeSet_of ho hd ?_ (by rw [hs2, hsl, sizeLine_eq]; omega)
  have sb : Heap.SameBut a s.heap (s.heap.update a (Obj.putSet (order.filterMap (es[·]?)) t')) := Heap.SameBut.update ..
  refine hQ _ L2 (order.filterMap (es[·]?)) (ep + 1) t' sb ⟨⟨_, store_at ho hd, ⟨hex.1, hex.2.1, hex.2.2⟩, rfl⟩, r1, T', (r2.map (·.2)).nodup_iff.mpr nd, fun p hpm => (tup p (r2.mem_iff.mp hpm)).other ho hd sb, ?_, by rw [r2.length_eq]; exact few⟩ r2
  rw [r2.length_eq, em]
  exact hn
theorem put_perm' {α : Type} (L : List α) (p : Nat) (x : α) : (L.take p ++ x :: L.drop p).Perm (x :: L) := L2.put_perm L p x
/-- the tail of an adding: the new tuple is laid down, and the table grows where it is too full -/
theorem tailP {o : Obj} (ho : s.heap.get? a = some o) (hex : o.ExactSet) (hd : o.data = .set es ep t) {L1 : List (Addr × List Str)} {es1 : Array (Int × Value)} {u : SetTable} (hsl : es.size = L.length) (hmok : MaskOk t.mask) (hroom : L.length * 5 < t.mask * 3)
    (hin : es1.toList = L1.map (rowP P w)) (T : TabOk u (L1.map fun p => hashP P w p.2)) (hmask : u.mask = t.mask) (hps : u.place.size = L.length + 1) (hlen : L1.length = L.length + 1) (nd1 : (L1.map (·.2)).Nodup) (tup1 : ∀ h', Heap.SameBut a s.heap h' → ∀ p ∈ L1, IsP P w h' p.2 p.1) (hfew : L.length + 1 < 64) {Q : Bool → Shared → Prop}
    (hQ : ∀ h' L' es' ep' t', Heap.SameBut a s.heap h' → PSet P w h' a L' es' ep' t' → L'.Perm L1 → Q true { s with heap := h' }) :
    wpAny (model P w) A (do
      storeSet a es1 u
      if !false && u.tooFull then setRelay a (SetTable.grown (es.size + 1))
      return true) Q E s := by
  have hes : es1.size = L.length + 1 := by
    have h := congrArg List.length hin
    rw [Array.length_toList, List.length_map, hlen] at h
    exact h
  refine wpAny_bind (wpAny_storeSet_of ho hd ?_ (by rw [hes, sizeLine_eq]; omega))
  have sb : Heap.SameBut a s.heap (s.heap.update a (Obj.putSet es1 u)) := Heap.SameBut.update ..
  have ho1 := store_at (es' := es1) (t' := u) ho hd
  have tup2 := tup1 _ sb
  generalize s.heap.update a (Obj.putSet es1 u) = h1 at sb ho1 tup2 ⊢
  have hfill : u.tooFull = true ↔ (L.length + 1) * 5 ≥ u.mask * 3 := by
    unfold SetTable.tooFull SetTable.fill
    rw [decide_eq_true_eq, T.dm]
    show (u.place.size + 0) * 5 ≥ u.mask * 3 ↔ _
    rw [hps]
  by_cases hf : u.tooFull = true
  · first
      | (refine wpAny_bind ?_; refine wp_if_pos (by simp [hf]) ?_)
      | (refine wp_if_pos (by simp [hf]) ?_; refine wpAny_bind ?_)
    have hfull := hfill.mp hf
    rw [hmask] at hfull
    rw [hsl]
    have cases2 : (t.mask = 7 ∧ L.length = 4) ∨ (t.mask = 31 ∧ L.length = 18) := by
      rcases hmok with e | e | e
      · left; rw [e] at hfull hroom; exact ⟨e, by omega⟩
      · right; rw [e] at hfull hroom; exact ⟨e, by omega⟩
      · exfalso; rw [e] at hfull; omega
    have go : ∀ M, SetTable.sizeAbove (SetTable.grown (L.length + 1)) - 1 = M → MaskOk M → SetTable.sizeAbove (SetTable.grown (L.length + 1)) ≤ 128 → (L.length + 1) * 5 < M * 3 →
        wpAny (model P w) A (setRelay a (SetTable.grown (L.length + 1))) (fun _ s' => wpAny (model P w) A (pure true) Q E s') E { s with heap := h1 } := fun M h1' h2' h3' h4' => by
      refine relayP (s := { s with heap := h1 }) ho1 ⟨hex.1, hex.2.1, hex.2.2⟩ rfl hin T (by rw [hlen, hmask]; rcases cases2 with ⟨e, e2⟩ | ⟨e, e2⟩ <;> omega) nd1 tup2 (by rw [hlen]; exact hfew) h1' h2' h3' (by rw [hlen]; exact h4') ?_
      intro h2 L2 es2 ep2 t2 sb2 R2 pm2
      exact wpAny_pure (hQ h2 L2 es2 ep2 t2 (sb.trans sb2) R2 pm2)
    rcases cases2 with ⟨_, e2⟩ | ⟨_, e2⟩
    · refine go 31 (by rw [e2, size_20]) (.inr (.inl rfl)) (by rw [e2, size_20]; decide) (by omega)
    · refine go 127 (by rw [e2, size_76]) (.inr (.inr rfl)) (by rw [e2, size_76]; decide) (by omega)
  · first
      | refine wp_if_neg (by simp [hf]) ?_
      | (refine wpAny_bind ?_; refine wp_if_neg (by simp [hf]) ?_; refine wpAny_pure ?_)
    refine wpAny_pure (hQ h1 L1 es1 (ep + 1) u sb ⟨⟨_, ho1, ⟨hex.1, hex.2.1, hex.2.2⟩, rfl⟩, hin, T, nd1, tup2, ?_, by rw [hlen]; exact hfew⟩ (List.Perm.refl _))
    have h := mt hfill.mpr hf
    rw [hlen]
    omega
/-- ADDING: what is there stays as it is; what isn't comes to it -/
theorem addP (R : PSet P w s.heap a L es ep t) {x : Addr} {k : List Str} (hx : IsP P w s.heap k x) (hu : A.units < cLine) (hfew : L.length + 1 < 64) {Q : Bool → Shared → Prop}
    (hQ : ∀ b h' L' es' ep' t', Heap.SameBut a s.heap h' → PSet P w h' a L' es' ep' t' → (k ∈ L.map (·.2) → L' = L) → (k ∉ L.map (·.2) → L'.Perm ((x, k) :: L)) → Q b { s with heap := h' }) :
    wpAny (model P w) A (setAddHashed a (.ref x) (hashP P w k)) Q E s := by
  obtain ⟨o, ho, hex, hd⟩ := R.ob
  have hsl := R.size
  have hroom := R.room
  unfold setAddHashed
  refine wpAny_holding ?_
  rw [show (100000 : Nat) = 99999 + 1 from rfl, setAddHashedIn_succ]
  refine wpAny_bind (wpAny_setState_of ho hd R.fits ?_)
  dsimp only
  refine wp_if_neg (by simp [byScan, Value.scannable]) ?_
  try refine wpAny_bind (wpAny_pure ?_)
  refine wpAny_bind (seek_all R hx hu (fun hm => ?_) fun K hm hK hb => ?_)
  · exact wpAny_pure (hQ false s.heap L es ep t (Heap.SameBut.refl a s.heap) R (fun _ => rfl) fun z => absurd hm z)
  · dsimp only
    refine wpAny_bind (wpAny_setState_of ho hd R.fits ?_)
    dsimp only
    obtain ⟨q1, q2, q3, q4, q5, q6, q7, q8, q9⟩ := R.tab.put hK hb
    have hin : (SetTable.insertAt es (SetTable.below t.place (way t.mask (hashP P w k) K)) (hashP P w k, Value.ref x)).toList = (L.take (SetTable.below t.place (way t.mask (hashP P w k) K)) ++ (x, k) :: L.drop (SetTable.below t.place (way t.mask (hashP P w k) K))).map (rowP P w) := by
      rw [SetTable.toList_insertAt, R.rows, List.map_append, List.map_cons, List.map_take, List.map_drop]
      rfl
    have pm := put_perm' L (SetTable.below t.place (way t.mask (hashP P w k) K)) (x, k)
    have hhs : (L.take (SetTable.below t.place (way t.mask (hashP P w k) K)) ++ (x, k) :: L.drop (SetTable.below t.place (way t.mask (hashP P w k) K))).map (fun p => hashP P w p.2) = (L.map fun p => hashP P w p.2).take (SetTable.below t.place (way t.mask (hashP P w k) K)) ++ hashP P w k :: (L.map fun p => hashP P w p.2).drop (SetTable.below t.place (way t.mask (hashP P w k) K)) := by
      rw [List.map_append, List.map_cons, List.map_take, List.map_drop]
    generalize hpt : t.put (way t.mask (hashP P w k) K) = pt at q1 q3 q4 q5 q6 q7 q8 q9 ⊢
    obtain ⟨t1, p⟩ := pt
    dsimp only at q1 q3 q4 q5 q6 q7 q8 q9 ⊢
    subst q1
    generalize hpp : SetTable.below t.place (way t.mask (hashP P w k) K) = p at q2 q3 hin pm hhs ⊢
    have hlen : (L.take p ++ (x, k) :: L.drop p).length = L.length + 1 := pm.length_eq
    rw [← hhs] at q3
    have nd1 : ((L.take p ++ (x, k) :: L.drop p).map (·.2)).Nodup := by
      refine (pm.map (·.2)).nodup_iff.mpr ?_
      rw [List.map_cons]
      exact List.nodup_cons.mpr ⟨hm, R.nd⟩
    generalize SetTable.insertAt es p (hashP P w k, Value.ref x) = es1 at hin ⊢
    generalize L.take p ++ (x, k) :: L.drop p = L1 at pm hlen q3 nd1 hin
    have tup1 : ∀ h1, Heap.SameBut a s.heap h1 → ∀ p ∈ L1, IsP P w h1 p.2 p.1 := fun h1 sb p hp => by
      rcases List.mem_cons.mp (pm.mem_iff.mp hp) with e | hp
      · rw [e]; exact IsP.other hx ho hd sb
      · exact IsP.other (R.tup p hp) ho hd sb
    have hps : t1.place.size = L.length + 1 := by
      have h := q3.sz
      rw [List.length_map, hlen] at h
      exact h
    have fin : ∀ u : SetTable, u.place = t1.place → u.dummies = t1.dummies → u.mask = t1.mask → wpAny (model P w) A (do
        storeSet a es1 u
        if !false && u.tooFull then setRelay a (SetTable.grown (es.size + 1))
        return true) Q E s := fun u e1 e2 e3 =>
      tailP ho hex hd hsl R.tab.mok hroom hin (tabOk_congr q3 e1 e2 e3) (e3.trans q4) (by rw [e1]; exact hps) hlen nd1 tup1 hfew fun h' L' es' ep' t' sb R' pm' => hQ true h' L' es' ep' t' sb R' (fun z => absurd z hm) fun _ => pm'.trans pm
    have both : ∀ r : Bool, wpAny (model P w) A (do
        storeSet a es1 (if r then t1 else { t1 with plain := false })
        if !false && (if r then t1 else { t1 with plain := false }).tooFull then setRelay a (SetTable.grown (es.size + 1))
        return true) Q E s := fun r => by
      cases r
      · exact fin _ rfl rfl rfl
      · exact fin _ rfl rfl rfl
    by_cases hp1 : t1.plain = true
    · first
        | (refine wpAny_bind ?_; refine wp_if_pos hp1 ?_; refine hashBy hx fun r => ?_)
        | refine wp_if_pos hp1 (wpAny_bind (hashBy hx fun r => ?_))
      exact both r
    · first
        | (refine wpAny_bind ?_; refine wp_if_neg hp1 ?_; refine wpAny_pure ?_)
        | refine wp_if_neg hp1 (wpAny_bind (wpAny_pure ?_))
        | refine wp_if_neg hp1 ?_
      exact both true
end
end MyS

set_option Elab.async false
set_option linter.all false
set_option maxRecDepth 100000
set_option maxHeartbeats 4000000
/-! len(set(xs)) of a list or a tuple of tuples of texts, fewer than 64. -/
namespace MyS
open PySem PySem.Spec PyProof.Rows L2
section
variable {P : Program} {w : World} {A : Around} {E : Value → Shared → Prop} {s : Shared}
/-- the set at S behind the first i tuples -/
def JP (P : Program) (w : World) (h0 : Heap) (S : Addr) (ks : List (List Str)) (i : Nat) (h : Heap) : Prop :=
  ∃ L es ep t, PSet P w h S L es ep t ∧ (∀ p ∈ L, IsP P w h0 p.2 p.1) ∧ (∀ k, k ∈ L.map (·.2) ↔ k ∈ ks.take i) ∧ Cnt (ks.take i) L.length
theorem JP.adds {S : Addr} {ks : List (List Str)} {h0 : Heap} {i : Nat} {k : List Str} {x : Addr} (hx : ks[i]? = some k) (hb : ks.length < 64) (ht : IsP P w h0 k x) (hu : A.units < cLine) : Adds P w A S h0 (JP P w h0 S ks) i (.ref x) := by
  intro z Q E hJ hk hQ
  obtain ⟨L, es, ep, t, R, h0t, hM, hc⟩ := hJ
  have hi : i < ks.length := (List.getElem?_eq_some_iff.mp hx).1
  have hn := hc.le
  rw [List.length_take] at hn
  have hz : IsP P w z.heap k x := ht.keep fun o e => hk x o e
  unfold setAdd
  refine wpAny_holding ?_
  refine wpAny_bind (wpAny_pyHash_tuple hu hz ?_)
  refine addP (s := { z with toks := z.toks + (k.length + 1) }) R hz hu (by omega) fun b h' L' es' ep' t' sb R' c1 c2 => ?_
  refine hQ _ h' _ (Nat.le_add_right _ _) sb ⟨L', es', ep', t', R', ?_⟩
  rw [take_snoc hx]
  by_cases c : k ∈ L.map (·.2)
  · have e := c1 c
    subst e
    refine ⟨h0t, fun q => ?_, hc.old ((hM k).mp c)⟩
    rw [List.mem_append, List.mem_singleton, hM q]
    exact ⟨.inl, fun h => h.elim id fun e => e ▸ (hM k).mp c⟩
  · have pm := c2 c
    refine ⟨fun p hp => ?_, fun q => ?_, ?_⟩
    · rcases List.mem_cons.mp (pm.mem_iff.mp hp) with e | hp
      · rw [e]; exact ht
      · exact h0t p hp
    · rw [(pm.map (·.2)).mem_iff, List.map_cons, List.mem_cons, List.mem_append, List.mem_singleton, hM q]
      exact ⟨fun h => h.elim .inr .inl, fun h => h.elim .inr .inl⟩
    · rw [pm.length_eq, List.length_cons]
      exact hc.new fun m => c ((hM k).mpr m)
theorem JP.keeps {S : Addr} {ks : List (List Str)} {h0 : Heap} : KeepsJ S h0 (JP P w h0 S ks) := by
  rintro i h h' ⟨L, es, ep, t, R, h0t, r⟩ k1 k2
  obtain ⟨o, ho, r1⟩ := R.ob
  exact ⟨L, es, ep, t, ⟨⟨o, k1 o ho, r1⟩, R.rows, R.tab, R.nd, fun p hp => (h0t p hp).keep fun o e => k2 p.1 o e, R.room, R.few⟩, h0t, r⟩
theorem JP.zero {S : Addr} {ks : List (List Str)} {h h0 : Heap} (ho : h.get? S = some (freshSet w)) : JP P w h0 S ks 0 h := by
  refine ⟨[], #[], 0, _, ⟨⟨_, ho, ⟨rfl, rfl, rfl⟩, rfl⟩, rfl, ⟨List.Pairwise.nil, rfl, rfl, .inl rfl, fun x hx => (by cases hx), fun i h j hi => (by simp at hi)⟩, List.nodup_nil, fun p hp => (by cases hp), (by show 0 * 5 < 7 * 3; decide), (by show 0 < 64; decide)⟩, fun p hp => (by cases hp), fun k => by simp, ?_⟩
  rw [List.take_zero]
  exact Cnt.nil
end
theorem strItems_of_vals (P : Program) (w : World) : ∀ {k : List Str} {us : List Value}, Vals (k.map V.str) us → ItemsAre (PySem.strKind P w) k us
  | [], _, .nil => .nil
  | n :: k, _, .cons r t => by
    obtain ⟨tk, rfl⟩ := r
    exact .cons (strKind_is P w n tk) (strItems_of_vals P w t)
section
variable {X : Cx}
theorem Inv_isP {pins : List (Addr × Obj)} {σ : L2.St} {H : Hp} {s : Shared} {b : Addr} {k : List Str} (I : Inv X pins σ H s) (h : SqT X.K H b (k.map V.str)) : IsP X.prog X.w s.heap k b := by
  obtain ⟨its, r, ⟨o, ho, hc, n, hd⟩, _⟩ := I.tuple h
  exact ⟨o, its.toArray, n, ho, hc, hd, by simpa using strItems_of_vals _ _ r⟩
/-- len(set(xs)), xs tuples of texts -/
def tLenSetP (K : PySem.W.Frag) (ta : TE) : TE := fun σ H Q => ta σ H fun x H1 => ∃ (l : Addr) (ks : List (Addr × List Str)), x = .ref l ∧ (SqL K H1 l (ks.map fun p => V.ref p.1) ∨ SqT K H1 l (ks.map fun p => V.ref p.1)) ∧ (∀ p ∈ ks, SqT K H1 p.1 (p.2.map V.str)) ∧ ks.length < 64 ∧ ∀ n, Cnt (ks.map (·.2)) n → Q (.int (n : Nat)) H1
theorem refsP : ∀ {ks : List (Addr × List Str)} {us : List Value}, Vals (ks.map fun p => V.ref p.1) us → us = ks.map fun p => Value.ref p.1
  | [], _, .nil => rfl
  | p :: ks, _, .cons r t => by
    cases r
    rw [refsP t] <;> rfl
theorem pe_lenSetP {a : Expr} {ta : TE} {p p2 q pos : Pos} (hc : X.calm = true) (hu : X.A.units + 64 < cLine) (hm : X.mg "len" = none) (hm2 : X.mg "set" = none) (ha : PE X a ta) (hg : Gl X "len" := by rfl) (hg2 : Gl X "set" := by rfl)
    (na : starEach [a] X.env = (false, eval a X.env) :: starEach [] X.env := by rfl) : PE X (.Call (.Name "len" p) [.Call (.Name "set" p2) [a] [] q] [] pos) (tLenSetP X.K ta) := by
  refine ⟨fun pins s σ H Q I h => ?_⟩
  refine Call_ (ld_blt I hg hm boot_len ?_)
  refine PyProof.Rows.callWith_builtin1 (PyProof.Rows.args_cons ?_ rfl) rfl rfl
  refine Call_ (ld_blt I hg2 hm2 boot_set ?_)
  refine PyProof.Rows.callWith_type1 (PyProof.Rows.args_cons (thn (ha.run pins s σ H _ I h) fun v s1 ⟨x, H1, I1, r1, q1⟩ => PyProof.Rows.args_nil ?_) na) na rfl
  obtain ⟨l, ks, rfl, hq, ht, h1, q1⟩ := q1
  cases r1
  have go : ∀ (its : List Value), Vals (ks.map fun p => V.ref p.1) its → (s1.heap.IsList l its.toArray ∨ s1.heap.IsTuple l its.toArray) → wpAny (model X.prog X.w) X.A (call (.type "set") [.ref l])
      (fun v s₂ => wpAny (model X.prog X.w) X.A (spliced (backTo pos (starEach [] X.env))) (fun vs s₃ => wpAny (model X.prog X.w) X.A (call (.builtin "len") (v :: vs)) (EP X pins σ Q) X.xe s₃) X.xe s₂) X.xe s1 := fun its r hl => by
    have hits := refsP r
    have hsz : its.toArray.size = ks.length := by rw [List.size_toArray, hits, List.length_map]
    refine call_setJ (J := JP X.prog X.w s1.heap s1.heap.objs.size (ks.map (·.2))) (I1.ok.hd hc) hl (fun h ho => JP.zero ho) JP.keeps (fun h hJ => ?_) (fun A' hA i v hv => ?_) fun h' tk hJ hk _ => ?_
    · obtain ⟨L, es, ep, t, R, _⟩ := hJ
      obtain ⟨o, ho, _⟩ := R.ob
      exact ⟨o, ho⟩
    · have e1 : (ks.map fun p => Value.ref p.1)[i]? = some v := by rw [← hits]; simpa using hv
      rw [List.getElem?_map] at e1
      obtain ⟨p, hp, rfl⟩ := Option.map_eq_some_iff.mp e1
      exact JP.adds (k := p.2) (by rw [List.getElem?_map, hp]; rfl) (by rw [List.length_map]; exact h1) (Inv_isP I1 (ht p (List.mem_of_getElem? hp))) (by omega)
    · rw [hsz] at hJ
      obtain ⟨L, es, ep, t, R, _, hM, hcn⟩ := hJ
      rw [show ks.length = (ks.map (·.2)).length by rw [List.length_map], List.take_length] at hcn
      have I2 : Inv X pins σ H1 { s1 with heap := h', toks := tk } := I1.kept fun b o e => hk b o e
      refine PyProof.Rows.args_nil ?_
      have hle := hcn.le
      obtain ⟨o, ho, hex, hd⟩ := R.ob
      have hfew := R.few
      refine call_len_set ho hex hd (R.fits (s := { s1 with heap := h', toks := tk })) (by rw [R.size (s := { s1 with heap := h', toks := tk })]; omega) ⟨.int (L.length : Nat), H1, I2.tok _, ⟨_, by rw [R.size (s := { s1 with heap := h', toks := tk })]⟩, q1 L.length hcn⟩
  rcases hq with hq | hq
  · obtain ⟨its, r, pl, hz⟩ := I1.list hq
    exact go its r (.inl pl.isList)
  · obtain ⟨its, r, pl, hz⟩ := I1.tuple hq
    exact go its r (.inr (by first | exact pl | exact pl.isTuple))
end
end MyS

set_option Elab.async false
set_option linter.all false
set_option maxRecDepth 100000
set_option maxHeartbeats 4000000
/-! sorted(xs) of a list or a tuple: of texts, of pairs of texts, of tuples told apart by their first text. -/
namespace MyS
open PySem PySem.Spec PyProof.Rows L2
open SrtO hiding Str
/-! ### the order of texts -/
def slt (a b : Str) : Bool := decide (a.cps.toList < b.cps.toList)
theorem str_ext {a b : Str} (h : a.cps.toList = b.cps.toList) : a = b := by
  obtain ⟨x⟩ := a
  obtain ⟨y⟩ := b
  exact congrArg PySem.Str.mk (Array.toList_inj.mp h)
theorem slt_iff {a b : Str} : slt a b = true ↔ a.cps.toList < b.cps.toList := decide_eq_true_iff
theorem slt_no {a b : Str} : slt a b = false ↔ ¬ a.cps.toList < b.cps.toList := decide_eq_false_iff_not
theorem slt_irr (a : Str) : slt a a = false := slt_no.mpr (List.lt_irrefl _)
theorem slt_asym {a b : Str} (h : slt a b = true) : slt b a = false := slt_no.mpr fun k => List.lt_irrefl _ (List.lt_trans (slt_iff.mp h) k)
theorem slt_tri {a b : Str} (h1 : slt a b = false) (h2 : slt b a = false) : a = b :=
  str_ext (List.le_antisymm (List.not_lt.mp (slt_no.mp h2)) (List.not_lt.mp (slt_no.mp h1)))
theorem slt_ntr {x y z : Str} (h1 : slt y x = false) (h2 : slt z y = false) : slt z x = false :=
  slt_no.mpr (List.not_lt.mpr (List.le_trans (List.not_lt.mp (slt_no.mp h1)) (List.not_lt.mp (slt_no.mp h2))))
theorem slt_trans {x y z : Str} (h1 : slt x y = true) (h2 : slt y z = true) : slt x z = true := slt_iff.mpr (List.lt_trans (slt_iff.mp h1) (slt_iff.mp h2))
/-- pairs: the first, then the second -/
def slt2 (p q : Str × Str) : Bool := if p.1 = q.1 then slt p.2 q.2 else slt p.1 q.1
theorem swo_s : Swo slt := ⟨fun x y h => slt_asym h, fun x y z h1 h2 => slt_ntr h1 h2⟩
theorem slt2_eq {p q : Str × Str} (h : p.1 = q.1) : slt2 p q = slt p.2 q.2 := if_pos h
theorem slt2_ne {p q : Str × Str} (h : ¬ p.1 = q.1) : slt2 p q = slt p.1 q.1 := if_neg h
theorem swo_s2 : Swo slt2 := by
  refine ⟨fun x y h => ?_, fun x y z h1 h2 => ?_⟩
  · by_cases e : x.1 = y.1
    · rw [slt2_eq e] at h
      rw [slt2_eq e.symm]
      exact slt_asym h
    · rw [slt2_ne e] at h
      rw [slt2_ne (fun c => e c.symm)]
      exact slt_asym h
  · by_cases e : z.1 = x.1
    · rw [slt2_eq e]
      by_cases e1 : y.1 = x.1
      · rw [slt2_eq e1] at h1
        rw [slt2_eq (e.trans e1.symm)] at h2
        exact slt_ntr h1 h2
      · rw [slt2_ne e1] at h1
        rw [slt2_ne (fun c => e1 (c.symm.trans e)), e] at h2
        exact absurd (slt_tri h1 h2) e1
    · rw [slt2_ne e]
      by_cases e1 : y.1 = x.1
      · rw [slt2_ne (fun c => e (c.trans e1)), e1] at h2
        exact h2
      · rw [slt2_ne e1] at h1
        by_cases e2 : z.1 = y.1
        · rw [e2]; exact h1
        · rw [slt2_ne e2] at h2
          exact slt_ntr h1 h2
theorem swo_of {α β : Type} {lt : β → β → Bool} (O : Swo lt) (f : α → β) : Swo fun x y => lt (f x) (f y) := ⟨fun x y => O.asym (f x) (f y), fun x y z => O.tr (f x) (f y) (f z)⟩
section
variable {prog : Program} {w : World} {A : Around} {E : Value → Shared → Prop} {s : Shared}
/-- collecting a tuple -/
theorem collect_tup {l : Addr} {vs : List Value} {Q : List Value → Shared → Prop} (hl : s.heap.IsTuple l vs.toArray)
    (h : Q vs { s with heap := (s.heap.push (seqObj "list" #[] 0)).update s.heap.objs.size (Obj.mapSeq (· ++ vs.toArray)) }) (hsz : vs.length ≤ sizeLine) :
    wpAny (model prog w) A (collect (.ref l)) Q E s := by
  obtain ⟨o, ho, hc, n, hd⟩ := id hl
  unfold collect
  refine wpAny_bind (wpAny_runValue (codeAny_builtin entry_proto_collect' ?_))
  show wpAny _ _ (do again (.builtin "list.__iadd__" ⟨[← newList [], .ref l], []⟩)) _ _ s
  refine wpAny_bind (wpAny_newList (wpAny_pure ⟨Code.quiet_builtin _ (by decide +kernel), codeAny_builtin entry_list_iadd' ?_⟩))
  show wpAny _ _ (Builtin.List.listExtendWith (.ref s.heap.objs.size) (.ref l) (.ref s.heap.objs.size)) _ _ { s with heap := s.heap.push (seqObj "list" #[] 0) }
  unfold Builtin.List.listExtendWith
  have ho' : (s.heap.push (seqObj "list" #[] 0)).get? l = some o := Heap.get?_push_of_some _ ho
  refine wpAny_bind (wpAny_typeOf (T := "tuple") ⟨o, ho', hc⟩ ?_)
  have ht : (Value.type "tuple" == Value.type "tuple") = true := by rfl
  rw [if_pos (by rw [ht]; simp)]
  refine wpAny_bind (listItems_at ho' hd ?_)
  refine wpAny_bind (listItems_at (xs := #[]) (n := 0) (Heap.get?_push_size _ rfl) rfl ?_)
  rw [if_neg (by simp)]
  refine wpAny_bind (listUpdate_at (xs := #[]) (n := 0) (Heap.get?_push_size _ rfl) rfl ?_ (Nat.zero_le _) (by show (#[] ++ vs.toArray).size ≤ sizeLine + 1; simp only [Array.size_append, List.size_toArray, List.length_nil]; omega))
  refine wpAny_pure ?_
  show wpAny (model prog w) A (do
      let o ← load s.heap.objs.size
      match o.data with
      | .seq xs _ => pure xs.toList
      | _ => unsupported "internal:collect") Q E { s with heap := (s.heap.push (seqObj "list" #[] 0)).update s.heap.objs.size (Obj.mapSeq (· ++ vs.toArray)) }
  refine wpAny_bind (wpAny_load (get?_update_seq (Heap.get?_push_size _ rfl) _) ?_)
  show wpAny _ _ (pure ((#[] : Array Value) ++ vs.toArray).toList) Q E _
  rw [show ((#[] : Array Value) ++ vs.toArray).toList = vs by simp]
  exact wpAny_pure h
/-- sorted(l), l a list or a tuple -/
theorem sorted_seq {l : Addr} {vs : List Value} {ltv : Value → Value → Bool} {Q : Value → Shared → Prop} (O : Swo ltv) (hl : s.heap.IsList l vs.toArray ∨ s.heap.IsTuple l vs.toArray) (hz : vs.length ≤ sizeLine)
    (hS : 2 ≤ vs.length → ∀ (h₁ : Heap) (a : Addr), h₁.get? a = some (seqObj "list" vs.toArray 0) → (∀ b o, s.heap.get? b = some o → b ≠ a ∧ h₁.get? b = some o) → SortableO prog w A.in1.in1 { s with heap := h₁ } a vs ltv)
    (h : ∀ out : List Value, Srtd ltv out → Stb ltv out vs → Q (.ref (s.heap.objs.size + 1)) { s with heap := sortedAll s.heap vs out.toArray }) :
    wpAny (model prog w) A (call (.builtin "sorted") [.ref l]) Q E s := by
  rcases hl with hl | hl
  · exact sorted_ord O hl hz hS h
  refine Calls.call_function_entry kind_sorted plain_sorted entry_sorted (args_sorted1 _) ?_
  unfold Builtin.«sorted»
  refine wpAny_bind (m := checkCount "sorted" 1 1 _) (wpAny_pure ?_)
  refine wpAny_bind (collect_tup hl ?_ hz)
  refine wpAny_bind (wpAny_newList ?_ hz)
  have hsz : ((s.heap.push (seqObj "list" #[] 0)).update s.heap.objs.size (Obj.mapSeq (· ++ vs.toArray))).objs.size = s.heap.objs.size + 1 := by
    rw [Heap.size_update, size_push']
  have hoL : (((s.heap.push (seqObj "list" #[] 0)).update s.heap.objs.size (Obj.mapSeq (· ++ vs.toArray))).push (seqObj "list" vs.toArray 0)).get? (s.heap.objs.size + 1) = some (seqObj "list" vs.toArray 0) := by
    rw [← hsz]; exact Heap.get?_push_size _ rfl
  have keep : ∀ b o, s.heap.get? b = some o → b ≠ s.heap.objs.size + 1 ∧ (((s.heap.push (seqObj "list" #[] 0)).update s.heap.objs.size (Obj.mapSeq (· ++ vs.toArray))).push (seqObj "list" vs.toArray 0)).get? b = some o := fun b o q => by
    have hlt : b < s.heap.objs.size := Heap.lt_size q
    refine ⟨Nat.ne_of_lt (Nat.lt_succ_of_lt hlt), Heap.get?_push_of_some _ ?_⟩
    rw [Heap.get?_update_ne _ _ _ _ (Nat.ne_of_lt hlt)]
    exact Heap.get?_push_of_some _ q
  show wpAny _ _ _ _ _ { s with heap := ((s.heap.push (seqObj "list" #[] 0)).update s.heap.objs.size (Obj.mapSeq (· ++ vs.toArray))).push (seqObj "list" vs.toArray 0) }
  rw [hsz]
  refine wpAny_bind (wpAny_holding (wpAny_call_entry slot_list_sort ⟨_, hoL, rfl⟩ entry_list_sort (list_sort_ord O hoL hz (fun h2 => hS h2 _ _ hoL keep) fun out hs hb => ⟨_, rfl, ?_⟩) (args_list_sort _)))
  exact wpAny_pure ⟨_, rfl, h out hs hb⟩
/-! ### texts -/
def sv : Value → Str
  | .str x _ => x
  | _ => ⟨#[]⟩
theorem strs_cmp {vs : List Value} (hI : ∀ v ∈ vs, ∃ x t, v = Value.str x t) : Cmp prog w A s oneType' (fun p => p.1 ∈ vs) (lt2 fun v u => slt (sv v) (sv u)) := by
  intro p q hm hm'
  obtain ⟨a, t, e⟩ := hI _ hm
  obtain ⟨b, u, e'⟩ := hI _ hm'
  show wpAny (model prog w) A (keyLt' oneType' p.1 q.1) (fun r s' => s' = s ∧ r = slt (sv p.1) (sv q.1)) (fun _ _ => False) s
  rw [e, e', keyLt'_oneType]
  exact oneLt_str ⟨rfl, rfl⟩
theorem strs_sortable {a : Addr} {vs : List Value} {ss : List Str} (hI : StrsAre vs ss) (h2 : 2 ≤ vs.length) : SortableO prog w A s a vs fun v u => slt (sv v) (sv u) := by
  intro h' _
  refine ⟨oneType', fun Q E hq => ?_, strs_cmp hI.all⟩
  match vs, hI, h2 with
  | v1 :: v2 :: rest, hI, _ =>
    rw [keyKind_strs hI]
    exact wpAny_pure hq
  | [], _, h => exact absurd h (by decide)
  | [v], _, h => exact absurd h (by simp)
theorem sv_strs : ∀ {vs : List Value} {ss : List Str}, StrsAre vs ss → vs.map sv = ss
  | _, _, .nil => rfl
  | _, _, .cons n t r => congrArg (n :: ·) (sv_strs r)
theorem strs_sv : ∀ {vs : List Value}, (∀ v ∈ vs, ∃ x t, v = Value.str x t) → StrsAre vs (vs.map sv)
  | [], _ => .nil
  | v :: vs, h => by
    obtain ⟨i, t, e⟩ := h v List.mem_cons_self
    subst e
    exact .cons i t (strs_sv fun u hu => h u (List.mem_cons_of_mem _ hu))
end
/-- ascending -/
def Asc (ys : List Str) : Prop := ys.Pairwise fun a b => slt b a = false
section
variable {X : Cx}
/-- sorted(xs), texts, a list or a tuple of them -/
def rSortSQ (K : PySem.W.Frag) : List V → Hp → VK → Prop := fun vs H Q => ∃ (a : Addr) (xs : List Str), vs = [V.ref a] ∧ (SqL K H a (xs.map V.str) ∨ SqT K H a (xs.map V.str)) ∧
  ∀ (ys : List Str) (p : Addr), ys.Perm xs → Asc ys → H p = none → Q (.ref p) (upd H p (.lst (ys.map V.str)))
theorem cr_sortSQ : CallR X (.builtin "sorted") (rSortSQ X.K) := by
  intro pins s σ H vs us Q I r h
  obtain ⟨a, xs, rfl, hs, q⟩ := h
  rw [Vals.ref1 r]
  have go : ∀ (its : List Value), Vals (xs.map V.str) its → (s.heap.IsList a its.toArray ∨ s.heap.IsTuple a its.toArray) → (xs.map V.str).length ≤ sizeLine → wpAny (model X.prog X.w) X.A (call (.builtin "sorted") [.ref a]) (EP X pins σ Q) X.xe s := fun its rv hl hz => by
    have hi := rv.strs
    refine sorted_seq (swo_of swo_s sv) hl (by rw [← rv.length]; exact hz) (fun h2 h₁ a' _ _ => strs_sortable hi h2) fun out h1 h2 => ?_
    have ho : ∀ v ∈ out, ∃ x t, v = Value.str x t := fun v hv => hi.all v (h2.perm.mem_iff.mp hv)
    have pm : (out.map sv).Perm xs := by
      have q := h2.perm.map sv
      rw [sv_strs hi] at q
      exact q
    obtain ⟨ep, he'⟩ := PyProof.Rows.sortedAll_at s.heap its out.toArray
    have hlen : ((out.map sv).map V.str).length ≤ sizeLine := by
      rw [List.length_map, pm.length_eq]
      rw [List.length_map] at hz
      exact hz
    exact ⟨.ref _, upd H (s.heap.objs.size + 1) (.lst ((out.map sv).map V.str)), I.laid (t' := s.toks) (fun _ _ => PyProof.Rows.sortedAll_old) (Nat.le_succ _) ⟨hlen, out, ep, vals_of_strs (strs_sv ho), he'⟩, rfl, q _ _ pm (List.pairwise_map.mpr h1) (I.hok.fresh (Nat.le_succ _))⟩
  rcases hs with hs | hs
  · obtain ⟨its, rv, pl, hz⟩ := I.list hs
    exact go its rv (.inl pl.isList) (by first | exact hz | (rw [rv.length]; exact hz))
  · obtain ⟨its, rv, pl, hz⟩ := I.tuple hs
    exact go its rv (.inr (by first | exact pl | exact pl.isTuple)) (by first | exact hz | (rw [rv.length]; exact hz))
end
end MyS

set_option Elab.async false
set_option linter.all false
set_option maxRecDepth 100000
set_option maxHeartbeats 4000000
/-! sorted(xs), xs a list of tuples: pairs of texts, or tuples told apart by their first text. -/
namespace MyS
open PySem PySem.Spec PyProof.Rows L2
open SrtO hiding Str
section
variable {prog : Program} {w : World} {A : Around} {E : Value → Shared → Prop} {s : Shared}
/-- v is a tuple with these items -/
def IsTp (h : Heap) (v : Value) (a : Str) (r : List Value) : Prop := ∃ (b : Addr) (o : Obj) (xs : Array Value) (n : Nat) (t : Tok), v = .ref b ∧ h.get? b = some o ∧ o.cls = .type "tuple" ∧ o.data = .seq xs n ∧ xs.toList = .str a t :: r
theorem IsTp.keeps {h h' : Heap} {v : Value} {a : Str} {r : List Value} (x : IsTp h v a r) (k : ∀ b o, h.get? b = some o → o.cls = .type "tuple" → h'.get? b = some o) : IsTp h' v a r := by
  obtain ⟨b, o, xs, n, t, e, ho, hc, q⟩ := x
  exact ⟨b, o, xs, n, t, e, k b o ho hc, hc, q⟩
theorem firstsS {h : Heap} : ∀ {vs : List Value}, (∀ v ∈ vs, ∃ a r, IsTp h v a r) → ∃ fs : List Value, PySem.W.KatTups h vs fs ∧ fs.length = vs.length ∧ ∀ f ∈ fs, ∃ x t, f = Value.str x t
  | [], _ => ⟨[], PySem.W.KatTups.nil, rfl, fun _ hm => by simp at hm⟩
  | v :: vs, hp => by
    obtain ⟨fs, h1, h2, h3⟩ := firstsS (vs := vs) fun v' hm => hp v' (List.mem_cons_of_mem _ hm)
    obtain ⟨a, r, b, o, xs, n, t, e, ho, hc, hd, hx⟩ := hp v (List.mem_cons_self ..)
    subst e
    refine ⟨.str a t :: fs, PySem.W.KatTups.cons ho hc hd (by rw [← Array.getElem?_toList, hx]; rfl) h1, by rw [List.length_cons, List.length_cons, h2], fun f hm => ?_⟩
    rcases List.mem_cons.mp hm with rfl | hm
    · exact ⟨a, t, rfl⟩
    · exact h3 f hm
theorem kat_self {b fin : Bool} {Q : Bool → Shared → Prop} : ∀ (r : List Value) (i : Nat), Q fin s → PySem.W.KatLex prog w A b fin Q (r.zip r) i s
  | [], _, h => PySem.W.kat_nil h
  | v :: r, i, h => PySem.W.kat_cons (SeqAt.EqAt.same v prog w _ _ (PySem.W.kat_yes (kat_self r (i + 1) h)))
theorem slt_eqF {a b : Str} (h : a = b) : slt a b = false := by rw [h]; exact slt_irr b
/-- tuples told apart by their first text -/
theorem first_cmp {vs : List Value} {k : Value → Str} (hp : ∀ v ∈ vs, ∃ r, IsTp s.heap v (k v) r) (ne : ∀ v ∈ vs, ∀ u ∈ vs, k v = k u → v = u) : Cmp prog w A s (tuples' true) (fun p => p.1 ∈ vs) (lt2 fun v u => slt (k v) (k u)) := by
  intro p q hm hm'
  obtain ⟨r, b, o, xs, n, t, e, ho, hc, hd, hx⟩ := hp _ hm
  obtain ⟨r', b', o', xs', n', t', e', ho', hc', hd', hx'⟩ := hp _ hm'
  have hne := ne _ hm _ hm'
  show wpAny (model prog w) A (keyLt' (tuples' true) p.1 q.1) (fun r s' => s' = s ∧ r = slt (k p.1) (k q.1)) (fun _ _ => False) s
  generalize k p.1 = x at *
  generalize k q.1 = y at *
  rw [e, e'] at hne ⊢
  refine PySem.W.kat_lt ho hd ho' hd' ?_
  rw [hx, hx']
  show PySem.W.KatLex prog w A true (decide (xs.size < xs'.size)) _ ((.str x t, .str y t') :: r.zip r') 0 s
  refine PySem.W.kat_cons (SeqAt.EqAt.str_str x t y t' prog w _ _ ?_)
  refine PySem.W.kat_go (fun e1 => ?_) (fun e1 => ?_)
  · have ex : x = y := by simpa using e1
    have eb : Value.ref b = Value.ref b' := hne ex
    injection eb with eb
    subst eb
    obtain rfl : o = o' := Option.some.inj (ho.symm.trans ho')
    have e2 : PySem.Data.seq xs n = PySem.Data.seq xs' n' := hd.symm.trans hd'
    injection e2 with e2 e3
    subst e2
    have e4 := (List.cons.inj (hx.symm.trans hx')).2
    subst e4
    refine PySem.W.kat_yes (kat_self r 1 ⟨rfl, ?_⟩)
    rw [slt_eqF ex]
    exact decide_eq_false (Nat.lt_irrefl _)
  · exact PySem.W.kat_no (oneLt_str ⟨rfl, rfl⟩)
/-- pairs of texts -/
theorem pairs_cmp {vs : List Value} {k : Value → Str × Str} (hp : ∀ v ∈ vs, ∃ t, IsTp s.heap v (k v).1 [.str (k v).2 t]) : Cmp prog w A s (tuples' true) (fun p => p.1 ∈ vs) (lt2 fun v u => slt2 (k v) (k u)) := by
  intro p q hm hm'
  obtain ⟨t2, b, o, xs, n, t, e, ho, hc, hd, hx⟩ := hp _ hm
  obtain ⟨t2', b', o', xs', n', t', e', ho', hc', hd', hx'⟩ := hp _ hm'
  show wpAny (model prog w) A (keyLt' (tuples' true) p.1 q.1) (fun r s' => s' = s ∧ r = slt2 (k p.1) (k q.1)) (fun _ _ => False) s
  generalize k p.1 = x at *
  generalize k q.1 = y at *
  rw [e, e']
  have sz : xs.size = 2 := by rw [← Array.length_toList, hx]; rfl
  have sz' : xs'.size = 2 := by rw [← Array.length_toList, hx']; rfl
  refine PySem.W.kat_lt ho hd ho' hd' ?_
  rw [hx, hx', sz, sz']
  show PySem.W.KatLex prog w A true (decide (2 < 2)) _ [(.str x.1 t, .str y.1 t'), (.str x.2 t2, .str y.2 t2')] 0 s
  refine PySem.W.kat_cons (SeqAt.EqAt.str_str x.1 t y.1 t' prog w _ _ ?_)
  refine PySem.W.kat_go (fun e1 => ?_) (fun e1 => ?_)
  · have ex : x.1 = y.1 := by simpa using e1
    refine PySem.W.kat_yes (PySem.W.kat_cons (SeqAt.EqAt.str_str x.2 t2 y.2 t2' prog w _ _ ?_))
    refine PySem.W.kat_go (fun e2 => ?_) (fun e2 => ?_)
    · have ey : x.2 = y.2 := by simpa using e2
      refine PySem.W.kat_yes (PySem.W.kat_nil ⟨rfl, ?_⟩)
      rw [slt2_eq ex, slt_eqF ey]
      rfl
    · refine PySem.W.kat_no (PySem.W.kat_one _ _ ?_)
      refine PyProof.Rows.lt_str ?_
      exact ⟨rfl, (slt2_eq ex).symm⟩
  · have ex : ¬ x.1 = y.1 := by simpa using e1
    exact PySem.W.kat_no (oneLt_str ⟨rfl, (slt2_ne ex).symm⟩)
theorem tps_kind {vs : List Value} (h0 : 0 < vs.length) (hp : ∀ v ∈ vs, ∃ a r, IsTp s.heap v a r) {Q : SortKind → Shared → Prop} (hq : Q (tuples' true) s) : wpAny (model prog w) A (keyKind' vs.toArray) Q E s := by
  obtain ⟨fs, h1, h2, h3⟩ := firstsS hp
  refine PySem.W.kat_kind (T := .type "str") h1 (by omega) (fun f hm => ?_) (by rfl) ?_
  · obtain ⟨x, t, rfl⟩ := h3 f hm
    exact PySem.W.Looks.now
  · have e : (Value.type "str" != Value.type "tuple") = true := by first | decide +kernel | rfl | decide
    rw [e]
    exact hq
theorem first_sortable {a : Addr} {vs : List Value} {k : Value → Str} (h0 : 0 < vs.length) (hp : ∀ v ∈ vs, ∃ r, IsTp s.heap v (k v) r) (ne : ∀ v ∈ vs, ∀ u ∈ vs, k v = k u → v = u) (ha : ∀ o, s.heap.get? a = some o → o.cls ≠ .type "tuple") : SortableO prog w A s a vs fun v u => slt (k v) (k u) := by
  intro h' keep
  have hp' : ∀ v ∈ vs, ∃ r, IsTp h' v (k v) r := fun v hm => let ⟨r, z⟩ := hp v hm; ⟨r, z.keeps fun b o e c => keep b o (fun z => by subst z; exact ha o e c) e⟩
  exact ⟨tuples' true, fun Q E hq => tps_kind h0 (fun v hm => let ⟨r, z⟩ := hp' v hm; ⟨_, r, z⟩) hq, first_cmp hp' ne⟩
theorem pairs_sortable {a : Addr} {vs : List Value} {k : Value → Str × Str} (h0 : 0 < vs.length) (hp : ∀ v ∈ vs, ∃ t, IsTp s.heap v (k v).1 [.str (k v).2 t]) (ha : ∀ o, s.heap.get? a = some o → o.cls ≠ .type "tuple") : SortableO prog w A s a vs fun v u => slt2 (k v) (k u) := by
  intro h' keep
  have hp' : ∀ v ∈ vs, ∃ t, IsTp h' v (k v).1 [.str (k v).2 t] := fun v hm => let ⟨r, z⟩ := hp v hm; ⟨r, z.keeps fun b o e c => keep b o (fun z => by subst z; exact ha o e c) e⟩
  exact ⟨tuples' true, fun Q E hq => tps_kind h0 (fun v hm => let ⟨r, z⟩ := hp' v hm; ⟨_, _, z⟩) hq, pairs_cmp hp'⟩
end
section
variable {X : Cx}
theorem noTup {h : Heap} {a : Addr} {vs : List Value} (ha : h.get? a = some (seqObj "list" vs.toArray 0)) : ∀ o, h.get? a = some o → o.cls ≠ .type "tuple" := fun o e c => by
  have e' : some o = some (seqObj "list" vs.toArray 0) := e.symm.trans ha
  cases e'
  exact absurd (Value.type.inj c) (by decide)
/-- sorted(xs), xs a list of tuples told apart by their first text -/
def rSortR (K : PySem.W.Frag) : List V → Hp → VK → Prop := fun vs H Q => ∃ (a : Addr) (xs : List V) (k : V → Str), vs = [V.ref a] ∧ SqL K H a xs ∧ (∀ x ∈ xs, ∃ t r, x = V.ref t ∧ SqT K H t (.str (k x) :: r)) ∧ (∀ x ∈ xs, ∀ y ∈ xs, k x = k y → x = y) ∧
  ∀ ys p, ys.Perm xs → ys.Pairwise (fun x y => slt (k y) (k x) = false) → H p = none → Q (.ref p) (upd H p (.lst ys))
theorem cr_sortR : CallR X (.builtin "sorted") (rSortR X.K) := by
  intro pins s σ H vs us Q I r h
  obtain ⟨a, xs, k, rfl, hs, hx, ne, q⟩ := h
  obtain ⟨its, rv, hl, hz⟩ := I.list hs
  rw [Vals.ref1 r]
  obtain ⟨e1, e2⟩ := refs_back rv fun x m => by
    obtain ⟨t, r, e, _⟩ := hx x m
    exact ⟨t, e⟩
  have hp : ∀ v ∈ its, ∃ r, IsTp s.heap v (k (backV v)) r := fun v hv => by
    obtain ⟨t, rfl⟩ := e2 v hv
    have hm : V.ref t ∈ xs := by rw [e1]; exact List.mem_map.mpr ⟨_, hv, rfl⟩
    obtain ⟨t', r, e, ht⟩ := hx _ hm
    cases e
    obtain ⟨its2, r2, ⟨o, ho, hc, n, hd⟩, _⟩ := I.tuple ht
    cases r2 with
    | cons r0 r3 =>
      obtain ⟨tk, rfl⟩ := r0
      exact ⟨_, t, o, _, n, tk, rfl, ho, hc, hd, rfl⟩
  have ne' : ∀ v ∈ its, ∀ u ∈ its, k (backV v) = k (backV u) → v = u := fun v hv u hu e => by
    obtain ⟨t, rfl⟩ := e2 v hv
    obtain ⟨t', rfl⟩ := e2 u hu
    have q := ne (.ref t) (by rw [e1]; exact List.mem_map.mpr ⟨_, hv, rfl⟩) (.ref t') (by rw [e1]; exact List.mem_map.mpr ⟨_, hu, rfl⟩) e
    injection q with q
    rw [q]
  refine sorted_seq (swo_of swo_s fun u => k (backV u)) (.inl hl.isList) (by rw [← rv.length]; exact hz) (fun h2 h₁ a' ha' kk => first_sortable (by omega) (fun v hv => let ⟨r, z⟩ := hp v hv; ⟨r, z.keeps fun b o e _ => (kk b o e).2⟩) ne' (noTup ha')) fun out h1 h2 => ?_
  have h3 : ∀ u ∈ out, ∃ a, u = Value.ref a := fun u hu => e2 u (h2.perm.mem_iff.mp hu)
  obtain ⟨ep, he'⟩ := PyProof.Rows.sortedAll_at s.heap its out.toArray
  have pm : (out.map backV).Perm xs := by
    rw [e1]
    exact h2.perm.map backV
  refine ⟨.ref _, upd H (s.heap.objs.size + 1) (.lst (out.map backV)), I.laid (t' := s.toks) (fun _ _ => PyProof.Rows.sortedAll_old) (Nat.le_succ _) ⟨by rw [pm.length_eq]; exact hz, out, ep, vals_back h3, he'⟩, rfl, q _ _ pm (List.pairwise_map.mpr h1) (I.hok.fresh (Nat.le_succ _))⟩
/-- sorted(xs), xs a list of pairs of texts -/
def rSortB (K : PySem.W.Frag) : List V → Hp → VK → Prop := fun vs H Q => ∃ (a : Addr) (xs : List V) (k : V → Str × Str), vs = [V.ref a] ∧ SqL K H a xs ∧ (∀ x ∈ xs, ∃ t, x = V.ref t ∧ SqT K H t [.str (k x).1, .str (k x).2]) ∧
  ∀ ys p, ys.Perm xs → ys.Pairwise (fun x y => slt2 (k y) (k x) = false) → H p = none → Q (.ref p) (upd H p (.lst ys))
theorem cr_sortB : CallR X (.builtin "sorted") (rSortB X.K) := by
  intro pins s σ H vs us Q I r h
  obtain ⟨a, xs, k, rfl, hs, hx, q⟩ := h
  obtain ⟨its, rv, hl, hz⟩ := I.list hs
  rw [Vals.ref1 r]
  obtain ⟨e1, e2⟩ := refs_back rv fun x m => by
    obtain ⟨t, e, _⟩ := hx x m
    exact ⟨t, e⟩
  have hp : ∀ v ∈ its, ∃ t, IsTp s.heap v (k (backV v)).1 [.str (k (backV v)).2 t] := fun v hv => by
    obtain ⟨t, rfl⟩ := e2 v hv
    have hm : V.ref t ∈ xs := by rw [e1]; exact List.mem_map.mpr ⟨_, hv, rfl⟩
    obtain ⟨t', e, ht⟩ := hx _ hm
    cases e
    obtain ⟨its2, r2, ⟨o, ho, hc, n, hd⟩, _⟩ := I.tuple ht
    obtain ⟨u1, u2, rfl, ri, rj⟩ := vals2 r2
    obtain ⟨t1, rfl⟩ := ri
    obtain ⟨t2, rfl⟩ := rj
    exact ⟨t2, t, o, _, n, t1, rfl, ho, hc, hd, rfl⟩
  refine sorted_seq (swo_of swo_s2 fun u => k (backV u)) (.inl hl.isList) (by rw [← rv.length]; exact hz) (fun h2 h₁ a' ha' kk => pairs_sortable (by omega) (fun v hv => let ⟨r, z⟩ := hp v hv; ⟨r, z.keeps fun b o e _ => (kk b o e).2⟩) (noTup ha')) fun out h1 h2 => ?_
  have h3 : ∀ u ∈ out, ∃ a, u = Value.ref a := fun u hu => e2 u (h2.perm.mem_iff.mp hu)
  obtain ⟨ep, he'⟩ := PyProof.Rows.sortedAll_at s.heap its out.toArray
  have pm : (out.map backV).Perm xs := by
    rw [e1]
    exact h2.perm.map backV
  refine ⟨.ref _, upd H (s.heap.objs.size + 1) (.lst (out.map backV)), I.laid (t' := s.toks) (fun _ _ => PyProof.Rows.sortedAll_old) (Nat.le_succ _) ⟨by rw [pm.length_eq]; exact hz, out, ep, vals_back h3, he'⟩, rfl, q _ _ pm (List.pairwise_map.mpr h1) (I.hok.fresh (Nat.le_succ _))⟩
end
end MyS

set_option Elab.async false
set_option linter.all false
set_option maxRecDepth 100000
set_option maxHeartbeats 4000000
/-! {k: v for x in xs} with tuples as keys (the library's HandS.DictComp is for ints and texts; the steps are its steps, the store is another). -/
namespace MyS
open PySem PySem.Spec PyProof.Rows L2
section
variable {X : Cx}
theorem d_dictSetT {pins : List (Addr × Obj)} {σ : L2.St} {H : Hp} {s : Shared} {E : Value → Shared → Prop} {D b : Addr} {kvs : List (List Key × V)} {k : List Key} {v : V} {u r : Value} {Q : Unit → Shared → Prop} (hu : X.A.units + 1 < cLine) (I : Inv X pins σ H s) (hD : H D = some (.dT kvs)) (hz : kvs.length < sizeLine)
    (eb : H b = some (.tup (k.map kV))) (ry : RelV (.ref b) u) (rv : RelV v r) (h : ∀ s', Inv X pins σ (upd H D (.dT (putK kvs k v))) s' → Q () s') : wpAny (model X.prog X.w) X.A (dictSet D u r) Q E s := by
  cases (show u = Value.ref b from ry)
  obtain ⟨z, hd, xs, rel, dd⟩ := dt_of I.hok hD
  have hxs : xs.length ≤ sizeLine := by rw [← Paired.length rel]; exact z
  have hl : (putK kvs k v).length ≤ sizeLine := by have := length_putK kvs k v; omega
  refine wpAny_dictSet_heap (hsz := hxs) (show X.A.units < cLine from Nat.lt_of_succ_lt hu) (key_of I.hok eb) dd fun h' dd' hs => h _ ?_
  obtain ⟨q, es, ep, hq, h2, h3, h4, _, h5⟩ := dd'
  refine d_write I (by rw [hD]; exact True.intro) hs ⟨q, hq⟩ ⟨hl, hd, _, (rel.put k eb rv).keeps fun c ys ec => ?_, q, es, ep, hq, h2, h3, h4, h5⟩
  rw [upd_ne (ne_of ec hD (fun z => nomatch z))]
  exact ec
/-- {k: v for x in xs}: the tuple keys' own dict D; the loop by W as in a list comprehension -/
def tDcT (wi : TI) (g : TG) (tt : TT) (tk tv : TE) (vs : List Nat) : TE := fun σ H Q => wi σ H fun J H1 => ∀ D, H1 D = none → ∃ W : Nat → Nat → Hp → Prop, (∃ m, W 0 m (upd H1 D (.dT []))) ∧ ∀ i m H, W i m H →
  (J.stop i H ∧ Q (.ref D) H) ∨ (J.go i H ∧ ∃ Nx : Hp → Prop, (∀ H', Nx H' → ∃ m', m' < m ∧ W (i + 1) m' H') ∧ ∀ x H', J.yld i H x H' → g x (wipe σ vs) H' fun σ2 H2 => wipe σ2 vs = wipe σ vs ∧ tt σ2 H2 fun b H3 =>
    if b = true then tk σ2 H3 fun y H4 => tv σ2 H4 fun z H5 => ∃ kvs k c, y = .ref c ∧ H5 c = some (.tup (k.map kV)) ∧ H5 D = some (.dT kvs) ∧ kvs.length < sizeLine ∧ Nx (upd H5 D (.dT (putK kvs k z))) else Nx H3)
theorem pe_dcT {kx vx tg iter : Expr} {ifs : List Expr} {scope : Scope} {own : List (PySem.Str × Nat)} {pos : Pos} {wi : TI} {g : TG} {tt : TT} {tk tv : TE} (hu : X.A.units + 1 < cLine) (hc : X.calm = true) (hN : X.N.Nodup) (hi : PI X tg iter wi) (ok : BlkOk X.N X.env.scope scope own)
    (hg : ∀ (s : Shared) (H : Hp) (C : Addr) (cl : List (PySem.Str × Addr)) (fp : List Addr), PG (X.blk s H scope (compEnvC scope cl C X.env) fp) tg g) (ht : ∀ (s : Shared) (H : Hp) (C : Addr) (cl : List (PySem.Str × Addr)) (fp : List Addr), PTs (X.blk s H scope (compEnvC scope cl C X.env) fp) ifs tt)
    (hk : ∀ (s : Shared) (H : Hp) (C : Addr) (cl : List (PySem.Str × Addr)) (fp : List Addr), PE (X.blk s H scope (compEnvC scope cl C X.env) fp) kx tk)
    (he : ∀ (s : Shared) (H : Hp) (C : Addr) (cl : List (PySem.Str × Addr)) (fp : List Addr), PE (X.blk s H scope (compEnvC scope cl C X.env) fp) vx tv) (hs : ∀ x, foldedSetIterable iter X.env x = pure x := by intro _; rfl) :
    PE X (.DictComp kx vx [⟨tg, iter, ifs, 0⟩] scope pos) (tDcT wi g tt tk tv (own.map (·.2))) := by
  refine ⟨fun pins s σ H Q I h => ?_⟩
  rw [arm_eval_DictComp]
  have hfree : ∀ y ∈ scope.names, y.2 = .free → ∃ c, X.env.cells.lookup y.1 = some c := fun y hy e =>
    (ok.free y hy e).elim (fun k => I.ok.has _ (.inl k)) fun k => I.ok.has _ (.inr k)
  refine wpAny_comprehension_free (use := none) rfl hs (closure_ok hfree) ok.kind (fun y hy e => by rw [ok.uniq y hy, e]) (thn (hi.run pins s σ H _ I h) fun xv s1 hx => thn hx fun itv s2 h2 => ?_)
  obtain ⟨it, fp, tn, J, H2, rfl, I2, T, st2, f2, q⟩ := h2
  refine wpAny_newObj_type (newEnv_comp ?_)
  obtain ⟨W, ⟨m0, w0⟩, turn⟩ := q s2.heap.objs.size (I2.hok.fresh (Nat.le_refl _))
  -- the new dict
  have I3 : Inv X pins σ (upd H2 s2.heap.objs.size (.dT [])) { s2 with heap := s2.heap.push { cls := .type "dict", data := .dict #[] } } :=
    I2.laid (t' := s2.toks) (fun b o e => Heap.get?_push_of_some _ e) (Nat.le_refl _) (dt_empty s2.heap I2.big)
  have below : ∀ b ∈ fp, b < s2.heap.objs.size := fun b hb => let ⟨o, e, _⟩ := T.obj _ _ st2 b hb; Heap.lt_size e
  generalize hs3 : ({ s2 with heap := s2.heap.push { cls := .type "dict", data := .dict #[] } } : Shared) = s3 at I3
  have h3 : s3.heap = s2.heap.push { cls := .type "dict", data := .dict #[] } := by rw [← hs3]
  generalize hD : s2.heap.objs.size = D at I3 w0 turn below ⊢
  have f3 : ∀ b ∈ fp, FpOk X pins (upd H2 D (.dT [])) b ∧ b < s3.heap.objs.size := fun b hb =>
    ⟨⟨by rw [upd_ne (Nat.ne_of_lt (below b hb))]; exact (f2 b hb).1, (f2 b hb).2⟩, by rw [h3, Heap.size_push, hD]; exact Nat.lt_succ_of_lt (below b hb)⟩
  have st3 : tn 0 s3.heap := T.keep _ _ _ st2 fun b _ o e => by rw [h3]; exact Heap.get?_push_of_some _ e
  have I4 := block_start I3 ok hN f3
  generalize hC : cellsFrom (s3.heap.objs.size + 1) scope.names (cloFrom X.env.cells scope.names []) = cl at I4
  have pg := hg s3 (upd H2 D (.dT [])) s3.heap.objs.size cl fp
  have pt := ht s3 (upd H2 D (.dT [])) s3.heap.objs.size cl fp
  have pk := hk s3 (upd H2 D (.dT [])) s3.heap.objs.size cl fp
  have pe := he s3 (upd H2 D (.dT [])) s3.heap.objs.size cl fp
  have goal : codeAny (model X.prog X.w) X.A (.compStart (.DictComp kx vx [⟨tg, iter, ifs, 0⟩] scope pos) 0 (.ref it) (.ref D) (compEnvC scope cl s3.heap.objs.size X.env)) (compPost (model X.prog X.w) X.A X.xe none (EP X pins σ Q) (.ref D) s3.heap.objs.size) { s3 with heap := pushCells (s3.heap.push { cls := .type "dict", data := .dict #[] }) scope.names } := by
    have cL : (compEnvC scope cl s3.heap.objs.size X.env).locals = s3.heap.objs.size := rfl
    generalize compEnvC scope cl s3.heap.objs.size X.env = ce at I4 pg pt pk pe cL ⊢
    generalize hH3 : upd H2 D (.dT []) = H3 at I3 I4 pg pt pk pe w0 f3
    generalize hs4 : ({ s3 with heap := pushCells (s3.heap.push { cls := .type "dict", data := .dict #[] }) scope.names } : Shared) = s4 at I4 ⊢
    have st4 : tn 0 s4.heap := T.keep _ _ _ st3 fun b _ o e => by rw [← hs4]; exact pushCells_keeps _ _ _ _ (Heap.get?_push_of_some _ e)
    have stat : ∀ {σ' : L2.St} {H' : Hp} {s' : Shared}, Inv (X.blk s3 H3 scope ce fp) [] σ' H' s' → (∀ b ∈ fp, H' b = none) → ∀ b ∈ fp, FpOk (X.blk s3 H3 scope ce fp) [] H' b := fun {σ' H' s'} I' hn b hb =>
      ⟨hn b hb, (I'.ok.exf b hb).1, I'.ok.exfs b hb, .inl hb, fun x c e => (I'.ok.exf b hb).2 x c e, fun p hp => absurd (show p ∈ ([] : List (Addr × Obj)) ++ [] from hp) (by simp)⟩
    refine codeAny_compStart_dict ?lp (T.self X.A 0 _ _ _ st4 ?lp)
    refine compLoop_anyD (fun n s' => ∃ i H', Inv (X.blk s3 H3 scope ce fp) [] (wipe σ (own.map (·.2))) H' s' ∧ tn i s'.heap ∧ (∀ b ∈ fp, H' b = none) ∧ W i n H') ?_ m0 ⟨0, H3, I4, st4, fun b hb => (f3 b hb).1.1, w0⟩
    rintro n s5 ⟨i, H5, I5, st5, n5, w5⟩
    rcases turn i n H5 w5 with ⟨stop, qq⟩ | ⟨go, Nx, hNx, step⟩
    · refine thnF (T.done (X.blk s3 H3 scope ce fp) rfl rfl rfl hc i [] s5 _ H5 (fun _ _ => False) I5 (stat I5 n5) st5 stop) fun r s6 ⟨hr, I6⟩ => ?_
      subst hr
      have I7 : Inv X pins σ H5 s6 := I3.call' (ch := fp) I6.os I6.base I6.hok I6.bare fun b hb => ⟨(f3 b hb).1.2.2.2.1, (f3 b hb).1.2.1, (f3 b hb).1.2.2.2.2.1, (f3 b hb).1.2.2.2.2.2⟩
      have nC : H5 s3.heap.objs.size = none := by
        have z : H5 ce.locals = none := I6.free
        rw [cL] at z
        exact z
      obtain ⟨m, hn, _⟩ := I6.loc
      have hn : s6.heap.Ns ce.locals m := hn
      rw [cL] at hn
      obtain ⟨f0, f1, f2, f3, f4, f5⟩ := I3.fpOk (Nat.le_refl _) nC
      exact ⟨m, hn, fun h'' sb => ⟨.ref D, H5, I7.turned (t' := s6.toks) (fun b o hb e => (sb.2 b hb).trans e) f0 f1 f3 f4 f5, rfl, qq⟩⟩
    · refine thnF (T.item (X.blk s3 H3 scope ce fp) rfl rfl rfl hc i [] s5 _ H5 (fun _ _ => False) I5 (stat I5 n5) st5 go) fun r s6 ⟨u, hr, h6⟩ => ?_
      subst hr
      refine thnF h6 fun _ s7 ⟨x, H7, I7, r7, y7, st7, n7⟩ => ?_
      refine thnF (pg.run _ s7 _ H7 x u _ (I7.pinned (stat I7 n7) (T.obj _ _ st7)) r7 (step x H7 y7)) fun _ s8 ⟨σ8, H8, I8, hw8, q8⟩ => ?_
      refine thnF (pt.run _ s8 σ8 H8 _ I8 q8) fun b s9 ⟨H9, I9, q9⟩ => ?_
      have fin : ∀ {s' : Shared} {H' : Hp}, Inv (X.blk s3 H3 scope ce fp) ([] ++ pinsAt fp s7.heap) σ8 H' s' → Nx H' → ∃ m, m < n ∧ ∃ i H', Inv (X.blk s3 H3 scope ce fp) [] (wipe σ (own.map (·.2))) H' s' ∧ tn i s'.heap ∧ (∀ b ∈ fp, H' b = none) ∧ W i m H' := fun {s' H'} I' nx => by
        obtain ⟨m', hm, w'⟩ := hNx H' nx
        have pin' : ∀ b ∈ fp, ∀ o, s7.heap.get? b = some o → s'.heap.get? b = some o ∧ H' b = none := fun b hb o e =>
          have z := I'.pin (b, o) (List.mem_append_right _ (List.mem_append_right _ (mem_pinsAt hb e)))
          ⟨z.1, z.2.1⟩
        have hl : (wipe σ (own.map (·.2))).length = σ8.length := by rw [← hw8, wipe_length]
        refine ⟨m', hm, i + 1, H', (I'.unpinned (pins := [])).weak hl (fun j v e => ?_), T.keep _ _ _ st7 fun b hb o e => (pin' b hb o e).1, fun b hb => ?_, w'⟩
        · rw [← hw8] at e
          exact (wipe_some e).1
        · obtain ⟨o, e, _⟩ := T.obj _ _ st7 b hb
          exact (pin' b hb o e).2
      cases b with
      | false =>
        simp only [Bool.false_eq_true, if_false] at q9 ⊢
        exact fin I9 q9
      | true =>
        simp only [if_true] at q9 ⊢
        refine thnF (pk.run _ s9 σ8 H9 _ I9 q9) fun z s10 ⟨yk, H10, I10, r10, q10⟩ => ?_
        refine thnF (pe.run _ s10 σ8 H10 _ I10 q10) fun z2 s11 ⟨yv, H11, I11, r11, kvs, k, c, ek, ec, hD11, hz11, nx⟩ => ?_
        subst ek
        exact d_dictSetT (X := X.blk s3 H3 scope ce fp) hu I11 hD11 hz11 ec r10 r11 fun s12 I12 => fin I12 nx
  subst hD
  exact goal
/-- over a tuple that stays -/
theorem dcT_tup {K : PySem.W.Frag} {a : Addr} {xs : List V} {g : TG} {tt : TT} {tk tv : TE} {vs : List Nat} {σ : L2.St} {H1 : Hp} {D : Addr} {Qd : Hp → Prop} (Pv : Nat → Hp → Prop) (h0 : Pv 0 (upd H1 D (.dT []))) (hl : ∀ i H, i ≤ xs.length → Pv i H → SqT K H a xs)
    (hs : ∀ i x H, xs[i]? = some x → Pv i H → g x (wipe σ vs) H fun σ2 H2 => wipe σ2 vs = wipe σ vs ∧ tt σ2 H2 fun b H3 =>
      if b = true then tk σ2 H3 fun y H4 => tv σ2 H4 fun z H5 => ∃ kvs k c, y = .ref c ∧ H5 c = some (.tup (k.map kV)) ∧ H5 D = some (.dT kvs) ∧ kvs.length < sizeLine ∧ Pv (i + 1) (upd H5 D (.dT (putK kvs k z))) else Pv (i + 1) H3) (hd : ∀ H, Pv xs.length H → Qd H) :
    ∃ W : Nat → Nat → Hp → Prop, (∃ m, W 0 m (upd H1 D (.dT []))) ∧ ∀ i m H, W i m H →
      ((Itt K a).stop i H ∧ Qd H) ∨ ((Itt K a).go i H ∧ ∃ Nx : Hp → Prop, (∀ H', Nx H' → ∃ m', m' < m ∧ W (i + 1) m' H') ∧ ∀ x H', (Itt K a).yld i H x H' → g x (wipe σ vs) H' fun σ2 H2 => wipe σ2 vs = wipe σ vs ∧ tt σ2 H2 fun b H3 =>
        if b = true then tk σ2 H3 fun y H4 => tv σ2 H4 fun z H5 => ∃ kvs k c, y = .ref c ∧ H5 c = some (.tup (k.map kV)) ∧ H5 D = some (.dT kvs) ∧ kvs.length < sizeLine ∧ Nx (upd H5 D (.dT (putK kvs k z))) else Nx H3) := by
  refine ⟨fun i m H => m = xs.length - i ∧ i ≤ xs.length ∧ Pv i H, ⟨xs.length, by simp, Nat.zero_le _, h0⟩, ?_⟩
  rintro i m H ⟨rfl, hi, p⟩
  have q := hl i H hi p
  rcases Nat.lt_or_ge i xs.length with lt | ge
  · refine .inr ⟨⟨xs, xs[i], q, by simp [lt]⟩, Pv (i + 1), fun H' p' => ⟨xs.length - (i + 1), by omega, rfl, lt, p'⟩, fun x H' y => ?_⟩
    obtain ⟨rfl, y⟩ := y
    exact hs i x _ (y xs q) p
  · obtain rfl : i = xs.length := by omega
    exact .inl ⟨⟨xs, q, Nat.le_refl _⟩, hd H p⟩
end
end MyS

set_option Elab.async false
set_option linter.all false
set_option maxRecDepth 100000
set_option maxHeartbeats 4000000
namespace W
open PySem PySem.Spec PyProof.Rows L2 GxR MyG
/-! ### the text by places -/
def top (i : Nat) : Stmt := PySem.Challenge.pw_waypapers_k68_texts_that_are_no_papers.main.body.getD i (.Pass ⟨0, 0, 0, 0⟩)
abbrev sIsName : Stmt := top 26
abbrev sNames : Stmt := top 28
abbrev sDiff : Stmt := top 29
abbrev sRoads : Stmt := top 30
abbrev sRoad : Stmt := top 31
abbrev sHours : Stmt := top 32
abbrev sBars : Stmt := top 33
abbrev sInit : Stmt := inClass (top 34) 0

/-! ### names -/
def zLet : Str := "abcdefghijklmnopqrstuvwxyz"
def zDig : Str := "0123456789"
def goodC (c : Nat) : Bool := decide (c ∈ zLet.cps.toList) || decide (c ∈ zDig.cps.toList)
def isNm (z : Str) : Bool := decide (1 ≤ z.length) && decide (z.length ≤ 12) && (match z.cps.toList with | [] => false | c :: _ => decide (c ∈ zLet.cps.toList)) && z.cps.toList.all goodC
/-- the element of the generator: x in A or x in B -/
theorem elt_two {prog : Program} {w : World} {base : Heap} {mg : Str → Option Value} {scope : Scope} {x A B : Str} {a b : Str} {ta tb : Tok} {p1 p2 p3 p4 p5 p6 p7 : Pos} (hk : scope.kind = .function) (hl : scope.names.lookup x = some .local)
    (hA : scope.names.lookup A = some .globalImplicit) (hB : scope.names.lookup B = some .globalImplicit) (hns : base.Ns mainGlobals mg) (eA : mg A = some (.str a ta)) (eB : mg B = some (.str b tb))
    (hd : (x == ("__debug__" : Str)) = false := by decide) (hdA : (A == ("__debug__" : Str)) = false := by decide) (hdB : (B == ("__debug__" : Str)) = false := by decide) :
    EltB prog w base scope x (.BoolOp .Or [.Compare (.Name x p1) [.In] [.Name A p2] p3, .Compare (.Name x p4) [.In] [.Name B p5] p6] p7) (fun c => decide (c ∈ a.cps.toList) || decide (c ∈ b.cps.toList)) := by
  intro ce B' F c t z m hs hg hh hb hn hm
  have kf : ce.scope.kind = .function := by rw [hs]; exact hk
  have kx : ce.kindOf x = some .local := by show ce.scope.names.lookup x = _; rw [hs]; exact hl
  have nsz : ∀ (z' : Shared), Keeps z z' → z'.heap.Ns ce.globals mg := fun z' k => by
    rw [hg]
    obtain ⟨h', tk, rfl, kk⟩ := k
    exact (hns.keeps hb).keeps kk
  have one : ∀ (G : Str) (g : Str) (tg : Tok) (q1 q2 q3 : Pos) (Q : Value → Shared → Prop), (G == ("__debug__" : Str)) = false → scope.names.lookup G = some .globalImplicit → mg G = some (.str g tg) → Q (.bool (decide (c ∈ g.cps.toList))) z →
      wpAny (model prog w) B' (eval (.Compare (.Name x q1) [.In] [.Name G q2] q3) ce) Q F z := by
    intro G g tg q1 q2 q3 Q hdG hG eG hQ
    refine wpAny_Compare1 ?_
    refine wpAny_Name (wpAny_loadName_local kf kx hn hm ?_) hd
    refine Calls.Name_function_global kf (by show ce.scope.names.lookup G = _; rw [hs]; exact hG) (Calls.loadGlobal_global (nsz z (keeps_refl z)) eG ?_) hdG
    refine PyProof.Rows.in_str ?_
    rw [PySem.StrLaws.found_one g c]
    exact hQ
  refine BoolOp_or (one A a ta _ _ _ _ hdA hA eA ?_)
  refine wpAny_truthy_bool ?_
  by_cases ca : c ∈ a.cps.toList
  · have ea : decide (c ∈ a.cps.toList) = true := decide_eq_true ca
    rw [if_pos ea]
    refine ⟨?_, keeps_refl z⟩
    show Value.bool (decide (c ∈ a.cps.toList)) = Value.bool (decide (c ∈ a.cps.toList) || decide (c ∈ b.cps.toList))
    rw [ea]; rfl
  · have ea : decide (c ∈ a.cps.toList) = false := decide_eq_false ca
    rw [if_neg (by rw [ea]; exact Bool.false_ne_true)]
    refine BoolOp_one (one B b tb _ _ _ _ hdB hB eB ?_)
    refine ⟨?_, keeps_refl z⟩
    show Value.bool (decide (c ∈ b.cps.toList)) = Value.bool (decide (c ∈ a.cps.toList) || decide (c ∈ b.cps.toList))
    rw [ea]; rfl

theorem pe_gI {X : Cx} {x : Str} {i : Int} {t : Tok} {pos : Pos} (hm : X.mg x = some (.int i t)) (hg : Gl X x := by rfl) (hd : (x == ("__debug__" : Str)) = false := by decide) : PE X (.Name x pos) (tC (.int i)) := pe_glob hg hm ⟨_, rfl⟩ hd
theorem pe_gS {X : Cx} {x z : Str} {t : Tok} {pos : Pos} (hm : X.mg x = some (.str z t)) (hg : Gl X x := by rfl) (hd : (x == ("__debug__" : Str)) = false := by decide) : PE X (.Name x pos) (tC (.str z)) := pe_glob hg hm ⟨_, rfl⟩ hd
theorem nofree {names : List (Str × NameKind)} {Q : Str × NameKind → Prop} (h : names.all (fun y => y.2 != .free) = true) : ∀ y ∈ names, y.2 = .free → Q y := fun y hy e => by
  have q := List.all_eq_true.mp h y hy
  rw [e] at q
  exact absurd q (by decide)
theorem if_t {c : Bool} {A B : Prop} (hc : c = true) (h : A) : if c = true then A else B := by
  rw [if_pos hc]
  exact h
theorem if_f {c : Bool} {A B : Prop} (hc : c = false) (h : B) : if c = true then A else B := by
  rw [hc, if_neg Bool.false_ne_true]
  exact h
/-! ### what the top has written -/
structure Txt (K : PySem.W.Frag) (mg : Str → Option Value) (C P : Addr) : Prop where
  let_ : ∃ t, mg "LETTERS" = some (.str zLet t)
  dig : ∃ t, mg "DIGITS" = some (.str zDig t)
  ln : ∃ t, mg "LONGEST_NAME" = some (.int 12 t)
  len : mg "len" = none
  all : mg "all" = none

def spIsName (P : Addr) : Sp := fun vs H Q _ => ∃ z : Str, vs = [.str z] ∧ z.length ≤ sizeLine ∧ TabG H P ∧ ∀ H', Tabbed P H H' → Q (.bl (isNm z)) H'
section
variable {Pg : Program} {w : World} {K : PySem.W.Frag} {mg : Str → Option Value} {base : Heap} {C P : Addr}
theorem scIsName : FnScope ["text"] ["text"] (defScope sIsName) := ⟨rfl, rfl, rfl, by decide +kernel, rfl, by decide +kernel, by decide +kernel⟩
theorem str_len0 {z : Str} (h : ¬ 1 ≤ z.length) : isNm z = false := by
  unfold isNm
  simp [h]
theorem ok_isName {f c : Addr} {fd : FuncData} (F : Fun K "is_name" "is_name" sIsName f fd) (T : Txt K mg C P) (TB : TabB base mg c P) (hfc : fd.code = .ref c) (hns : base.Ns mainGlobals mg) : FnOk Pg w K mg base CX0 2 f fd ["text"] (spIsName P) := by
  obtain ⟨oc, od, kV, doc, pm, an, cdv, ct, osl, efd, lk, hcd⟩ := F.ex
  subst efd
  have ecd : cdv = .ref c := hfc
  subst ecd
  refine fn_of lk hcd scIsName (fun vs H Q E h => ?_) (fun A outer s H vs Q E hr h => ?_)
  · obtain ⟨z, rfl, _⟩ := h
    rfl
  · obtain ⟨z, rfl, hz, hP, k⟩ := h
    obtain ⟨tl, el⟩ := T.let_
    obtain ⟨td, ed⟩ := T.dig
    obtain ⟨tn, en⟩ := T.ln
    refine ⟨_, PSs.nox (pss_cons (ps_if (PW.pt (pw_or (pt_not (pt_chain op_le op_le pe_int (pe_callB call_len_str (by rfl) T.len PySem.boot_len (pa_cons (pv 0) pa_nil)) (pe_gI en)))
        (pw_or1 (pt_cmpR op_notIn_sign (pe_ix ix_str (pv 0) pe_int (fun _ _ => rfl)) (pe_gS el) (by rfl)))))
        (pss_one (ps_ret pe_bl)) pss_nil)
      (pss_one (ps_ret (pe_allB (scope := _) (P := P) hr rfl T.all TB rfl ⟨rfl, rfl, by decide +kernel, by decide +kernel, by decide +kernel, nofree (by decide +kernel)⟩ (pv 0) (elt_two rfl (by decide +kernel) (by decide +kernel) (by decide +kernel) hns el ed) (fun _ => rfl))))), ?_⟩
    have zl : z.length = z.cps.toList.length := by simp [Str.length]
    refine ⟨_, rfl, z, rfl, hz, 1, _, rfl, rfl, _, rfl, ?_⟩
    by_cases h1 : (1 : Int) ≤ (z.length : Int)
    · refine if_t (decide_eq_true h1) ⟨_, _, rfl, rfl, _, rfl, ?_⟩
      by_cases h2 : (z.length : Int) ≤ 12
      · rw [decide_eq_true h2]
        refine iteF ?_
        have hp : 0 < z.cps.toList.length := by omega
        have e0 : atI z.cps.toList 0 = some (z.cps.toList[0]'hp) := atI_nat (j := 0) (List.getElem?_eq_getElem hp)
        refine ⟨_, rfl, z, 0, _, rfl, rfl, hz, e0, _, _, rfl, rfl, _, rfl, ?_⟩
        by_cases h3 : z.cps.toList[0]'hp ∈ zLet.cps.toList
        · rw [decide_eq_true h3]
          refine iteF ⟨_, rfl, z, rfl, hP, fun H2 hH => ?_⟩
          have e := k H2 hH
          have en : isNm z = z.cps.toList.all goodC := by
            unfold isNm
            cases q : z.cps.toList with
            | nil => rw [q] at hp; exact absurd hp (by decide)
            | cons c r =>
              have h3' : c ∈ zLet.cps.toList := by
                have : z.cps.toList[0]'hp = c := by simp [q]
                rw [← this]; exact h3
              have a1 : 1 ≤ z.length := by omega
              have a2 : z.length ≤ 12 := by omega
              simp [a1, a2, h3']
          rw [en] at e
          exact e
        · rw [decide_eq_false h3]
          refine iteT ?_
          have en : isNm z = false := by
            unfold isNm
            cases q : z.cps.toList with
            | nil => simp
            | cons c r =>
              have h3' : c ∉ zLet.cps.toList := by
                have : z.cps.toList[0]'hp = c := by simp [q]
                rw [← this]; exact h3
              simp [h3']
          have e := k H ⟨hP, fun _ _ => rfl⟩
          rw [en] at e
          exact e
      · rw [decide_eq_false h2]
        refine iteT ?_
        have en : isNm z = false := by
          unfold isNm
          have a2 : ¬ z.length ≤ 12 := by omega
          simp [a2]
        have e := k H ⟨hP, fun _ _ => rfl⟩
        rw [en] at e
        exact e
    · refine if_f (decide_eq_false h1) ⟨_, rfl, ?_⟩
      refine iteT ?_
      have en : isNm z = false := by
        unfold isNm
        have a2 : ¬ 1 ≤ z.length := by omega
        simp [a2]
      have e := k H ⟨hP, fun _ _ => rfl⟩
      rw [en] at e
      exact e
end
end W

set_option Elab.async false
set_option linter.all false
set_option maxRecDepth 100000
set_option maxHeartbeats 400000
namespace W
open PySem PySem.Spec PyProof.Rows L2 GxR MyG MyS
/-! ### heaps that have grown: what stood (but the table at P) stands -/
structure Grew (P : Addr) (H H' : Hp) : Prop where
  tab : TabG H' P
  old : ∀ b o, b ≠ P → (∀ ps, o ≠ .tbl ps) → H b = some o → H' b = some o
  tabs : ∀ b, TabG H b → TabG H' b
  there : ∀ b, H b ≠ none → H' b ≠ none
section
variable {P : Addr} {H H1 H2 H' : Hp} {K : PySem.W.Frag}
theorem Grew.refl (h : TabG H P) : Grew P H H := ⟨h, fun _ _ _ _ e => e, fun _ q => q, fun _ q => q⟩
theorem Grew.trans (a : Grew P H H1) (b : Grew P H1 H2) : Grew P H H2 := ⟨b.tab, fun c o n d e => b.old c o n d (a.old c o n d e), fun c q => b.tabs c (a.tabs c q), fun c q => b.there c (a.there c q)⟩
theorem Grew.of (t : Tabbed P H H') : Grew P H H' := ⟨t.1, fun b o n _ e => by rw [t.2 b n]; exact e, fun b q => by
  by_cases n : b = P
  · rw [n]; exact t.1
  · obtain ⟨ps, e, r⟩ := q
    exact ⟨ps, by rw [t.2 b n]; exact e, r⟩, fun b q => by
  by_cases n : b = P
  · rw [n]
    obtain ⟨ps, e, r⟩ := t.1
    rw [e]
    exact fun z => by cases z
  · rw [t.2 b n]; exact q⟩
/-- another def's table has grown -/
theorem Grew.of2 {P2 : Addr} (h1 : TabG H P) (h2 : TabG H P2) (t : Tabbed P2 H H') : Grew P H H' := by
  have g := Grew.of t
  refine ⟨g.tabs P h1, fun b o n d e => g.old b o (fun z => ?_) d e, g.tabs, g.there⟩
  obtain ⟨ps, q, _⟩ := h2
  rw [z, q] at e
  exact d ps (Option.some.inj e).symm
theorem tabNe (h : TabG H P) {a : Addr} (n : H a = none) : a ≠ P := fun e => by
  obtain ⟨ps, q, _⟩ := h
  rw [e, q] at n
  cases n
theorem tabNe' (h : TabG H P) {a : Addr} {o : HO} (e : H a = some o) (d : ∀ ps, o ≠ .tbl ps) : a ≠ P := fun z => by
  obtain ⟨ps, q, _⟩ := h
  rw [z, q] at e
  exact d ps (Option.some.inj e).symm
theorem tabUpd (h : TabG H P) {a : Addr} {o : HO} (n : a ≠ P) : TabG (upd H a o) P := by
  obtain ⟨ps, q, t⟩ := h
  exact ⟨ps, by rw [upd_ne (Ne.symm n)]; exact q, t⟩
/-- a new object -/
theorem Grew.new (h : TabG H P) {a : Addr} {o : HO} (n : H a = none) : Grew P H (upd H a o) := ⟨tabUpd h (tabNe h n), fun b u _ _ e => by rw [upd_ne (ne_of_none e n)]; exact e, fun b q => by
  obtain ⟨ps, e, r⟩ := q
  exact ⟨ps, by rw [upd_ne (ne_of_none e n)]; exact e, r⟩, fun b q => by
  by_cases z : b = a
  · rw [z, upd_same]; exact fun z => by cases z
  · rw [upd_ne z]; exact q⟩
theorem Grew.put (g : Grew P H H1) {a : Addr} {o : HO} (n : H1 a = none) : Grew P H (L2.upd H1 a o) := g.trans (Grew.new g.tab n)
theorem Grew.get (g : Grew P H H') (h : TabG H P) {b : Addr} {o : HO} (e : H b = some o) (d : ∀ ps, o ≠ .tbl ps) : H' b = some o := g.old b o (tabNe' h e d) d e
theorem Grew.lst (g : Grew P H H') (h : TabG H P) {b : Addr} {xs : List V} (e : H b = some (.lst xs)) : H' b = some (.lst xs) := g.get h e (fun _ z => by cases z)
theorem Grew.tup (g : Grew P H H') (h : TabG H P) {b : Addr} {xs : List V} (e : H b = some (.tup xs)) : H' b = some (.tup xs) := g.get h e (fun _ z => by cases z)
theorem Grew.free (g : Grew P H H') {b : Addr} (n : H' b = none) : H b = none := by
  cases q : H b with
  | none => rfl
  | some o => exact absurd n (g.there b (by rw [q]; exact fun z => by cases z))
theorem Grew.sqL (g : Grew P H H') (h : TabG H P) {a : Addr} {xs : List V} (q : SqL K H a xs) : SqL K H' a xs := by
  rcases q with (q | ⟨o, q⟩) | q
  · exact .inl (.inl (g.lst h q))
  · exact .inl (.inr ⟨o, g.get h q (fun _ z => by cases z)⟩)
  · exact .inr q
theorem Grew.sqT (g : Grew P H H') (h : TabG H P) {a : Addr} {xs : List V} (q : SqT K H a xs) : SqT K H' a xs := by
  rcases q with (q | ⟨o, q⟩) | q
  · exact .inl (.inl (g.tup h q))
  · exact .inl (.inr ⟨o, g.get h q (fun _ z => by cases z)⟩)
  · exact .inr q
/-- an own object that was not there at H may be written -/
theorem Grew.write (g : Grew P H H1) {a : Addr} {o u : HO} (e : H1 a = some u) (d : ∀ ps, u ≠ .tbl ps) (n : H a = none) : Grew P H (L2.upd H1 a o) :=
  ⟨tabUpd g.tab (tabNe' g.tab e d), fun b v hb dv q => by rw [upd_ne (ne_of_none q n)]; exact g.old b v hb dv q, fun b q => by
    have q2 := g.tabs b q
    obtain ⟨ps, eb, _⟩ := q
    exact tabUpd q2 (ne_of_none eb n).symm, fun b q => by
    by_cases z : b = a
    · rw [z, upd_same]; exact fun z => by cases z
    · rw [upd_ne z]; exact g.there b q⟩
end

/-! ### what stands in tuples goes on standing -/
def KeepT (K : PySem.W.Frag) (H H' : Hp) : Prop := ∀ a xs, SqT K H a xs → SqT K H' a xs
theorem KeepT.refl {K : PySem.W.Frag} {H : Hp} : KeepT K H H := fun _ _ h => h
theorem KeepT.trans {K : PySem.W.Frag} {H H1 H2 : Hp} (x : KeepT K H H1) (y : KeepT K H1 H2) : KeepT K H H2 := fun a xs h => y a xs (x a xs h)
theorem KeepT.grew {K : PySem.W.Frag} {P : Addr} {H H' : Hp} (g : Grew P H H') (h : TabG H P) : KeepT K H H' := fun _ _ q => g.sqT h q
theorem KeepT.upd {K : PySem.W.Frag} {H : Hp} {D : Addr} {o : HO} (h1 : ∀ xs, H D ≠ some (.tup xs)) (h2 : ∀ xs u, H D ≠ some (.frz u (.tup xs))) : KeepT K H (L2.upd H D o) := fun a xs q => by
  rcases q with (q | ⟨u, q⟩) | q
  · have ne : a ≠ D := fun e => by subst e; exact h1 xs q
    exact .inl (.inl (by rw [upd_ne ne]; exact q))
  · have ne : a ≠ D := fun e => by subst e; exact h2 xs u q
    exact .inl (.inr ⟨u, by rw [upd_ne ne]; exact q⟩)
  · exact .inr q
theorem KeepT.lst {K : PySem.W.Frag} {H : Hp} {D : Addr} {o : HO} {l : List V} (e : H D = some (.lst l)) : KeepT K H (L2.upd H D o) := .upd (fun xs q => by rw [e] at q; cases q) (fun xs u q => by rw [e] at q; cases q)
theorem KeepT.ins {K : PySem.W.Frag} {H : Hp} {D C dx : Addr} {o : HO} {fs : List (Str × V)} (e : H D = some (.ins C dx fs)) : KeepT K H (L2.upd H D o) := .upd (fun xs q => by rw [e] at q; cases q) (fun xs u q => by rw [e] at q; cases q)
theorem KeepT.dK {K : PySem.W.Frag} {H : Hp} {D : Addr} {o : HO} {l : List (Key × V)} (e : H D = some (.dK l)) : KeepT K H (L2.upd H D o) := .upd (fun xs q => by rw [e] at q; cases q) (fun xs u q => by rw [e] at q; cases q)
theorem KeepT.dT {K : PySem.W.Frag} {H : Hp} {D : Addr} {o : HO} {l : List (List Key × V)} (e : H D = some (.dT l)) : KeepT K H (L2.upd H D o) := .upd (fun xs q => by rw [e] at q; cases q) (fun xs u q => by rw [e] at q; cases q)
theorem KeepT.new {K : PySem.W.Frag} {H : Hp} {D : Addr} {o : HO} (e : H D = none) : KeepT K H (L2.upd H D o) := .upd (fun xs q => by rw [e] at q; cases q) (fun xs u q => by rw [e] at q; cases q)
/-! ### a < b < c <= d -/
section
variable {X : Cx} {a b c e : Expr} {ta tb tc te : TE} {pos : Pos}
def tChain3 (r r' r'' : R2) (ta tb tc te : TE) : TE := fun σ H Q => ta σ H fun x H1 => tb σ H1 fun y H2 => r x y H2 fun k H3 => ∃ i, k = .bl i ∧
  (if i = true then tc σ H3 fun z H4 => r' y z H4 fun k H5 => ∃ i, k = .bl i ∧ (if i = true then te σ H5 fun u H6 => r'' z u H6 Q else Q (.bl false) H5) else Q (.bl false) H3)
theorem pt_chain3 {op op' op'' : CmpOp} {r r' r'' : R2} (ho : OpR X (compareOp op) r) (ho' : OpR X (compareOp op') r') (ho'' : OpR X (compareOp op'') r'') (ha : PE X a ta) (hb : PE X b tb) (hc : PE X c tc) (he : PE X e te)
    (hm : lastMarks [op, op', op''] [b, c, e] = false := by with_unfolding_all rfl) : PT X (.Compare a [op, op', op''] [b, c, e] pos) (tTest (tChain3 r r' r'' ta tb tc te)) := by
  refine ⟨fun pins s σ H Q I h => ?_⟩
  refine isTrue_chain (thn (ha.run pins s σ H _ I h) fun v s1 ⟨x, H1, I1, r1, q1⟩ => test_link (thn (hb.run pins s1 σ H1 _ I1 q1) fun u s2 ⟨y, H2, I2, r2, q2⟩ =>
    thn (ho pins s2 σ H2 x y v u _ I2 r1 r2 q2) fun d s3 ⟨z, H3, I3, r3, k, ek, q3⟩ => ?_)) hm
  subst ek
  cases r3
  refine wpAny_truthy_bool ?_
  cases k with
  | false =>
    obtain ⟨k', e', q'⟩ := q3
    cases e'
    exact ite_ff ⟨H3, I3, q'⟩
  | true =>
    refine ite_tt (test_link (thn (hc.run pins s3 σ H3 _ I3 q3) fun w' s4 ⟨z', H4, I4, r4, q4⟩ => thn (ho' pins s4 σ H4 y z' u w' _ I4 r2 r4 q4) fun d s5 ⟨z5, H5, I5, r5, k5, e5, q5⟩ => ?_))
    subst e5
    cases r5
    refine wpAny_truthy_bool ?_
    cases k5 with
    | false =>
      obtain ⟨k', e', q'⟩ := q5
      cases e'
      exact ite_ff ⟨H5, I5, q'⟩
    | true =>
      refine ite_tt (test_last (thn (he.run pins s5 σ H5 _ I5 q5) fun w6 s6 ⟨z6, H6, I6, r6, q6⟩ => thn (ho'' pins s6 σ H6 z' z6 w' w6 _ I6 r4 r6 q6) fun d s7 ⟨z7, H7, I7, r7, k7, e7, q7⟩ => ?_))
      subst e7
      cases r7
      exact wpAny_truthy_bool ⟨H7, I7, q7⟩
end
def rTupOf (K : PySem.W.Frag) : List V → Hp → VK → Prop := fun xs H Q => ∃ p ys, xs = [.ref p] ∧ ((SqL K H p ys ∧ ∀ l, H l = none → Q (.ref l) (upd H l (.tup ys))) ∨ (SqT K H p ys ∧ Q (.ref p) H))
/-! ### what a map's parts are -/
theorem Paired.snoc {α β : Type} {F : α → β → Prop} {a : α} {b : β} : ∀ {l : List α} {m : List β}, Paired F l m → F a b → Paired F (l ++ [a]) (m ++ [b])
  | _, _, .nil, h => .cons h .nil
  | _, _, .cons r t, h => .cons r (Paired.snoc t h)
theorem Paired.len {α β : Type} {F : α → β → Prop} : ∀ {l : List α} {m : List β}, Paired F l m → l.length = m.length
  | _, _, .nil => rfl
  | _, _, .cons _ t => congrArg Nat.succ (Paired.len t)
theorem Paired.at {α β : Type} {F : α → β → Prop} : ∀ {l : List α} {m : List β} {i : Nat} {b : β}, Paired F l m → m[i]? = some b → ∃ a, l[i]? = some a ∧ F a b
  | _, _, _, _, .nil, e => by simp at e
  | _, _, 0, _, .cons r _, e => ⟨_, rfl, by simp at e; subst e; exact r⟩
  | _, _, i + 1, _, .cons _ t, e => by
    obtain ⟨a, h1, h2⟩ := Paired.at (i := i) t (by simpa using e)
    exact ⟨a, by simpa using h1, h2⟩
theorem Paired.to {α β : Type} {F : α → β → Prop} : ∀ {l : List α} {m : List β} {i : Nat} {a : α}, Paired F l m → l[i]? = some a → ∃ b, m[i]? = some b ∧ F a b
  | _, _, _, _, .nil, e => by simp at e
  | _, _, 0, _, .cons r _, e => ⟨_, rfl, by simp at e; subst e; exact r⟩
  | _, _, i + 1, _, .cons _ t, e => by
    obtain ⟨a, h1, h2⟩ := Paired.to (i := i) t (by simpa using e)
    exact ⟨a, by simpa using h1, h2⟩
theorem Paired.map' {α β : Type} {F G : α → β → Prop} : ∀ {l : List α} {m : List β}, Paired F l m → (∀ a b, F a b → G a b) → Paired G l m
  | _, _, .nil, _ => .nil
  | _, _, .cons r t, f => .cons (f _ _ r) (Paired.map' t f)
structure RoadD where
  name : Str
  start : Str
  goal : Str
  minutes : Int
  users : List Str
  hours : Option (List (Int × Int))
/-- a pair of hours -/
def GPair (K : PySem.W.Frag) (H : Hp) (p : Int × Int) (x : V) : Prop := ∃ t, x = .ref t ∧ SqT K H t [.int p.1, .int p.2]
/-- the hours of a road -/
def GHours (K : PySem.W.Frag) (H : Hp) (hs : Option (List (Int × Int))) (v : V) : Prop := match hs with
  | none => v = .non
  | some ps => ∃ l xs, v = .ref l ∧ SqT K H l xs ∧ Paired (GPair K H) ps xs
def GRoad (K : PySem.W.Frag) (H : Hp) (r : RoadD) (v : V) : Prop := ∃ t u h, v = .ref t ∧ SqT K H t [.str r.name, .str r.start, .str r.goal, .int r.minutes, .ref u, h] ∧ SqT K H u (r.users.map V.str) ∧ GHours K H r.hours h
theorem GPair.keep {K : PySem.W.Frag} {H H' : Hp} {p : Int × Int} {x : V} (k : KeepT K H H') (g : GPair K H p x) : GPair K H' p x := let ⟨t, e, q⟩ := g; ⟨t, e, k _ _ q⟩
theorem GHours.keep {K : PySem.W.Frag} {H H' : Hp} {hs : Option (List (Int × Int))} {v : V} (k : KeepT K H H') (g : GHours K H hs v) : GHours K H' hs v := by
  cases hs with
  | none => exact g
  | some ps =>
    obtain ⟨l, xs, e, q, r⟩ := g
    exact ⟨l, xs, e, k _ _ q, Paired.map' r fun _ _ => GPair.keep k⟩
theorem GRoad.keep {K : PySem.W.Frag} {H H' : Hp} {r : RoadD} {v : V} (k : KeepT K H H') (g : GRoad K H r v) : GRoad K H' r v := by
  obtain ⟨t, u, h, e, q1, q2, q3⟩ := g
  exact ⟨t, u, h, e, k _ _ q1, k _ _ q2, q3.keep k⟩
/-- pairs in order, apart, within the day -/
def hoursOk (d : Int) : Int → List (Int × Int) → Prop
  | _, [] => True
  | c, p :: r => c < p.1 ∧ p.1 < p.2 ∧ p.2 ≤ d ∧ hoursOk d p.2 r
def HoursOk (d : Int) : Option (List (Int × Int)) → Prop
  | none => True
  | some ps => ps.length ≤ 4 ∧ hoursOk d (-1) ps
/-- where the next pair begins behind the first i -/
def lastOf (c : Int) (ps : List (Int × Int)) (i : Nat) : Int := ((ps.take i).getLast?.map (·.2)).getD c
theorem hoursOk_at {d : Int} : ∀ {ps : List (Int × Int)} {c : Int} {i : Nat} {p : Int × Int}, hoursOk d c ps → ps[i]? = some p → lastOf c ps i < p.1 ∧ p.1 < p.2 ∧ p.2 ≤ d
  | [], _, _, _, _, e => by simp at e
  | q :: r, c, 0, p, h, e => by
    simp at e
    subst e
    exact ⟨h.1, h.2.1, h.2.2.1⟩
  | q :: r, c, i + 1, p, h, e => by
    have k := hoursOk_at (i := i) h.2.2.2 (by simpa using e)
    refine ⟨?_, k.2⟩
    have e2 : lastOf c (q :: r) (i + 1) = lastOf q.2 r i := by
      unfold lastOf
      rw [List.take_succ_cons]
      cases r.take i with
      | nil => rfl
      | cons a l => rw [List.getLast?_cons_cons]; cases h : (a :: l).getLast? with
        | none => simp at h
        | some z => rfl
    rw [e2]; exact k.1
theorem lastOf_succ {ps : List (Int × Int)} {c : Int} {i : Nat} {p : Int × Int} (e : ps[i]? = some p) : lastOf c ps (i + 1) = p.2 := by
  unfold lastOf
  rw [List.take_succ, e]
  simp
theorem isNm_len {z : Str} (h : isNm z = true) : z.length ≤ 12 := by
  unfold isNm at h
  simp only [Bool.and_eq_true, decide_eq_true_eq] at h
  exact h.1.1.2
/-! ### _checked_day, _check_different, _checked_hours, _checked_names -/
structure TxtE (X : Str → Option Value) (K : PySem.W.Frag) (C : Addr) : Prop where
  gC : X "InvalidMap" = some (.ref C)
  xC : PySem.W.excIn K C [.type "ValueError", .type "Exception", .type "BaseException", .type "object"] "ValueError.__new__" = true
  kC : PySem.W.keepIn K (.ref C) = true
  bC : PySem.W.subIn K (.ref C) (.type "BaseException") = some true
  tC : PySem.W.typeIn K (.ref C) = some (.type "type")
abbrev sDay : Stmt := top 27
def spDay : Sp := fun vs H Q _ => ∃ d : Int, vs = [.int d] ∧ 1 ≤ d ∧ d ≤ 1440 ∧ Q (.int d) H
def DiffS (K : PySem.W.Frag) (H : Hp) (a : Addr) : Prop := ∃ ns : List Str, (SqL K H a (ns.map V.str) ∨ SqT K H a (ns.map V.str)) ∧ ns.length ≤ 1000 ∧ ns.Nodup
def DiffP (K : PySem.W.Frag) (H : Hp) (a : Addr) : Prop := ∃ ks : List (Addr × List Str), SqL K H a (ks.map fun p => V.ref p.1) ∧ (∀ p ∈ ks, SqT K H p.1 (p.2.map V.str)) ∧ ks.length < 64 ∧ (ks.map (·.2)).Nodup
def spDiff (K : PySem.W.Frag) : Sp := fun vs H Q _ => ∃ a : Addr, vs = [.ref a] ∧ (DiffS K H a ∨ DiffP K H a) ∧ Q .non H
def spHours (K : PySem.W.Frag) (P : Addr) : Sp := fun vs H Q _ => ∃ (d : Int) (hs : Option (List (Int × Int))) (hv : V), vs = [hv, .int d] ∧ GHours K H hs hv ∧ HoursOk d hs ∧ TabG H P ∧ ∀ H' v', Grew P H H' → GHours K H' hs v' → Q v' H'
section
variable {Pg : Program} {w : World} {K : PySem.W.Frag} {mg : Str → Option Value} {base : Heap} {C P : Addr}
theorem scDay : FnScope ["day"] ["day"] (defScope sDay) := ⟨rfl, rfl, rfl, by decide +kernel, rfl, by decide +kernel, by decide +kernel⟩
theorem ok_day {f : Addr} {fd : FuncData} {t : Tok} (F : Fun K "_checked_day" "_checked_day" sDay f fd) (hd : mg "LONGEST_DAY" = some (.int 1440 t)) : FnOk Pg w K mg base CX0 1 f fd ["day"] spDay := by
  refine F.ok scDay (fun vs H Q E h => ?_) (fun cdv A outer s H vs Q E hr h => ?_)
  · obtain ⟨d, rfl, _⟩ := h
    rfl
  · obtain ⟨d, rfl, h1, h2, k⟩ := h
    refine ⟨_, pss_cons (ps_if (pt_not (pt_chain op_le op_le pe_int (pv 0) (pe_gI hd))) (pss_one ps_never) pss_nil) (pss_one (ps_ret (pv 0))), ?_⟩
    refine ⟨_, rfl, _, _, rfl, rfl, _, rfl, if_t (decide_eq_true h1) ⟨_, _, rfl, rfl, _, rfl, ?_⟩⟩
    rw [decide_eq_true h2]
    exact iteF ⟨_, rfl, k⟩
theorem scDiff : FnScope ["parts"] ["parts"] (defScope sDiff) := ⟨rfl, rfl, rfl, by decide +kernel, rfl, by decide +kernel, by decide +kernel⟩
theorem ok_diff {f : Addr} {fd : FuncData} (F : Fun K "_check_different" "_check_different" sDiff f fd) (hl : mg "len" = none) (hs : mg "set" = none) : FnOk Pg w K mg base CX0 1 f fd ["parts"] (spDiff K) := by
  refine F.ok scDiff (fun vs H Q E h => ?_) (fun cdv A outer s H vs Q E hr h => ?_)
  · obtain ⟨a, rfl, _⟩ := h
    rfl
  · obtain ⟨a, rfl, (⟨ns, hS, h1, nd⟩ | ⟨ks, hS, ht, h1, nd⟩), k⟩ := h
    · refine ⟨_, pss_one (ps_if (pt_cmpR op_lt (pe_lenSetS rfl hl hs (pv 0)) (pe_callB call_len_seq (by rfl) hl PySem.boot_len (pa_cons (pv 0) pa_nil)) (nomark _)) (pss_one ps_never) pss_nil), ?_⟩
      refine ⟨_, rfl, a, ns, rfl, hS, by omega, fun n hc => ?_⟩
      have e : n = ns.length := hc.eq.mpr nd
      subst e
      refine ⟨_, rfl, a, _, rfl, hS, _, _, rfl, rfl, _, rfl, ?_⟩
      rw [List.length_map]
      exact if_f (decide_eq_false (Int.lt_irrefl _)) k
    · refine ⟨_, pss_one (ps_if (pt_cmpR op_lt (pe_lenSetP rfl hr.units hl hs (pv 0)) (pe_callB call_len_seq (by rfl) hl PySem.boot_len (pa_cons (pv 0) pa_nil)) (nomark _)) (pss_one ps_never) pss_nil), ?_⟩
      refine ⟨_, rfl, a, ks, rfl, .inl hS, ht, h1, fun n hc => ?_⟩
      have e : n = (ks.map (·.2)).length := hc.eq.mpr nd
      subst e
      refine ⟨_, rfl, a, _, rfl, .inl hS, _, _, rfl, rfl, _, rfl, ?_⟩
      rw [List.length_map, List.length_map]
      exact if_f (decide_eq_false (Int.lt_irrefl _)) k
abbrev nHours : List Str := ["hours", "day", "closed", "pair"]
theorem scHours : FnScope nHours ["hours", "day"] (defScope sHours) := ⟨rfl, rfl, rfl, by decide +kernel, rfl, by decide +kernel, by decide +kernel⟩
theorem ok_hours {f : Addr} {fd : FuncData} {t1 : Tok} (F : Fun K "_checked_hours" "_checked_hours" sHours f fd) (hl : mg "len" = none) (ht : mg "tuple" = none) (hp : mg "MOST_PAIRS" = some (.int 4 t1)) : FnOk Pg w K mg base CX0 1 f fd ["hours", "day"] (spHours K P) := by
  refine F.ok scHours (fun vs H Q E h => ?_) (fun cdv A outer s H vs Q E hr h => ?_)
  · obtain ⟨d, hs, hv, rfl, _⟩ := h
    rfl
  · obtain ⟨d, hs, hv, rfl, g, ok, hP, k⟩ := h
    refine ⟨_, pss_cons (ps_if (pt_cmp (pc_isN (pv 0))) (pss_one (ps_ret pe_non)) pss_nil)
      (pss_cons (ps_if (pt_cmpR op_gt (pe_callB call_len_seq (by rfl) hl PySem.boot_len (pa_cons (pv 0) pa_nil)) (pe_gI hp) (nomark _)) (pss_one ps_never) pss_nil)
      (pss_cons (ps_set (i := 2) scHours.nd rfl (Or.inl rfl) (pe_un un_neg pe_int))
      (pss_cons (ps_for PassesOwn.never rfl (pi_tup (pv 0)) (pg_name (i := 3) scHours.nd rfl (Or.inl rfl))
        (pss_cons (ps_if (pt_cmpR op_ne (pe_callB call_len_seq (by rfl) hl PySem.boot_len (pa_cons (pv 3) pa_nil)) pe_int (nomark _)) (pss_one ps_never) pss_nil)
        (pss_cons (ps_if (pt_not (pt_chain3 op_lt op_lt op_le (pv 2) (pe_ix ix_tup (pv 3) pe_int (fun _ _ => rfl)) (pe_ix ix_tup (pv 3) pe_int (fun _ _ => rfl)) (pv 1))) (pss_one ps_never) pss_nil)
        (pss_one (ps_set (i := 2) scHours.nd rfl (Or.inl rfl) (pe_ix ix_tup (pv 3) pe_int (fun _ _ => rfl)))))))
      (pss_one (ps_ret (pe_callTy call_tuple_of (by rfl) ht (by decide +kernel) (pa_cons (pe_lc (own := [("pair", 3)]) (g := gName 3) (tt := tYes) rfl scHours.nd (pi_tup (pv 0)) (blkOk_by (N := nHours) (sc := defScope sHours) (by decide +kernel)) (fun _ _ _ _ _ => pg_name (i := 3) scHours.nd rfl (Or.inl rfl)) (fun _ _ _ _ _ => pts_nil)
          (fun _ _ _ _ _ => pe_callTy (r := rTupOf K) call_tuple_of (by rfl) ht (by decide +kernel) (pa_cons (pv 3) pa_nil))) pa_nil))))))), ?_⟩
    cases hs with
    | none =>
      obtain rfl : hv = .non := g
      refine ⟨_, rfl, _, rfl, ?_⟩
      exact iteT (k H .non (Grew.refl hP) rfl)
    | some ps =>
      obtain ⟨l, xs, rfl, hS, hG⟩ := g
      obtain ⟨ok4, okc⟩ := ok
      have hlen := Paired.len hG
      refine ⟨_, rfl, _, rfl, ?_⟩
      refine iteF ?_
      refine ⟨_, rfl, l, _, rfl, .inr hS, _, _, rfl, rfl, _, rfl, if_f (decide_eq_false (by omega)) ?_⟩
      refine ⟨1, rfl, ?_⟩
      refine ⟨_, rfl, l, rfl, ⟨_, hS⟩, for_tup (K := K) (a := l) (xs := xs) (fun i σ H' => H' = H ∧ ∃ v, σ = [some (.ref l), some (.int d), some (.int (lastOf (-1) ps i)), v])
        ⟨rfl, none, rfl⟩ (fun i σ H' _ ⟨e, _⟩ => by rw [e]; exact hS) ?_ ?_⟩
      · rintro i y σ H' hi ⟨rfl, v, rfl⟩
        obtain ⟨p, hp, t, rfl, hT⟩ := Paired.at hG hi
        obtain ⟨o1, o2, o3⟩ := hoursOk_at okc hp
        have e0 : atI [V.int p.1, V.int p.2] 0 = some (.int p.1) := rfl
        have e1 : atI [V.int p.1, V.int p.2] 1 = some (.int p.2) := rfl
        refine ⟨_, rfl, t, _, rfl, .inr hT, rfl, _, rfl, if_f (by rfl) ?_⟩
        refine ⟨_, rfl, _, rfl, t, _, 0, _, rfl, rfl, hT, e0, _, _, rfl, rfl, _, rfl, if_t (decide_eq_true o1) ⟨_, rfl, t, _, 1, _, rfl, rfl, hT, e1, _, _, rfl, rfl, _, rfl, if_t (decide_eq_true o2) ⟨_, rfl, _, _, rfl, rfl, _, rfl, ?_⟩⟩⟩
        rw [decide_eq_true o3]
        refine iteF ⟨_, rfl, t, _, 1, _, rfl, rfl, hT, e1, rfl, some (.ref t), ?_⟩
        rw [lastOf_succ hp]
        rfl
      · rintro σ H' ⟨rfl, v, rfl⟩
        refine ⟨_, rfl, l, rfl, ⟨_, hS⟩, fun D nD => lc_tup (K := K) (a := l) (xs := xs) (fun i H1 => Grew P H' H1 ∧ H1 D = some (.lst (xs.take i)))
          ⟨Grew.new hP nD, upd_same⟩ (fun i H1 _ p => p.1.sqT hP hS) (fun i x H1 hx p => ?_) (fun H1 p => ?_)⟩
        · obtain ⟨g, hD⟩ := p
          obtain ⟨p, hp, t, rfl, hT⟩ := Paired.at hG hx
          refine ⟨rfl, _, rfl, t, _, rfl, .inr ⟨g.sqT hP hT, _, hD, ?_, g.write hD (fun _ z => by cases z) nD, ?_⟩⟩
          · rw [List.length_take, sizeLine_eq]; omega
          · rw [upd_same, List.take_succ, hx]; rfl
        · obtain ⟨g, hD⟩ := p
          rw [List.take_length] at hD
          refine ⟨D, _, rfl, .inl ⟨SqL.of hD, fun q nq => ?_⟩⟩
          have gq := g.put (o := .tup xs) nq
          exact k _ _ gq ⟨q, xs, rfl, SqT.of upd_same, Paired.map' hG fun a b m => m.keep (KeepT.grew gq hP)⟩
end
end W

set_option Elab.async false
set_option linter.all false
set_option maxRecDepth 100000
set_option maxHeartbeats 400000
namespace W
open PySem PySem.Spec PyProof.Rows L2 GxR MyG MyS
/-! ### _checked_names, _checked_road -/
def spNames (K : PySem.W.Frag) (P : Addr) : Sp := fun vs H Q _ => ∃ (a : Addr) (ns : List Str) (lo hi : Int), vs = [.ref a, .int lo, .int hi] ∧ SqL K H a (ns.map V.str) ∧ lo ≤ ns.length ∧ (ns.length : Int) ≤ hi ∧ ns.length ≤ 1000 ∧ ns.all isNm = true ∧ ns.Nodup ∧ TabG H P ∧
  ∀ H' p ys, Grew P H H' → H p = none → H' p = some (.tup (ys.map V.str)) → ys.Perm ns → Asc ys → Q (.ref p) H'
section
variable {Pg : Program} {w : World} {K : PySem.W.Frag} {mg : Str → Option Value} {base : Heap} {C P : Addr}
theorem scNames : FnScope ["names", "least", "most", "name"] ["names", "least", "most"] (defScope sNames) := ⟨rfl, rfl, rfl, by decide +kernel, rfl, by decide +kernel, by decide +kernel⟩
theorem ok_names {f fN fD : Addr} {fd fdN fdD : FuncData} (F : Fun K "_checked_names" "_checked_names" sNames f fd) (hl : mg "len" = none) (ht : mg "tuple" = none) (hs : mg "sorted" = none)
    (GN : FnOk Pg w K mg base CX0 2 fN fdN ["text"] (spIsName P)) (gN : mg "is_name" = some (.ref fN)) (kN : PySem.W.keepIn K (.ref fN) = true) (bN : Binds K fdN ["text"] [])
    (GD : FnOk Pg w K mg base CX0 1 fD fdD ["parts"] (spDiff K)) (gD : mg "_check_different" = some (.ref fD)) (kD : PySem.W.keepIn K (.ref fD) = true) (bD : Binds K fdD ["parts"] []) :
    FnOk Pg w K mg base CX0 3 f fd ["names", "least", "most"] (spNames K P) := by
  refine F.ok scNames (fun vs H Q E h => ?_) (fun cdv A outer s H vs Q E hr h => ?_)
  · obtain ⟨a, ns, lo, hi, rfl, _⟩ := h
    rfl
  · obtain ⟨a, ns, lo, hi, rfl, hS, hlo, hhi, h1, hz, nd, hP, kQ⟩ := h
    have hr1 : Room 1 _ := hr.mono (by decide)
    refine ⟨_, pss_cons (ps_if (pt_not (pt_chain op_le op_le (pv 1) (pe_callB call_len_seq (by rfl) hl PySem.boot_len (pa_cons (pv 0) pa_nil)) (pv 2))) (pss_one ps_never) pss_nil)
      (pss_cons (ps_for PassesOwn.never rfl (pi_list (pv 0)) (pg_name (i := 3) scNames.nd rfl (Or.inl rfl))
        (pss_one (ps_if (pt_not (pt_val (pe_call GN hr (by rfl) gN kN bN .nil pass0 (pa_cons (pv 3) pa_nil)))) (pss_one ps_never) pss_nil)))
      (pss_cons (ps_expr (pe_call GD hr1 (by rfl) gD kD bD .nil pass0 (pa_cons (pv 0) pa_nil)))
      (pss_one (ps_ret (pe_callTy call_tuple_of (by rfl) ht (by decide +kernel) (pa_cons (pe_callB cr_sortSQ (by rfl) hs (by decide +kernel) (pa_cons (pv 0) pa_nil)) pa_nil)))))), ?_⟩
    refine ⟨_, rfl, _, rfl, a, _, rfl, .inl hS, _, _, rfl, rfl, _, rfl, ?_⟩
    rw [List.length_map]
    refine if_t (decide_eq_true hlo) ⟨_, rfl, _, _, rfl, rfl, _, rfl, ?_⟩
    rw [decide_eq_true hhi]
    refine iteF ⟨_, rfl, a, rfl, ⟨_, hS⟩, for_list (K := K) (a := a) (xs := ns.map V.str) (fun i σ H' => ∃ v, σ = [some (.ref a), some (.int lo), some (.int hi), v] ∧ Grew P H H')
      ⟨none, rfl, Grew.refl hP⟩ (fun i σ H' _ ⟨_, _, g⟩ => g.sqL hP hS) ?_ ?_⟩
    · rintro i y σ H' hi ⟨v, rfl, g⟩
      obtain ⟨z, hzi, rfl⟩ : ∃ z, ns[i]? = some z ∧ y = V.str z := by
        rw [List.getElem?_map] at hi
        obtain ⟨z, e1, e2⟩ := Option.map_eq_some_iff.mp hi
        exact ⟨z, e1, e2.symm⟩
      have hn : isNm z = true := List.all_eq_true.mp hz z (List.mem_of_getElem? hzi)
      have hzl := isNm_len hn
      refine ⟨_, rfl, z, rfl, by rw [sizeLine_eq]; omega, g.tab, fun H2 t2 => ⟨_, rfl, ?_⟩⟩
      have g2 := g.trans (Grew.of t2)
      rw [hn]
      exact iteF ⟨_, rfl, g2⟩
    · rintro σ H' ⟨v, rfl, g⟩
      refine ⟨_, rfl, a, rfl, .inl ⟨ns, .inl (g.sqL hP hS), h1, nd⟩, ?_⟩
      refine ⟨_, rfl, a, ns, rfl, .inl (g.sqL hP hS), fun ys l hp hso hl => ⟨l, _, rfl, .inl ⟨SqL.of upd_same, fun p hp2 => ?_⟩⟩⟩
      have gl := g.put (o := .lst (ys.map V.str)) hl
      exact kQ _ p ys (gl.put hp2) (gl.free hp2) upd_same hp hso
/-- the road leads from place to place, for kinds of the map -/
structure RoadOk (d : Int) (ps ks : List Str) (r : RoadD) : Prop where
  s : r.start ∈ ps
  g : r.goal ∈ ps
  m1 : 1 ≤ r.minutes
  m2 : r.minutes ≤ 1000
  u : ∀ k ∈ r.users, k ∈ ks
  un : r.users.length ≤ 4
  ud : r.users.Nodup
  h : HoursOk d r.hours
/-- the road as the map keeps it -/
def Kept (r r' : RoadD) : Prop := r'.name = r.name ∧ r'.start = r.start ∧ r'.goal = r.goal ∧ r'.minutes = r.minutes ∧ r'.hours = r.hours ∧ r'.users.Perm r.users ∧ Asc r'.users
def spRoad (K : PySem.W.Frag) (P : Addr) : Sp := fun vs H Q _ => ∃ (x : V) (pl ki : Addr) (d : Int) (ps ks : List Str) (r : RoadD), vs = [x, .int d, .ref pl, .ref ki] ∧ GRoad K H r x ∧ SqT K H pl (ps.map V.str) ∧ SqT K H ki (ks.map V.str) ∧ RoadOk d ps ks r ∧ TabG H P ∧
  ∀ H' p q h r', Grew P H H' → Kept r r' → H p = none → H' p = some (.tup [.str r'.name, .str r'.start, .str r'.goal, .int r'.minutes, .ref q, h]) → H' q = some (.tup (r'.users.map V.str)) → GHours K H' r'.hours h → Q (.ref p) H'
theorem scRoad : FnScope ["road", "day", "places", "kinds", "name", "start", "end", "minutes", "users", "hours", "kind"] ["road", "day", "places", "kinds"] (defScope sRoad) := ⟨rfl, rfl, rfl, by decide +kernel, rfl, by decide +kernel, by decide +kernel⟩
theorem inV_str {x : Str} {xs : List Str} (h : x ∈ xs) : inV (.str x) (xs.map V.str) = true := by
  unfold inV
  rw [List.any_map, List.any_eq_true]
  exact ⟨x, h, by simp [eqV]⟩
theorem flat_strs (xs : List Str) : (xs.map V.str).all flatV = true := by
  rw [List.all_map]
  exact List.all_eq_true.mpr fun _ _ => rfl
theorem ok_road {f fH fD : Addr} {fd fdH fdD : FuncData} {t1 : Tok} (F : Fun K "_checked_road" "_checked_road" sRoad f fd) (ht : mg "tuple" = none) (hs : mg "sorted" = none) (hm : mg "MOST_MINUTES" = some (.int 1000 t1))
    (GD : FnOk Pg w K mg base CX0 1 fD fdD ["parts"] (spDiff K)) (gD : mg "_check_different" = some (.ref fD)) (kD : PySem.W.keepIn K (.ref fD) = true) (bD : Binds K fdD ["parts"] [])
    (GH : FnOk Pg w K mg base CX0 1 fH fdH ["hours", "day"] (spHours K P)) (gH : mg "_checked_hours" = some (.ref fH)) (kH : PySem.W.keepIn K (.ref fH) = true) (bH : Binds K fdH ["hours", "day"] []) :
    FnOk Pg w K mg base CX0 2 f fd ["road", "day", "places", "kinds"] (spRoad K P) := by
  refine F.ok scRoad (fun vs H Q E h => ?_) (fun cdv A outer s H vs Q E hr h => ?_)
  · obtain ⟨x, pl, ki, d, ps, ks, r, rfl, _⟩ := h
    rfl
  · obtain ⟨x, pl, ki, d, ps, ks, r, rfl, ⟨t, u, h, rfl, hT, hU, hH⟩, hPl, hKi, ok, hP, k⟩ := h
    refine ⟨_, pss_cons (ps_asg (pv 0) (pg_tup (by rfl) (pgs_cons (pg_name (i := 4) scRoad.nd rfl (.inl rfl)) (pgs_cons (pg_name (i := 5) scRoad.nd rfl (.inl rfl)) (pgs_cons (pg_name (i := 6) scRoad.nd rfl (.inl rfl))
        (pgs_cons (pg_name (i := 7) scRoad.nd rfl (.inl rfl)) (pgs_cons (pg_name (i := 8) scRoad.nd rfl (.inl rfl)) (pgs_cons (pg_name (i := 9) scRoad.nd rfl (.inl rfl)) pgs_nil))))))))
      (pss_cons (ps_if (PW.pt (pw_or (pt_cmpR op_notIn_seq (pv 5) (pv 2) (by rfl)) (pw_or1 (pt_cmpR op_notIn_seq (pv 6) (pv 2) (by rfl))))) (pss_one ps_never) pss_nil)
      (pss_cons (ps_if (pt_not (pt_chain op_le op_le pe_int (pv 7) (pe_gI hm))) (pss_one ps_never) pss_nil)
      (pss_cons (ps_for PassesOwn.never rfl (pi_tup (pv 8)) (pg_name (i := 10) scRoad.nd rfl (Or.inl rfl)) (pss_one (ps_if (pt_cmpR op_notIn_seq (pv 10) (pv 3) (by rfl)) (pss_one ps_never) pss_nil)))
      (pss_cons (ps_expr (pe_call GD hr (by rfl) gD kD bD .nil pass0 (pa_cons (pv 8) pa_nil)))
      (pss_one (ps_ret (pe_tup (pa_cons (pv 4) (pa_cons (pv 5) (pa_cons (pv 6) (pa_cons (pv 7) (pa_cons (pe_callTy call_tuple_of (by rfl) ht (by decide +kernel) (pa_cons (pe_callB cr_sortSQ (by rfl) hs (by decide +kernel) (pa_cons (pv 8) pa_nil)) pa_nil))
        (pa_cons (pe_call GH hr (by rfl) gH kH bH .nil pass0 (pa_cons (pv 9) (pa_cons (pv 1) pa_nil))) pa_nil))))))))))))), ?_⟩
    refine ⟨_, rfl, t, _, rfl, hT, rfl, _, _, rfl, _, _, rfl, _, _, rfl, _, _, rfl, _, _, rfl, _, _, rfl, rfl, ?_⟩
    have i1 := inV_str ok.s
    have i2 := inV_str ok.g
    refine ⟨_, rfl, _, rfl, pl, _, rfl, .inr hPl, rfl, flat_strs _, _, rfl, ?_⟩
    refine if_f (by simp [i1]) ?_
    refine ⟨_, rfl, _, rfl, pl, _, rfl, .inr hPl, rfl, flat_strs _, _, rfl, ?_⟩
    refine if_f (by simp [i2]) ?_
    refine ⟨_, rfl, _, _, rfl, rfl, _, rfl, if_t (decide_eq_true ok.m1) ⟨_, _, rfl, rfl, _, rfl, ?_⟩⟩
    rw [decide_eq_true ok.m2]
    refine iteF ?_
    refine ⟨_, rfl, u, rfl, ⟨_, hU⟩, for_tup (K := K) (a := u) (xs := r.users.map V.str) (fun i σ H' => H' = H ∧ ∃ v, σ = [some (.ref t), some (.int d), some (.ref pl), some (.ref ki), some (.str r.name), some (.str r.start), some (.str r.goal), some (.int r.minutes), some (.ref u), some h, v])
      ⟨rfl, none, rfl⟩ (fun i σ H' _ ⟨e, _⟩ => by rw [e]; exact hU) ?_ ?_⟩
    · rintro i y σ H' hi ⟨rfl, v, rfl⟩
      obtain ⟨z, hzi, rfl⟩ : ∃ z, r.users[i]? = some z ∧ y = V.str z := by
        rw [List.getElem?_map] at hi
        obtain ⟨z, e1, e2⟩ := Option.map_eq_some_iff.mp hi
        exact ⟨z, e1, e2.symm⟩
      have i3 := inV_str (ok.u z (List.mem_of_getElem? hzi))
      refine ⟨_, rfl, _, rfl, ki, _, rfl, .inr hKi, rfl, flat_strs _, _, rfl, ?_⟩
      refine if_f (by simp [i3]) ⟨rfl, _, rfl⟩
    · rintro σ H' ⟨rfl, v, rfl⟩
      have un := ok.un
      refine ⟨_, rfl, u, rfl, .inl ⟨r.users, .inr hU, by omega, ok.ud⟩, ?_⟩
      refine ⟨_, rfl, _, rfl, _, rfl, _, rfl, _, rfl, u, r.users, rfl, .inr hU, fun ys l hp hso hl => ⟨l, _, rfl, .inl ⟨SqL.of upd_same, fun q hq => ?_⟩⟩⟩
      have gl := Grew.new hP (o := .lst (ys.map V.str)) hl
      have gq := gl.put (o := .tup (ys.map V.str)) hq
      refine ⟨_, rfl, _, rfl, d, r.hours, h, rfl, hH.keep (KeepT.grew gq hP), ok.h, gq.tab, fun H2 v' g2 hv => ⟨by show 6 ≤ sizeLine; decide, fun p hp2 => ?_⟩⟩
      have g3 := gq.trans g2
      have gp := g3.put (o := .tup [.str r.name, .str r.start, .str r.goal, .int r.minutes, .ref q, v']) hp2
      have e2 : H2 q = some (.tup (ys.map V.str)) := g2.tup gq.tab upd_same
      exact k _ p q v' { r with users := ys } gp ⟨rfl, rfl, rfl, rfl, rfl, hp, hso⟩ (g3.free hp2) upd_same (by rw [upd_ne (ne_of_none e2 hp2)]; exact e2) (hv.keep (KeepT.new hp2))
end
end W

set_option Elab.async false
set_option linter.all false
set_option maxRecDepth 100000
set_option maxHeartbeats 400000
namespace W
open PySem PySem.Spec PyProof.Rows L2 GxR MyG MyS
/-! ### _checked_roads -/
/-- a road that was made here: its own tuples stand tracked, none was there at H0 -/
def MadeR (K : PySem.W.Frag) (H0 H : Hp) (r : RoadD) (v : V) : Prop := ∃ r' p q h, v = .ref p ∧ H0 p = none ∧ Kept r r' ∧ H p = some (.tup [.str r'.name, .str r'.start, .str r'.goal, .int r'.minutes, .ref q, h]) ∧ H q = some (.tup (r'.users.map V.str)) ∧ GHours K H r'.hours h
/-- the road v at H -/
def RoadAt (K : PySem.W.Frag) (H : Hp) (r : RoadD) (v : V) : Prop := ∃ p q h, v = .ref p ∧ H p = some (.tup [.str r.name, .str r.start, .str r.goal, .int r.minutes, .ref q, h]) ∧ H q = some (.tup (r.users.map V.str)) ∧ GHours K H r.hours h
theorem RoadAt.grew {K : PySem.W.Frag} {P : Addr} {H H' : Hp} {r : RoadD} {v : V} (g : Grew P H H') (h : TabG H P) (m : RoadAt K H r v) : RoadAt K H' r v := by
  obtain ⟨p, q, hv, e, e1, e2, e3⟩ := m
  exact ⟨p, q, hv, e, g.tup h e1, g.tup h e2, e3.keep (KeepT.grew g h)⟩
theorem RoadAt.upd {K : PySem.W.Frag} {H : Hp} {D : Addr} {o : HO} {r : RoadD} {v : V} (nt : ∀ xs, H D ≠ some (.tup xs)) (kt : KeepT K H (L2.upd H D o)) (m : RoadAt K H r v) : RoadAt K (L2.upd H D o) r v := by
  obtain ⟨p, q, hv, e, e1, e2, e3⟩ := m
  exact ⟨p, q, hv, e, by rw [upd_ne (fun z => nt _ (z ▸ e1))]; exact e1, by rw [upd_ne (fun z => nt _ (z ▸ e2))]; exact e2, e3.keep kt⟩
theorem RoadAt.road {K : PySem.W.Frag} {H : Hp} {r : RoadD} {v : V} (m : RoadAt K H r v) : GRoad K H r v := by
  obtain ⟨p, q, hv, e, e1, e2, e3⟩ := m
  exact ⟨p, q, hv, e, SqT.of e1, SqT.of e2, e3⟩
theorem ex_list {α β : Type} {F : α → β → Prop} : ∀ (l : List α), (∀ a ∈ l, ∃ b, F a b) → ∃ m, Paired F l m
  | [], _ => ⟨[], .nil⟩
  | a :: l, h => by
    obtain ⟨b, hb⟩ := h a List.mem_cons_self
    obtain ⟨m, hm⟩ := ex_list l fun a ha => h a (List.mem_cons_of_mem _ ha)
    exact ⟨b :: m, .cons hb hm⟩
theorem Paired.mem {α β : Type} {F : α → β → Prop} : ∀ {l : List α} {m : List β} {b : β}, Paired F l m → b ∈ m → ∃ a ∈ l, F a b
  | _, _, _, .cons r t, h => by
    rcases List.mem_cons.mp h with e | h
    · exact ⟨_, List.mem_cons_self, e ▸ r⟩
    · obtain ⟨a, ha, f⟩ := Paired.mem t h
      exact ⟨a, List.mem_cons_of_mem _ ha, f⟩
theorem Paired.mem' {α β : Type} {F : α → β → Prop} : ∀ {l : List α} {m : List β} {a : α}, Paired F l m → a ∈ l → ∃ b ∈ m, F a b
  | _, _, _, .cons r t, h => by
    rcases List.mem_cons.mp h with e | h
    · exact ⟨_, List.mem_cons_self, e ▸ r⟩
    · obtain ⟨a, ha, f⟩ := Paired.mem' t h
      exact ⟨a, List.mem_cons_of_mem _ ha, f⟩
theorem Paired.comp {α β γ : Type} {F : α → β → Prop} {G : β → γ → Prop} {E : α → γ → Prop} (h : ∀ a b c, F a b → G b c → E a c) : ∀ {l : List α} {m : List β} {n : List γ}, Paired F l m → Paired G m n → Paired E l n
  | _, _, _, .nil, .nil => .nil
  | _, _, _, .cons r t, .cons r' t' => .cons (h _ _ _ r r') (Paired.comp h t t')
/-- the values in another order: the things behind them too -/
theorem Paired.perm {α β : Type} {F : α → β → Prop} {m m' : List β} (p : m'.Perm m) : ∀ {l : List α}, Paired F l m → ∃ l' : List α, l'.Perm l ∧ Paired F l' m' := by
  induction p with
  | nil => exact fun h => ⟨_, List.Perm.refl _, h⟩
  | cons x p ih =>
    intro l h
    cases h with
    | cons r t =>
      obtain ⟨l', q1, q2⟩ := ih t
      exact ⟨_ :: l', q1.cons _, .cons r q2⟩
  | swap x y l0 =>
    intro l h
    cases h with
    | cons r t =>
      cases t with
      | cons r2 t => exact ⟨_ :: _ :: _, List.Perm.swap .., .cons r2 (.cons r t)⟩
  | trans p q ih1 ih2 =>
    intro l h
    obtain ⟨l1, a1, a2⟩ := ih2 h
    obtain ⟨l2, b1, b2⟩ := ih1 a2
    exact ⟨l2, b1.trans a1, b2⟩
theorem Paired.pair {α β : Type} {F : α → β → Prop} {R : β → β → Prop} {S : α → α → Prop} (h : ∀ a b x y, F a x → F b y → R x y → S a b) : ∀ {l : List α} {m : List β}, Paired F l m → m.Pairwise R → l.Pairwise S
  | _, _, .nil, _ => List.Pairwise.nil
  | _, _, .cons r t, p => by
    have q := List.pairwise_cons.mp p
    refine List.pairwise_cons.mpr ⟨fun a ha => ?_, Paired.pair h t q.2⟩
    obtain ⟨b, hb, f⟩ := Paired.mem' t ha
    exact h _ _ _ _ r f (q.1 b hb)
theorem Paired.inj {α β γ : Type} {F : α → β → Prop} {f : α → γ} {l : List α} {m : List β} (h : Paired F l m) (nd : (l.map f).Nodup) {x y : β} (hx : x ∈ m) (hy : y ∈ m) (hxy : ∀ a b, F a x → F b y → f a = f b) : x = y := by
  obtain ⟨i, hi, ei⟩ := List.getElem_of_mem hx
  obtain ⟨j, hj, ej⟩ := List.getElem_of_mem hy
  obtain ⟨a, ha, fa⟩ := Paired.at h (List.getElem?_eq_some_iff.mpr ⟨hi, ei⟩)
  obtain ⟨b, hb, fb⟩ := Paired.at h (List.getElem?_eq_some_iff.mpr ⟨hj, ej⟩)
  have e := hxy a b fa fb
  obtain ⟨hi', ea⟩ := List.getElem?_eq_some_iff.mp ha
  obtain ⟨hj', eb⟩ := List.getElem?_eq_some_iff.mp hb
  have ij : i = j := by
    rcases Nat.lt_trichotomy i j with c | c | c
    · exact absurd (by rw [List.getElem_map, List.getElem_map, ea, eb]; exact e) (List.pairwise_iff_getElem.mp nd i j (by rw [List.length_map]; exact hi') (by rw [List.length_map]; exact hj') c)
    · exact c
    · exact absurd (by rw [List.getElem_map, List.getElem_map, ea, eb]; exact e.symm) (List.pairwise_iff_getElem.mp nd j i (by rw [List.length_map]; exact hj') (by rw [List.length_map]; exact hi') c)
  subst ij
  exact ei.symm.trans ej
theorem kept_names : ∀ {rs ms : List RoadD}, Paired Kept rs ms → ms.map (·.name) = rs.map (·.name)
  | _, _, .nil => rfl
  | _, _, .cons r t => by
    rw [List.map_cons, List.map_cons, kept_names t, r.1]
/-- the name of a road's tuple -/
def nameAt (H : Hp) : V → Str
  | .ref t => match H t with
    | some (.tup (.str n :: _)) => n
    | _ => Str.empty
  | _ => Str.empty
theorem RoadAt.name {K : PySem.W.Frag} {H : Hp} {r : RoadD} {v : V} (m : RoadAt K H r v) : nameAt H v = r.name := by
  obtain ⟨p, q, hv, e, e1, _⟩ := m
  subst e
  unfold nameAt
  simp only [e1]
/-- the roads as the map keeps them: the same ones, each as it is kept, by their names -/
def KeptAll (rs rs' : List RoadD) : Prop := ∃ l, l.Perm rs' ∧ Paired Kept rs l
def AscR (rs : List RoadD) : Prop := rs.Pairwise fun a b => slt b.name a.name = false
structure RoadsOk (d : Int) (ps ks : List Str) (rs : List RoadD) : Prop where
  len : rs.length ≤ 60
  nm : (rs.map (·.name)).all isNm = true
  nd : (rs.map (·.name)).Nodup
  ok : ∀ r ∈ rs, RoadOk d ps ks r
def spRoads (K : PySem.W.Frag) (P : Addr) : Sp := fun vs H Q _ => ∃ (a pl ki : Addr) (d : Int) (ps ks : List Str) (rs : List RoadD) (xs : List V), vs = [.ref a, .int d, .ref pl, .ref ki] ∧ SqL K H a xs ∧ Paired (GRoad K H) rs xs ∧ SqT K H pl (ps.map V.str) ∧ SqT K H ki (ks.map V.str) ∧ RoadsOk d ps ks rs ∧ TabG H P ∧
  ∀ H' p rs' ys, Grew P H H' → KeptAll rs rs' → AscR rs' → H p = none → H' p = some (.tup ys) → Paired (RoadAt K H') rs' ys → Q (.ref p) H'
section
variable {Pg : Program} {w : World} {K : PySem.W.Frag} {mg : Str → Option Value} {base : Heap} {C P : Addr}
abbrev nRoads : List Str := ["roads", "day", "places", "kinds", "road", "kept"]
theorem scRoads : FnScope nRoads ["roads", "day", "places", "kinds"] (defScope sRoads) := ⟨rfl, rfl, rfl, by decide +kernel, rfl, by decide +kernel, by decide +kernel⟩
theorem ok_roads {f fN fR : Addr} {fd fdN fdR : FuncData} {t1 t2 t3 : Tok} (F : Fun K "_checked_roads" "_checked_roads" sRoads f fd) (hl : mg "len" = none) (ht : mg "tuple" = none) (hs : mg "sorted" = none)
    (hp : mg "PARTS" = some (.int 6 t1)) (hn : mg "NAME" = some (.int 0 t2)) (hm : mg "MOST_ROADS" = some (.int 60 t3))
    (GN : FnOk Pg w K mg base CX0 3 fN fdN ["names", "least", "most"] (spNames K P)) (gN : mg "_checked_names" = some (.ref fN)) (kN : PySem.W.keepIn K (.ref fN) = true) (bN : Binds K fdN ["names", "least", "most"] [])
    (GR : FnOk Pg w K mg base CX0 2 fR fdR ["road", "day", "places", "kinds"] (spRoad K P)) (gR : mg "_checked_road" = some (.ref fR)) (kR : PySem.W.keepIn K (.ref fR) = true) (bR : Binds K fdR ["road", "day", "places", "kinds"] []) :
    FnOk Pg w K mg base CX0 4 f fd ["roads", "day", "places", "kinds"] (spRoads K P) := by
  refine F.ok scRoads (fun vs H Q E h => ?_) (fun cdv A outer s H vs Q E hr h => ?_)
  · obtain ⟨a, pl, ki, d, ps, ks, rs, xs, rfl, _⟩ := h
    rfl
  · obtain ⟨a, pl, ki, d, ps, ks, rs, xs, rfl, hS, hG, hPl, hKi, ok, hP, k⟩ := h
    have hr2 : Room 2 _ := hr.mono (by decide)
    refine ⟨_, pss_cons (ps_for PassesOwn.never rfl (pi_list (pv 0)) (pg_name (i := 4) scRoads.nd rfl (Or.inl rfl)) (pss_one (ps_if (pt_cmpR op_ne (pe_callB call_len_seq (by rfl) hl PySem.boot_len (pa_cons (pv 4) pa_nil)) (pe_gI hp) (nomark _)) (pss_one ps_never) pss_nil)))
      (pss_cons (ps_expr (pe_call GN hr (by rfl) gN kN bN .nil pass0 (pa_cons (pe_lc (own := [("road", 4)]) (g := gName 4) (tt := tYes) rfl scRoads.nd (pi_list (pv 0)) (blkOk_by (N := nRoads) (sc := defScope sRoads) (by decide +kernel)) (fun _ _ _ _ _ => pg_name (i := 4) scRoads.nd rfl (Or.inl rfl)) (fun _ _ _ _ _ => pts_nil)
          (fun _ _ _ _ _ => pe_ix (r := rIxT K) ix_tup (pv 4) (pe_gI hn) (fun _ _ => rfl))) (pa_cons pe_int (pa_cons (pe_gI hm) pa_nil)))))
      (pss_cons (ps_setLc (i := 5) (own := [("road", 4)]) (g := gName 4) (tt := tYes) rfl scRoads.nd rfl rfl (sw_true rfl rfl rfl (by decide +kernel)) (pi_list (pv 0)) (blkOk_by (N := nRoads) (sc := defScope sRoads) (by decide +kernel)) (fun _ _ _ _ _ => pg_name (i := 4) scRoads.nd rfl (Or.inl rfl)) (fun _ _ _ _ _ => pts_nil)
          (fun _ _ _ _ _ => pe_call GR hr2 (by rfl) gR kR bR .nil pass0 (pa_cons (pv 4) (pa_cons (pv 1) (pa_cons (pv 2) (pa_cons (pv 3) pa_nil))))))
      (pss_one (ps_ret (pe_callTy call_tuple_of (by rfl) ht (by decide +kernel) (pa_cons (pe_callB cr_sortR (by rfl) hs (by decide +kernel) (pa_cons (pv 5) pa_nil)) pa_nil)))))), ?_⟩
    have hln : rs.length = xs.length := Paired.len hG
    have hl60 := ok.len
    refine ⟨_, rfl, a, rfl, ⟨_, hS⟩, for_list (K := K) (a := a) (xs := xs) (fun i σ H' => H' = H ∧ ∃ v, σ = [some (.ref a), some (.int d), some (.ref pl), some (.ref ki), v, none])
      ⟨rfl, none, rfl⟩ (fun i σ H' _ ⟨e, _⟩ => by rw [e]; exact hS) ?_ ?_⟩
    · rintro i y σ H' hi ⟨rfl, v, rfl⟩
      obtain ⟨r, hr, t, u, h, rfl, hT, _⟩ := Paired.at hG hi
      refine ⟨_, rfl, t, _, rfl, .inr hT, rfl, _, rfl, ?_⟩
      exact if_f (by rfl) ⟨rfl, _, rfl⟩
    · rintro σ H' ⟨rfl, v, rfl⟩
      refine ⟨_, rfl, a, rfl, ⟨_, hS⟩, fun D nD => lc_list (K := K) (a := a) (xs := xs) (fun i H1 => Grew P H' H1 ∧ H1 D = some (.lst (((rs.map (·.name)).take i).map V.str)))
        ⟨Grew.new hP nD, upd_same⟩ (fun i H1 _ p => p.1.sqL hP hS) (fun i x H1 hx p => ?_) (fun H1 p => ?_)⟩
      · obtain ⟨g, hD⟩ := p
        obtain ⟨r, hr, t, u, h, rfl, hT, _⟩ := Paired.at hG hx
        refine ⟨rfl, _, rfl, t, _, 0, .str r.name, rfl, rfl, g.sqT hP hT, rfl, _, hD, ?_, ?_, ?_⟩
        · rw [List.length_map, List.length_take, List.length_map, sizeLine_eq]
          omega
        · exact g.write hD (fun _ z => by cases z) nD
        · rw [upd_same, List.take_succ, List.getElem?_map, hr, List.map_append]
          rfl
      · obtain ⟨g, hD⟩ := p
        rw [← hln, ← List.length_map (f := (·.name)), List.take_length] at hD
        refine ⟨D, rs.map (·.name), 0, 60, rfl, SqL.of hD, by omega, by rw [List.length_map]; omega, by rw [List.length_map]; omega, ok.nm, ok.nd, g.tab, fun H2 p2 ys2 g2 np e2 _ _ => ?_⟩
        have g3 := g.trans g2
        refine ⟨_, rfl, a, rfl, ⟨_, g3.sqL hP hS⟩, fun D2 nD2 => lc_list (K := K) (a := a) (xs := xs) (fun i H1 => Grew P H' H1 ∧ ∃ acc ms, H1 D2 = some (.lst acc) ∧ Paired Kept (rs.take i) ms ∧ Paired (RoadAt K H1) ms acc)
          ⟨g3.put nD2, [], [], upd_same, .nil, .nil⟩ (fun i H1 _ p => p.1.sqL hP hS) (fun i x H1 hx p => ?_) (fun H1 p => ?_)⟩
        · obtain ⟨g4, acc, ms, hD4, hk4, hm4⟩ := p
          obtain ⟨r, hr, hgr⟩ := Paired.at hG hx
          have nD2' := g3.free nD2
          refine ⟨rfl, _, rfl, _, rfl, _, rfl, _, rfl, x, pl, ki, d, ps, ks, r, rfl, hgr.keep (KeepT.grew g4 hP), g4.sqT hP hPl, g4.sqT hP hKi, ok.ok r (List.mem_of_getElem? hr), g4.tab, fun H5 p5 q5 h5 r5 g5 kp n5 e5 f5 hh5 => ?_⟩
          have hD5 := g5.lst g4.tab hD4
          have g45 := g4.trans g5
          refine ⟨acc, hD5, ?_, g45.write hD5 (fun _ z => by cases z) nD2', acc ++ [.ref p5], ms ++ [r5], upd_same, ?_, ?_⟩
          · rw [← Paired.len hm4, ← Paired.len hk4, List.length_take, sizeLine_eq]
            omega
          · rw [List.take_succ, hr]
            exact Paired.snoc hk4 kp
          · have up : ∀ {r : RoadD} {v : V}, RoadAt K H5 r v → RoadAt K (L2.upd H5 D2 (.lst (acc ++ [.ref p5]))) r v := fun m => m.upd (fun xs z => by rw [hD5] at z; cases z) (KeepT.lst hD5)
            exact Paired.snoc (Paired.map' hm4 fun r v m => up (m.grew g5 g4.tab)) (up ⟨p5, q5, h5, rfl, e5, f5, hh5⟩)
        · obtain ⟨g4, acc, ms, hD4, hk4, hm4⟩ := p
          rw [← hln, List.take_length] at hk4
          have nd : (ms.map (·.name)).Nodup := by rw [kept_names hk4]; exact ok.nd
          refine ⟨_, rfl, D2, acc, nameAt H1, rfl, SqL.of hD4, fun x hx => ?_, fun x hx y hy e => Paired.inj hm4 nd hx hy fun r r' m m' => by rw [← m.name, ← m'.name]; exact e, fun ys l hpm hso hl => ⟨l, _, rfl, .inl ⟨SqL.of upd_same, fun p hp2 => ?_⟩⟩⟩
          · obtain ⟨r, _, m⟩ := Paired.mem hm4 hx
            have nm := m.name
            obtain ⟨p, q, hv, e, e1, _⟩ := m
            exact ⟨p, _, e, by rw [nm]; exact SqT.of e1⟩
          · obtain ⟨rs', pm, hr'⟩ := Paired.perm hpm hm4
            have gl := Grew.new g4.tab (o := .lst ys) hl
            have gp := gl.put (o := .tup ys) hp2
            exact k _ p rs' ys (g4.trans gp) ⟨ms, pm.symm, hk4⟩ (Paired.pair (fun a b x y m m' e => by rw [m.name, m'.name] at e; exact e) hr' hso) (g4.free (gl.free hp2)) upd_same (Paired.map' hr' fun _ _ m => m.grew gp g4.tab)
end
end W

set_option Elab.async false
set_option linter.all false
set_option maxRecDepth 100000
set_option maxHeartbeats 400000
namespace W
open PySem PySem.Spec PyProof.Rows L2 GxR MyG MyS
/-! ### _checked_bars -/
theorem u1 {n : Nat} (h : n + 64 < cLine) : n + 1 < cLine := by omega
def GBar (H : Hp) (b : Str × Str) (v : V) : Prop := ∃ t, v = .ref t ∧ H t = some (.tup [.str b.1, .str b.2])
theorem GBar.grew {P : Addr} {H H' : Hp} {b : Str × Str} {v : V} (g : Grew P H H') (h : TabG H P) (m : GBar H b v) : GBar H' b v := let ⟨t, e, q⟩ := m; ⟨t, e, g.tup h q⟩
theorem GBar.upd {H : Hp} {D : Addr} {o : HO} {b : Str × Str} {v : V} (nt : ∀ xs, H D ≠ some (.tup xs)) (m : GBar H b v) : GBar (L2.upd H D o) b v := by
  obtain ⟨t, e, q⟩ := m
  exact ⟨t, e, by rw [upd_ne (fun z => nt _ (z ▸ q))]; exact q⟩
/-- the pair of a bar's tuple -/
def barAt (H : Hp) : V → Str × Str
  | .ref t => match H t with
    | some (.tup [.str a, .str b]) => (a, b)
    | _ => (Str.empty, Str.empty)
  | _ => (Str.empty, Str.empty)
theorem GBar.at {H : Hp} {b : Str × Str} {v : V} (m : GBar H b v) : barAt H v = b := by
  obtain ⟨t, e, q⟩ := m
  subst e
  unfold barAt
  simp only [q]
theorem bars_keys {H : Hp} {K : PySem.W.Frag} : ∀ {bs : List (Str × Str)} {xs : List V}, Paired (GBar H) bs xs → ∃ ks : List (Addr × List Str), xs = ks.map (fun p => V.ref p.1) ∧ ks.map (·.2) = bs.map (fun b => [b.1, b.2]) ∧ ∀ p ∈ ks, SqT K H p.1 (p.2.map V.str)
  | _, _, .nil => ⟨[], rfl, rfl, fun _ h => by cases h⟩
  | _, _, .cons (a := b) ⟨t, e, q⟩ r => by
    obtain ⟨ks, e1, e2, e3⟩ := bars_keys (K := K) r
    refine ⟨(t, [b.1, b.2]) :: ks, by rw [e, e1]; rfl, by rw [List.map_cons, List.map_cons, e2], fun p hp => ?_⟩
    rcases List.mem_cons.mp hp with z | z
    · rw [z]; exact SqT.of q
    · exact e3 p z
theorem nodup_bars {bs : List (Str × Str)} (h : bs.Nodup) : (bs.map (fun b => [b.1, b.2])).Nodup :=
  List.pairwise_map.mpr (h.imp fun {a b} ne e => ne (Prod.ext (List.cons.inj e).1 (List.cons.inj (List.cons.inj e).2).1))
/-- the dict of the roads by their names -/
def DictR (K : PySem.W.Frag) (H : Hp) (d : Addr) (rs : List RoadD) : Prop := ∃ kvs, H d = some (.dK kvs) ∧ (∀ r ∈ rs, ∃ v, valV kvs (.inr r.name) = some v ∧ RoadAt K H r v) ∧ ∀ z, (∀ r ∈ rs, r.name ≠ z) → valV kvs (.inr z) = none
theorem DictR.grew {K : PySem.W.Frag} {P d : Addr} {H H' : Hp} {rs : List RoadD} (g : Grew P H H') (h : TabG H P) (m : DictR K H d rs) : DictR K H' d rs := by
  obtain ⟨kvs, e, m1, m2⟩ := m
  exact ⟨kvs, g.get h e (fun _ z => by cases z), fun r hr => let ⟨v, a, b⟩ := m1 r hr; ⟨v, a, b.grew g h⟩, m2⟩
structure BarsOk (rs : List RoadD) (bs : List (Str × Str)) : Prop where
  len : bs.length ≤ 40
  nd : bs.Nodup
  ok : ∀ b ∈ bs, ∃ r1 ∈ rs, ∃ r2 ∈ rs, b.1 = r1.name ∧ b.2 = r2.name ∧ r1.goal = r2.start
def AscB (bs : List (Str × Str)) : Prop := bs.Pairwise fun a b => slt2 b a = false
def spBars (K : PySem.W.Frag) (P : Addr) : Sp := fun vs H Q _ => ∃ (a d : Addr) (rs : List RoadD) (bs : List (Str × Str)) (xs : List V), vs = [.ref a, .ref d] ∧ SqL K H a xs ∧ Paired (GBar H) bs xs ∧ DictR K H d rs ∧ BarsOk rs bs ∧ TabG H P ∧
  ∀ H' p bs' ys, Grew P H H' → bs'.Perm bs → AscB bs' → H p = none → H' p = some (.tup ys) → Paired (GBar H') bs' ys → Q (.ref p) H'
section
variable {Pg : Program} {w : World} {K : PySem.W.Frag} {mg : Str → Option Value} {base : Heap} {C P : Addr}
abbrev nBars : List Str := ["bars", "roads_by_name", "bar", "first", "second", "kept"]
theorem scBars : FnScope nBars ["bars", "roads_by_name"] (defScope sBars) := ⟨rfl, rfl, rfl, by decide +kernel, rfl, by decide +kernel, by decide +kernel⟩
theorem ok_bars {f fD : Addr} {fd fdD : FuncData} {t1 t2 t3 : Tok} (F : Fun K "_checked_bars" "_checked_bars" sBars f fd) (hl : mg "len" = none) (ht : mg "tuple" = none) (hs : mg "sorted" = none)
    (hm : mg "MOST_BARS" = some (.int 40 t1)) (he : mg "END" = some (.int 2 t2)) (hst : mg "START" = some (.int 1 t3))
    (GD : FnOk Pg w K mg base CX0 1 fD fdD ["parts"] (spDiff K)) (gD : mg "_check_different" = some (.ref fD)) (kD : PySem.W.keepIn K (.ref fD) = true) (bD : Binds K fdD ["parts"] []) :
    FnOk Pg w K mg base CX0 2 f fd ["bars", "roads_by_name"] (spBars K P) := by
  refine F.ok scBars (fun vs H Q E h => ?_) (fun cdv A outer s H vs Q E hr h => ?_)
  · obtain ⟨a, d, rs, bs, xs, rfl, _⟩ := h
    rfl
  · obtain ⟨a, d, rs, bs, xs, rfl, hS, hG, hD, ok, hP, k⟩ := h
    refine ⟨_, pss_cons (ps_if (pt_cmpR op_gt (pe_callB call_len_seq (by rfl) hl PySem.boot_len (pa_cons (pv 0) pa_nil)) (pe_gI hm) (nomark _)) (pss_one ps_never) pss_nil)
      (pss_cons (ps_for PassesOwn.never rfl (pi_list (pv 0)) (pg_name (i := 2) scBars.nd rfl (Or.inl rfl))
        (pss_cons (ps_if (pt_cmpR op_ne (pe_callB call_len_seq (by rfl) hl PySem.boot_len (pa_cons (pv 2) pa_nil)) pe_int (nomark _)) (pss_one ps_never) pss_nil)
        (pss_cons (ps_asg (pv 2) (pg_tup (by rfl) (pgs_cons (pg_name (i := 3) scBars.nd rfl (.inl rfl)) (pgs_cons (pg_name (i := 4) scBars.nd rfl (.inl rfl)) pgs_nil))))
        (pss_cons (ps_if (PW.pt (pw_or (pt_cmp (pc_dnotin (u1 hr.units) (pv 3) (pv 1))) (pw_or1 (pt_cmp (pc_dnotin (u1 hr.units) (pv 4) (pv 1)))))) (pss_one ps_never) pss_nil)
        (pss_one (ps_if (pt_cmpR op_ne (pe_ix ix_tup (pe_dget (u1 hr.units) (pv 1) (pv 3) (fun _ _ => rfl)) (pe_gI he) (fun _ _ => rfl)) (pe_ix ix_tup (pe_dget (u1 hr.units) (pv 1) (pv 4) (fun _ _ => rfl)) (pe_gI hst) (fun _ _ => rfl)) (nomark _)) (pss_one ps_never) pss_nil))))))
      (pss_cons (ps_setLc (i := 5) (own := [("bar", 2)]) (g := gName 2) (tt := tYes) rfl scBars.nd rfl rfl (sw_true rfl rfl rfl (by decide +kernel)) (pi_list (pv 0)) (blkOk_by (N := nBars) (sc := defScope sBars) (by decide +kernel)) (fun _ _ _ _ _ => pg_name (i := 2) scBars.nd rfl (Or.inl rfl)) (fun _ _ _ _ _ => pts_nil)
          (fun _ _ _ _ _ => pe_callTy (r := rTupOf K) call_tuple_of (by rfl) ht (by decide +kernel) (pa_cons (pv 2) pa_nil)))
      (pss_cons (ps_expr (pe_call GD (hr.mono (by decide)) (by rfl) gD kD bD .nil pass0 (pa_cons (pv 5) pa_nil)))
      (pss_one (ps_ret (pe_callTy call_tuple_of (by rfl) ht (by decide +kernel) (pa_cons (pe_callB cr_sortB (by rfl) hs (by decide +kernel) (pa_cons (pv 5) pa_nil)) pa_nil))))))), ?_⟩
    have hln := Paired.len hG
    have hl40 := ok.len
    refine ⟨_, rfl, a, _, rfl, .inl hS, _, _, rfl, rfl, _, rfl, if_f (decide_eq_false (by omega)) ?_⟩
    refine ⟨_, rfl, a, rfl, ⟨_, hS⟩, for_list (K := K) (a := a) (xs := xs) (fun i σ H' => H' = H ∧ ∃ v1 v2 v3, σ = [some (.ref a), some (.ref d), v1, v2, v3, none])
      ⟨rfl, none, none, none, rfl⟩ (fun i σ H' _ ⟨e, _⟩ => by rw [e]; exact hS) ?_ ?_⟩
    · rintro i y σ H' hi ⟨rfl, v1, v2, v3, rfl⟩
      obtain ⟨b, hb, t, rfl, hT⟩ := Paired.at hG hi
      obtain ⟨r1, hr1, r2, hr2, e1, e2, e3⟩ := ok.ok b (List.mem_of_getElem? hb)
      obtain ⟨kvs, hd, hin, _⟩ := hD
      obtain ⟨w1, l1, p1, q1, h1, rfl, a1, _, _⟩ := hin r1 hr1
      obtain ⟨w2, l2, p2, q2, h2, rfl, a2, _, _⟩ := hin r2 hr2
      rw [← e1] at l1
      rw [← e2] at l2
      have g1 : DGet H' d (.str b.1) (some (.ref p1)) := by rw [← l1]; exact DGet.k (k := .inr b.1) hd
      have g2 : DGet H' d (.str b.2) (some (.ref p2)) := by rw [← l2]; exact DGet.k (k := .inr b.2) hd
      refine ⟨_, rfl, t, _, rfl, .inr (SqT.of hT), rfl, _, rfl, if_f (by rfl) ?_⟩
      refine ⟨_, rfl, t, _, rfl, SqT.of hT, rfl, _, _, rfl, _, _, rfl, rfl, ?_⟩
      refine ⟨_, rfl, _, rfl, d, _, rfl, g1, _, rfl, if_f (by rfl) ?_⟩
      refine ⟨_, rfl, _, rfl, d, _, rfl, g2, _, rfl, if_f (by rfl) ?_⟩
      refine ⟨_, rfl, _, rfl, d, _, rfl, g1, p1, _, 2, .str r1.goal, rfl, rfl, SqT.of a1, rfl, _, rfl, _, rfl, d, _, rfl, g2, p2, _, 1, .str r2.start, rfl, rfl, SqT.of a2, rfl, rfl, _, rfl, if_f ?_ ⟨rfl, _, _, _, rfl⟩⟩
      rw [e3]
      simp
    · rintro σ H' ⟨rfl, v1, v2, v3, rfl⟩
      refine ⟨_, rfl, a, rfl, ⟨_, hS⟩, fun D nD => lc_list (K := K) (a := a) (xs := xs) (fun i H1 => Grew P H' H1 ∧ H1 D = some (.lst (xs.take i)))
        ⟨Grew.new hP nD, upd_same⟩ (fun i H1 _ p => p.1.sqL hP hS) (fun i x H1 hx p => ?_) (fun H1 p => ?_)⟩
      · obtain ⟨g, hD1⟩ := p
        obtain ⟨b, hb, t, rfl, hT⟩ := Paired.at hG hx
        refine ⟨rfl, _, rfl, t, _, rfl, .inr ⟨SqT.of (g.tup hP hT), _, hD1, ?_, g.write hD1 (fun _ z => by cases z) nD, ?_⟩⟩
        · rw [List.length_take, sizeLine_eq]; omega
        · rw [upd_same, List.take_succ, hx]; rfl
      · obtain ⟨g, hD1⟩ := p
        rw [List.take_length] at hD1
        have hG1 : Paired (GBar H1) bs xs := Paired.map' hG fun b v m => m.grew g hP
        obtain ⟨ks, ek1, ek2, ek3⟩ := bars_keys (K := K) hG1
        have lk : ks.length = xs.length := by rw [ek1, List.length_map]
        refine ⟨_, rfl, D, rfl, .inr ⟨ks, by rw [← ek1]; exact SqL.of hD1, ek3, by omega, by rw [ek2]; exact nodup_bars ok.nd⟩, ?_⟩
        refine ⟨_, rfl, D, xs, barAt H1, rfl, SqL.of hD1, fun x hx => ?_, fun ys l hpm hso hl => ⟨l, _, rfl, .inl ⟨SqL.of upd_same, fun p hp2 => ?_⟩⟩⟩
        · obtain ⟨b, _, m⟩ := Paired.mem hG1 hx
          have nm := m.at
          obtain ⟨t, e, q⟩ := m
          exact ⟨t, e, by rw [nm]; exact SqT.of q⟩
        · obtain ⟨bs', pm, hr'⟩ := Paired.perm hpm hG1
          have gl := Grew.new g.tab (o := .lst ys) hl
          have gp := gl.put (o := .tup ys) hp2
          exact k _ p bs' ys (g.trans gp) pm (Paired.pair (fun a b x y m m' e => by rw [m.at, m'.at] at e; exact e) hr' hso) (g.free (gl.free hp2)) upd_same (Paired.map' hr' fun _ _ m => m.grew gp g.tab)
end
end W

set_option Elab.async false
set_option linter.all false
set_option maxRecDepth 100000
set_option maxHeartbeats 800000
namespace W
open PySem PySem.Spec PyProof.Rows L2 GxR MyG MyS
/-! ### Map.__init__ -/
abbrev nInit : List Str := ["self", "day", "kinds", "places", "roads", "bars", "road", "bar"]
abbrev pInit : List Str := ["self", "day", "kinds", "places", "roads", "bars"]
section
variable {K : PySem.W.Frag} {H : Hp} {x C dx : Addr} {fs : List (Str × V)} {o : HO}
theorem insNe (hx : H x = some (.ins C dx fs)) {a : Addr} {u : HO} (e : H a = some u) (d : ∀ C dx fs, u ≠ .ins C dx fs) : a ≠ x := fun z => by
  rw [z, hx] at e
  exact d _ _ _ (Option.some.inj e).symm
theorem tup_ins (hx : H x = some (.ins C dx fs)) {a : Addr} {l : List V} (e : H a = some (.tup l)) : L2.upd H x o a = some (.tup l) := by
  rw [upd_ne (insNe hx e (fun _ _ _ z => by cases z))]
  exact e
theorem RoadAt.ins (hx : H x = some (.ins C dx fs)) {r : RoadD} {v : V} (m : RoadAt K H r v) : RoadAt K (L2.upd H x o) r v := m.upd (fun xs z => by rw [hx] at z; cases z) (KeepT.ins hx)
theorem GBar.ins (hx : H x = some (.ins C dx fs)) {b : Str × Str} {v : V} (m : GBar H b v) : GBar (L2.upd H x o) b v := m.upd (fun xs z => by rw [hx] at z; cases z)
theorem DictR.ins (hx : H x = some (.ins C dx fs)) {d : Addr} {rs : List RoadD} (m : DictR K H d rs) : DictR K (L2.upd H x o) d rs := by
  obtain ⟨kvs, e, m1, m2⟩ := m
  exact ⟨kvs, by rw [upd_ne (insNe hx e (fun _ _ _ z => by cases z))]; exact e, fun r hr => let ⟨v, a, b⟩ := m1 r hr; ⟨v, a, b.ins hx⟩, m2⟩
end
/-- the dict of the bars -/
def DictB (H : Hp) (d : Addr) (bs : List (Str × Str)) : Prop := ∃ kvs : List (List Key × V), H d = some (.dT kvs) ∧ ∀ a b : Str, (valV kvs [.inr a, .inr b]).isSome = true ↔ (a, b) ∈ bs
/-- the fields of a map -/
def nmF : List Str := ["day", "kinds", "places", "roads", "_roads_by_name", "bars", "_barred"]
theorem noF {fs : List (Str × V)} {g : Str} {v : V} (h : ∀ f, f ∉ nmF → fs.lookup f = none) (hg : g ∈ nmF) : ∀ f, f ∉ nmF → (putF g v fs).lookup f = none := fun f hf => by
  rw [lookup_putF, if_neg (by intro e; subst e; exact hf hg)]
  exact h f hf
/-- the map at x -/
structure MapF (K : PySem.W.Frag) (H : Hp) (fs : List (Str × V)) (d : Int) (ks ps : List Str) (rs : List RoadD) (bs : List (Str × Str)) (kk pp rr D bb D2 : Addr) (ys zs : List V) : Prop where
  f0 : ∀ f, f ∉ nmF → fs.lookup f = none
  f1 : fs.lookup ("day" : Str) = some (V.int d)
  f2 : fs.lookup ("kinds" : Str) = some (V.ref kk)
  f3 : fs.lookup ("places" : Str) = some (V.ref pp)
  f4 : fs.lookup ("roads" : Str) = some (V.ref rr)
  f5 : fs.lookup ("_roads_by_name" : Str) = some (V.ref D)
  f6 : fs.lookup ("bars" : Str) = some (V.ref bb)
  f7 : fs.lookup ("_barred" : Str) = some (V.ref D2)
  k : H kk = some (.tup (ks.map V.str))
  p : H pp = some (.tup (ps.map V.str))
  r : H rr = some (.tup ys)
  ry : Paired (RoadAt K H) rs ys
  d : DictR K H D rs
  b : H bb = some (.tup zs)
  bz : Paired (GBar H) bs zs
  db : DictB H D2 bs
def MapAt (K : PySem.W.Frag) (H : Hp) (M x : Addr) (d : Int) (ks ps : List Str) (rs : List RoadD) (bs : List (Str × Str)) : Prop := ∃ dx fs kk pp rr D bb D2 ys zs, H x = some (.ins M dx fs) ∧ MapF K H fs d ks ps rs bs kk pp rr D bb D2 ys zs
structure PartsOk (d : Int) (ks ps : List Str) (rs : List RoadD) (bs : List (Str × Str)) : Prop where
  d1 : 1 ≤ d
  d2 : d ≤ 1440
  k1 : 1 ≤ ks.length
  k2 : ks.length ≤ 4
  p2 : ps.length ≤ 30
  kn : ks.all isNm = true
  pn : ps.all isNm = true
  kd : ks.Nodup
  pd : ps.Nodup
  r : RoadsOk d ps ks rs
  b : BarsOk rs bs
theorem RoadsOk.perm {d : Int} {ps ps' ks ks' : List Str} {rs : List RoadD} (h : RoadsOk d ps ks rs) (hp : ps'.Perm ps) (hk : ks'.Perm ks) : RoadsOk d ps' ks' rs := by
  obtain ⟨a, b, c, e⟩ := h
  refine ⟨a, b, c, fun r hr => ?_⟩
  obtain ⟨h1, h2, h3, h4, h5, h6, h7, h8⟩ := e r hr
  exact ⟨hp.mem_iff.mpr h1, hp.mem_iff.mpr h2, h3, h4, fun k hk' => hk.mem_iff.mpr (h5 k hk'), h6, h7, h8⟩
theorem BarsOk.kept {rs rs' : List RoadD} {bs : List (Str × Str)} (h : BarsOk rs bs) (k : KeptAll rs rs') : BarsOk rs' bs := by
  obtain ⟨a, b, c⟩ := h
  obtain ⟨l, pm, pr⟩ := k
  have f : ∀ r ∈ rs, ∃ r' ∈ rs', r'.name = r.name ∧ r'.start = r.start ∧ r'.goal = r.goal := fun r hr => by
    obtain ⟨r', hr', q⟩ := Paired.mem' pr hr
    exact ⟨r', pm.mem_iff.mp hr', q.1, q.2.1, q.2.2.1⟩
  refine ⟨a, b, fun z hz => ?_⟩
  obtain ⟨r1, h1, r2, h2, e1, e2, e3⟩ := c z hz
  obtain ⟨s1, m1, n1, _, g1⟩ := f r1 h1
  obtain ⟨s2, m2, n2, g2, _⟩ := f r2 h2
  exact ⟨s1, m1, s2, m2, by rw [n1]; exact e1, by rw [n2]; exact e2, by rw [g1, g2]; exact e3⟩
theorem KeptAll.nodup {rs rs' : List RoadD} (k : KeptAll rs rs') (h : (rs.map (·.name)).Nodup) : (rs'.map (·.name)).Nodup := by
  obtain ⟨l, pm, pr⟩ := k
  rw [← kept_names pr] at h
  exact (pm.map (·.name)).nodup_iff.mp h
theorem KeptAll.len {rs rs' : List RoadD} (k : KeptAll rs rs') : rs'.length = rs.length := by
  obtain ⟨l, pm, pr⟩ := k
  rw [← pm.length_eq, ← Paired.len pr]
def spInit (K : PySem.W.Frag) (M P : Addr) : Sp := fun vs H Q _ => ∃ (x dx ki pl ro ba : Addr) (d : Int) (ks ps : List Str) (rs : List RoadD) (bs : List (Str × Str)) (xs zs : List V) (H0 : Hp), vs = [.ref x, .int d, .ref ki, .ref pl, .ref ro, .ref ba] ∧
  Grew P H0 H ∧ TabG H0 P ∧ H0 x = none ∧ H x = some (.ins M dx []) ∧ SqL K H0 ki (ks.map V.str) ∧ SqL K H0 pl (ps.map V.str) ∧ SqL K H0 ro xs ∧ Paired (GRoad K H0) rs xs ∧ SqL K H0 ba zs ∧ Paired (GBar H0) bs zs ∧ PartsOk d ks ps rs bs ∧
  ∀ H' ks' ps' rs' bs', Grew P H0 H' → ks'.Perm ks → Asc ks' → ps'.Perm ps → Asc ps' → KeptAll rs rs' → AscR rs' → bs'.Perm bs → AscB bs' → MapAt K H' M x d ks' ps' rs' bs' → Q .non H'
structure TxtM (K : PySem.W.Frag) (M : Addr) : Prop where
  cl : Cls K M
  n1 : NoAttr K M "day"
  n2 : NoAttr K M "kinds"
  n3 : NoAttr K M "places"
  n4 : NoAttr K M "roads"
  n5 : NoAttr K M "_roads_by_name"
  n6 : NoAttr K M "bars"
  n7 : NoAttr K M "_barred"
section
variable {Pg : Program} {w : World} {K : PySem.W.Frag} {mg : Str → Option Value} {base : Heap} {C P : Addr}
theorem scInit : FnScope nInit pInit (defScope sInit) := ⟨rfl, rfl, rfl, by decide +kernel, rfl, by decide +kernel, by decide +kernel⟩
theorem ok_init {f fY fN fR fB M : Addr} {fd fdY fdN fdR fdB : FuncData} {t1 t2 t3 : Tok} {dvs : List V} {kws : List (Str × V)} (F : FunD K "__init__" "Map.__init__" (defArgs sInit) (defBody sInit) (defScope sInit) dvs kws f fd) (T : TxtM K M)
    (hn : mg "NAME" = some (.int 0 t1)) (hk : mg "MOST_KINDS" = some (.int 4 t2)) (hp : mg "MOST_PLACES" = some (.int 30 t3))
    (GY : FnOk Pg w K mg base CX0 1 fY fdY ["day"] spDay) (gY : mg "_checked_day" = some (.ref fY)) (kY : PySem.W.keepIn K (.ref fY) = true) (bY : Binds K fdY ["day"] [])
    (GN : FnOk Pg w K mg base CX0 3 fN fdN ["names", "least", "most"] (spNames K P)) (gN : mg "_checked_names" = some (.ref fN)) (kN : PySem.W.keepIn K (.ref fN) = true) (bN : Binds K fdN ["names", "least", "most"] [])
    (GR : FnOk Pg w K mg base CX0 4 fR fdR ["roads", "day", "places", "kinds"] (spRoads K P)) (gR : mg "_checked_roads" = some (.ref fR)) (kR : PySem.W.keepIn K (.ref fR) = true) (bR : Binds K fdR ["roads", "day", "places", "kinds"] [])
    (GB : FnOk Pg w K mg base CX0 2 fB fdB ["bars", "roads_by_name"] (spBars K P)) (gB : mg "_checked_bars" = some (.ref fB)) (kB : PySem.W.keepIn K (.ref fB) = true) (bB : Binds K fdB ["bars", "roads_by_name"] []) :
    FnOk Pg w K mg base CX0 5 f fd pInit (spInit K M P) := by
  refine F.ok scInit (fun vs H Q E h => ?_) (fun cdv A outer s H vs Q E hr h => ?_)
  · obtain ⟨x, dx, ki, pl, ro, ba, d, ks, ps, rs, bs, xs, zs, H0, rfl, _⟩ := h
    rfl
  · obtain ⟨x, dx, ki, pl, ro, ba, d, ks, ps, rs, bs, xs, zs, H0, rfl, g0, hP0, nx, hx, hKi, hPl, hRo, hG, hBa, hB, ok, k⟩ := h
    have hr1 : Room 1 _ := hr.mono (by decide)
    have hr2 : Room 2 _ := hr.mono (by decide)
    have hr3 : Room 3 _ := hr.mono (by decide)
    refine ⟨_, pss_cons (ps_fld (pv 0) (pe_call GY hr1 (by rfl) gY kY bY .nil pass0 (pa_cons (pv 1) pa_nil)) rfl)
      (pss_cons (ps_fld (pv 0) (pe_call GN hr3 (by rfl) gN kN bN .nil pass0 (pa_cons (pv 2) (pa_cons pe_int (pa_cons (pe_gI hk) pa_nil)))) rfl)
      (pss_cons (ps_fld (pv 0) (pe_call GN hr3 (by rfl) gN kN bN .nil pass0 (pa_cons (pv 3) (pa_cons pe_int (pa_cons (pe_gI hp) pa_nil)))) rfl)
      (pss_cons (ps_fld (pv 0) (pe_call GR hr (by rfl) gR kR bR .nil pass0 (pa_cons (pv 4) (pa_cons (pv 1) (pa_cons (pe_fld (pv 0) rfl) (pa_cons (pe_fld (pv 0) rfl) pa_nil))))) rfl)
      (pss_cons (ps_fld (pv 0) (pe_dc (own := [("road", 6)]) (g := gName 6) (tt := tYes) rfl scInit.nd (pi_tup (pe_fld (pv 0) rfl)) (blkOk_by (N := nInit) (sc := defScope sInit) (by decide +kernel)) (fun _ _ _ _ _ => pg_name (i := 6) scInit.nd rfl (Or.inl rfl)) (fun _ _ _ _ _ => pts_nil)
          (fun _ _ _ _ _ => pe_ix (r := rIxT K) ix_tup (pv 6) (pe_gI hn) (fun _ _ => rfl)) (fun _ _ _ _ _ => pv 6)) rfl)
      (pss_cons (ps_fld (pv 0) (pe_call GB hr2 (by rfl) gB kB bB .nil pass0 (pa_cons (pv 5) (pa_cons (pe_fld (pv 0) rfl) pa_nil))) rfl)
      (pss_one (ps_fld (pv 0) (pe_dcT (own := [("bar", 7)]) (g := gName 7) (tt := tYes) (u1 hr.units) rfl scInit.nd (pi_tup (pe_fld (pv 0) rfl)) (blkOk_by (N := nInit) (sc := defScope sInit) (by decide +kernel)) (fun _ _ _ _ _ => pg_name (i := 7) scInit.nd rfl (Or.inl rfl)) (fun _ _ _ _ _ => pts_nil)
          (fun _ _ _ _ _ => pv 7) (fun _ _ _ _ _ => pe_bl)) rfl))))))), ?_⟩
    have nins : ∀ (fs : List (Str × V)) (q : Array Value), (HO.ins M dx fs) ≠ .tbl q := fun _ _ z => by cases z
    have k1 := ok.k1
    have k2 := ok.k2
    have p2 := ok.p2
    -- day
    refine ⟨_, rfl, d, rfl, ok.d1, ok.d2, _, rfl, x, M, dx, [], rfl, hx, T.cl, T.n1, by decide, ?_⟩
    have ga := g0.write (o := .ins M dx (putF "day" (.int d) [])) hx (nins _) nx
    have la : (putF ("day" : Str) (V.int d) []).length ≤ 1 := length_putF _ _ []
    -- kinds
    refine ⟨_, rfl, ki, ks, 1, 4, rfl, ga.sqL hP0 hKi, by omega, by omega, by omega, ok.kn, ok.kd, ga.tab, fun Hb kk ks' gb nk ek pk ak => ?_⟩
    have xb := gb.get ga.tab upd_same (nins _)
    refine ⟨_, rfl, x, M, dx, _, rfl, xb, T.cl, T.n2, by omega, ?_⟩
    have gc := (ga.trans gb).write (o := .ins M dx (putF "kinds" (.ref kk) (putF "day" (.int d) []))) xb (nins _) nx
    have lc := length_putF ("kinds" : Str) (V.ref kk) (putF ("day" : Str) (V.int d) [])
    have tk := tup_ins (o := .ins M dx (putF "kinds" (.ref kk) (putF "day" (.int d) []))) xb ek
    -- places
    refine ⟨_, rfl, pl, ps, 0, 30, rfl, gc.sqL hP0 hPl, by omega, by omega, by omega, ok.pn, ok.pd, gc.tab, fun Hd pp ps' gd np ep pp' ap => ?_⟩
    have xd := gd.get gc.tab upd_same (nins _)
    refine ⟨_, rfl, x, M, dx, _, rfl, xd, T.cl, T.n3, by omega, ?_⟩
    have ge := (gc.trans gd).write (o := .ins M dx (putF "places" (.ref pp) (putF "kinds" (.ref kk) (putF "day" (.int d) [])))) xd (nins _) nx
    have le := length_putF ("places" : Str) (V.ref pp) (putF ("kinds" : Str) (V.ref kk) (putF ("day" : Str) (V.int d) []))
    generalize hfs : putF ("places" : Str) (V.ref pp) (putF ("kinds" : Str) (V.ref kk) (putF ("day" : Str) (V.int d) [])) = fs at ge le ⊢
    have f0 : ∀ f, f ∉ nmF → fs.lookup f = none := by rw [← hfs]; exact noF (noF (noF (fun _ _ => rfl) (by decide +kernel)) (by decide +kernel)) (by decide +kernel)
    have f3 : fs.lookup ("places" : Str) = some (V.ref pp) := by rw [← hfs, lookup_putF, if_pos rfl]
    have f2 : fs.lookup ("kinds" : Str) = some (V.ref kk) := by rw [← hfs, lookup_putF, if_neg (by decide +kernel), lookup_putF, if_pos rfl]
    have f1 : fs.lookup ("day" : Str) = some (V.int d) := by rw [← hfs, lookup_putF, if_neg (by decide +kernel), lookup_putF, if_neg (by decide +kernel), lookup_putF, if_pos rfl]
    have tk2 := tup_ins (o := .ins M dx fs) xd (gd.tup gc.tab tk)
    have tp2 := tup_ins (o := .ins M dx fs) xd ep
    -- roads
    have okr := ok.r.perm pp' pk
    refine ⟨_, rfl, _, rfl, _, rfl, x, M, dx, _, _, rfl, upd_same, T.cl, T.n3, f3, _, rfl, x, M, dx, _, _, rfl, upd_same, T.cl, T.n2, f2,
      ro, pp, kk, d, ps', ks', rs, xs, rfl, ge.sqL hP0 hRo, Paired.map' hG (fun r v m => m.keep (KeepT.grew ge hP0)), SqT.of tp2, SqT.of tk2, okr, ge.tab, fun Hf rr rs' ys gf kr ar nr er hm => ?_⟩
    have xf := gf.get ge.tab upd_same (nins _)
    refine ⟨_, rfl, x, M, dx, _, rfl, xf, T.cl, T.n4, by omega, ?_⟩
    have gg := (ge.trans gf).write (o := .ins M dx (putF "roads" (.ref rr) fs)) xf (nins _) nx
    have lg := length_putF ("roads" : Str) (V.ref rr) fs
    have fg4 : (putF ("roads" : Str) (V.ref rr) fs).lookup ("roads" : Str) = some (V.ref rr) := by rw [lookup_putF, if_pos rfl]
    have fg3 : (putF ("roads" : Str) (V.ref rr) fs).lookup ("places" : Str) = some (V.ref pp) := by rw [lookup_putF, if_neg (by decide +kernel)]; exact f3
    have fg2 : (putF ("roads" : Str) (V.ref rr) fs).lookup ("kinds" : Str) = some (V.ref kk) := by rw [lookup_putF, if_neg (by decide +kernel)]; exact f2
    have fg1 : (putF ("roads" : Str) (V.ref rr) fs).lookup ("day" : Str) = some (V.int d) := by rw [lookup_putF, if_neg (by decide +kernel)]; exact f1
    have fg0 := noF (v := V.ref rr) f0 (show ("roads" : Str) ∈ nmF by decide +kernel)
    generalize hgs : putF ("roads" : Str) (V.ref rr) fs = gs at gg lg fg0 fg1 fg2 fg3 fg4 ⊢
    have tr3 := tup_ins (o := .ins M dx gs) xf er
    have tk3 := tup_ins (o := .ins M dx gs) xf (gf.tup ge.tab tk2)
    have tp3 := tup_ins (o := .ins M dx gs) xf (gf.tup ge.tab tp2)
    have hm3 : Paired (RoadAt K (L2.upd Hf x (.ins M dx gs))) rs' ys := Paired.map' hm fun r v m => m.ins xf
    have lys : ys.length ≤ 60 := by rw [← Paired.len hm3, kr.len]; exact ok.r.len
    have ndr := kr.nodup ok.r.nd
    generalize hHg : L2.upd Hf x (.ins M dx gs) = Hg at gg tr3 tk3 tp3 hm3 ⊢
    have xg : Hg x = some (.ins M dx gs) := by rw [← hHg]; exact upd_same
    -- _roads_by_name
    refine ⟨_, rfl, x, M, dx, _, _, rfl, xg, T.cl, T.n4, fg4, rr, rfl, ⟨_, SqT.of tr3⟩, fun D nD => dc_tup (K := K) (a := rr) (xs := ys)
      (fun i H1 => Grew P Hg H1 ∧ ∃ kvs, H1 D = some (.dK kvs) ∧ kvs.length ≤ i ∧ (∀ (j : Nat) r v, j < i → rs'[j]? = some r → ys[j]? = some v → valV kvs (.inr r.name) = some v) ∧ ∀ z : Str, (∀ r ∈ rs'.take i, r.name ≠ z) → valV kvs (.inr z) = none)
      ⟨Grew.new gg.tab nD, [], upd_same, Nat.le_refl _, fun j r v h => absurd h (Nat.not_lt_zero _), fun z _ => rfl⟩ (fun i H1 _ p => SqT.of (p.1.tup gg.tab tr3)) (fun i y H1 hy p => ?_) (fun Hh p => ?_)⟩
    · obtain ⟨g, kvs, hD, hl, hin, hno⟩ := p
      obtain ⟨r, hri, m⟩ := Paired.at hm3 hy
      have hi : i < ys.length := (List.getElem?_eq_some_iff.mp hy).1
      have m1 := m.grew g gg.tab
      obtain ⟨t, q, h, rfl, et, _⟩ := m1
      refine ⟨rfl, _, rfl, t, _, 0, .str r.name, rfl, rfl, SqT.of et, rfl, _, rfl, kvs, .inr r.name, rfl, hD, ?_, g.write hD (fun _ z => by cases z) nD, _, upd_same, ?_, fun j r' v' hj hr' hv' => ?_, fun z hz => ?_⟩
      · rw [sizeLine_eq]; omega
      · exact Nat.le_trans (length_putK kvs (.inr r.name) _) (by omega)
      · rw [valV_put]
        by_cases e : j = i
        · subst e
          rw [hri] at hr'
          rw [hy] at hv'
          cases hr'; cases hv'
          rw [if_pos rfl]
        · have ne : ¬ (Sum.inr r'.name : Key) = .inr r.name := fun z => by
            injection z with z
            have hri' := (List.getElem?_eq_some_iff.mp hri)
            have hrj' := (List.getElem?_eq_some_iff.mp hr')
            obtain ⟨a1, a2⟩ := hri'
            obtain ⟨b1, b2⟩ := hrj'
            refine absurd ?_ (List.pairwise_iff_getElem.mp ndr j i (by rw [List.length_map]; exact b1) (by rw [List.length_map]; exact a1) (by omega))
            rw [List.getElem_map, List.getElem_map, a2, b2]
            exact z
          rw [if_neg ne]
          exact hin j r' v' (by omega) hr' hv'
      · rw [valV_put, if_neg ?_]
        · exact hno z fun r' hr' => hz r' (by rw [List.take_succ]; exact List.mem_append_left _ hr')
        · intro e
          injection e with e
          exact hz r (by rw [List.take_succ, hri]; exact List.mem_append_right _ (List.mem_singleton.mpr rfl)) e.symm
    · obtain ⟨gh, kvs, hD, hl, hin, hno⟩ := p
      have xh := gh.get gg.tab xg (nins _)
      refine ⟨_, rfl, x, M, dx, _, rfl, xh, T.cl, T.n5, by omega, ?_⟩
      have gi := (gg.trans gh).write (o := .ins M dx (putF "_roads_by_name" (.ref D) gs)) xh (nins _) nx
      have li := length_putF ("_roads_by_name" : Str) (V.ref D) gs
      have fi5 : (putF ("_roads_by_name" : Str) (V.ref D) gs).lookup ("_roads_by_name" : Str) = some (V.ref D) := by rw [lookup_putF, if_pos rfl]
      have fi4 : (putF ("_roads_by_name" : Str) (V.ref D) gs).lookup ("roads" : Str) = some (V.ref rr) := by rw [lookup_putF, if_neg (by decide +kernel)]; exact fg4
      have fi3 : (putF ("_roads_by_name" : Str) (V.ref D) gs).lookup ("places" : Str) = some (V.ref pp) := by rw [lookup_putF, if_neg (by decide +kernel)]; exact fg3
      have fi2 : (putF ("_roads_by_name" : Str) (V.ref D) gs).lookup ("kinds" : Str) = some (V.ref kk) := by rw [lookup_putF, if_neg (by decide +kernel)]; exact fg2
      have fi1 : (putF ("_roads_by_name" : Str) (V.ref D) gs).lookup ("day" : Str) = some (V.int d) := by rw [lookup_putF, if_neg (by decide +kernel)]; exact fg1
      have fi0 := noF (v := V.ref D) fg0 (show ("_roads_by_name" : Str) ∈ nmF by decide +kernel)
      generalize his : putF ("_roads_by_name" : Str) (V.ref D) gs = is at gi li fi0 fi1 fi2 fi3 fi4 fi5 ⊢
      have hmh : Paired (RoadAt K Hh) rs' ys := Paired.map' hm3 fun r v m => m.grew gh gg.tab
      have dR : DictR K (L2.upd Hh x (.ins M dx is)) D rs' := by
        refine DictR.ins xh ⟨kvs, hD, fun r hr => ?_, fun z hz => hno z fun r hr => hz r (List.mem_of_mem_take hr)⟩
        obtain ⟨j, hj, ej⟩ := List.getElem_of_mem hr
        have hj' : rs'[j]? = some r := List.getElem?_eq_some_iff.mpr ⟨hj, ej⟩
        obtain ⟨v, hv, m⟩ := Paired.to hmh hj'
        exact ⟨v, hin j r v (List.getElem?_eq_some_iff.mp hv).1 hj' hv, m⟩
      have tr4 := tup_ins (o := .ins M dx is) xh (gh.tup gg.tab tr3)
      have tk4 := tup_ins (o := .ins M dx is) xh (gh.tup gg.tab tk3)
      have tp4 := tup_ins (o := .ins M dx is) xh (gh.tup gg.tab tp3)
      have hm4 : Paired (RoadAt K (L2.upd Hh x (.ins M dx is))) rs' ys := Paired.map' hmh fun r v m => m.ins xh
      generalize hHi : L2.upd Hh x (.ins M dx is) = Hi at gi tr4 tk4 tp4 hm4 dR ⊢
      have xi : Hi x = some (.ins M dx is) := by rw [← hHi]; exact upd_same
      -- bars
      refine ⟨_, rfl, _, rfl, x, M, dx, _, _, rfl, xi, T.cl, T.n5, fi5, ba, D, rs', bs, zs, rfl, gi.sqL hP0 hBa, Paired.map' hB (fun b v m => m.grew gi hP0), dR, ok.b.kept kr, gi.tab, fun Hj bb bs' zs' gj pb ab nb eb hz => ?_⟩
      have xj := gj.get gi.tab xi (nins _)
      refine ⟨_, rfl, x, M, dx, _, rfl, xj, T.cl, T.n6, by omega, ?_⟩
      have gk := (gi.trans gj).write (o := .ins M dx (putF "bars" (.ref bb) is)) xj (nins _) nx
      have lk := length_putF ("bars" : Str) (V.ref bb) is
      have fk6 : (putF ("bars" : Str) (V.ref bb) is).lookup ("bars" : Str) = some (V.ref bb) := by rw [lookup_putF, if_pos rfl]
      have fk5 : (putF ("bars" : Str) (V.ref bb) is).lookup ("_roads_by_name" : Str) = some (V.ref D) := by rw [lookup_putF, if_neg (by decide +kernel)]; exact fi5
      have fk4 : (putF ("bars" : Str) (V.ref bb) is).lookup ("roads" : Str) = some (V.ref rr) := by rw [lookup_putF, if_neg (by decide +kernel)]; exact fi4
      have fk3 : (putF ("bars" : Str) (V.ref bb) is).lookup ("places" : Str) = some (V.ref pp) := by rw [lookup_putF, if_neg (by decide +kernel)]; exact fi3
      have fk2 : (putF ("bars" : Str) (V.ref bb) is).lookup ("kinds" : Str) = some (V.ref kk) := by rw [lookup_putF, if_neg (by decide +kernel)]; exact fi2
      have fk1 : (putF ("bars" : Str) (V.ref bb) is).lookup ("day" : Str) = some (V.int d) := by rw [lookup_putF, if_neg (by decide +kernel)]; exact fi1
      have fk0 := noF (v := V.ref bb) fi0 (show ("bars" : Str) ∈ nmF by decide +kernel)
      generalize hjs : putF ("bars" : Str) (V.ref bb) is = js at gk lk fk0 fk1 fk2 fk3 fk4 fk5 fk6 ⊢
      have tb5 := tup_ins (o := .ins M dx js) xj eb
      have tr5 := tup_ins (o := .ins M dx js) xj (gj.tup gi.tab tr4)
      have tk5 := tup_ins (o := .ins M dx js) xj (gj.tup gi.tab tk4)
      have tp5 := tup_ins (o := .ins M dx js) xj (gj.tup gi.tab tp4)
      have hm5 : Paired (RoadAt K (L2.upd Hj x (.ins M dx js))) rs' ys := Paired.map' hm4 fun r v m => (m.grew gj gi.tab).ins xj
      have hz5 : Paired (GBar (L2.upd Hj x (.ins M dx js))) bs' zs' := Paired.map' hz fun b v m => m.ins xj
      have dR5 : DictR K (L2.upd Hj x (.ins M dx js)) D rs' := (dR.grew gj gi.tab).ins xj
      have lzs : zs'.length ≤ 40 := by rw [← Paired.len hz5, pb.length_eq]; exact ok.b.len
      generalize hHk : L2.upd Hj x (.ins M dx js) = Hk at gk tb5 tr5 tk5 tp5 hm5 hz5 dR5 ⊢
      have xk : Hk x = some (.ins M dx js) := by rw [← hHk]; exact upd_same
      -- _barred
      refine ⟨_, rfl, x, M, dx, _, _, rfl, xk, T.cl, T.n6, fk6, bb, rfl, ⟨_, SqT.of tb5⟩, fun D2 nD2 => dcT_tup (K := K) (a := bb) (xs := zs')
        (fun i H1 => Grew P Hk H1 ∧ ∃ kvs : List (List Key × V), H1 D2 = some (.dT kvs) ∧ kvs.length ≤ i ∧ ∀ a b : Str, (valV kvs [.inr a, .inr b]).isSome = true ↔ (a, b) ∈ bs'.take i)
        ⟨Grew.new gk.tab nD2, [], upd_same, Nat.le_refl _, fun a b => by simp [valV_nil]⟩ (fun i H1 _ p => SqT.of (p.1.tup gk.tab tb5)) (fun i y H1 hy p => ?_) (fun Hl p => ?_)⟩
      · obtain ⟨g, kvs, hD, hl, hin⟩ := p
        obtain ⟨b, hbi, m⟩ := Paired.at hz5 hy
        have hi : i < zs'.length := (List.getElem?_eq_some_iff.mp hy).1
        obtain ⟨t, rfl, et⟩ := m.grew g gk.tab
        refine ⟨rfl, _, rfl, kvs, [.inr b.1, .inr b.2], t, rfl, et, hD, ?_, g.write hD (fun _ z => by cases z) nD2, _, upd_same, ?_, fun a' b' => ?_⟩
        · rw [sizeLine_eq]; omega
        · have := length_putK kvs ([.inr b.1, .inr b.2] : List Key) (V.bl true)
          omega
        · rw [valV_put, List.take_succ, hbi, List.mem_append]
          by_cases e : ([.inr a', .inr b'] : List Key) = [.inr b.1, .inr b.2]
          · rw [if_pos e]
            have e1 : a' = b.1 := Sum.inr.inj (List.cons.inj e).1
            have e2 : b' = b.2 := Sum.inr.inj (List.cons.inj (List.cons.inj e).2).1
            subst e1 e2
            exact ⟨fun _ => .inr (List.mem_singleton.mpr rfl), fun _ => rfl⟩
          · rw [if_neg e, hin a' b']
            refine ⟨.inl, fun h => h.elim id fun h => ?_⟩
            have h' : (a', b') = b := List.mem_singleton.mp h
            subst h'
            exact absurd rfl e
      · obtain ⟨gl, kvs, hD, hl, hin⟩ := p
        have lb : bs'.length = zs'.length := Paired.len hz5
        rw [← lb, List.take_length] at hin
        have xl := gl.get gk.tab xk (nins _)
        refine ⟨_, rfl, x, M, dx, _, rfl, xl, T.cl, T.n7, by omega, ?_⟩
        have gm := (gk.trans gl).write (o := .ins M dx (putF "_barred" (.ref D2) js)) xl (nins _) nx
        refine k _ ks' ps' rs' bs' gm pk ak pp' ap kr ar pb ab ⟨dx, putF "_barred" (.ref D2) js, kk, pp, rr, D, bb, D2, ys, zs', upd_same, ?_⟩
        constructor
        · exact noF fk0 (by decide +kernel)
        · rw [lookup_putF, if_neg (by decide +kernel)]; exact fk1
        · rw [lookup_putF, if_neg (by decide +kernel)]; exact fk2
        · rw [lookup_putF, if_neg (by decide +kernel)]; exact fk3
        · rw [lookup_putF, if_neg (by decide +kernel)]; exact fk4
        · rw [lookup_putF, if_neg (by decide +kernel)]; exact fk5
        · rw [lookup_putF, if_neg (by decide +kernel)]; exact fk6
        · rw [lookup_putF, if_pos rfl]
        · exact tup_ins xl (gl.tup gk.tab tk5)
        · exact tup_ins xl (gl.tup gk.tab tp5)
        · exact tup_ins xl (gl.tup gk.tab tr5)
        · exact Paired.map' hm5 fun r v m => (m.grew gl gk.tab).ins xl
        · exact (dR5.grew gl gk.tab).ins xl
        · exact tup_ins xl (gl.tup gk.tab tb5)
        · exact Paired.map' hz5 fun b v m => (m.grew gl gk.tab).ins xl
        · exact ⟨kvs, by rw [upd_ne (insNe xl hD (fun _ _ _ z => by cases z))]; exact hD, hin⟩
end
end W

set_option Elab.async false
set_option linter.all false
set_option maxRecDepth 100000
set_option maxHeartbeats 400000
namespace W
open PySem PySem.Spec PyProof.Rows L2 GxR MyG
abbrev sRow : Stmt := top 63
abbrev sNumbers : Stmt := top 64
/-- the drawn numbers are small -/
def Sm (ns : List Int) : Prop := ∀ n ∈ ns, 0 ≤ n ∧ n < 1009
theorem Sm.snoc {ns : List Int} {n : Int} (h : Sm ns) (h1 : 0 ≤ n) (h2 : n < 1009) : Sm (ns ++ [n]) := fun z hz => by
  rcases List.mem_append.mp hz with hz | hz
  · exact h z hz
  · rw [List.mem_singleton.mp hz]; exact ⟨h1, h2⟩
theorem mod1009 (a : Int) : 0 ≤ a % 1009 ∧ a % 1009 < 1009 := by omega
def spRow (P : Addr) : Sp := fun vs H Q _ => ∃ (c : Int) (m : Nat), vs = [.int c, .int m] ∧ m ≤ 1000 ∧ TabG H P ∧ ∀ H' p ns, Grew P H H' → H p = none → H' p = some (.lst (ns.map V.int)) → ns.length = m → Sm ns → Q (.ref p) H'
def spNumbers (K : PySem.W.Frag) (P : Addr) : Sp := fun vs H Q _ => ∃ (a : Addr) (zs : List Int) (m : Nat), vs = [.ref a, .int m] ∧ SqL K H a (zs.map V.int) ∧ zs.length ≤ 63 ∧ m ≤ 900 ∧ TabG H P ∧
  ∀ H' p ns, Grew P H H' → H p = none → H' p = some (.lst (ns.map V.int)) → ns.length = m → Sm ns → Q (.ref p) H'
section
variable {Pg : Program} {w : World} {K : PySem.W.Frag} {mg : Str → Option Value} {base : Heap} {C P : Addr}
abbrev nRow : List Str := ["cell", "many", "row", "rest", "mixed", "k"]
theorem scRow : FnScope nRow ["cell", "many"] (defScope sRow) := ⟨rfl, rfl, rfl, by decide +kernel, rfl, by decide +kernel, by decide +kernel⟩
theorem ok_row {f : Addr} {fd : FuncData} (F : Fun K "_law_row" "_law_row" sRow f fd) (ha : mg "abs" = none) (hi : mg "int" = none) (hr' : mg "range" = none) : FnOk Pg w K mg base CX0 1 f fd ["cell", "many"] (spRow P) := by
  refine F.ok scRow (fun vs H Q E h => ?_) (fun cdv A outer s H vs Q E hr h => ?_)
  · obtain ⟨c, m, rfl, _⟩ := h
    rfl
  · obtain ⟨c, m, rfl, hm, hP, k⟩ := h
    refine ⟨_, pss_cons (ps_set (i := 2) scRow.nd rfl (Or.inl rfl) (pe_lst pa_nil))
      (pss_cons (ps_set (i := 3) scRow.nd rfl (Or.inl rfl) (pe_callB call_abs (by rfl) ha (by decide +kernel) (pa_cons (pv 0) pa_nil)))
      (pss_cons (ps_set (i := 4) scRow.nd rfl (Or.inl rfl) (pe_op op_mod (pe_callTy call_int1 (by rfl) hi (by decide +kernel) (pa_cons (pe_op op_add (pe_op op_mul (pv 3) pe_int) pe_int) pa_nil)) pe_int))
      (pss_cons (ps_for PassesOwn.never rfl (pi_range1 rfl hr' (pa_cons (pv 1) pa_nil)) (pg_name (i := 5) scRow.nd rfl (Or.inl rfl))
        (pss_cons (ps_set (i := 4) scRow.nd rfl (Or.inl rfl) (pe_op op_mod (pe_callTy call_int1 (by rfl) hi (by decide +kernel) (pa_cons (pe_op op_add (pe_op op_mul (pv 4) pe_int) (pe_op op_mul pe_int (pe_op op_add (pv 5) pe_int))) pa_nil)) pe_int))
        (pss_one (ps_if (pt_cmpR op_ge (pe_callB call_abs (by rfl) ha (by decide +kernel) (pa_cons (pv 0) pa_nil)) (pe_op op_pow pe_int pe_int) (nomark _))
          (pss_cons (ps_expr (pe_bm PySem.F.plainAttrs_list PySem.F.slot_list_append PySem.F.type_list_append mt_append (pv 2) (pa_cons (pe_op op_mod (pe_callTy call_int1 (by rfl) hi (by decide +kernel) (pa_cons (pv 3) pa_nil)) pe_int) pa_nil)))
            (pss_one (ps_set (i := 3) scRow.nd rfl (Or.inl rfl) (pe_op op_fdiv (pv 3) pe_int))))
          (pss_one (ps_expr (pe_bm PySem.F.plainAttrs_list PySem.F.slot_list_append PySem.F.type_list_append mt_append (pv 2) (pa_cons (pe_op op_mod (pe_callTy call_int1 (by rfl) hi (by decide +kernel) (pa_cons (pe_op op_fdiv (pv 4) pe_int) pa_nil)) pe_int) pa_nil))))))))
      (pss_one (ps_ret (pv 2)))))), ?_⟩
    refine ⟨Nat.zero_le _, fun p np => ?_⟩
    refine ⟨_, rfl, _, rfl, ?_⟩
    refine ⟨_, rfl, _, _, rfl, rfl, .inr ⟨by decide, by decide⟩, _, _, rfl, rfl, .inl ⟨_, rfl, _, _, rfl, rfl, (show (0 : Int) < 2147483647 by decide), ?_⟩⟩
    refine ⟨_, rfl, m, rfl, by omega, by omega, for_range (n := m) (fun i σ H' => ∃ r mx kv, ∃ ns : List Int, σ = [some (.int c), some (.int m), some (.ref p), some (.int r), some (.int mx), kv] ∧ Grew P H H' ∧ H' p = some (.lst (ns.map V.int)) ∧ ns.length = i ∧ Sm ns)
      ⟨_, _, none, [], rfl, Grew.new hP np, upd_same, rfl, fun n hn => by cases hn⟩ ?_ ?_⟩
    · rintro i σ H' hi ⟨r, mx, kv, ns, rfl, g, hp, hl, hsm⟩
      refine ⟨_, rfl, _, _, rfl, rfl, .inr ⟨by decide, by decide⟩, _, rfl, _, _, rfl, rfl, _, _, rfl, rfl, .inl ⟨by decide, by decide⟩, _, _, rfl, rfl, .inl ⟨_, rfl, _, _, rfl, rfl, (show (0 : Int) < 2147483629 by decide), ?_⟩⟩
      refine ⟨_, rfl, _, rfl, _, _, rfl, rfl, ⟨by decide, by decide, by decide⟩, _, _, rfl, rfl, _, rfl, ?_⟩
      have hlen : (ns.map V.int).length < sizeLine := by rw [List.length_map, hl, sizeLine_eq]; omega
      refine ite2 (fun _ => ?_) (fun _ => ?_)
      · refine ⟨_, rfl, .inl ⟨rfl, _, SqL.of hp⟩, _, rfl, .inl ⟨_, rfl, _, _, rfl, rfl, (show (0 : Int) < 1009 by decide), p, _, _, rfl, rfl, hp, hlen, ?_⟩⟩
        refine ⟨_, rfl, _, _, rfl, rfl, ⟨by decide, by decide⟩, _, _, _, ns ++ [_], rfl, g.write hp (fun _ z => by cases z) np, by rw [upd_same, List.map_append]; rfl, by rw [List.length_append, hl]; rfl, hsm.snoc (mod1009 _).1 (mod1009 _).2⟩
      · refine ⟨_, rfl, .inl ⟨rfl, _, SqL.of hp⟩, _, rfl, _, _, rfl, rfl, ⟨by decide, by decide⟩, .inl ⟨_, rfl, _, _, rfl, rfl, (show (0 : Int) < 1009 by decide), p, _, _, rfl, rfl, hp, hlen, ?_⟩⟩
        refine ⟨_, _, _, ns ++ [_], rfl, g.write hp (fun _ z => by cases z) np, by rw [upd_same, List.map_append]; rfl, by rw [List.length_append, hl]; rfl, hsm.snoc (mod1009 _).1 (mod1009 _).2⟩
    · rintro σ H' ⟨r, mx, kv, ns, rfl, g, hp, hl, hsm⟩
      exact ⟨_, rfl, k H' p ns g np hp hl hsm⟩
end
end W

set_option Elab.async false
set_option linter.all false
set_option maxRecDepth 100000
set_option maxHeartbeats 400000
namespace W
open PySem PySem.Spec PyProof.Rows L2 GxR MyG
theorem cutV_pre (xs : List V) (n : Nat) : cutV xs none (some (n : Int)) = xs.take n := by
  unfold cutV
  rw [HT.sIx_none, HT.sIx_nat, List.drop_zero, Nat.sub_zero]
  rcases Nat.le_total n xs.length with h | h
  · rw [Nat.min_eq_left h]
  · rw [Nat.min_eq_right h, List.take_length, List.take_of_length_le h]
theorem Sm.take {ns : List Int} (h : Sm ns) (k : Nat) : Sm (ns.take k) := fun z hz => h z (List.mem_of_mem_take hz)
theorem Sm.app {ns ms : List Int} (h : Sm ns) (h2 : Sm ms) : Sm (ns ++ ms) := fun z hz => by
  rcases List.mem_append.mp hz with hz | hz
  · exact h z hz
  · exact h2 z hz
section
variable {Pg : Program} {w : World} {K : PySem.W.Frag} {mg : Str → Option Value} {base : Heap} {C P : Addr}
abbrev nNumbers : List Str := ["script", "many", "cells", "each", "numbers", "cell", "number"]
theorem scNumbers : FnScope nNumbers ["script", "many"] (defScope sNumbers) := ⟨rfl, rfl, rfl, by decide +kernel, rfl, by decide +kernel, by decide +kernel⟩
theorem ok_numbers {f fR : Addr} {fd fdR : FuncData} (F : Fun K "_law_numbers" "_law_numbers" sNumbers f fd) (hl : mg "len" = none) (hx : mg "max" = none)
    (GR : FnOk Pg w K mg base CX0 1 fR fdR ["cell", "many"] (spRow P)) (gR : mg "_law_row" = some (.ref fR)) (kR : PySem.W.keepIn K (.ref fR) = true) (bR : Binds K fdR ["cell", "many"] []) :
    FnOk Pg w K mg base CX0 2 f fd ["script", "many"] (spNumbers K P) := by
  refine F.ok scNumbers (fun vs H Q E h => ?_) (fun cdv A outer s H vs Q E hr h => ?_)
  · obtain ⟨a, zs, m, rfl, _⟩ := h
    rfl
  · obtain ⟨a, zs, m, rfl, hS, hz, hm, hP, k⟩ := h
    refine ⟨_, pss_cons (ps_set (i := 2) scNumbers.nd rfl (Or.inl rfl) (pe_slice sl_list (pv 0) po_none (po_some pe_int)))
      (pss_cons (ps_set (i := 3) scNumbers.nd rfl (Or.inl rfl) (pe_op op_add pe_int (pe_op op_fdiv (pv 1) (pe_callB (call_max2 rfl) (by rfl) hx (by decide +kernel) (pa_cons pe_int (pa_cons (pe_callB call_len_seq (by rfl) hl PySem.boot_len (pa_cons (pv 2) pa_nil)) pa_nil))))))
      (pss_cons (ps_set (i := 4) scNumbers.nd rfl (Or.inl rfl) (pe_lst pa_nil))
      (pss_cons (ps_for PassesOwn.never rfl (pi_list (pv 2)) (pg_name (i := 5) scNumbers.nd rfl (Or.inl rfl))
        (pss_one (ps_for PassesOwn.never rfl (pi_list (pe_call GR hr (by rfl) gR kR bR .nil pass0 (pa_cons (pv 5) (pa_cons (pv 3) pa_nil)))) (pg_name (i := 6) scNumbers.nd rfl (Or.inl rfl))
          (pss_one (ps_expr (pe_bm PySem.F.plainAttrs_list PySem.F.slot_list_append PySem.F.type_list_append mt_append (pv 4) (pa_cons (pv 6) pa_nil)))))))
      (pss_cons (ps_while PassesOwn.never (pt_cmpR op_lt (pe_callB call_len_seq (by rfl) hl PySem.boot_len (pa_cons (pv 4) pa_nil)) (pv 1) (nomark _))
          (pss_one (ps_expr (pe_bm PySem.F.plainAttrs_list PySem.F.slot_list_append PySem.F.type_list_append mt_append (pv 4) (pa_cons pe_int pa_nil)))))
      (pss_one (ps_ret (pe_slice sl_list (pv 4) po_none (po_some (pv 1))))))))), ?_⟩
    -- cells
    refine ⟨_, rfl, _, rfl, a, _, rfl, hS, fun c nc => ?_⟩
    have ec : cutV (zs.map V.int) none (some 63) = zs.map V.int := by
      have q := cutV_pre (zs.map V.int) 63
      rw [List.take_of_length_le (by rw [List.length_map]; exact hz)] at q
      exact q
    rw [ec]
    have g1 := Grew.new hP (o := .lst (zs.map V.int)) nc
    -- each
    refine ⟨_, rfl, _, rfl, c, _, rfl, .inl (SqL.of upd_same), 1, _, rfl, _, _, rfl, rfl, ?_, _, _, rfl, rfl, ?_⟩
    · rw [List.length_map]
      constructor
      · split <;> omega
      · split <;> omega
    rw [List.length_map]
    generalize hdv : (if ((zs.length : Nat) : Int) > 1 then ((zs.length : Nat) : Int) else 1) = dv
    have hdp : 0 < dv := by rw [← hdv]; split <;> omega
    obtain ⟨e, he, he2⟩ : ∃ e : Nat, 1 + (m : Int) / dv = (e : Int) ∧ e ≤ 1000 := by
      have h1 : 0 ≤ (m : Int) / dv := Int.ediv_nonneg (by omega) (by omega)
      have h2 : (m : Int) / dv ≤ m := Int.ediv_le_self _ (by omega)
      exact ⟨(1 + (m : Int) / dv).toNat, by omega, by omega⟩
    refine ⟨Nat.zero_le _, fun p np => ?_⟩
    have g2 := g1.put (o := .lst []) np
    have hc : L2.upd (L2.upd H c (.lst (zs.map V.int))) p (.lst []) c = some (.lst (zs.map V.int)) := (Grew.new g1.tab np).lst g1.tab upd_same
    have ncp : c ≠ p := ne_of_none upd_same np
    refine ⟨_, rfl, c, rfl, ⟨_, SqL.of hc⟩, for_list (K := K) (a := c) (xs := zs.map V.int) (fun i σ H' => ∃ v5 v6, ∃ ns : List Int, σ = [some (.ref a), some (.int m), some (.ref c), some (.int (1 + (m : Int) / dv)), some (.ref p), v5, v6] ∧ Grew P H H' ∧ H' c = some (.lst (zs.map V.int)) ∧ H' p = some (.lst (ns.map V.int)) ∧ ns.length ≤ 1000 * i ∧ Sm ns)
      ⟨none, none, [], rfl, g2, hc, upd_same, Nat.zero_le _, fun n hn => by cases hn⟩ (fun i σ H' _ ⟨_, _, _, _, _, h, _⟩ => SqL.of h) ?_ ?_⟩
    · rintro i y σ H' hi ⟨v5, v6, ns, rfl, g, hcc, hp, hln, hsm⟩
      obtain ⟨z, rfl⟩ : ∃ z, y = V.int z := by
        rw [List.getElem?_map] at hi
        cases q : zs[i]? with
        | none => rw [q] at hi; cases hi
        | some z => rw [q] at hi; exact ⟨z, (Option.some.inj hi).symm⟩
      have hi63 : i < 63 := by
        have q := (List.getElem?_eq_some_iff.mp hi).1
        rw [List.length_map] at q
        omega
      refine ⟨_, rfl, _, rfl, z, e, by rw [he]; rfl, he2, g.tab, fun H2 q rs gr nq eq hrl hrs => ?_⟩
      have np2 : p ≠ q := ne_of_none hp nq
      have np0 : H p = none := (Grew.new hP nc).free np
      refine ⟨q, rfl, ⟨_, SqL.of eq⟩, for_list (K := K) (a := q) (xs := rs.map V.int) (fun j σ H' => ∃ v5 v6, σ = [some (.ref a), some (.int m), some (.ref c), some (.int (1 + (m : Int) / dv)), some (.ref p), v5, v6] ∧ Grew P H H' ∧ H' c = some (.lst (zs.map V.int)) ∧ H' q = some (.lst (rs.map V.int)) ∧ H' p = some (.lst ((ns ++ rs.take j).map V.int)))
        ⟨_, _, rfl, g.trans gr, gr.lst g.tab hcc, eq, by rw [List.take_zero, List.append_nil]; exact gr.lst g.tab hp⟩ (fun j σ H' _ ⟨_, _, _, _, _, h, _⟩ => SqL.of h) ?_ ?_⟩
      · rintro j y σ H3 hj ⟨w5, w6, rfl, g3, hc3, hq3, hp3⟩
        obtain ⟨z2, hz2, rfl⟩ : ∃ z, rs[j]? = some z ∧ y = V.int z := by
          rw [List.getElem?_map] at hj
          cases q : rs[j]? with
          | none => rw [q] at hj; cases hj
          | some z => rw [q] at hj; exact ⟨z, rfl, (Option.some.inj hj).symm⟩
        refine ⟨_, rfl, .inl ⟨rfl, _, SqL.of hp3⟩, _, rfl, p, _, _, rfl, rfl, hp3, ?_, _, _, rfl, g3.write hp3 (fun _ z => by cases z) np0, ?_, ?_, ?_⟩
        · rw [List.length_map, List.length_append, List.length_take, sizeLine_eq]; omega
        · rw [upd_ne ncp]; exact hc3
        · rw [upd_ne np2.symm]; exact hq3
        · rw [upd_same, List.take_succ, hz2]; simp
      · rintro σ H3 ⟨w5, w6, rfl, g3, hc3, hq3, hp3⟩
        rw [List.length_map, List.take_length] at hp3
        exact ⟨_, _, ns ++ rs, rfl, g3, hc3, hp3, by rw [List.length_append]; omega, hsm.app hrs⟩
    · rintro σ H' ⟨v5, v6, ns, rfl, g, hcc, hp, hln, hsm⟩
      rw [List.length_map] at hln
      have np0 : H p = none := (Grew.new hP nc).free np
      refine ⟨fun n σ H' => ∃ ns : List Int, σ = [some (.ref a), some (.int m), some (.ref c), some (.int (1 + (m : Int) / dv)), some (.ref p), v5, v6] ∧ Grew P H H' ∧ H' p = some (.lst (ns.map V.int)) ∧ ns.length ≤ 70000 ∧ Sm ns ∧ n = m - ns.length,
        ⟨_, ns, rfl, g, hp, by omega, hsm, rfl⟩, ?_⟩
      rintro n σ H3 ⟨ms, rfl, g3, hp3, hl3, hs3, rfl⟩
      refine ⟨_, rfl, p, _, rfl, .inl (SqL.of hp3), _, rfl, _, _, rfl, rfl, _, rfl, ?_⟩
      rw [List.length_map]
      refine ite2 (fun hlt => ?_) (fun hge => ?_)
      · have hlt' : (ms.length : Int) < m := of_decide_eq_true hlt
        refine ⟨_, fun _ _ h => h, _, rfl, .inl ⟨rfl, _, SqL.of hp3⟩, p, _, _, rfl, rfl, hp3, ?_, m - (ms.length + 1), by omega, ms ++ [0], rfl, g3.write hp3 (fun _ z => by cases z) np0, ?_, ?_, hs3.snoc (by decide) (by decide), ?_⟩
        · rw [List.length_map, sizeLine_eq]; omega
        · rw [upd_same, List.map_append]; rfl
        · rw [List.length_append, List.length_singleton]; omega
        · rw [List.length_append, List.length_singleton]
      · have hge' : ¬ (ms.length : Int) < m := fun z => hge (decide_eq_true z)
        refine ⟨_, rfl, _, rfl, _, rfl, p, _, rfl, SqL.of hp3, fun r nr => ?_⟩
        have ec2 := cutV_pre (ms.map V.int) m
        rw [ec2, ← List.map_take]
        exact k _ r (ms.take m) (g3.put nr) (g3.free nr) upd_same (by rw [List.length_take]; omega) (hs3.take m)
end
end W

set_option Elab.async false
set_option linter.all false
set_option maxRecDepth 100000
set_option maxHeartbeats 2000000
/-! a text times an int -/
namespace MyG
open PySem PySem.Spec PyProof.Rows L2
/-- n times the sign c -/
def sgns (c : Nat) (n : Nat) : Str := ⟨(List.replicate n c).toArray⟩
def rMulS (c : Nat) : R2 := fun x y H Q => ∃ n : Int, x = .str ⟨#[c]⟩ ∧ y = .int n ∧ 0 ≤ n ∧ n ≤ 1000 ∧ Q (.str (sgns c n.toNat)) H
theorem foldl_one (c : Nat) : ∀ (m : Nat) (a : Array Nat), (List.replicate m #[c]).foldl (· ++ ·) a = a ++ (List.replicate m c).toArray
  | 0, a => by simp
  | m + 1, a => by
    rw [List.replicate_succ, List.foldl_cons, foldl_one c m, List.replicate_succ]
    apply Array.toList_inj.mp
    simp
theorem mul_one {c : Nat} {n : Int} (h : 0 ≤ n) : Txt.mul ⟨#[c]⟩ n = sgns c n.toNat := by
  unfold Txt.mul sgns
  by_cases h1 : n < 1
  · rw [if_pos h1]
    have : n = 0 := by omega
    subst this
    rfl
  · rw [if_neg h1]
    by_cases h2 : n = 1
    · subst h2
      rfl
    · have e : (n == 1 || (⟨#[c]⟩ : Str).length == 0) = false := by
        have : (n == 1) = false := by simp [h2]
        rw [this]
        rfl
      rw [e, if_neg Bool.false_ne_true, foldl_one]
      simp
theorem op_mulS {X : Cx} {c : Nat} : OpR X (binaryOp .Mult) (rMulS c) := by
  intro pins s σ H x y v u Q I rx ry h
  obtain ⟨n, rfl, rfl, h0, h1, q⟩ := h
  obtain ⟨t, rfl⟩ := rx
  obtain ⟨t2, rfl⟩ := ry
  have hl : (⟨#[c]⟩ : Str).length = 1 := rfl
  refine SB.mul ⟨?_, fun h2 _ => ?_, fun h2 _ => ?_⟩ fun t' k => ⟨.str (sgns c n.toNat), H, I.tok k, ⟨t', by rw [mul_one h0]⟩, q⟩
  · have a1 : ¬ n < -(2 ^ 63 : Int) := by omega
    have a2 : ¬ n ≥ 2 ^ 63 := by omega
    rw [decide_eq_false a1, decide_eq_false a2]
    rfl
  · rw [hl]
    have : (1 : Int) ≤ (2 ^ 63 - 1) / n := by
      rw [Int.le_ediv_iff_mul_le (by omega)]
      omega
    omega
  · rw [hl, Nat.one_mul]
    unfold Builtin.Str.tooLong
    exact decide_eq_false (by have := sizeLine_eq; omega)
end MyG

set_option Elab.async false
set_option linter.all false
set_option maxRecDepth 100000
set_option maxHeartbeats 4000000
namespace W
open PySem PySem.Spec PyProof.Rows L2 GxR MyG
abbrev sIsNr : Stmt := top 38
def digC (c : Nat) : Bool := decide (c ∈ zDig.cps.toList)
def z0 : Str := "0"
def isNr (lim : Nat) (z : Str) : Bool := decide (1 ≤ z.length) && decide (z.length ≤ lim) && z.cps.toList.all digC && (decide (z = z0) || !decide (z.cps.toList.head? = some 48))
/-- the element of the generator: x in A -/
theorem elt_one {prog : Program} {w : World} {base : Heap} {mg : Str → Option Value} {scope : Scope} {x A : Str} {a : Str} {ta : Tok} {p1 p2 p3 : Pos} (hk : scope.kind = .function) (hl : scope.names.lookup x = some .local)
    (hA : scope.names.lookup A = some .globalImplicit) (hns : base.Ns mainGlobals mg) (eA : mg A = some (.str a ta))
    (hd : (x == ("__debug__" : Str)) = false := by decide) (hdA : (A == ("__debug__" : Str)) = false := by decide) :
    EltB prog w base scope x (.Compare (.Name x p1) [.In] [.Name A p2] p3) (fun c => decide (c ∈ a.cps.toList)) := by
  intro ce B' F c t z m hs hg hh hb hn hm
  have kf : ce.scope.kind = .function := by rw [hs]; exact hk
  have kx : ce.kindOf x = some .local := by show ce.scope.names.lookup x = _; rw [hs]; exact hl
  have nsz : ∀ (z' : Shared), Keeps z z' → z'.heap.Ns ce.globals mg := fun z' k => by
    rw [hg]
    obtain ⟨h', tk, rfl, kk⟩ := k
    exact (hns.keeps hb).keeps kk
  refine wpAny_Compare1 ?_
  refine wpAny_Name (wpAny_loadName_local kf kx hn hm ?_) hd
  refine Calls.Name_function_global kf (by show ce.scope.names.lookup A = _; rw [hs]; exact hA) (Calls.loadGlobal_global (nsz z (keeps_refl z)) eA ?_) hdA
  refine PyProof.Rows.in_str ?_
  rw [PySem.StrLaws.found_one a c]
  exact ⟨rfl, keeps_refl z⟩
def spIsNr (P : Addr) : Sp := fun vs H Q _ => ∃ (z : Str) (lim : Nat), vs = [.str z, .int (lim : Int)] ∧ z.length ≤ sizeLine ∧ TabG H P ∧ ∀ H', Tabbed P H H' → Q (.bl (isNr lim z)) H'
section
variable {Pg : Program} {w : World} {K : PySem.W.Frag} {mg : Str → Option Value} {base : Heap} {C P : Addr}
theorem scIsNr : FnScope ["word", "longest"] ["word", "longest"] (defScope sIsNr) := ⟨rfl, rfl, rfl, by decide +kernel, rfl, by decide +kernel, by decide +kernel⟩
theorem ok_isNr {f c : Addr} {fd : FuncData} {td : Tok} (F : FunD K "is_number" "is_number" (defArgs sIsNr) (defBody sIsNr) (defScope sIsNr) [.int 6] [] f fd) (hlen : mg "len" = none) (hall : mg "all" = none) (ed : mg "DIGITS" = some (.str zDig td)) (TB : TabB base mg c P) (hfc : fd.code = .ref c) (hns : base.Ns mainGlobals mg) :
    FnOk Pg w K mg base CX0 2 f fd ["word", "longest"] (spIsNr P) := by
  obtain ⟨oc, od, dV, kV, doc, pm, an, cdv, ct, osl, efd, lk, hcd, _, _⟩ := F.ex
  subst efd
  have ecd : cdv = .ref c := hfc
  subst ecd
  refine fn_of lk hcd scIsNr (fun vs H Q E h => ?_) (fun A outer s H vs Q E hr h => ?_)
  · obtain ⟨z, lim, rfl, _⟩ := h
    rfl
  · obtain ⟨z, lim, rfl, hz, hP, k⟩ := h
    refine ⟨_, PSs.nox (pss_cons (ps_if (pt_not (pt_chain op_le op_le pe_int (pe_callB call_len_str (by rfl) hlen PySem.boot_len (pa_cons (pv 0) pa_nil)) (pv 1)))
        (pss_one (ps_ret pe_bl)) pss_nil)
      (pss_one (ps_ret (pe_and (pe_allB (scope := _) (P := P) hr rfl hall TB rfl ⟨rfl, rfl, by decide +kernel, by decide +kernel, by decide +kernel, nofree (by decide +kernel)⟩ (pv 0) (elt_one rfl (by decide +kernel) (by decide +kernel) hns ed) (fun _ => rfl))
        (pe_one (pe_or (pe_cmpR op_eq (pv 0) pe_str (nomark _)) (pe_one (pe_cmpR op_ne (pe_ix ix_str (pv 0) pe_int (fun _ _ => rfl)) pe_str (nomark _))))))))), ?_⟩
    have zl : z.length = z.cps.toList.length := by simp [Str.length]
    refine ⟨_, rfl, z, rfl, hz, 1, _, rfl, rfl, _, rfl, ?_⟩
    have off : isNr lim z = false → Q (.bl false) H := fun e => by
      have := k H ⟨hP, fun _ _ => rfl⟩
      rw [e] at this
      exact this
    by_cases h1 : (1 : Int) ≤ (z.length : Int)
    · refine if_t (decide_eq_true h1) ⟨_, rfl, _, _, rfl, rfl, _, rfl, ?_⟩
      by_cases h2 : (z.length : Int) ≤ (lim : Int)
      · rw [decide_eq_true h2]
        refine iteF ?_
        have hp : 0 < z.cps.toList.length := by omega
        have e0 : atI z.cps.toList 0 = some (z.cps.toList[0]'hp) := atI_nat (j := 0) (List.getElem?_eq_getElem hp)
        refine ⟨_, rfl, z, rfl, hP, fun H2 hH => ⟨_, rfl, ?_⟩⟩
        have e := k H2 hH
        have b1 : decide (1 ≤ z.length) = true := decide_eq_true (by omega)
        have b2 : decide (z.length ≤ lim) = true := decide_eq_true (by omega)
        have ez : isNr lim z = (z.cps.toList.all digC && (decide (z = z0) || !decide (z.cps.toList.head? = some 48))) := by
          unfold isNr
          rw [b1, b2, Bool.true_and, Bool.true_and]
        rw [ez] at e
        refine ite2 (fun ha => ?_) (fun ha => ?_)
        · have ha' : z.cps.toList.all digC = true := ha
          rw [ha', Bool.true_and] at e
          refine ⟨_, rfl, rfl, _, rfl, ?_⟩
          by_cases h3 : z = z0
          · rw [decide_eq_true h3] at e
            have q : decide (V.str z = V.str z0) = true := decide_eq_true (congrArg V.str h3)
            exact if_t q e
          · rw [decide_eq_false h3, Bool.false_or] at e
            have q : decide (V.str z = V.str z0) = false := decide_eq_false fun e2 => h3 (by injection e2)
            refine if_f q ⟨_, rfl, z, 0, _, rfl, rfl, hz, e0, rfl, ?_⟩
            have q2 : (!decide (V.str ⟨#[z.cps.toList[0]'hp]⟩ = V.str z0)) = !decide (z.cps.toList.head? = some 48) := by
              refine congrArg Bool.not (decide_eq_decide.mpr ?_)
              rw [List.head?_eq_getElem?, List.getElem?_eq_getElem hp]
              constructor
              · intro e3
                injection e3 with e4
                have e5 : (#[z.cps.toList[0]'hp] : Array Nat) = #[48] := congrArg Str.cps e4
                have e6 := congrArg Array.toList e5
                injection e6 with e7
                rw [e7]
              · intro e3
                injection e3 with e4
                rw [e4]
                rfl
            exact q2.symm ▸ e
        · have ha' : z.cps.toList.all digC = false := Bool.eq_false_iff.mpr ha
          rw [ha', Bool.false_and] at e
          exact e
      · rw [decide_eq_false h2]
        refine iteT (off ?_)
        unfold isNr
        have : ¬ z.length ≤ lim := by omega
        simp [this]
    · refine if_f (decide_eq_false h1) ⟨_, rfl, ?_⟩
      refine iteT (off ?_)
      unfold isNr
      have : ¬ 1 ≤ z.length := by omega
      simp [this]
end
end W

set_option Elab.async false
set_option linter.all false
set_option maxRecDepth 100000
set_option maxHeartbeats 400000
namespace W
open PySem PySem.Spec PyProof.Rows L2 GxR MyG
/-! ### numbers as they are written -/
def numS (n : Nat) : Str := Str.ofString (toString ((n : Nat) : Int))
theorem numS_tl (n : Nat) : TL.tl (numS n) = TL.numL n := TL.tl_num n
theorem str_len (z : Str) : z.length = z.cps.toList.length := by simp [Str.length]
theorem numS_len (n : Nat) : (numS n).length = (TL.numL n).length := by
  rw [str_len]
  exact congrArg List.length (numS_tl n)
theorem dig_iff (c : Nat) : c ∈ zDig.cps.toList ↔ 48 ≤ c ∧ c ≤ 57 := by
  have e : zDig.cps.toList = [48, 49, 50, 51, 52, 53, 54, 55, 56, 57] := by decide +kernel
  rw [e]
  simp only [List.mem_cons, List.not_mem_nil, or_false]
  omega
theorem numL_head : ∀ (n : Nat), 0 < n → (TL.numL n).head? ≠ some 48 := by
  intro n
  induction n using Nat.strongRecOn with
  | _ n ih =>
    intro hn h
    by_cases c : n < 10
    · rw [TL.numL_lt c] at h
      simp at h
      omega
    · rw [TL.numL_step (by omega)] at h
      have hne := TL.numL_ne (n / 10)
      have h2 : (TL.numL (n / 10)).head? = some 48 := by
        cases q : TL.numL (n / 10) with
        | nil => exact absurd q hne
        | cons a r => rw [q] at h; exact h
      exact ih (n / 10) (by omega) (by omega) h2
theorem numS_nr {n : Nat} (h : n ≤ 999999999) : isNr 9 (numS n) = true := by
  unfold isNr
  have e := numS_tl n
  have e1 : (numS n).cps.toList = TL.numL n := e
  have hl := TL.numL_len (n := n) (k := 9) (by decide) (by omega)
  have hp : 1 ≤ (TL.numL n).length := List.length_pos_iff.mpr (TL.numL_ne n)
  rw [numS_len, e1]
  have a1 : (TL.numL n).all digC = true := List.all_eq_true.mpr fun c hc => by
    have hd := TL.numL_digits n c hc
    unfold digC
    exact decide_eq_true ((dig_iff c).mpr (by first | exact hd | (simpa using hd)))
  rw [decide_eq_true hp, decide_eq_true hl, a1]
  by_cases c : n = 0
  · subst c
    have : numS 0 = z0 := by decide +kernel
    rw [decide_eq_true this]
    rfl
  · have := numL_head n (by omega)
    rw [decide_eq_false this]
    simp
end W

set_option Elab.async false
set_option linter.all false
set_option maxRecDepth 100000
set_option maxHeartbeats 2000000
namespace W
open PySem PySem.Spec PyProof.Rows L2 GxR MyG
abbrev sRowsT : Stmt := top 37
abbrev sMom : Stmt := top 60
abbrev sCan : Stmt := top 59
def zSp : Str := " "
def zNl : Str := "\n"
theorem inV_dec (z : Str) (xs : List Str) : inV (.str z) (xs.map V.str) = decide (z ∈ xs) := by
  unfold inV
  rw [List.any_map, Bool.eq_iff_iff, List.any_eq_true, decide_eq_true_eq]
  constructor
  · rintro ⟨y, hy, e⟩
    have q : y = z := by simpa [eqV] using e
    exact q ▸ hy
  · intro h
    exact ⟨z, h, by simp [eqV]⟩
/-! ### lists of texts compared -/
theorem dpAll_strs {K : PySem.W.Frag} {H : Hp} : ∀ ns : List Str, DpAll K H (ns.map V.str) (ns.map PyData.str)
  | [] => .nil
  | n :: ns => .cons (.str n) (dpAll_strs ns)
theorem lay_strs : ∀ {ls : List Str}, (∀ s ∈ ls, PyData.strOk s = true) → PyData.canLayAll0 (ls.map .str) = true ∧ PyData.depthAll (ls.map .str) ≤ 1
  | [], _ => by simp [PyData.canLayAll0, PyData.depthAll]
  | s :: ls, h => by
    obtain ⟨i1, i2⟩ := lay_strs (ls := ls) fun x hx => h x (List.mem_cons_of_mem _ hx)
    have a1 := h s List.mem_cons_self
    refine ⟨?_, ?_⟩
    · simp only [List.map_cons, PyData.canLayAll0, PyData.canLay0, a1, i1, Bool.and_self]
    · simp only [List.map_cons, PyData.depthAll, PyData.depth]; omega
theorem shaped_strs {ls : List Str} (h : ∀ s ∈ ls, PyData.strOk s = true) : SeqAt.shaped (PyData.list (ls.map .str)) = true := by
  obtain ⟨i1, i4⟩ := lay_strs h
  unfold SeqAt.shaped
  rw [Bool.and_eq_true]
  refine ⟨by simpa [PyData.canLay0] using i1, decide_eq_true ?_⟩
  simp only [PyData.depth]
  omega
theorem eqvAll_strs : ∀ (xs ys : List Str), PyData.eqvAll (xs.map .str) (ys.map .str) = decide (xs = ys)
  | [], [] => by simp [PyData.eqvAll]
  | [], y :: ys => by simp [PyData.eqvAll]
  | x :: xs, [] => by simp [PyData.eqvAll]
  | x :: xs, y :: ys => by
    rw [List.map_cons, List.map_cons, PyData.eqvAll, eqvAll_strs xs ys]
    have e : PyData.eqv (.str x) (.str y) = decide (x = y) := by
      rw [PyData.eqv]
      exact Bool.beq_eq_decide_eq ..
    rw [e, Bool.eq_iff_iff, Bool.and_eq_true, decide_eq_true_eq, decide_eq_true_eq, decide_eq_true_eq, List.cons.injEq]
theorem eqv_lists (xs ys : List Str) : PyData.eqv (.list (xs.map .str)) (.list (ys.map .str)) = decide (xs = ys) := by
  rw [PyData.eqv]
  exact eqvAll_strs xs ys
/-! ### rows -/
/-- a row as it lies: a list of its words -/
def RowL (H : Hp) (ws : List Str) (v : V) : Prop := ∃ a, v = .ref a ∧ H a = some (.lst (ws.map V.str))
theorem RowL.grew {P : Addr} {H H' : Hp} {ws : List Str} {v : V} (g : Grew P H H') (hP : TabG H P) (h : RowL H ws v) : RowL H' ws v := let ⟨a, e, q⟩ := h; ⟨a, e, g.lst hP q⟩
def RowD (D : Addr) (H : Hp) (ws : List Str) (v : V) : Prop := ∃ a, v = .ref a ∧ a ≠ D ∧ H a = some (.lst (ws.map V.str))
def spRowsT (P : Addr) : Sp := fun vs H Q _ => ∃ (z : Str) (ls : List Str), vs = [.str z] ∧ Txt.split z zNl = ls ∧ z.length ≤ 10000 ∧ ls.length ≤ 1000 ∧ (∀ l ∈ ls, l.length ≤ 1000) ∧ TabG H P ∧
  ∀ (H' : Hp) (p : Addr) (rs : List V), Grew P H H' → H p = none → H' p = some (.lst rs) → Paired (RowL H') (ls.map fun l => Txt.split l zSp) rs → Q (.ref p) H'
def spMom (P : Addr) : Sp := fun vs H Q _ => ∃ z : Str, vs = [.str z] ∧ z.length ≤ 1000 ∧ TabG H P ∧ ∀ H', Tabbed P H H' → Q (.bl (isNr 9 z)) H'
section
variable {Pg : Program} {w : World} {K : PySem.W.Frag} {mg : Str → Option Value} {base : Heap} {C P Pn : Addr}
abbrev nRowsT : List Str := ["text", "line"]
theorem scRowsT : FnScope nRowsT ["text"] (defScope sRowsT) := ⟨rfl, rfl, rfl, by decide +kernel, rfl, by decide +kernel, by decide +kernel⟩
theorem ok_rowsT {f : Addr} {fd : FuncData} (F : Fun K "rows_of" "rows_of" sRowsT f fd) : FnOk Pg w K mg base CX0 1 f fd ["text"] (spRowsT P) := by
  refine F.ok scRowsT (fun vs H Q E h => ?_) (fun cdv A outer s H vs Q E hr h => ?_)
  · obtain ⟨z, ls, rfl, _⟩ := h
    rfl
  · obtain ⟨z, ls, rfl, els, hz, ll, hlen, hP, k⟩ := h
    refine ⟨_, pss_one (ps_ret (pe_lc (own := [("line", 1)]) (g := gName 1) (tt := tYes) rfl scRowsT.nd (pi_list (pe_split (pv 0) pe_str)) (blkOk_by (N := nRowsT) (sc := defScope sRowsT) (by decide +kernel)) (fun _ _ _ _ _ => pg_name (i := 1) scRowsT.nd rfl (Or.inl rfl))
        (fun _ _ _ _ _ => pts_nil) (fun _ _ _ _ _ => pe_split (pv 1) pe_str))), ?_⟩
    refine ⟨_, rfl, ⟨_, rfl⟩, _, _, rfl, rfl, rfl, by rw [sizeLine_eq]; omega, fun l nl => ?_⟩
    have el : Txt.split z (Str.ofString "\n") = ls := els
    rw [el]
    have g1 := Grew.new hP (o := .lst (ls.map V.str)) nl
    refine ⟨l, rfl, ⟨_, SqL.of upd_same⟩, fun D nD => lc_list (K := K) (a := l) (xs := ls.map V.str) (fun i H' => Grew P H H' ∧ D ≠ l ∧ H l = none ∧ H' l = some (.lst (ls.map V.str)) ∧ H D = none ∧ ∃ acc, H' D = some (.lst acc) ∧ Paired (RowD D H') ((ls.map fun l => Txt.split l zSp).take i) acc)
      ⟨g1.put nD, fun e => (by rw [e, upd_same] at nD; cases nD), nl, by rw [upd_ne (ne_of_none upd_same nD)]; exact upd_same, g1.free nD, [], upd_same, .nil⟩ (fun i H' _ h => SqL.of h.2.2.2.1) (fun i v H1 hv h => ?_) (fun H1 h => ?_)⟩
    · obtain ⟨g, nDl, n1, hl, nD', acc, hD, hacc⟩ := h
      rw [List.getElem?_map] at hv
      cases q : ls[i]? with
      | none => rw [q] at hv; cases hv
      | some x =>
        rw [q] at hv
        obtain rfl := Option.some.inj hv
        have hx := hlen x (List.mem_of_getElem? q)
        have hil := (List.getElem?_eq_some_iff.mp q).1
        have la := Paired.len hacc
        rw [List.length_take, List.length_map] at la
        have et : (ls.map fun l => Txt.split l zSp).take (i + 1) = (ls.map fun l => Txt.split l zSp).take i ++ [Txt.split x zSp] := by rw [List.take_succ, List.getElem?_map, q]; rfl
        refine ⟨rfl, _, rfl, ⟨_, rfl⟩, _, _, rfl, rfl, rfl, by rw [sizeLine_eq]; omega, fun r nr => ?_⟩
        have gr := Grew.new g.tab (o := .lst ((Txt.split x zSp).map V.str)) nr
        have hD2 := gr.lst g.tab hD
        have hl2 := gr.lst g.tab hl
        have nrD : r ≠ D := fun e => by rw [e, hD] at nr; cases nr
        have gw := (g.trans gr).write (o := .lst (acc ++ [.ref r])) hD2 (fun _ z => by cases z) nD'
        refine ⟨_, hD2, by rw [sizeLine_eq]; omega, gw, nDl, n1, by rw [upd_ne (Ne.symm nDl)]; exact hl2, nD', acc ++ [.ref r], upd_same, ?_⟩
        rw [et]
        refine Paired.snoc (Paired.map' hacc fun ws v hw => ?_) ⟨r, rfl, nrD, by rw [upd_ne nrD]; exact upd_same⟩
        obtain ⟨a, e, na, qa⟩ := hw
        exact ⟨a, e, na, by rw [upd_ne na]; exact gr.lst g.tab qa⟩
    · obtain ⟨g, nDl, n1, hl, nD', acc, hD, hacc⟩ := h
      have et : (ls.map fun l => Txt.split l zSp).take (ls.map V.str).length = ls.map fun l => Txt.split l zSp := List.take_of_length_le (by simp)
      rw [et] at hacc
      exact k H1 D acc g nD' hD (Paired.map' hacc fun _ _ hw => let ⟨a, e, _, qa⟩ := hw; ⟨a, e, qa⟩)
theorem scMom : FnScope ["word"] ["word"] (defScope sMom) := ⟨rfl, rfl, rfl, by decide +kernel, rfl, by decide +kernel, by decide +kernel⟩
theorem ok_mom {f fN : Addr} {fd fdN : FuncData} {t9 : Tok} (F : Fun K "_is_moment" "_is_moment" sMom f fd) (h9 : mg "LONGEST_NUMBER_texts" = some (.int 9 t9))
    (GN : FnOk Pg w K mg base CX0 2 fN fdN ["word", "longest"] (spIsNr Pn)) (gN : mg "is_number" = some (.ref fN)) (kN : PySem.W.keepIn K (.ref fN) = true) (bN : Binds K fdN ["word", "longest"] []) :
    FnOk Pg w K mg base CX0 3 f fd ["word"] (spMom Pn) := by
  refine F.ok scMom (fun vs H Q E h => ?_) (fun cdv A outer s H vs Q E hr h => ?_)
  · obtain ⟨z, rfl, _⟩ := h
    rfl
  · obtain ⟨z, rfl, hz, hP, k⟩ := h
    refine ⟨_, pss_one (ps_ret (pe_call GN hr (by rfl) gN kN bN .nil pass0 (pa_cons (pv 0) (pa_cons (pe_gI h9) pa_nil)))), ?_⟩
    exact ⟨_, rfl, z, 9, rfl, by rw [sizeLine_eq]; omega, hP, k⟩
end
end W

set_option Elab.async false
set_option linter.all false
set_option maxRecDepth 100000
set_option maxHeartbeats 2000000
namespace W
open PySem PySem.Spec PyProof.Rows L2 GxR MyG
def zNone : Str := "none"
def zArr : Str := "arrives"
def zBy : Str := "by"
def zLow : Str := "low"
/-- the row at i can stand there -/
def canStand (rss : List (List Str)) (i : Nat) : Bool :=
  let ws := rss.getD i []
  if i = 0 then decide (ws = [zNone]) || (decide (ws.length = 2) && (decide (ws.getD 0 Str.empty = zArr) && isNr 9 (ws.getD 1 Str.empty)))
  else if ws.getD 0 Str.empty = zBy then decide ((rss.getD (i - 1) []).getD 0 Str.empty ∈ [zArr, zBy]) && (decide (ws.length = 2) && isNm (ws.getD 1 Str.empty))
  else decide (ws.length = 3) && (decide (ws.getD 0 Str.empty = zLow) && (isNm (ws.getD 1 Str.empty) && isNr 9 (ws.getD 2 Str.empty)))
structure RowsIn (H : Hp) (p : Addr) (rss : List (List Str)) : Prop where
  ex : ∃ rs : List V, H p = some (.lst rs) ∧ Paired (RowL H) rss rs
  ne : ∀ ws ∈ rss, ws ≠ []
  ok : ∀ ws ∈ rss, ∀ z ∈ ws, PyData.strOk z = true ∧ z.length ≤ 1000
theorem RowsIn.grew {P : Addr} {H H' : Hp} {p : Addr} {rss : List (List Str)} (g : Grew P H H') (hP : TabG H P) (h : RowsIn H p rss) : RowsIn H' p rss := by
  obtain ⟨rs, e, q⟩ := h.ex
  exact ⟨⟨rs, g.lst hP e, Paired.map' q fun _ _ r => r.grew g hP⟩, h.ne, h.ok⟩
theorem RowsIn.at {H : Hp} {p : Addr} {rss : List (List Str)} (h : RowsIn H p rss) {i : Nat} (hi : i < rss.length) : ∃ (rs : List V) (a : Addr) (w : Str) (r : List Str), H p = some (.lst rs) ∧ atI rs (i : Int) = some (.ref a) ∧ rss.getD i [] = w :: r ∧ H a = some (.lst ((w :: r).map V.str)) ∧ (∀ z ∈ w :: r, PyData.strOk z = true ∧ z.length ≤ 1000) := by
  obtain ⟨rs, e, q⟩ := h.ex
  have ei := List.getElem?_eq_getElem hi
  have hm : rss[i] ∈ rss := List.getElem_mem hi
  have hne := h.ne _ hm
  have hok := h.ok _ hm
  have eg : rss.getD i [] = rss[i] := by rw [List.getD_eq_getElem?_getD, ei]; rfl
  obtain ⟨v, ev, a, rfl, ha⟩ := Paired.to q ei
  cases c : rss[i] with
  | nil => exact absurd c hne
  | cons w r =>
    rw [c] at hok ha
    exact ⟨rs, a, w, r, e, atI_nat ev, eg.trans c, ha, hok⟩
def spCan (P Pn : Addr) : Sp := fun vs H Q _ => ∃ (p : Addr) (rss : List (List Str)) (i : Nat), vs = [.ref p, .int (i : Int)] ∧ RowsIn H p rss ∧ i < rss.length ∧ TabG H P ∧ TabG H Pn ∧ ∀ H', Grew P H H' → Q (.bl (canStand rss i)) H'
theorem at_cons {xs : List Str} {i : Nat} (h : i < xs.length) : atI (xs.map V.str) (i : Int) = some (.str (xs.getD i Str.empty)) := atI_nat (by rw [List.getElem?_map, List.getD_eq_getElem?_getD, List.getElem?_eq_getElem h]; rfl)
section
variable {Pg : Program} {w : World} {K : PySem.W.Frag} {mg : Str → Option Value} {base : Heap} {C P Pn : Addr}
abbrev nCan : List Str := ["rows", "at", "words"]
theorem scCan : FnScope nCan ["rows", "at"] (defScope sCan) := ⟨rfl, rfl, rfl, by decide +kernel, rfl, by decide +kernel, by decide +kernel⟩
theorem ok_can {f fN fM : Addr} {fd fdN fdM : FuncData} (F : Fun K "_can_stand" "_can_stand" sCan f fd) (hl : mg "len" = none)
    (GN : FnOk Pg w K mg base CX0 2 fN fdN ["text"] (spIsName P)) (gN : mg "is_name" = some (.ref fN)) (kN : PySem.W.keepIn K (.ref fN) = true) (bN : Binds K fdN ["text"] [])
    (GM : FnOk Pg w K mg base CX0 3 fM fdM ["word"] (spMom Pn)) (gM : mg "_is_moment" = some (.ref fM)) (kM : PySem.W.keepIn K (.ref fM) = true) (bM : Binds K fdM ["word"] []) :
    FnOk Pg w K mg base CX0 4 f fd ["rows", "at"] (spCan P Pn) := by
  refine F.ok scCan (fun vs H Q E h => ?_) (fun cdv A outer s H vs Q E hr h => ?_)
  · obtain ⟨p, rss, i, rfl, _⟩ := h
    rfl
  · obtain ⟨p, rss, i, rfl, hR, hi, hP, hPn, k⟩ := h
    refine ⟨_, pss_cons (ps_set (i := 2) scCan.nd rfl (Or.inl rfl) (pe_ix (r := rIxL K) ix_list (pv 0) (pv 1) (fun _ _ => rfl)))
      (pss_cons (ps_if (pt_cmpR op_eq (pv 1) pe_int (nomark _)) (pss_one (ps_ret (pe_or (pe_cmpR (r := rEqD K) (op_eqD hr.units) (pv 2) (pe_lst (pa_cons pe_str pa_nil)) (nomark _))
          (pe_one (pe_and (pe_cmpR op_eq (pe_callB call_len_seq (by rfl) hl PySem.boot_len (pa_cons (pv 2) pa_nil)) pe_int (nomark _)) (pe_and (pe_cmpR op_eq (pe_ix (r := rIxL K) ix_list (pv 2) pe_int (fun _ _ => rfl)) pe_str (nomark _))
            (pe_one (pe_call GM (hr.mono (by decide)) (by rfl) gM kM bM .nil pass0 (pa_cons (pe_ix (r := rIxL K) ix_list (pv 2) pe_int (fun _ _ => rfl)) pa_nil))))))))) pss_nil)
      (pss_cons (ps_if (pt_cmpR op_eq (pe_ix (r := rIxL K) ix_list (pv 2) pe_int (fun _ _ => rfl)) pe_str (nomark _)) (pss_one (ps_ret (pe_and (pe_cmpR (r := rIn K false) op_in_seq (pe_ix (r := rIxL K) ix_list (pe_ix (r := rIxL K) ix_list (pv 0) (pe_op op_sub (pv 1) pe_int) (fun _ _ => rfl)) pe_int (fun _ _ => rfl)) (pe_tup (pa_cons pe_str (pa_cons pe_str pa_nil))) (by rfl))
          (pe_and (pe_cmpR op_eq (pe_callB call_len_seq (by rfl) hl PySem.boot_len (pa_cons (pv 2) pa_nil)) pe_int (nomark _)) (pe_one (pe_call GN (hr.mono (by decide)) (by rfl) gN kN bN .nil pass0 (pa_cons (pe_ix (r := rIxL K) ix_list (pv 2) pe_int (fun _ _ => rfl)) pa_nil))))))) pss_nil)
      (pss_one (ps_ret (pe_and (pe_cmpR op_eq (pe_callB call_len_seq (by rfl) hl PySem.boot_len (pa_cons (pv 2) pa_nil)) pe_int (nomark _)) (pe_and (pe_cmpR op_eq (pe_ix (r := rIxL K) ix_list (pv 2) pe_int (fun _ _ => rfl)) pe_str (nomark _))
          (pe_and (pe_call GN (hr.mono (by decide)) (by rfl) gN kN bN .nil pass0 (pa_cons (pe_ix (r := rIxL K) ix_list (pv 2) pe_int (fun _ _ => rfl)) pa_nil)) (pe_one (pe_call GM (hr.mono (by decide)) (by rfl) gM kM bM .nil pass0 (pa_cons (pe_ix (r := rIxL K) ix_list (pv 2) pe_int (fun _ _ => rfl)) pa_nil)))))))))), ?_⟩
    obtain ⟨rs, a, w0, r, hp, hat, ews, ha, hok⟩ := hR.at hi
    have lm : ((w0 :: r).map V.str).length = (w0 :: r).length := List.length_map ..
    have gr := Grew.refl hP
    have a0 : atI ((w0 :: r).map V.str) 0 = some (.str w0) := at_cons (xs := w0 :: r) (i := 0) (by simp)
    have cs : canStand rss i = (if i = 0 then decide (w0 :: r = [zNone]) || (decide ((w0 :: r).length = 2) && (decide (w0 = zArr) && isNr 9 ((w0 :: r).getD 1 Str.empty)))
      else if w0 = zBy then decide ((rss.getD (i - 1) []).getD 0 Str.empty ∈ [zArr, zBy]) && (decide ((w0 :: r).length = 2) && isNm ((w0 :: r).getD 1 Str.empty))
      else decide ((w0 :: r).length = 3) && (decide (w0 = zLow) && (isNm ((w0 :: r).getD 1 Str.empty) && isNr 9 ((w0 :: r).getD 2 Str.empty)))) := by
      unfold canStand
      rw [ews]
      rfl
    rw [cs] at k
    have one : (w0 :: r).length = 2 ∨ (w0 :: r).length = 3 → atI ((w0 :: r).map V.str) 1 = some (.str ((w0 :: r).getD 1 Str.empty)) ∧ ((w0 :: r).getD 1 Str.empty).length ≤ 1000 := fun h => by
      have h1 : 1 < (w0 :: r).length := by omega
      refine ⟨at_cons h1, ?_⟩
      rw [List.getD_eq_getElem?_getD, List.getElem?_eq_getElem h1]
      exact (hok _ (List.getElem_mem h1)).2
    have decs : ∀ (x y : Str), decide (V.str x = V.str y) = decide (x = y) := fun x y => by rw [decide_eq_decide]; exact ⟨fun e => by injection e, fun e => by rw [e]⟩
    have d2 : ∀ x : Nat, decide (V.int (x : Int) = V.int 2) = decide (x = 2) := fun x => by rw [decide_eq_decide]; exact ⟨fun e => by injection e; omega, fun e => by rw [e]; rfl⟩
    have d3 : ∀ x : Nat, decide (V.int (x : Int) = V.int 3) = decide (x = 3) := fun x => by rw [decide_eq_decide]; exact ⟨fun e => by injection e; omega, fun e => by rw [e]; rfl⟩
    refine ⟨_, rfl, _, rfl, p, _, _, _, rfl, rfl, SqL.of hp, hat, _, rfl, rfl, _, rfl, ?_⟩
    by_cases c : i = 0
    · subst c
      rw [if_pos rfl] at k
      refine if_t rfl ?_
      refine ⟨_, rfl, by decide, fun N nN => ?_⟩
      have gN := Grew.new hP (o := .lst [.str zNone]) nN
      have haN := gN.lst hP ha
      have hN : (L2.upd H N (.lst [.str zNone])) N = some (.lst (([zNone] : List Str).map V.str)) := upd_same
      refine ⟨_, _, .lst (SqL.of haN) (dpAll_strs _), .lst (SqL.of hN) (dpAll_strs _), shaped_strs fun z hz => (hok z hz).1, shaped_strs (by decide +kernel), _, rfl, ?_⟩
      rw [eqv_lists]
      by_cases c1 : w0 :: r = [zNone]
      · rw [decide_eq_true c1] at k ⊢
        exact iteT (k _ gN)
      · rw [decide_eq_false c1] at k ⊢
        refine iteF ⟨_, rfl, a, _, rfl, .inl (SqL.of haN), rfl, _, rfl, ?_⟩
        rw [lm, d2]
        by_cases c2 : (w0 :: r).length = 2
        · rw [decide_eq_true c2] at k ⊢
          obtain ⟨a1, l1⟩ := one (.inl c2)
          refine iteT ⟨_, rfl, a, _, 0, _, rfl, rfl, SqL.of haN, a0, rfl, _, rfl, ?_⟩
          show if (decide (V.str w0 = V.str zArr)) = true then _ else _
          rw [decs]
          by_cases c3 : w0 = zArr
          · rw [decide_eq_true c3] at k ⊢
            exact iteT ⟨_, rfl, a, _, 1, _, rfl, rfl, SqL.of haN, a1, _, rfl, l1, gN.tabs _ hPn, fun H' t => k H' (gN.trans (Grew.of2 gN.tab (gN.tabs _ hPn) t))⟩
          · rw [decide_eq_false c3] at k ⊢
            exact iteF (k _ gN)
        · rw [decide_eq_false c2] at k ⊢
          exact iteF (k _ gN)
    · rw [if_neg c] at k
      refine if_f ?_ ?_
      · exact decide_eq_false fun e => c (by injection e; omega)
      refine ⟨_, rfl, a, _, 0, _, rfl, rfl, SqL.of ha, a0, rfl, _, rfl, ?_⟩
      by_cases cb : w0 = zBy
      · rw [if_pos cb] at k
        refine if_t (decide_eq_true (congrArg V.str cb)) ?_
        have hi1 : i - 1 < rss.length := by omega
        obtain ⟨rs1, a', w1, r1, hp1, hat1, ews1, ha1, _⟩ := hR.at hi1
        rw [ews1] at k
        have ers : rs1 = rs := by rw [hp] at hp1; injection hp1 with e; injection e with e; exact e.symm
        rw [ers] at hat1
        have ei : ((i - 1 : Nat) : Int) = (i : Int) - 1 := by omega
        rw [ei] at hat1
        have a01 : atI ((w1 :: r1).map V.str) 0 = some (.str w1) := at_cons (xs := w1 :: r1) (i := 0) (by simp)
        have e1 : (w1 :: r1).getD 0 Str.empty = w1 := rfl
        rw [e1] at k
        refine ⟨_, rfl, _, rfl, _, _, rfl, rfl, p, _, _, _, rfl, rfl, SqL.of hp, hat1, a', _, 0, _, rfl, rfl, SqL.of ha1, a01, by decide, fun T nT => ?_⟩
        have gT := Grew.new hP (o := .tup (([zArr, zBy] : List Str).map V.str)) nT
        have hT : (L2.upd H T (.tup (([zArr, zBy] : List Str).map V.str))) T = some (.tup (([zArr, zBy] : List Str).map V.str)) := upd_same
        have haT := gT.lst hP ha
        refine ⟨T, _, rfl, .inr (SqT.of hT), rfl, flat_strs [zArr, zBy], _, rfl, ?_⟩
        rw [if_neg (by decide : ¬ false = true), show inV (V.str w1) (([zArr, zBy] : List Str).map V.str) = decide (w1 ∈ [zArr, zBy]) from inV_dec w1 [zArr, zBy]]
        by_cases c1 : w1 ∈ [zArr, zBy]
        · rw [decide_eq_true c1] at k ⊢
          refine iteT ⟨_, rfl, a, _, rfl, .inl (SqL.of haT), rfl, _, rfl, ?_⟩
          rw [lm, d2]
          by_cases c2 : (w0 :: r).length = 2
          · rw [decide_eq_true c2] at k ⊢
            obtain ⟨a1, l1⟩ := one (.inl c2)
            exact iteT ⟨_, rfl, a, _, 1, _, rfl, rfl, SqL.of haT, a1, _, rfl, by rw [sizeLine_eq]; omega, gT.tab, fun H' t => k H' (gT.trans (Grew.of t))⟩
          · rw [decide_eq_false c2] at k ⊢
            exact iteF (k _ gT)
        · rw [decide_eq_false c1] at k ⊢
          exact iteF (k _ gT)
      · rw [if_neg cb] at k
        refine if_f (decide_eq_false fun e => cb (by injection e)) ?_
        refine ⟨_, rfl, a, _, rfl, .inl (SqL.of ha), rfl, _, rfl, ?_⟩
        rw [lm, d3]
        by_cases c2 : (w0 :: r).length = 3
        · rw [decide_eq_true c2] at k ⊢
          obtain ⟨a1, l1⟩ := one (.inr c2)
          have h2 : 2 < (w0 :: r).length := by omega
          have a2 : atI ((w0 :: r).map V.str) 2 = some (.str ((w0 :: r).getD 2 Str.empty)) := at_cons h2
          have l2 : ((w0 :: r).getD 2 Str.empty).length ≤ 1000 := by
            rw [List.getD_eq_getElem?_getD, List.getElem?_eq_getElem h2]
            exact (hok _ (List.getElem_mem h2)).2
          refine iteT ⟨_, rfl, a, _, 0, _, rfl, rfl, SqL.of ha, a0, rfl, _, rfl, ?_⟩
          show if (decide (V.str w0 = V.str zLow)) = true then _ else _
          rw [decs]
          by_cases c3 : w0 = zLow
          · rw [decide_eq_true c3] at k ⊢
            refine iteT ⟨_, rfl, a, _, 1, _, rfl, rfl, SqL.of ha, a1, _, rfl, by rw [sizeLine_eq]; omega, hP, fun H1 t1 => ⟨_, rfl, ?_⟩⟩
            have g1 := Grew.of t1
            have ha1 := g1.lst hP ha
            cases cn : isNm ((w0 :: r).getD 1 Str.empty) with
            | true =>
              rw [cn] at k
              exact iteT ⟨_, rfl, a, _, 2, _, rfl, rfl, SqL.of ha1, a2, _, rfl, l2, g1.tabs _ hPn, fun H' t => k H' (g1.trans (Grew.of2 g1.tab (g1.tabs _ hPn) t))⟩
            | false =>
              rw [cn] at k
              exact iteF (k _ g1)
          · rw [decide_eq_false c3] at k ⊢
            exact iteF (k _ gr)
        · rw [decide_eq_false c2] at k ⊢
          exact iteF (k _ gr)
end
end W

set_option Elab.async false
set_option linter.all false
set_option maxRecDepth 100000
set_option maxHeartbeats 1000000
namespace W
open PySem PySem.Spec PyProof.Rows L2 GxR MyG
abbrev sPaInit : Stmt := inClass (top 50) 0
def optV : Option Int → V
  | none => .non
  | some i => .int i
def RowAt (H : Hp) (e : Str × Int) (v : V) : Prop := ∃ p, v = .ref p ∧ H p = some (.tup [.str e.1, .int e.2])
theorem RowAt.grew {H H' : Hp} {e : Str × Int} {v : V} (g : Grew P H H') (hP : TabG H P) (h : RowAt H e v) : RowAt H' e v := let ⟨p, a, b⟩ := h; ⟨p, a, g.tup hP b⟩
structure TxtA (K : PySem.W.Frag) (Pa : Addr) : Prop where
  cl : Cls K Pa
  n0 : NoAttr K Pa "roads"
  n1 : NoAttr K Pa "arrival"
  n2 : NoAttr K Pa "lows"
theorem scPaInit : FnScope ["self", "roads", "arrival", "lows", "label"] ["self", "roads", "arrival", "lows"] (defScope sPaInit) := ⟨rfl, rfl, rfl, by decide +kernel, rfl, by decide +kernel, by decide +kernel⟩
def ToldAt (H : Hp) (Pa y : Addr) (ro : Option (List Str)) (ao : Option Int) (ls : List (Str × Int)) : Prop := ∃ dx fs L ys rv, H y = some (.ins Pa dx fs) ∧ fs.lookup ("roads" : Str) = some rv ∧ fs.lookup ("arrival" : Str) = some (optV ao) ∧ fs.lookup ("lows" : Str) = some (V.ref L) ∧ H L = some (.lst ys) ∧ Paired (RowAt H) ls ys ∧
  ((ro = none ∧ rv = .non) ∨ ∃ q rl, ro = some rl ∧ rv = .ref q ∧ H q = some (.tup (rl.map V.str)))
def RowAny (H : Hp) (e : Str × Int) (v : V) : Prop := ∃ p, v = .ref p ∧ (H p = some (.tup [.str e.1, .int e.2]) ∨ H p = some (.lst [.str e.1, .int e.2]))
theorem RowAny.grew {P : Addr} {H H' : Hp} {e : Str × Int} {v : V} (g : Grew P H H') (hP : TabG H P) (h : RowAny H e v) : RowAny H' e v := let ⟨p, a, b⟩ := h; ⟨p, a, b.imp (fun h => g.tup hP h) fun h => g.lst hP h⟩
def RoadsAny (K : PySem.W.Frag) (H : Hp) (rv : V) (ro : Option (List Str)) : Prop := (ro = none ∧ rv = .non) ∨ ∃ q rl, ro = some rl ∧ rv = .ref q ∧ (H q = some (.tup (rl.map V.str)) ∨ H q = some (.lst (rl.map V.str)))
def spPaInit2 (K : PySem.W.Frag) (Pa P : Addr) : Sp := fun vs H Q _ => ∃ (x dx L : Addr) (rv : V) (ro : Option (List Str)) (ao : Option Int) (ys : List V) (ls : List (Str × Int)) (H0 : Hp), vs = [.ref x, rv, optV ao, .ref L] ∧ Grew P H0 H ∧ TabG H0 P ∧ H0 x = none ∧ H x = some (.ins Pa dx []) ∧ RoadsAny K H0 rv ro ∧ H0 L = some (.lst ys) ∧ Paired (RowAny H0) ls ys ∧ ls.length ≤ 1000 ∧
  ∀ H', Grew P H0 H' → ToldAt H' Pa x ro ao ls → Q .non H'
section
variable {Pg : Program} {w : World} {K : PySem.W.Frag} {mg : Str → Option Value} {base : Heap} {C P : Addr}
theorem ok_paInit2 {f Pa : Addr} {fd : FuncData} (F : Fun K "__init__" "Paper.__init__" sPaInit f fd) (T : TxtA K Pa) (ht : mg "tuple" = none) : FnOk Pg w K mg base CX0 1 f fd ["self", "roads", "arrival", "lows"] (spPaInit2 K Pa P) := by
  refine F.ok scPaInit (fun vs H Q E h => ?_) (fun cdv A outer s H vs Q E hr h => ?_)
  · obtain ⟨x, dx, L, rv, ro, ao, ys, ls, H0, rfl, _⟩ := h
    rfl
  · obtain ⟨x, dx, L, rv, ro, ao, ys, ls, H0, rfl, g0, hP0, nx, hx, hrv, hL, hrows, hll, k⟩ := h
    refine ⟨_, C8.pss_cut (ps_fld (pv 0) (pe_ifExp (pt_cmp (pc_isN (pv 1))) pe_non (pe_callTy call_tuple_of (by rfl) ht (by decide +kernel) (pa_cons (pv 1) pa_nil))) rfl)
      (pss_cons (ps_fld (pv 0) (pv 2) rfl)
      (pss_one (ps_fld (pv 0) (pe_lc (own := [("label", 4)]) (g := gName 4) (tt := tYes) rfl scPaInit.nd (pi_list (pv 3)) (blkOk_by (N := ["self", "roads", "arrival", "lows", "label"]) (sc := defScope sPaInit) (by decide +kernel)) (fun _ _ _ _ _ => pg_name (i := 4) scPaInit.nd rfl (Or.inl rfl)) (fun _ _ _ _ _ => pts_nil)
          (fun _ _ _ _ _ => pe_callTy (T := "tuple") (r := rTupOf K) call_tuple_of (by rfl) ht (by decide +kernel) (pa_cons (pv 4) pa_nil))) rfl))), ?_⟩
    have nins : ∀ (fs : List (Str × V)) (q : Array Value), (HO.ins Pa dx fs) ≠ .tbl q := fun _ _ z => by cases z
    refine ⟨fun σ2 H2 => ∃ rv', σ2 = [some (.ref x), some rv, some (optV ao), some (.ref L), none] ∧ Grew P H0 H2 ∧ H2 x = some (.ins Pa dx (putF "roads" rv' [])) ∧ ((ro = none ∧ rv' = .non) ∨ ∃ q rl, ro = some rl ∧ rv' = .ref q ∧ H2 q = some (.tup (rl.map V.str))), ?_, ?_⟩
    · refine ⟨_, rfl, _, rfl, ?_⟩
      rcases hrv with ⟨e1, rfl⟩ | ⟨q, rl, e1, rfl, hq⟩
      · refine if_t rfl ?_
        exact ⟨_, rfl, x, Pa, dx, [], rfl, hx, T.cl, T.n0, by decide, .non, rfl, g0.write hx (nins _) nx, upd_same, .inl ⟨e1, rfl⟩⟩
      · refine if_f rfl ?_
        have nq : q ≠ x := fun e => by
          rw [e, nx] at hq
          rcases hq with h | h <;> cases h
        rcases hq with hq | hq
        · refine ⟨_, rfl, q, _, rfl, .inr ⟨SqT.of (g0.tup hP0 hq), ?_⟩⟩
          exact ⟨_, rfl, x, Pa, dx, [], rfl, hx, T.cl, T.n0, by decide, .ref q, rfl, g0.write hx (nins _) nx, upd_same, .inr ⟨q, rl, e1, rfl, by rw [upd_ne nq]; exact g0.tup hP0 hq⟩⟩
        · refine ⟨_, rfl, q, _, rfl, .inl ⟨SqL.of (g0.lst hP0 hq), fun l nl => ?_⟩⟩
          have nlx : l ≠ x := fun e => by rw [e, hx] at nl; cases nl
          have hx2 : L2.upd H l (.tup (rl.map V.str)) x = some (.ins Pa dx []) := by rw [upd_ne nlx.symm]; exact hx
          exact ⟨_, rfl, x, Pa, dx, [], rfl, hx2, T.cl, T.n0, by decide, .ref l, rfl, (g0.put nl).write hx2 (nins _) nx, upd_same, .inr ⟨l, rl, e1, rfl, by rw [upd_ne nlx]; exact upd_same⟩⟩
    rintro σ2 H2 ⟨rv', rfl, ga, hxa, hro⟩
    have l1 := length_putF ("roads" : Str) rv' []
    have l2 := length_putF ("arrival" : Str) (optV ao) (putF "roads" rv' [])
    rw [List.length_nil] at l1
    refine ⟨_, rfl, _, rfl, x, Pa, dx, _, rfl, hxa, T.cl, T.n1, by omega, ?_⟩
    have gb := ga.write (o := .ins Pa dx (putF "arrival" (optV ao) (putF "roads" rv' []))) hxa (nins _) nx
    have eb : L2.upd H2 x (.ins Pa dx (putF "arrival" (optV ao) (putF "roads" rv' []))) x = some (.ins Pa dx (putF "arrival" (optV ao) (putF "roads" rv' []))) := upd_same
    have hro2 : (ro = none ∧ rv' = .non) ∨ ∃ q rl, ro = some rl ∧ rv' = .ref q ∧ L2.upd H2 x (.ins Pa dx (putF "arrival" (optV ao) (putF "roads" rv' []))) q = some (.tup (rl.map V.str)) := by
      rcases hro with h | ⟨q, rl, a, b, hq⟩
      · exact .inl h
      · exact .inr ⟨q, rl, a, b, by rw [upd_ne (fun e => by rw [e, hxa] at hq; cases hq)]; exact hq⟩
    generalize L2.upd H2 x (.ins Pa dx (putF "arrival" (optV ao) (putF "roads" rv' []))) = Hb at gb eb hro2 ⊢
    refine ⟨_, rfl, L, rfl, ⟨_, SqL.of (gb.lst hP0 hL)⟩, fun N nN => lc_list (K := K) (a := L) (xs := ys) (fun j H1 => Grew P Hb H1 ∧ ∃ acc, H1 N = some (.lst acc) ∧ Paired (RowAt H1) (ls.take j) acc)
      ⟨Grew.new gb.tab nN, [], upd_same, .nil⟩ (fun j H1 _ p => SqL.of (p.1.lst gb.tab (gb.lst hP0 hL))) (fun j y H1 hj p => ?_) (fun H1 p => ?_)⟩
    · obtain ⟨g, acc, hN, hacc⟩ := p
      obtain ⟨e, he, tp, rfl, htp⟩ := Paired.at hrows hj
      have hjl := (List.getElem?_eq_some_iff.mp hj).1
      have la := Paired.len hacc
      have lb : acc.length < sizeLine := by
        rw [List.length_take] at la
        rw [sizeLine_eq]; omega
      have et : ls.take (j + 1) = ls.take j ++ [e] := by rw [List.take_succ, he]; rfl
      refine ⟨rfl, _, rfl, tp, [.str e.1, .int e.2], rfl, ?_⟩
      rcases htp with htp | htp
      · have htp1 := (gb.trans g).tup hP0 htp
        refine .inr ⟨SqT.of htp1, ?_⟩
        refine ⟨_, hN, lb, g.write hN (fun _ z => by cases z) nN, _, upd_same, ?_⟩
        rw [et]
        have kk : ∀ {e' : Str × Int} {v : V}, RowAt H1 e' v → RowAt (L2.upd H1 N (.lst (acc ++ [.ref tp]))) e' v := fun {e' v} ⟨p, a, b⟩ => ⟨p, a, by rw [upd_ne (fun z => by rw [z, hN] at b; cases b)]; exact b⟩
        exact Paired.snoc (Paired.map' hacc fun _ _ m => kk m) (kk ⟨tp, rfl, htp1⟩)
      · have htp1 := (gb.trans g).lst hP0 htp
        refine .inl ⟨SqL.of htp1, fun l nl => ?_⟩
        have nlN : l ≠ N := fun e => by rw [e, hN] at nl; cases nl
        have hN2 : L2.upd H1 l (.tup [.str e.1, .int e.2]) N = some (.lst acc) := by rw [upd_ne nlN.symm]; exact hN
        refine ⟨_, hN2, lb, (g.put nl).write hN2 (fun _ z => by cases z) nN, _, upd_same, ?_⟩
        rw [et]
        have kk : ∀ {e' : Str × Int} {v : V}, RowAt H1 e' v → RowAt (L2.upd (L2.upd H1 l (.tup [.str e.1, .int e.2])) N (.lst (acc ++ [.ref l]))) e' v := fun {e' v} ⟨p, a, b⟩ => ⟨p, a, by
          rw [upd_ne (fun z => by rw [z, hN] at b; cases b), upd_ne (fun z => by rw [z, nl] at b; cases b)]; exact b⟩
        exact Paired.snoc (Paired.map' hacc fun _ _ m => kk m) ⟨l, rfl, by rw [upd_ne nlN]; exact upd_same⟩
    · obtain ⟨g, acc, hN, hacc⟩ := p
      rw [← Paired.len hrows, List.take_length] at hacc
      have hx1 := g.get gb.tab eb (nins _)
      refine ⟨_, rfl, x, Pa, dx, _, rfl, hx1, T.cl, T.n2, by omega, ?_⟩
      have nN0 : N ≠ x := fun z => by rw [z, hx1] at hN; cases hN
      have gc := (gb.trans g).write (o := .ins Pa dx (putF "lows" (.ref N) (putF "arrival" (optV ao) (putF "roads" rv' [])))) hx1 (nins _) nx
      have kx : ∀ {b : Addr} {o : HO}, H1 b = some o → b ≠ x → L2.upd H1 x (.ins Pa dx (putF "lows" (.ref N) (putF "arrival" (optV ao) (putF "roads" rv' [])))) b = some o := fun h n => by rw [upd_ne n]; exact h
      refine k _ gc ⟨dx, _, N, acc, rv', upd_same, ?_, ?_, ?_, kx hN nN0, Paired.map' hacc fun _ _ ⟨p, a, b⟩ => ⟨p, a, kx b (fun z => by rw [z, hx1] at b; cases b)⟩, ?_⟩
      · rw [lookup_putF, if_neg (by decide +kernel), lookup_putF, if_neg (by decide +kernel), lookup_putF, if_pos rfl]
      · rw [lookup_putF, if_neg (by decide +kernel), lookup_putF, if_pos rfl]
      · rw [lookup_putF, if_pos rfl]
      · rcases hro2 with h | ⟨q, rl, a, b, hq⟩
        · exact .inl h
        · have hq1 := g.tup gb.tab hq
          exact .inr ⟨q, rl, a, b, kx hq1 (fun z => by rw [z, hx1] at hq1; cases hq1)⟩
end
end W

set_option Elab.async false
set_option linter.all false
set_option maxRecDepth 100000
set_option maxHeartbeats 400000
namespace W
open PySem PySem.Spec PyProof.Rows L2 GxR MyG
/-! ### the written form of a paper -/
def zArrS : Str := "arrives "
def zByS : Str := "by "
def zLowS : Str := "low "
def arrS (a : Nat) : Str := zArrS ++ numS a
def byS (n : Str) : Str := zByS ++ n
def lowS (e : Str × Nat) : Str := ((zLowS ++ e.1) ++ zSp) ++ numS e.2
/-- the lines; the route with its arrival, or none -/
def linesP (ro : Option (List Str × Nat)) (ls : List (Str × Nat)) : List Str := (match ro with
  | none => [zNone]
  | some p => arrS p.2 :: p.1.map byS) ++ ls.map lowS
def textP (ro : Option (List Str × Nat)) (ls : List (Str × Nat)) : Str := Txt.join zNl (linesP ro ls)
/-- the words of the lines -/
def rowsP (ro : Option (List Str × Nat)) (ls : List (Str × Nat)) : List (List Str) := (match ro with
  | none => [[zNone]]
  | some p => [zArr, numS p.2] :: p.1.map fun n => [zBy, n]) ++ ls.map fun e => [zLow, e.1, numS e.2]
/-- of a size that is told -/
structure PapOk (ro : Option (List Str × Nat)) (ls : List (Str × Nat)) : Prop where
  rn : ∀ p, ro = some p → (∀ z ∈ p.1, isNm z = true) ∧ p.1.length ≤ 10 ∧ p.2 ≤ 999999999
  ln : ∀ e ∈ ls, isNm e.1 = true ∧ e.2 ≤ 999999999
  ll : ls.length ≤ 10
/-- signs of names and of numbers -/
def plainC (c : Nat) : Bool := goodC c
theorem nm_plain {z : Str} (h : isNm z = true) : ∀ c ∈ TL.tl z, goodC c = true := by
  unfold isNm at h
  simp only [Bool.and_eq_true] at h
  exact fun c hc => List.all_eq_true.mp h.2 c hc
theorem nm_len {z : Str} (h : isNm z = true) : z.length ≤ 12 := by
  unfold isNm at h
  simp only [Bool.and_eq_true, decide_eq_true_eq] at h
  exact h.1.1.2
theorem num_plain (n : Nat) : ∀ c ∈ TL.tl (numS n), goodC c = true := fun c hc => by
  rw [numS_tl] at hc
  have hd := TL.numL_digits n c hc
  unfold goodC
  rw [Bool.or_eq_true]
  exact .inr (decide_eq_true ((dig_iff c).mpr (by first | exact hd | (simpa using hd))))
theorem good_range {c : Nat} (h : goodC c = true) : 48 ≤ c ∧ c ≤ 122 := by
  unfold goodC at h
  rw [Bool.or_eq_true, decide_eq_true_eq, decide_eq_true_eq] at h
  rcases h with h | h
  · have a1 : ∀ c ∈ zLet.cps.toList, 48 ≤ c ∧ c ≤ 122 := by decide +kernel
    exact a1 c h
  · have := (dig_iff c).mp h
    omega
theorem num_len {n : Nat} (h : n ≤ 999999999) : (numS n).length ≤ 9 := by
  rw [numS_len]
  exact TL.numL_len (by decide) (by omega)
theorem tl_lowS (e : Str × Nat) : TL.tl (lowS e) = [108, 111, 119, 32] ++ TL.tl e.1 ++ [32] ++ TL.tl (numS e.2) := by
  unfold lowS
  rw [TL.tl_append, TL.tl_append, TL.tl_append]
  rfl
theorem tl_byS (n : Str) : TL.tl (byS n) = [98, 121, 32] ++ TL.tl n := by
  unfold byS
  rw [TL.tl_append]
  rfl
theorem tl_arrS (a : Nat) : TL.tl (arrS a) = [97, 114, 114, 105, 118, 101, 115, 32] ++ TL.tl (numS a) := by
  unfold arrS
  rw [TL.tl_append]
  rfl
theorem lows_join (e : Str × Nat) : lowS e = Txt.join zSp [zLow, e.1, numS e.2] := by
  refine TL.ext_tl ?_
  rw [tl_lowS, TL.join_eq, TL.tl_join]
  show _ = TL.tl zLow ++ (TL.tl zSp ++ (TL.tl e.1 ++ (TL.tl zSp ++ TL.tl (numS e.2))))
  simp only [List.append_assoc]
  rfl
theorem bys_join (n : Str) : byS n = Txt.join zSp [zBy, n] := by
  refine TL.ext_tl ?_
  rw [tl_byS, TL.join_eq, TL.tl_join]
  rfl
theorem arrs_join (a : Nat) : arrS a = Txt.join zSp [zArr, numS a] := by
  refine TL.ext_tl ?_
  rw [tl_arrS, TL.join_eq, TL.tl_join]
  rfl
theorem no32 {l : List Nat} (h : ∀ c ∈ l, goodC c = true) : 32 ∉ l := fun m => by
  have := good_range (h 32 m)
  omega
theorem no10 {l : List Nat} (h : ∀ c ∈ l, goodC c = true) : 10 ∉ l := fun m => by
  have := good_range (h 10 m)
  omega
theorem split_low {e : Str × Nat} (h : isNm e.1 = true) : Txt.split (lowS e) zSp = [zLow, e.1, numS e.2] := by
  rw [lows_join]
  refine TL.split_join (s := 32) (S := []) rfl (by decide +kernel) (by simp) fun p hp => ?_
  simp only [List.mem_cons, List.not_mem_nil, or_false] at hp
  rcases hp with rfl | rfl | rfl
  · decide +kernel
  · exact no32 (nm_plain h)
  · exact no32 (num_plain _)
theorem split_by {n : Str} (h : isNm n = true) : Txt.split (byS n) zSp = [zBy, n] := by
  rw [bys_join]
  refine TL.split_join (s := 32) (S := []) rfl (by decide +kernel) (by simp) fun p hp => ?_
  simp only [List.mem_cons, List.not_mem_nil, or_false] at hp
  rcases hp with rfl | rfl
  · decide +kernel
  · exact no32 (nm_plain h)
theorem split_arr (a : Nat) : Txt.split (arrS a) zSp = [zArr, numS a] := by
  rw [arrs_join]
  refine TL.split_join (s := 32) (S := []) rfl (by decide +kernel) (by simp) fun p hp => ?_
  simp only [List.mem_cons, List.not_mem_nil, or_false] at hp
  rcases hp with rfl | rfl
  · decide +kernel
  · exact no32 (num_plain _)
theorem split_none : Txt.split zNone zSp = [zNone] := by
  have e : zNone = Txt.join zSp [zNone] := rfl
  have h := TL.split_join (y := zSp) (s := 32) (S := []) rfl (by decide +kernel) (parts := [zNone]) (by simp) (fun p hp => by
    rw [List.mem_singleton.mp hp]
    decide +kernel)
  rw [← e] at h
  exact h
theorem lines_ne (ro : Option (List Str × Nat)) (ls : List (Str × Nat)) : linesP ro ls ≠ [] := by
  unfold linesP
  cases ro <;> simp
theorem lines_of {ro : Option (List Str × Nat)} {ls : List (Str × Nat)} (h : PapOk ro ls) : Txt.split (textP ro ls) zNl = linesP ro ls := by
  unfold textP
  refine TL.split_join (s := 10) (S := []) rfl (by decide +kernel) (lines_ne ro ls) fun p hp => ?_
  unfold linesP at hp
  rcases List.mem_append.mp hp with hp | hp
  · cases ro with
    | none =>
      rw [List.mem_singleton.mp hp]
      decide +kernel
    | some q =>
      obtain ⟨h1, _, _⟩ := h.rn q rfl
      rcases List.mem_cons.mp hp with hp | hp
      · rw [hp, tl_arrS]
        intro hm
        rcases List.mem_append.mp hm with hm | hm
        · exact absurd hm (by decide)
        · exact no10 (num_plain _) hm
      · obtain ⟨n, hn, rfl⟩ := List.mem_map.mp hp
        rw [tl_byS]
        intro hm
        rcases List.mem_append.mp hm with hm | hm
        · exact absurd hm (by decide)
        · exact no10 (nm_plain (h1 n hn)) hm
  · obtain ⟨e, he, rfl⟩ := List.mem_map.mp hp
    have h1 := (h.ln e he).1
    rw [tl_lowS]
    intro hm
    rcases List.mem_append.mp hm with hm | hm
    · rcases List.mem_append.mp hm with hm | hm
      · rcases List.mem_append.mp hm with hm | hm
        · exact absurd hm (by decide)
        · exact no10 (nm_plain h1) hm
      · exact absurd hm (by decide)
    · exact no10 (num_plain _) hm
theorem rows_of_lines {ro : Option (List Str × Nat)} {ls : List (Str × Nat)} (h : PapOk ro ls) : ((linesP ro ls).map fun l => Txt.split l zSp) = rowsP ro ls := by
  unfold linesP rowsP
  rw [List.map_append, List.map_map]
  have e2 : ls.map ((fun l => Txt.split l zSp) ∘ lowS) = ls.map fun e => [zLow, e.1, numS e.2] := List.map_congr_left fun e he => split_low (h.ln e he).1
  rw [e2]
  congr 1
  cases ro with
  | none =>
    show [Txt.split zNone zSp] = _
    rw [split_none]
  | some q =>
    obtain ⟨h1, _, _⟩ := h.rn q rfl
    show Txt.split (arrS q.2) zSp :: (q.1.map byS).map (fun l => Txt.split l zSp) = _
    rw [split_arr, List.map_map]
    congr 1
    exact List.map_congr_left fun n hn => split_by (h1 n hn)
end W

set_option Elab.async false
set_option linter.all false
set_option maxRecDepth 100000
set_option maxHeartbeats 400000
namespace W
open PySem PySem.Spec PyProof.Rows L2 GxR MyG
theorem getD_at {α : Type} {l : List α} {i : Nat} {d v : α} (h : l[i]? = some v) : l.getD i d = v := by rw [List.getD_eq_getElem?_getD, h]; rfl
theorem can_low {e : Str × Nat} (h1 : isNm e.1 = true) (h2 : e.2 ≤ 999999999) {rss : List (List Str)} {i : Nat} (hi : i ≠ 0) (hr : rss.getD i [] = [zLow, e.1, numS e.2]) : canStand rss i = true := by
  unfold canStand
  rw [hr]
  show (if i = 0 then _ else if zLow = zBy then _ else decide (3 = 3) && (decide (zLow = zLow) && (isNm e.1 && isNr 9 (numS e.2)))) = true
  rw [if_neg hi, if_neg (by decide +kernel), h1, numS_nr h2]
  simp
theorem can_by {n : Str} (h1 : isNm n = true) {rss : List (List Str)} {i : Nat} (hi : i ≠ 0) (hr : rss.getD i [] = [zBy, n]) (hp : (rss.getD (i - 1) []).getD 0 Str.empty ∈ [zArr, zBy]) : canStand rss i = true := by
  unfold canStand
  rw [hr]
  show (if i = 0 then _ else if zBy = zBy then decide ((rss.getD (i - 1) []).getD 0 Str.empty ∈ [zArr, zBy]) && (decide (2 = 2) && isNm n) else _) = true
  rw [if_neg hi, if_pos rfl, h1, decide_eq_true hp]
  simp
theorem can_all {ro : Option (List Str × Nat)} {ls : List (Str × Nat)} (h : PapOk ro ls) {i : Nat} (hi : i < (rowsP ro ls).length) : canStand (rowsP ro ls) i = true := by
  cases ro with
  | none =>
    have er : rowsP none ls = [zNone] :: ls.map fun e => [zLow, e.1, numS e.2] := rfl
    rw [er] at hi ⊢
    cases i with
    | zero =>
      unfold canStand
      show (if 0 = 0 then decide ([zNone] = [zNone]) || _ else _) = true
      rw [if_pos rfl, decide_eq_true rfl, Bool.true_or]
    | succ j =>
      rw [List.length_cons, List.length_map] at hi
      have hj : j < ls.length := by omega
      have e := List.getElem?_eq_getElem hj
      have hm : ls[j] ∈ ls := List.getElem_mem hj
      generalize ls[j] = x at e hm
      exact can_low (h.ln x hm).1 (h.ln x hm).2 (by omega) (getD_at (by rw [List.getElem?_cons_succ, List.getElem?_map, e]; rfl))
  | some p =>
    obtain ⟨h1, _, h3⟩ := h.rn p rfl
    have er : rowsP (some p) ls = [zArr, numS p.2] :: ((p.1.map fun n => [zBy, n]) ++ ls.map fun e => [zLow, e.1, numS e.2]) := rfl
    rw [er] at hi ⊢
    cases i with
    | zero =>
      unfold canStand
      show (if 0 = 0 then decide ([zArr, numS p.2] = [zNone]) || (decide (2 = 2) && (decide (zArr = zArr) && isNr 9 (numS p.2))) else _) = true
      rw [if_pos rfl, numS_nr h3, Bool.or_eq_true]
      exact .inr (by simp)
    | succ j =>
      rw [List.length_cons, List.length_append, List.length_map, List.length_map] at hi
      by_cases hj : j < p.1.length
      · have e := List.getElem?_eq_getElem hj
        have hm : p.1[j] ∈ p.1 := List.getElem_mem hj
        generalize p.1[j] = x at e hm
        refine can_by (h1 x hm) (by omega) (getD_at (v := [zBy, x]) ?_) ?_
        · rw [List.getElem?_cons_succ, List.getElem?_append_left (by rw [List.length_map]; exact hj), List.getElem?_map, e]
          rfl
        · show ((([zArr, numS p.2] :: ((p.1.map fun n => [zBy, n]) ++ ls.map fun e => [zLow, e.1, numS e.2])) : List (List Str)).getD j []).getD 0 Str.empty ∈ [zArr, zBy]
          cases j with
          | zero => exact List.mem_cons_self ..
          | succ k =>
            have hk : k < p.1.length := by omega
            have e2 := List.getElem?_eq_getElem hk
            generalize p.1[k] = y at e2
            rw [getD_at (v := [zBy, y]) (by rw [List.getElem?_cons_succ, List.getElem?_append_left (by rw [List.length_map]; exact hk), List.getElem?_map, e2]; rfl)]
            exact List.mem_cons_of_mem _ (List.mem_cons_self ..)
      · have hj2 : j - p.1.length < ls.length := by omega
        have e := List.getElem?_eq_getElem hj2
        have hm : ls[j - p.1.length] ∈ ls := List.getElem_mem hj2
        generalize ls[j - p.1.length] = x at e hm
        refine can_low (h.ln x hm).1 (h.ln x hm).2 (by omega) (getD_at ?_)
        rw [List.getElem?_cons_succ, List.getElem?_append_right (by rw [List.length_map]; omega), List.length_map, List.getElem?_map, e]
        rfl
theorem good_ok {z : Str} (h : ∀ c ∈ TL.tl z, goodC c = true) : PyData.strOk z = true := by
  unfold PyData.strOk
  rw [← Array.all_toList]
  refine List.all_eq_true.mpr fun c hc => ?_
  have := good_range (h c hc)
  exact decide_eq_true (by omega)
theorem rows_words {ro : Option (List Str × Nat)} {ls : List (Str × Nat)} (h : PapOk ro ls) : ∀ ws ∈ rowsP ro ls, ws ≠ [] ∧ ∀ z ∈ ws, PyData.strOk z = true ∧ z.length ≤ 1000 := by
  intro ws hws
  unfold rowsP at hws
  have lit : PyData.strOk zNone = true ∧ zNone.length ≤ 1000 := by decide +kernel
  have lit2 : PyData.strOk zArr = true ∧ zArr.length ≤ 1000 := by decide +kernel
  have lit3 : PyData.strOk zBy = true ∧ zBy.length ≤ 1000 := by decide +kernel
  have lit4 : PyData.strOk zLow = true ∧ zLow.length ≤ 1000 := by decide +kernel
  rcases List.mem_append.mp hws with hp | hp
  · cases ro with
    | none =>
      rw [List.mem_singleton.mp hp]
      exact ⟨by simp, fun z hz => by rw [List.mem_singleton.mp hz]; exact lit⟩
    | some q =>
      obtain ⟨h1, _, h3⟩ := h.rn q rfl
      rcases List.mem_cons.mp hp with hp | hp
      · rw [hp]
        refine ⟨by simp, fun z hz => ?_⟩
        simp only [List.mem_cons, List.not_mem_nil, or_false] at hz
        rcases hz with rfl | rfl
        · exact lit2
        · exact ⟨good_ok (num_plain _), by have := num_len h3; omega⟩
      · obtain ⟨n, hn, rfl⟩ := List.mem_map.mp hp
        refine ⟨by simp, fun z hz => ?_⟩
        simp only [List.mem_cons, List.not_mem_nil, or_false] at hz
        rcases hz with rfl | rfl
        · exact lit3
        · exact ⟨good_ok (nm_plain (h1 _ hn)), by have := nm_len (h1 _ hn); omega⟩
  · obtain ⟨e, he, rfl⟩ := List.mem_map.mp hp
    obtain ⟨a1, a2⟩ := h.ln e he
    refine ⟨by simp, fun z hz => ?_⟩
    simp only [List.mem_cons, List.not_mem_nil, or_false] at hz
    rcases hz with rfl | rfl | rfl
    · exact lit4
    · exact ⟨good_ok (nm_plain a1), by have := nm_len a1; omega⟩
    · exact ⟨good_ok (num_plain _), by have := num_len a2; omega⟩
/-- no line is long -/
theorem line_len {ro : Option (List Str × Nat)} {ls : List (Str × Nat)} (h : PapOk ro ls) : ∀ l ∈ linesP ro ls, l.length ≤ 40 := by
  intro l hl
  unfold linesP at hl
  rcases List.mem_append.mp hl with hp | hp
  · cases ro with
    | none =>
      rw [List.mem_singleton.mp hp]
      decide +kernel
    | some q =>
      obtain ⟨h1, _, h3⟩ := h.rn q rfl
      rcases List.mem_cons.mp hp with hp | hp
      · rw [hp]
        have e : (arrS q.2).length = 8 + (numS q.2).length := PySem.Str.length_append ..
        have := num_len h3
        omega
      · obtain ⟨n, hn, rfl⟩ := List.mem_map.mp hp
        have e : (byS n).length = 3 + n.length := PySem.Str.length_append ..
        have := nm_len (h1 n hn)
        omega
  · obtain ⟨e, he, rfl⟩ := List.mem_map.mp hp
    obtain ⟨a1, a2⟩ := h.ln e he
    have e1 : (lowS e).length = (((zLowS ++ e.1) ++ zSp).length + (numS e.2).length) := PySem.Str.length_append ..
    have e2 : ((zLowS ++ e.1) ++ zSp).length = (zLowS ++ e.1).length + 1 := PySem.Str.length_append ..
    have e3 : (zLowS ++ e.1).length = 4 + e.1.length := PySem.Str.length_append ..
    have := num_len a2
    have := nm_len a1
    omega
theorem lines_count {ro : Option (List Str × Nat)} {ls : List (Str × Nat)} (h : PapOk ro ls) : (linesP ro ls).length ≤ 21 := by
  have hl := h.ll
  unfold linesP
  rw [List.length_append, List.length_map]
  cases ro with
  | none =>
    show 1 + ls.length ≤ 21
    omega
  | some q =>
    obtain ⟨_, h2, _⟩ := h.rn q rfl
    show (arrS q.2 :: q.1.map byS).length + ls.length ≤ 21
    rw [List.length_cons, List.length_map]
    omega
theorem sum_len {b : Nat} : ∀ {l : List Str}, (∀ x ∈ l, x.length ≤ b) → (l.map (·.length)).sum ≤ b * l.length
  | [], _ => by simp
  | x :: l, h => by
    rw [List.map_cons, List.sum_cons, List.length_cons, Nat.mul_succ]
    have := h x List.mem_cons_self
    have := sum_len (l := l) fun y hy => h y (List.mem_cons_of_mem _ hy)
    omega
theorem text_len {ro : Option (List Str × Nat)} {ls : List (Str × Nat)} (h : PapOk ro ls) : (textP ro ls).length ≤ 2000 := by
  have e := size_glued zNl (linesP ro ls)
  have e1 : zNl.length = 1 := by decide +kernel
  have s1 := sum_len (line_len h)
  have c1 := lines_count h
  have e2 : (textP ro ls).length = _ := e
  rw [e2, e1]
  omega
end W

set_option Elab.async false
set_option linter.all false
set_option maxRecDepth 100000
set_option maxHeartbeats 2000000
namespace W
open PySem PySem.Spec PyProof.Rows L2 GxR MyG
abbrev sParse : Stmt := top 58
def firstR : Option (List Str × Nat) → List Str
  | none => [zNone]
  | some p => [zArr, numS p.2]
def fl : Option (List Str × Nat) → Nat
  | none => 1
  | some p => p.1.length + 1
def numI (e : Str × Nat) : Str × Int := (e.1, (e.2 : Int))
theorem row_kind {ro : Option (List Str × Nat)} {ls : List (Str × Nat)} {i : Nat} (hi : i < (rowsP ro ls).length) :
    (i = 0 ∧ (rowsP ro ls)[i]? = some (firstR ro)) ∨ (∃ p n, ro = some p ∧ 1 ≤ i ∧ i ≤ p.1.length ∧ p.1[i - 1]? = some n ∧ (rowsP ro ls)[i]? = some [zBy, n]) ∨
      ∃ e, fl ro ≤ i ∧ ls[i - fl ro]? = some e ∧ (rowsP ro ls)[i]? = some [zLow, e.1, numS e.2] := by
  cases ro with
  | none =>
    have er : rowsP none ls = [zNone] :: ls.map fun e => [zLow, e.1, numS e.2] := rfl
    rw [er] at hi ⊢
    cases i with
    | zero => exact .inl ⟨rfl, rfl⟩
    | succ j =>
      rw [List.length_cons, List.length_map] at hi
      have hj : j < ls.length := by omega
      exact .inr (.inr ⟨ls[j], Nat.succ_le_succ (Nat.zero_le _), List.getElem?_eq_getElem hj, by rw [List.getElem?_cons_succ, List.getElem?_map, List.getElem?_eq_getElem hj]; rfl⟩)
  | some p =>
    have er : rowsP (some p) ls = [zArr, numS p.2] :: ((p.1.map fun n => [zBy, n]) ++ ls.map fun e => [zLow, e.1, numS e.2]) := rfl
    rw [er] at hi ⊢
    cases i with
    | zero => exact .inl ⟨rfl, rfl⟩
    | succ j =>
      rw [List.length_cons, List.length_append, List.length_map, List.length_map] at hi
      by_cases hj : j < p.1.length
      · exact .inr (.inl ⟨p, p.1[j], rfl, Nat.succ_le_succ (Nat.zero_le _), hj, List.getElem?_eq_getElem hj, by rw [List.getElem?_cons_succ, List.getElem?_append_left (by rw [List.length_map]; exact hj), List.getElem?_map, List.getElem?_eq_getElem hj]; rfl⟩)
      · have hj2 : j - p.1.length < ls.length := by omega
        have ef : j + 1 - fl (some p) = j - p.1.length := by
          show j + 1 - (p.1.length + 1) = _
          omega
        refine .inr (.inr ⟨ls[j - p.1.length], ?_, ?_, ?_⟩)
        · show p.1.length + 1 ≤ j + 1
          omega
        · rw [ef]
          exact List.getElem?_eq_getElem hj2
        · rw [List.getElem?_cons_succ, List.getElem?_append_right (by rw [List.length_map]; omega), List.length_map, List.getElem?_map, List.getElem?_eq_getElem hj2]
          rfl
theorem rows_count {ro : Option (List Str × Nat)} {ls : List (Str × Nat)} : (rowsP ro ls).length = fl ro + ls.length := by
  unfold rowsP
  rw [List.length_append, List.length_map]
  cases ro with
  | none => rfl
  | some p =>
    show ([zArr, numS p.2] :: p.1.map fun n => [zBy, n]).length + ls.length = p.1.length + 1 + ls.length
    rw [List.length_cons, List.length_map]
def spParse (Pa P Pn : Addr) : Sp := fun vs H Q _ => ∃ (ro : Option (List Str × Nat)) (ls : List (Str × Nat)), vs = [.str (textP ro ls)] ∧ PapOk ro ls ∧ TabG H P ∧ TabG H Pn ∧
  ∀ H' y, Grew P H H' → ToldAt H' Pa y (ro.map (·.1)) (ro.map fun p => (p.2 : Int)) (ls.map numI) → Q (.ref y) H'
section
variable {Pg : Program} {w : World} {K : PySem.W.Frag} {mg : Str → Option Value} {base : Heap} {C P Pn : Addr}
abbrev nPar : List Str := ["text", "rows", "at", "words", "lows"]
theorem scPar : FnScope nPar ["text"] (defScope sParse) := ⟨rfl, rfl, rfl, by decide +kernel, rfl, by decide +kernel, by decide +kernel⟩
theorem ok_parse {f fR fC fI Pa : Addr} {fd fdR fdC fdI : FuncData} (F : Fun K "parse_paper" "parse_paper" sParse f fd) (hl : mg "len" = none) (hi : mg "int" = none) (hrg : mg "range" = none)
    (GR : FnOk Pg w K mg base CX0 1 fR fdR ["text"] (spRowsT P)) (gR : mg "rows_of" = some (.ref fR)) (kR : PySem.W.keepIn K (.ref fR) = true) (bR : Binds K fdR ["text"] [])
    (GC : FnOk Pg w K mg base CX0 4 fC fdC ["rows", "at"] (spCan P Pn)) (gC : mg "_can_stand" = some (.ref fC)) (kC : PySem.W.keepIn K (.ref fC) = true) (bC : Binds K fdC ["rows", "at"] [])
    (Mk : L2.Mk K Pa fI) (GI : FnOk Pg w K mg base CX0 1 fI fdI ["self", "roads", "arrival", "lows"] (spPaInit2 K Pa P)) (gP : mg "Paper" = some (.ref Pa)) (bI : Binds K fdI ["self", "roads", "arrival", "lows"] []) :
    FnOk Pg w K mg base CX0 5 f fd ["text"] (spParse Pa P Pn) := by
  refine F.ok scPar (fun vs H Q E h => ?_) (fun cdv A outer s H vs Q E hr h => ?_)
  · obtain ⟨ro, ls, rfl, _⟩ := h
    rfl
  · obtain ⟨ro, ls, rfl, hok, hP, hPn, k⟩ := h
    refine ⟨_, pss_cons (ps_set (i := 1) scPar.nd rfl (Or.inl rfl) (pe_call GR (hr.mono (by decide)) (by rfl) gR kR bR .nil pass0 (pa_cons (pv 0) pa_nil)))
      (C8.pss_cut (ps_for PassesOwn.never rfl (pi_range1 rfl hrg (pa_cons (pe_callB call_len_seq (by rfl) hl PySem.boot_len (pa_cons (pv 1) pa_nil)) pa_nil)) (pg_name (i := 2) scPar.nd rfl (Or.inl rfl))
        (pss_one (ps_if (pt_not (pt_val (pe_call GC (hr.mono (by decide)) (by rfl) gC kC bC .nil pass0 (pa_cons (pv 1) (pa_cons (pv 2) pa_nil))))) (pss_one ps_never) pss_nil)))
      (C8.pss_cut (ps_setLc (i := 4) (own := [("words", 3)]) (g := gName 3) rfl scPar.nd rfl rfl (sw_true rfl rfl rfl (by decide +kernel)) (pi_list (pv 1)) (blkOk_by (N := nPar) (sc := defScope sParse) (by decide +kernel)) (fun _ _ _ _ _ => pg_name (i := 3) scPar.nd rfl (Or.inl rfl))
          (fun _ _ _ _ _ => pts_one (pt_cmpR (r := rEq) op_eq (pe_ix (r := rIxL K) ix_list (pv 3) pe_int (fun _ _ => rfl)) pe_str (nomark _)))
          (fun _ _ _ _ _ => pe_tup (pa_cons (pe_ix (r := rIxL K) ix_list (pv 3) pe_int (fun _ _ => rfl)) (pa_cons (pe_callTy (T := "int") call_int_str (by rfl) hi (by decide +kernel) (pa_cons (pe_ix (r := rIxL K) ix_list (pv 3) pe_int (fun _ _ => rfl)) pa_nil)) pa_nil))))
      (pss_cons (ps_if (pt_cmpR (r := rEqD K) (op_eqD hr.units) (pe_ix (r := rIxL K) ix_list (pv 1) pe_int (fun _ _ => rfl)) (pe_lst (pa_cons pe_str pa_nil)) (nomark _))
        (pss_one (ps_ret (pe_make Mk GI (hr.mono (by decide)) (by rfl) gP bI .nil pass0 (pa_cons pe_non (pa_cons pe_non (pa_cons (pv 4) pa_nil)))))) pss_nil)
      (pss_one (ps_ret (pe_make Mk GI (hr.mono (by decide)) (by rfl) gP bI .nil pass0 (pa_cons (pe_lc (own := [("words", 3)]) (g := gName 3) rfl scPar.nd (pi_list (pv 1)) (blkOk_by (N := nPar) (sc := defScope sParse) (by decide +kernel)) (fun _ _ _ _ _ => pg_name (i := 3) scPar.nd rfl (Or.inl rfl))
          (fun _ _ _ _ _ => pts_one (pt_cmpR (r := rEq) op_eq (pe_ix (r := rIxL K) ix_list (pv 3) pe_int (fun _ _ => rfl)) pe_str (nomark _)))
          (fun _ _ _ _ _ => pe_ix (r := rIxL K) ix_list (pv 3) pe_int (fun _ _ => rfl)))
          (pa_cons (pe_callTy call_int_str (by rfl) hi (by decide +kernel) (pa_cons (pe_ix (r := rIxL K) ix_list (pe_ix (r := rIxL K) ix_list (pv 1) pe_int (fun _ _ => rfl)) pe_int (fun _ _ => rfl)) pa_nil)) (pa_cons (pv 4) pa_nil))))))))), ?_⟩
    have h21 := lines_count hok
    refine ⟨_, rfl, textP ro ls, linesP ro ls, rfl, lines_of hok, by have := text_len hok; omega, by omega, fun l hl => by have := line_len hok l hl; omega, hP, fun H1 p rs g1 np hp hrs => ?_⟩
    rw [rows_of_lines hok] at hrs
    have hw := rows_words hok
    have R1 : RowsIn H1 p (rowsP ro ls) := ⟨⟨rs, hp, hrs⟩, fun ws h => (hw ws h).1, fun ws h => (hw ws h).2⟩
    have hlr := Paired.len hrs
    have hrc := rows_count (ro := ro) (ls := ls)
    have f1 : 1 ≤ fl ro := by cases ro <;> exact Nat.succ_le_succ (Nat.zero_le _)
    have l10 := hok.ll
    have rl21 : rs.length ≤ 21 := by
      have e := congrArg List.length (rows_of_lines hok)
      rw [List.length_map] at e
      omega
    refine ⟨fun σ H' => ∃ kv : Option V, σ = [some (.str (textP ro ls)), some (.ref p), kv, none, none] ∧ Grew P H H' ∧ RowsIn H' p (rowsP ro ls), ?_, ?_⟩
    · refine ⟨_, rfl, p, _, rfl, .inl (SqL.of hp), _, rfl, by omega, by omega, for_range (n := rs.length) (fun i σ H' => ∃ kv : Option V, σ = [some (.str (textP ro ls)), some (.ref p), kv, none, none] ∧ Grew P H H' ∧ RowsIn H' p (rowsP ro ls)) ⟨none, rfl, g1, R1⟩ ?_ ?_⟩
      · rintro i σ H2 hi ⟨kv, rfl, g2, R2⟩
        have hi2 : i < (rowsP ro ls).length := by omega
        refine ⟨_, rfl, _, rfl, p, rowsP ro ls, i, by rw [Int.zero_add]; rfl, R2, hi2, g2.tab, g2.tabs _ hPn, fun H3 g3 => ⟨_, rfl, ?_⟩⟩
        rw [can_all hok hi2]
        exact iteF ⟨_, rfl, g2.trans g3, R2.grew g3 g2.tab⟩
      · rintro σ H2 ⟨kv, rfl, g2, R2⟩
        exact ⟨kv, rfl, g2, R2⟩
    rintro σ H2 ⟨kv, rfl, g2, R2⟩
    refine ⟨fun σ H' => ∃ (L : Addr) (ys : List V), σ = [some (.str (textP ro ls)), some (.ref p), kv, none, some (.ref L)] ∧ Grew P H H' ∧ RowsIn H' p (rowsP ro ls) ∧ H' L = some (.lst ys) ∧ Paired (RowAt H') (ls.map numI) ys, ?_, ?_⟩
    · obtain ⟨rs2, hp2, hrs2⟩ := R2.ex
      have hlr2 := Paired.len hrs2
      refine ⟨_, rfl, p, rfl, ⟨_, SqL.of hp2⟩, fun D nD => lc_list (K := K) (a := p) (xs := rs2) (fun i H' => Grew P H2 H' ∧ ∃ acc, H' D = some (.lst acc) ∧ Paired (RowAt H') ((ls.map numI).take (i - fl ro)) acc)
        ⟨Grew.new g2.tab nD, [], upd_same, by rw [Nat.zero_sub, List.take_zero]; exact .nil⟩ (fun i H' _ h => SqL.of (h.1.lst g2.tab hp2)) (fun i v H3 hv h => ?_) (fun H3 h => ?_)⟩
      · obtain ⟨g, acc, hD, hacc⟩ := h
        obtain ⟨ws, hws, hrow⟩ := Paired.at hrs2 hv
        have hi := (List.getElem?_eq_some_iff.mp hws).1
        obtain ⟨a, rfl, ha⟩ := hrow
        have ha3 := g.lst g2.tab ha
        have la := Paired.len hacc
        rw [List.length_take, List.length_map] at la
        rcases row_kind hi with ⟨e0, er⟩ | ⟨q, n, eq, h1, h2, en, er⟩ | ⟨e, h1, en, er⟩
        · rw [hws] at er
          have ew := Option.some.inj er
          obtain ⟨w0, rr, ew0, nw⟩ : ∃ w0 rr, ws = w0 :: rr ∧ w0 ≠ zLow := by
            cases ro with
            | none => exact ⟨_, _, ew, by decide +kernel⟩
            | some q => exact ⟨_, _, ew, by decide +kernel⟩
          have a0 : atI (ws.map V.str) 0 = some (.str w0) := by rw [ew0]; exact at_cons (xs := w0 :: rr) (i := 0) (by simp)
          refine ⟨rfl, _, rfl, a, _, 0, _, rfl, rfl, SqL.of ha3, a0, rfl, _, rfl, ?_⟩
          refine if_f (decide_eq_false fun e => nw (by injection e)) ⟨g, acc, hD, ?_⟩
          have z1 : i + 1 - fl ro = i - fl ro := by omega
          rw [z1]
          exact hacc
        · rw [hws] at er
          have ew := Option.some.inj er
          obtain ⟨w0, rr, ew0, nw⟩ : ∃ w0 rr, ws = w0 :: rr ∧ w0 ≠ zLow := ⟨_, _, ew, by decide +kernel⟩
          have a0 : atI (ws.map V.str) 0 = some (.str w0) := by rw [ew0]; exact at_cons (xs := w0 :: rr) (i := 0) (by simp)
          refine ⟨rfl, _, rfl, a, _, 0, _, rfl, rfl, SqL.of ha3, a0, rfl, _, rfl, ?_⟩
          refine if_f (decide_eq_false fun e => nw (by injection e)) ⟨g, acc, hD, ?_⟩
          have z1 : i + 1 - fl ro = i - fl ro := by 
            have ef : fl ro = q.1.length + 1 := by rw [eq]; rfl
            omega
          rw [z1]
          exact hacc
        · rw [hws] at er
          have ew := Option.some.inj er
          subst ew
          obtain ⟨b1, b2⟩ := hok.ln e (List.mem_of_getElem? en)
          have nl := num_len b2
          have a0 : atI (([zLow, e.1, numS e.2] : List Str).map V.str) 0 = some (.str zLow) := rfl
          have a1 : atI (([zLow, e.1, numS e.2] : List Str).map V.str) 1 = some (.str e.1) := rfl
          have a2 : atI (([zLow, e.1, numS e.2] : List Str).map V.str) 2 = some (.str (numS e.2)) := rfl
          have nl2 : (TL.numL e.2).length ≤ 4300 := by have := numS_len e.2; omega
          refine ⟨rfl, _, rfl, a, _, 0, _, rfl, rfl, SqL.of ha3, a0, rfl, _, rfl, ?_⟩
          refine if_t (decide_eq_true rfl) ⟨_, rfl, a, _, 1, _, rfl, rfl, SqL.of ha3, a1, _, rfl, a, _, 2, _, rfl, rfl, SqL.of ha3, a2, numS e.2, (e.2 : Int), rfl, TL.int_num nl2, by omega, (show 2 ≤ sizeLine by decide), fun t nt => ?_⟩
          have gt := Grew.new g.tab (o := .tup [.str e.1, .int (e.2 : Int)]) nt
          have hD2 := gt.lst g.tab hD
          have ntD : t ≠ D := fun z => by rw [z, hD] at nt; cases nt
          have et : (ls.map numI).take (i + 1 - fl ro) = (ls.map numI).take (i - fl ro) ++ [numI e] := by
            have z1 : i + 1 - fl ro = (i - fl ro) + 1 := by omega
            rw [z1, List.take_succ, List.getElem?_map, en]
            rfl
          refine ⟨_, hD2, by rw [sizeLine_eq]; omega, (g.trans gt).write hD2 (fun _ z => by cases z) nD, acc ++ [.ref t], upd_same, ?_⟩
          rw [et]
          refine Paired.snoc (Paired.map' hacc fun x v hx => ?_) ⟨t, rfl, by rw [upd_ne ntD]; exact upd_same⟩
          obtain ⟨y, e1, e2⟩ := hx
          exact ⟨y, e1, by rw [upd_ne (fun z => by rw [z, hD] at e2; cases e2)]; exact gt.tup g.tab e2⟩
      · obtain ⟨g, acc, hD, hacc⟩ := h
        have et : (ls.map numI).take (rs2.length - fl ro) = ls.map numI := List.take_of_length_le (by rw [List.length_map]; omega)
        rw [et] at hacc
        exact ⟨D, acc, rfl, g2.trans g, R2.grew g g2.tab, hD, hacc⟩
    rintro σ H3 ⟨L, ys, rfl, g3, R3, hL, hys⟩
    have hpos : 0 < (rowsP ro ls).length := by rw [hrc]; omega
    obtain ⟨rs3, a, w0, r0, hp3, hat, ews, ha, _⟩ := R3.at hpos
    have hat0 : atI rs3 0 = some (.ref a) := hat
    refine ⟨_, rfl, p, _, 0, _, rfl, rfl, SqL.of hp3, hat0, (show 1 ≤ sizeLine by decide), fun N nN => ?_⟩
    have g4 := Grew.new g3.tab (o := .lst [V.str (Str.ofString "none")]) nN
    have ha4 := g4.lst g3.tab ha
    have hL4 := g4.lst g3.tab hL
    have hys4 : Paired (RowAt (L2.upd H3 N (.lst [V.str (Str.ofString "none")]))) (ls.map numI) ys := Paired.map' hys fun _ _ m => m.grew g4 g3.tab
    have R4 := R3.grew g4 g3.tab
    have hN4 : (L2.upd H3 N (.lst [V.str (Str.ofString "none")])) N = some (.lst (([zNone] : List Str).map V.str)) := upd_same
    have g04 := g3.trans g4
    have okw : ∀ z ∈ w0 :: r0, PyData.strOk z = true := fun z hz => by
      have hm : w0 :: r0 ∈ rowsP ro ls := by
        rw [← ews, getD_at (List.getElem?_eq_getElem hpos)]
        exact List.getElem_mem hpos
      exact ((hw _ hm).2 z hz).1
    refine ⟨_, _, .lst (SqL.of ha4) (dpAll_strs _), .lst (SqL.of hN4) (dpAll_strs _), shaped_strs okw, shaped_strs (by decide +kernel), _, rfl, ?_⟩
    rw [eqv_lists]
    have lls : (ls.map numI).length ≤ 1000 := by rw [List.length_map]; omega
    generalize L2.upd H3 N (.lst [V.str (Str.ofString "none")]) = H4 at g4 ha4 hL4 hys4 R4 hN4 g04 ⊢
    have many : ∀ {H' : Hp}, Grew P H4 H' → Paired (RowAny H') (ls.map numI) ys := fun {H'} g => Paired.map' hys4 fun _ _ m => let ⟨q, e1, e2⟩ := m.grew g g04.tab; ⟨q, e1, .inl e2⟩
    cases ro with
    | none =>
      have e0 : w0 :: r0 = [zNone] := by rw [← ews]; rfl
      rw [decide_eq_true e0]
      refine iteT ⟨_, rfl, ?_⟩
      intro z dx nz ndx nex
      have gx : Grew P H4 (L2.upd (L2.upd H4 dx (.own z)) z (.ins Pa dx [])) := (Grew.new g04.tab ndx).put (by rw [upd_ne nex.symm]; exact nz)
      refine ⟨z, dx, L, .non, none, none, ys, ls.map numI, H4, rfl, gx, g04.tab, nz, upd_same, .inl ⟨rfl, rfl⟩, hL4, many (Grew.refl g04.tab), lls, fun H5 g5 ht => ⟨rfl, ?_⟩⟩
      exact k H5 z (g04.trans g5) ht
    | some q =>
      have e0 : w0 :: r0 = [zArr, numS q.2] := by rw [← ews]; rfl
      have ne0 : ¬ w0 :: r0 = [zNone] := by
        rw [e0]
        intro e
        have := congrArg List.length e
        exact absurd this (by simp)
      rw [decide_eq_false ne0]
      obtain ⟨h1, h2, h3⟩ := hok.rn q rfl
      obtain ⟨rs4, hp4, hrs4⟩ := R4.ex
      have hlr4 := Paired.len hrs4
      have efl : fl (some q) = q.1.length + 1 := rfl
      refine iteF ⟨_, rfl, p, rfl, ⟨_, SqL.of hp4⟩, fun D nD => lc_list (K := K) (a := p) (xs := rs4) (fun i H' => Grew P H4 H' ∧ H' D = some (.lst ((q.1.take (i - 1)).map V.str)))
        ⟨Grew.new g04.tab nD, upd_same⟩ (fun i H' _ h => SqL.of (h.1.lst g04.tab hp4)) (fun i v H5 hv h => ?_) (fun H5 h => ?_)⟩
      · obtain ⟨g, hD⟩ := h
        obtain ⟨ws, hws, hrow⟩ := Paired.at hrs4 hv
        have hi := (List.getElem?_eq_some_iff.mp hws).1
        obtain ⟨b, rfl, hb⟩ := hrow
        have hb5 := g.lst g04.tab hb
        have ltk := List.length_take (i := i - 1) (l := q.1)
        rcases row_kind hi with ⟨e0, er⟩ | ⟨q', n, eq, h1', h2', en, er⟩ | ⟨e, h1', en, er⟩
        · rw [hws] at er
          have ew := Option.some.inj er
          subst ew
          have a0 : atI ((firstR (some q)).map V.str) 0 = some (.str zArr) := rfl
          refine ⟨rfl, _, rfl, b, _, 0, _, rfl, rfl, SqL.of hb5, a0, rfl, _, rfl, ?_⟩
          refine if_f (by decide +kernel) ⟨g, ?_⟩
          have z1 : i + 1 - 1 = i - 1 := by omega
          rw [z1]
          exact hD
        · rw [hws] at er
          have ew := Option.some.inj er
          subst ew
          obtain rfl := Option.some.inj eq
          have a0 : atI (([zBy, n] : List Str).map V.str) 0 = some (.str zBy) := rfl
          have a1 : atI (([zBy, n] : List Str).map V.str) 1 = some (.str n) := rfl
          refine ⟨rfl, _, rfl, b, _, 0, _, rfl, rfl, SqL.of hb5, a0, rfl, _, rfl, ?_⟩
          have et : q.1.take (i + 1 - 1) = q.1.take (i - 1) ++ [n] := by
            have z1 : i + 1 - 1 = (i - 1) + 1 := by omega
            rw [z1, List.take_succ, en]
            rfl
          refine if_t (decide_eq_true rfl) ⟨_, rfl, b, _, 1, _, rfl, rfl, SqL.of hb5, a1, _, hD, by rw [List.length_map, ltk, sizeLine_eq]; omega, g.write hD (fun _ z => by cases z) nD, ?_⟩
          rw [upd_same, et, List.map_append]
          rfl
        · rw [hws] at er
          have ew := Option.some.inj er
          subst ew
          have a0 : atI (([zLow, e.1, numS e.2] : List Str).map V.str) 0 = some (.str zLow) := rfl
          refine ⟨rfl, _, rfl, b, _, 0, _, rfl, rfl, SqL.of hb5, a0, rfl, _, rfl, ?_⟩
          refine if_f (by decide +kernel) ⟨g, ?_⟩
          rw [List.take_of_length_le (by omega)]
          rw [List.take_of_length_le (by omega)] at hD
          exact hD
      · obtain ⟨g, hD⟩ := h
        have et : q.1.take (rs4.length - 1) = q.1 := List.take_of_length_le (by omega)
        rw [et] at hD
        have R5 := R4.grew g g04.tab
        obtain ⟨rs5, a5, w5, r5, hp5, hat5, ews5, ha5, _⟩ := R5.at hpos
        have e5 : w5 :: r5 = [zArr, numS q.2] := by rw [← ews5]; rfl
        rw [e5] at ha5
        have hat50 : atI rs5 0 = some (.ref a5) := hat5
        have a1 : atI (([zArr, numS q.2] : List Str).map V.str) 1 = some (.str (numS q.2)) := rfl
        have nl := num_len h3
        have nl2 : (TL.numL q.2).length ≤ 4300 := by have := numS_len q.2; omega
        have g05 := g04.trans g
        refine ⟨_, rfl, p, _, 0, _, rfl, rfl, SqL.of hp5, hat50, a5, _, 1, _, rfl, rfl, SqL.of ha5, a1, numS q.2, (q.2 : Int), rfl, TL.int_num nl2, by omega, _, rfl, ?_⟩
        intro z dx nz ndx nex
        have gx : Grew P H5 (L2.upd (L2.upd H5 dx (.own z)) z (.ins Pa dx [])) := (Grew.new g05.tab ndx).put (by rw [upd_ne nex.symm]; exact nz)
        refine ⟨z, dx, L, .ref D, some q.1, some (q.2 : Int), ys, ls.map numI, H5, rfl, gx, g05.tab, nz, upd_same, .inr ⟨D, q.1, rfl, rfl, .inr hD⟩, g.lst g04.tab hL4, many g, lls, fun H6 g6 ht => ⟨rfl, ?_⟩⟩
        exact k H6 z (g05.trans g6) ht
end
end W

set_option Elab.async false
set_option linter.all false
set_option maxRecDepth 100000
set_option maxHeartbeats 800000
namespace MyR
open PySem PySem.Spec PyProof.Rows L2
/-! ### repr of data, where no repr is under way -/
def rRep (K : PySem.W.Frag) : List V → Hp → VK → Prop := fun xs H Q => ∃ (a : Addr) (d : PyData), xs = [.ref a] ∧ Dp K H (.ref a) d ∧ d.showable = true ∧ d.hasDict = false ∧ d.depth ≤ 8 ∧ d.shown.length ≤ sizeLine ∧ Q (.str d.shown) H
theorem call_repD {X : Cx} (hg : X.A.guards = some []) (hu : X.A.units + 64 < cLine) : CallR X (.builtin "repr") (rRep X.K) := by
  intro pins s σ H xs us Q I r h
  obtain ⟨a, d, rfl, hd, hs, hn, hp, hz, q⟩ := h
  obtain ⟨u, rfl, r1⟩ := vals1 r
  obtain rfl : u = Value.ref a := r1
  obtain ⟨as, rd⟩ := Dp.reads I d _ _ hd rfl
  exact repr_of_reads' rd hs (fun e => by rw [hn] at e; cases e) hg (by omega) (fun _ _ e => e) (fun h' u tk k => ⟨.str _, H, I.kept k, ⟨u, rfl⟩, q⟩) hz
end MyR

set_option Elab.async false
set_option linter.all false
set_option maxRecDepth 100000
set_option maxHeartbeats 2000000
namespace MyR
open PySem PySem.Spec PyProof.Rows L2
/-! ### the law's own call: here, and only here, it is known that no repr is under way -/
/-- f called by the caller of the law keeps sp -/
def RunG (P : Program) (w : World) (K : PySem.W.Frag) (mg : Str → Option Value) (base : Heap) (CX : CXT) (f : Addr) (sp : Sp) : Prop :=
  ∀ (s : Shared) (H : Hp) (a : Addr) (Q : VK) (E : XK), Env0 P w K mg base callerA [] s H → sp [.ref a] H Q E → codeAny (model P w) callerA (.call (.ref f) ⟨[.ref a], []⟩) (CR CX [] P w H s Q E) s
section
variable {P : Program} {w : World} {K : PySem.W.Frag} {mg : Str → Option Value} {base : Heap}
theorem runG_of {CX : CXT} {f : Addr} {name qual x : Str} {params : Arguments} {body : List Stmt} {scope : Scope} {dV kV doc pm cdv ct oc : Value} {an od : Option Addr} {osl : Array (Option Value)} {N : List Str} {sp : Sp}
    (lk : K.lookup f = some ⟨oc, od, .func (PySem.W.fnOf name qual params body scope dV kV doc pm an cdv ct), osl⟩) (hcd : PySem.W.codeIn K cdv qual = true) (S : FnScope N [x] scope)
    (hb : ∀ (s : Shared) (u : Value), BindsTo s (PySem.W.fnOf name qual params body scope dV kV doc pm an cdv ct) ⟨[u], []⟩ [(x, u)]) (hr : Room 8 callerA)
    (hbody : ∀ (s : Shared) (H : Hp) (a : Addr) (Q : VK) (E : XK), sp [.ref a] H Q E → ∃ t, PSs (cxOf CX P w K mg base N qual scope f cdv callerA [] s H E) body t ∧ t { nx := fun _ H' => Q .non H', rt := Q } (start N [.ref a]) H) :
    RunG P w K mg base CX f sp := fun s H a Q E e0 hsp => by
  have up : ∀ b o, base.get? b = some o → s.heap.get? b = some o := fun b o e => (e0.bs b o e).1
  have KX : K.In s.heap := e0.mod.kin.keeps up
  have hx : scope.names.lookup x = some .local ∨ (scope.names.lookup x = some .cell ∧ ((cellsFrom (s.heap.objs.size + 1) scope.names []).lookup x).isSome = true) :=
    (S.par x (List.mem_singleton.mpr rfl)).imp id fun q => ⟨q, PySem.W.cellsFrom_some _ _ _ (.inl q)⟩
  refine codeAny_call_function hr.depth (KX _ _ lk) rfl S.co S.gen rfl (PySem.W.codeRec_of KX hcd) (hb s (.ref a) _ _ _ _ ?_)
  refine wpAny_newFunctionEnv_cells S.kind (fun y hy => by rw [List.mem_singleton.mp hy]; exact hx) fun env he s1 st => ?_
  subst he
  refine ⟨(e0.mod.nolimit.keeps up).keeps st.toInCall.keep, codeAny_func ?_⟩
  obtain ⟨t, ht, hq⟩ := hbody s H a Q E hsp
  have I : Inv (cxOf CX P w K mg base N qual scope f cdv callerA [] s H E) [] (start N [.ref a]) H s1 := inv_start S hr.hd e0 rfl (.cons rfl .nil) st
  have out : ∀ {σ2 : L2.St} {H2 : Hp} {s2 : Shared} {v : V} {u : Value}, Inv (cxOf CX P w K mg base N qual scope f cdv callerA [] s H E) [] σ2 H2 s2 → RelV v u → Q v H2 → CE [] P w H s Q u s2 :=
    fun {σ2 H2 s2 v u} J rv q => ⟨v, H2, J.os, J.bare, J.base, J.hok, rv, q⟩
  refine wpAny_mono (ht.run [] s1 _ H _ I hq) (fun fl s2 hs => ?_) fun _ _ z => z
  match fl, hs with
  | .ret u, ⟨v, σ2, H2, J, rv, q⟩ => exact out J rv q
  | .next, ⟨σ2, H2, J, q⟩ => exact out (v := V.non) (u := Value.none) J rfl q
  | .brk, ⟨_, _, _, z⟩ => exact z.elim
  | .cont, ⟨_, _, _, z⟩ => exact z.elim
/-- what is tracked at the top: the one table, and the script where it is not written down -/
def topH (K : PySem.W.Frag) (T a : Addr) (o : Obj) (xs : List V) : Hp := fun b => if b = T then some (.tbl #[]) else if b = a ∧ K.lookup a = none then some (.frz o (.lst xs)) else none
theorem topH_cases {T a b : Addr} {o : Obj} {xs : List V} {u : HO} (h : topH K T a o xs b = some u) : (b = T ∧ u = .tbl #[]) ∨ (b ≠ T ∧ b = a ∧ K.lookup a = none ∧ u = .frz o (.lst xs)) := by
  unfold topH at h
  by_cases h1 : b = T
  · rw [if_pos h1] at h
    exact .inl ⟨h1, (Option.some.inj h).symm⟩
  · rw [if_neg h1] at h
    by_cases h2 : b = a ∧ K.lookup a = none
    · rw [if_pos h2] at h
      exact .inr ⟨h1, h2.1, h2.2, (Option.some.inj h).symm⟩
    · rw [if_neg h2] at h
      cases h
theorem top_call {mb : Str → Option Value} {CX : CXT} {f a c T : Addr} {sp : Sp} {s : Shared} {vs : List Value} {ns : List Int} (KX : K.In s.heap) (G : s.heap.Ns mainGlobals mg) (B : s.heap.Ns builtinsNs mb) (hB : ∀ x : Str, x ≠ "__name__" → mb x = bootBuiltins x) (lim : s.heap.NoLimit) (ng : s.gens = #[])
    (eT : s.heap.get? T = some { cls := .none, data := .fields #[] }) (nT : K.lookup T = none) (C : PySem.W.CodeHd s.heap c T)
    (hbm : ∃ (bm : Addr) (ob : Obj), mg "__builtins__" = some (.ref bm) ∧ bm ≠ builtinsNs ∧ s.heap.get? bm = some ob ∧ ob.cls = .type "module" ∧ ob.dict = some builtinsNs ∧ ob.data = .plain)
    (ea : s.heap.get? a = some { cls := .type "list", data := .seq vs.toArray }) (hi : IntsAre vs ns) (hl : ns.length ≤ sizeLine)
    (R : ∀ base : Heap, K.In base → base.Ns mainGlobals mg → LamX.TabB base mg c T → RunG P w K mg base CX f sp)
    (hsp : ∀ H : Hp, H T = some (.tbl #[]) → SqL K H a (ns.map V.int) → sp [.ref a] H (fun v _ => v = .bl true) fun _ _ _ => False)
    (no : ∀ H e s', CX [] H s (fun _ _ _ => False) e s' → False) :
    codeAny (model P w) callerA (.call (.ref f) ⟨[.ref a], []⟩) (fun r s' => r = .ok (.ret (.bool true)) ∧ OldK s.heap s'.heap ∧ s'.os = s.os ∧ AllBare s'.gens) s := by
  have rv := vals_ints hi
  have nz : a ≠ T := fun z => by
    rw [z, eT] at ea
    cases ea
  obtain ⟨H, eH⟩ : ∃ H, H = topH K T a { cls := .type "list", data := .seq vs.toArray } (ns.map V.int) := ⟨_, rfl⟩
  have tr : ∀ {b : Addr} {u : HO}, H b = some u → _ := fun {b u} h => topH_cases (by rw [eH] at h; exact h)
  have HT : H T = some (.tbl #[]) := by
    rw [eH]
    exact if_pos rfl
  have hS : SqL K H a (ns.map V.int) := by
    cases q : K.lookup a with
    | none => exact .inl (.inr ⟨_, by rw [eH]; exact (if_neg nz).trans (if_pos ⟨rfl, q⟩)⟩)
    | some o =>
      have e := KX a o q
      rw [ea] at e
      cases e
      exact .inr ⟨_, vs.toArray, _, q, rfl, rfl, rfl, by rw [List.size_toArray, hi.length]; exact hl, by simpa using rv⟩
  have ok : HOk P w H s.heap := fun b u h => by
    rcases tr h with ⟨rfl, rfl⟩ | ⟨_, rfl, _, rfl⟩
    · exact eT
    · exact ⟨ea, by rw [List.length_map]; exact hl, vs, _, rv, ea⟩
  have gone : ∀ {b : Addr} {o : Obj}, s.heap.get? b = some o → (∀ xs n, o.data ≠ .seq xs n) → o.data ≠ .fields #[] → H b = none := fun {b o} e d1 d2 => by
    cases h : H b with
    | none => rfl
    | some u =>
      rcases tr h with ⟨rfl, _⟩ | ⟨_, rfl, _, _⟩
      · rw [eT] at e
        cases e
        exact (d2 rfl).elim
      · rw [ea] at e
        cases e
        exact (d1 _ _ rfl).elim
  have toB : ∀ {b : Addr} {m : Str → Option Value}, s.heap.Ns b m → (hidT s.heap H).Ns b m := fun {b m} ⟨o, es, ep, e, d, r⟩ =>
    ⟨o, es, ep, hidT_get e (gone e (fun xs n z => by rw [d] at z; cases z) (fun z => by rw [d] at z; cases z)), d, r⟩
  have KB : K.In (hidT s.heap H) := fun b o e => hidT_get (KX b o e) (by
    cases h : H b with
    | none => rfl
    | some u =>
      rcases tr h with ⟨rfl, _⟩ | ⟨_, rfl, k, _⟩
      · rw [nT] at e; cases e
      · rw [k] at e; cases e)
  have TB : LamX.TabB (hidT s.heap H) mg c T := by
    refine ⟨?_, ?_, fun z => ?_⟩
    · obtain ⟨o, us, file, tf, flags, tg, inF, text, tt, e1, r1, r2, r3, r⟩ := C
      exact ⟨o, us, file, tf, flags, tg, inF, text, tt, hidT_get e1 (gone e1 (fun xs n z => by rw [r2] at z; cases z) (fun z => by rw [r2] at z; cases z; simp at r3)), r1, r2, r3, r⟩
    · obtain ⟨bm, ob, b1, b2, b3, b4, b5, b6⟩ := hbm
      refine ⟨bm, ob, b1, b2, fun z => ?_, fun z => ?_, hidT_get b3 (gone b3 (fun xs n z => by rw [b6] at z; cases z) (fun z => by rw [b6] at z; cases z)), b4, b5, b6⟩
      · obtain ⟨o, es, ep, e, d, _⟩ := G
        rw [z, e] at b3
        cases b3
        rw [d] at b6
        cases b6
      · rw [z, eT] at b3
        cases b3
        cases b6
    · obtain ⟨o, es, ep, e, d, _⟩ := G
      rw [z, eT] at e
      cases e
      cases d
  have e0 : Env0 P w K mg (hidT s.heap H) callerA [] s H :=
    ⟨rfl, ⟨KB, toB G, ⟨mb, toB B, hB⟩, let ⟨mc, h1, h2⟩ := lim; ⟨mc, toB h1, h2⟩⟩, fun b o e => of_hidT e, Nat.le_of_eq (hidT_size _ _), trivial, fun b hb => absurd (show b ∈ ([] : List Addr) from hb) (by simp), ok, .of_eq ng⟩
  refine codeAny_mono (R _ KB (toB G) TB s H a _ _ e0 (hsp H HT hS)) fun r s' h => ?_
  match r, h with
  | .error e, h => exact (no H e s' h).elim
  | .ok .next, h => exact False.elim h
  | .ok .brk, h => exact False.elim h
  | .ok .cont, h => exact False.elim h
  | .ok (.ret u), ⟨v, H', os, bare, un, ok', r', q⟩ =>
    obtain rfl : v = .bl true := q
    obtain rfl : u = Value.bool true := r'
    obtain ⟨more, hm⟩ : ∃ more : Array Value, s'.heap.get? T = some { cls := .none, data := .fields more } := by
      obtain ⟨more, z⟩ := un.tbls T #[] HT
      exact ⟨_, ok' T _ z⟩
    have old : ∀ b o, b ≠ T → s.heap.get? b = some o → s'.heap.get? b = some o := fun b o ne e => by
      cases h : H b with
      | none => exact un.keep b o e h (fun z => absurd (show b ∈ ([] : List Addr) from z) (by simp)) (by simp)
      | some u =>
        rcases tr h with ⟨z, _⟩ | ⟨_, rfl, _, rfl⟩
        · exact absurd z ne
        · obtain ⟨e2, _⟩ := ok' b _ (un.frzs b _ _ h)
          rw [ea] at e
          cases e
          exact e2
    refine ⟨rfl, ⟨fun b o e => ?_, fun b o e => ?_⟩, os, bare⟩
    · by_cases hb : b = T
      · subst hb
        rw [eT] at e
        cases e
        exact .inr (.inl ⟨(C.tab eT).isCodeTable, rfl, #[], more, rfl, by rw [Array.empty_append]; exact hm⟩)
      · exact .inl (old b o hb e)
    · by_cases hb : b = T
      · rw [hb]
        exact ⟨_, hm⟩
      · exact ⟨o, old b o hb e⟩
end

/-- what the law's end asks: the table T of the code object c, and the promise sp -/
def LawG (l : PySem.W.OpenLaw) (w : World) (K : PySem.W.Frag) (CX : CXT) (n : Nat) (mg : Str → Option Value) (fa : Addr) (h : Heap) : Prop :=
  ∃ (c T : Addr) (sp : Sp), h.get? T = some { cls := .none, data := .fields #[] } ∧ K.lookup T = none ∧ PySem.W.CodeHd h c T ∧
    (∀ (H : Hp) (a : Addr) (ns : List Int), ns.length ≤ n → H T = some (.tbl #[]) → SqL K H a (ns.map V.int) → sp [.ref a] H (fun v _ => v = .bl true) fun _ _ _ => False) ∧
    ∀ base : Heap, K.In base → base.Ns mainGlobals mg → LamX.TabB base mg c T → RunG l.prog w K mg base CX fa sp
theorem walk_ofG {l : PySem.W.OpenLaw} {n : Nat} {q : Program} {loose : List Str} {XP : (Str → Option Value) → Heap → Prop} {YP : World → Heap → Prop} {d : DefRec} {K : Params → PySem.W.Frag} {CX : World → CXT} (names : List Str)
    (hn : l.most = some n) (hn2 : n ≤ sizeLine) (hdf : d.params.defaults = []) (hrec : names.all (fun y => (recsOf q).any fun e => e.name == y) = true) (hY : ∀ (w : World) (h : Heap), YP w h → (K w.params).In h)
    (F : ∀ (w : World) (mg : Str → Option Value) (fa : Addr) (h : Heap), YP w h → (K w.params).In h → h.Ns mainGlobals mg → mg d.name = some (.ref fa) → (∀ y ∈ names, ∀ f, mg y = some (.ref f) → LamX.OwnTab (K w.params) f h) → LawG l w (K w.params) (CX w) n mg fa h)
    (no : ∀ (w : World) (H : Hp) (s : Shared) (e : Value) (s' : Shared), CX w [] H s (fun _ _ _ => False) e s' → False) :
    PySem.W.WalkO q loose XP YP l.row.toRowW d [] (fun f vs => PySem.call f vs) := by
  refine Att.attach_callB hn hdf fun w s₀ s₁ mg mb fa o pm cd doc a vs ns G Y ho hd hcd hmg hobj hints hlen hbits hg => ?_
  have KX := hY w _ Y
  obtain ⟨c, T, sp, eT, nT, C, hsp, R⟩ := F w mg fa _ Y KX G.T.g hmg (fun y hy f hf c P o1 fd1 e dd vs1 sl k1 k2 k3 k4 k5 => by
    obtain ⟨dL, hm, hn1⟩ := List.any_eq_true.mp (List.all_eq_true.mp hrec y hy)
    obtain ⟨a', o', fd', c', P', h1, h2, h3, h4, h5, h6⟩ := G.T.tab dL hm
    rw [beq_iff_eq.mp hn1, hf] at h1
    cases h1
    have g1 := KX _ _ k1
    rw [g1] at h2
    cases h2
    rw [k2] at h3
    cases h3
    rw [k3] at h4
    cases h4
    obtain ⟨⟨oc, vc, e1, _, e3, e4⟩, hP⟩ := h6
    have g2 := KX _ _ k4
    rw [g2] at e1
    cases e1
    cases e3
    rw [k5] at e4
    cases e4
    exact hP)
  exact top_call KX G.T.g G.T.b G.T.builtins G.T.nolimit hg eT nT C G.T.bmain hobj hints (Nat.le_trans hlen hn2) R (fun H hH hS => hsp H a ns hlen hH hS) fun H e s' => no w H s₁ e s'
end MyR

set_option Elab.async false
set_option linter.all false
set_option maxRecDepth 100000
set_option maxHeartbeats 800000
namespace W
open PySem PySem.Spec PyProof.Rows L2 GxR MyG MyS
/-! ### isinstance of a caught error with fields -/
structure ExcD (K : PySem.W.Frag) (D : Addr) : Prop where
  cl : (PySem.W.clsIn K D).isSome = true
  hg : PySem.W.findIn K (.ref D) "__getattribute__" = some (some (.builtin "BaseException.__getattribute__"))
  hk : PySem.W.findIn K (.ref D) "__getattr__" = some none
  hs : PySem.W.subIn K (.ref D) (.type "BaseException") = some true
  ha : PySem.W.findIn K (.ref D) "__class__" = some (some (.builtin "object.__class__"))
  hn : PySem.W.specialIn K (.builtin "object.__class__") "__get__" = some (some (.builtin "getset_descriptor.__get__"))
  ht : PySem.W.takesIn K (.builtin "object.__class__") = some true
  hm : PySem.W.mroIn K D (.type "object") = some true
def rIsD (K : PySem.W.Frag) (D a : Addr) (cls : Value) (d : Option Addr) : List V → Hp → VK → Prop := fun xs H Q => ∃ (c : V) (cv : Value) (dd : Addr) (fs : List (Str × V)) (b : Bool), xs = [.ref a, c] ∧ cls = .ref D ∧ d = some dd ∧ (∀ u, RelV c u → u = cv) ∧ H dd = some (.xd fs) ∧ PySem.W.kitOne K (.ref D) cv = some b ∧ Q (.bl b) H
theorem call_isD {X : Cx} {a D : Addr} {cls : Value} {d : Option Addr} {oe : Obj} {pn : List (Addr × Obj)} (C : ExcD X.K D) (hz : Zc cls d oe) (hf : ∃ vs, oe.data = .fields vs) : CallR (X.suite a ((a, oe) :: pn)) (.builtin "isinstance") (rIsD X.K D a cls d) := by
  intro pins s σ H xs us Q I r h
  obtain ⟨c, cv, dd, fs, b, rfl, rfl, rfl, hcv, ed, e, q⟩ := h
  obtain ⟨u1, u2, rfl, r1, r2⟩ := vals2 r
  obtain rfl : u1 = Value.ref a := r1
  obtain rfl : u2 = cv := hcv _ r2
  obtain ⟨hget, _⟩ := I.pin (a, oe) (List.mem_append.mpr (.inl List.mem_cons_self))
  obtain ⟨vs, hd⟩ := hf
  have hx : ObjOk X.prog X.w H s.heap dd (.xd fs) := I.hok dd _ ed
  obtain ⟨mA, hns, hr⟩ := hx
  obtain ⟨od, ho, hl⟩ := lookIn_ns hns
  have J : PySem.W.InstAt s.heap a oe D (some od) := ⟨hget, hz.1, by unfold PySem.W.notCls; rw [hd] <;> rfl, by rw [hz.2]; exact ho⟩
  exact PySem.W.kia_one (PySem.W.kitx_exc C.cl C.hg C.hk C.hs C.ha C.hn C.ht C.hm) I.kIn J e (fun z => nomatch z) fun tk => ⟨.bl b, H, I.kept (t' := tk) fun _ _ z => z, rfl, q⟩
/-! ### super().__init__(..) of an own error: the bound __init__ called -/
section
variable {prog : Program} {w : World} {A : Around} {E : Value → Shared → Prop} {h : Heap} {g : Array GenState} {d : Drawn} {t : Nat} {os : OsState}
variable {nm q : Str} {C N : Addr} {bs bm bmB : List Value} {hdct : Bool} {sn : List Str} {sub : List Value} {ab : Bool} {col : Option Bool} {dd : Option Addr} {k0 k1 k2 k3 k5 : Option Value} {newId initId : String} {B : String}
theorem call_mw (FB : ExcBaseFacts B newId initId bmB) {u a t0 : Addr} {rest : List Value} {Q : Value → Shared → Prop} (hu : h.get? u = some (PySem.W.kxs_mw initId a)) (hC : h.get? C = some (excClassObj nm q C N bs bm hdct sn sub ab col dd k0 k1 k2 k3 k5 newId)) (he : h.get? a = some (PySem.HandSPX.excO C t0)) (hz : rest.length ≤ sizeLine)
    (hq : ∀ h' t1, (∀ b o, b ≠ a → h.get? b = some o → h'.get? b = some o) → h'.get? a = some (PySem.HandSPX.excO C t1) → Q .none ⟨h', g, d, t, os⟩) :
    wpAny (model prog w) A (call (.ref u) rest) Q E ⟨h, g, d, t, os⟩ := by
  refine wpAny_call (codeAny_of_tree ?_)
  show wpAny _ A.in1 (callAny (.ref u) ⟨rest, []⟩) _ _ _
  simp only [callAny]
  refine wpAny_bind (wpAny_load hu ?_)
  simp only [PySem.W.kxs_mw, show (Value.type "method-wrapper" == Value.type "method" || Value.type "method-wrapper" == Value.type "builtin_function_or_method" || Value.type "method-wrapper" == Value.type "method-wrapper") = true by decide, if_true]
  refine PySem.W.KFB.if_so (by decide) ?_
  refine wpAny_bind (PySem.W.check_bound_init FB.toExcCallFacts hC he rfl ?_)
  refine wpAny_bind (wpAny_pure (wpAny_pure ?_))
  refine ⟨plainId_quiet FB.init.plain _, codeAny_builtin FB.initEntry ?_⟩
  exact PySem.W.exc_init_tree (cls := .ref C) (t0 := t0) (dv := none) (c2 := .none) (c3 := .none) (b4 := .bool false) he hz fun h' k e1 _ => hq h' _ k e1
end
end W

set_option Elab.async false
set_option linter.all false
set_option maxRecDepth 100000
set_option maxHeartbeats 1000000
namespace W
open PySem PySem.Spec PyProof.Rows L2 GxR MyG MyS MyR
/-! ### InvalidPaper.__init__ -/
abbrev sIPInit : Stmt := inClass (top 7) 0
def spPInit (K : PySem.W.Frag) (R : Addr) : Sp := fun vs H Q _ => ∃ (a : Addr) (n : Int), vs = [.ref a, .int n] ∧ 0 ≤ n ∧ n ≤ 1000 ∧ H a = some (exo a R none) ∧ ∀ dx, H dx = none → dx ≠ a → Q .non (L2.upd (L2.upd H dx (exd dx [("line", V.int n)])) a (exo a R (some dx)))
def scFakeL : Scope := { kind := .function, names := [("self", .local), ("line", .local)], isGenerator := false, isCoroutine := false, more := [] }
theorem scFakeLOk : FnScope ["self", "line"] ["self", "line"] scFakeL := ⟨rfl, rfl, rfl, by decide +kernel, rfl, by decide +kernel, by decide +kernel⟩
abbrev fdIP (dV kV doc pm : Value) (an : Option Addr) (cda : Addr) (ct : Value) (cc : Addr) : FuncData := PySem.W.fnX "__init__" "InvalidPaper.__init__" (defArgs sIPInit) (defBody sIPInit) (defScope sIPInit) [("__class__", cc)] dV kV doc pm an (.ref cda) ct
section
variable {Pg : Program} {w : World} {K : PySem.W.Frag} {mg : Str → Option Value} {base : Heap} {C P : Addr}
theorem ok_pinit {CX : CXT} {f U cc cda : Addr} {oc ccl cl dV kV doc pm ct : Value} {od cdd cld an : Option Addr} {osl ccs csl : Array (Option Value)} {vs : Array Value} {file : Str} {tf : Tok}
    (lk : K.lookup f = some ⟨oc, od, .func (fdIP dV kV doc pm an cda ct cc), osl⟩) (hcd : PySem.W.codeIn K (.ref cda) "InvalidPaper.__init__" = true) (hcode : K.lookup cda = some ⟨ccl, cdd, .fields vs, ccs⟩) (hvs : vs[2]? = some (.str file tf)) (hfile : ((Pg.main.file : Str) == file) = true)
    (hcell : K.lookup cc = some ⟨cl, cld, .cell (some (.ref U)), csl⟩) (hsuper : mg "super" = none) (htop : (Pg.main.scope.names.lookup ("super" : Str)).isSome = false)
    (TU : OexC K U) (hmU : PySem.W.mroIn K U (.ref U) = some true) (hop : PySem.W.nsIn K cStatics "thirdparty.any" = some none) (hsi : PySem.W.ks_superIn K U U "__init__" = some (some (.builtin "ValueError.__init__"))) (hsV : PySem.W.subIn K (.ref U) (.type "ValueError") = some true)
    (hno : PySem.W.findIn K (.ref U) "line" = some none) : FnOk Pg w K mg base CX 1 f (fdIP dV kV doc pm an cda ct cc) ["self", "line"] (spPInit K U) := by
  have len : ∀ vs H Q E, spPInit K U vs H Q E → vs.length = 2 := by
    rintro vs H Q E ⟨a, z, rfl, _⟩
    rfl
  refine ⟨len, fun A outer s H args us vs2 Q E hr e0 hb r hsp => ?_⟩
  obtain ⟨a, z, rfl, hz0, hz, ea, kq⟩ := hsp
  obtain ⟨u1, u2, rfl, r1, r2⟩ := vals2 r
  obtain rfl : u1 = Value.ref a := r1
  obtain ⟨tk, rfl⟩ := r2
  have KX : K.In s.heap := e0.mod.kin.keeps fun b o e => (e0.bs b o e).1
  have lim : s.heap.NoLimit := e0.mod.nolimit.keeps fun b o e => (e0.bs b o e).1
  obtain ⟨cnm, cq, cN, cbs, cbm, csn, csub, cab, ccol, cdd2, c0, c1, c2, c3, c5, hC, hbm⟩ := TU.cls
  refine PySem.ks_codeAny_call_defAt (body := defBody sIPInit) (binds := (["self", "line"] : List Str).zip [Value.ref a, Value.int z tk]) hr.depth (KX _ _ lk) rfl lim (PySem.W.codeRec_of KX hcd) rfl hb (show ∀ x ∈ (defScope sIPInit).names, x.2 ≠ .cell by decide +kernel) (by
    intro y hy
    rcases List.mem_cons.mp hy with e | hy
    · subst e; show (defScope sIPInit).names.lookup ("self" : Str) = some .local; decide +kernel
    · rw [List.mem_singleton.mp hy]; show (defScope sIPInit).names.lookup ("line" : Str) = some .local; decide +kernel) (fun h0 hns hk => ?_) rfl rfl rfl
  have em : (fun x => ((["self", "line"] : List Str).zip [Value.ref a, Value.int z tk]).reverse.lookup x) = bindL (envOfC "InvalidPaper.__init__" scFakeL s.heap.objs.size f (.ref cda)).kindOf ((["self", "line"] : List Str).zip [Value.ref a, Value.int z tk]) fun _ => none := by
    funext y
    show ([(("line" : Str), Value.int z tk), ("self", Value.ref a)] : List (Str × Value)).lookup y = if y = "line" then some (Value.int z tk) else if y = "self" then some (Value.ref a) else none
    by_cases h1 : y = ("line" : Str)
    · subst h1; rw [if_pos rfl]; rfl
    · rw [if_neg h1]
      by_cases h2 : y = ("self" : Str)
      · subst h2; rw [if_pos rfl]; rfl
      · rw [if_neg h2]
        simp [List.lookup, h1, h2, beq_eq_false_iff_ne.mpr h1, beq_eq_false_iff_ne.mpr h2]
  have I : Inv (cxOf CX Pg w K mg base ["self", "line"] "InvalidPaper.__init__" scFakeL f (.ref cda) A outer s H E) [] (L2.start ["self", "line"] [.ref a, .int z]) H { s with heap := h0, toks := s.toks + 2 } :=
    inv_start scFakeLOk hr.hd e0 rfl (.cons rfl (.cons ⟨tk, rfl⟩ .nil)) ⟨⟨⟨h0, s.toks + 2, rfl⟩, by rw [← em]; exact hns, hk, Nat.le_refl _⟩, fun n c e => (by cases e), List.Pairwise.nil, fun n c e => (by cases e)⟩
  refine PySem.ks_wpAt_execs_cons (PySem.ks_wpAt_Expr_any (PySem.ks_wpAt_MethodCall ?_))
  have K0 : K.In h0 := KX.keeps hk
  obtain ⟨t1, ho⟩ := exo_at e0.hok ea
  have ho0 : h0.get? a = some (PySem.HandSPX.excO U t1) := hk a _ ho
  have hcl : PySem.W.clsIn K U = some { name := cnm, bases := cbs, mro := .ref U :: cbm, ns := cN, qualname := cq, hasDict := true, slotNames := csn, subclasses := csub, abstract := cab, collection := ccol, hasDel := false } := by unfold PySem.W.clsIn; rw [hC] <;> rfl
  obtain ⟨mb, hb1, hb2⟩ := e0.mod.blt
  have bk0 : ∀ b o, base.get? b = some o → h0.get? b = some o := fun b o e => hk b o (e0.bs b o e).1
  have m1 : (fun x => ((["self", "line"] : List Str).zip [Value.ref a, Value.int z tk]).reverse.lookup x) "self" = some (Value.ref a) := rfl
  refine PySem.ks_wpAt_super_base (f := f) (fd := fdIP dV kV doc pm an cda ct cc) (show (defScope sIPInit).names.lookup ("super" : Str) = some .globalImplicit by decide +kernel) (show (defScope sIPInit).names.lookup ("__class__" : Str) = some .free by decide +kernel) (by decide) rfl (hk _ _ (KX _ _ lk)) rfl rfl rfl (K0 _ _ hcode) rfl hvs hfile htop ?_
  refine PySem.W.ks_loadName_global rfl (show (defScope sIPInit).names.lookup ("super" : Str) = some .globalImplicit by decide +kernel) (Calls.loadGlobal_builtin (e0.mod.glob.keeps bk0) hsuper (hb1.keeps bk0) ((hb2 "super" (by decide)).trans (by decide +kernel)) ⟨rfl, ?_⟩)
  refine wpAny_loadName_free rfl (show (defScope sIPInit).names.lookup ("__class__" : Str) = some .free by decide +kernel) rfl ⟨_, K0 _ _ hcell, rfl⟩ ?_
  refine wpAny_loadName_local rfl (show (defScope sIPInit).names.lookup ("self" : Str) = some .local by decide +kernel) hns m1 ?_
  refine PySem.ks_wpAny_isType_cls (K0 _ _ hC) rfl ⟨rfl, ?_⟩
  refine PySem.ks_wpAny_call_super (K0 _ _ hC) rfl ho0 rfl (fun c e => by cases e) (PySem.W.looks_mroIn K0 hmU) (fun h1 e1 k1 => ?_)
  have K1 : K.In h1 := K0.keeps k1
  have J1 : PySem.W.InstAt h1 a (PySem.HandSPX.excO U t1) U none := ⟨k1 _ _ ho0, rfl, rfl, trivial⟩
  have hsi' := hsi
  unfold PySem.W.ks_superIn at hsi'
  rw [hcl] at hsi'
  refine PySem.W.kxs_getMethod PySem.W.kxs_ValueError e1 (PySem.W.looks_opaque K1 hop) (l₀ := .ref U :: cbm) (fun A Q E s k q => wpAny_bind ((PySem.W.looks_clsIn K1 hcl) A _ E s k (wpAny_pure q))) rfl K1 hsi' (J1.type.andThen (PySem.W.looks_subIn K1 hsV)) (PySem.W.ks_ne K1 J1 hcl) (by decide) ?_
  have I1 : Inv (cxOf CX Pg w K mg base ["self", "line"] "InvalidPaper.__init__" scFakeL f (.ref cda) A outer s H E) [] (L2.start ["self", "line"] [.ref a, .int z]) H ⟨h1.push (PySem.W.kxs_mw "ValueError.__init__" a), s.gens, s.drawn, s.toks + 2 + 1, s.os⟩ :=
    I.kept (t' := s.toks + 2 + 1) fun b o q => Heap.get?_push_of_some _ (k1 b o q)
  have hu1 : (h1.push (PySem.W.kxs_mw "ValueError.__init__" a)).get? h1.objs.size = some (PySem.W.kxs_mw "ValueError.__init__" a) := Heap.get?_push_size _ rfl
  have look : ∀ {x : Str} {v : V} {st : Shared} {σ0 : L2.St} {H0 : Hp} (j : Nat), Inv (cxOf CX Pg w K mg base ["self", "line"] "InvalidPaper.__init__" scFakeL f (.ref cda) A outer s H E) [] σ0 H0 st → (["self", "line"] : List Str)[j]? = some x → σ0[j]? = some (some v) → scFakeL.names.lookup x = some .local → (defScope sIPInit).names.lookup x = some .local →
      (x == ("__debug__" : Str)) = false → ∀ (p : Pos) (Q' : Value → Shared → Prop) (E' : Value → Shared → Prop) (A' : Around), (∀ u, RelV v u → Q' u st) → wpAny (model Pg w) A' (eval (.Name x p) (callEnv (fdIP dV kV doc pm an cda ct cc) s.heap.objs.size f)) Q' E' st := by
    intro x v st σ0 H0 j J e1 e2 e3 e4 hdb p Q' E' A' hQ
    obtain ⟨m, hn, hm⟩ := J.loc
    obtain ⟨u, ru, lu⟩ := hm j x v e1 e2 (.inl e3)
    have e5 : m x = some u := by
      rcases lu with ⟨_, q⟩ | ⟨q, _⟩
      · exact q
      · have q' : scFakeL.names.lookup x = some .cell ∨ scFakeL.names.lookup x = some .free := q
        rw [e3] at q'
        rcases q' with q' | q' <;> cases q'
    exact wpAny_Name (wpAny_loadName_local rfl e4 hn e5 (hQ u ru)) hdb
  refine PySem.W.kxs_callWith (i := "ValueError.__init__") (x := a) (by rfl) (Calls.evalArgs_plain ?_)
  refine PyProof.Rows.args_cons (wpAny_JoinedStr ?_) rfl
  refine Calls.Constant_str ⟨_, _, rfl, (show (Str.empty ++ Str.ofString "invalid paper in line ").length ≤ sizeLine by decide +kernel), ?_⟩
  have I2 := I1.tok (s.toks + 2 + 1 + 1)
  refine wpAny_FormattedValue_plain (look 1 I2 rfl rfl rfl (by decide +kernel) (by decide) _ _ _ _ fun u ru => ?_)
  obtain ⟨tk2, rfl⟩ := ru
  have hlz : (((toString z : String) : Str)).length ≤ 13 := by
    have q := PyData.shown_int_le (i := z) (by omega)
    rw [PyData.shown_int] at q
    exact q
  have hlen : ((Str.empty ++ Str.ofString "invalid paper in line ") ++ ((toString z : String) : Str)).length ≤ 200 := by
    rw [PySem.Str.length_append]
    have e : (Str.empty ++ (Str.ofString "invalid paper in line ")).length ≤ 100 := by decide +kernel
    omega
  have eu : L2.upd H a (exo a U none) = H := by
    funext b
    by_cases hb : b = a
    · rw [hb, upd_same, ea]
    · rw [upd_ne hb]
  have hC1 : (h1.push (PySem.W.kxs_mw "ValueError.__init__" a)).get? U = _ := Heap.get?_push_of_some _ (K1 _ _ hC)
  have he1 : (h1.push (PySem.W.kxs_mw "ValueError.__init__" a)).get? a = some (PySem.HandSPX.excO U t1) := Heap.get?_push_of_some _ (k1 _ _ ho0)
  refine wpAny_formatField_int (Nat.lt_of_le_of_lt (Nat.log2_le_self _) (by omega)) ⟨_, _, rfl, by rw [sizeLine_eq]; omega, by rw [sizeLine_eq]; omega, PyProof.Rows.args_nil ⟨hu1, ?_⟩⟩
  refine call_mw PySem.F.excBase_ValueError hu1 hC1 he1 (by show 1 ≤ sizeLine; decide) (fun h5 t5 k5 e5 => ?_)
  have J5 := I1.write (t' := s.toks + 2 + 1 + 1 + 1) (x := a) (e := a) (o := exo a U none) (by rw [ea]; exact True.intro) (.inl rfl) k5 ⟨_, e5⟩ (exo_ok e5)
  rw [eu] at J5
  have J6 := fun tk => J5.tok tk
  refine PySem.ks_wpAt_execs_cons (PySem.ks_wpAt_Assign_Attr (PySem.wpAt_of_wpAny (look 1 (J6 _) rfl rfl rfl (by decide +kernel) (by decide) _ _ _ _ fun u2 r2 => look 0 (J6 _) rfl rfl rfl (by decide +kernel) (by decide) _ _ _ _ fun u3 r3 => ?_)))
  obtain rfl : u3 = Value.ref a := r3
  refine ost_new TU (J6 _) ea hno r2 fun dx s' nd ne J' => ?_
  refine PySem.wpAt_of_wpAny (wpAny_pure ?_)
  exact ⟨.non, _, J'.os, J'.bare, J'.base, J'.hok, rfl, kq dx nd ne⟩
end
end W

set_option Elab.async false
set_option linter.all false
set_option maxRecDepth 100000
set_option maxHeartbeats 2000000
namespace W
open PySem PySem.Spec PyProof.Rows L2 GxR MyG MyS MyR
/-- the error of a line -/
def BadL (IP : Addr) (H : Hp) (E : XK) (n : Int) : Prop := ∀ e, H e = none → E (.ref IP) (some e) (L2.upd H e (.xd [("line", V.int n)]))
/-- a text whose row at i is the first that cannot stand -/
def spParseX (IP P Pn : Addr) : Sp := fun vs H Q E => ∃ (z : Str) (ls : List Str) (i : Nat), vs = [.str z] ∧ Txt.split z zNl = ls ∧ z.length ≤ 10000 ∧ ls.length ≤ 900 ∧ (∀ l ∈ ls, l.length ≤ 1000) ∧ (∀ ws ∈ ls.map (fun l => Txt.split l zSp), ws ≠ [] ∧ ∀ x ∈ ws, PyData.strOk x = true ∧ x.length ≤ 1000) ∧
  i < ls.length ∧ (∀ j, j < i → canStand (ls.map fun l => Txt.split l zSp) j = true) ∧ canStand (ls.map fun l => Txt.split l zSp) i = false ∧ TabG H P ∧ TabG H Pn ∧ ∀ H', Grew P H H' → BadL IP H' E ((i : Int) + 1)
theorem flown {H : Hp} {U a dx : Addr} {fs : List (Str × V)} (na : H a = none) (ndx : (L2.upd H a (exo a U none)) dx = none) : L2.upd (del (L2.upd (L2.upd (L2.upd H a (exo a U none)) dx (exd dx fs)) a (exo a U (some dx))) a) dx (.xd fs) = L2.upd H dx (.xd fs) := by
  funext b
  by_cases h1 : b = dx
  · subst h1; rw [upd_same, upd_same]
  · rw [upd_ne h1, upd_ne h1]
    by_cases h2 : b = a
    · subst h2; rw [del_same, na]
    · rw [del_ne h2, upd_ne h2, upd_ne h1, upd_ne h2]
section
variable {Pg : Program} {w : World} {K : PySem.W.Frag} {mg : Str → Option Value} {base : Heap} {C P Pn : Addr}
theorem ok_parseX {f fR fC fI fX Pa IP : Addr} {fd fdR fdC fdI fdX : FuncData} (F : Fun K "parse_paper" "parse_paper" sParse f fd) (hl : mg "len" = none) (hi : mg "int" = none) (hrg : mg "range" = none)
    (GR : FnOk Pg w K mg base CX0 1 fR fdR ["text"] (spRowsT P)) (gR : mg "rows_of" = some (.ref fR)) (kR : PySem.W.keepIn K (.ref fR) = true) (bR : Binds K fdR ["text"] [])
    (GC : FnOk Pg w K mg base CX0 4 fC fdC ["rows", "at"] (spCan P Pn)) (gC : mg "_can_stand" = some (.ref fC)) (kC : PySem.W.keepIn K (.ref fC) = true) (bC : Binds K fdC ["rows", "at"] [])
    (Mk : L2.Mk K Pa fI) (GI : FnOk Pg w K mg base CX0 1 fI fdI ["self", "roads", "arrival", "lows"] (spPaInit2 K Pa P)) (gP : mg "Paper" = some (.ref Pa)) (bI : Binds K fdI ["self", "roads", "arrival", "lows"] [])
    (gX : mg "InvalidPaper" = some (.ref IP)) (TX : OexC K IP) (iX : PySem.W.findIn K (.ref IP) "__init__" = some (some (.ref fX))) (tX : PySem.W.typeIn K (.ref fX) = some (.type "function"))
    (GX : FnOk Pg w K mg base CX0 1 fX fdX ["self", "line"] (spPInit K IP)) (bX : Binds K fdX ["self", "line"] []) :
    FnOk Pg w K mg base (L2.CX Pg w) 5 f fd ["text"] (spParseX IP P Pn) := by
  refine F.okX scPar (fun vs H Q E h => ?_) (fun cdv A outer s H vs Q E hr h => ?_)
  · obtain ⟨z, ls, i, rfl, _⟩ := h
    rfl
  · obtain ⟨z, ls, i, rfl, els, hz, ll, hlen, hw, hi', hgood, hbad, hP, hPn, k⟩ := h
    refine ⟨_, pss_cons (ps_set (i := 1) scPar.nd rfl (Or.inl rfl) (pe_call GR (hr.mono (by decide)) (by rfl) gR kR bR .nil pass0 (pa_cons (pv 0) pa_nil)))
      (C8.pss_cut (ps_for (passes_of rfl) rfl (pi_range1 rfl hrg (pa_cons (pe_callB call_len_seq (by rfl) hl PySem.boot_len (pa_cons (pv 1) pa_nil)) pa_nil)) (pg_name (i := 2) scPar.nd rfl (Or.inl rfl))
        (pss_one (ps_if (pt_not (pt_val (pe_call GC (hr.mono (by decide)) (by rfl) gC kC bC .nil pass0 (pa_cons (pv 1) (pa_cons (pv 2) pa_nil)))))
          (pss_one (ps_raise rfl (takes_of rfl rfl rfl rfl) (pmk_oex TX iX tX GX (hr.mono (by decide)) bX .nil pass0 (by rfl) gX (pa_cons (pe_op op_add (pv 2) pe_int) pa_nil)))) pss_nil)))
      (pss_cons (ps_setLc (i := 4) (own := [("words", 3)]) (g := gName 3) rfl scPar.nd rfl rfl (sw_true rfl rfl rfl (by decide +kernel)) (pi_list (pv 1)) (blkOk_by (N := nPar) (sc := defScope sParse) (by decide +kernel)) (fun _ _ _ _ _ => pg_name (i := 3) scPar.nd rfl (Or.inl rfl))
          (fun _ _ _ _ _ => pts_one (pt_cmpR (r := rEq) op_eq (pe_ix (r := rIxL K) ix_list (pv 3) pe_int (fun _ _ => rfl)) pe_str (nomark _)))
          (fun _ _ _ _ _ => pe_tup (pa_cons (pe_ix (r := rIxL K) ix_list (pv 3) pe_int (fun _ _ => rfl)) (pa_cons (pe_callTy (T := "int") call_int_str (by rfl) hi (by decide +kernel) (pa_cons (pe_ix (r := rIxL K) ix_list (pv 3) pe_int (fun _ _ => rfl)) pa_nil)) pa_nil))))
      (pss_cons (ps_if (pt_cmpR (r := rEqD K) (op_eqD hr.units) (pe_ix (r := rIxL K) ix_list (pv 1) pe_int (fun _ _ => rfl)) (pe_lst (pa_cons pe_str pa_nil)) (nomark _))
        (pss_one (ps_ret (pe_make Mk GI (hr.mono (by decide)) (by rfl) gP bI .nil pass0 (pa_cons pe_non (pa_cons pe_non (pa_cons (pv 4) pa_nil)))))) pss_nil)
      (pss_one (ps_ret (pe_make Mk GI (hr.mono (by decide)) (by rfl) gP bI .nil pass0 (pa_cons (pe_lc (own := [("words", 3)]) (g := gName 3) rfl scPar.nd (pi_list (pv 1)) (blkOk_by (N := nPar) (sc := defScope sParse) (by decide +kernel)) (fun _ _ _ _ _ => pg_name (i := 3) scPar.nd rfl (Or.inl rfl))
          (fun _ _ _ _ _ => pts_one (pt_cmpR (r := rEq) op_eq (pe_ix (r := rIxL K) ix_list (pv 3) pe_int (fun _ _ => rfl)) pe_str (nomark _)))
          (fun _ _ _ _ _ => pe_ix (r := rIxL K) ix_list (pv 3) pe_int (fun _ _ => rfl)))
          (pa_cons (pe_callTy call_int_str (by rfl) hi (by decide +kernel) (pa_cons (pe_ix (r := rIxL K) ix_list (pe_ix (r := rIxL K) ix_list (pv 1) pe_int (fun _ _ => rfl)) pe_int (fun _ _ => rfl)) pa_nil)) (pa_cons (pv 4) pa_nil))))))))), ?_⟩
    refine ⟨_, rfl, z, ls, rfl, els, hz, by omega, hlen, hP, fun H1 p rs g1 np hp hrs => ?_⟩
    have R1 : RowsIn H1 p (ls.map fun l => Txt.split l zSp) := ⟨⟨rs, hp, hrs⟩, fun ws h => (hw ws h).1, fun ws h => (hw ws h).2⟩
    have hlr := Paired.len hrs
    rw [List.length_map] at hlr
    refine ⟨fun σ H' => False, ?_, fun σ H' h => h.elim⟩
    refine ⟨_, rfl, p, _, rfl, .inl (SqL.of hp), _, rfl, by omega, by omega, for_range (n := rs.length) (fun j σ H' => j ≤ i ∧ ∃ kv : Option V, σ = [some (.str z), some (.ref p), kv, none, none] ∧ Grew P H H' ∧ RowsIn H' p (ls.map fun l => Txt.split l zSp)) ⟨Nat.zero_le _, none, rfl, g1, R1⟩ ?_ ?_⟩
    · rintro j σ H2 hj ⟨hji, kv, rfl, g2, R2⟩
      have hj2 : j < (ls.map fun l => Txt.split l zSp).length := by rw [List.length_map]; omega
      refine ⟨_, rfl, _, rfl, p, _, j, by rw [Int.zero_add]; rfl, R2, hj2, g2.tab, g2.tabs _ hPn, fun H3 g3 => ⟨_, rfl, ?_⟩⟩
      by_cases c : j = i
      · subst c
        rw [hbad]
        have e1 : (0 : Int) + (j : Int) + 1 = (j : Int) + 1 := by omega
        refine iteT ⟨_, rfl, _, _, rfl, rfl, by simp, fun a na => ⟨a, (j : Int) + 1, by rw [← e1]; rfl, by omega, by omega, upd_same, fun dx2 nd ne => ⟨rfl, dx2, [("line", .int ((j : Int) + 1))], upd_same, ?_, ?_, ?_⟩⟩⟩
        · rw [upd_ne ne]; exact upd_same
        · rw [upd_ne ne] at nd; exact nd
        · rw [flown na nd]
          rw [upd_ne ne] at nd
          exact k H3 (g2.trans g3) dx2 nd
      · rw [hgood j (by omega)]
        exact iteF ⟨by omega, _, rfl, g2.trans g3, R2.grew g3 g2.tab⟩
    · rintro σ H2 ⟨hji, _⟩
      omega
end
end W

set_option Elab.async false
set_option linter.all false
set_option maxRecDepth 100000
set_option maxHeartbeats 1000000
namespace MyR
open PySem PySem.Spec PyProof.Rows L2
/-! ### try: .. except A as n: .. except B as n: .. -/
/-- the ends of a clause's suite: n is gone behind it -/
def offS (i : Nat) (D : Ends) : Ends := { nx := fun σ H => D.nx (σ.set i none) H, rt := D.rt, bk := fun σ H => D.bk (σ.set i none) H, ct := fun σ H => D.ct (σ.set i none) H }
abbrev Suite := Addr → Value → Option Addr → TS
def wAll (K : PySem.W.Frag) (i : Nat) (Wout : WX) (D : Ends) : List (Value × Suite) → WX
  | [] => Wout
  | p :: l => fun cls d σ H => ∃ b, PySem.W.exmOne K cls p.1 = some b ∧ (b = true → ∀ a, H a = none → p.2 a cls d (offS i D) (σ.set i (some (.ref a))) H) ∧ (b = false → wAll K i Wout D l cls d σ H)
inductive Clauses (X : Cx) (n : Str) : List ExceptHandler → List (Value × Suite) → Prop
  | nil : Clauses X n [] []
  | cons {x : Str} {c : Value} {ts : Suite} {s0 : Stmt} {ss : List Stmt} {p1 p2 : Pos} {hs : List ExceptHandler} {l : List (Value × Suite)} (hc : Names X x c)
      (run : ∀ (a : Addr) (o : Obj) (cls : Value) (d : Option Addr) (pn : List (Addr × Obj)), Zc cls d o → (∃ vs, o.data = .fields vs) → PSs (X.suite a ((a, o) :: pn)) (s0 :: ss) (ts a cls d)) (r : Clauses X n hs l) :
      Clauses X n (.ExceptHandler (some (.Name x p1)) (some n) (s0 :: ss) p2 :: hs) ((c, ts) :: l)
section
variable {X : Cx} {n : Str} {i : Nat} {body : List Stmt} {h0 : ExceptHandler} {hs : List ExceptHandler} {l : List (Value × Suite)} {pos : Pos} {tb : WX → TS} {Wout : WX}
theorem ps_try_all (st : X.stack = X.env :: X.outer) (fr : X.env.frame = some X.env.locals) (nd : X.N.Nodup) (at_ : X.N[i]? = some n) (loc : X.env.kindOf n = some .local) (tk : Takes X Wout)
    (hb : ∀ (W : WX) (pn : List (Addr × Obj)) (xe : Value → Shared → Prop), Takes (X.tr pn xe) W → PassesOwn (model X.prog X.w) X.A X.env xe → PSs (X.tr pn xe) body (tb W)) (hh : Clauses X n (h0 :: hs) l) :
    PS X (.Try body (h0 :: hs) [] [] pos) (fun D σ H => tb (wAll X.K i Wout D l) D σ H) := by
  refine ⟨fun pins s σ H D I h => wpAny_Try_except ?_⟩
  have ok := I.ok
  have af : X.A.frames = some (X.env :: X.outer) := by rw [ok.frames, st]
  -- what the catch does with an exception
  obtain ⟨catch_, ec⟩ : ∃ c : Value → Shared → Prop, c = fun e z => wpAny (model X.prog X.w) X.A (noteFrame e X.env) (fun _ z2 => wpAny (model X.prog X.w) X.A (setFlight e none) (fun _ z3 =>
    wpAny (model X.prog X.w) X.A (handleBy e X.env (h0 :: hs)) (SP X pins D) X.xe z3) X.xe z2) X.xe z := ⟨_, rfl⟩
  have T : Takes (X.tr (X.pn ++ pins) catch_) (wAll X.K i Wout D l) := fun u z thrown => by
    obtain ⟨a, B, zI, pins', σ', H', cls, d, rfl, J0, nb, up, sky0, na, os, ag, wish⟩ := thrown
    have J : Inv X pins σ' H' zI := J0.ofTry ok
    have sky : Sky B (X.env :: X.outer) a (Zc cls d) X.env.locals z.heap := by rw [← st]; exact sky0
    rw [ec]
    refine Sky.land Zc.steady af fr sky fun k1 fl1 up1 => ?_
    have J1 : Inv X pins σ' H' { z with heap := k1 } := J.landed nb fl1.1 (up.trans up1) os ag
    obtain ⟨o1, vs1, g1, z1, d1⟩ := fl1.there
    have out : a ∉ frs (X.env :: X.outer) := fun hm => by
      obtain ⟨_, o', e', hnf⟩ := fl1.2.2.1.mem hm
      rw [g1] at e'
      cases e'
      exact hnf _ d1
    have neL : a ≠ X.env.locals := fun e => out (List.mem_filterMap.mpr ⟨X.env, List.mem_cons_self, by rw [fr, e]⟩)
    have neF : a ∉ X.fs := fun hm => by
      obtain ⟨e, he, q⟩ := List.mem_filterMap.mp hm
      exact out (List.mem_filterMap.mpr ⟨e, List.mem_cons_of_mem _ he, q⟩)
    have S1 := J1.suite g1 d1 na neL neF
    suffices go : ∀ {hs' : List ExceptHandler} {l' : List (Value × Suite)}, Clauses X n hs' l' → wAll X.K i Wout D l' cls d σ' H' → wpAny (model X.prog X.w) X.A (handleBy (.ref a) X.env hs') (SP X pins D) X.xe { z with heap := k1 } from go hh wish
    intro hs' l' hk
    induction hk with
    | nil =>
      intro wo
      refine wpAny_handleBy_nil ?_
      obtain ⟨_, _, _, o2, vs2, T2, oT2, ts2, g2, z2, d2, f2, _⟩ := id fl1
      unfold PySem.passOn
      refine wpAny_bind (wpAny_field g2 d2 f2 ?_)
      rw [if_neg (show ¬ ((Value.ref T2 == Value.none) = true) from by simp)]
      have last : wpAny (model X.prog X.w) X.A (setFlight (.ref a) X.env.frame) (fun _ z4 => wpAny (model X.prog X.w) X.A (throw (.ref a) : Sem Flow) (SP X pins D) X.xe z4) X.xe { z with heap := k1 } := by
        rw [fr]
        exact HandSPX.setFlight_upZ fl1 fun k2 sky2 up2 => wpAny_throw (tk _ _ ⟨a, B, zI, pins, σ', H', cls, d, rfl, J, nb, (up.trans up1).trans up2, .inr (.inr (by rw [st]; exact sky2)), na, os, ag, wo⟩)
      first
        | exact wpAny_bind (wpAny_pure (wpAny_bind last))
        | exact wpAny_bind last
    | @cons x c ts s0 ss p1 p2 hs2 l2 hc run r ih =>
      rintro ⟨b, eb, yes, no⟩
      refine wpAny_handleBy_cons (codeAny_handlers_test ?_) (by intro q; cases q)
      have fits := PySem.W.exm_one (M := model X.prog X.w) J1.kIn (fun A Q E z k q => wpAny_typeOf_ref (k _ _ g1) (by rw [z1.1]; exact q)) eb
      have named : ∀ {Q E : Value → Shared → Prop}, Q c { z with heap := k1 } → wpAny (model X.prog X.w) (X.A.mark (some (.ref a))) (eval (.Name x p1) X.env) Q E { z with heap := k1 } := fun {Q E} q => by
        obtain ⟨gl, db, m | ⟨m, v, nn⟩⟩ := hc
        · exact ld_glob (X := X.suite a ((a, o1) :: (X.pn ++ pins))) S1 gl m q db
        · exact ld_blt (X := X.suite a ((a, o1) :: (X.pn ++ pins))) S1 gl m v q nn db
      refine named (fits.here ?_)
      cases b with
      | false => exact ih (no rfl)
      | true =>
        refine codeAny_handlers_suite_as (HandSPX.lands_againZ fl1 fun k2 fl2 up2 => ?_)
        have J2 : Inv X pins σ' H' { z with heap := k2 } := J.landed nb fl2.1 ((up.trans up1).trans up2) os ag
        obtain ⟨o2, vs2, g2, z2, d2⟩ := fl2.there
        refine store_ok (X := X.suite a ((a, o2) :: (X.pn ++ pins))) (v := .ref a) (J2.suite g2 d2 na neL neF) nd at_ (.inl loc) rfl (fun z5 S5 => ?_) (.inr loc)
        refine wpAny_mono ((run a o2 cls d (X.pn ++ pins) z2 ⟨_, d2⟩).run [] z5 _ H' _ S5 (yes rfl a na)) (fun fl z6 hs6 => ?_) (fun _ _ q => False.elim q)
        have bare : ∀ {σ6 : L2.St} {H6 : Hp} {R : Shared → Prop}, Inv (X.suite a ((a, o2) :: (X.pn ++ pins))) [] σ6 H6 z6 → (∀ z7, Inv X pins (σ6.set i none) H6 z7 → R z7) →
          wpAny (model X.prog X.w) X.A (do bindName X.env n .none; unbindBehindTheSuite X.env n p2) (fun _ z7 => R z7) X.xe z6 := fun {σ6 H6 R} S6 q => gone_ok (S6.unsuite ok) nd at_ loc q
        match fl, hs6 with
        | .next, ⟨_, _, S6, q⟩ => exact bare S6 fun _ J7 => ⟨_, _, J7, q⟩
        | .brk, ⟨_, _, S6, q⟩ => exact bare S6 fun _ J7 => ⟨_, _, J7, q⟩
        | .cont, ⟨_, _, S6, q⟩ => exact bare S6 fun _ J7 => ⟨_, _, J7, q⟩
        | .ret u, ⟨_, _, _, S6, rv, q⟩ => exact bare S6 fun _ J7 => ⟨_, _, _, J7, rv, q⟩
  have P : PassesOwn (model X.prog X.w) X.A X.env catch_ := by
    rw [ec]
    exact PassesOwn.looking
  refine wpAny_mono (((hb _ (X.pn ++ pins) catch_ T P).run [] s σ H D (I.toTry _) h)) (fun fl z hsp => ?_) (fun e z he => by
    have he' : catch_ e z := he
    rw [ec] at he'
    exact he')
  match fl, hsp with
  | .next, ⟨_, _, J, q⟩ => exact wpAny_execs_nil ⟨_, _, J.ofTry ok, q⟩
  | .brk, ⟨_, _, J, q⟩ => exact ⟨_, _, J.ofTry ok, q⟩
  | .cont, ⟨_, _, J, q⟩ => exact ⟨_, _, J.ofTry ok, q⟩
  | .ret u, ⟨_, _, _, J, rv, q⟩ => exact ⟨_, _, _, J.ofTry ok, rv, q⟩
end
end MyR

set_option Elab.async false
set_option linter.all false
set_option maxRecDepth 100000
set_option maxHeartbeats 1000000
namespace W
open PySem PySem.Spec PyProof.Rows L2 GxR MyG MyS MyR
/-- an UnknownName with this name flies -/
def Unk (U : Addr) (H : Hp) (E : XK) (z : Str) : Prop := ∀ e, H e = none → E (.ref U) (some e) (L2.upd H e (.xd [("name", V.str z)]))
/-- UnknownName.__init__ -/
def spUInit (K : PySem.W.Frag) (U : Addr) : Sp := fun vs H Q _ => ∃ (a : Addr) (z : Str), vs = [.ref a, .str z] ∧ z.length ≤ 1000 ∧ H a = some (exo a U none) ∧ ∀ dx, H dx = none → dx ≠ a → Q .non (L2.upd (L2.upd H dx (exd dx [("name", V.str z)])) a (exo a U (some dx)))
theorem MapAt.grew {K : PySem.W.Frag} {H H' : Hp} {M x P : Addr} {d : Int} {ks ps : List Str} {rs : List RoadD} {bs : List (Str × Str)} (g : Grew P H H') (h : TabG H P) (m : MapAt K H M x d ks ps rs bs) : MapAt K H' M x d ks ps rs bs := by
  obtain ⟨dx, fs, kk, pp, rr, D, bb, D2, ys, zs, hx, F⟩ := m
  obtain ⟨kvs, hd, hin⟩ := F.db
  exact ⟨dx, fs, kk, pp, rr, D, bb, D2, ys, zs, g.get h hx (fun _ z => by cases z), ⟨F.f0, F.f1, F.f2, F.f3, F.f4, F.f5, F.f6, F.f7, g.tup h F.k, g.tup h F.p, g.tup h F.r, Paired.map' F.ry (fun _ _ m => m.grew g h), F.d.grew g h, g.tup h F.b, Paired.map' F.bz (fun _ _ m => m.grew g h), ⟨kvs, g.get h hd (fun _ z => by cases z), hin⟩⟩⟩
abbrev sCheckK : Stmt := inClass (top 34) 5
def spChkL (K : PySem.W.Frag) (M U : Addr) (f : List Str → List Str → List Str) : Sp := fun vs H Q E => ∃ (x : Addr) (z : Str) (d : Int) (ks ps : List Str) (rs : List RoadD) (bs : List (Str × Str)), vs = [.ref x, .str z] ∧ z.length ≤ 1000 ∧ MapAt K H M x d ks ps rs bs ∧
  (z ∈ f ks ps → Q .non H) ∧ (z ∉ f ks ps → Unk U H E z)
def selK (ks _ps : List Str) : List Str := ks
abbrev kMap : List Str := ["day", "kinds", "places", "roads", "bars"]
def gMap {α : Type} (us mv ws : List α) : List α := us ++ (ws ++ mv)
/-- two promises of one def -/
theorem FnOk.or {Pg : Program} {w : World} {K : PySem.W.Frag} {mg : Str → Option Value} {base : Heap} {k : Nat} {f : Addr} {fd : FuncData} {ps : List Str} {sp1 sp2 : Sp} (F : FnOk Pg w K mg base CX0 k f fd ps sp1) (G : FnOk Pg w K mg base (L2.CX Pg w) k f fd ps sp2) :
    FnOk Pg w K mg base (L2.CX Pg w) k f fd ps (fun vs H Q E => sp1 vs H Q E ∨ sp2 vs H Q E) := by
  refine ⟨fun vs H Q E h => h.elim (F.len vs H Q E) (G.len vs H Q E), fun A outer s H args us vs Q E hr e0 hb r hsp => ?_⟩
  rcases hsp with h | h
  · refine codeAny_mono (F.run A outer s H args us vs Q E hr e0 hb r h) fun r s' q => ?_
    cases r with
    | ok v => cases v <;> exact q
    | error e => exact (show False from q).elim
  · exact G.run A outer s H args us vs Q E hr e0 hb r h
section
variable {Pg : Program} {w : World} {K : PySem.W.Frag} {mg : Str → Option Value} {base : Heap} {C P : Addr}
theorem raise_end {H : Hp} {U a : Addr} {E : XK} {z : Str} (na : H a = none) (kE : Unk U H E z) :
    ∀ dx, (L2.upd H a (exo a U none)) dx = none → dx ≠ a → ∀ H2, H2 = L2.upd (del (L2.upd (L2.upd (L2.upd H a (exo a U none)) dx (exd dx [("name", V.str z)])) a (exo a U (some dx))) a) dx (.xd [("name", V.str z)]) → E (.ref U) (some dx) H2 := fun dx nd ne H2 e2 => by
  rw [e2, flown na nd]
  rw [upd_ne ne] at nd
  exact kE dx nd
theorem scCheckK : FnScope ["self", "kind"] ["self", "kind"] (defScope sCheckK) := ⟨rfl, rfl, rfl, by decide +kernel, rfl, by decide +kernel, by decide +kernel⟩
theorem ok_checkK {f M U fU : Addr} {fd fdU : FuncData} (F : Fun K "check_kind" "Map.check_kind" sCheckK f fd) (TM : TxtM K M) (gU : mg "UnknownName" = some (.ref U)) (TU : OexC K U) (iU : PySem.W.findIn K (.ref U) "__init__" = some (some (.ref fU))) (tU : PySem.W.typeIn K (.ref fU) = some (.type "function"))
    (GU : FnOk Pg w K mg base CX0 1 fU fdU ["self", "name"] (spUInit K U)) (bU : Binds K fdU ["self", "name"] []) :
    FnOk Pg w K mg base (L2.CX Pg w) 3 f fd ["self", "kind"] (spChkL K M U selK) := by
  refine F.okX scCheckK (fun vs H Q E h => ?_) (fun cdv A outer s H vs Q E hr h => ?_)
  · obtain ⟨x, z, d, ks, ps, rs, bs, rfl, _⟩ := h
    rfl
  · obtain ⟨x, z, d, ks, ps, rs, bs, rfl, hz, hM, kQ, kE⟩ := h
    refine ⟨_, pss_one (ps_if (pt_cmpR op_notIn_seq (pv 1) (pe_fld (pv 0) rfl) (by rfl)) (pss_one (ps_raise rfl (takes_of rfl rfl rfl rfl) (pmk_oex TU iU tU GU (hr.mono (by decide)) bU .nil pass0 (by rfl) gU (pa_cons (pv 1) pa_nil)))) pss_nil), ?_⟩
    obtain ⟨dx, fs, kk, pp, rr, D, bb, D2, ys, zs, hx, F7⟩ := hM
    refine ⟨_, rfl, _, rfl, x, M, dx, fs, _, rfl, hx, TM.cl, TM.n2, F7.f2, kk, _, rfl, .inr (SqT.of F7.k), rfl, flat_strs _, _, rfl, ?_⟩
    by_cases hin : z ∈ ks
    · exact if_f (by simp [inV_dec, hin]) (kQ hin)
    · refine if_t (by simp [inV_dec, hin]) ⟨_, rfl, by simp, fun a na => ⟨a, z, rfl, hz, upd_same, fun dx2 nd ne => ⟨rfl, dx2, [("name", .str z)], upd_same, ?_, ?_, ?_⟩⟩⟩
      · rw [upd_ne ne]; exact upd_same
      · rw [upd_ne ne] at nd; exact nd
      · exact raise_end na (kE hin) dx2 nd ne _ rfl
theorem map_binds {f : Addr} {fd : FuncData} {T1 T2 T : Addr} (F : FunD K "__init__" "Map.__init__" (defArgs sInit) (defBody sInit) (defScope sInit) [] [("places", V.ref T1), ("roads", V.ref T2), ("bars", V.ref T)] f fd) :
    ∃ mv : List Value, KBn K fd pInit 1 kMap (fun us ws => gMap us mv ws) (fun vs zs => gMap vs (([] : List (Str × V)).map (·.2)) zs) := by
  refine FunD.kbinds0 F 1 kMap [] gMap (by simp) (by simp) ?_ ?_
  · intro vs mz zs us mv ws r1 r2 r3
    exact r1.append (Vals.append r3 r2)
  · intro D doc pm an cdv ct us mv ws h1 h2 h3
    match us, mv, ws, h1, h2, h3 with
    | [u], [], [a, b, c, d, e], _, _, _ =>
      first
        | exact ⟨_, _, _, _, _, _, rfl, rfl, rfl⟩
        | exact rfl
        | exact ⟨rfl, rfl⟩
end
abbrev sUInit : Stmt := inClass (top 4) 0
def scFake : Scope := { kind := .function, names := [("self", .local), ("name", .local)], isGenerator := false, isCoroutine := false, more := [] }
theorem scFakeOk : FnScope ["self", "name"] ["self", "name"] scFake := ⟨rfl, rfl, rfl, by decide +kernel, rfl, by decide +kernel, by decide +kernel⟩
abbrev fdU (dV kV doc pm : Value) (an : Option Addr) (cda : Addr) (ct : Value) (cc : Addr) : FuncData := PySem.W.fnX "__init__" "UnknownName.__init__" (defArgs sUInit) (defBody sUInit) (defScope sUInit) [("__class__", cc)] dV kV doc pm an (.ref cda) ct
section
variable {Pg : Program} {w : World} {K : PySem.W.Frag} {mg : Str → Option Value} {base : Heap} {C P : Addr}
theorem ok_uinit {CX : CXT} {f U cc cda : Addr} {oc ccl cl dV kV doc pm ct : Value} {od cdd cld an : Option Addr} {osl ccs csl : Array (Option Value)} {vs : Array Value} {file : Str} {tf : Tok}
    (lk : K.lookup f = some ⟨oc, od, .func (fdU dV kV doc pm an cda ct cc), osl⟩) (hcd : PySem.W.codeIn K (.ref cda) "UnknownName.__init__" = true) (hcode : K.lookup cda = some ⟨ccl, cdd, .fields vs, ccs⟩) (hvs : vs[2]? = some (.str file tf)) (hfile : ((Pg.main.file : Str) == file) = true)
    (hcell : K.lookup cc = some ⟨cl, cld, .cell (some (.ref U)), csl⟩) (hsuper : mg "super" = none) (htop : (Pg.main.scope.names.lookup ("super" : Str)).isSome = false)
    (TU : OexC K U) (hmU : PySem.W.mroIn K U (.ref U) = some true) (hop : PySem.W.nsIn K cStatics "thirdparty.any" = some none) (hsi : PySem.W.ks_superIn K U U "__init__" = some (some (.builtin "ValueError.__init__"))) (hsV : PySem.W.subIn K (.ref U) (.type "ValueError") = some true)
    (hno : PySem.W.findIn K (.ref U) "name" = some none) : FnOk Pg w K mg base CX 1 f (fdU dV kV doc pm an cda ct cc) ["self", "name"] (spUInit K U) := by
  have len : ∀ vs H Q E, spUInit K U vs H Q E → vs.length = 2 := by
    rintro vs H Q E ⟨a, z, rfl, _⟩
    rfl
  refine ⟨len, fun A outer s H args us vs2 Q E hr e0 hb r hsp => ?_⟩
  obtain ⟨a, z, rfl, hz, ea, kq⟩ := hsp
  obtain ⟨u1, u2, rfl, r1, r2⟩ := vals2 r
  obtain rfl : u1 = Value.ref a := r1
  obtain ⟨tk, rfl⟩ := r2
  have KX : K.In s.heap := e0.mod.kin.keeps fun b o e => (e0.bs b o e).1
  have lim : s.heap.NoLimit := e0.mod.nolimit.keeps fun b o e => (e0.bs b o e).1
  obtain ⟨cnm, cq, cN, cbs, cbm, csn, csub, cab, ccol, cdd2, c0, c1, c2, c3, c5, hC, hbm⟩ := TU.cls
  refine PySem.ks_codeAny_call_defAt (body := defBody sUInit) (binds := (["self", "name"] : List Str).zip [Value.ref a, Value.str z tk]) hr.depth (KX _ _ lk) rfl lim (PySem.W.codeRec_of KX hcd) rfl hb (show ∀ x ∈ (defScope sUInit).names, x.2 ≠ .cell by decide +kernel) (by
    intro y hy
    rcases List.mem_cons.mp hy with e | hy
    · subst e; show (defScope sUInit).names.lookup ("self" : Str) = some .local; decide +kernel
    · rw [List.mem_singleton.mp hy]; show (defScope sUInit).names.lookup ("name" : Str) = some .local; decide +kernel) (fun h0 hns hk => ?_) rfl rfl rfl
  have em : (fun x => ((["self", "name"] : List Str).zip [Value.ref a, Value.str z tk]).reverse.lookup x) = bindL (envOfC "UnknownName.__init__" scFake s.heap.objs.size f (.ref cda)).kindOf ((["self", "name"] : List Str).zip [Value.ref a, Value.str z tk]) fun _ => none := by
    funext y
    show ([(("name" : Str), Value.str z tk), ("self", Value.ref a)] : List (Str × Value)).lookup y = if y = "name" then some (Value.str z tk) else if y = "self" then some (Value.ref a) else none
    by_cases h1 : y = ("name" : Str)
    · subst h1; rw [if_pos rfl]; rfl
    · rw [if_neg h1]
      by_cases h2 : y = ("self" : Str)
      · subst h2; rw [if_pos rfl]; rfl
      · rw [if_neg h2]
        simp [List.lookup, h1, h2, beq_eq_false_iff_ne.mpr h1, beq_eq_false_iff_ne.mpr h2]
  have I : Inv (cxOf CX Pg w K mg base ["self", "name"] "UnknownName.__init__" scFake f (.ref cda) A outer s H E) [] (L2.start ["self", "name"] [.ref a, .str z]) H { s with heap := h0, toks := s.toks + 2 } :=
    inv_start scFakeOk hr.hd e0 rfl (.cons rfl (.cons ⟨tk, rfl⟩ .nil)) ⟨⟨⟨h0, s.toks + 2, rfl⟩, by rw [← em]; exact hns, hk, Nat.le_refl _⟩, fun n c e => (by cases e), List.Pairwise.nil, fun n c e => (by cases e)⟩
  refine PySem.ks_wpAt_execs_cons (PySem.ks_wpAt_Expr_any (PySem.ks_wpAt_MethodCall ?_))
  have K0 : K.In h0 := KX.keeps hk
  obtain ⟨t1, ho⟩ := exo_at e0.hok ea
  have ho0 : h0.get? a = some (PySem.HandSPX.excO U t1) := hk a _ ho
  have hcl : PySem.W.clsIn K U = some { name := cnm, bases := cbs, mro := .ref U :: cbm, ns := cN, qualname := cq, hasDict := true, slotNames := csn, subclasses := csub, abstract := cab, collection := ccol, hasDel := false } := by unfold PySem.W.clsIn; rw [hC] <;> rfl
  obtain ⟨mb, hb1, hb2⟩ := e0.mod.blt
  have bk0 : ∀ b o, base.get? b = some o → h0.get? b = some o := fun b o e => hk b o (e0.bs b o e).1
  have m1 : (fun x => ((["self", "name"] : List Str).zip [Value.ref a, Value.str z tk]).reverse.lookup x) "self" = some (Value.ref a) := rfl
  refine PySem.ks_wpAt_super_base (f := f) (fd := fdU dV kV doc pm an cda ct cc) (show (defScope sUInit).names.lookup ("super" : Str) = some .globalImplicit by decide +kernel) (show (defScope sUInit).names.lookup ("__class__" : Str) = some .free by decide +kernel) (by decide) rfl (hk _ _ (KX _ _ lk)) rfl rfl rfl (K0 _ _ hcode) rfl hvs hfile htop ?_
  refine PySem.W.ks_loadName_global rfl (show (defScope sUInit).names.lookup ("super" : Str) = some .globalImplicit by decide +kernel) (Calls.loadGlobal_builtin (e0.mod.glob.keeps bk0) hsuper (hb1.keeps bk0) ((hb2 "super" (by decide)).trans (by decide +kernel)) ⟨rfl, ?_⟩)
  refine wpAny_loadName_free rfl (show (defScope sUInit).names.lookup ("__class__" : Str) = some .free by decide +kernel) rfl ⟨_, K0 _ _ hcell, rfl⟩ ?_
  refine wpAny_loadName_local rfl (show (defScope sUInit).names.lookup ("self" : Str) = some .local by decide +kernel) hns m1 ?_
  refine PySem.ks_wpAny_isType_cls (K0 _ _ hC) rfl ⟨rfl, ?_⟩
  refine PySem.ks_wpAny_call_super (K0 _ _ hC) rfl ho0 rfl (fun c e => by cases e) (PySem.W.looks_mroIn K0 hmU) (fun h1 e1 k1 => ?_)
  have K1 : K.In h1 := K0.keeps k1
  have J1 : PySem.W.InstAt h1 a (PySem.HandSPX.excO U t1) U none := ⟨k1 _ _ ho0, rfl, rfl, trivial⟩
  have hsi' := hsi
  unfold PySem.W.ks_superIn at hsi'
  rw [hcl] at hsi'
  refine PySem.W.kxs_getMethod PySem.W.kxs_ValueError e1 (PySem.W.looks_opaque K1 hop) (l₀ := .ref U :: cbm) (fun A Q E s k q => wpAny_bind ((PySem.W.looks_clsIn K1 hcl) A _ E s k (wpAny_pure q))) rfl K1 hsi' (J1.type.andThen (PySem.W.looks_subIn K1 hsV)) (PySem.W.ks_ne K1 J1 hcl) (by decide) ?_
  have I1 : Inv (cxOf CX Pg w K mg base ["self", "name"] "UnknownName.__init__" scFake f (.ref cda) A outer s H E) [] (L2.start ["self", "name"] [.ref a, .str z]) H ⟨h1.push (PySem.W.kxs_mw "ValueError.__init__" a), s.gens, s.drawn, s.toks + 2 + 1, s.os⟩ :=
    I.kept (t' := s.toks + 2 + 1) fun b o q => Heap.get?_push_of_some _ (k1 b o q)
  have hu1 : (h1.push (PySem.W.kxs_mw "ValueError.__init__" a)).get? h1.objs.size = some (PySem.W.kxs_mw "ValueError.__init__" a) := Heap.get?_push_size _ rfl
  have look : ∀ {x : Str} {v : V} {st : Shared} {σ0 : L2.St} {H0 : Hp} (j : Nat), Inv (cxOf CX Pg w K mg base ["self", "name"] "UnknownName.__init__" scFake f (.ref cda) A outer s H E) [] σ0 H0 st → (["self", "name"] : List Str)[j]? = some x → σ0[j]? = some (some v) → scFake.names.lookup x = some .local → (defScope sUInit).names.lookup x = some .local →
      (x == ("__debug__" : Str)) = false → ∀ (p : Pos) (Q' : Value → Shared → Prop) (E' : Value → Shared → Prop) (A' : Around), (∀ u, RelV v u → Q' u st) → wpAny (model Pg w) A' (eval (.Name x p) (callEnv (fdU dV kV doc pm an cda ct cc) s.heap.objs.size f)) Q' E' st := by
    intro x v st σ0 H0 j J e1 e2 e3 e4 hdb p Q' E' A' hQ
    obtain ⟨m, hn, hm⟩ := J.loc
    obtain ⟨u, ru, lu⟩ := hm j x v e1 e2 (.inl e3)
    have e5 : m x = some u := by
      rcases lu with ⟨_, q⟩ | ⟨q, _⟩
      · exact q
      · have q' : scFake.names.lookup x = some .cell ∨ scFake.names.lookup x = some .free := q
        rw [e3] at q'
        rcases q' with q' | q' <;> cases q'
    exact wpAny_Name (wpAny_loadName_local rfl e4 hn e5 (hQ u ru)) hdb
  refine PySem.W.kxs_callWith (i := "ValueError.__init__") (x := a) (by rfl) (Calls.evalArgs_plain ?_)
  refine PyProof.Rows.args_cons (wpAny_JoinedStr ?_) rfl
  refine Calls.Constant_str ⟨_, _, rfl, (show (Str.empty ++ Str.ofString "unknown name: ").length ≤ sizeLine by decide +kernel), ?_⟩
  have I2 := I1.tok (s.toks + 2 + 1 + 1)
  refine wpAny_FormattedValue_plain (look 1 I2 rfl rfl rfl (by decide +kernel) (by decide) _ _ _ _ fun u ru => ?_)
  obtain ⟨tk2, rfl⟩ := ru
  have hz2 : z.length ≤ sizeLine := by rw [sizeLine_eq]; omega
  have hlen : ((Str.empty ++ Str.ofString "unknown name: ") ++ z).length ≤ sizeLine := by
    rw [PySem.Str.length_append, sizeLine_eq]
    have e : (Str.empty ++ (Str.ofString "unknown name: ")).length ≤ 100 := by decide +kernel
    omega
  have eu : L2.upd H a (exo a U none) = H := by
    funext b
    by_cases hb : b = a
    · rw [hb, upd_same, ea]
    · rw [upd_ne hb]
  have hC1 : (h1.push (PySem.W.kxs_mw "ValueError.__init__" a)).get? U = _ := Heap.get?_push_of_some _ (K1 _ _ hC)
  have he1 : (h1.push (PySem.W.kxs_mw "ValueError.__init__" a)).get? a = some (PySem.HandSPX.excO U t1) := Heap.get?_push_of_some _ (k1 _ _ ho0)
  refine wpAny_formatField_str ?_ ?_ hz2
  all_goals
    refine ⟨z, _, rfl, hlen, hlen, PyProof.Rows.args_nil ⟨hu1, ?_⟩⟩
    refine call_mw PySem.F.excBase_ValueError hu1 hC1 he1 (by show 1 ≤ sizeLine; decide) (fun h5 t5 k5 e5 => ?_)
    have J5 := I1.write (t' := s.toks + 2 + 1 + 1 + 1) (x := a) (e := a) (o := exo a U none) (by rw [ea]; exact True.intro) (.inl rfl) k5 ⟨_, e5⟩ (exo_ok e5)
    rw [eu] at J5
    have J6 := fun tk => J5.tok tk
    refine PySem.ks_wpAt_execs_cons (PySem.ks_wpAt_Assign_Attr (PySem.wpAt_of_wpAny (look 1 (J6 _) rfl rfl rfl (by decide +kernel) (by decide) _ _ _ _ fun u2 r2 => look 0 (J6 _) rfl rfl rfl (by decide +kernel) (by decide) _ _ _ _ fun u3 r3 => ?_)))
    obtain rfl : u3 = Value.ref a := r3
    refine ost_new TU (J6 _) ea hno r2 fun dx s' nd ne J' => ?_
    refine PySem.wpAt_of_wpAny (wpAny_pure ?_)
    exact ⟨.non, _, J'.os, J'.bare, J'.base, J'.hok, rfl, kq dx nd ne⟩
end
abbrev sNamesC : Stmt := top 43
abbrev sCkPaper : Stmt := top 51
abbrev sCpn : Stmt := top 52
abbrev sCkText : Stmt := top 61
/-- the kind is not the map's -/
def NoKind (K : PySem.W.Frag) (M U : Addr) (H : Hp) (x : Addr) (kind : Str) : Prop := ∃ (d : Int) (ks ps : List Str) (rs : List RoadD) (bs : List (Str × Str)), MapAt K H M x d ks ps rs bs ∧ kind ∉ ks
theorem NoKind.grew {K : PySem.W.Frag} {M U P x : Addr} {H H' : Hp} {kind : Str} (h : NoKind K M U H x kind) (g : Grew P H H') (hP : TabG H P) : NoKind K M U H' x kind := let ⟨d, ks, ps, rs, bs, m, n⟩ := h; ⟨d, ks, ps, rs, bs, m.grew g hP, n⟩
def spChkNX (K : PySem.W.Frag) (M U : Addr) : Sp := fun vs H Q E => ∃ (x : Addr) (kind : Str) (pl ro : V), vs = [.ref x, .str kind, pl, ro] ∧ NoKind K M U H x kind ∧ kind.length ≤ 1000 ∧ Unk U H E kind
def spCpnX (K : PySem.W.Frag) (M U Pa P : Addr) : Sp := fun vs H Q E => ∃ (x y : Addr) (kind start goal : Str) (ro : Option (List Str)) (ao : Option Int) (ls : List (Str × Int)), vs = [.ref x, .str kind, .str start, .str goal, .ref y] ∧ NoKind K M U H x kind ∧ kind.length ≤ 1000 ∧ TabG H P ∧
  ToldAt H Pa y ro ao ls ∧ ls.length ≤ 1000 ∧ (ro.getD []).length ≤ 1000 ∧ ∀ H', Grew P H H' → Unk U H' E kind
def spCkX (K : PySem.W.Frag) (M U Pa P : Addr) : Sp := fun vs H Q E => ∃ (x y : Addr) (kind start goal : Str) (mo : V) (ro : Option (List Str)) (ao : Option Int) (ls : List (Str × Int)), vs = [.ref x, .str kind, .str start, .str goal, mo, .ref y] ∧ NoKind K M U H x kind ∧ kind.length ≤ 1000 ∧ TabG H P ∧
  ToldAt H Pa y ro ao ls ∧ ls.length ≤ 1000 ∧ (ro.getD []).length ≤ 1000 ∧ ∀ H', Grew P H H' → Unk U H' E kind
/-- what parse_paper is asked: a text, that may stand or not -/
def spAny (IP Pa P Pn : Addr) : Sp := fun vs H Q E => spParse Pa P Pn vs H Q E ∨ spParseX IP P Pn vs H Q E
def spCkText (K : PySem.W.Frag) (M U IP Pa P Pn : Addr) : Sp := fun vs H Q E => ∃ (x : Addr) (kind start goal : Str) (mo : V) (z : Str), vs = [.ref x, .str kind, .str start, .str goal, mo, .str z] ∧ NoKind K M U H x kind ∧ kind.length ≤ 1000 ∧
  ((∃ (ro : Option (List Str × Nat)) (ls : List (Str × Nat)), z = textP ro ls ∧ PapOk ro ls ∧ TabG H P ∧ TabG H Pn ∧ ∀ H', Grew P H H' → Unk U H' E kind) ∨ spParseX IP P Pn [.str z] H Q E)
section
variable {Pg : Program} {w : World} {K : PySem.W.Frag} {mg : Str → Option Value} {base : Heap} {C P : Addr}
abbrev nNamesC : List Str := ["chart", "kind", "places", "roads", "place", "name"]
theorem scNamesC : FnScope nNamesC ["chart", "kind", "places", "roads"] (defScope sNamesC) := ⟨rfl, rfl, rfl, by decide +kernel, rfl, by decide +kernel, by decide +kernel⟩
theorem ok_chkNX {f M U fK : Addr} {fd fdK : FuncData} (F : Fun K "check_names" "check_names" sNamesC f fd) (TM : TxtM K M) (mK : Meth K M "check_kind" fK)
    (GK : FnOk Pg w K mg base (L2.CX Pg w) 3 fK fdK ["self", "kind"] (spChkL K M U selK)) (bK : Binds K fdK ["self", "kind"] []) :
    FnOk Pg w K mg base (L2.CX Pg w) 4 f fd ["chart", "kind", "places", "roads"] (spChkNX K M U) := by
  refine F.okX scNamesC (fun vs H Q E h => ?_) (fun cdv A outer s H vs Q E hr h => ?_)
  · obtain ⟨x, kind, pl, ro, rfl, _⟩ := h
    rfl
  · obtain ⟨x, kind, pl, ro, rfl, ⟨d, ks, ps, rs, bs, hM, hno⟩, hk, kE⟩ := h
    refine ⟨_, pss_cons (ps_expr (pe_meth (E := E) (pv 0) TM.cl mK GK hr bK .nil (passes_call (takes_of rfl rfl rfl rfl) (fun _ _ _ _ h => h)) (pa_cons (pv 1) pa_nil)))
      (pss_cons ps_never (pss_one ps_never)), ?_⟩
    have hM2 := hM
    obtain ⟨dx, fs, kk, pp, rr, D, bb, D2, ys, zs, hx, F7⟩ := hM
    exact ⟨_, rfl, x, dx, fs, rfl, hx, F7.f0 _ (by decide +kernel), _, rfl, x, kind, d, ks, ps, rs, bs, rfl, hk, hM2, fun hkin => absurd hkin hno, fun _ => kE⟩
abbrev nCpn : List Str := ["chart", "kind", "start", "goal", "told", "roads", "name", "_"]
theorem scCpn : FnScope nCpn ["chart", "kind", "start", "goal", "told"] (defScope sCpn) := ⟨rfl, rfl, rfl, by decide +kernel, rfl, by decide +kernel, by decide +kernel⟩
theorem ok_cpnX {f M U Pa fN : Addr} {fd fdN : FuncData} (F : Fun K "_check_paper_names" "_check_paper_names" sCpn f fd) (TA : TxtA K Pa)
    (GN : FnOk Pg w K mg base (L2.CX Pg w) 4 fN fdN ["chart", "kind", "places", "roads"] (spChkNX K M U)) (gN : mg "check_names" = some (.ref fN)) (kN : PySem.W.keepIn K (.ref fN) = true) (bN : Binds K fdN ["chart", "kind", "places", "roads"] []) :
    FnOk Pg w K mg base (L2.CX Pg w) 5 f fd ["chart", "kind", "start", "goal", "told"] (spCpnX K M U Pa P) := by
  refine F.okX scCpn (fun vs H Q E h => ?_) (fun cdv A outer s H vs Q E hr h => ?_)
  · obtain ⟨x, y, kind, start, goal, ro, ao, ls, rfl, _⟩ := h
    rfl
  · obtain ⟨x, y, kind, start, goal, ro, ao, ls, rfl, hM, hkl, hP, ⟨dx, fs, L, ys, rv, hy, hf1, hf2, hf3, hL, hrows, hrv⟩, hll, hrl, kE⟩ := h
    refine ⟨_, C8.pss_cut (ps_set (i := 5) scCpn.nd rfl (Or.inl rfl) (pe_ifExp (pt_cmp (pc_isN (pe_fld (pv 4) rfl))) (pe_lst pa_nil) (pe_fld (pv 4) rfl)))
      (pss_one (ps_expr (pe_call (E := E) GN hr (by rfl) gN kN bN .nil (passes_call (takes_of rfl rfl rfl rfl) (fun _ _ _ _ h => h)) (pa_cons (pv 0) (pa_cons (pv 1) (pa_cons (pe_lst (pa_cons (pv 2) (pa_cons (pv 3) pa_nil))) (pa_cons (pe_lst (StX.pa_star (pv 5) (StX.pa_star (pe_lc (own := [("name", 6), ("_", 7)]) (g := gTup K 2 (gCons (gName 6) (gCons (gName 7) gNil))) (tt := tYes) rfl scCpn.nd (pi_list (pe_fld (pv 4) rfl)) (blkOk_by (N := nCpn) (sc := defScope sCpn) (by decide +kernel)) (fun _ _ _ _ _ => pg_tup rfl (pgs_cons (pg_name (i := 6) scCpn.nd rfl (.inl rfl)) (pgs_cons (pg_name (i := 7) scCpn.nd rfl (.inl rfl)) pgs_nil))) (fun _ _ _ _ _ => pts_nil) (fun _ _ _ _ _ => pv 6)) pa_nil))) pa_nil))))))), ?_⟩
    -- roads
    refine ⟨fun σ2 H2 => ∃ r, σ2 = [some (.ref x), some (.str kind), some (.str start), some (.str goal), some (.ref y), some (.ref r), none, none] ∧ Grew P H H2 ∧ (SqT K H2 r ((ro.getD []).map V.str) ∨ SqL K H2 r ((ro.getD []).map V.str)), ?_, ?_⟩
    · refine ⟨_, rfl, y, Pa, dx, fs, rv, rfl, hy, TA.cl, TA.n0, hf1, _, rfl, ?_⟩
      rcases hrv with ⟨rfl, rfl⟩ | ⟨q, rl, rfl, rfl, hq⟩
      · refine if_t rfl ⟨Nat.zero_le _, fun r nr => ?_⟩
        exact ⟨r, rfl, Grew.new hP nr, .inr (SqL.of upd_same)⟩
      · exact if_f rfl ⟨_, rfl, y, Pa, dx, fs, .ref q, rfl, hy, TA.cl, TA.n0, hf1, q, rfl, Grew.refl hP, .inl (SqT.of hq)⟩
    rintro σ2 H2 ⟨r, rfl, g2, hr0⟩
    have hy2 := g2.get hP hy (fun _ z => by cases z)
    refine ⟨_, rfl, _, rfl, _, rfl, _, rfl, by show 2 ≤ sizeLine; decide, fun L1 nL1 => ?_⟩
    have g3 := g2.put (o := .lst [.str start, .str goal]) nL1
    have hy3 := (Grew.new g2.tab (o := .lst [.str start, .str goal]) nL1).get g2.tab hy2 (fun _ z => by cases z)
    have hL3 := g3.lst hP hL
    have hr3 : SqT K (L2.upd H2 L1 (.lst [.str start, .str goal])) r ((ro.getD []).map V.str) ∨ SqL K (L2.upd H2 L1 (.lst [.str start, .str goal])) r ((ro.getD []).map V.str) := by
      have gg := Grew.new g2.tab (o := .lst [.str start, .str goal]) nL1
      rcases hr0 with h | h
      · exact .inl (gg.sqT g2.tab h)
      · exact .inr (gg.sqL g2.tab h)
    have e1 : L2.upd H2 L1 (.lst [.str start, .str goal]) L1 = some (.lst [.str start, .str goal]) := upd_same
    generalize L2.upd H2 L1 (.lst [.str start, .str goal]) = H3 at g3 hy3 hL3 hr3 e1 ⊢
    refine ⟨_, rfl, r, _, rfl, hr3, ?_⟩
    refine ⟨_, rfl, y, Pa, dx, fs, .ref L, rfl, hy3, TA.cl, TA.n2, hf3, L, rfl, ⟨_, SqL.of hL3⟩, fun D nD => lc_list (K := K) (a := L) (xs := ys) (fun j H1 => Grew P H3 H1 ∧ H1 D = some (.lst (((ls.take j).map (·.1)).map V.str)))
      ⟨Grew.new g3.tab nD, upd_same⟩ (fun j H1 _ p => SqL.of (p.1.lst g3.tab hL3)) (fun j v H1 hj p => ?_) (fun H1 p => ?_)⟩
    · obtain ⟨g, hD⟩ := p
      obtain ⟨e, he, tp, rfl, htp⟩ := Paired.at hrows hj
      refine ⟨tp, _, rfl, SqT.of ((g3.trans g).tup hP htp), rfl, _, _, rfl, _, _, rfl, rfl, ?_⟩
      refine ⟨rfl, _, rfl, _, hD, ?_, g.write hD (fun _ z => by cases z) nD, ?_⟩
      · rw [List.length_map, List.length_map, List.length_take, sizeLine_eq]; omega
      · rw [upd_same, List.take_succ, he, List.map_append, List.map_append]; rfl
    · obtain ⟨g, hD⟩ := p
      rw [← Paired.len hrows, List.take_length] at hD
      refine ⟨D, _, rfl, .inr (SqL.of hD), ?_, fun Lb nLb => ?_⟩
      · rw [List.append_nil, List.length_append, List.length_map, List.length_map, List.length_map, sizeLine_eq]; omega
      · have g4 := (g3.trans g).put (o := .lst ((ro.getD []).map V.str ++ ((ls.map (·.1)).map V.str ++ []))) nLb
        exact ⟨x, kind, .ref L1, .ref Lb, rfl, hM.grew g4 hP, hkl, kE _ g4⟩
abbrev nCkX : List Str := ["chart", "kind", "start", "goal", "moment", "told", "numbers", "ends", "name", "number"]
abbrev nCkPaper : List Str := ["chart", "kind", "start", "goal", "moment", "told", "numbers", "ends", "name"]
theorem scCkPaper : FnScope nCkPaper ["chart", "kind", "start", "goal", "moment", "told"] (defScope sCkPaper) := ⟨rfl, rfl, rfl, by decide +kernel, rfl, by decide +kernel, by decide +kernel⟩
theorem ok_ckX {f M U Pa fN : Addr} {fd fdN : FuncData} (F : L2.Fun K "check_paper" "check_paper" sCkPaper f fd)
    (GN : FnOk Pg w K mg base (L2.CX Pg w) 5 fN fdN ["chart", "kind", "start", "goal", "told"] (spCpnX K M U Pa P)) (gN : mg "_check_paper_names" = some (.ref fN)) (kN : PySem.W.keepIn K (.ref fN) = true) (bN : Binds K fdN ["chart", "kind", "start", "goal", "told"] []) :
    FnOk Pg w K mg base (L2.CX Pg w) 6 f fd ["chart", "kind", "start", "goal", "moment", "told"] (spCkX K M U Pa P) := by
  refine F.okX scCkPaper (fun vs H Q E h => ?_) (fun cdv A outer s H vs Q E hr h => ?_)
  · obtain ⟨x, y, kind, start, goal, mo, ro, ao, ls, rfl, _⟩ := h
    rfl
  · obtain ⟨x, y, kind, start, goal, mo, ro, ao, ls, rfl, hM, hk, hP, ht, hll, hrl, kE⟩ := h
    refine ⟨_, pss_cons (ps_expr (pe_call (E := E) GN (hr.mono (by decide)) (by rfl) gN kN bN .nil (passes_call (takes_of rfl rfl rfl rfl) (fun _ _ _ _ h => h)) (pa_cons (pv 0) (pa_cons (pv 1) (pa_cons (pv 2) (pa_cons (pv 3) (pa_cons (pv 5) pa_nil)))))))
      (pss_cons ps_never (pss_cons ps_never (pss_cons ps_never (pss_cons ps_never (pss_cons ps_never (pss_cons ps_never (pss_one ps_never))))))), ?_⟩
    exact ⟨_, rfl, _, rfl, _, rfl, _, rfl, _, rfl, x, y, kind, start, goal, ro, ao, ls, rfl, hM, hk, hP, ht, hll, hrl, kE⟩
theorem scCkText : FnScope ["chart", "kind", "start", "goal", "moment", "text"] ["chart", "kind", "start", "goal", "moment", "text"] (defScope sCkText) := ⟨rfl, rfl, rfl, by decide +kernel, rfl, by decide +kernel, by decide +kernel⟩
theorem ok_ckText {f M U IP Pa Pn fN fP : Addr} {fd fdN fdP : FuncData} (F : Fun K "check_text" "check_text" sCkText f fd)
    (GN : FnOk Pg w K mg base (L2.CX Pg w) 6 fN fdN ["chart", "kind", "start", "goal", "moment", "told"] (spCkX K M U Pa P)) (gN : mg "check_paper" = some (.ref fN)) (kN : PySem.W.keepIn K (.ref fN) = true) (bN : Binds K fdN ["chart", "kind", "start", "goal", "moment", "told"] [])
    (GP : FnOk Pg w K mg base (L2.CX Pg w) 5 fP fdP ["text"] (spAny IP Pa P Pn)) (gP : mg "parse_paper" = some (.ref fP)) (kP : PySem.W.keepIn K (.ref fP) = true) (bP : Binds K fdP ["text"] []) :
    FnOk Pg w K mg base (L2.CX Pg w) 7 f fd ["chart", "kind", "start", "goal", "moment", "text"] (spCkText K M U IP Pa P Pn) := by
  refine F.okX scCkText (fun vs H Q E h => ?_) (fun cdv A outer s H vs Q E hr h => ?_)
  · obtain ⟨x, kind, start, goal, mo, z, rfl, _⟩ := h
    rfl
  · obtain ⟨x, kind, start, goal, mo, z, rfl, hM, hk, hz⟩ := h
    refine ⟨_, pss_one (ps_ret (pe_call (E := E) GN (hr.mono (by decide)) (by rfl) gN kN bN .nil (passes_call (takes_of rfl rfl rfl rfl) (fun _ _ _ _ h => h)) (pa_cons (pv 0) (pa_cons (pv 1) (pa_cons (pv 2) (pa_cons (pv 3) (pa_cons (pv 4) (pa_cons (pe_call (E := E) GP (hr.mono (by decide)) (by rfl) gP kP bP .nil (passes_call (takes_of rfl rfl rfl rfl) (fun _ _ _ _ h => h)) (pa_cons (pv 5) pa_nil)) pa_nil)))))))), ?_⟩
    refine ⟨_, rfl, _, rfl, _, rfl, _, rfl, _, rfl, _, rfl, ?_⟩
    rcases hz with ⟨ro, ls, rfl, hok, hP, hPn, kE⟩ | ⟨z', ls, i, e, rest⟩
    · refine .inl ⟨ro, ls, rfl, hok, hP, hPn, fun H' y g ht => ?_⟩
      have h1 := lines_count hok
      have l1 := hok.ll
      refine ⟨x, y, kind, start, goal, mo, _, _, _, rfl, hM.grew g hP, hk, g.tab, ht, by rw [List.length_map]; omega, ?_, fun H2 g2 => kE _ (g.trans g2)⟩
      cases ro with
      | none => exact Nat.zero_le _
      | some p =>
        have h2 := (hok.rn p rfl).2.1
        show p.1.length ≤ 1000
        omega
    · exact .inr ⟨z', ls, i, e, rest⟩
end
end W

set_option Elab.async false
set_option linter.all false
set_option maxRecDepth 100000
set_option maxHeartbeats 2000000
namespace W
open PySem PySem.Spec PyProof.Rows L2 GxR MyG MyS
/-! ### a map of tuples -/
def spRoadsT (K : PySem.W.Frag) (P : Addr) : Sp := fun vs H Q _ => ∃ (a pl ki : Addr) (d : Int) (ps ks : List Str) (rs : List RoadD) (xs : List V), vs = [.ref a, .int d, .ref pl, .ref ki] ∧ SqT K H a xs ∧ Paired (GRoad K H) rs xs ∧ SqT K H pl (ps.map V.str) ∧ SqT K H ki (ks.map V.str) ∧ RoadsOk d ps ks rs ∧ TabG H P ∧
  ∀ H' p rs' ys, Grew P H H' → KeptAll rs rs' → AscR rs' → H p = none → H' p = some (.tup ys) → Paired (RoadAt K H') rs' ys → Q (.ref p) H'
def spBarsT (K : PySem.W.Frag) (P : Addr) : Sp := fun vs H Q _ => ∃ (a d : Addr) (rs : List RoadD) (bs : List (Str × Str)) (xs : List V), vs = [.ref a, .ref d] ∧ SqT K H a xs ∧ Paired (GBar H) bs xs ∧ DictR K H d rs ∧ BarsOk rs bs ∧ TabG H P ∧
  ∀ H' p bs' ys, Grew P H H' → bs'.Perm bs → AscB bs' → H p = none → H' p = some (.tup ys) → Paired (GBar H') bs' ys → Q (.ref p) H'
def spInitLT (K : PySem.W.Frag) (M P : Addr) : Sp := fun vs H Q _ => ∃ (x dx ki pl ro ba : Addr) (d : Int) (ks ps : List Str) (rs : List RoadD) (bs : List (Str × Str)) (xs zs : List V) (H0 : Hp), vs = [.ref x, .int d, .ref ki, .ref pl, .ref ro, .ref ba] ∧
  Grew P H0 H ∧ TabG H0 P ∧ H0 x = none ∧ H x = some (.ins M dx []) ∧ SqL K H0 ki (ks.map V.str) ∧ SqL K H0 pl (ps.map V.str) ∧ SqT K H0 ro xs ∧ Paired (GRoad K H0) rs xs ∧ SqT K H0 ba zs ∧ Paired (GBar H0) bs zs ∧ PartsOk d ks ps rs bs ∧
  ∀ H' ks' ps' rs' bs', Grew P H0 H' → ks'.Perm ks → Asc ks' → ps'.Perm ps → Asc ps' → KeptAll rs rs' → AscR rs' → bs'.Perm bs → AscB bs' → MapAt K H' M x d ks' ps' rs' bs' → Q .non H'
section
variable {Pg : Program} {w : World} {K : PySem.W.Frag} {mg : Str → Option Value} {base : Heap} {C P : Addr}
theorem ok_roadsT {f fN fR : Addr} {fd fdN fdR : FuncData} {t1 t2 t3 : Tok} (F : Fun K "_checked_roads" "_checked_roads" sRoads f fd) (hl : mg "len" = none) (ht : mg "tuple" = none) (hs : mg "sorted" = none)
    (hp : mg "PARTS" = some (.int 6 t1)) (hn : mg "NAME" = some (.int 0 t2)) (hm : mg "MOST_ROADS" = some (.int 60 t3))
    (GN : FnOk Pg w K mg base CX0 3 fN fdN ["names", "least", "most"] (spNames K P)) (gN : mg "_checked_names" = some (.ref fN)) (kN : PySem.W.keepIn K (.ref fN) = true) (bN : Binds K fdN ["names", "least", "most"] [])
    (GR : FnOk Pg w K mg base CX0 2 fR fdR ["road", "day", "places", "kinds"] (spRoad K P)) (gR : mg "_checked_road" = some (.ref fR)) (kR : PySem.W.keepIn K (.ref fR) = true) (bR : Binds K fdR ["road", "day", "places", "kinds"] []) :
    FnOk Pg w K mg base CX0 4 f fd ["roads", "day", "places", "kinds"] (spRoadsT K P) := by
  refine F.ok scRoads (fun vs H Q E h => ?_) (fun cdv A outer s H vs Q E hr h => ?_)
  · obtain ⟨a, pl, ki, d, ps, ks, rs, xs, rfl, _⟩ := h
    rfl
  · obtain ⟨a, pl, ki, d, ps, ks, rs, xs, rfl, hS, hG, hPl, hKi, ok, hP, k⟩ := h
    have hr2 : Room 2 _ := hr.mono (by decide)
    refine ⟨_, pss_cons (ps_for PassesOwn.never rfl (pi_tup (pv 0)) (pg_name (i := 4) scRoads.nd rfl (Or.inl rfl)) (pss_one (ps_if (pt_cmpR op_ne (pe_callB call_len_seq (by rfl) hl PySem.boot_len (pa_cons (pv 4) pa_nil)) (pe_gI hp) (nomark _)) (pss_one ps_never) pss_nil)))
      (pss_cons (ps_expr (pe_call GN hr (by rfl) gN kN bN .nil pass0 (pa_cons (pe_lc (own := [("road", 4)]) (g := gName 4) (tt := tYes) rfl scRoads.nd (pi_tup (pv 0)) (blkOk_by (N := nRoads) (sc := defScope sRoads) (by decide +kernel)) (fun _ _ _ _ _ => pg_name (i := 4) scRoads.nd rfl (Or.inl rfl)) (fun _ _ _ _ _ => pts_nil)
          (fun _ _ _ _ _ => pe_ix (r := rIxT K) ix_tup (pv 4) (pe_gI hn) (fun _ _ => rfl))) (pa_cons pe_int (pa_cons (pe_gI hm) pa_nil)))))
      (pss_cons (ps_setLc (i := 5) (own := [("road", 4)]) (g := gName 4) (tt := tYes) rfl scRoads.nd rfl rfl (sw_true rfl rfl rfl (by decide +kernel)) (pi_tup (pv 0)) (blkOk_by (N := nRoads) (sc := defScope sRoads) (by decide +kernel)) (fun _ _ _ _ _ => pg_name (i := 4) scRoads.nd rfl (Or.inl rfl)) (fun _ _ _ _ _ => pts_nil)
          (fun _ _ _ _ _ => pe_call GR hr2 (by rfl) gR kR bR .nil pass0 (pa_cons (pv 4) (pa_cons (pv 1) (pa_cons (pv 2) (pa_cons (pv 3) pa_nil))))))
      (pss_one (ps_ret (pe_callTy call_tuple_of (by rfl) ht (by decide +kernel) (pa_cons (pe_callB cr_sortR (by rfl) hs (by decide +kernel) (pa_cons (pv 5) pa_nil)) pa_nil)))))), ?_⟩
    have hln : rs.length = xs.length := Paired.len hG
    have hl60 := ok.len
    refine ⟨_, rfl, a, rfl, ⟨_, hS⟩, for_tup (K := K) (a := a) (xs := xs) (fun i σ H' => H' = H ∧ ∃ v, σ = [some (.ref a), some (.int d), some (.ref pl), some (.ref ki), v, none])
      ⟨rfl, none, rfl⟩ (fun i σ H' _ ⟨e, _⟩ => by rw [e]; exact hS) ?_ ?_⟩
    · rintro i y σ H' hi ⟨rfl, v, rfl⟩
      obtain ⟨r, hr, t, u, h, rfl, hT, _⟩ := Paired.at hG hi
      refine ⟨_, rfl, t, _, rfl, .inr hT, rfl, _, rfl, ?_⟩
      exact if_f (by rfl) ⟨rfl, _, rfl⟩
    · rintro σ H' ⟨rfl, v, rfl⟩
      refine ⟨_, rfl, a, rfl, ⟨_, hS⟩, fun D nD => lc_tup (K := K) (a := a) (xs := xs) (fun i H1 => Grew P H' H1 ∧ H1 D = some (.lst (((rs.map (·.name)).take i).map V.str)))
        ⟨Grew.new hP nD, upd_same⟩ (fun i H1 _ p => p.1.sqT hP hS) (fun i x H1 hx p => ?_) (fun H1 p => ?_)⟩
      · obtain ⟨g, hD⟩ := p
        obtain ⟨r, hr, t, u, h, rfl, hT, _⟩ := Paired.at hG hx
        refine ⟨rfl, _, rfl, t, _, 0, .str r.name, rfl, rfl, g.sqT hP hT, rfl, _, hD, ?_, ?_, ?_⟩
        · rw [List.length_map, List.length_take, List.length_map, sizeLine_eq]
          omega
        · exact g.write hD (fun _ z => by cases z) nD
        · rw [upd_same, List.take_succ, List.getElem?_map, hr, List.map_append]
          rfl
      · obtain ⟨g, hD⟩ := p
        rw [← hln, ← List.length_map (f := (·.name)), List.take_length] at hD
        refine ⟨D, rs.map (·.name), 0, 60, rfl, SqL.of hD, by omega, by rw [List.length_map]; omega, by rw [List.length_map]; omega, ok.nm, ok.nd, g.tab, fun H2 p2 ys2 g2 np e2 _ _ => ?_⟩
        have g3 := g.trans g2
        refine ⟨_, rfl, a, rfl, ⟨_, g3.sqT hP hS⟩, fun D2 nD2 => lc_tup (K := K) (a := a) (xs := xs) (fun i H1 => Grew P H' H1 ∧ ∃ acc ms, H1 D2 = some (.lst acc) ∧ Paired Kept (rs.take i) ms ∧ Paired (RoadAt K H1) ms acc)
          ⟨g3.put nD2, [], [], upd_same, .nil, .nil⟩ (fun i H1 _ p => p.1.sqT hP hS) (fun i x H1 hx p => ?_) (fun H1 p => ?_)⟩
        · obtain ⟨g4, acc, ms, hD4, hk4, hm4⟩ := p
          obtain ⟨r, hr, hgr⟩ := Paired.at hG hx
          have nD2' := g3.free nD2
          refine ⟨rfl, _, rfl, _, rfl, _, rfl, _, rfl, x, pl, ki, d, ps, ks, r, rfl, hgr.keep (KeepT.grew g4 hP), g4.sqT hP hPl, g4.sqT hP hKi, ok.ok r (List.mem_of_getElem? hr), g4.tab, fun H5 p5 q5 h5 r5 g5 kp n5 e5 f5 hh5 => ?_⟩
          have hD5 := g5.lst g4.tab hD4
          have g45 := g4.trans g5
          refine ⟨acc, hD5, ?_, g45.write hD5 (fun _ z => by cases z) nD2', acc ++ [.ref p5], ms ++ [r5], upd_same, ?_, ?_⟩
          · rw [← Paired.len hm4, ← Paired.len hk4, List.length_take, sizeLine_eq]
            omega
          · rw [List.take_succ, hr]
            exact Paired.snoc hk4 kp
          · have up : ∀ {r : RoadD} {v : V}, RoadAt K H5 r v → RoadAt K (L2.upd H5 D2 (.lst (acc ++ [.ref p5]))) r v := fun m => m.upd (fun xs z => by rw [hD5] at z; cases z) (KeepT.lst hD5)
            exact Paired.snoc (Paired.map' hm4 fun r v m => up (m.grew g5 g4.tab)) (up ⟨p5, q5, h5, rfl, e5, f5, hh5⟩)
        · obtain ⟨g4, acc, ms, hD4, hk4, hm4⟩ := p
          rw [← hln, List.take_length] at hk4
          have nd : (ms.map (·.name)).Nodup := by rw [kept_names hk4]; exact ok.nd
          refine ⟨_, rfl, D2, acc, nameAt H1, rfl, SqL.of hD4, fun x hx => ?_, fun x hx y hy e => Paired.inj hm4 nd hx hy fun r r' m m' => by rw [← m.name, ← m'.name]; exact e, fun ys l hpm hso hl => ⟨l, _, rfl, .inl ⟨SqL.of upd_same, fun p hp2 => ?_⟩⟩⟩
          · obtain ⟨r, _, m⟩ := Paired.mem hm4 hx
            have nm := m.name
            obtain ⟨p, q, hv, e, e1, _⟩ := m
            exact ⟨p, _, e, by rw [nm]; exact SqT.of e1⟩
          · obtain ⟨rs', pm, hr'⟩ := Paired.perm hpm hm4
            have gl := Grew.new g4.tab (o := .lst ys) hl
            have gp := gl.put (o := .tup ys) hp2
            exact k _ p rs' ys (g4.trans gp) ⟨ms, pm.symm, hk4⟩ (Paired.pair (fun a b x y m m' e => by rw [m.name, m'.name] at e; exact e) hr' hso) (g4.free (gl.free hp2)) upd_same (Paired.map' hr' fun _ _ m => m.grew gp g4.tab)
theorem ok_barsT {f fD : Addr} {fd fdD : FuncData} {t1 t2 t3 : Tok} (F : Fun K "_checked_bars" "_checked_bars" sBars f fd) (hl : mg "len" = none) (ht : mg "tuple" = none) (hs : mg "sorted" = none)
    (hm : mg "MOST_BARS" = some (.int 40 t1)) (he : mg "END" = some (.int 2 t2)) (hst : mg "START" = some (.int 1 t3))
    (GD : FnOk Pg w K mg base CX0 1 fD fdD ["parts"] (spDiff K)) (gD : mg "_check_different" = some (.ref fD)) (kD : PySem.W.keepIn K (.ref fD) = true) (bD : Binds K fdD ["parts"] []) :
    FnOk Pg w K mg base CX0 2 f fd ["bars", "roads_by_name"] (spBarsT K P) := by
  refine F.ok scBars (fun vs H Q E h => ?_) (fun cdv A outer s H vs Q E hr h => ?_)
  · obtain ⟨a, d, rs, bs, xs, rfl, _⟩ := h
    rfl
  · obtain ⟨a, d, rs, bs, xs, rfl, hS, hG, hD, ok, hP, k⟩ := h
    refine ⟨_, pss_cons (ps_if (pt_cmpR op_gt (pe_callB call_len_seq (by rfl) hl PySem.boot_len (pa_cons (pv 0) pa_nil)) (pe_gI hm) (nomark _)) (pss_one ps_never) pss_nil)
      (pss_cons (ps_for PassesOwn.never rfl (pi_tup (pv 0)) (pg_name (i := 2) scBars.nd rfl (Or.inl rfl))
        (pss_cons (ps_if (pt_cmpR op_ne (pe_callB call_len_seq (by rfl) hl PySem.boot_len (pa_cons (pv 2) pa_nil)) pe_int (nomark _)) (pss_one ps_never) pss_nil)
        (pss_cons (ps_asg (pv 2) (pg_tup (by rfl) (pgs_cons (pg_name (i := 3) scBars.nd rfl (.inl rfl)) (pgs_cons (pg_name (i := 4) scBars.nd rfl (.inl rfl)) pgs_nil))))
        (pss_cons (ps_if (PW.pt (pw_or (pt_cmp (pc_dnotin (u1 hr.units) (pv 3) (pv 1))) (pw_or1 (pt_cmp (pc_dnotin (u1 hr.units) (pv 4) (pv 1)))))) (pss_one ps_never) pss_nil)
        (pss_one (ps_if (pt_cmpR op_ne (pe_ix ix_tup (pe_dget (u1 hr.units) (pv 1) (pv 3) (fun _ _ => rfl)) (pe_gI he) (fun _ _ => rfl)) (pe_ix ix_tup (pe_dget (u1 hr.units) (pv 1) (pv 4) (fun _ _ => rfl)) (pe_gI hst) (fun _ _ => rfl)) (nomark _)) (pss_one ps_never) pss_nil))))))
      (pss_cons (ps_setLc (i := 5) (own := [("bar", 2)]) (g := gName 2) (tt := tYes) rfl scBars.nd rfl rfl (sw_true rfl rfl rfl (by decide +kernel)) (pi_tup (pv 0)) (blkOk_by (N := nBars) (sc := defScope sBars) (by decide +kernel)) (fun _ _ _ _ _ => pg_name (i := 2) scBars.nd rfl (Or.inl rfl)) (fun _ _ _ _ _ => pts_nil)
          (fun _ _ _ _ _ => pe_callTy (r := rTupOf K) call_tuple_of (by rfl) ht (by decide +kernel) (pa_cons (pv 2) pa_nil)))
      (pss_cons (ps_expr (pe_call GD (hr.mono (by decide)) (by rfl) gD kD bD .nil pass0 (pa_cons (pv 5) pa_nil)))
      (pss_one (ps_ret (pe_callTy call_tuple_of (by rfl) ht (by decide +kernel) (pa_cons (pe_callB cr_sortB (by rfl) hs (by decide +kernel) (pa_cons (pv 5) pa_nil)) pa_nil))))))), ?_⟩
    have hln := Paired.len hG
    have hl40 := ok.len
    refine ⟨_, rfl, a, _, rfl, .inr hS, _, _, rfl, rfl, _, rfl, if_f (decide_eq_false (by omega)) ?_⟩
    refine ⟨_, rfl, a, rfl, ⟨_, hS⟩, for_tup (K := K) (a := a) (xs := xs) (fun i σ H' => H' = H ∧ ∃ v1 v2 v3, σ = [some (.ref a), some (.ref d), v1, v2, v3, none])
      ⟨rfl, none, none, none, rfl⟩ (fun i σ H' _ ⟨e, _⟩ => by rw [e]; exact hS) ?_ ?_⟩
    · rintro i y σ H' hi ⟨rfl, v1, v2, v3, rfl⟩
      obtain ⟨b, hb, t, rfl, hT⟩ := Paired.at hG hi
      obtain ⟨r1, hr1, r2, hr2, e1, e2, e3⟩ := ok.ok b (List.mem_of_getElem? hb)
      obtain ⟨kvs, hd, hin, _⟩ := hD
      obtain ⟨w1, l1, p1, q1, h1, rfl, a1, _, _⟩ := hin r1 hr1
      obtain ⟨w2, l2, p2, q2, h2, rfl, a2, _, _⟩ := hin r2 hr2
      rw [← e1] at l1
      rw [← e2] at l2
      have g1 : DGet H' d (.str b.1) (some (.ref p1)) := by rw [← l1]; exact DGet.k (k := .inr b.1) hd
      have g2 : DGet H' d (.str b.2) (some (.ref p2)) := by rw [← l2]; exact DGet.k (k := .inr b.2) hd
      refine ⟨_, rfl, t, _, rfl, .inr (SqT.of hT), rfl, _, rfl, if_f (by rfl) ?_⟩
      refine ⟨_, rfl, t, _, rfl, SqT.of hT, rfl, _, _, rfl, _, _, rfl, rfl, ?_⟩
      refine ⟨_, rfl, _, rfl, d, _, rfl, g1, _, rfl, if_f (by rfl) ?_⟩
      refine ⟨_, rfl, _, rfl, d, _, rfl, g2, _, rfl, if_f (by rfl) ?_⟩
      refine ⟨_, rfl, _, rfl, d, _, rfl, g1, p1, _, 2, .str r1.goal, rfl, rfl, SqT.of a1, rfl, _, rfl, _, rfl, d, _, rfl, g2, p2, _, 1, .str r2.start, rfl, rfl, SqT.of a2, rfl, rfl, _, rfl, if_f ?_ ⟨rfl, _, _, _, rfl⟩⟩
      rw [e3]
      simp
    · rintro σ H' ⟨rfl, v1, v2, v3, rfl⟩
      refine ⟨_, rfl, a, rfl, ⟨_, hS⟩, fun D nD => lc_tup (K := K) (a := a) (xs := xs) (fun i H1 => Grew P H' H1 ∧ H1 D = some (.lst (xs.take i)))
        ⟨Grew.new hP nD, upd_same⟩ (fun i H1 _ p => p.1.sqT hP hS) (fun i x H1 hx p => ?_) (fun H1 p => ?_)⟩
      · obtain ⟨g, hD1⟩ := p
        obtain ⟨b, hb, t, rfl, hT⟩ := Paired.at hG hx
        refine ⟨rfl, _, rfl, t, _, rfl, .inr ⟨SqT.of (g.tup hP hT), _, hD1, ?_, g.write hD1 (fun _ z => by cases z) nD, ?_⟩⟩
        · rw [List.length_take, sizeLine_eq]; omega
        · rw [upd_same, List.take_succ, hx]; rfl
      · obtain ⟨g, hD1⟩ := p
        rw [List.take_length] at hD1
        have hG1 : Paired (GBar H1) bs xs := Paired.map' hG fun b v m => m.grew g hP
        obtain ⟨ks, ek1, ek2, ek3⟩ := bars_keys (K := K) hG1
        have lk : ks.length = xs.length := by rw [ek1, List.length_map]
        refine ⟨_, rfl, D, rfl, .inr ⟨ks, by rw [← ek1]; exact SqL.of hD1, ek3, by omega, by rw [ek2]; exact nodup_bars ok.nd⟩, ?_⟩
        refine ⟨_, rfl, D, xs, barAt H1, rfl, SqL.of hD1, fun x hx => ?_, fun ys l hpm hso hl => ⟨l, _, rfl, .inl ⟨SqL.of upd_same, fun p hp2 => ?_⟩⟩⟩
        · obtain ⟨b, _, m⟩ := Paired.mem hG1 hx
          have nm := m.at
          obtain ⟨t, e, q⟩ := m
          exact ⟨t, e, by rw [nm]; exact SqT.of q⟩
        · obtain ⟨bs', pm, hr'⟩ := Paired.perm hpm hG1
          have gl := Grew.new g.tab (o := .lst ys) hl
          have gp := gl.put (o := .tup ys) hp2
          exact k _ p bs' ys (g.trans gp) pm (Paired.pair (fun a b x y m m' e => by rw [m.at, m'.at] at e; exact e) hr' hso) (g.free (gl.free hp2)) upd_same (Paired.map' hr' fun _ _ m => m.grew gp g.tab)
theorem ok_initLT {f fY fN fR fB M : Addr} {fd fdY fdN fdR fdB : FuncData} {t1 t2 t3 : Tok} {dvs : List V} {kws : List (Str × V)} (F : FunD K "__init__" "Map.__init__" (defArgs sInit) (defBody sInit) (defScope sInit) dvs kws f fd) (T : TxtM K M)
    (hn : mg "NAME" = some (.int 0 t1)) (hk : mg "MOST_KINDS" = some (.int 4 t2)) (hp : mg "MOST_PLACES" = some (.int 30 t3))
    (GY : FnOk Pg w K mg base CX0 1 fY fdY ["day"] spDay) (gY : mg "_checked_day" = some (.ref fY)) (kY : PySem.W.keepIn K (.ref fY) = true) (bY : Binds K fdY ["day"] [])
    (GN : FnOk Pg w K mg base CX0 3 fN fdN ["names", "least", "most"] (spNames K P)) (gN : mg "_checked_names" = some (.ref fN)) (kN : PySem.W.keepIn K (.ref fN) = true) (bN : Binds K fdN ["names", "least", "most"] [])
    (GR : FnOk Pg w K mg base CX0 4 fR fdR ["roads", "day", "places", "kinds"] (spRoadsT K P)) (gR : mg "_checked_roads" = some (.ref fR)) (kR : PySem.W.keepIn K (.ref fR) = true) (bR : Binds K fdR ["roads", "day", "places", "kinds"] [])
    (GB : FnOk Pg w K mg base CX0 2 fB fdB ["bars", "roads_by_name"] (spBarsT K P)) (gB : mg "_checked_bars" = some (.ref fB)) (kB : PySem.W.keepIn K (.ref fB) = true) (bB : Binds K fdB ["bars", "roads_by_name"] []) :
    FnOk Pg w K mg base CX0 5 f fd pInit (spInitLT K M P) := by
  refine F.ok scInit (fun vs H Q E h => ?_) (fun cdv A outer s H vs Q E hr h => ?_)
  · obtain ⟨x, dx, ki, pl, ro, ba, d, ks, ps, rs, bs, xs, zs, H0, rfl, _⟩ := h
    rfl
  · obtain ⟨x, dx, ki, pl, ro, ba, d, ks, ps, rs, bs, xs, zs, H0, rfl, g0, hP0, nx, hx, hKi, hPl, hRo, hG, hBa, hB, ok, k⟩ := h
    have hr1 : Room 1 _ := hr.mono (by decide)
    have hr2 : Room 2 _ := hr.mono (by decide)
    have hr3 : Room 3 _ := hr.mono (by decide)
    refine ⟨_, pss_cons (ps_fld (pv 0) (pe_call GY hr1 (by rfl) gY kY bY .nil pass0 (pa_cons (pv 1) pa_nil)) rfl)
      (pss_cons (ps_fld (pv 0) (pe_call GN hr3 (by rfl) gN kN bN .nil pass0 (pa_cons (pv 2) (pa_cons pe_int (pa_cons (pe_gI hk) pa_nil)))) rfl)
      (pss_cons (ps_fld (pv 0) (pe_call GN hr3 (by rfl) gN kN bN .nil pass0 (pa_cons (pv 3) (pa_cons pe_int (pa_cons (pe_gI hp) pa_nil)))) rfl)
      (pss_cons (ps_fld (pv 0) (pe_call GR hr (by rfl) gR kR bR .nil pass0 (pa_cons (pv 4) (pa_cons (pv 1) (pa_cons (pe_fld (pv 0) rfl) (pa_cons (pe_fld (pv 0) rfl) pa_nil))))) rfl)
      (pss_cons (ps_fld (pv 0) (pe_dc (own := [("road", 6)]) (g := gName 6) (tt := tYes) rfl scInit.nd (pi_tup (pe_fld (pv 0) rfl)) (blkOk_by (N := nInit) (sc := defScope sInit) (by decide +kernel)) (fun _ _ _ _ _ => pg_name (i := 6) scInit.nd rfl (Or.inl rfl)) (fun _ _ _ _ _ => pts_nil)
          (fun _ _ _ _ _ => pe_ix (r := rIxT K) ix_tup (pv 6) (pe_gI hn) (fun _ _ => rfl)) (fun _ _ _ _ _ => pv 6)) rfl)
      (pss_cons (ps_fld (pv 0) (pe_call GB hr2 (by rfl) gB kB bB .nil pass0 (pa_cons (pv 5) (pa_cons (pe_fld (pv 0) rfl) pa_nil))) rfl)
      (pss_one (ps_fld (pv 0) (pe_dcT (own := [("bar", 7)]) (g := gName 7) (tt := tYes) (u1 hr.units) rfl scInit.nd (pi_tup (pe_fld (pv 0) rfl)) (blkOk_by (N := nInit) (sc := defScope sInit) (by decide +kernel)) (fun _ _ _ _ _ => pg_name (i := 7) scInit.nd rfl (Or.inl rfl)) (fun _ _ _ _ _ => pts_nil)
          (fun _ _ _ _ _ => pv 7) (fun _ _ _ _ _ => pe_bl)) rfl))))))), ?_⟩
    have nins : ∀ (fs : List (Str × V)) (q : Array Value), (HO.ins M dx fs) ≠ .tbl q := fun _ _ z => by cases z
    have k1 := ok.k1
    have k2 := ok.k2
    have p2 := ok.p2
    -- day
    refine ⟨_, rfl, d, rfl, ok.d1, ok.d2, _, rfl, x, M, dx, [], rfl, hx, T.cl, T.n1, by decide, ?_⟩
    have ga := g0.write (o := .ins M dx (putF "day" (.int d) [])) hx (nins _) nx
    have la : (putF ("day" : Str) (V.int d) []).length ≤ 1 := length_putF _ _ []
    -- kinds
    refine ⟨_, rfl, ki, ks, 1, 4, rfl, ga.sqL hP0 hKi, by omega, by omega, by omega, ok.kn, ok.kd, ga.tab, fun Hb kk ks' gb nk ek pk ak => ?_⟩
    have xb := gb.get ga.tab upd_same (nins _)
    refine ⟨_, rfl, x, M, dx, _, rfl, xb, T.cl, T.n2, by omega, ?_⟩
    have gc := (ga.trans gb).write (o := .ins M dx (putF "kinds" (.ref kk) (putF "day" (.int d) []))) xb (nins _) nx
    have lc := length_putF ("kinds" : Str) (V.ref kk) (putF ("day" : Str) (V.int d) [])
    have tk := tup_ins (o := .ins M dx (putF "kinds" (.ref kk) (putF "day" (.int d) []))) xb ek
    -- places
    refine ⟨_, rfl, pl, ps, 0, 30, rfl, gc.sqL hP0 hPl, by omega, by omega, by omega, ok.pn, ok.pd, gc.tab, fun Hd pp ps' gd np ep pp' ap => ?_⟩
    have xd := gd.get gc.tab upd_same (nins _)
    refine ⟨_, rfl, x, M, dx, _, rfl, xd, T.cl, T.n3, by omega, ?_⟩
    have ge := (gc.trans gd).write (o := .ins M dx (putF "places" (.ref pp) (putF "kinds" (.ref kk) (putF "day" (.int d) [])))) xd (nins _) nx
    have le := length_putF ("places" : Str) (V.ref pp) (putF ("kinds" : Str) (V.ref kk) (putF ("day" : Str) (V.int d) []))
    generalize hfs : putF ("places" : Str) (V.ref pp) (putF ("kinds" : Str) (V.ref kk) (putF ("day" : Str) (V.int d) [])) = fs at ge le ⊢
    have f0 : ∀ f, f ∉ nmF → fs.lookup f = none := by rw [← hfs]; exact noF (noF (noF (fun _ _ => rfl) (by decide +kernel)) (by decide +kernel)) (by decide +kernel)
    have f3 : fs.lookup ("places" : Str) = some (V.ref pp) := by rw [← hfs, lookup_putF, if_pos rfl]
    have f2 : fs.lookup ("kinds" : Str) = some (V.ref kk) := by rw [← hfs, lookup_putF, if_neg (by decide +kernel), lookup_putF, if_pos rfl]
    have f1 : fs.lookup ("day" : Str) = some (V.int d) := by rw [← hfs, lookup_putF, if_neg (by decide +kernel), lookup_putF, if_neg (by decide +kernel), lookup_putF, if_pos rfl]
    have tk2 := tup_ins (o := .ins M dx fs) xd (gd.tup gc.tab tk)
    have tp2 := tup_ins (o := .ins M dx fs) xd ep
    -- roads
    have okr := ok.r.perm pp' pk
    refine ⟨_, rfl, _, rfl, _, rfl, x, M, dx, _, _, rfl, upd_same, T.cl, T.n3, f3, _, rfl, x, M, dx, _, _, rfl, upd_same, T.cl, T.n2, f2,
      ro, pp, kk, d, ps', ks', rs, xs, rfl, ge.sqT hP0 hRo, Paired.map' hG (fun r v m => m.keep (KeepT.grew ge hP0)), SqT.of tp2, SqT.of tk2, okr, ge.tab, fun Hf rr rs' ys gf kr ar nr er hm => ?_⟩
    have xf := gf.get ge.tab upd_same (nins _)
    refine ⟨_, rfl, x, M, dx, _, rfl, xf, T.cl, T.n4, by omega, ?_⟩
    have gg := (ge.trans gf).write (o := .ins M dx (putF "roads" (.ref rr) fs)) xf (nins _) nx
    have lg := length_putF ("roads" : Str) (V.ref rr) fs
    have fg4 : (putF ("roads" : Str) (V.ref rr) fs).lookup ("roads" : Str) = some (V.ref rr) := by rw [lookup_putF, if_pos rfl]
    have fg3 : (putF ("roads" : Str) (V.ref rr) fs).lookup ("places" : Str) = some (V.ref pp) := by rw [lookup_putF, if_neg (by decide +kernel)]; exact f3
    have fg2 : (putF ("roads" : Str) (V.ref rr) fs).lookup ("kinds" : Str) = some (V.ref kk) := by rw [lookup_putF, if_neg (by decide +kernel)]; exact f2
    have fg1 : (putF ("roads" : Str) (V.ref rr) fs).lookup ("day" : Str) = some (V.int d) := by rw [lookup_putF, if_neg (by decide +kernel)]; exact f1
    have fg0 := noF (v := V.ref rr) f0 (show ("roads" : Str) ∈ nmF by decide +kernel)
    generalize hgs : putF ("roads" : Str) (V.ref rr) fs = gs at gg lg fg0 fg1 fg2 fg3 fg4 ⊢
    have tr3 := tup_ins (o := .ins M dx gs) xf er
    have tk3 := tup_ins (o := .ins M dx gs) xf (gf.tup ge.tab tk2)
    have tp3 := tup_ins (o := .ins M dx gs) xf (gf.tup ge.tab tp2)
    have hm3 : Paired (RoadAt K (L2.upd Hf x (.ins M dx gs))) rs' ys := Paired.map' hm fun r v m => m.ins xf
    have lys : ys.length ≤ 60 := by rw [← Paired.len hm3, kr.len]; exact ok.r.len
    have ndr := kr.nodup ok.r.nd
    generalize hHg : L2.upd Hf x (.ins M dx gs) = Hg at gg tr3 tk3 tp3 hm3 ⊢
    have xg : Hg x = some (.ins M dx gs) := by rw [← hHg]; exact upd_same
    -- _roads_by_name
    refine ⟨_, rfl, x, M, dx, _, _, rfl, xg, T.cl, T.n4, fg4, rr, rfl, ⟨_, SqT.of tr3⟩, fun D nD => dc_tup (K := K) (a := rr) (xs := ys)
      (fun i H1 => Grew P Hg H1 ∧ ∃ kvs, H1 D = some (.dK kvs) ∧ kvs.length ≤ i ∧ (∀ (j : Nat) r v, j < i → rs'[j]? = some r → ys[j]? = some v → valV kvs (.inr r.name) = some v) ∧ ∀ z : Str, (∀ r ∈ rs'.take i, r.name ≠ z) → valV kvs (.inr z) = none)
      ⟨Grew.new gg.tab nD, [], upd_same, Nat.le_refl _, fun j r v h => absurd h (Nat.not_lt_zero _), fun z _ => rfl⟩ (fun i H1 _ p => SqT.of (p.1.tup gg.tab tr3)) (fun i y H1 hy p => ?_) (fun Hh p => ?_)⟩
    · obtain ⟨g, kvs, hD, hl, hin, hno⟩ := p
      obtain ⟨r, hri, m⟩ := Paired.at hm3 hy
      have hi : i < ys.length := (List.getElem?_eq_some_iff.mp hy).1
      have m1 := m.grew g gg.tab
      obtain ⟨t, q, h, rfl, et, _⟩ := m1
      refine ⟨rfl, _, rfl, t, _, 0, .str r.name, rfl, rfl, SqT.of et, rfl, _, rfl, kvs, .inr r.name, rfl, hD, ?_, g.write hD (fun _ z => by cases z) nD, _, upd_same, ?_, fun j r' v' hj hr' hv' => ?_, fun z hz => ?_⟩
      · rw [sizeLine_eq]; omega
      · exact Nat.le_trans (length_putK kvs (.inr r.name) _) (by omega)
      · rw [valV_put]
        by_cases e : j = i
        · subst e
          rw [hri] at hr'
          rw [hy] at hv'
          cases hr'; cases hv'
          rw [if_pos rfl]
        · have ne : ¬ (Sum.inr r'.name : Key) = .inr r.name := fun z => by
            injection z with z
            have hri' := (List.getElem?_eq_some_iff.mp hri)
            have hrj' := (List.getElem?_eq_some_iff.mp hr')
            obtain ⟨a1, a2⟩ := hri'
            obtain ⟨b1, b2⟩ := hrj'
            refine absurd ?_ (List.pairwise_iff_getElem.mp ndr j i (by rw [List.length_map]; exact b1) (by rw [List.length_map]; exact a1) (by omega))
            rw [List.getElem_map, List.getElem_map, a2, b2]
            exact z
          rw [if_neg ne]
          exact hin j r' v' (by omega) hr' hv'
      · rw [valV_put, if_neg ?_]
        · exact hno z fun r' hr' => hz r' (by rw [List.take_succ]; exact List.mem_append_left _ hr')
        · intro e
          injection e with e
          exact hz r (by rw [List.take_succ, hri]; exact List.mem_append_right _ (List.mem_singleton.mpr rfl)) e.symm
    · obtain ⟨gh, kvs, hD, hl, hin, hno⟩ := p
      have xh := gh.get gg.tab xg (nins _)
      refine ⟨_, rfl, x, M, dx, _, rfl, xh, T.cl, T.n5, by omega, ?_⟩
      have gi := (gg.trans gh).write (o := .ins M dx (putF "_roads_by_name" (.ref D) gs)) xh (nins _) nx
      have li := length_putF ("_roads_by_name" : Str) (V.ref D) gs
      have fi5 : (putF ("_roads_by_name" : Str) (V.ref D) gs).lookup ("_roads_by_name" : Str) = some (V.ref D) := by rw [lookup_putF, if_pos rfl]
      have fi4 : (putF ("_roads_by_name" : Str) (V.ref D) gs).lookup ("roads" : Str) = some (V.ref rr) := by rw [lookup_putF, if_neg (by decide +kernel)]; exact fg4
      have fi3 : (putF ("_roads_by_name" : Str) (V.ref D) gs).lookup ("places" : Str) = some (V.ref pp) := by rw [lookup_putF, if_neg (by decide +kernel)]; exact fg3
      have fi2 : (putF ("_roads_by_name" : Str) (V.ref D) gs).lookup ("kinds" : Str) = some (V.ref kk) := by rw [lookup_putF, if_neg (by decide +kernel)]; exact fg2
      have fi1 : (putF ("_roads_by_name" : Str) (V.ref D) gs).lookup ("day" : Str) = some (V.int d) := by rw [lookup_putF, if_neg (by decide +kernel)]; exact fg1
      have fi0 := noF (v := V.ref D) fg0 (show ("_roads_by_name" : Str) ∈ nmF by decide +kernel)
      generalize his : putF ("_roads_by_name" : Str) (V.ref D) gs = is at gi li fi0 fi1 fi2 fi3 fi4 fi5 ⊢
      have hmh : Paired (RoadAt K Hh) rs' ys := Paired.map' hm3 fun r v m => m.grew gh gg.tab
      have dR : DictR K (L2.upd Hh x (.ins M dx is)) D rs' := by
        refine DictR.ins xh ⟨kvs, hD, fun r hr => ?_, fun z hz => hno z fun r hr => hz r (List.mem_of_mem_take hr)⟩
        obtain ⟨j, hj, ej⟩ := List.getElem_of_mem hr
        have hj' : rs'[j]? = some r := List.getElem?_eq_some_iff.mpr ⟨hj, ej⟩
        obtain ⟨v, hv, m⟩ := Paired.to hmh hj'
        exact ⟨v, hin j r v (List.getElem?_eq_some_iff.mp hv).1 hj' hv, m⟩
      have tr4 := tup_ins (o := .ins M dx is) xh (gh.tup gg.tab tr3)
      have tk4 := tup_ins (o := .ins M dx is) xh (gh.tup gg.tab tk3)
      have tp4 := tup_ins (o := .ins M dx is) xh (gh.tup gg.tab tp3)
      have hm4 : Paired (RoadAt K (L2.upd Hh x (.ins M dx is))) rs' ys := Paired.map' hmh fun r v m => m.ins xh
      generalize hHi : L2.upd Hh x (.ins M dx is) = Hi at gi tr4 tk4 tp4 hm4 dR ⊢
      have xi : Hi x = some (.ins M dx is) := by rw [← hHi]; exact upd_same
      -- bars
      refine ⟨_, rfl, _, rfl, x, M, dx, _, _, rfl, xi, T.cl, T.n5, fi5, ba, D, rs', bs, zs, rfl, gi.sqT hP0 hBa, Paired.map' hB (fun b v m => m.grew gi hP0), dR, ok.b.kept kr, gi.tab, fun Hj bb bs' zs' gj pb ab nb eb hz => ?_⟩
      have xj := gj.get gi.tab xi (nins _)
      refine ⟨_, rfl, x, M, dx, _, rfl, xj, T.cl, T.n6, by omega, ?_⟩
      have gk := (gi.trans gj).write (o := .ins M dx (putF "bars" (.ref bb) is)) xj (nins _) nx
      have lk := length_putF ("bars" : Str) (V.ref bb) is
      have fk6 : (putF ("bars" : Str) (V.ref bb) is).lookup ("bars" : Str) = some (V.ref bb) := by rw [lookup_putF, if_pos rfl]
      have fk5 : (putF ("bars" : Str) (V.ref bb) is).lookup ("_roads_by_name" : Str) = some (V.ref D) := by rw [lookup_putF, if_neg (by decide +kernel)]; exact fi5
      have fk4 : (putF ("bars" : Str) (V.ref bb) is).lookup ("roads" : Str) = some (V.ref rr) := by rw [lookup_putF, if_neg (by decide +kernel)]; exact fi4
      have fk3 : (putF ("bars" : Str) (V.ref bb) is).lookup ("places" : Str) = some (V.ref pp) := by rw [lookup_putF, if_neg (by decide +kernel)]; exact fi3
      have fk2 : (putF ("bars" : Str) (V.ref bb) is).lookup ("kinds" : Str) = some (V.ref kk) := by rw [lookup_putF, if_neg (by decide +kernel)]; exact fi2
      have fk1 : (putF ("bars" : Str) (V.ref bb) is).lookup ("day" : Str) = some (V.int d) := by rw [lookup_putF, if_neg (by decide +kernel)]; exact fi1
      have fk0 := noF (v := V.ref bb) fi0 (show ("bars" : Str) ∈ nmF by decide +kernel)
      generalize hjs : putF ("bars" : Str) (V.ref bb) is = js at gk lk fk0 fk1 fk2 fk3 fk4 fk5 fk6 ⊢
      have tb5 := tup_ins (o := .ins M dx js) xj eb
      have tr5 := tup_ins (o := .ins M dx js) xj (gj.tup gi.tab tr4)
      have tk5 := tup_ins (o := .ins M dx js) xj (gj.tup gi.tab tk4)
      have tp5 := tup_ins (o := .ins M dx js) xj (gj.tup gi.tab tp4)
      have hm5 : Paired (RoadAt K (L2.upd Hj x (.ins M dx js))) rs' ys := Paired.map' hm4 fun r v m => (m.grew gj gi.tab).ins xj
      have hz5 : Paired (GBar (L2.upd Hj x (.ins M dx js))) bs' zs' := Paired.map' hz fun b v m => m.ins xj
      have dR5 : DictR K (L2.upd Hj x (.ins M dx js)) D rs' := (dR.grew gj gi.tab).ins xj
      have lzs : zs'.length ≤ 40 := by rw [← Paired.len hz5, pb.length_eq]; exact ok.b.len
      generalize hHk : L2.upd Hj x (.ins M dx js) = Hk at gk tb5 tr5 tk5 tp5 hm5 hz5 dR5 ⊢
      have xk : Hk x = some (.ins M dx js) := by rw [← hHk]; exact upd_same
      -- _barred
      refine ⟨_, rfl, x, M, dx, _, _, rfl, xk, T.cl, T.n6, fk6, bb, rfl, ⟨_, SqT.of tb5⟩, fun D2 nD2 => dcT_tup (K := K) (a := bb) (xs := zs')
        (fun i H1 => Grew P Hk H1 ∧ ∃ kvs : List (List Key × V), H1 D2 = some (.dT kvs) ∧ kvs.length ≤ i ∧ ∀ a b : Str, (valV kvs [.inr a, .inr b]).isSome = true ↔ (a, b) ∈ bs'.take i)
        ⟨Grew.new gk.tab nD2, [], upd_same, Nat.le_refl _, fun a b => by simp [valV_nil]⟩ (fun i H1 _ p => SqT.of (p.1.tup gk.tab tb5)) (fun i y H1 hy p => ?_) (fun Hl p => ?_)⟩
      · obtain ⟨g, kvs, hD, hl, hin⟩ := p
        obtain ⟨b, hbi, m⟩ := Paired.at hz5 hy
        have hi : i < zs'.length := (List.getElem?_eq_some_iff.mp hy).1
        obtain ⟨t, rfl, et⟩ := m.grew g gk.tab
        refine ⟨rfl, _, rfl, kvs, [.inr b.1, .inr b.2], t, rfl, et, hD, ?_, g.write hD (fun _ z => by cases z) nD2, _, upd_same, ?_, fun a' b' => ?_⟩
        · rw [sizeLine_eq]; omega
        · have := length_putK kvs ([.inr b.1, .inr b.2] : List Key) (V.bl true)
          omega
        · rw [valV_put, List.take_succ, hbi, List.mem_append]
          by_cases e : ([.inr a', .inr b'] : List Key) = [.inr b.1, .inr b.2]
          · rw [if_pos e]
            have e1 : a' = b.1 := Sum.inr.inj (List.cons.inj e).1
            have e2 : b' = b.2 := Sum.inr.inj (List.cons.inj (List.cons.inj e).2).1
            subst e1 e2
            exact ⟨fun _ => .inr (List.mem_singleton.mpr rfl), fun _ => rfl⟩
          · rw [if_neg e, hin a' b']
            refine ⟨.inl, fun h => h.elim id fun h => ?_⟩
            have h' : (a', b') = b := List.mem_singleton.mp h
            subst h'
            exact absurd rfl e
      · obtain ⟨gl, kvs, hD, hl, hin⟩ := p
        have lb : bs'.length = zs'.length := Paired.len hz5
        rw [← lb, List.take_length] at hin
        have xl := gl.get gk.tab xk (nins _)
        refine ⟨_, rfl, x, M, dx, _, rfl, xl, T.cl, T.n7, by omega, ?_⟩
        have gm := (gk.trans gl).write (o := .ins M dx (putF "_barred" (.ref D2) js)) xl (nins _) nx
        refine k _ ks' ps' rs' bs' gm pk ak pp' ap kr ar pb ab ⟨dx, putF "_barred" (.ref D2) js, kk, pp, rr, D, bb, D2, ys, zs', upd_same, ?_⟩
        constructor
        · exact noF fk0 (by decide +kernel)
        · rw [lookup_putF, if_neg (by decide +kernel)]; exact fk1
        · rw [lookup_putF, if_neg (by decide +kernel)]; exact fk2
        · rw [lookup_putF, if_neg (by decide +kernel)]; exact fk3
        · rw [lookup_putF, if_neg (by decide +kernel)]; exact fk4
        · rw [lookup_putF, if_neg (by decide +kernel)]; exact fk5
        · rw [lookup_putF, if_neg (by decide +kernel)]; exact fk6
        · rw [lookup_putF, if_pos rfl]
        · exact tup_ins xl (gl.tup gk.tab tk5)
        · exact tup_ins xl (gl.tup gk.tab tp5)
        · exact tup_ins xl (gl.tup gk.tab tr5)
        · exact Paired.map' hm5 fun r v m => (m.grew gl gk.tab).ins xl
        · exact (dR5.grew gl gk.tab).ins xl
        · exact tup_ins xl (gl.tup gk.tab tb5)
        · exact Paired.map' hz5 fun b v m => (m.grew gl gk.tab).ins xl
        · exact ⟨kvs, by rw [upd_ne (insNe xl hD (fun _ _ _ z => by cases z))]; exact hD, hin⟩
end
end W


set_option Elab.async false
set_option linter.all false
set_option maxRecDepth 100000
set_option maxHeartbeats 1000000
namespace W
open PySem PySem.Spec PyProof.Rows L2 GxR MyG
/-! ### lines that cannot stand -/
def z1 : Str := "1"
def zE : Str := ""
/-- a word of a line -/
structure PlainW (w : Str) : Prop where
  a : 32 ∉ TL.tl w
  b : 10 ∉ TL.tl w
  o : PyData.strOk w = true
  l : w.length ≤ 20
theorem plain_nm {x : Str} (h : isNm x = true) : PlainW x := ⟨no32 (nm_plain h), no10 (nm_plain h), good_ok (nm_plain h), by have := nm_len h; omega⟩
theorem plain_num {n : Nat} (h : n ≤ 999999999) : PlainW (numS n) := ⟨no32 (num_plain n), no10 (num_plain n), good_ok (num_plain n), by have := num_len h; omega⟩
theorem plain_lit (w : Str) (h : (!decide (32 ∈ TL.tl w) && !decide (10 ∈ TL.tl w) && PyData.strOk w && decide (w.length ≤ 20)) = true) : PlainW w := by
  simp only [Bool.and_eq_true, Bool.not_eq_true', decide_eq_false_iff_not, decide_eq_true_eq] at h
  exact ⟨h.1.1.1, h.1.1.2, h.1.2, h.2⟩
theorem plain_none : PlainW zNone := plain_lit _ (by decide +kernel)
theorem plain_arr : PlainW zArr := plain_lit _ (by decide +kernel)
theorem plain_by : PlainW zBy := plain_lit _ (by decide +kernel)
theorem plain_low : PlainW zLow := plain_lit _ (by decide +kernel)
theorem plain_1 : PlainW z1 := plain_lit _ (by decide +kernel)
theorem plain_E : PlainW zE := plain_lit _ (by decide +kernel)
/-- at no place -/
def DeadC (ws : List Str) : Prop := ∀ (rss : List (List Str)) (i : Nat), rss.getD i [] = ws → canStand rss i = false
theorem dead1 {a : Str} (h : a ≠ zNone) : DeadC [a] := fun rss i e => by
  unfold canStand
  rw [e]
  show (if i = 0 then decide ([a] = [zNone]) || (decide (1 = 2) && _) else if a = zBy then _ && (decide (1 = 2) && _) else decide (1 = 3) && _) = false
  split
  · rw [decide_eq_false (fun q => h (by injection q))]; rfl
  · split
    · rw [show decide (1 = 2) = false by decide, Bool.false_and, Bool.and_false]
    · rfl
theorem dead2 {a b : Str} (h1 : ¬ (a = zArr ∧ isNr 9 b = true)) (h2 : ¬ (a = zBy ∧ isNm b = true)) : DeadC [a, b] := fun rss i e => by
  unfold canStand
  rw [e]
  show (if i = 0 then decide ([a, b] = [zNone]) || (decide (2 = 2) && (decide (a = zArr) && isNr 9 b)) else if a = zBy then _ && (decide (2 = 2) && isNm b) else decide (2 = 3) && _) = false
  split
  · rw [decide_eq_false (fun q => by simp at q)]
    by_cases c : a = zArr
    · cases d : isNr 9 b with
      | true => exact absurd ⟨c, d⟩ h1
      | false => simp
    · simp [c]
  · split
    · rename_i c
      cases d : isNm b with
      | true => exact absurd ⟨c, d⟩ h2
      | false => simp
    · rfl
theorem dead3 {a b c : Str} (h : ¬ (a = zLow ∧ isNm b = true ∧ isNr 9 c = true)) : DeadC [a, b, c] := fun rss i e => by
  unfold canStand
  rw [e]
  show (if i = 0 then decide ([a, b, c] = [zNone]) || (decide (3 = 2) && _) else if a = zBy then _ && (decide (3 = 2) && _) else decide (3 = 3) && (decide (a = zLow) && (isNm b && isNr 9 c))) = false
  split
  · rw [decide_eq_false (fun q => by simp at q)]; rfl
  · split
    · rw [show decide (3 = 2) = false by decide, Bool.false_and, Bool.and_false]
    · by_cases q : a = zLow
      · cases d : isNm b with
        | false => simp
        | true =>
          cases d2 : isNr 9 c with
          | true => exact absurd ⟨q, d, d2⟩ h
          | false => simp
      · simp [q]
theorem dead4 {a b c d : Str} : DeadC [a, b, c, d] := fun rss i e => by
  unfold canStand
  rw [e]
  show (if i = 0 then decide ([a, b, c, d] = [zNone]) || (decide (4 = 2) && _) else if a = zBy then _ && (decide (4 = 2) && _) else decide (4 = 3) && _) = false
  split
  · rw [decide_eq_false (fun q => by simp at q)]; rfl
  · split
    · rw [show decide (4 = 2) = false by decide, Bool.false_and, Bool.and_false]
    · rfl
/-- a line that stands nowhere -/
structure Brk (z : Str) : Prop where
  ex : ∃ ws, z = Txt.join zSp ws ∧ ws ≠ [] ∧ ws.length ≤ 4 ∧ (∀ w ∈ ws, PlainW w) ∧ DeadC ws
/-- a line, by its words -/
inductive WRow : List Str → Prop
  | none : WRow [zNone]
  | arr {n : Nat} : n ≤ 999999999 → WRow [zArr, numS n]
  | rb {x : Str} : isNm x = true → WRow [zBy, x]
  | low {x : Str} {n : Nat} : isNm x = true → n ≤ 999999999 → WRow [zLow, x, numS n]
theorem WRow.plain {ws : List Str} (h : WRow ws) : ∀ w ∈ ws, PlainW w := fun w hw => by
  cases h with
  | none => rw [List.mem_singleton.mp hw]; exact plain_none
  | arr h =>
    simp only [List.mem_cons, List.not_mem_nil, or_false] at hw
    rcases hw with rfl | rfl
    · exact plain_arr
    · exact plain_num h
  | rb h =>
    simp only [List.mem_cons, List.not_mem_nil, or_false] at hw
    rcases hw with rfl | rfl
    · exact plain_by
    · exact plain_nm h
  | low h k =>
    simp only [List.mem_cons, List.not_mem_nil, or_false] at hw
    rcases hw with rfl | rfl | rfl
    · exact plain_low
    · exact plain_nm h
    · exact plain_num k
theorem WRow.len {ws : List Str} (h : WRow ws) : 1 ≤ ws.length ∧ ws.length ≤ 3 := by cases h <;> simp
theorem WRow.ne {ws : List Str} (h : WRow ws) : ws ≠ [] := by cases h <;> simp
theorem split_words {ws : List Str} (hn : ws ≠ []) (h : ∀ w ∈ ws, PlainW w) : Txt.split (Txt.join zSp ws) zSp = ws := TL.split_join (s := 32) (S := []) rfl (by decide +kernel) hn fun p hp => (h p hp).a
theorem mem_join {c : Nat} {ws : List Str} (h : c ∈ TL.tl (Txt.join zSp ws)) : c = 32 ∨ ∃ w ∈ ws, c ∈ TL.tl w := by
  have hc2 : c ∈ ((ws.drop 1).foldl (fun acc p => acc ++ zSp.cps ++ p.cps) (ws.headD Str.empty).cps).toList := h
  have fold : ∀ (rest : List Str) (acc : Array Nat), c ∈ (rest.foldl (fun acc p => acc ++ zSp.cps ++ p.cps) acc).toList → c ∈ acc.toList ∨ c = 32 ∨ ∃ p ∈ rest, c ∈ p.cps.toList := by
    intro rest
    induction rest with
    | nil => exact fun _ h => .inl h
    | cons p rest ih =>
      intro acc h
      rcases ih _ h with h | h | ⟨q, hq, h⟩
      · rw [Array.toList_append, Array.toList_append] at h
        rcases List.mem_append.mp h with h | h
        · rcases List.mem_append.mp h with h | h
          · exact .inl h
          · have e : zSp.cps.toList = [32] := by decide +kernel
            rw [e] at h
            exact .inr (.inl (List.mem_singleton.mp h))
        · exact .inr (.inr ⟨p, List.mem_cons_self, h⟩)
      · exact .inr (.inl h)
      · exact .inr (.inr ⟨q, List.mem_cons_of_mem _ hq, h⟩)
  rcases fold _ _ hc2 with q | q | ⟨p, hp, q⟩
  · cases ws with
    | nil =>
      have e : (([] : List Str).headD Str.empty).cps.toList = [] := by decide +kernel
      rw [e] at q
      cases q
    | cons y ys => exact .inr ⟨y, List.mem_cons_self, q⟩
  · exact .inl q
  · exact .inr ⟨p, List.mem_of_mem_drop hp, q⟩
theorem join_small {ws : List Str} (h : ∀ w ∈ ws, PlainW w) (hl : ws.length ≤ 4) : (Txt.join zSp ws).length ≤ 100 := by
  have e := size_glued zSp ws
  have e0 : zSp.length = 1 := by decide +kernel
  have hs : ∀ l : List Str, (∀ w ∈ l, PlainW w) → (l.map (·.length)).sum ≤ 20 * l.length := by
    intro l
    induction l with
    | nil => exact fun _ => Nat.le_refl _
    | cons a l ih =>
      intro h
      have h1 := (h a List.mem_cons_self).l
      have h2 := ih fun x hx => h x (List.mem_cons_of_mem _ hx)
      simp only [List.map_cons, List.sum_cons, List.length_cons]
      omega
  have h3 := hs ws h
  have e2 : (Txt.join zSp ws).length = (ws.map (·.length)).sum + (ws.length - 1) * zSp.length := e
  rw [e2, e0]
  omega
/-- a line of a text -/
structure LineOk (y : Str) : Prop where
  n : 10 ∉ TL.tl y
  l : y.length ≤ 100
  w : Txt.split y zSp ≠ [] ∧ ∀ x ∈ Txt.split y zSp, PyData.strOk x = true ∧ x.length ≤ 1000
theorem lineOk_join {ws : List Str} (hn : ws ≠ []) (h : ∀ w ∈ ws, PlainW w) (hl : ws.length ≤ 4) : LineOk (Txt.join zSp ws) := by
  refine ⟨fun hm => ?_, join_small h hl, by rw [split_words hn h]; exact hn, fun x hx => ?_⟩
  · rcases mem_join hm with e | ⟨w, hw, hc⟩
    · cases e
    · exact (h w hw).b hc
  · rw [split_words hn h] at hx
    exact ⟨(h x hx).o, by have := (h x hx).l; omega⟩
theorem Brk.line {z : Str} (h : Brk z) : LineOk z := let ⟨ws, e, n, l, p, _⟩ := h.ex; e ▸ lineOk_join n p l
theorem WRow.line {ws : List Str} (h : WRow ws) : LineOk (Txt.join zSp ws) := lineOk_join h.ne h.plain (by have := h.len; omega)
theorem Brk.dead {z : Str} (h : Brk z) : DeadC (Txt.split z zSp) := by
  obtain ⟨ws, e, n, l, p, d⟩ := h.ex
  rw [e, split_words n p]
  exact d
theorem brk_mk {ws : List Str} {z : Str} (e : z = Txt.join zSp ws) (n : ws ≠ []) (l : ws.length ≤ 4) (p : ∀ w ∈ ws, PlainW w) (d : DeadC ws) : Brk z := ⟨⟨ws, e, n, l, p, d⟩⟩
/-! ### the faults -/
theorem tlj1 (a : Str) : TL.tl (Txt.join zSp [a]) = TL.tl a := by rw [TL.join_eq, TL.tl_join]; rfl
theorem tlj2 (a b : Str) : TL.tl (Txt.join zSp [a, b]) = TL.tl a ++ 32 :: TL.tl b := by rw [TL.join_eq, TL.tl_join]; rfl
theorem tlj3 (a b c : Str) : TL.tl (Txt.join zSp [a, b, c]) = TL.tl a ++ 32 :: (TL.tl b ++ 32 :: TL.tl c) := by rw [TL.join_eq, TL.tl_join]; rfl
theorem tlj4 (a b c d : Str) : TL.tl (Txt.join zSp [a, b, c, d]) = TL.tl a ++ 32 :: (TL.tl b ++ 32 :: (TL.tl c ++ 32 :: TL.tl d)) := by rw [TL.join_eq, TL.tl_join]; rfl
theorem tl_sp : TL.tl zSp = [32] := by decide +kernel
theorem tl_E : TL.tl zE = [] := by decide +kernel
theorem plains2 {a b : Str} (ha : PlainW a) (hb : PlainW b) : ∀ w ∈ [a, b], PlainW w := fun w hw => by
  simp only [List.mem_cons, List.not_mem_nil, or_false] at hw
  rcases hw with rfl | rfl
  · exact ha
  · exact hb
theorem plains3 {a b c : Str} (ha : PlainW a) (hb : PlainW b) (hc : PlainW c) : ∀ w ∈ [a, b, c], PlainW w := fun w hw => by
  rcases List.mem_cons.mp hw with rfl | hw
  · exact ha
  · exact plains2 hb hc w hw
theorem plains4 {a b c d : Str} (ha : PlainW a) (hb : PlainW b) (hc : PlainW c) (hd : PlainW d) : ∀ w ∈ [a, b, c, d], PlainW w := fun w hw => by
  rcases List.mem_cons.mp hw with rfl | hw
  · exact ha
  · exact plains3 hb hc hd w hw
theorem num_ne (n : Nat) : isNr 9 zE = false := by decide +kernel
/-- a blank at the beginning -/
theorem brk_front {ws : List Str} (h : WRow ws) : Brk (zSp ++ Txt.join zSp ws) := by
  have p := h.plain
  cases h with
  | none => exact brk_mk (ws := [zE, zNone]) (TL.ext_tl (by rw [TL.tl_append, tl_sp, tlj1, tlj2, tl_E]; rfl)) (by simp) (by simp) (plains2 plain_E plain_none) (dead2 (by decide +kernel) (by decide +kernel))
  | @arr n h => exact brk_mk (ws := [zE, zArr, numS n]) (TL.ext_tl (by rw [TL.tl_append, tl_sp, tlj2, tlj3, tl_E]; rfl)) (by simp) (by simp) (plains3 plain_E plain_arr (plain_num h)) (dead3 fun q => absurd q.1 (by decide +kernel))
  | @rb x h => exact brk_mk (ws := [zE, zBy, x]) (TL.ext_tl (by rw [TL.tl_append, tl_sp, tlj2, tlj3, tl_E]; rfl)) (by simp) (by simp) (plains3 plain_E plain_by (plain_nm h)) (dead3 fun q => absurd q.1 (by decide +kernel))
  | @low x n h k => exact brk_mk (ws := [zE, zLow, x, numS n]) (TL.ext_tl (by rw [TL.tl_append, tl_sp, tlj3, tlj4, tl_E]; rfl)) (by simp) (by simp) (plains4 plain_E plain_low (plain_nm h) (plain_num k)) dead4
/-- a word, or none, too many at the end -/
theorem brk_more {ws : List Str} (h : WRow ws) {e : Str} (he : PlainW e) : Brk (Txt.join zSp ws ++ (zSp ++ e)) := by
  cases h with
  | none => exact brk_mk (ws := [zNone, e]) (TL.ext_tl (by rw [TL.tl_append, TL.tl_append, tl_sp, tlj1, tlj2]; rfl)) (by simp) (by simp) (plains2 plain_none he) (dead2 (fun q => absurd q.1 (by decide +kernel)) (fun q => absurd q.1 (by decide +kernel)))
  | @arr n h => exact brk_mk (ws := [zArr, numS n, e]) (TL.ext_tl (by rw [TL.tl_append, TL.tl_append, tl_sp, tlj2, tlj3]; simp)) (by simp) (by simp) (plains3 plain_arr (plain_num h) he) (dead3 fun q => absurd q.1 (by decide +kernel))
  | @rb x h => exact brk_mk (ws := [zBy, x, e]) (TL.ext_tl (by rw [TL.tl_append, TL.tl_append, tl_sp, tlj2, tlj3]; simp)) (by simp) (by simp) (plains3 plain_by (plain_nm h) he) (dead3 fun q => absurd q.1 (by decide +kernel))
  | @low x n h k => exact brk_mk (ws := [zLow, x, numS n, e]) (TL.ext_tl (by rw [TL.tl_append, TL.tl_append, tl_sp, tlj3, tlj4]; simp)) (by simp) (by simp) (plains4 plain_low (plain_nm h) (plain_num k) he) dead4
/-- two blanks -/
theorem brk_two {ws : List Str} (h : WRow ws) (hl : 1 < ws.length) : ∃ a b : Str, Txt.join zSp ws = a ++ zSp ++ b ∧ 32 ∉ TL.tl a ∧ Brk (a ++ (zSp ++ zSp) ++ b) := by
  cases h with
  | none => exact absurd hl (by simp)
  | @arr n h =>
    refine ⟨zArr, numS n, TL.ext_tl (by rw [TL.tl_append, TL.tl_append, tl_sp, tlj2]; simp), plain_arr.a, brk_mk (ws := [zArr, zE, numS n]) (TL.ext_tl (by rw [TL.tl_append, TL.tl_append, TL.tl_append, tl_sp, tlj3, tl_E]; simp)) (by simp) (by simp) (plains3 plain_arr plain_E (plain_num h)) (dead3 fun q => absurd q.1 (by decide +kernel))⟩
  | @rb x h =>
    refine ⟨zBy, x, TL.ext_tl (by rw [TL.tl_append, TL.tl_append, tl_sp, tlj2]; simp), plain_by.a, brk_mk (ws := [zBy, zE, x]) (TL.ext_tl (by rw [TL.tl_append, TL.tl_append, TL.tl_append, tl_sp, tlj3, tl_E]; simp)) (by simp) (by simp) (plains3 plain_by plain_E (plain_nm h)) (dead3 fun q => absurd q.1 (by decide +kernel))⟩
  | @low x n h k =>
    refine ⟨zLow, Txt.join zSp [x, numS n], TL.ext_tl (by rw [TL.tl_append, TL.tl_append, tl_sp, tlj3, tlj2]; simp), plain_low.a, brk_mk (ws := [zLow, zE, x, numS n]) (TL.ext_tl (by rw [TL.tl_append, TL.tl_append, TL.tl_append, tl_sp, tlj4, tlj2, tl_E]; simp)) (by simp) (by simp) (plains4 plain_low plain_E (plain_nm h) (plain_num k)) dead4⟩
/-- a word too few -/
theorem brk_less {ws : List Str} (h : WRow ws) (hl : 1 < ws.length) : Brk (Txt.join zSp (ws.take (ws.length - 1))) := by
  cases h with
  | none => exact absurd hl (by simp)
  | @arr n h => exact brk_mk (ws := [zArr]) rfl (by simp) (by simp) (fun w hw => by rw [List.mem_singleton.mp hw]; exact plain_arr) (dead1 (by decide +kernel))
  | @rb x h => exact brk_mk (ws := [zBy]) rfl (by simp) (by simp) (fun w hw => by rw [List.mem_singleton.mp hw]; exact plain_by) (dead1 (by decide +kernel))
  | @low x n h k => exact brk_mk (ws := [zLow, x]) rfl (by simp) (by simp) (plains2 plain_low (plain_nm h)) (dead2 (fun q => absurd q.1 (by decide +kernel)) (fun q => absurd q.1 (by decide +kernel)))
/-- another first word -/
theorem brk_head {w0 : Str} {ws : List Str} (h : WRow (w0 :: ws)) {v : Str} (hv : PlainW v) (h1 : v ≠ zNone) (h2 : v ≠ zArr) (h3 : v ≠ zBy) (h4 : v ≠ zLow) : Brk (Txt.join zSp (v :: ws)) := by
  cases h with
  | none => exact brk_mk rfl (by simp) (by simp) (fun w hw => by rw [List.mem_singleton.mp hw]; exact hv) (dead1 h1)
  | arr h => exact brk_mk rfl (by simp) (by simp) (plains2 hv (plain_num h)) (dead2 (fun q => h2 q.1) fun q => h3 q.1)
  | rb h => exact brk_mk rfl (by simp) (by simp) (plains2 hv (plain_nm h)) (dead2 (fun q => h2 q.1) fun q => h3 q.1)
  | low h k => exact brk_mk rfl (by simp) (by simp) (plains3 hv (plain_nm h) (plain_num k)) (dead3 fun q => h4 q.1)
theorem brk_empty : Brk zE := brk_mk (ws := [zE]) (TL.ext_tl (by rw [tlj1])) (by simp) (by simp) (fun w hw => by rw [List.mem_singleton.mp hw]; exact plain_E) (dead1 (by decide +kernel))
/-- a strange name -/
theorem brk_name {w0 : Str} {ws : List Str} (h : WRow (w0 :: ws)) (hb : w0 = zBy ∨ w0 = zLow) {v : Str} (hv : PlainW v) (hn : isNm v = false) : Brk (Txt.join zSp ([w0, v] ++ (w0 :: ws).drop 2)) := by
  cases h with
  | none => exact absurd hb (by decide +kernel)
  | arr h => exact absurd hb (by decide +kernel)
  | rb h => exact brk_mk (ws := [zBy, v]) rfl (by simp) (by simp) (plains2 plain_by hv) (dead2 (fun q => absurd q.1 (by decide +kernel)) fun q => by rw [hn] at q; exact absurd q.2 (by decide))
  | @low x n h k => exact brk_mk (ws := [zLow, v, numS n]) rfl (by simp) (by simp) (plains3 plain_low hv (plain_num k)) (dead3 fun q => by rw [hn] at q; exact absurd q.2.1 (by decide))
/-- a strange number -/
theorem brk_num {w0 : Str} {ws : List Str} (h : WRow (w0 :: ws)) (hb : w0 = zArr ∨ w0 = zLow) {v : Str} (hv : PlainW v) (hn : isNr 9 v = false) : Brk (Txt.join zSp ((w0 :: ws).take ((w0 :: ws).length - 1) ++ [v])) := by
  cases h with
  | none => exact absurd hb (by decide +kernel)
  | arr h => exact brk_mk (ws := [zArr, v]) rfl (by simp) (by simp) (plains2 plain_arr hv) (dead2 (fun q => by rw [hn] at q; exact absurd q.2 (by decide)) fun q => absurd q.1 (by decide +kernel))
  | rb h => exact absurd hb (by decide +kernel)
  | @low x n h k => exact brk_mk (ws := [zLow, x, v]) rfl (by simp) (by simp) (plains3 plain_low (plain_nm h) hv) (dead3 fun q => by rw [hn] at q; exact absurd q.2.2 (by decide))
end W

set_option Elab.async false
set_option linter.all false
set_option maxRecDepth 100000
set_option maxHeartbeats 2000000
namespace W
open PySem PySem.Spec PyProof.Rows L2 GxR MyG MyS MyR
/-! ### _law_told -/
abbrev sLTold : Stmt := top 65
abbrev kMap3 : List Str := ["day", "kinds", "places"]
def gMap3 {α : Type} (us mv ws : List α) : List α := us ++ (ws ++ mv)
theorem map_binds3 {K : PySem.W.Frag} {f : Addr} {fd : FuncData} {T1 T2 T : Addr} (F : FunD K "__init__" "Map.__init__" (defArgs sInit) (defBody sInit) (defScope sInit) [] [("places", V.ref T1), ("roads", V.ref T2), ("bars", V.ref T)] f fd) :
    ∃ mv : List Value, KBn K fd pInit 1 kMap3 (fun us ws => gMap3 us mv ws) (fun vs zs => gMap3 vs ([(("roads" : Str), V.ref T2), ("bars", V.ref T)].map (·.2)) zs) := by
  refine FunD.kbinds0 F 1 kMap3 [(("roads" : Str), V.ref T2), ("bars", V.ref T)] gMap3 (by simp) (by simp) ?_ ?_
  · intro vs mz zs us mv ws r1 r2 r3
    exact r1.append (Vals.append r3 r2)
  · intro D doc pm an cdv ct us mv ws h1 h2 h3
    match us, mv, ws, h1, h2, h3 with
    | [u], [m1, m2], [a, b, c], _, _, _ =>
      exact ⟨_, _, _, _, _, _, rfl, rfl, _, _, _, _, _, _, rfl, rfl, rfl⟩
theorem pe_gC {X : Cx} {x : Str} {A : Addr} {pos : Pos} (hm : X.mg x = some (.ref A)) (hg : Gl X x := by rfl) (hd : (x == ("__debug__" : Str)) = false := by decide) : PE X (.Name x pos) (tC (.ref A)) := pe_glob hg hm rfl hd
theorem pe_gV {X : Cx} {pos : Pos} (hm : X.mg "ValueError" = none) (hg : Gl X "ValueError" := by rfl) : PE X (.Name "ValueError" pos) (tC (.ty "ValueError")) := pe_bltn (v := .ty "ValueError") hg hm (by decide +kernel) rfl
/-- the row at i is the first that cannot stand -/
def BadT (z : Str) (i : Nat) : Prop := ∃ ls : List Str, Txt.split z zNl = ls ∧ z.length ≤ 10000 ∧ ls.length ≤ 900 ∧ (∀ l ∈ ls, l.length ≤ 1000) ∧ (∀ ws ∈ ls.map (fun l => Txt.split l zSp), ws ≠ [] ∧ ∀ x ∈ ws, PyData.strOk x = true ∧ x.length ≤ 1000) ∧
  i < ls.length ∧ (∀ j, j < i → canStand (ls.map fun l => Txt.split l zSp) j = true) ∧ canStand (ls.map fun l => Txt.split l zSp) i = false
def spTold (P Pn : Addr) : Sp := fun vs H Q _ => ∃ (z : Str) (c : Bool), vs = [.str z, .bl c] ∧ TabG H P ∧ TabG H Pn ∧
  ((∃ (ro : Option (List Str × Nat)) (ls : List (Str × Nat)), z = textP ro ls ∧ PapOk ro ls ∧ ∀ H', Grew P H H' → Q (.int 0) H') ∨ ∃ i : Nat, BadT z i ∧ ∀ H', Grew P H H' → Q (.int ((i : Int) + 1)) H')
def rInt1 : List V → Hp → VK → Prop := fun xs H Q => (∃ i, xs = [.int i] ∧ Q (.int i) H) ∨ ∃ k, xs = [.bl k] ∧ Q (.int (if k then 1 else 0)) H
section
variable {Pg : Program} {w : World} {K : PySem.W.Frag} {mg : Str → Option Value} {base : Heap} {C P Pn : Addr}
abbrev nTold : List Str := ["text", "checks", "chart", "e"]
theorem scTold : FnScope nTold ["text", "checks"] (defScope sLTold) := ⟨rfl, rfl, rfl, by decide +kernel, rfl, by decide +kernel, by decide +kernel⟩
theorem ok_told {M U B IP IN Pa T0 T2 f fI fC fP : Addr} {fd fdI fdC fdP : FuncData} {mv : List Value} (F : Fun K "_law_told" "_law_told" sLTold f fd) (hi : mg "int" = none) (hs : mg "isinstance" = none) (gU : mg "UnknownName" = some (.ref U)) (gI : mg "InvalidPaper" = some (.ref IP)) (gB : mg "WaypapersError" = some (.ref B)) (gN : mg "InvalidNotation" = some (.ref IN)) (hV : mg "ValueError" = none)
    (XU : XfC K U) (nU : PySem.W.findIn K (.ref U) "name" = some none) (XI : XfC K IP) (DI : ExcD K IP) (nI : PySem.W.findIn K (.ref IP) "line" = some none)
    (eI : PySem.W.exmOne K (.ref IP) (.ref IP) = some true) (eUI : PySem.W.exmOne K (.ref U) (.ref IP) = some false) (eU : PySem.W.exmOne K (.ref U) (.ref U) = some true)
    (iB : PySem.W.kitOne K (.ref IP) (.ref B) = some true) (iV : PySem.W.kitOne K (.ref IP) (.type "ValueError") = some true) (iN : PySem.W.kitOne K (.ref IP) (.ref IN) = some false)
    (Mk : L2.Mk K M fI) (gM : mg "Map" = some (.ref M)) (GI : FnOk Pg w K mg base CX0 5 fI fdI pInit (spInitLT K M P)) (kb : KBn K fdI pInit 1 kMap3 (fun us ws => gMap3 us mv ws) (fun vs zs => gMap3 vs ([(("roads" : Str), V.ref T2), ("bars", V.ref T0)].map (·.2)) zs))
    (hT0 : ∀ H : Hp, SqT K H T0 []) (hT2 : ∀ H : Hp, SqT K H T2 [])
    (GC : FnOk Pg w K mg base (L2.CX Pg w) 7 fC fdC ["chart", "kind", "start", "goal", "moment", "text"] (spCkText K M U IP Pa P Pn)) (gC : mg "check_text" = some (.ref fC)) (kC : PySem.W.keepIn K (.ref fC) = true) (bC : Binds K fdC ["chart", "kind", "start", "goal", "moment", "text"] [])
    (GP : FnOk Pg w K mg base (L2.CX Pg w) 5 fP fdP ["text"] (spAny IP Pa P Pn)) (gP : mg "parse_paper" = some (.ref fP)) (kP : PySem.W.keepIn K (.ref fP) = true) (bP : Binds K fdP ["text"] []) :
    FnOk Pg w K mg base CX0 8 f fd ["text", "checks"] (spTold P Pn) := by
  refine F.ok scTold (fun vs H Q E h => ?_) (fun cdv A outer s H vs Q E hr h => ?_)
  · obtain ⟨z, c, rfl, _⟩ := h
    rfl
  · obtain ⟨z, c, rfl, hP, hPn, hz⟩ := h
    refine ⟨_, pss_cons (ps_set (i := 2) scTold.nd rfl (Or.inl rfl) (pe_makeK0 Mk GI (hr.mono (by decide)) (by rfl) gM kb pass0 (pk_cons pe_int (pk_cons (pe_lst (pa_cons pe_str pa_nil)) (pk_cons (pe_lst (pa_cons pe_str pa_nil)) pk_nil)))))
      (pss_cons (ps_try_all (i := 3) (n := "e") (Wout := fun _ _ _ _ => False) rfl rfl scTold.nd rfl rfl takes0
        (fun W pn xe tk _ => pss_one (ps_if (pt_val (pv 1))
          (pss_one (ps_expr (pe_callS GC (hr.mono (by decide)) rfl gC kC bC (fun σ => passAt tk σ) (pa_cons (pv 2) (pa_cons pe_str (pa_cons pe_str (pa_cons pe_str (pa_cons pe_int (pa_cons (pv 0) pa_nil)))))))))
          (pss_one (ps_expr (pe_callS GP (hr.mono (by decide)) rfl gP kP bP (fun σ => passAt tk σ) (pa_cons (pv 0) pa_nil))))))
        (Clauses.cons (c := .ref IP) ⟨rfl, by decide, .inl gI⟩ (fun a oe cls dd pn hz hf => pss_cons (ps_if (PW.pt (pw_and (pt_val (pe_callB (call_isD DI hz hf) (by rfl) hs (by decide +kernel) (pa_cons (pv 3) (pa_cons (pe_gC gB) pa_nil))))
              (pw_and (pt_val (pe_callB (call_isD DI hz hf) (by rfl) hs (by decide +kernel) (pa_cons (pv 3) (pa_cons (pe_gV hV) pa_nil))))
              (pw_and1 (pt_not (pt_val (pe_callB (call_isD DI hz hf) (by rfl) hs (by decide +kernel) (pa_cons (pv 3) (pa_cons (pe_gC gN) pa_nil)))))))))
              (pss_one (ps_ret (pe_xf XI nI hz hf (pv 3)))) pss_nil)
            (pss_one (ps_ret (pe_un un_neg pe_int))))
        (Clauses.cons (c := .ref U) ⟨rfl, by decide, .inl gU⟩ (fun a oe cls dd pn hz hf => pss_one (ps_ret (pe_callTy (r := rInt1) call_int1 (by rfl) hi (by decide +kernel) (pa_cons (pe_cmpR op_ne (pe_xf XU nU hz hf (pv 3)) pe_str (nomark _)) pa_nil)))) Clauses.nil)))
      (pss_one (ps_ret pe_int))), ?_⟩
    refine ⟨by show 1 ≤ sizeLine; decide, fun L1 n1 => ?_⟩
    have g1 := Grew.new hP (o := .lst [V.str "a"]) n1
    refine ⟨by show 1 ≤ sizeLine; decide, fun L2' n2 => ?_⟩
    have g2 := Grew.new g1.tab (o := .lst [V.str "p"]) n2
    have g12 := g1.trans g2
    refine ⟨rfl, rfl, fun x dx nx ndx nex => ?_⟩
    have h1 := g2.lst g1.tab (b := L1) (xs := [V.str "a"]) upd_same
    have gx : Grew P (L2.upd (L2.upd H L1 (.lst [V.str "a"])) L2' (.lst [V.str "p"])) (L2.upd (L2.upd (L2.upd (L2.upd H L1 (.lst [V.str "a"])) L2' (.lst [V.str "p"])) dx (.own x)) x (.ins M dx [])) := (Grew.new g12.tab ndx).put (by rw [upd_ne nex.symm]; exact nx)
    have ok : PartsOk 60 ["a"] ["p"] [] [] := by
      refine ⟨by decide, by decide, by decide, by decide, by decide, by decide +kernel, by decide +kernel, by decide +kernel, by decide +kernel, ?_, ?_⟩
      · exact ⟨by decide, by decide, by simp, fun r hr => by cases hr⟩
      · exact ⟨by decide, by simp, fun b hb => by cases hb⟩
    refine ⟨x, dx, L1, L2', T2, T0, 60, ["a"], ["p"], [], [], [], [], _, rfl, gx, g12.tab, nx, upd_same, SqL.of h1, SqL.of upd_same, hT2 _, .nil, hT0 _, .nil, ok, fun H' ks' ps' rs' bs' g5 q1 q2 q3 q4 q5 q6 q7 q8 hm => ?_⟩
    have gA := g12.trans g5
    have hno : NoKind K M U H' x "zz" := ⟨_, _, _, _, _, hm, fun hin => by
      have := q1.mem_iff.mp hin
      exact absurd this (by decide +kernel)⟩
    refine ⟨rfl, ?_⟩
    -- what is answered
    refine ⟨_, rfl, c, rfl, ?_⟩
    have bad5 : ∀ (i : Nat), BadT z i → ∀ (Q2 : VK) (E2 : XK), (∀ H2, Grew P H' H2 → BadL IP H2 E2 ((i : Int) + 1)) → spParseX IP P Pn [.str z] H' Q2 E2 := fun i ⟨ls, b1, b2, b3, b4, b5, b6, b7, b8⟩ Q2 E2 kk =>
      ⟨z, ls, i, rfl, b1, b2, b3, b4, b5, b6, b7, b8, gA.tab, gA.tabs _ hPn, kk⟩
    cases c with
    | true => 
      refine iteT ⟨_, rfl, _, rfl, x, "zz", "zz", "zz", .int 0, z, rfl, hno, by decide, ?_⟩
      rcases hz with ⟨ro, ls, e, hok, k⟩ | ⟨i, hb, k⟩
      · refine .inl ⟨ro, ls, e, hok, gA.tab, gA.tabs _ hPn, fun H2 g9' e ne => ?_⟩
        have g9 := gA.trans g9'
        refine ⟨false, eUI, fun q => Bool.noConfusion q, fun _ => ⟨true, eU, fun _ a na => ?_, fun q => Bool.noConfusion q⟩⟩
        have gE := g9.put (o := .xd [("name", V.str "zz")]) ne
        refine ⟨_, rfl, rfl, rfl, e, _, .str "zz", rfl, upd_same, rfl, ?_⟩
        refine ⟨rfl, .inr ⟨_, rfl, ?_⟩⟩
        rw [decide_eq_true rfl]
        exact k _ gE
      · refine .inr (bad5 i hb _ _ fun H2 g9' e ne => ?_)
        have g9 := gA.trans g9'
        refine ⟨true, eI, fun _ a na => ?_, fun q => Bool.noConfusion q⟩
        have gE := g9.put (o := .xd [("line", V.int ((i : Int) + 1))]) ne
        refine ⟨_, rfl, .ref B, .ref B, e, _, true, rfl, rfl, rfl, fun u h => h, upd_same, iB, _, rfl, if_t rfl ?_⟩
        refine ⟨_, rfl, .ty "ValueError", .type "ValueError", e, _, true, rfl, rfl, rfl, fun u h => h, upd_same, iV, _, rfl, if_t rfl ?_⟩
        refine ⟨_, rfl, .ref IN, .ref IN, e, _, false, rfl, rfl, rfl, fun u h => h, upd_same, iN, _, rfl, if_t rfl ?_⟩
        exact ⟨_, rfl, rfl, rfl, e, _, .int ((i : Int) + 1), rfl, upd_same, rfl, k _ gE⟩
    | false =>
      refine iteF ⟨_, rfl, ?_⟩
      rcases hz with ⟨ro, ls, e, hok, k⟩ | ⟨i, hb, k⟩
      · exact .inl ⟨ro, ls, by rw [e], hok, gA.tab, gA.tabs _ hPn, fun H2 y g9' _ => k _ (gA.trans g9')⟩
      · refine .inr (bad5 i hb _ _ fun H2 g9' e ne => ?_)
        have g9 := gA.trans g9'
        refine ⟨true, eI, fun _ a na => ?_, fun q => Bool.noConfusion q⟩
        have gE := g9.put (o := .xd [("line", V.int ((i : Int) + 1))]) ne
        refine ⟨_, rfl, .ref B, .ref B, e, _, true, rfl, rfl, rfl, fun u h => h, upd_same, iB, _, rfl, if_t rfl ?_⟩
        refine ⟨_, rfl, .ty "ValueError", .type "ValueError", e, _, true, rfl, rfl, rfl, fun u h => h, upd_same, iV, _, rfl, if_t rfl ?_⟩
        refine ⟨_, rfl, .ref IN, .ref IN, e, _, false, rfl, rfl, rfl, fun u h => h, upd_same, iN, _, rfl, if_t rfl ?_⟩
        exact ⟨_, rfl, rfl, rfl, e, _, .int ((i : Int) + 1), rfl, upd_same, rfl, k _ gE⟩
end
end W

set_option Elab.async false
set_option linter.all false
set_option maxRecDepth 100000
set_option maxHeartbeats 2000000
set_option exponentiation.threshold 2000
namespace W
open PySem PySem.Spec PyProof.Rows L2 GxR MyG
/-! ### _law_lines -/
abbrev sLLines : Stmt := top 66
theorem log_small {n : Nat} (h : n ≤ 999999999) : n.log2 < 1920 := by
  by_cases c : n = 0
  · subst c
    decide
  · refine (Nat.log2_lt c).mpr ?_
    have : (999999999 : Nat) < 2 ^ 1920 := by decide
    omega
theorem num_at {ns : List Int} {m : Nat} (hl : ns.length = m) (hs : Sm ns) (i : Nat) (h : i < m) : ∃ x, atI (ns.map V.int) (i : Int) = some (.int x) ∧ 0 ≤ x ∧ x < 1009 := by
  have h2 : i < ns.length := by omega
  exact ⟨ns[i], atI_nat (by rw [List.getElem?_map, List.getElem?_eq_getElem h2]; rfl), hs _ (List.getElem_mem h2)⟩
theorem at_some {α : Type} {l : List α} {i : Int} (h0 : 0 ≤ i) (h1 : i < l.length) : ∃ c, atI l i = some c ∧ l[i.toNat]? = some c := by
  obtain ⟨n, rfl⟩ := Int.eq_ofNat_of_zero_le h0
  have hn : n < l.length := by omega
  exact ⟨l[n], atI_nat (List.getElem?_eq_getElem hn), List.getElem?_eq_getElem hn⟩
def headL (ro : Option (List Str × Nat)) : List Str := match ro with
  | none => [zNone]
  | some p => arrS p.2 :: p.1.map byS
def nmL : List Str := ["r", "q9", "abcdefghijkl", "by", "low"]
theorem nmL_ok : ∀ z ∈ nmL, isNm z = true := by decide +kernel
theorem nm_at (x : Int) : ∃ z, atI (nmL.map V.str) (x % 5) = some (.str z) ∧ isNm z = true := by
  obtain ⟨v, ev, ev2⟩ := at_some (l := nmL.map V.str) (i := x % 5) (by omega) (by show x % 5 < 5; omega)
  rw [List.getElem?_map] at ev2
  cases qz : nmL[(x % 5).toNat]? with
  | none => rw [qz] at ev2; cases ev2
  | some z =>
    rw [qz] at ev2
    obtain rfl := Option.some.inj ev2
    exact ⟨z, ev, nmL_ok z (List.mem_of_getElem? qz)⟩
theorem arrA (x : Int) (h0 : 0 ≤ x) (h1 : x < 1009) (j : Int) (j0 : 0 ≤ j) (j4 : j < 3) : ∃ n : Nat, atI [V.int 0, V.int 999999999, V.int x] j = some (.int (n : Int)) ∧ n ≤ 999999999 := by
  have : j = 0 ∨ j = 1 ∨ j = 2 := by omega
  rcases this with rfl | rfl | rfl
  · exact ⟨0, rfl, by omega⟩
  · exact ⟨999999999, rfl, Nat.le_refl _⟩
  · exact ⟨x.toNat, by rw [Int.toNat_of_nonneg h0]; rfl, by omega⟩
def spLLines (K : PySem.W.Frag) (P : Addr) : Sp := fun vs H Q _ => ∃ (a : Addr) (ns : List Int), vs = [.ref a] ∧ SqL K H a (ns.map V.int) ∧ Sm ns ∧ ns.length = 30 ∧ TabG H P ∧
  ∀ (H' : Hp) (L : Addr) (ro : Option (List Str × Nat)) (ls : List (Str × Nat)), Grew P H H' → H L = none → H' L = some (.lst ((linesP ro ls).map V.str)) → PapOk ro ls → ls.length ≤ 3 → (linesP ro ls).length ≤ 8 → Q (.ref L) H'
section
variable {Pg : Program} {w : World} {K : PySem.W.Frag} {mg : Str → Option Value} {base : Heap} {C P Pn : Addr}
abbrev nLL : List Str := ["numbers", "names", "lines", "k"]
theorem scLL : FnScope nLL ["numbers"] (defScope sLLines) := ⟨rfl, rfl, rfl, by decide +kernel, rfl, by decide +kernel, by decide +kernel⟩
theorem ok_llines {f : Addr} {fd : FuncData} (F : Fun K "_law_lines" "_law_lines" sLLines f fd) (hi : mg "int" = none) (hrg : mg "range" = none) (hst : mg "str" = none) :
    FnOk Pg w K mg base CX0 1 f fd ["numbers"] (spLLines K P) := by
  refine F.ok scLL (fun vs H Q E h => ?_) (fun cdv A outer s H vs Q E hr h => ?_)
  · obtain ⟨a, ns, rfl, _⟩ := h
    rfl
  · obtain ⟨a, ns, rfl, hA, hsm, hlen, hP, k⟩ := h
    refine ⟨_, pss_cons (ps_set (i := 1) scLL.nd rfl (Or.inr rfl) (pe_lst (pa_cons pe_str (pa_cons pe_str (pa_cons pe_str (pa_cons pe_str (pa_cons pe_str pa_nil)))))))
      (pss_cons (ps_set (i := 2) scLL.nd rfl (Or.inl rfl) (pe_lst (pa_cons pe_str pa_nil)))
      (C8.pss_cut (ps_if (pt_cmpR op_gt (pe_op op_mod (pe_callTy call_int1 (by rfl) hi (by decide +kernel) (pa_cons (pe_ix (r := rIxL K) ix_list (pv 0) pe_int (fun _ _ => rfl)) pa_nil)) pe_int) pe_int (nomark _))
        (pss_cons (ps_set (i := 2) scLL.nd rfl (Or.inl rfl) (pe_lst (pa_cons (pe_op op_add_str pe_str (pe_callTy (T := "str") call_str_int (by rfl) hst (by decide +kernel) (pa_cons
            (pe_ix (r := rIxL K) ix_list (pe_lst (pa_cons pe_int (pa_cons pe_int (pa_cons (pe_callTy call_int1 (by rfl) hi (by decide +kernel) (pa_cons (pe_ix (r := rIxL K) ix_list (pv 0) pe_int (fun _ _ => rfl)) pa_nil)) pa_nil))))
              (pe_op op_mod (pe_callTy call_int1 (by rfl) hi (by decide +kernel) (pa_cons (pe_ix (r := rIxL K) ix_list (pv 0) pe_int (fun _ _ => rfl)) pa_nil)) pe_int) (fun _ _ => rfl)) pa_nil))) pa_nil)))
        (pss_one (ps_set (i := 2) scLL.nd rfl (Or.inl rfl) (pe_op op_cat (pv 2)
          (pe_lc (own := [("k", 3)]) (g := gName 3) (tt := tYes) rfl scLL.nd (pi_range1 rfl hrg (pa_cons (pe_op op_mod (pe_callTy call_int1 (by rfl) hi (by decide +kernel) (pa_cons (pe_ix (r := rIxL K) ix_list (pv 0) pe_int (fun _ _ => rfl)) pa_nil)) pe_int) pa_nil)) (blkOk_by (N := nLL) (sc := defScope sLLines) (by decide +kernel)) (fun _ _ _ _ _ => pg_name (i := 3) scLL.nd rfl (Or.inl rfl)) (fun _ _ _ _ _ => pts_nil)
            (fun _ _ _ _ _ => pe_op op_add_str pe_str (pe_ix (r := rIxL K) ix_list (pv 1) (pe_op op_mod (pe_callTy (r := rInt1) call_int1 (by rfl) hi (by decide +kernel) (pa_cons (pe_ix (r := rIxL K) ix_list (pv 0) (pe_op op_add pe_int (pv 3)) (fun _ _ => rfl)) pa_nil)) pe_int) (fun _ _ => rfl)))))))) pss_nil)
      (C8.pss_cut (ps_for PassesOwn.never rfl (pi_range1 rfl hrg (pa_cons (pe_op op_mod (pe_callTy call_int1 (by rfl) hi (by decide +kernel) (pa_cons (pe_ix (r := rIxL K) ix_list (pv 0) pe_int (fun _ _ => rfl)) pa_nil)) pe_int) pa_nil)) (pg_name (i := 3) scLL.nd rfl (Or.inl rfl))
        (pss_one (ps_expr (pe_bm PySem.F.plainAttrs_list PySem.F.slot_list_append PySem.F.type_list_append mt_append (pv 2) (pa_cons
          (pe_op op_add_str (pe_op op_add_str (pe_op op_add_str pe_str (pe_ix (r := rIxL K) ix_list (pv 1) (pe_op op_mod (pe_callTy call_int1 (by rfl) hi (by decide +kernel) (pa_cons (pe_ix (r := rIxL K) ix_list (pv 0) (pe_op op_add pe_int (pv 3)) (fun _ _ => rfl)) pa_nil)) pe_int) (fun _ _ => rfl))) pe_str)
            (pe_callTy (T := "str") call_str_int (by rfl) hst (by decide +kernel) (pa_cons (pe_callTy call_int1 (by rfl) hi (by decide +kernel) (pa_cons (pe_ix (r := rIxL K) ix_list (pv 0) (pe_op op_add pe_int (pv 3)) (fun _ _ => rfl)) pa_nil)) pa_nil))) pa_nil)))))
      (pss_one (ps_ret (pv 2)))))), ?_⟩
    have num := fun i h => num_at hlen hsm i h
    refine ⟨(show 5 ≤ sizeLine by decide), fun N nN => ?_⟩
    have g1 := Grew.new hP (o := .lst (nmL.map V.str)) nN
    have hN : (L2.upd H N (.lst (nmL.map V.str))) N = some (.lst (nmL.map V.str)) := upd_same
    have e1 : L2.upd H N (.lst [V.str (Str.ofString "r"), V.str (Str.ofString "q9"), V.str (Str.ofString "abcdefghijkl"), V.str (Str.ofString "by"), V.str (Str.ofString "low")]) = L2.upd H N (.lst (nmL.map V.str)) := rfl
    rw [e1]
    generalize L2.upd H N (.lst (nmL.map V.str)) = H1 at g1 hN ⊢
    refine ⟨(show 1 ≤ sizeLine by decide), fun M0 nM0 => ?_⟩
    have nM0' := g1.free nM0
    have g2 := g1.put (o := .lst (([zNone] : List Str).map V.str)) nM0
    have hN2 := (Grew.new g1.tab (o := .lst (([zNone] : List Str).map V.str)) nM0).lst g1.tab hN
    have hM0 : (L2.upd H1 M0 (.lst (([zNone] : List Str).map V.str))) M0 = some (.lst (([zNone] : List Str).map V.str)) := upd_same
    have e2 : L2.upd H1 M0 (.lst [V.str (Str.ofString "none")]) = L2.upd H1 M0 (.lst (([zNone] : List Str).map V.str)) := rfl
    rw [e2]
    generalize L2.upd H1 M0 (.lst (([zNone] : List Str).map V.str)) = H2 at g2 hN2 hM0 ⊢
    have hA2 := g2.sqL hP hA
    refine ⟨fun σ H' => ∃ (M : Addr) (ro : Option (List Str × Nat)), σ = [some (.ref a), some (.ref N), some (.ref M), none] ∧ Grew P H H' ∧ H M = none ∧ M ≠ N ∧ H' N = some (.lst (nmL.map V.str)) ∧ H' M = some (.lst ((headL ro).map V.str)) ∧ ∀ p, ro = some p → (∀ z ∈ p.1, isNm z = true) ∧ p.1.length ≤ 3 ∧ p.2 ≤ 999999999, ?_, ?_⟩
    · obtain ⟨x0, f0, _, _⟩ := num 0 (by decide)
      refine ⟨_, rfl, a, _, 0, _, rfl, rfl, hA2, f0, .inl ⟨_, rfl, _, _, rfl, rfl, (show (0 : Int) < 3 by decide), _, _, rfl, rfl, _, rfl, ?_⟩⟩
      refine ite2 (fun _ => ?_) (fun _ => ?_)
      · obtain ⟨x1, f1, a1, b1⟩ := num 1 (by decide)
        obtain ⟨x2, f2, _, _⟩ := num 2 (by decide)
        obtain ⟨n, en, hn⟩ := arrA x1 a1 b1 (x2 % 3) (by omega) (by omega)
        refine ⟨_, rfl, a, _, 1, _, rfl, rfl, hA2, f1, .inl ⟨_, rfl, (show 3 ≤ sizeLine by decide), fun T nT => ?_⟩⟩
        have gT := Grew.new g2.tab (o := .lst [.int 0, .int 999999999, .int x1]) nT
        have hA3 := gT.sqL g2.tab hA2
        refine ⟨_, rfl, a, _, 2, _, rfl, rfl, hA3, f2, .inl ⟨_, rfl, _, _, rfl, rfl, (show (0 : Int) < 3 by decide), T, _, _, _, rfl, rfl, SqL.of upd_same, en, (n : Int), rfl, log_small hn, zArrS, numS n, rfl, rfl, ?_, (show 1 ≤ sizeLine by decide), fun A0 nA0 => ?_⟩⟩
        · have e := num_len hn
          have e8 : zArrS.length = 8 := by decide +kernel
          rw [e8, sizeLine_eq]
          omega
        have gA := gT.put (o := .lst (([arrS n] : List Str).map V.str)) nA0
        have gA' := g2.trans gA
        have hN3 := gA.lst g2.tab hN2
        have nA0' : H A0 = none := (g2.trans gT).free nA0
        have hA0 : (L2.upd (L2.upd H2 T (.lst [.int 0, .int 999999999, .int x1])) A0 (.lst (([arrS n] : List Str).map V.str))) A0 = some (.lst (([arrS n] : List Str).map V.str)) := upd_same
        have e3 : L2.upd (L2.upd H2 T (.lst [.int 0, .int 999999999, .int x1])) A0 (.lst [V.str (zArrS ++ numS n)]) = L2.upd (L2.upd H2 T (.lst [.int 0, .int 999999999, .int x1])) A0 (.lst (([arrS n] : List Str).map V.str)) := rfl
        rw [e3]
        generalize L2.upd (L2.upd H2 T (.lst [.int 0, .int 999999999, .int x1])) A0 (.lst (([arrS n] : List Str).map V.str)) = H3 at gA gA' hN3 hA0 ⊢
        have hA4 := gA'.sqL hP hA
        obtain ⟨x3, f3, _, _⟩ := num 3 (by decide)
        refine ⟨_, rfl, _, rfl, a, _, 3, _, rfl, rfl, hA4, f3, .inl ⟨_, rfl, _, _, rfl, rfl, (show (0 : Int) < 4 by decide), x3 % 4, rfl, by omega, by omega, fun D nD => lc_range (n := (x3 % 4).toNat) (fun i H2 => Grew P H3 H2 ∧ ∃ rl : List Str, H2 D = some (.lst ((rl.map byS).map V.str)) ∧ rl.length = i ∧ ∀ z ∈ rl, isNm z = true)
          ⟨Grew.new gA'.tab nD, [], upd_same, rfl, fun y hy => by cases hy⟩ (fun i H4 hi p => ?_) (fun H4 p => ?_)⟩⟩
        · obtain ⟨g, rl, hD, hl1, hr1⟩ := p
          obtain ⟨y, ey, _, _⟩ := num (10 + i) (by omega)
          have ey' : atI (ns.map V.int) (10 + (0 + (i : Int))) = some (.int y) := by
            have : (10 : Int) + (0 + (i : Int)) = ((10 + i : Nat) : Int) := by omega
            rw [this]; exact ey
          obtain ⟨z, ez, hz⟩ := nm_at y
          have hA5 := g.sqL gA'.tab hA4
          have hN5 := g.lst gA'.tab hN3
          have lz := nm_len hz
          have e3 : zByS.length = 3 := by decide +kernel
          refine ⟨rfl, _, rfl, _, rfl, _, rfl, _, _, rfl, rfl, a, _, _, _, rfl, rfl, hA5, ey', .inl ⟨_, rfl, _, _, rfl, rfl, (show (0 : Int) < 5 by decide), N, _, _, _, rfl, rfl, SqL.of hN5, ez, zByS, z, rfl, rfl, by rw [e3, sizeLine_eq]; omega, _, hD, by rw [List.length_map, List.length_map, hl1, sizeLine_eq]; omega, g.write hD (fun _ z => by cases z) nD, rl ++ [z], by rw [upd_same, List.map_append, List.map_append]; rfl, by rw [List.length_append, hl1]; rfl, fun w hw => ?_⟩⟩
          rcases List.mem_append.mp hw with hw | hw
          · exact hr1 w hw
          · rw [List.mem_singleton.mp hw]
            exact hz
        · obtain ⟨g, rl, hD, hl1, hr1⟩ := p
          have hA0' := g.lst gA'.tab hA0
          have hN5 := g.lst gA'.tab hN3
          refine ⟨A0, D, _, _, rfl, rfl, hA0', hD, by simp only [List.length_append, List.length_map, List.length_cons, List.length_nil]; rw [sizeLine_eq]; omega, fun M nM => ?_⟩
          have g5 := gA'.trans g
          have gM := Grew.new g5.tab (o := .lst (([arrS n] : List Str).map V.str ++ (rl.map byS).map V.str)) nM
          refine ⟨M, some (rl, n), rfl, g5.trans gM, g5.free nM, fun e => (by rw [e, hN5] at nM; cases nM), gM.lst g5.tab hN5, by rw [upd_same]; rfl, fun p hp => ?_⟩
          obtain rfl := Option.some.inj hp
          exact ⟨hr1, by show rl.length ≤ 3; omega, hn⟩
      · exact ⟨M0, none, rfl, g2, nM0', fun e => (by rw [e, hN] at nM0; cases nM0), hN2, hM0, fun p hp => by cases hp⟩
    rintro σ H3 ⟨M, ro, rfl, g3, nM, MN, hN3, hM3, hro⟩
    have hA3 := g3.sqL hP hA
    have lh : (headL ro).length ≤ 4 := by
      cases ro with
      | none => show 1 ≤ 4; omega
      | some p =>
        have := (hro p rfl).2.1
        show (arrS p.2 :: p.1.map byS).length ≤ 4
        rw [List.length_cons, List.length_map]
        omega
    obtain ⟨x4, f4, _, _⟩ := num 4 (by decide)
    refine ⟨fun σ H' => ∃ (kv : Option V) (ls : List (Str × Nat)), σ = [some (.ref a), some (.ref N), some (.ref M), kv] ∧ Grew P H H' ∧ H' M = some (.lst ((linesP ro ls).map V.str)) ∧ ls.length ≤ 3 ∧ ∀ e ∈ ls, isNm e.1 = true ∧ e.2 ≤ 999999999, ?_, ?_⟩
    · refine ⟨_, rfl, a, _, 4, _, rfl, rfl, hA3, f4, .inl ⟨_, rfl, _, _, rfl, rfl, (show (0 : Int) < 4 by decide), x4 % 4, rfl, by omega, by omega, for_range (n := (x4 % 4).toNat) (fun i σ H' => ∃ (kv : Option V) (ls : List (Str × Nat)), σ = [some (.ref a), some (.ref N), some (.ref M), kv] ∧ Grew P H H' ∧ H' N = some (.lst (nmL.map V.str)) ∧ H' M = some (.lst ((headL ro ++ ls.map lowS).map V.str)) ∧ ls.length = i ∧ ∀ e ∈ ls, isNm e.1 = true ∧ e.2 ≤ 999999999)
        ⟨none, [], rfl, g3, hN3, by rw [List.map_nil, List.append_nil]; exact hM3, rfl, fun e he => by cases he⟩ ?_ ?_⟩⟩
      · rintro i σ H4 hi ⟨kv, ls, rfl, g4, hN4, hM4, hll, hls⟩
        obtain ⟨y1, p1, _, _⟩ := num (14 + i) (by omega)
        obtain ⟨y2, p2, c2, d2⟩ := num (18 + i) (by omega)
        have p1' : atI (ns.map V.int) (14 + (0 + (i : Int))) = some (.int y1) := by
          have : (14 : Int) + (0 + (i : Int)) = ((14 + i : Nat) : Int) := by omega
          rw [this]; exact p1
        have p2' : atI (ns.map V.int) (18 + (0 + (i : Int))) = some (.int y2) := by
          have : (18 : Int) + (0 + (i : Int)) = ((18 + i : Nat) : Int) := by omega
          rw [this]; exact p2
        obtain ⟨z, ez, hz⟩ := nm_at y1
        obtain ⟨n2, rfl⟩ := Int.eq_ofNat_of_zero_le c2
        have hn2 : n2 ≤ 999999999 := by omega
        have hA4 := g4.sqL hP hA
        have lz := nm_len hz
        have ln := num_len hn2
        have l4 : zLowS.length = 4 := by decide +kernel
        have ls1 : zSp.length = 1 := by decide +kernel
        have k1 : (zLowS ++ z).length = 4 + z.length := by rw [PySem.Str.length_append, l4]
        have k2 : ((zLowS ++ z) ++ zSp).length = 4 + z.length + 1 := by rw [PySem.Str.length_append, k1, ls1]
        refine ⟨_, rfl, .inl ⟨rfl, _, SqL.of hM4⟩, _, rfl, _, rfl, _, rfl, _, _, rfl, rfl, a, _, _, _, rfl, rfl, hA4, p1', .inl ⟨_, rfl, _, _, rfl, rfl, (show (0 : Int) < 5 by decide), N, _, _, _, rfl, rfl, SqL.of hN4, ez, zLowS, z, rfl, rfl, by rw [l4, sizeLine_eq]; omega, _, zSp, rfl, rfl, by rw [k1, ls1, sizeLine_eq]; omega, ?_⟩⟩
        refine ⟨_, rfl, _, rfl, _, _, rfl, rfl, a, _, _, _, rfl, rfl, hA4, p2', .inl ⟨_, rfl, (n2 : Int), rfl, log_small hn2, _, numS n2, rfl, rfl, by rw [k2, sizeLine_eq]; omega, ?_⟩⟩
        refine ⟨M, _, _, rfl, rfl, hM4, by rw [List.length_map, List.length_append, List.length_map, sizeLine_eq]; omega, ?_⟩
        refine ⟨_, ls ++ [(z, n2)], rfl, g4.write hM4 (fun _ z => by cases z) nM, by rw [upd_ne (Ne.symm MN)]; exact hN4, ?_, by rw [List.length_append, hll]; rfl, fun e he => ?_⟩
        · have q : (headL ro ++ (ls ++ [(z, n2)]).map lowS).map V.str = (headL ro ++ ls.map lowS).map V.str ++ [V.str (lowS (z, n2))] := by simp
          rw [upd_same, q]
          rfl
        · rcases List.mem_append.mp he with he | he
          · exact hls e he
          · rw [List.mem_singleton.mp he]
            exact ⟨hz, hn2⟩
      · rintro σ H4 ⟨kv, ls, rfl, g4, hN4, hM4, hll, hls⟩
        refine ⟨kv, ls, rfl, g4, ?_, by omega, hls⟩
        rw [hM4]
        cases ro <;> rfl
    rintro σ H4 ⟨kv, ls, rfl, g4, hM4, hll, hls⟩
    exact ⟨_, rfl, k _ M ro ls g4 nM hM4 ⟨fun p hp => let ⟨a, b, c⟩ := hro p hp; ⟨a, by omega, c⟩, hls, by omega⟩ hll (by rw [show linesP ro ls = headL ro ++ ls.map lowS by cases ro <;> rfl, List.length_append, List.length_map]; omega)⟩
end
end W

set_option Elab.async false
set_option linter.all false
set_option maxRecDepth 100000
set_option maxHeartbeats 2000000
/-! x.replace(y, z, 1) of written texts; a first statement behind which a token is out -/
namespace MyN
open PySem PySem.Spec PyProof.Rows L2 Builtin Builtin.Str
theorem gives_repl1 (x y z : Str) (t u v k : Tok) (h0 : (u == 0 || v == 0) = false) (huv : (u == v) = false) (hyz : (y == z) = false)
    (hc : ((occurrences x y 0 x.length 1).isEmpty || (y.length == 0 && z.length == 0)) = false) (hl : tooLong (x.length + (occurrences x y 0 x.length 1).length * z.length) = false) :
    Gives (Builtin.«str.replace» ⟨[.str x t, .str y u, .str z v, .int 1 k], []⟩) (.str (glued z (partsBetween x (occurrences x y 0 x.length 1) y.length))) := by
  show Gives (do let limit ← countLimit "str.replace" (some (.int 1 k)) (x.length + 1)
                 let cuts := occurrences x y 0 x.length limit
                 if (cuts.isEmpty || (y.length == 0 && z.length == 0)) = true then (do rule "str.replace.nothing"; ret (.str x t)) else
                  (do let same ← isSame (.str y u) (.str z v)
                      if same = true then (do rule "str.replace.old-is-new"; ret (.str x t)) else
                      if tooLong (x.length + cuts.length * z.length) = true then unsupported "str.replace:memory" else
                      retStr (glued z (partsBetween x cuts y.length)))) _
  rw [countLimit_int "str.replace" 1 k (x.length + 1) (by decide)]
  show Gives (if ((occurrences x y 0 x.length 1).isEmpty || (y.length == 0 && z.length == 0)) = true then (do rule "str.replace.nothing"; ret (.str x t)) else
          (do let same ← isSame (.str y u) (.str z v)
              if same = true then (do rule "str.replace.old-is-new"; ret (.str x t)) else
              if tooLong (x.length + (occurrences x y 0 x.length 1).length * z.length) = true then unsupported "str.replace:memory" else
              retStr (glued z (partsBetween x (occurrences x y 0 x.length 1) y.length)))) _
  rw [hc, isSame_str_other y z u v h0 huv hyz, hl]
  exact .of_eq rfl
/-- what it gives -/
theorem repl1_val {x y a b z : Str} {s : Nat} {S : List Nat} (ey : TL.tl y = s :: S) (hx : x = a ++ y ++ b) (ha : s ∉ TL.tl a) :
    (occurrences x y 0 x.length 1).isEmpty = false ∧ (occurrences x y 0 x.length 1).length = 1 ∧ glued z (partsBetween x (occurrences x y 0 x.length 1) y.length) = a ++ z ++ b := by
  have p := TL.partition_app ey (a := a) (b := b) ha
  rw [← hx] at p
  have hl := StrLaws.occ_length_le x y 0 x.length 1
  unfold Txt.partition at p
  cases e : occurrences x y 0 x.length 1 with
  | nil =>
    rw [e] at p
    have q : Str.empty = y := congrArg (fun w : Str × Str × Str => w.2.1) p
    rw [← q] at ey
    cases ey
  | cons i r =>
    rw [e] at p hl
    cases r with
    | cons _ _ => simp at hl
    | nil =>
      have q1 : strSub x 0 i = a := congrArg (fun w : Str × Str × Str => w.1) p
      have q2 : strSub x (i + y.length) x.length = b := congrArg (fun w : Str × Str × Str => w.2.2) p
      refine ⟨rfl, rfl, ?_⟩
      rw [StrLaws.partsBetween_eq]
      show glued z [strSub x 0 i, strSub x (i + y.length) x.length] = _
      rw [q1, q2]
      rfl
def tRepl1 (to : TE) (y z : Str) : TE := fun σ H Q => to σ H fun v H1 => ∃ (x a b : Str) (s : Nat) (S : List Nat), v = .str x ∧ TL.tl y = s :: S ∧ x = a ++ y ++ b ∧ s ∉ TL.tl a ∧ x.length + z.length ≤ 1000000 ∧ Q (.str (a ++ z ++ b)) H1
section
variable {X : Cx} {o e f : Expr} {te tf : TE} {to : TE} {y z : Str} {j k l : Nat} {c0 c1 c2 apos pos p p' : Pos}
theorem pet_repl1 (ho : PE X o to) (hyz : (y == z) = false := by decide)
    (hbase : attributeBase o "replace" X.env (eval o X.env) = eval o X.env := by rfl)
    (hfew : ((backTo pos (starEach [.Constant (.str y) j c0, .Constant (.str z) k c1, .Constant (.int 1) l c2] X.env)).all (fun x => !x.1) && (backToKw pos (keywordEach [] X.env)).all (fun x => x.1.isSome)
      && decide (([.Constant (.str y) j c0, .Constant (.str z) k c1, .Constant (.int 1) l c2] : List Expr).length + ([] : List Keyword).length + (if ([] : List Keyword).isEmpty then 0 else 1) < 30)) = true := by rfl)
    (hline : (apos.endLine == pos.line) = true := by rfl) :
    PET X (.Call (.Attribute o "replace" apos) [.Constant (.str y) j c0, .Constant (.str z) k c1, .Constant (.int 1) l c2] [] pos) (tRepl1 to y z) := by
  intro pins s σ H Q h0 I h
  refine wpAny_Call_method_late hbase hfew hline rfl (wpAny_mono (PySem.wpAny_toks (ho.run pins s σ H _ I h)) (fun v s1 q => ?_) fun _ _ z => z.2)
  obtain ⟨hk, v', H1, I1, r1, x, a, b, sg, S, e1, ey, hx, ha, hb, q⟩ := q
  have hk' : s.toks ≤ s1.toks := hk
  have u0 : (s1.toks == 0) = false := beq_eq_false_iff_ne.mpr (by omega)
  have v0 : (s1.toks + 1 == 0) = false := beq_eq_false_iff_ne.mpr (by omega)
  have uv : (s1.toks == s1.toks + 1) = false := beq_eq_false_iff_ne.mpr (by omega)
  subst e1
  obtain ⟨tx, e2⟩ := r1
  subst e2
  refine ⟨"str", _, PySem.F.plainAttrs_str, PySem.F.slot_str_replace, PySem.F.type_str_replace, typeIs_str _ _ _, (fun _ e => nomatch e), Calls.callWith_builtin rfl (Calls.evalArgs_plain ?_)⟩
  show wpAny _ _ (spliced ((false, eval (.Constant (.str y) j c0) X.env) :: (false, eval (.Constant (.str z) k c1) X.env) :: (false, eval (.Constant (.int 1) l c2) X.env) :: [])) _ _ _
  refine Calls.spliced_cons (Calls.Constant_str (Calls.spliced_cons (Calls.Constant_str (Calls.spliced_cons (wpAny_Constant_int (Calls.spliced_nil ?_))))))
  obtain ⟨v1, v2, v3⟩ := repl1_val (z := z) ey hx ha
  have hy0 : (y.length == 0) = false := by
    have : (TL.tl y).length = y.length := by simp [TL.tl, Str.length]
    rw [ey] at this
    exact beq_eq_false_iff_ne.mpr (by rw [← this]; simp)
  refine call_gives F.slot_str_replace (typeIs_str _ _ _) F.entry_str_replace (F.args_str_replace_4 _ _ _ _)
    (gives_repl1 x y z tx s1.toks (s1.toks + 1) (s1.toks + 1 + 1) (by show (s1.toks == 0 || s1.toks + 1 == 0) = false; rw [u0, v0]; rfl) uv hyz (by rw [v1, hy0]; rfl) (by unfold tooLong; rw [v2]; exact decide_eq_false (by rw [sizeLine_eq]; omega))) ?_
  rw [v3]
  refine ⟨?_, ⟨.str (a ++ z ++ b), H1, I1.tok _, ⟨_, rfl⟩, q⟩⟩
  rw [hx] at hb
  simp only [PySem.Str.length_append] at hb ⊢
  rw [sizeLine_eq]
  omega
end
def tSplitC (to : TE) (y : Str) : TE := fun σ H Q => to σ H fun v H1 => ∃ a, v = .str a ∧ (y.length == 0) = false ∧ a.length + 2 ≤ sizeLine ∧ rNewStrs (Txt.split a y) H1 Q
section
variable {X : Cx} {o : Expr} {to : TE} {y : Str} {j : Nat} {c0 apos pos : Pos}
theorem pss_split {i : Nat} {x : Str} {apos cpos pos' pos : Pos} {rest : List Stmt} {u : TS} (hN : X.N.Nodup) (hi : X.N[i]? = some x) (hx : Loc X.env.scope x) (ho : PE X o to) (h2 : PSsT X rest u)
    (hst : starEach [.Constant (.str y) j c0] X.env = [(false, eval (.Constant (.str y) j c0) X.env)] := by rfl)
    (hbase : attributeBase o "split" X.env (eval o X.env) = eval o X.env := by rfl) (hline : (apos.endLine == cpos.line) = true := by rfl)
    (hs : swapsWith (.Call (.Attribute o "split" apos) [.Constant (.str y) j c0] [] cpos) (some (.Name x pos')) pos.line X.env = pure false := by rfl) (hf : X.fn x = true ∨ X.env.scope.names.lookup x = some .local := by first | exact .inl rfl | exact .inr rfl | assumption) :
    PSs X (.Assign [.Name x pos'] (.Call (.Attribute o "split" apos) [.Constant (.str y) j c0] [] cpos) pos :: rest) (tSeq (tAsg (tSplitC to y) (gName i)) u) := by
  refine ⟨fun pins s σ H D I h => ?_⟩
  refine wpAny_execs_cons (wpAny_Assign_Name ?_ hs)
  refine PySem.Call_method1 hbase hst hline (thn (ho.run pins s σ H _ I h) fun v s1 ⟨v', H1, I1, r1, a, e1, hy, hz, q⟩ => ?_)
  subst e1
  refine ⟨"str", _, PySem.F.plainAttrs_str, PySem.F.slot_str_split, PySem.F.type_str_split, (by obtain ⟨t, rfl⟩ := r1; exact typeIs_str _ _ _), (fun _ e => by obtain ⟨t, rfl⟩ := r1; cases e), Calls.callWith_builtin rfl (Calls.evalArgs_plain (Calls.spliced_cons ?_))⟩
  refine Calls.Constant_str (Calls.spliced_nil ?_)
  refine wpAny_mono (PySem.wpAny_toks (mt_split pins _ σ H1 (.str a) [.str y] v [.str y s1.toks] _ (I1.tok (s1.toks + 1)) r1 (.cons ⟨_, rfl⟩ .nil) ⟨a, y, rfl, rfl, hy, hz, q⟩)) (fun v2 s2 ⟨hk, w, H2, I2, r2, q2⟩ => ?_) fun _ _ z => z.2
  have hk' : s1.toks + 1 ≤ s2.toks := hk
  refine wpAny_mono (PySem.wpAny_toks (store_ok (v := w) (u := v2) (Q := fun _ s3 => Inv X pins (σ.set i (some w)) H2 s3) I2 hN hi hx r2 (fun _ I3 => I3) hf)) (fun _ s3 q => ?_) fun _ _ z => z.2
  have hk2 : s2.toks ≤ s3.toks := q.1
  exact h2 pins s3 _ H2 D (by omega) q.2 q2
theorem psst_cut {st : Stmt} {rest : List Stmt} {t u : TS} (h1 : PST X st t) (h2 : PSs X rest u) : PSsT X (st :: rest) (C8.tCut t u) := by
  intro pins s σ H D h0 I h
  obtain ⟨Mid, hm, hu⟩ := h
  refine wpAny_execs_cons (thn (h1 pins s σ H { D with nx := Mid } h0 I hm) fun f s1 q => ?_)
  cases f with
  | next =>
    obtain ⟨σ', H', I', q⟩ := q
    exact h2.run pins s1 σ' H' D I' (hu σ' H' q)
  | ret v => exact q
  | brk => exact q
  | cont => exact q
end
end MyN

set_option Elab.async false
set_option linter.all false
set_option maxRecDepth 100000
set_option maxHeartbeats 2000000
namespace W
open PySem PySem.Spec PyProof.Rows L2 GxR MyG
/-! ### _law_broken -/
abbrev sLBroken : Stmt := top 67
theorem lit_at (l : List Str) {m : Int} (x : Int) (hm : (l.length : Int) = m) (h0 : 0 < m) : ∃ z, atI (l.map V.str) (x % m) = some (.str z) ∧ z ∈ l := by
  have a0 := Int.emod_nonneg x (show m ≠ 0 by omega)
  have a1 := Int.emod_lt_of_pos x h0
  obtain ⟨v, ev, ev2⟩ := at_some (l := l.map V.str) (i := x % m) a0 (by rw [List.length_map]; omega)
  rw [List.getElem?_map] at ev2
  cases qz : l[(x % m).toNat]? with
  | none => rw [qz] at ev2; cases ev2
  | some z =>
    rw [qz] at ev2
    obtain rfl := Option.some.inj ev2
    exact ⟨z, ev, List.mem_of_getElem? qz⟩
def nmBad : List Str := ["", "0a", "A", "abcdefghijklm", "a_b", "-"]
def nrBad : List Str := ["", "00", "-1", "1000000000", "a", "1.", "07", "+1"]
def plainB (w : Str) : Bool := !decide (32 ∈ TL.tl w) && !decide (10 ∈ TL.tl w) && PyData.strOk w && decide (w.length ≤ 20)
theorem nmBad_ok : ∀ z ∈ nmBad, plainB z = true ∧ isNm z = false := by decide +kernel
theorem nrBad_ok : ∀ z ∈ nrBad, plainB z = true ∧ isNr 9 z = false := by decide +kernel
theorem cut_pre {z : Str} {k : Nat} (h : k ≤ z.length) : (cutS z none (some (k : Int))).cps.toList = z.cps.toList.take k := by
  unfold cutS
  rw [HT.sIx_none, HT.sIx_nat, List.drop_zero, Nat.sub_zero, Nat.min_eq_left h]
theorem cut_suf {z : Str} {k : Nat} (h : k ≤ z.length) : (cutS z (some (k : Int)) none).cps.toList = z.cps.toList.drop k := by
  unfold cutS
  rw [HT.sIx_none, HT.sIx_nat, Nat.min_eq_left h]
  show (z.cps.toList.drop k).take (z.length - k) = z.cps.toList.drop k
  refine List.take_of_length_le ?_
  rw [List.length_drop, str_len]
  exact Nat.le_refl _
/-- the first word and the rest -/
theorem join_head (w0 : Str) (ws : List Str) : ∃ r : List Nat, TL.tl (Txt.join zSp (w0 :: ws)) = TL.tl w0 ++ r ∧ ∀ v, TL.tl (Txt.join zSp (v :: ws)) = TL.tl v ++ r := by
  have e : ∀ v, ∃ r, TL.tl (Txt.join zSp (v :: ws)) = TL.tl v ++ r ∧ r = StrLaws.glueL zSp.cps.toList ws := fun v => ⟨_, StrLaws.glued_list zSp v ws, rfl⟩
  obtain ⟨r, h1, h2⟩ := e w0
  refine ⟨r, h1, fun v => ?_⟩
  obtain ⟨r', h3, h4⟩ := e v
  rw [h3, h4, h2]
/-- the first sign made great -/
theorem brk_up {ws : List Str} (h : WRow ws) : Brk (Txt.upper (cutS (Txt.join zSp ws) none (some 1)) ++ cutS (Txt.join zSp ws) (some 1) none) ∧ (cutS (Txt.join zSp ws) none (some 1)).length ≤ 5592405 ∧ (Txt.upper (cutS (Txt.join zSp ws) none (some 1))).length ≤ 100 := by
  have main : ∀ (w0 v : Str) (r : List Str) (c : Nat) (t : List Nat) (d : Str), WRow (w0 :: r) → TL.tl w0 = c :: t → Txt.upper ⟨#[c]⟩ = d → TL.tl v = TL.tl d ++ t → PlainW v → v ≠ zNone → v ≠ zArr → v ≠ zBy → v ≠ zLow → d.length ≤ 100 →
      Brk (Txt.upper (cutS (Txt.join zSp (w0 :: r)) none (some 1)) ++ cutS (Txt.join zSp (w0 :: r)) (some 1) none) ∧ (cutS (Txt.join zSp (w0 :: r)) none (some 1)).length ≤ 5592405 ∧ (Txt.upper (cutS (Txt.join zSp (w0 :: r)) none (some 1))).length ≤ 100 := by
    intro w0 v r c t d hw e0 eu ev pv n1 n2 n3 n4 hd
    obtain ⟨q, e1, e2⟩ := join_head w0 r
    have hl : 1 ≤ (Txt.join zSp (w0 :: r)).length := by
      rw [TL.len_tl, e1, e0]
      simp
    have a1 : cutS (Txt.join zSp (w0 :: r)) none (some 1) = ⟨#[c]⟩ := by
      refine TL.ext_tl ?_
      rw [show TL.tl (cutS (Txt.join zSp (w0 :: r)) none (some 1)) = (TL.tl (Txt.join zSp (w0 :: r))).take 1 from cut_pre (k := 1) hl, e1, e0]
      rfl
    have a2 : TL.tl (cutS (Txt.join zSp (w0 :: r)) (some 1) none) = t ++ q := by
      rw [show TL.tl (cutS (Txt.join zSp (w0 :: r)) (some 1) none) = (TL.tl (Txt.join zSp (w0 :: r))).drop 1 from cut_suf (k := 1) hl, e1, e0]
      rfl
    refine ⟨?_, by rw [a1]; show 1 ≤ 5592405; decide, by rw [a1, eu]; exact hd⟩
    have e3 : Txt.upper (cutS (Txt.join zSp (w0 :: r)) none (some 1)) ++ cutS (Txt.join zSp (w0 :: r)) (some 1) none = Txt.join zSp (v :: r) := by
      refine TL.ext_tl ?_
      rw [TL.tl_append, a2, a1, eu, e2 v, ev, List.append_assoc]
    rw [e3]
    exact brk_head hw pv n1 n2 n3 n4
  cases h with
  | none => exact main zNone "None" [] 110 [111, 110, 101] "N" .none (by decide +kernel) (by decide +kernel) (by decide +kernel) (plain_lit _ (by decide +kernel)) (by decide +kernel) (by decide +kernel) (by decide +kernel) (by decide +kernel) (by decide +kernel)
  | arr h => exact main zArr "Arrives" _ 97 [114, 114, 105, 118, 101, 115] "A" (.arr h) (by decide +kernel) (by decide +kernel) (by decide +kernel) (plain_lit _ (by decide +kernel)) (by decide +kernel) (by decide +kernel) (by decide +kernel) (by decide +kernel) (by decide +kernel)
  | rb h => exact main zBy "By" _ 98 [121] "B" (.rb h) (by decide +kernel) (by decide +kernel) (by decide +kernel) (plain_lit _ (by decide +kernel)) (by decide +kernel) (by decide +kernel) (by decide +kernel) (by decide +kernel) (by decide +kernel)
  | low h k => exact main zLow "Low" _ 108 [111, 119] "L" (.low h k) (by decide +kernel) (by decide +kernel) (by decide +kernel) (plain_lit _ (by decide +kernel)) (by decide +kernel) (by decide +kernel) (by decide +kernel) (by decide +kernel) (by decide +kernel)
def zs : Str := "s"
/-- an s behind the first word -/
theorem brk_s {w0 : Str} {ws : List Str} (h : WRow (w0 :: ws)) : Brk (w0 ++ zs ++ cutS (Txt.join zSp (w0 :: ws)) (some (w0.length : Int)) none) := by
  obtain ⟨q, e1, e2⟩ := join_head w0 ws
  have hl : w0.length ≤ (Txt.join zSp (w0 :: ws)).length := by
    rw [TL.len_tl (Txt.join zSp (w0 :: ws)), e1, List.length_append, ← TL.len_tl]
    omega
  have a2 : TL.tl (cutS (Txt.join zSp (w0 :: ws)) (some (w0.length : Int)) none) = q := by
    rw [show TL.tl (cutS (Txt.join zSp (w0 :: ws)) (some (w0.length : Int)) none) = (TL.tl (Txt.join zSp (w0 :: ws))).drop w0.length from cut_suf hl, e1]
    exact List.drop_left' (TL.len_tl w0).symm
  have e3 : w0 ++ zs ++ cutS (Txt.join zSp (w0 :: ws)) (some (w0.length : Int)) none = Txt.join zSp ((w0 ++ zs) :: ws) := by
    refine TL.ext_tl ?_
    rw [TL.tl_append, a2, e2]
  rw [e3]
  have key : PlainW (w0 ++ zs) ∧ w0 ++ zs ≠ zNone ∧ w0 ++ zs ≠ zArr ∧ w0 ++ zs ≠ zBy ∧ w0 ++ zs ≠ zLow := by
    cases h with
    | none => exact ⟨plain_lit _ (by decide +kernel), by decide +kernel, by decide +kernel, by decide +kernel, by decide +kernel⟩
    | arr h => exact ⟨plain_lit _ (by decide +kernel), by decide +kernel, by decide +kernel, by decide +kernel, by decide +kernel⟩
    | rb h => exact ⟨plain_lit _ (by decide +kernel), by decide +kernel, by decide +kernel, by decide +kernel, by decide +kernel⟩
    | low h k => exact ⟨plain_lit _ (by decide +kernel), by decide +kernel, by decide +kernel, by decide +kernel, by decide +kernel⟩
  exact brk_head h key.1 key.2.1 key.2.2.1 key.2.2.2.1 key.2.2.2.2
end W

set_option Elab.async false
set_option linter.all false
set_option maxRecDepth 100000
set_option maxHeartbeats 2000000
namespace W
open PySem PySem.Spec PyProof.Rows L2 GxR MyG
theorem cutV_suf (xs : List V) (n : Nat) : cutV xs (some (n : Int)) none = xs.drop n := by
  unfold cutV
  rw [HT.sIx_none, HT.sIx_nat]
  rcases Nat.le_total n xs.length with h | h
  · rw [Nat.min_eq_left h]
    exact List.take_of_length_le (by rw [List.length_drop]; exact Nat.le_refl _)
  · rw [Nat.min_eq_right h, List.drop_length, List.drop_eq_nil_of_le h, List.take_nil]
def spLBroken (K : PySem.W.Frag) (P : Addr) : Sp := fun vs H Q _ => ∃ (ws : List Str) (fa nu : Int), vs = [.str (Txt.join zSp ws), .int fa, .int nu] ∧ WRow ws ∧ TabG H P ∧ ∀ H' z, Grew P H H' → Brk z → Q (.str z) H'
section
variable {Pg : Program} {w : World} {K : PySem.W.Frag} {mg : Str → Option Value} {base : Heap} {C P Pn : Addr}
abbrev nLB : List Str := ["line", "fault", "number", "words", "name", "bad"]
theorem scLB : FnScope nLB ["line", "fault", "number"] (defScope sLBroken) := ⟨rfl, rfl, rfl, by decide +kernel, rfl, by decide +kernel, by decide +kernel⟩
theorem ok_lbroken {f : Addr} {fd : FuncData} (F : Fun K "_law_broken" "_law_broken" sLBroken f fd) (hl : mg "len" = none) :
    FnOk Pg w K mg base CX0 1 f fd ["line", "fault", "number"] (spLBroken K P) := by
  refine F.ok scLB (fun vs H Q E h => ?_) (fun cdv A outer s H vs Q E hr h => ?_)
  · obtain ⟨ws, fa, nu, rfl, _⟩ := h
    rfl
  · obtain ⟨ws, fa, nu, rfl, hw, hP, k⟩ := h
    refine ⟨_, MyN.pss_split (i := 3) scLB.nd rfl (Or.inl rfl) (pv 0)
      (psst_cons (PST.of (ps_set (i := 4) scLB.nd rfl (Or.inl rfl) (pe_ix (r := rIxL K) ix_list (pe_lst (pa_cons pe_str (pa_cons pe_str (pa_cons pe_str (pa_cons pe_str (pa_cons pe_str (pa_cons pe_str pa_nil))))))) (pe_op op_mod (pv 2) pe_int) (fun _ _ => rfl))))
      (psst_cons (PST.of (ps_set (i := 5) scLB.nd rfl (Or.inl rfl) (pe_ix (r := rIxL K) ix_list (pe_lst (pa_cons pe_str (pa_cons pe_str (pa_cons pe_str (pa_cons pe_str (pa_cons pe_str (pa_cons pe_str (pa_cons pe_str (pa_cons pe_str pa_nil))))))))) (pe_op op_mod (pv 2) pe_int) (fun _ _ => rfl))))
      (psst_cons (PST.of (ps_if (pt_cmpR op_eq (pv 1) pe_int (nomark _)) (pss_one (ps_ret (pe_op op_add_str pe_str (pv 0)))) pss_nil))
      (MyN.psst_cut (CwR.pst_if (PW.pt (pw_and (pt_cmpR op_eq (pv 1) pe_int (nomark _)) (pw_and1 (pt_cmpR op_gt (pe_callB call_len_seq (by rfl) hl PySem.boot_len (pa_cons (pv 3) pa_nil)) pe_int (nomark _))))) (CwR.psst_one (CwR.pst_ret (MyN.pet_repl1 (pv 0) (by decide +kernel)))) CwR.psst_nil)
      (pss_cons (ps_if (pt_cmpR op_eq (pv 1) pe_int (nomark _)) (pss_one (ps_ret (pe_op op_add_str (pv 0) pe_str))) pss_nil)
      (C8.pss_cut (ps_if (PW.pt (pw_and (pt_cmpR op_eq (pv 1) pe_int (nomark _)) (pw_and1 (pt_cmpR op_gt (pe_callB call_len_seq (by rfl) hl PySem.boot_len (pa_cons (pv 3) pa_nil)) pe_int (nomark _)))))
        (pss_one (ps_ret (pe_join pe_str (pe_slice sl_list (pv 3) po_none (po_some (pe_op op_sub (pe_callB call_len_seq (by rfl) hl PySem.boot_len (pa_cons (pv 3) pa_nil)) pe_int)))))) pss_nil)
      (pss_cons (ps_if (pt_cmpR op_eq (pv 1) pe_int (nomark _)) (pss_one (ps_ret (pe_op op_add_str (pe_upper (pe_slice sl_str (pv 0) po_none (po_some pe_int))) (pe_slice sl_str (pv 0) (po_some pe_int) po_none)))) pss_nil)
      (pss_cons (ps_if (pt_cmpR op_eq (pv 1) pe_int (nomark _)) (pss_one (ps_ret pe_str)) pss_nil)
      (C8.pss_cut (ps_if (PW.pt (pw_and (pt_cmpR op_eq (pv 1) pe_int (nomark _)) (pw_and1 (pt_cmpR op_in_seq (pe_ix (r := rIxL K) ix_list (pv 3) pe_int (fun _ _ => rfl)) (pe_lst (pa_cons pe_str (pa_cons pe_str pa_nil))) (by rfl)))))
        (pss_one (ps_ret (pe_join pe_str (pe_op op_cat (pe_lst (pa_cons (pe_ix (r := rIxL K) ix_list (pv 3) pe_int (fun _ _ => rfl)) (pa_cons (pv 4) pa_nil))) (pe_slice sl_list (pv 3) (po_some pe_int) po_none))))) pss_nil)
      (C8.pss_cut (ps_if (PW.pt (pw_and (pt_cmpR op_eq (pv 1) pe_int (nomark _)) (pw_and1 (pt_cmpR op_in_seq (pe_ix (r := rIxL K) ix_list (pv 3) pe_int (fun _ _ => rfl)) (pe_lst (pa_cons pe_str (pa_cons pe_str pa_nil))) (by rfl)))))
        (pss_one (ps_ret (pe_join pe_str (pe_op op_cat (pe_slice sl_list (pv 3) po_none (po_some (pe_op op_sub (pe_callB call_len_seq (by rfl) hl PySem.boot_len (pa_cons (pv 3) pa_nil)) pe_int))) (pe_lst (pa_cons (pv 5) pa_nil)))))) pss_nil)
      (pss_cons (ps_if (pt_cmpR op_eq (pv 1) pe_int (nomark _)) (pss_one (ps_ret (pe_op op_add_str (pe_op op_add_str (pe_ix (r := rIxL K) ix_list (pv 3) pe_int (fun _ _ => rfl)) pe_str) (pe_slice sl_str (pv 0) (po_some (pe_callB call_len_str (by rfl) hl PySem.boot_len (pa_cons (pe_ix (r := rIxL K) ix_list (pv 3) pe_int (fun _ _ => rfl)) pa_nil))) po_none)))) pss_nil)
      (pss_one (ps_ret (pe_op op_add_str (pv 0) pe_str)))))))))))))), ?_⟩
    have hpl := hw.plain
    have hlen := hw.len
    have hjl := join_small hpl (by omega)
    have ew : Txt.split (Txt.join zSp ws) (Str.ofString " ") = ws := split_words hw.ne hpl
    have esp : (Str.ofString " ") = zSp := rfl
    refine ⟨_, rfl, _, rfl, rfl, by rw [sizeLine_eq]; omega, fun W nW => ?_⟩
    rw [ew]
    have g1 := Grew.new hP (o := .lst (ws.map V.str)) nW
    have hW1 : (L2.upd H W (.lst (ws.map V.str))) W = some (.lst (ws.map V.str)) := upd_same
    generalize L2.upd H W (.lst (ws.map V.str)) = H1 at g1 hW1 ⊢
    refine ⟨(show 6 ≤ sizeLine by decide), fun A1 nA1 => ?_⟩
    have gA := Grew.new g1.tab (o := .lst (nmBad.map V.str)) nA1
    have hW2 := gA.lst g1.tab hW1
    have hA1 : (L2.upd H1 A1 (.lst (nmBad.map V.str))) A1 = some (.lst (nmBad.map V.str)) := upd_same
    have e1 : L2.upd H1 A1 (.lst [V.str (Str.ofString ""), V.str (Str.ofString "0a"), V.str (Str.ofString "A"), V.str (Str.ofString "abcdefghijklm"), V.str (Str.ofString "a_b"), V.str (Str.ofString "-")]) = L2.upd H1 A1 (.lst (nmBad.map V.str)) := rfl
    rw [e1]
    have g2 := g1.trans gA
    generalize L2.upd H1 A1 (.lst (nmBad.map V.str)) = H2 at g2 hW2 hA1 ⊢
    obtain ⟨nb, en, hnb⟩ := lit_at nmBad nu (m := 6) rfl (by decide)
    refine ⟨_, rfl, _, _, rfl, rfl, (show (0 : Int) < 6 by decide), A1, _, _, _, rfl, rfl, SqL.of hA1, en, ?_⟩
    refine ⟨(show 8 ≤ sizeLine by decide), fun A2 nA2 => ?_⟩
    have gB := Grew.new g2.tab (o := .lst (nrBad.map V.str)) nA2
    have hW3 := gB.lst g2.tab hW2
    have hA2 : (L2.upd H2 A2 (.lst (nrBad.map V.str))) A2 = some (.lst (nrBad.map V.str)) := upd_same
    have e2 : L2.upd H2 A2 (.lst [V.str (Str.ofString ""), V.str (Str.ofString "00"), V.str (Str.ofString "-1"), V.str (Str.ofString "1000000000"), V.str (Str.ofString "a"), V.str (Str.ofString "1."), V.str (Str.ofString "07"), V.str (Str.ofString "+1")]) = L2.upd H2 A2 (.lst (nrBad.map V.str)) := rfl
    rw [e2]
    have g3 := g2.trans gB
    generalize L2.upd H2 A2 (.lst (nrBad.map V.str)) = H3 at g3 hW3 hA2 ⊢
    obtain ⟨rb, er, hrb⟩ := lit_at nrBad nu (m := 8) rfl (by decide)
    refine ⟨_, rfl, _, _, rfl, rfl, (show (0 : Int) < 8 by decide), A2, _, _, _, rfl, rfl, SqL.of hA2, er, ?_⟩
    obtain ⟨pn, qn⟩ := nmBad_ok nb hnb
    obtain ⟨pr, qr⟩ := nrBad_ok rb hrb
    have pn' := plain_lit nb pn
    have pr' := plain_lit rb pr
    have lenj : ∀ {l : List Str}, (∀ x ∈ l, PlainW x) → l.length ≤ 4 → (l.map (·.length)).sum + l.length * zSp.length ≤ 16777216 := by
      intro l hl1 hl2
      have hs : ∀ l : List Str, (∀ w ∈ l, PlainW w) → (l.map (·.length)).sum ≤ 20 * l.length := by
        intro l
        induction l with
        | nil => exact fun _ => Nat.le_refl _
        | cons a l ih =>
          intro h
          have h1 := (h a List.mem_cons_self).l
          have h2 := ih fun x hx => h x (List.mem_cons_of_mem _ hx)
          simp only [List.map_cons, List.sum_cons, List.length_cons]
          omega
      have := hs l hl1
      have e0 : zSp.length = 1 := by decide +kernel
      rw [e0]
      omega
    -- ' ' + line
    refine ⟨_, rfl, rfl, _, rfl, ?_⟩
    refine ite2 (fun _ => ?_) (fun _ => ?_)
    · refine ⟨_, rfl, zSp, Txt.join zSp ws, rfl, rfl, ?_, k _ _ g3 (brk_front hw)⟩
      have e0 : zSp.length = 1 := by decide +kernel
      rw [e0, sizeLine_eq]
      omega
    obtain ⟨S, eS⟩ : ∃ S : L2.St, S = [some (V.str (Txt.join zSp ws)), some (.int fa), some (.int nu), some (.ref W), some (.str nb), some (.str rb)] := ⟨_, rfl⟩
    refine ⟨fun σ H' => σ = S ∧ H' = H3, ?_, ?_⟩
    · refine ⟨_, rfl, rfl, _, rfl, ?_⟩
      refine ite2 (fun _ => ?_) (fun _ => ⟨eS.symm, rfl⟩)
      refine ⟨_, rfl, W, _, rfl, .inl (SqL.of hW3), _, _, rfl, rfl, _, rfl, ?_⟩
      refine ite2 (fun c => ?_) (fun _ => ⟨eS.symm, rfl⟩)
      have c' : 1 < ws.length := by
        have := of_decide_eq_true c
        rw [List.length_map] at this
        omega
      obtain ⟨a, b, hx, ha, hb⟩ := brk_two hw c'
      refine ⟨_, rfl, _, a, b, 32, [], rfl, by decide +kernel, hx, ha, ?_, ?_⟩
      · have e2 : (Str.ofString "  ").length = 2 := by decide +kernel
        rw [e2]
        omega
      · exact k _ _ g3 hb
    rintro σ H' ⟨eσ, eH⟩
    rw [eσ, eS, eH]
    -- line + ' 1'
    refine ⟨_, rfl, rfl, _, rfl, ?_⟩
    refine ite2 (fun _ => ?_) (fun _ => ?_)
    · refine ⟨_, rfl, _, _, rfl, rfl, ?_, k _ _ g3 (brk_more hw plain_1)⟩
      have e2 : (Str.ofString " 1").length = 2 := by decide +kernel
      rw [e2, sizeLine_eq]
      omega
    refine ⟨fun σ H' => σ = S ∧ H' = H3, ?_, ?_⟩
    · refine ⟨_, rfl, rfl, _, rfl, ?_⟩
      refine ite2 (fun _ => ?_) (fun _ => ⟨eS.symm, rfl⟩)
      refine ⟨_, rfl, W, _, rfl, .inl (SqL.of hW3), _, _, rfl, rfl, _, rfl, ?_⟩
      refine ite2 (fun c => ?_) (fun _ => ⟨eS.symm, rfl⟩)
      have c' : 1 < ws.length := by
        have := of_decide_eq_true c
        rw [List.length_map] at this
        omega
      refine ⟨⟨_, rfl⟩, _, rfl, _, rfl, W, _, rfl, .inl (SqL.of hW3), _, _, rfl, rfl, _, rfl, W, _, rfl, SqL.of hW3, fun T nT => ?_⟩
      have gT := g3.put (o := .lst (cutV (ws.map V.str) none (some (((ws.map V.str).length : Int) - 1)))) nT
      have et : cutV (ws.map V.str) none (some (((ws.map V.str).length : Int) - 1)) = (ws.take (ws.length - 1)).map V.str := by
        have e : (((ws.map V.str).length : Int) - 1) = ((ws.length - 1 : Nat) : Int) := by
          rw [List.length_map]
          omega
        rw [e, cutV_pre, List.map_take]
      refine ⟨_, T, ws.take (ws.length - 1), rfl, rfl, .inl ?_, lenj (fun x hx => hpl x (List.mem_of_mem_take hx)) (by rw [List.length_take]; omega), k _ _ gT (brk_less hw c')⟩
      rw [← et]
      exact SqL.of upd_same
    rintro σ H' ⟨eσ, eH⟩
    rw [eσ, eS, eH]
    -- the first sign
    refine ⟨_, rfl, rfl, _, rfl, ?_⟩
    refine ite2 (fun _ => ?_) (fun _ => ?_)
    · obtain ⟨b1, b2, b3⟩ := brk_up hw
      refine ⟨_, rfl, _, rfl, _, rfl, by rw [sizeLine_eq]; omega, ⟨_, rfl⟩, _, rfl, rfl, b2, _, rfl, _, rfl, _, rfl, by rw [sizeLine_eq]; omega, _, _, rfl, rfl, ?_, k _ _ g3 b1⟩
      have := b1.line.l
      rw [PySem.Str.length_append] at this
      rw [sizeLine_eq]
      omega
    -- ''
    refine ⟨_, rfl, rfl, _, rfl, ?_⟩
    refine ite2 (fun _ => k _ _ g3 brk_empty) (fun _ => ?_)
    obtain ⟨w0, wr, ews⟩ : ∃ w0 wr, ws = w0 :: wr := by
      cases ws with
      | nil => exact absurd rfl hw.ne
      | cons a b => exact ⟨a, b, rfl⟩
    have at0 : atI (ws.map V.str) 0 = some (.str w0) := by rw [ews]; exact atI_nat (j := 0) rfl
    -- a strange name
    refine ⟨fun σ H' => σ = S ∧ Grew P H3 H', ?_, ?_⟩
    · refine ⟨_, rfl, rfl, _, rfl, ?_⟩
      refine ite2 (fun _ => ?_) (fun _ => ⟨eS.symm, Grew.refl g3.tab⟩)
      refine ⟨_, rfl, W, _, 0, _, rfl, rfl, SqL.of hW3, at0, (show 2 ≤ sizeLine by decide), fun T nT => ?_⟩
      have gT := Grew.new g3.tab (o := .lst (([zBy, zLow] : List Str).map V.str)) nT
      have hW4 := gT.lst g3.tab hW3
      have hT : (L2.upd H3 T (.lst (([zBy, zLow] : List Str).map V.str))) T = some (.lst (([zBy, zLow] : List Str).map V.str)) := upd_same
      refine ⟨T, _, rfl, .inl (SqL.of hT), rfl, flat_strs _, _, rfl, ?_⟩
      rw [inV_dec]
      refine ite2 (fun c => ?_) (fun _ => ⟨eS.symm, gT⟩)
      have c' : w0 = zBy ∨ w0 = zLow := by
        have := of_decide_eq_true c
        simpa using this
      refine ⟨⟨_, rfl⟩, _, rfl, W, _, 0, _, rfl, rfl, SqL.of hW4, at0, _, rfl, (show 2 ≤ sizeLine by decide), fun U nU => ?_⟩
      have gU := gT.put (o := .lst (([w0, nb] : List Str).map V.str)) nU
      have hU : (L2.upd (L2.upd H3 T (.lst (([zBy, zLow] : List Str).map V.str))) U (.lst (([w0, nb] : List Str).map V.str))) U = some (.lst (([w0, nb] : List Str).map V.str)) := upd_same
      have hW5 := gU.lst g3.tab hW3
      refine ⟨_, rfl, _, rfl, W, _, rfl, SqL.of hW5, fun X nX => ?_⟩
      have ec : cutV (ws.map V.str) (some 2) none = (ws.drop 2).map V.str := by
        exact (cutV_suf (ws.map V.str) 2).trans (List.map_drop ..).symm
      have gX := gU.put (o := .lst (cutV (ws.map V.str) (some 2) none)) nX
      refine ⟨U, X, _, _, rfl, rfl, (Grew.new gU.tab (o := .lst (cutV (ws.map V.str) (some 2) none)) nX).lst gU.tab hU, upd_same, ?_, fun Y nY => ?_⟩
      · rw [ec, List.length_map, List.length_map, List.length_drop, sizeLine_eq]
        show 2 + _ ≤ _
        omega
      have gY := gX.put (o := .lst (([w0, nb] : List Str).map V.str ++ cutV (ws.map V.str) (some 2) none)) nY
      have hb := brk_name (ews ▸ hw) c' pn' qn
      rw [← ews] at hb
      refine ⟨_, Y, [w0, nb] ++ ws.drop 2, rfl, rfl, .inl ?_, ?_, k _ _ (g3.trans gY) hb⟩
      · rw [List.map_append, ← ec]
        exact SqL.of upd_same
      · refine lenj (fun x hx => ?_) ?_
        · rcases List.mem_append.mp hx with hx | hx
          · exact plains2 (hpl w0 (by rw [ews]; exact List.mem_cons_self)) pn' x hx
          · exact hpl x (List.mem_of_mem_drop hx)
        · rw [List.length_append, List.length_drop]
          show 2 + _ ≤ 4
          omega
    rintro σ H4 ⟨eσ, g4⟩
    rw [eσ, eS]
    have hW4 := g4.lst g3.tab hW3
    have g34 := g3.trans g4
    -- a strange number
    refine ⟨fun σ H' => σ = S ∧ Grew P H4 H', ?_, ?_⟩
    · refine ⟨_, rfl, rfl, _, rfl, ?_⟩
      refine ite2 (fun _ => ?_) (fun _ => ⟨eS.symm, Grew.refl g4.tab⟩)
      refine ⟨_, rfl, W, _, 0, _, rfl, rfl, SqL.of hW4, at0, (show 2 ≤ sizeLine by decide), fun T nT => ?_⟩
      have gT := Grew.new g4.tab (o := .lst (([zArr, zLow] : List Str).map V.str)) nT
      have hW5 := gT.lst g4.tab hW4
      have hT : (L2.upd H4 T (.lst (([zArr, zLow] : List Str).map V.str))) T = some (.lst (([zArr, zLow] : List Str).map V.str)) := upd_same
      refine ⟨T, _, rfl, .inl (SqL.of hT), rfl, flat_strs _, _, rfl, ?_⟩
      rw [inV_dec]
      refine ite2 (fun c => ?_) (fun _ => ⟨eS.symm, gT⟩)
      have c' : w0 = zArr ∨ w0 = zLow := by
        have := of_decide_eq_true c
        simpa using this
      have et : cutV (ws.map V.str) none (some (((ws.map V.str).length : Int) - 1)) = (ws.take (ws.length - 1)).map V.str := by
        have e : (((ws.map V.str).length : Int) - 1) = ((ws.length - 1 : Nat) : Int) := by
          rw [List.length_map]
          omega
        rw [e, cutV_pre, List.map_take]
      refine ⟨⟨_, rfl⟩, _, rfl, _, rfl, W, _, rfl, .inl (SqL.of hW5), _, _, rfl, rfl, _, rfl, W, _, rfl, SqL.of hW5, fun X nX => ?_⟩
      have gX := gT.put (o := .lst (cutV (ws.map V.str) none (some (((ws.map V.str).length : Int) - 1)))) nX
      refine ⟨_, rfl, (show 1 ≤ sizeLine by decide), fun U nU => ?_⟩
      have gU := gX.put (o := .lst (([rb] : List Str).map V.str)) nU
      refine ⟨X, U, _, _, rfl, rfl, (Grew.new gX.tab (o := .lst (([rb] : List Str).map V.str)) nU).lst gX.tab upd_same, upd_same, ?_, fun Y nY => ?_⟩
      · rw [et, List.length_map, List.length_take, sizeLine_eq]
        show _ + 1 ≤ _
        omega
      have gY := gU.put (o := .lst (cutV (ws.map V.str) none (some (((ws.map V.str).length : Int) - 1)) ++ [V.str rb])) nY
      have hb := brk_num (ews ▸ hw) c' pr' qr
      rw [← ews] at hb
      refine ⟨_, Y, ws.take (ws.length - 1) ++ [rb], rfl, rfl, .inl ?_, ?_, k _ _ (g34.trans gY) hb⟩
      · rw [List.map_append, ← et]
        exact SqL.of upd_same
      · refine lenj (fun x hx => ?_) ?_
        · rcases List.mem_append.mp hx with hx | hx
          · exact hpl x (List.mem_of_mem_take hx)
          · rw [List.mem_singleton.mp hx]; exact pr'
        · rw [List.length_append, List.length_take]
          show _ + 1 ≤ 4
          omega
    rintro σ H5 ⟨eσ, g5⟩
    rw [eσ, eS]
    have hW5 := g5.lst g4.tab hW4
    have g35 := g34.trans g5
    -- an s
    refine ⟨_, rfl, rfl, _, rfl, ?_⟩
    refine ite2 (fun _ => ?_) (fun _ => ?_)
    · have hb := brk_s (ews ▸ hw)
      rw [← ews] at hb
      have lw0 := (hpl w0 (by rw [ews]; exact List.mem_cons_self)).l
      have e1 : zs.length = 1 := by decide +kernel
      have lb := hb.line.l
      rw [PySem.Str.length_append, PySem.Str.length_append, e1] at lb
      refine ⟨_, rfl, W, _, 0, _, rfl, rfl, SqL.of hW5, at0, _, zs, rfl, rfl, by rw [e1, sizeLine_eq]; omega, _, rfl, _, rfl, W, _, 0, _, rfl, rfl, SqL.of hW5, at0, _, rfl, by rw [sizeLine_eq]; omega, _, rfl, _, rfl, by rw [sizeLine_eq]; omega, _, _, rfl, rfl, ?_, k _ _ g35 hb⟩
      rw [PySem.Str.length_append, e1, sizeLine_eq]
      omega
    refine ⟨_, rfl, _, zSp, rfl, rfl, ?_, k _ _ g35 ?_⟩
    · have e0 : zSp.length = 1 := by decide +kernel
      rw [e0, sizeLine_eq]
      omega
    · have hb := brk_more hw plain_E
      have e : zSp ++ zE = zSp := TL.ext_tl (by rw [TL.tl_append, tl_E, List.append_nil])
      rw [e] at hb
      exact hb
end
end W

set_option Elab.async false
set_option linter.all false
set_option maxRecDepth 100000
set_option maxHeartbeats 1000000
namespace W
open PySem PySem.Spec PyProof.Rows L2 GxR MyG
/-! ### texts with a line that cannot stand -/
def rowsL (B : List Str) : List (List Str) := B.map fun l => Txt.split l zSp
/-- lines of which the i-th is the first that cannot stand -/
structure BadOk (B : List Str) (i : Nat) : Prop where
  len : B.length ≤ 12
  ok : ∀ l ∈ B, LineOk l
  inb : i < B.length
  good : ∀ j, j < i → canStand (rowsL B) j = true
  bad : canStand (rowsL B) i = false
theorem sum_100 : ∀ {l : List Str}, (∀ x ∈ l, x.length ≤ 100) → (l.map (·.length)).sum ≤ 100 * l.length
  | [], _ => Nat.le_refl _
  | a :: l, h => by
    have h1 := h a List.mem_cons_self
    have h2 := sum_100 (l := l) fun x hx => h x (List.mem_cons_of_mem _ hx)
    simp only [List.map_cons, List.sum_cons, List.length_cons]
    omega
theorem BadOk.text {B : List Str} {i : Nat} (h : BadOk B i) : BadT (Txt.join zNl B) i := by
  have hi := h.inb
  have hn : B ≠ [] := fun e => by rw [e] at hi; exact absurd hi (Nat.not_lt_zero _)
  have es : Txt.split (Txt.join zNl B) zNl = B := TL.split_join (s := 10) (S := []) rfl (by decide +kernel) hn fun p hp => (h.ok p hp).n
  have hl := h.len
  refine ⟨B, es, ?_, by omega, fun l hl => by have := (h.ok l hl).l; omega, fun ws hw => ?_, hi, h.good, h.bad⟩
  · have e := size_glued zNl B
    have e0 : zNl.length = 1 := by decide +kernel
    have e2 : (Txt.join zNl B).length = (B.map (·.length)).sum + (B.length - 1) * zNl.length := e
    have e3 := sum_100 fun x hx => (h.ok x hx).l
    rw [e2, e0]
    omega
  · obtain ⟨l, hl, rfl⟩ := List.mem_map.mp hw
    exact (h.ok l hl).w
/-- whether a row can stand is told by it and the one ahead -/
theorem can_congr {r s : List (List Str)} {j : Nat} (h : ∀ k, k ≤ j → r.getD k [] = s.getD k []) : canStand r j = canStand s j := by
  unfold canStand
  rw [h j (Nat.le_refl j), h (j - 1) (Nat.sub_le _ _)]
theorem getD_take {r s : List (List Str)} {i j : Nat} (h : r.take i = s.take i) (hj : j < i) : r.getD j [] = s.getD j [] := by
  have e1 : (r.take i)[j]? = r[j]? := by rw [List.getElem?_take, if_pos hj]
  have e2 : (s.take i)[j]? = s[j]? := by rw [List.getElem?_take, if_pos hj]
  rw [List.getD_eq_getElem?_getD, List.getD_eq_getElem?_getD, ← e1, ← e2, h]
theorem line_plain {ro : Option (List Str × Nat)} {ls : List (Str × Nat)} (h : PapOk ro ls) : ∀ l ∈ linesP ro ls, ∃ ws, WRow ws ∧ l = Txt.join zSp ws := fun l hl => by
  unfold linesP at hl
  rcases List.mem_append.mp hl with hl | hl
  · cases ro with
    | none => exact ⟨_, .none, by rw [List.mem_singleton.mp hl]; rfl⟩
    | some p =>
      obtain ⟨h1, h2, h3⟩ := h.rn p rfl
      rcases List.mem_cons.mp hl with hl | hl
      · exact ⟨_, .arr h3, by rw [hl]; exact arrs_join p.2⟩
      · obtain ⟨x, hx, rfl⟩ := List.mem_map.mp hl
        exact ⟨_, .rb (h1 x hx), bys_join x⟩
  · obtain ⟨e, he, rfl⟩ := List.mem_map.mp hl
    obtain ⟨a, b⟩ := h.ln e he
    exact ⟨_, .low a b, lows_join e⟩
theorem lines_lineOk {ro : Option (List Str × Nat)} {ls : List (Str × Nat)} (h : PapOk ro ls) : ∀ l ∈ linesP ro ls, LineOk l := fun l hl => by
  obtain ⟨ws, hw, rfl⟩ := line_plain h l hl
  exact hw.line
/-- from a good beginning -/
theorem bad_from {ro : Option (List Str × Nat)} {ls : List (Str × Nat)} {B : List Str} {i : Nat} (h : PapOk ro ls) (hi : i ≤ (linesP ro ls).length) (ht : B.take i = (linesP ro ls).take i) (hl : B.length ≤ 12) (ok : ∀ l ∈ B, LineOk l) (hB : i < B.length) (bad : canStand (rowsL B) i = false) : BadOk B i := by
  refine ⟨hl, ok, hB, fun j hj => ?_, bad⟩
  have er : rowsL (linesP ro ls) = rowsP ro ls := rows_of_lines h
  have et : (rowsL B).take i = (rowsP ro ls).take i := by
    rw [← er]
    unfold rowsL
    rw [← List.map_take, ← List.map_take, ht]
  rw [can_congr fun k hk => getD_take et (by omega)]
  refine can_all h ?_
  have e := congrArg List.length er
  unfold rowsL at e
  rw [List.length_map] at e
  omega
theorem rows_at {B : List Str} {i : Nat} {l : Str} (h : B[i]? = some l) : (rowsL B).getD i [] = Txt.split l zSp := by
  unfold rowsL
  rw [List.getD_eq_getElem?_getD, List.getElem?_map, h]
  rfl
theorem lineOk_words (ws : List Str) (hn : ws ≠ []) (hl : ws.length ≤ 4) (h : ∀ w ∈ ws, PlainW w) (l : Str) (e : l = Txt.join zSp ws) : LineOk l ∧ Txt.split l zSp = ws := by
  subst e
  exact ⟨lineOk_join hn h hl, split_words hn h⟩
theorem plain_all {ws : List Str} (h : (ws.all fun w => !decide (32 ∈ TL.tl w) && !decide (10 ∈ TL.tl w) && PyData.strOk w && decide (w.length ≤ 20)) = true) : ∀ w ∈ ws, PlainW w := fun w hw => plain_lit w (List.all_eq_true.mp h w hw)
/-- a text behind the first line that cannot stand changes nothing -/
theorem BadOk.snoc {B : List Str} {i : Nat} (h : BadOk B i) {l : Str} (hl : LineOk l) (hb : B.length ≤ 11) : BadOk (B ++ [l]) i := by
  have hi := h.inb
  have eg : ∀ k, k ≤ i → (rowsL (B ++ [l])).getD k [] = (rowsL B).getD k [] := fun k hk => by
    unfold rowsL
    rw [List.map_append, List.getD_eq_getElem?_getD, List.getD_eq_getElem?_getD, List.getElem?_append_left (by rw [List.length_map]; omega)]
  refine ⟨by rw [List.length_append]; show _ + 1 ≤ 12; omega, fun x hx => ?_, by rw [List.length_append]; omega, fun j hj => ?_, ?_⟩
  · rcases List.mem_append.mp hx with hx | hx
    · exact h.ok x hx
    · rw [List.mem_singleton.mp hx]; exact hl
  · rw [can_congr fun k hk => eg k (by omega)]
    exact h.good j hj
  · rw [can_congr fun k hk => eg k hk]
    exact h.bad
/-- a broken line in the place of one -/
theorem bad_broken {ro : Option (List Str × Nat)} {ls : List (Str × Nat)} (h : PapOk ro ls) (hl : (linesP ro ls).length ≤ 8) {i : Nat} (hi : i < (linesP ro ls).length) {z : Str} (hz : Brk z) : BadOk ((linesP ro ls).take i ++ [z] ++ (linesP ro ls).drop (i + 1)) i := by
  have l1 : ((linesP ro ls).take i).length = i := by rw [List.length_take]; omega
  have at_ : ((linesP ro ls).take i ++ [z] ++ (linesP ro ls).drop (i + 1))[i]? = some z := by
    rw [List.append_assoc, List.getElem?_append_right (by omega), l1, Nat.sub_self]
    rfl
  refine bad_from h (Nat.le_of_lt hi) ?_ ?_ (fun l hl => ?_) ?_ ?_
  · rw [List.append_assoc, List.take_append_of_le_length (by omega), List.take_of_length_le (by omega)]
  · rw [List.length_append, List.length_append, l1, List.length_drop]
    show i + 1 + _ ≤ 12
    omega
  · rcases List.mem_append.mp hl with hl | hl
    · rcases List.mem_append.mp hl with hl | hl
      · exact lines_lineOk h l (List.mem_of_mem_take hl)
      · rw [List.mem_singleton.mp hl]; exact hz.line
    · exact lines_lineOk h l (List.mem_of_mem_drop hl)
  · rw [List.length_append, List.length_append, l1]
    show i < i + 1 + _
    omega
  · exact hz.dead _ _ (rows_at at_)
/-- a row that stands behind the first line nowhere -/
theorem dead_in {rss : List (List Str)} {i : Nat} {ws : List Str} (e : rss.getD i [] = ws) (hi : i ≠ 0) (h : (if ws.getD 0 Str.empty = zBy then decide (ws.length = 2) else decide (ws.length = 3)) = false) : canStand rss i = false := by
  unfold canStand
  rw [e]
  show (if i = 0 then _ else if ws.getD 0 Str.empty = zBy then _ && (decide (ws.length = 2) && _) else decide (ws.length = 3) && _) = false
  rw [if_neg hi]
  by_cases c : ws.getD 0 Str.empty = zBy
  · rw [if_pos c] at h ⊢
    rw [h, Bool.false_and, Bool.and_false]
  · rw [if_neg c] at h ⊢
    rw [h, Bool.false_and]
def inL : List Str := ["none", "arrives 7", "by", "low r"]
theorem in_ok {z : Str} (hz : z ∈ inL) : LineOk z ∧ ∀ (rss : List (List Str)) (i : Nat), i ≠ 0 → rss.getD i [] = Txt.split z zSp → canStand rss i = false := by
  have go : ∀ (ws : List Str) (hn : ws ≠ []) (hl : ws.length ≤ 4) (h : (ws.all fun w => !decide (32 ∈ TL.tl w) && !decide (10 ∈ TL.tl w) && PyData.strOk w && decide (w.length ≤ 20)) = true) (e : z = Txt.join zSp ws) (h2 : (if ws.getD 0 Str.empty = zBy then decide (ws.length = 2) else decide (ws.length = 3)) = false),
      LineOk z ∧ ∀ (rss : List (List Str)) (i : Nat), i ≠ 0 → rss.getD i [] = Txt.split z zSp → canStand rss i = false := fun ws hn hl h e h2 => by
    obtain ⟨a, b⟩ := lineOk_words ws hn hl (plain_all h) z e
    exact ⟨a, fun rss i hi q => dead_in (q.trans b) hi h2⟩
  unfold inL at hz
  simp only [List.mem_cons, List.not_mem_nil, or_false] at hz
  rcases hz with rfl | rfl | rfl | rfl
  · exact go ["none"] (by simp) (by simp) (by decide +kernel) (by decide +kernel) (by decide +kernel)
  · exact go ["arrives", "7"] (by simp) (by simp) (by decide +kernel) (by decide +kernel) (by decide +kernel)
  · exact go ["by"] (by simp) (by simp) (by decide +kernel) (by decide +kernel) (by decide +kernel)
  · exact go ["low", "r"] (by simp) (by simp) (by decide +kernel) (by decide +kernel) (by decide +kernel)
theorem bad_in {ro : Option (List Str × Nat)} {ls : List (Str × Nat)} (h : PapOk ro ls) (hl : (linesP ro ls).length ≤ 8) {i : Nat} (hi : i < (linesP ro ls).length) {z : Str} (hz : z ∈ inL) : BadOk ((linesP ro ls).take (i + 1) ++ [z] ++ (linesP ro ls).drop (i + 1)) (i + 1) := by
  have l1 : ((linesP ro ls).take (i + 1)).length = i + 1 := by rw [List.length_take]; omega
  obtain ⟨o1, o2⟩ := in_ok hz
  have at_ : ((linesP ro ls).take (i + 1) ++ [z] ++ (linesP ro ls).drop (i + 1))[i + 1]? = some z := by
    rw [List.append_assoc, List.getElem?_append_right (by omega), l1, Nat.sub_self]
    rfl
  refine bad_from h (by omega) ?_ ?_ (fun l hl => ?_) ?_ ?_
  · rw [List.append_assoc, List.take_append_of_le_length (by omega), List.take_of_length_le (by omega)]
  · rw [List.length_append, List.length_append, l1, List.length_drop]
    show i + 1 + 1 + _ ≤ 12
    omega
  · rcases List.mem_append.mp hl with hl | hl
    · rcases List.mem_append.mp hl with hl | hl
      · exact lines_lineOk h l (List.mem_of_mem_take hl)
      · rw [List.mem_singleton.mp hl]; exact o1
    · exact lines_lineOk h l (List.mem_of_mem_drop hl)
  · rw [List.length_append, List.length_append, l1]
    show i + 1 < i + 1 + 1 + _
    omega
  · exact o2 _ _ (by omega) (rows_at at_)
def zLr1 : Str := "low r 1"
def eR1 : Str × Nat := ("r", 1)
def zByr : Str := "by r"
theorem byr_ok : LineOk zByr ∧ Txt.split zByr zSp = [zBy, "r"] := lineOk_words [zBy, "r"] (by simp) (by simp) (plain_all (by decide +kernel)) zByr (by decide +kernel)
theorem dead_by {rss : List (List Str)} {i : Nat} (hi : i ≠ 0) (e : rss.getD i [] = [zBy, "r"]) (hp : (rss.getD (i - 1) []).getD 0 Str.empty ∉ [zArr, zBy]) : canStand rss i = false := by
  unfold canStand
  rw [e]
  show (if i = 0 then _ else if zBy = zBy then decide ((rss.getD (i - 1) []).getD 0 Str.empty ∈ [zArr, zBy]) && _ else _) = false
  rw [if_neg hi, if_pos rfl, decide_eq_false hp, Bool.false_and]
/-- a line by behind a line low -/
theorem bad_low {ro : Option (List Str × Nat)} {ls : List (Str × Nat)} (h : PapOk ro ls) (hl : (linesP ro ls).length ≤ 8) (h3 : ls.length ≤ 3) : BadOk (linesP ro ls ++ [zLr1, zByr]) ((linesP ro ls).length + 1) := by
  have h' : PapOk ro (ls ++ [eR1]) := ⟨h.rn, fun e he => by
    rcases List.mem_append.mp he with he | he
    · exact h.ln e he
    · rw [List.mem_singleton.mp he]
      exact ⟨by decide +kernel, by decide⟩, by rw [List.length_append]; show _ + 1 ≤ 10; omega⟩
  have ez : lowS eR1 = zLr1 := by decide +kernel
  have e1 : linesP ro (ls ++ [eR1]) = linesP ro ls ++ [zLr1] := by
    unfold linesP
    rw [List.map_append, ← List.append_assoc]
    show _ ++ [lowS eR1] = _
    rw [ez]
  have e2 : linesP ro ls ++ [zLr1, zByr] = linesP ro (ls ++ [eR1]) ++ [zByr] := by rw [e1, List.append_assoc]; rfl
  have l1 : (linesP ro (ls ++ [eR1])).length = (linesP ro ls).length + 1 := by rw [e1, List.length_append]; rfl
  rw [e2]
  have at1 : (linesP ro (ls ++ [eR1]) ++ [zByr])[(linesP ro ls).length + 1]? = some zByr := by
    rw [List.getElem?_append_right (by omega), l1, Nat.sub_self]
    rfl
  have at0 : (linesP ro (ls ++ [eR1]) ++ [zByr])[(linesP ro ls).length]? = some zLr1 := by
    rw [e1, List.append_assoc, List.getElem?_append_right (Nat.le_refl _), Nat.sub_self]
    rfl
  refine bad_from h' (by omega) ?_ ?_ (fun l hl => ?_) ?_ ?_
  · rw [List.take_append_of_le_length (by omega)]
  · rw [List.length_append, l1]
    show _ + 1 + 1 ≤ 12
    omega
  · rcases List.mem_append.mp hl with hl | hl
    · exact lines_lineOk h' l hl
    · rw [List.mem_singleton.mp hl]; exact byr_ok.1
  · rw [List.length_append, l1]
    show _ < _ + 1
    omega
  · refine dead_by (by omega) ((rows_at at1).trans byr_ok.2) ?_
    rw [Nat.add_sub_cancel, rows_at at0, show Txt.split zLr1 zSp = [zLow, "r", numS 1] by rw [← ez]; exact split_low (e := eR1) (by decide +kernel)]
    show zLow ∉ [zArr, zBy]
    decide +kernel
/-- a line by behind none -/
theorem bad_none {ro : Option (List Str × Nat)} {ls : List (Str × Nat)} (h : PapOk ro ls) (hl : (linesP ro ls).length ≤ 8) : BadOk ([zNone, zByr] ++ (linesP ro ls).drop 1) 1 := by
  have h' : PapOk none [] := ⟨fun p hp => (by cases hp), fun e he => (by cases he), Nat.zero_le _⟩
  refine bad_from h' (Nat.le_refl 1) rfl ?_ (fun l hl => ?_) ?_ ?_
  · rw [List.length_append, List.length_drop]
    show 2 + _ ≤ 12
    omega
  · rcases List.mem_append.mp hl with hl | hl
    · rcases List.mem_cons.mp hl with rfl | hl
      · exact lines_lineOk h' zNone (List.mem_singleton.mpr rfl)
      · rw [List.mem_singleton.mp hl]; exact byr_ok.1
    · exact lines_lineOk h l (List.mem_of_mem_drop hl)
  · rw [List.length_append]
    show 1 < 2 + _
    omega
  · refine dead_by (by decide) ((rows_at (l := zByr) rfl).trans byr_ok.2) ?_
    rw [show (1 : Nat) - 1 = 0 from rfl, rows_at (l := zNone) (i := 0) rfl, split_none]
    show zNone ∉ [zArr, zBy]
    decide +kernel
theorem bad_empty : BadT zE 0 := by
  have hE : LineOk zE := brk_empty.line
  have h : BadOk [zE] 0 := ⟨by simp, fun l hl => by rw [List.mem_singleton.mp hl]; exact hE, by simp, fun j hj => absurd hj (Nat.not_lt_zero _), brk_empty.dead _ _ (rows_at (l := zE) (i := 0) rfl)⟩
  exact h.text
def exL : List Str := ["", "by", "none"]
theorem ex_ok {z : Str} (hz : z ∈ exL) : LineOk z := by
  unfold exL at hz
  simp only [List.mem_cons, List.not_mem_nil, or_false] at hz
  rcases hz with rfl | rfl | rfl
  · exact (lineOk_words [""] (by simp) (by simp) (plain_all (by decide +kernel)) _ (by decide +kernel)).1
  · exact (lineOk_words ["by"] (by simp) (by simp) (plain_all (by decide +kernel)) _ (by decide +kernel)).1
  · exact (lineOk_words ["none"] (by simp) (by simp) (plain_all (by decide +kernel)) _ (by decide +kernel)).1
end W

set_option Elab.async false
set_option linter.all false
set_option maxRecDepth 100000
set_option maxHeartbeats 4000000
namespace W
open PySem PySem.Spec PyProof.Rows L2 GxR MyG MyR
abbrev sLaw : Stmt := top 68
def rLenK (K : PySem.W.Frag) : List V → Hp → VK → Prop := fun xs H Q => ∃ p ys, xs = [V.ref p] ∧ (SqL K H p ys ∨ SqT K H p ys) ∧ Q (V.int ys.length) H
def spLaw (K : PySem.W.Frag) (P Pn : Addr) : Sp := fun vs H Q _ => ∃ (a : Addr) (ns : List Int), vs = [.ref a] ∧ SqL K H a (ns.map V.int) ∧ ns.length ≤ 63 ∧ TabG H P ∧ TabG H Pn ∧ ∀ H', Q (.bl true) H'
/-- what goes on standing -/
structure LSt (P : Addr) (H H' : Hp) (N L : Addr) (ns : List Int) (ll : List Str) : Prop where
  g : Grew P H H'
  n : H' N = some (.lst (ns.map V.int))
  l : H' L = some (.lst (ll.map V.str))
theorem LSt.on {P : Addr} {H H1 H2 : Hp} {N L : Addr} {ns : List Int} {ll : List Str} (s : LSt P H H1 N L ns ll) (g : Grew P H1 H2) : LSt P H H2 N L ns ll := ⟨s.g.trans g, g.lst s.g.tab s.n, g.lst s.g.tab s.l⟩
/-- the bad lines and the number of the first -/
structure BSt (H : Hp) (B : Addr) (m : Nat) (due : Int) : Prop where
  ex : ∃ (Bs : List Str) (i : Nat), H B = some (.lst (Bs.map V.str)) ∧ BadOk Bs i ∧ due = (i : Int) + 1 ∧ Bs.length ≤ m
theorem BSt.on {P : Addr} {H1 H2 : Hp} {B : Addr} {m : Nat} {due : Int} (s : BSt H1 B m due) (g : Grew P H1 H2) (hP : TabG H1 P) : BSt H2 B m due := let ⟨Bs, i, a, b, c, d⟩ := s.ex; ⟨Bs, i, g.lst hP a, b, c, d⟩
theorem sum_lines {ll : List Str} (h : ∀ x ∈ ll, x.length ≤ 100) (hl : ll.length ≤ 12) : (ll.map (·.length)).sum + ll.length * zNl.length ≤ 16777216 := by
  have e0 : zNl.length = 1 := by decide +kernel
  have := sum_100 h
  rw [e0]
  omega
section
variable {Pg : Program} {w : World} {K : PySem.W.Frag} {mg : Str → Option Value} {base : Heap} {C P Pn : Addr}
abbrev nLaw : List Str := ["script", "numbers", "lines", "choice", "at", "number", "bad", "due", "checks"]
theorem scLaw : FnScope nLaw ["script"] (defScope sLaw) := ⟨rfl, rfl, rfl, by decide +kernel, rfl, by decide +kernel, by decide +kernel⟩
theorem room9 {q : Str} {sc : Scope} {n : Nat} {f : Addr} {cd : Value} : Room 9 (callerA.deeper (envOfC q sc n f cd)) := ⟨rfl, by show 1 + claimMargin + 1 + 3 * 9 + 5 < _; decide, by show 4 + 3 + 16 * 9 + 200 < _; decide⟩
theorem ok_law {f fNu fLl fLb fT : Addr} {fdNu fdLl fdLb fdT : FuncData} {dV kV doc pm cdv ct oc : Value} {an od : Option Addr} {osl : Array (Option Value)}
    (lk : K.lookup f = some ⟨oc, od, .func (PySem.W.fnOf "law" "law" (defArgs sLaw) (defBody sLaw) (defScope sLaw) dV kV doc pm an cdv ct), osl⟩) (hcd : PySem.W.codeIn K cdv "law" = true)
    (hb : ∀ (s : Shared) (u : Value), BindsTo s (PySem.W.fnOf "law" "law" (defArgs sLaw) (defBody sLaw) (defScope sLaw) dV kV doc pm an cdv ct) ⟨[u], []⟩ [("script", u)])
    (hi : mg "int" = none) (hl : mg "len" = none)
    (GNu : FnOk Pg w K mg base CX0 2 fNu fdNu ["script", "many"] (spNumbers K P)) (gNu : mg "_law_numbers" = some (.ref fNu)) (kNu : PySem.W.keepIn K (.ref fNu) = true) (bNu : Binds K fdNu ["script", "many"] [])
    (GLl : FnOk Pg w K mg base CX0 1 fLl fdLl ["numbers"] (spLLines K P)) (gLl : mg "_law_lines" = some (.ref fLl)) (kLl : PySem.W.keepIn K (.ref fLl) = true) (bLl : Binds K fdLl ["numbers"] [])
    (GLb : FnOk Pg w K mg base CX0 1 fLb fdLb ["line", "fault", "number"] (spLBroken K P)) (gLb : mg "_law_broken" = some (.ref fLb)) (kLb : PySem.W.keepIn K (.ref fLb) = true) (bLb : Binds K fdLb ["line", "fault", "number"] [])
    (GT : FnOk Pg w K mg base CX0 8 fT fdT ["text", "checks"] (spTold P Pn)) (gT : mg "_law_told" = some (.ref fT)) (kT : PySem.W.keepIn K (.ref fT) = true) (bT : Binds K fdT ["text", "checks"] []) :
    RunG Pg w K mg base (L2.CX Pg w) f (spLaw K P Pn) := by
  refine runG_of lk hcd scLaw hb ⟨rfl, by decide, by decide⟩ fun s H a Q E h => ?_
  obtain ⟨a1, zs, ea, hS, hz, hP, hPn, k⟩ := h
  cases ea
  have hr : Room 9 (callerA.deeper (envOfC "law" (defScope sLaw) s.heap.objs.size f cdv)) := room9
  refine ⟨_, (pss_cons (ps_set (i := 1) scLaw.nd rfl (Or.inl rfl) (pe_call GNu (hr.mono (by decide)) (by rfl) gNu kNu bNu .nil pass0 (pa_cons (pv 0) (pa_cons pe_int pa_nil))))
      (pss_cons (ps_set (i := 2) scLaw.nd rfl (Or.inl rfl) (pe_call GLl (hr.mono (by decide)) (by rfl) gLl kLl bLl .nil pass0 (pa_cons (pv 1) pa_nil)))
      (C8.pss_cut (ps_if (PW.pt (pw_or (pt_cmpR op_ne (pe_call GT (hr.mono (by decide)) (by rfl) gT kT bT .nil pass0 (pa_cons (pe_join pe_str (pv 2)) (pa_cons pe_bl pa_nil))) pe_int (nomark _)) (pw_or1 (pt_cmpR op_ne (pe_call GT (hr.mono (by decide)) (by rfl) gT kT bT .nil pass0 (pa_cons (pe_join pe_str (pv 2)) (pa_cons pe_bl pa_nil))) pe_int (nomark _))))) (pss_one (ps_ret pe_bl)) pss_nil)
      (pss_cons (ps_set (i := 3) scLaw.nd rfl (Or.inl rfl) (pe_op op_mod (pe_callTy (r := rInt1) call_int1 (by rfl) hi (by decide +kernel) (pa_cons (pe_ix (r := rIxL K) ix_list (pv 1) pe_int (fun _ _ => rfl)) pa_nil)) pe_int))
      (pss_cons (ps_set (i := 4) scLaw.nd rfl (Or.inl rfl) (pe_op op_mod (pe_callTy (r := rInt1) call_int1 (by rfl) hi (by decide +kernel) (pa_cons (pe_ix (r := rIxL K) ix_list (pv 1) pe_int (fun _ _ => rfl)) pa_nil)) (pe_callB (r := rLenK K) call_len_seq (by rfl) hl PySem.boot_len (pa_cons (pv 2) pa_nil))))
      (pss_cons (ps_set (i := 5) scLaw.nd rfl (Or.inl rfl) (pe_callTy (r := rInt1) call_int1 (by rfl) hi (by decide +kernel) (pa_cons (pe_ix (r := rIxL K) ix_list (pv 1) pe_int (fun _ _ => rfl)) pa_nil)))
      (C8.pss_cut (ps_set (i := 6) scLaw.nd rfl (Or.inl rfl) (pe_op op_cat (pe_op op_cat (pe_slice sl_list (pv 2) po_none (po_some (pv 4))) (pe_lst (pa_cons (pe_call GLb (hr.mono (by decide)) (by rfl) gLb kLb bLb .nil pass0 (pa_cons (pe_ix (r := rIxL K) ix_list (pv 2) (pv 4) (fun _ _ => rfl)) (pa_cons (pv 3) (pa_cons (pv 5) pa_nil)))) pa_nil))) (pe_slice sl_list (pv 2) (po_some (pe_op op_add (pv 4) pe_int)) po_none)))
      (pss_cons (ps_set (i := 7) scLaw.nd rfl (Or.inl rfl) (pe_op op_add (pv 4) pe_int))
      (C8.pss_cut (ps_if (pt_cmpR op_eq (pv 3) pe_int (nomark _)) (pss_cons (ps_set (i := 6) scLaw.nd rfl (Or.inl rfl) (pe_op op_cat (pv 2) (pe_lst (pa_cons pe_str (pa_cons pe_str pa_nil))))) (pss_one (ps_set (i := 7) scLaw.nd rfl (Or.inl rfl) (pe_op op_add (pe_callB (r := rLenK K) call_len_seq (by rfl) hl PySem.boot_len (pa_cons (pv 2) pa_nil)) pe_int)))) pss_nil)
      (C8.pss_cut (ps_if (pt_cmpR op_eq (pv 3) pe_int (nomark _)) (pss_cons (ps_set (i := 6) scLaw.nd rfl (Or.inl rfl) (pe_op op_cat (pe_lst (pa_cons pe_str (pa_cons pe_str pa_nil))) (pe_slice sl_list (pv 2) (po_some pe_int) po_none))) (pss_one (ps_set (i := 7) scLaw.nd rfl (Or.inl rfl) pe_int))) pss_nil)
      (C8.pss_cut (ps_if (pt_cmpR op_eq (pv 3) pe_int (nomark _)) (pss_cons (ps_set (i := 6) scLaw.nd rfl (Or.inl rfl) (pe_op op_cat (pe_op op_cat (pe_slice sl_list (pv 2) po_none (po_some (pe_op op_add (pv 4) pe_int))) (pe_lst (pa_cons (pe_ix (r := rIxL K) ix_list (pe_lst (pa_cons pe_str (pa_cons pe_str (pa_cons pe_str (pa_cons pe_str pa_nil))))) (pe_op op_mod (pv 5) pe_int) (fun _ _ => rfl)) pa_nil))) (pe_slice sl_list (pv 2) (po_some (pe_op op_add (pv 4) pe_int)) po_none))) (pss_one (ps_set (i := 7) scLaw.nd rfl (Or.inl rfl) (pe_op op_add (pv 4) pe_int)))) pss_nil)
      (C8.pss_cut (ps_if (pt_cmpR op_eq (pe_op op_mod (pe_callTy (r := rInt1) call_int1 (by rfl) hi (by decide +kernel) (pa_cons (pe_ix (r := rIxL K) ix_list (pv 1) pe_int (fun _ _ => rfl)) pa_nil)) pe_int) pe_int (nomark _)) (pss_one (ps_set (i := 6) scLaw.nd rfl (Or.inl rfl) (pe_op op_cat (pv 6) (pe_lst (pa_cons (pe_ix (r := rIxL K) ix_list (pe_lst (pa_cons pe_str (pa_cons pe_str (pa_cons pe_str pa_nil)))) (pe_op op_mod (pe_op op_fdiv (pe_callTy (r := rInt1) call_int1 (by rfl) hi (by decide +kernel) (pa_cons (pe_ix (r := rIxL K) ix_list (pv 1) pe_int (fun _ _ => rfl)) pa_nil)) pe_int) pe_int) (fun _ _ => rfl)) pa_nil))))) pss_nil)
      (C8.pss_cut (ps_for (passes_of rfl) rfl (pi_list (pe_lst (pa_cons pe_bl (pa_cons pe_bl pa_nil)))) (pg_name (i := 8) scLaw.nd rfl (Or.inl rfl)) (pss_one (ps_if (PW.pt (pw_or (pt_cmpR op_ne (pe_call GT (hr.mono (by decide)) (by rfl) gT kT bT .nil pass0 (pa_cons (pe_join pe_str (pv 6)) (pa_cons (pv 8) pa_nil))) (pv 7) (nomark _)) (pw_or1 (pt_cmpR op_ne (pe_call GT (hr.mono (by decide)) (by rfl) gT kT bT .nil pass0 (pa_cons pe_str (pa_cons (pv 8) pa_nil))) pe_int (nomark _))))) (pss_one (ps_ret pe_bl)) pss_nil)))
      (pss_one (ps_ret (pe_cmpR op_eq (pe_call GT (hr.mono (by decide)) (by rfl) gT kT bT .nil pass0 (pa_cons (pe_join pe_str (pv 2)) (pa_cons pe_bl pa_nil))) pe_int (nomark _))))))))))))))))), ?_⟩
  have rl : ∀ {ro : Option (List Str × Nat)} {ls : List (Str × Nat)}, PapOk ro ls → ls.length ≤ 3 → (linesP ro ls).length ≤ 21 := fun h _ => lines_count h
  refine ⟨_, rfl, a, zs, 30, rfl, hS, hz, by decide, hP, fun H1 N ns g1 nN hN hlen hsm => ?_⟩
  refine ⟨_, rfl, N, ns, rfl, SqL.of hN, hsm, hlen, g1.tab, fun H2 L ro ls g2 nL hL hok h3 hl8 => ?_⟩
  obtain ⟨ll, ell⟩ : ∃ ll, ll = linesP ro ls := ⟨_, rfl⟩
  have s2 : LSt P H H2 N L ns ll := ⟨g1.trans g2, g2.lst g1.tab hN, by rw [ell]; exact hL⟩
  have hln : ∀ x ∈ ll, x.length ≤ 100 := fun x hx => (lines_lineOk hok x (by rw [← ell]; exact hx)).l
  rw [← ell] at hl8
  have hpos : 1 ≤ ll.length := by
    rw [ell]
    have := lines_ne ro ls
    cases e : linesP ro ls with
    | nil => exact absurd e this
    | cons _ _ => simp
  have num := fun i h => num_at hlen hsm i h
  refine ⟨fun σ H' => σ = [some (.ref a), some (.ref N), some (.ref L), none, none, none, none, none, none] ∧ LSt P H H' N L ns ll, ?_, ?_⟩
  · refine ⟨⟨_, rfl⟩, _, rfl, _, L, ll, rfl, rfl, .inl (SqL.of s2.l), sum_lines hln (by omega), ?_⟩
    refine ⟨_, false, rfl, s2.g.tab, s2.g.tabs _ hPn, .inl ⟨ro, ls, by rw [ell]; rfl, hok, fun H3 g3 => ⟨rfl, _, rfl, ?_⟩⟩⟩
    have s3 := s2.on g3
    refine if_f (by decide) ?_
    refine ⟨⟨_, rfl⟩, _, rfl, _, L, ll, rfl, rfl, .inl (SqL.of s3.l), sum_lines hln (by omega), ?_⟩
    refine ⟨_, true, rfl, s3.g.tab, s3.g.tabs _ hPn, .inl ⟨ro, ls, by rw [ell]; rfl, hok, fun H4 g4 => ⟨rfl, _, rfl, ?_⟩⟩⟩
    exact if_f (by decide) ⟨rfl, s3.on g4⟩
  rintro σ H3 ⟨rfl, s3⟩
  obtain ⟨x22, e22, _, _⟩ := num 22 (by decide)
  refine ⟨_, rfl, N, _, 22, _, rfl, rfl, SqL.of s3.n, e22, .inl ⟨_, rfl, _, _, rfl, rfl, (show (0 : Int) < 13 by decide), ?_⟩⟩
  obtain ⟨ch, ech⟩ : ∃ ch, ch = x22 % 13 := ⟨_, rfl⟩
  dsimp only []
  rw [← ech]
  obtain ⟨x23, e23, a23, _⟩ := num 23 (by decide)
  have hpz : (0 : Int) < ((ll.map V.str).length : Int) := by rw [List.length_map]; omega
  refine ⟨_, rfl, N, _, 23, _, rfl, rfl, SqL.of s3.n, e23, .inl ⟨_, rfl, _, rfl, L, _, rfl, .inl (SqL.of s3.l), _, _, rfl, rfl, hpz, ?_⟩⟩
  obtain ⟨i, ei, hi⟩ : ∃ i : Nat, x23 % ((ll.map V.str).length : Int) = (i : Int) ∧ i < ll.length := by
    have b0 := Int.emod_nonneg x23 (show ((ll.map V.str).length : Int) ≠ 0 by omega)
    have b1 := Int.emod_lt_of_pos x23 hpz
    obtain ⟨i, ei⟩ := Int.eq_ofNat_of_zero_le b0
    refine ⟨i, ei, ?_⟩
    rw [ei, List.length_map] at b1
    omega
  dsimp only []
  rw [ei]
  obtain ⟨x24, e24, _, _⟩ := num 24 (by decide)
  refine ⟨_, rfl, N, _, 24, _, rfl, rfl, SqL.of s3.n, e24, .inl ⟨_, rfl, ?_⟩⟩
  have hill : ll[i]? = some ll[i] := List.getElem?_eq_getElem hi
  obtain ⟨ws, hws, ewl⟩ := line_plain hok ll[i] (by rw [← ell]; exact List.getElem_mem hi)
  have ati : atI (ll.map V.str) (i : Int) = some (.str (Txt.join zSp ws)) := atI_nat (by rw [List.getElem?_map, hill, ewl]; rfl)
  have c1 : cutV (ll.map V.str) none (some (i : Int)) = (ll.take i).map V.str := by rw [cutV_pre, List.map_take]
  have c2 : cutV (ll.map V.str) (some ((i : Int) + 1)) none = (ll.drop (i + 1)).map V.str := (cutV_suf (ll.map V.str) (i + 1)).trans (List.map_drop ..).symm
  have c3 : cutV (ll.map V.str) none (some ((i : Int) + 1)) = (ll.take (i + 1)).map V.str := (cutV_pre (ll.map V.str) (i + 1)).trans (List.map_take ..).symm
  have c4 : cutV (ll.map V.str) (some 1) none = (ll.drop 1).map V.str := (cutV_suf (ll.map V.str) 1).trans (List.map_drop ..).symm
  refine ⟨fun σ H' => ∃ (B : Addr), σ = [some (.ref a), some (.ref N), some (.ref L), some (.int ch), some (.int (i : Int)), some (.int x24), some (.ref B), none, none] ∧ LSt P H H' N L ns ll ∧ BSt H' B 11 ((i : Int) + 1), ?_, ?_⟩
  · refine ⟨_, rfl, _, rfl, _, rfl, L, _, rfl, SqL.of s3.l, fun T1 n1 => ?_⟩
    rw [c1]
    have gT1 := Grew.new s3.g.tab (o := .lst ((ll.take i).map V.str)) n1
    have s4 := s3.on gT1
    have hT1 : (L2.upd H3 T1 (.lst ((ll.take i).map V.str))) T1 = some (.lst ((ll.take i).map V.str)) := upd_same
    generalize L2.upd H3 T1 (.lst ((ll.take i).map V.str)) = H4 at s4 hT1 ⊢
    refine ⟨_, rfl, _, rfl, L, _, _, _, rfl, rfl, SqL.of s4.l, ati, _, rfl, _, rfl, ws, ch, x24, rfl, hws, s4.g.tab, fun H5 z g5 hz => ?_⟩
    have s5 := s4.on g5
    have hT1' := g5.lst s4.g.tab hT1
    refine ⟨(show 1 ≤ sizeLine by decide), fun T2 n2 => ?_⟩
    have gT2 := Grew.new s5.g.tab (o := .lst [V.str z]) n2
    have s6 := s5.on gT2
    have hT1'' := gT2.lst s5.g.tab hT1'
    have hT2 : (L2.upd H5 T2 (.lst [V.str z])) T2 = some (.lst [V.str z]) := upd_same
    generalize L2.upd H5 T2 (.lst [V.str z]) = H6 at s6 hT1'' hT2 ⊢
    refine ⟨T1, T2, _, _, rfl, rfl, hT1'', hT2, by rw [List.length_map, List.length_take, sizeLine_eq]; show _ + 1 ≤ _; omega, fun T3 n3 => ?_⟩
    have gT3 := Grew.new s6.g.tab (o := .lst ((ll.take i).map V.str ++ [V.str z])) n3
    have s7 := s6.on gT3
    have hT3 : (L2.upd H6 T3 (.lst ((ll.take i).map V.str ++ [V.str z]))) T3 = some (.lst ((ll.take i).map V.str ++ [V.str z])) := upd_same
    generalize L2.upd H6 T3 (.lst ((ll.take i).map V.str ++ [V.str z])) = H7 at s7 hT3 ⊢
    refine ⟨_, rfl, _, rfl, _, _, rfl, rfl, _, rfl, L, _, rfl, SqL.of s7.l, fun T4 n4 => ?_⟩
    rw [c2]
    have gT4 := Grew.new s7.g.tab (o := .lst ((ll.drop (i + 1)).map V.str)) n4
    have s8 := s7.on gT4
    have hT3' := gT4.lst s7.g.tab hT3
    refine ⟨T3, T4, _, _, rfl, rfl, hT3', upd_same, by rw [List.length_append, List.length_map, List.length_map, List.length_take, List.length_drop, sizeLine_eq]; show _ + 1 + _ ≤ _; omega, fun B nB => ?_⟩
    have gB := Grew.new s8.g.tab (o := .lst ((ll.take i).map V.str ++ [V.str z] ++ (ll.drop (i + 1)).map V.str)) nB
    refine ⟨B, rfl, s8.on gB, ⟨(ll.take i ++ [z]) ++ ll.drop (i + 1), i, ?_, ?_, rfl, ?_⟩⟩
    · rw [upd_same, List.map_append, List.map_append]
      rfl
    · rw [ell] at hi hl8 ⊢
      exact bad_broken hok hl8 hi hz
    · rw [List.length_append, List.length_append, List.length_take, List.length_drop]
      show _ + 1 + _ ≤ 11
      omega
  rintro σ H4 ⟨B, rfl, s4, b4⟩
  refine ⟨_, rfl, _, _, rfl, rfl, ?_⟩
  -- a low and a by
  refine ⟨fun σ H' => ∃ (B : Addr) (due : Int), σ = [some (.ref a), some (.ref N), some (.ref L), some (.int ch), some (.int (i : Int)), some (.int x24), some (.ref B), some (.int due), none] ∧ LSt P H H' N L ns ll ∧ BSt H' B 11 due, ?_, ?_⟩
  · refine ⟨_, rfl, rfl, _, rfl, ?_⟩
    refine ite2 (fun _ => ?_) (fun _ => ⟨B, _, rfl, s4, b4⟩)
    refine ⟨_, rfl, (show 2 ≤ sizeLine by decide), fun T nT => ?_⟩
    have gT := Grew.new s4.g.tab (o := .lst (([zLr1, zByr] : List Str).map V.str)) nT
    have s5 := s4.on gT
    have hT : (L2.upd H4 T (.lst (([zLr1, zByr] : List Str).map V.str))) T = some (.lst (([zLr1, zByr] : List Str).map V.str)) := upd_same
    have e1 : L2.upd H4 T (.lst [V.str (Str.ofString "low r 1"), V.str (Str.ofString "by r")]) = L2.upd H4 T (.lst (([zLr1, zByr] : List Str).map V.str)) := rfl
    rw [e1]
    generalize L2.upd H4 T (.lst (([zLr1, zByr] : List Str).map V.str)) = H5 at s5 hT ⊢
    refine ⟨L, T, _, _, rfl, rfl, s5.l, hT, by rw [List.length_map, sizeLine_eq]; show _ + 2 ≤ _; omega, fun B2 nB => ?_⟩
    have gB := Grew.new s5.g.tab (o := .lst (ll.map V.str ++ ([zLr1, zByr] : List Str).map V.str)) nB
    have s6 := s5.on gB
    have hB : (L2.upd H5 B2 (.lst (ll.map V.str ++ ([zLr1, zByr] : List Str).map V.str))) B2 = some (.lst ((ll ++ [zLr1, zByr]).map V.str)) := by rw [upd_same, List.map_append]
    generalize L2.upd H5 B2 (.lst (ll.map V.str ++ ([zLr1, zByr] : List Str).map V.str)) = H6 at s6 hB ⊢
    refine ⟨_, rfl, L, _, rfl, .inl (SqL.of s6.l), _, _, rfl, rfl, ?_⟩
    refine ⟨B2, _, rfl, s6, ⟨ll ++ [zLr1, zByr], ll.length + 1, hB, ?_, ?_, ?_⟩⟩
    · rw [ell] at hl8 ⊢
      exact bad_low hok hl8 h3
    · rw [List.length_map]
      omega
    · rw [List.length_append]
      show _ + 2 ≤ 11
      omega
  rintro σ H5 ⟨B1, due1, rfl, s5, b5⟩
  -- none and a by
  refine ⟨fun σ H' => ∃ (B : Addr) (due : Int), σ = [some (.ref a), some (.ref N), some (.ref L), some (.int ch), some (.int (i : Int)), some (.int x24), some (.ref B), some (.int due), none] ∧ LSt P H H' N L ns ll ∧ BSt H' B 11 due, ?_, ?_⟩
  · refine ⟨_, rfl, rfl, _, rfl, ?_⟩
    refine ite2 (fun _ => ?_) (fun _ => ⟨B1, _, rfl, s5, b5⟩)
    refine ⟨(show 2 ≤ sizeLine by decide), fun T nT => ?_⟩
    have gT := Grew.new s5.g.tab (o := .lst (([zNone, zByr] : List Str).map V.str)) nT
    have s6 := s5.on gT
    have hT : (L2.upd H5 T (.lst (([zNone, zByr] : List Str).map V.str))) T = some (.lst (([zNone, zByr] : List Str).map V.str)) := upd_same
    have e1 : L2.upd H5 T (.lst [V.str (Str.ofString "none"), V.str (Str.ofString "by r")]) = L2.upd H5 T (.lst (([zNone, zByr] : List Str).map V.str)) := rfl
    rw [e1]
    generalize L2.upd H5 T (.lst (([zNone, zByr] : List Str).map V.str)) = H6 at s6 hT ⊢
    refine ⟨_, rfl, _, rfl, L, _, rfl, SqL.of s6.l, fun T4 n4 => ?_⟩
    rw [c4]
    have g4 := Grew.new s6.g.tab (o := .lst ((ll.drop 1).map V.str)) n4
    have s7 := s6.on g4
    refine ⟨T, T4, _, _, rfl, rfl, g4.lst s6.g.tab hT, upd_same, by rw [List.length_map, List.length_map, List.length_drop, sizeLine_eq]; show 2 + _ ≤ _; omega, fun B2 nB => ?_⟩
    have gB := Grew.new s7.g.tab (o := .lst (([zNone, zByr] : List Str).map V.str ++ (ll.drop 1).map V.str)) nB
    refine ⟨B2, _, rfl, s7.on gB, ⟨[zNone, zByr] ++ ll.drop 1, 1, ?_, ?_, rfl, ?_⟩⟩
    · rw [upd_same, List.map_append]
    · rw [ell] at hl8 ⊢
      exact bad_none hok hl8
    · rw [List.length_append, List.length_drop]
      show 2 + _ ≤ 11
      omega
  rintro σ H6 ⟨B2, due2, rfl, s6, b6⟩
  -- a line within
  refine ⟨fun σ H' => ∃ (B : Addr) (due : Int), σ = [some (.ref a), some (.ref N), some (.ref L), some (.int ch), some (.int (i : Int)), some (.int x24), some (.ref B), some (.int due), none] ∧ LSt P H H' N L ns ll ∧ BSt H' B 11 due, ?_, ?_⟩
  · refine ⟨_, rfl, rfl, _, rfl, ?_⟩
    refine ite2 (fun _ => ?_) (fun _ => ⟨B2, _, rfl, s6, b6⟩)
    refine ⟨_, rfl, _, rfl, _, _, rfl, rfl, _, rfl, L, _, rfl, SqL.of s6.l, fun T1 n1 => ?_⟩
    rw [c3]
    have gT1 := Grew.new s6.g.tab (o := .lst ((ll.take (i + 1)).map V.str)) n1
    have s7 := s6.on gT1
    have hT1 : (L2.upd H6 T1 (.lst ((ll.take (i + 1)).map V.str))) T1 = some (.lst ((ll.take (i + 1)).map V.str)) := upd_same
    generalize L2.upd H6 T1 (.lst ((ll.take (i + 1)).map V.str)) = H7 at s7 hT1 ⊢
    refine ⟨(show 4 ≤ sizeLine by decide), fun T nT => ?_⟩
    have gT := Grew.new s7.g.tab (o := .lst (inL.map V.str)) nT
    have s8 := s7.on gT
    have hT1' := gT.lst s7.g.tab hT1
    have hT : (L2.upd H7 T (.lst (inL.map V.str))) T = some (.lst (inL.map V.str)) := upd_same
    have e1 : L2.upd H7 T (.lst [V.str (Str.ofString "none"), V.str (Str.ofString "arrives 7"), V.str (Str.ofString "by"), V.str (Str.ofString "low r")]) = L2.upd H7 T (.lst (inL.map V.str)) := rfl
    rw [e1]
    generalize L2.upd H7 T (.lst (inL.map V.str)) = H8 at s8 hT1' hT ⊢
    obtain ⟨z, ez, hz⟩ := lit_at inL x24 (m := 4) rfl (by decide)
    refine ⟨_, rfl, _, _, rfl, rfl, (show (0 : Int) < 4 by decide), T, _, _, _, rfl, rfl, SqL.of hT, ez, (show 1 ≤ sizeLine by decide), fun T2 n2 => ?_⟩
    have gT2 := Grew.new s8.g.tab (o := .lst [V.str z]) n2
    have s9 := s8.on gT2
    have hT1'' := gT2.lst s8.g.tab hT1'
    have hT2 : (L2.upd H8 T2 (.lst [V.str z])) T2 = some (.lst [V.str z]) := upd_same
    generalize L2.upd H8 T2 (.lst [V.str z]) = H9 at s9 hT1'' hT2 ⊢
    refine ⟨T1, T2, _, _, rfl, rfl, hT1'', hT2, by rw [List.length_map, List.length_take, sizeLine_eq]; show _ + 1 ≤ _; omega, fun T3 n3 => ?_⟩
    have gT3 := Grew.new s9.g.tab (o := .lst ((ll.take (i + 1)).map V.str ++ [V.str z])) n3
    have s10 := s9.on gT3
    have hT3 : (L2.upd H9 T3 (.lst ((ll.take (i + 1)).map V.str ++ [V.str z]))) T3 = some (.lst ((ll.take (i + 1)).map V.str ++ [V.str z])) := upd_same
    generalize L2.upd H9 T3 (.lst ((ll.take (i + 1)).map V.str ++ [V.str z])) = H10 at s10 hT3 ⊢
    refine ⟨_, rfl, _, rfl, _, _, rfl, rfl, _, rfl, L, _, rfl, SqL.of s10.l, fun T4 n4 => ?_⟩
    rw [c2]
    have gT4 := Grew.new s10.g.tab (o := .lst ((ll.drop (i + 1)).map V.str)) n4
    have s11 := s10.on gT4
    have hT3' := gT4.lst s10.g.tab hT3
    refine ⟨T3, T4, _, _, rfl, rfl, hT3', upd_same, by rw [List.length_append, List.length_map, List.length_map, List.length_take, List.length_drop, sizeLine_eq]; show _ + 1 + _ ≤ _; omega, fun B nB => ?_⟩
    have gB := Grew.new s11.g.tab (o := .lst ((ll.take (i + 1)).map V.str ++ [V.str z] ++ (ll.drop (i + 1)).map V.str)) nB
    refine ⟨_, rfl, _, _, rfl, rfl, ?_⟩
    refine ⟨B, _, rfl, s11.on gB, ⟨(ll.take (i + 1) ++ [z]) ++ ll.drop (i + 1), i + 1, ?_, ?_, ?_, ?_⟩⟩
    · rw [upd_same, List.map_append, List.map_append]
      rfl
    · rw [ell] at hi hl8 ⊢
      exact bad_in hok hl8 hi hz
    · omega
    · rw [List.length_append, List.length_append, List.length_take, List.length_drop]
      show _ + 1 + _ ≤ 11
      omega
  rintro σ H7 ⟨B3, due3, rfl, s7, b7⟩
  -- a second fault behind
  obtain ⟨x25, e25, a25, _⟩ := num 25 (by decide)
  refine ⟨fun σ H' => ∃ (B : Addr) (due : Int), σ = [some (.ref a), some (.ref N), some (.ref L), some (.int ch), some (.int (i : Int)), some (.int x24), some (.ref B), some (.int due), none] ∧ LSt P H H' N L ns ll ∧ BSt H' B 12 due, ?_, ?_⟩
  · refine ⟨_, rfl, N, _, 25, _, rfl, rfl, SqL.of s7.n, e25, .inl ⟨_, rfl, _, _, rfl, rfl, (show (0 : Int) < 3 by decide), rfl, _, rfl, ?_⟩⟩
    obtain ⟨Bs, j, hB, hbad, edue, lB⟩ := b7.ex
    refine ite2 (fun _ => ?_) (fun _ => ⟨B3, _, rfl, s7, ⟨Bs, j, hB, hbad, edue, by omega⟩⟩)
    refine ⟨_, rfl, (show 3 ≤ sizeLine by decide), fun T nT => ?_⟩
    have gT := Grew.new s7.g.tab (o := .lst (exL.map V.str)) nT
    have s8 := s7.on gT
    have hB8 := gT.lst s7.g.tab hB
    have hT : (L2.upd H7 T (.lst (exL.map V.str))) T = some (.lst (exL.map V.str)) := upd_same
    have e1 : L2.upd H7 T (.lst [V.str (Str.ofString ""), V.str (Str.ofString "by"), V.str (Str.ofString "none")]) = L2.upd H7 T (.lst (exL.map V.str)) := rfl
    rw [e1]
    generalize L2.upd H7 T (.lst (exL.map V.str)) = H8 at s8 hB8 hT ⊢
    obtain ⟨z, ez, hz⟩ := lit_at exL (x25 / 3) (m := 3) rfl (by decide)
    refine ⟨_, rfl, N, _, 25, _, rfl, rfl, SqL.of s8.n, e25, .inl ⟨_, rfl, _, _, rfl, rfl, ⟨by decide, by decide⟩, _, _, rfl, rfl, (show (0 : Int) < 3 by decide), T, _, _, _, rfl, rfl, SqL.of hT, ez, (show 1 ≤ sizeLine by decide), fun T2 n2 => ?_⟩⟩
    have gT2 := Grew.new s8.g.tab (o := .lst [V.str z]) n2
    have s9 := s8.on gT2
    refine ⟨B3, T2, _, _, rfl, rfl, gT2.lst s8.g.tab hB8, upd_same, by rw [List.length_map, sizeLine_eq]; show _ + 1 ≤ _; omega, fun B nB => ?_⟩
    have gB := Grew.new s9.g.tab (o := .lst (Bs.map V.str ++ [V.str z])) nB
    refine ⟨B, _, rfl, s9.on gB, ⟨Bs ++ [z], j, ?_, hbad.snoc (ex_ok hz) (by omega), edue, ?_⟩⟩
    · rw [upd_same, List.map_append]
      rfl
    · rw [List.length_append]
      show _ + 1 ≤ 12
      omega
  rintro σ H8 ⟨B4, due4, rfl, s8, b8⟩
  -- both ways to ask
  refine ⟨fun σ H' => ∃ cv, σ = [some (.ref a), some (.ref N), some (.ref L), some (.int ch), some (.int (i : Int)), some (.int x24), some (.ref B4), some (.int due4), cv] ∧ LSt P H H' N L ns ll, ?_, ?_⟩
  · refine ⟨(show 2 ≤ sizeLine by decide), fun T nT => ?_⟩
    have gT := Grew.new s8.g.tab (o := .lst [V.bl false, V.bl true]) nT
    have s9 := s8.on gT
    have b9 := b8.on gT s8.g.tab
    have hT : (L2.upd H8 T (.lst [V.bl false, V.bl true])) T = some (.lst [V.bl false, V.bl true]) := upd_same
    generalize L2.upd H8 T (.lst [V.bl false, V.bl true]) = H9 at s9 b9 hT ⊢
    refine ⟨T, rfl, ⟨_, SqL.of hT⟩, for_list (K := K) (a := T) (xs := [V.bl false, V.bl true]) (fun j σ H' => ∃ cv, σ = [some (.ref a), some (.ref N), some (.ref L), some (.int ch), some (.int (i : Int)), some (.int x24), some (.ref B4), some (.int due4), cv] ∧ LSt P H H' N L ns ll ∧ BSt H' B4 12 due4 ∧ H' T = some (.lst [V.bl false, V.bl true]))
      ⟨none, rfl, s9, b9, hT⟩ (fun j σ H' _ h => by obtain ⟨_, _, _, _, q⟩ := h; exact SqL.of q) ?_ ?_⟩
    · rintro j v σ H' hv ⟨cv, rfl, s, b, q⟩
      obtain ⟨c, rfl⟩ : ∃ c, v = V.bl c := by
        have hm := List.mem_of_getElem? hv
        simp only [List.mem_cons, List.not_mem_nil, or_false] at hm
        rcases hm with rfl | rfl
        · exact ⟨false, rfl⟩
        · exact ⟨true, rfl⟩
      obtain ⟨Bs, m, hB, hbad, edue, lB⟩ := b.ex
      refine ⟨⟨_, rfl⟩, _, rfl, _, B4, Bs, rfl, rfl, .inl (SqL.of hB), sum_lines (fun x hx => (hbad.ok x hx).l) hbad.len, _, rfl, ?_⟩
      refine ⟨_, c, rfl, s.g.tab, s.g.tabs _ hPn, .inr ⟨m, hbad.text, fun H10 g10 => ?_⟩⟩
      have s10 := s.on g10
      have b10 := b.on g10 s.g.tab
      have q10 := g10.lst s.g.tab q
      refine ⟨_, rfl, rfl, _, rfl, ?_⟩
      refine if_f (by rw [edue, decide_eq_true rfl]; rfl) ?_
      refine ⟨_, rfl, _, c, rfl, s10.g.tab, s10.g.tabs _ hPn, .inr ⟨0, bad_empty, fun H11 g11 => ?_⟩⟩
      refine ⟨rfl, _, rfl, ?_⟩
      exact if_f (by decide) ⟨_, rfl, s10.on g11, b10.on g11 s10.g.tab, g11.lst s10.g.tab q10⟩
    · rintro σ H' ⟨cv, rfl, s, _, _⟩
      exact ⟨cv, rfl, s⟩
  rintro σ H9 ⟨cv, rfl, s9⟩
  refine ⟨⟨_, rfl⟩, _, rfl, _, L, ll, rfl, rfl, .inl (SqL.of s9.l), sum_lines hln (by omega), ?_⟩
  refine ⟨_, false, rfl, s9.g.tab, s9.g.tabs _ hPn, .inl ⟨ro, ls, by rw [ell]; rfl, hok, fun H10 g10 => ⟨rfl, ?_⟩⟩⟩
  exact k _
end
end W

set_option Elab.async false
set_option linter.all false
set_option maxRecDepth 100000
set_option maxHeartbeats 2000000
namespace MyR
open PySem PySem.Spec PyProof.Rows L2
/-! ### the law's own call, where several defs hold a generator expression -/
section
variable {P : Program} {w : World} {K : PySem.W.Frag} {mg : Str → Option Value} {base : Heap}
def topL (K : PySem.W.Frag) (cs : List (Addr × Addr)) (a : Addr) (o : Obj) (xs : List V) : Hp := fun b => if b ∈ cs.map (·.2) then some (.tbl #[]) else if b = a ∧ K.lookup a = none then some (.frz o (.lst xs)) else none
theorem topL_cases {cs : List (Addr × Addr)} {a b : Addr} {o : Obj} {xs : List V} {u : HO} (h : topL K cs a o xs b = some u) : (b ∈ cs.map (·.2) ∧ u = .tbl #[]) ∨ (b ∉ cs.map (·.2) ∧ b = a ∧ K.lookup a = none ∧ u = .frz o (.lst xs)) := by
  unfold topL at h
  by_cases h1 : b ∈ cs.map (·.2)
  · rw [if_pos h1] at h
    exact .inl ⟨h1, (Option.some.inj h).symm⟩
  · rw [if_neg h1] at h
    by_cases h2 : b = a ∧ K.lookup a = none
    · rw [if_pos h2] at h
      exact .inr ⟨h1, h2.1, h2.2, (Option.some.inj h).symm⟩
    · rw [if_neg h2] at h
      cases h
theorem top_callL {mb : Str → Option Value} {CX : CXT} {f a : Addr} {cs : List (Addr × Addr)} {sp : Sp} {s : Shared} {vs : List Value} {ns : List Int} (KX : K.In s.heap) (G : s.heap.Ns mainGlobals mg) (B : s.heap.Ns builtinsNs mb) (hB : ∀ x : Str, x ≠ "__name__" → mb x = bootBuiltins x) (lim : s.heap.NoLimit) (ng : s.gens = #[])
    (hcs : ∀ p ∈ cs, s.heap.get? p.2 = some { cls := .none, data := .fields #[] } ∧ K.lookup p.2 = none ∧ PySem.W.CodeHd s.heap p.1 p.2)
    (hbm : ∃ (bm : Addr) (ob : Obj), mg "__builtins__" = some (.ref bm) ∧ bm ≠ builtinsNs ∧ s.heap.get? bm = some ob ∧ ob.cls = .type "module" ∧ ob.dict = some builtinsNs ∧ ob.data = .plain)
    (ea : s.heap.get? a = some { cls := .type "list", data := .seq vs.toArray }) (hi : IntsAre vs ns) (hl : ns.length ≤ sizeLine)
    (R : ∀ base : Heap, K.In base → base.Ns mainGlobals mg → (∀ p ∈ cs, LamX.TabB base mg p.1 p.2) → RunG P w K mg base CX f sp)
    (hsp : ∀ H : Hp, (∀ p ∈ cs, H p.2 = some (.tbl #[])) → SqL K H a (ns.map V.int) → sp [.ref a] H (fun v _ => v = .bl true) fun _ _ _ => False)
    (no : ∀ H e s', CX [] H s (fun _ _ _ => False) e s' → False) :
    codeAny (model P w) callerA (.call (.ref f) ⟨[.ref a], []⟩) (fun r s' => r = .ok (.ret (.bool true)) ∧ OldK s.heap s'.heap ∧ s'.os = s.os ∧ AllBare s'.gens) s := by
  have rv := vals_ints hi
  have mem : ∀ {b : Addr}, b ∈ cs.map (·.2) → ∃ c, (c, b) ∈ cs := fun {b} h => by
    obtain ⟨⟨c, b'⟩, hp, e⟩ := List.mem_map.mp h
    have e' : b' = b := e
    exact ⟨c, e' ▸ hp⟩
  have eT : ∀ {b : Addr}, b ∈ cs.map (·.2) → s.heap.get? b = some { cls := .none, data := .fields #[] } := fun h => let ⟨c, hp⟩ := mem h; (hcs _ hp).1
  have nT : ∀ {b : Addr}, b ∈ cs.map (·.2) → K.lookup b = none := fun h => let ⟨c, hp⟩ := mem h; (hcs _ hp).2.1
  have nz : a ∉ cs.map (·.2) := fun z => by
    rw [eT z] at ea
    cases ea
  obtain ⟨H, eH⟩ : ∃ H, H = topL K cs a { cls := .type "list", data := .seq vs.toArray } (ns.map V.int) := ⟨_, rfl⟩
  have tr : ∀ {b : Addr} {u : HO}, H b = some u → _ := fun {b u} h => topL_cases (by rw [eH] at h; exact h)
  have HT : ∀ p ∈ cs, H p.2 = some (.tbl #[]) := fun p hp => by
    rw [eH]
    exact if_pos (List.mem_map.mpr ⟨p, hp, rfl⟩)
  have hS : SqL K H a (ns.map V.int) := by
    cases q : K.lookup a with
    | none => exact .inl (.inr ⟨_, by rw [eH]; exact (if_neg nz).trans (if_pos ⟨rfl, q⟩)⟩)
    | some o =>
      have e := KX a o q
      rw [ea] at e
      cases e
      exact .inr ⟨_, vs.toArray, _, q, rfl, rfl, rfl, by rw [List.size_toArray, hi.length]; exact hl, by simpa using rv⟩
  have ok : HOk P w H s.heap := fun b u h => by
    rcases tr h with ⟨hb, rfl⟩ | ⟨_, rfl, _, rfl⟩
    · exact eT hb
    · exact ⟨ea, by rw [List.length_map]; exact hl, vs, _, rv, ea⟩
  have gone : ∀ {b : Addr} {o : Obj}, s.heap.get? b = some o → (∀ xs n, o.data ≠ .seq xs n) → o.data ≠ .fields #[] → H b = none := fun {b o} e d1 d2 => by
    cases h : H b with
    | none => rfl
    | some u =>
      rcases tr h with ⟨hb, _⟩ | ⟨_, rfl, _, _⟩
      · rw [eT hb] at e
        cases e
        exact (d2 rfl).elim
      · rw [ea] at e
        cases e
        exact (d1 _ _ rfl).elim
  have toB : ∀ {b : Addr} {m : Str → Option Value}, s.heap.Ns b m → (hidT s.heap H).Ns b m := fun {b m} ⟨o, es, ep, e, d, r⟩ =>
    ⟨o, es, ep, hidT_get e (gone e (fun xs n z => by rw [d] at z; cases z) (fun z => by rw [d] at z; cases z)), d, r⟩
  have KB : K.In (hidT s.heap H) := fun b o e => hidT_get (KX b o e) (by
    cases h : H b with
    | none => rfl
    | some u =>
      rcases tr h with ⟨hb, _⟩ | ⟨_, rfl, k, _⟩
      · rw [nT hb] at e; cases e
      · rw [k] at e; cases e)
  have TB : ∀ p ∈ cs, LamX.TabB (hidT s.heap H) mg p.1 p.2 := fun p hp => by
    obtain ⟨eT, nT, C⟩ := hcs p hp
    refine ⟨?_, ?_, fun z => ?_⟩
    · obtain ⟨o, us, file, tf, flags, tg, inF, text, tt, e1, r1, r2, r3, r⟩ := C
      exact ⟨o, us, file, tf, flags, tg, inF, text, tt, hidT_get e1 (gone e1 (fun xs n z => by rw [r2] at z; cases z) (fun z => by rw [r2] at z; cases z; simp at r3)), r1, r2, r3, r⟩
    · obtain ⟨bm, ob, b1, b2, b3, b4, b5, b6⟩ := hbm
      refine ⟨bm, ob, b1, b2, fun z => ?_, fun z => ?_, hidT_get b3 (gone b3 (fun xs n z => by rw [b6] at z; cases z) (fun z => by rw [b6] at z; cases z)), b4, b5, b6⟩
      · obtain ⟨o, es, ep, e, d, _⟩ := G
        rw [z, e] at b3
        cases b3
        rw [d] at b6
        cases b6
      · rw [z, eT] at b3
        cases b3
        cases b6
    · obtain ⟨o, es, ep, e, d, _⟩ := G
      rw [z, eT] at e
      cases e
      cases d
  have e0 : Env0 P w K mg (hidT s.heap H) callerA [] s H :=
    ⟨rfl, ⟨KB, toB G, ⟨mb, toB B, hB⟩, let ⟨mc, h1, h2⟩ := lim; ⟨mc, toB h1, h2⟩⟩, fun b o e => of_hidT e, Nat.le_of_eq (hidT_size _ _), trivial, fun b hb => absurd (show b ∈ ([] : List Addr) from hb) (by simp), ok, .of_eq ng⟩
  refine codeAny_mono (R _ KB (toB G) TB s H a _ _ e0 (hsp H HT hS)) fun r s' h => ?_
  match r, h with
  | .error e, h => exact (no H e s' h).elim
  | .ok .next, h => exact False.elim h
  | .ok .brk, h => exact False.elim h
  | .ok .cont, h => exact False.elim h
  | .ok (.ret u), ⟨v, H', os, bare, un, ok', r', q⟩ =>
    obtain rfl : v = .bl true := q
    obtain rfl : u = Value.bool true := r'
    have hm : ∀ p ∈ cs, ∃ more : Array Value, s'.heap.get? p.2 = some { cls := .none, data := .fields more } := fun p hp => by
      obtain ⟨more, z⟩ := un.tbls p.2 #[] (HT p hp)
      exact ⟨_, ok' p.2 _ z⟩
    have old : ∀ b o, b ∉ cs.map (·.2) → s.heap.get? b = some o → s'.heap.get? b = some o := fun b o ne e => by
      cases h : H b with
      | none => exact un.keep b o e h (fun z => absurd (show b ∈ ([] : List Addr) from z) (by simp)) (by simp)
      | some u =>
        rcases tr h with ⟨z, _⟩ | ⟨_, rfl, _, rfl⟩
        · exact absurd z ne
        · obtain ⟨e2, _⟩ := ok' b _ (un.frzs b _ _ h)
          rw [ea] at e
          cases e
          exact e2
    refine ⟨rfl, ⟨fun b o e => ?_, fun b o e => ?_⟩, os, bare⟩
    · by_cases hb : b ∈ cs.map (·.2)
      · obtain ⟨c, hp⟩ := mem hb
        obtain ⟨eT, _, C⟩ := hcs _ hp
        obtain ⟨more, hm⟩ := hm _ hp
        have eT' : s.heap.get? b = some { cls := .none, data := .fields #[] } := eT
        rw [eT'] at e
        cases e
        exact .inr (.inl ⟨(C.tab eT).isCodeTable, rfl, #[], more, rfl, by rw [Array.empty_append]; exact hm⟩)
      · exact .inl (old b o hb e)
    · by_cases hb : b ∈ cs.map (·.2)
      · obtain ⟨c, hp⟩ := mem hb
        obtain ⟨more, hm⟩ := hm _ hp
        exact ⟨_, hm⟩
      · exact ⟨o, old b o hb e⟩
end
/-- what the law's end asks: the tables of the code objects, and the promise sp -/
def LawL (l : PySem.W.OpenLaw) (w : World) (K : PySem.W.Frag) (CX : CXT) (n : Nat) (mg : Str → Option Value) (fa : Addr) (h : Heap) : Prop :=
  ∃ (cs : List (Addr × Addr)) (sp : Sp), (∀ p ∈ cs, h.get? p.2 = some { cls := .none, data := .fields #[] } ∧ K.lookup p.2 = none ∧ PySem.W.CodeHd h p.1 p.2) ∧
    (∀ (H : Hp) (a : Addr) (ns : List Int), ns.length ≤ n → (∀ p ∈ cs, H p.2 = some (.tbl #[])) → SqL K H a (ns.map V.int) → sp [.ref a] H (fun v _ => v = .bl true) fun _ _ _ => False) ∧
    ∀ base : Heap, K.In base → base.Ns mainGlobals mg → (∀ p ∈ cs, LamX.TabB base mg p.1 p.2) → RunG l.prog w K mg base CX fa sp
theorem walk_ofL {l : PySem.W.OpenLaw} {n : Nat} {q : Program} {loose : List Str} {XP : (Str → Option Value) → Heap → Prop} {YP : World → Heap → Prop} {d : DefRec} {K : Params → PySem.W.Frag} {CX : World → CXT} (names : List Str)
    (hn : l.most = some n) (hn2 : n ≤ sizeLine) (hdf : d.params.defaults = []) (hrec : names.all (fun y => (recsOf q).any fun e => e.name == y) = true) (hY : ∀ (w : World) (h : Heap), YP w h → (K w.params).In h)
    (F : ∀ (w : World) (mg : Str → Option Value) (fa : Addr) (h : Heap), YP w h → (K w.params).In h → h.Ns mainGlobals mg → mg d.name = some (.ref fa) → (∀ y ∈ names, ∀ f, mg y = some (.ref f) → LamX.OwnTab (K w.params) f h) → LawL l w (K w.params) (CX w) n mg fa h)
    (no : ∀ (w : World) (H : Hp) (s : Shared) (e : Value) (s' : Shared), CX w [] H s (fun _ _ _ => False) e s' → False) :
    PySem.W.WalkO q loose XP YP l.row.toRowW d [] (fun f vs => PySem.call f vs) := by
  refine Att.attach_callB hn hdf fun w s₀ s₁ mg mb fa o pm cd doc a vs ns G Y ho hd hcd hmg hobj hints hlen hbits hg => ?_
  have KX := hY w _ Y
  obtain ⟨cs, sp, hcs, hsp, R⟩ := F w mg fa _ Y KX G.T.g hmg (fun y hy f hf c P o1 fd1 e dd vs1 sl k1 k2 k3 k4 k5 => by
    obtain ⟨dL, hm, hn1⟩ := List.any_eq_true.mp (List.all_eq_true.mp hrec y hy)
    obtain ⟨a', o', fd', c', P', h1, h2, h3, h4, h5, h6⟩ := G.T.tab dL hm
    rw [beq_iff_eq.mp hn1, hf] at h1
    cases h1
    have g1 := KX _ _ k1
    rw [g1] at h2
    cases h2
    rw [k2] at h3
    cases h3
    rw [k3] at h4
    cases h4
    obtain ⟨⟨oc, vc, e1, _, e3, e4⟩, hP⟩ := h6
    have g2 := KX _ _ k4
    rw [g2] at e1
    cases e1
    cases e3
    rw [k5] at e4
    cases e4
    exact hP)
  exact top_callL KX G.T.g G.T.b G.T.builtins G.T.nolimit hg hcs G.T.bmain hobj hints (Nat.le_trans hlen hn2) R (fun H hH hS => hsp H a ns hlen hH hS) fun H e s' => no w H s₁ e s'
end MyR

set_option Elab.async false
set_option linter.all false
set_option maxRecDepth 100000
set_option maxHeartbeats 4000000
namespace W
open PySem PySem.Spec PyProof.Rows L2 GxR MyG MyS MyR
theorem exm_two {K : PySem.W.Frag} {A S : Addr} {b : Bool} (h1 : PySem.W.subIn K (.ref S) (.type "BaseException") = some true) (h2 : PySem.W.isClsIn K S = true) (h3 : PySem.W.typeIn K (.ref S) = some (.type "type")) (h4 : PySem.W.subIn K (.ref A) (.ref S) = some b) :
    PySem.W.exmOne K (.ref A) (.ref S) = some b := by
  have e1 : (PySem.W.subIn K (.ref S) (.type "BaseException") == some true) = true := by rw [h1]; rfl
  have e2 : ((PySem.W.clsIn K S).isSome && PySem.W.typeIn K (.ref S) == some (.type "type")) = true := by
    have q : (PySem.W.clsIn K S).isSome = true := h2
    rw [q, h3]; rfl
  show (if (PySem.W.subIn K (.ref S) (.type "BaseException") == some true) = true then (if ((PySem.W.clsIn K S).isSome && PySem.W.typeIn K (.ref S) == some (.type "type")) = true then PySem.W.subIn K (.ref A) (.ref S) else none) else none) = some b
  rw [if_pos e1, if_pos e2, h4]
theorem no_fly {P : Program} (w : World) (H : Hp) (s : Shared) (e : Value) (s' : Shared) (h : L2.CX P w [] H s (fun _ _ _ => False) e s') : False := by
  obtain ⟨_, _, _, _, _, _, _, _, _, _, _, _, q⟩ := h
  exact q
theorem all_mk {l : PySem.W.OpenLaw} {w : World} {K : PySem.W.Frag} {h : Heap} {mg : Str → Option Value} {fa fNm fDy fNa fDf fRs fRd fHr fBr fCn fCq fCc fRw fNu fRo fPp fCs fIm fCt fLo fLl fLk fLw fCi Pa fPj IN fI M U fXU cdaXU ccXU R fXR cdaXR ccXR B P qN qNr PNr fNr TDNr D0 T0 T1 T2 : Addr} (X : K.In h) (G : h.Ns mainGlobals mg) (hfa : mg "law" = some (.ref fa)) (own : ∀ y ∈ ([("is_name" : Str)] : List Str), ∀ f, mg y = some (.ref f) → LamX.OwnTab K f h)
    {odNm anNm : Option Addr} {slNm : Array (Option Value)} {ocNm kVNm dcNm pmNm ctNm : Value}
    {odDy anDy : Option Addr} {slDy : Array (Option Value)} {ocDy kVDy dcDy pmDy cdDy ctDy : Value}
    {odNa anNa : Option Addr} {slNa : Array (Option Value)} {ocNa kVNa dcNa pmNa cdNa ctNa : Value}
    {odDf anDf : Option Addr} {slDf : Array (Option Value)} {ocDf kVDf dcDf pmDf cdDf ctDf : Value}
    {odRs anRs : Option Addr} {slRs : Array (Option Value)} {ocRs kVRs dcRs pmRs cdRs ctRs : Value}
    {odRd anRd : Option Addr} {slRd : Array (Option Value)} {ocRd kVRd dcRd pmRd cdRd ctRd : Value}
    {odHr anHr : Option Addr} {slHr : Array (Option Value)} {ocHr kVHr dcHr pmHr cdHr ctHr : Value}
    {odBr anBr : Option Addr} {slBr : Array (Option Value)} {ocBr kVBr dcBr pmBr cdBr ctBr : Value}
    {odCn anCn : Option Addr} {slCn : Array (Option Value)} {ocCn kVCn dcCn pmCn cdCn ctCn : Value}
    {odCq anCq : Option Addr} {slCq : Array (Option Value)} {ocCq kVCq dcCq pmCq cdCq ctCq : Value}
    {odCc anCc : Option Addr} {slCc : Array (Option Value)} {ocCc kVCc dcCc pmCc cdCc ctCc : Value}
    {odRw anRw : Option Addr} {slRw : Array (Option Value)} {ocRw kVRw dcRw pmRw cdRw ctRw : Value}
    {odNu anNu : Option Addr} {slNu : Array (Option Value)} {ocNu kVNu dcNu pmNu cdNu ctNu : Value}
    {odRo anRo : Option Addr} {slRo : Array (Option Value)} {ocRo kVRo dcRo pmRo cdRo ctRo : Value}
    {odPp anPp : Option Addr} {slPp : Array (Option Value)} {ocPp kVPp dcPp pmPp cdPp ctPp : Value}
    {odCs anCs : Option Addr} {slCs : Array (Option Value)} {ocCs kVCs dcCs pmCs cdCs ctCs : Value}
    {odIm anIm : Option Addr} {slIm : Array (Option Value)} {ocIm kVIm dcIm pmIm cdIm ctIm : Value}
    {odCt anCt : Option Addr} {slCt : Array (Option Value)} {ocCt kVCt dcCt pmCt cdCt ctCt : Value}
    {odLo anLo : Option Addr} {slLo : Array (Option Value)} {ocLo kVLo dcLo pmLo cdLo ctLo : Value}
    {odLl anLl : Option Addr} {slLl : Array (Option Value)} {ocLl kVLl dcLl pmLl cdLl ctLl : Value}
    {odLk anLk : Option Addr} {slLk : Array (Option Value)} {ocLk kVLk dcLk pmLk cdLk ctLk : Value}
    {odLw anLw : Option Addr} {slLw : Array (Option Value)} {ocLw kVLw dcLw pmLw cdLw ctLw : Value}
    {odCi anCi : Option Addr} {slCi : Array (Option Value)} {ocCi kVCi dcCi pmCi cdCi ctCi : Value}
    {eN : Value} {dN : Option Addr} {vsN : Array Value} {slcN : Array (Option Value)}
    {odNr anNr odTNr : Option Addr} {slNr slTNr : Array (Option Value)} {ocNr kVNr dcNr pmNr ctNr ocTNr : Value} {nTNr : Nat} {t6Nr : Tok}
    {eNr : Value} {dNr : Option Addr} {vsNr : Array Value} {slcNr : Array (Option Value)}
    {odI anI : Option Addr} {slI : Array (Option Value)} {ocI dcI pmI cdI ctI : Value}
    {nmU qU : Str} {NU : Addr} {bsU bmU : List Value} {snU : List Str} {subU : List Value} {abU : Bool} {colU : Option Bool} {ddU : Option Addr} {x0U x1U x2U x3U x5U : Option Value}
    {odXU anXU cddXU cldXU : Option Addr} {slXU ccsXU cslXU : Array (Option Value)} {ocXU kVXU dcXU pmXU ctXU cclXU clXU : Value} {vsXU : Array Value} {fileXU : Str} {tfXU : Tok}
    {nmR qR : Str} {NR : Addr} {bsR bmR : List Value} {snR : List Str} {subR : List Value} {abR : Bool} {colR : Option Bool} {ddR : Option Addr} {x0R x1R x2R x3R x5R : Option Value}
    {odXR anXR cddXR cldXR : Option Addr} {slXR ccsXR cslXR : Array (Option Value)} {ocXR kVXR dcXR pmXR ctXR cclXR clXR : Value} {vsXR : Array Value} {fileXR : Str} {tfXR : Tok}
    {odPj anPj : Option Addr} {slPj : Array (Option Value)} {ocPj kVPj dcPj pmPj cdPj ctPj : Value}
    {odZ odZ2 : Option Addr} {nZ nZ2 : Nat} {slZ slZ2 : Array (Option Value)}
    {t_LONGEST_NAME t_LONGEST_DAY t_MOST_PLACES t_MOST_KINDS t_MOST_ROADS t_MOST_MINUTES t_MOST_PAIRS t_MOST_BARS t_NAME t_START t_END t_PARTS t_LONGEST_NUMBER_texts t_LETTERS t_DIGITS : Tok}
    (aM : PySem.W.nsIn K mainGlobals "Map" = some (some (.ref M)))
    (gU : PySem.W.nsIn K mainGlobals "UnknownName" = some (some (.ref U)))
    (gR : PySem.W.nsIn K mainGlobals "InvalidPaper" = some (some (.ref R)))
    (gB : PySem.W.nsIn K mainGlobals "WaypapersError" = some (some (.ref B)))
    (aNm : PySem.W.nsIn K mainGlobals "is_name" = some (some (.ref fNm)))
    (lNm : K.lookup fNm = some ⟨ocNm, odNm, .func (PySem.W.fnOf "is_name" "is_name" (defArgs sIsName) (defBody sIsName) (defScope sIsName) .none kVNm dcNm pmNm anNm (.ref qN) ctNm), slNm⟩)
    (cNm : PySem.W.codeIn K (.ref qN) "is_name" = true)
    (kNm : PySem.W.keepIn K (.ref fNm) = true)
    (aDy : PySem.W.nsIn K mainGlobals "_checked_day" = some (some (.ref fDy)))
    (lDy : K.lookup fDy = some ⟨ocDy, odDy, .func (PySem.W.fnOf "_checked_day" "_checked_day" (defArgs sDay) (defBody sDay) (defScope sDay) .none kVDy dcDy pmDy anDy (cdDy) ctDy), slDy⟩)
    (cDy : PySem.W.codeIn K (cdDy) "_checked_day" = true)
    (kDy : PySem.W.keepIn K (.ref fDy) = true)
    (aNa : PySem.W.nsIn K mainGlobals "_checked_names" = some (some (.ref fNa)))
    (lNa : K.lookup fNa = some ⟨ocNa, odNa, .func (PySem.W.fnOf "_checked_names" "_checked_names" (defArgs sNames) (defBody sNames) (defScope sNames) .none kVNa dcNa pmNa anNa (cdNa) ctNa), slNa⟩)
    (cNa : PySem.W.codeIn K (cdNa) "_checked_names" = true)
    (kNa : PySem.W.keepIn K (.ref fNa) = true)
    (aDf : PySem.W.nsIn K mainGlobals "_check_different" = some (some (.ref fDf)))
    (lDf : K.lookup fDf = some ⟨ocDf, odDf, .func (PySem.W.fnOf "_check_different" "_check_different" (defArgs sDiff) (defBody sDiff) (defScope sDiff) .none kVDf dcDf pmDf anDf (cdDf) ctDf), slDf⟩)
    (cDf : PySem.W.codeIn K (cdDf) "_check_different" = true)
    (kDf : PySem.W.keepIn K (.ref fDf) = true)
    (aRs : PySem.W.nsIn K mainGlobals "_checked_roads" = some (some (.ref fRs)))
    (lRs : K.lookup fRs = some ⟨ocRs, odRs, .func (PySem.W.fnOf "_checked_roads" "_checked_roads" (defArgs sRoads) (defBody sRoads) (defScope sRoads) .none kVRs dcRs pmRs anRs (cdRs) ctRs), slRs⟩)
    (cRs : PySem.W.codeIn K (cdRs) "_checked_roads" = true)
    (kRs : PySem.W.keepIn K (.ref fRs) = true)
    (aRd : PySem.W.nsIn K mainGlobals "_checked_road" = some (some (.ref fRd)))
    (lRd : K.lookup fRd = some ⟨ocRd, odRd, .func (PySem.W.fnOf "_checked_road" "_checked_road" (defArgs sRoad) (defBody sRoad) (defScope sRoad) .none kVRd dcRd pmRd anRd (cdRd) ctRd), slRd⟩)
    (cRd : PySem.W.codeIn K (cdRd) "_checked_road" = true)
    (kRd : PySem.W.keepIn K (.ref fRd) = true)
    (aHr : PySem.W.nsIn K mainGlobals "_checked_hours" = some (some (.ref fHr)))
    (lHr : K.lookup fHr = some ⟨ocHr, odHr, .func (PySem.W.fnOf "_checked_hours" "_checked_hours" (defArgs sHours) (defBody sHours) (defScope sHours) .none kVHr dcHr pmHr anHr (cdHr) ctHr), slHr⟩)
    (cHr : PySem.W.codeIn K (cdHr) "_checked_hours" = true)
    (kHr : PySem.W.keepIn K (.ref fHr) = true)
    (aBr : PySem.W.nsIn K mainGlobals "_checked_bars" = some (some (.ref fBr)))
    (lBr : K.lookup fBr = some ⟨ocBr, odBr, .func (PySem.W.fnOf "_checked_bars" "_checked_bars" (defArgs sBars) (defBody sBars) (defScope sBars) .none kVBr dcBr pmBr anBr (cdBr) ctBr), slBr⟩)
    (cBr : PySem.W.codeIn K (cdBr) "_checked_bars" = true)
    (kBr : PySem.W.keepIn K (.ref fBr) = true)
    (aCn : PySem.W.nsIn K mainGlobals "check_names" = some (some (.ref fCn)))
    (lCn : K.lookup fCn = some ⟨ocCn, odCn, .func (PySem.W.fnOf "check_names" "check_names" (defArgs sNamesC) (defBody sNamesC) (defScope sNamesC) .none kVCn dcCn pmCn anCn (cdCn) ctCn), slCn⟩)
    (cCn : PySem.W.codeIn K (cdCn) "check_names" = true)
    (kCn : PySem.W.keepIn K (.ref fCn) = true)
    (aCq : PySem.W.nsIn K mainGlobals "check_paper" = some (some (.ref fCq)))
    (lCq : K.lookup fCq = some ⟨ocCq, odCq, .func (PySem.W.fnOf "check_paper" "check_paper" (defArgs sCkPaper) (defBody sCkPaper) (defScope sCkPaper) .none kVCq dcCq pmCq anCq (cdCq) ctCq), slCq⟩)
    (cCq : PySem.W.codeIn K (cdCq) "check_paper" = true)
    (kCq : PySem.W.keepIn K (.ref fCq) = true)
    (aCc : PySem.W.nsIn K mainGlobals "_check_paper_names" = some (some (.ref fCc)))
    (lCc : K.lookup fCc = some ⟨ocCc, odCc, .func (PySem.W.fnOf "_check_paper_names" "_check_paper_names" (defArgs sCpn) (defBody sCpn) (defScope sCpn) .none kVCc dcCc pmCc anCc (cdCc) ctCc), slCc⟩)
    (cCc : PySem.W.codeIn K (cdCc) "_check_paper_names" = true)
    (kCc : PySem.W.keepIn K (.ref fCc) = true)
    (aRw : PySem.W.nsIn K mainGlobals "_law_row" = some (some (.ref fRw)))
    (lRw : K.lookup fRw = some ⟨ocRw, odRw, .func (PySem.W.fnOf "_law_row" "_law_row" (defArgs sRow) (defBody sRow) (defScope sRow) .none kVRw dcRw pmRw anRw (cdRw) ctRw), slRw⟩)
    (cRw : PySem.W.codeIn K (cdRw) "_law_row" = true)
    (kRw : PySem.W.keepIn K (.ref fRw) = true)
    (aNu : PySem.W.nsIn K mainGlobals "_law_numbers" = some (some (.ref fNu)))
    (lNu : K.lookup fNu = some ⟨ocNu, odNu, .func (PySem.W.fnOf "_law_numbers" "_law_numbers" (defArgs sNumbers) (defBody sNumbers) (defScope sNumbers) .none kVNu dcNu pmNu anNu (cdNu) ctNu), slNu⟩)
    (cNu : PySem.W.codeIn K (cdNu) "_law_numbers" = true)
    (kNu : PySem.W.keepIn K (.ref fNu) = true)
    (aRo : PySem.W.nsIn K mainGlobals "rows_of" = some (some (.ref fRo)))
    (lRo : K.lookup fRo = some ⟨ocRo, odRo, .func (PySem.W.fnOf "rows_of" "rows_of" (defArgs sRowsT) (defBody sRowsT) (defScope sRowsT) .none kVRo dcRo pmRo anRo (cdRo) ctRo), slRo⟩)
    (cRo : PySem.W.codeIn K (cdRo) "rows_of" = true)
    (kRo : PySem.W.keepIn K (.ref fRo) = true)
    (aPp : PySem.W.nsIn K mainGlobals "parse_paper" = some (some (.ref fPp)))
    (lPp : K.lookup fPp = some ⟨ocPp, odPp, .func (PySem.W.fnOf "parse_paper" "parse_paper" (defArgs sParse) (defBody sParse) (defScope sParse) .none kVPp dcPp pmPp anPp (cdPp) ctPp), slPp⟩)
    (cPp : PySem.W.codeIn K (cdPp) "parse_paper" = true)
    (kPp : PySem.W.keepIn K (.ref fPp) = true)
    (aCs : PySem.W.nsIn K mainGlobals "_can_stand" = some (some (.ref fCs)))
    (lCs : K.lookup fCs = some ⟨ocCs, odCs, .func (PySem.W.fnOf "_can_stand" "_can_stand" (defArgs sCan) (defBody sCan) (defScope sCan) .none kVCs dcCs pmCs anCs (cdCs) ctCs), slCs⟩)
    (cCs : PySem.W.codeIn K (cdCs) "_can_stand" = true)
    (kCs : PySem.W.keepIn K (.ref fCs) = true)
    (aIm : PySem.W.nsIn K mainGlobals "_is_moment" = some (some (.ref fIm)))
    (lIm : K.lookup fIm = some ⟨ocIm, odIm, .func (PySem.W.fnOf "_is_moment" "_is_moment" (defArgs sMom) (defBody sMom) (defScope sMom) .none kVIm dcIm pmIm anIm (cdIm) ctIm), slIm⟩)
    (cIm : PySem.W.codeIn K (cdIm) "_is_moment" = true)
    (kIm : PySem.W.keepIn K (.ref fIm) = true)
    (aCt : PySem.W.nsIn K mainGlobals "check_text" = some (some (.ref fCt)))
    (lCt : K.lookup fCt = some ⟨ocCt, odCt, .func (PySem.W.fnOf "check_text" "check_text" (defArgs sCkText) (defBody sCkText) (defScope sCkText) .none kVCt dcCt pmCt anCt (cdCt) ctCt), slCt⟩)
    (cCt : PySem.W.codeIn K (cdCt) "check_text" = true)
    (kCt : PySem.W.keepIn K (.ref fCt) = true)
    (aLo : PySem.W.nsIn K mainGlobals "_law_told" = some (some (.ref fLo)))
    (lLo : K.lookup fLo = some ⟨ocLo, odLo, .func (PySem.W.fnOf "_law_told" "_law_told" (defArgs sLTold) (defBody sLTold) (defScope sLTold) .none kVLo dcLo pmLo anLo (cdLo) ctLo), slLo⟩)
    (cLo : PySem.W.codeIn K (cdLo) "_law_told" = true)
    (kLo : PySem.W.keepIn K (.ref fLo) = true)
    (aLl : PySem.W.nsIn K mainGlobals "_law_lines" = some (some (.ref fLl)))
    (lLl : K.lookup fLl = some ⟨ocLl, odLl, .func (PySem.W.fnOf "_law_lines" "_law_lines" (defArgs sLLines) (defBody sLLines) (defScope sLLines) .none kVLl dcLl pmLl anLl (cdLl) ctLl), slLl⟩)
    (cLl : PySem.W.codeIn K (cdLl) "_law_lines" = true)
    (kLl : PySem.W.keepIn K (.ref fLl) = true)
    (aLk : PySem.W.nsIn K mainGlobals "_law_broken" = some (some (.ref fLk)))
    (lLk : K.lookup fLk = some ⟨ocLk, odLk, .func (PySem.W.fnOf "_law_broken" "_law_broken" (defArgs sLBroken) (defBody sLBroken) (defScope sLBroken) .none kVLk dcLk pmLk anLk (cdLk) ctLk), slLk⟩)
    (cLk : PySem.W.codeIn K (cdLk) "_law_broken" = true)
    (kLk : PySem.W.keepIn K (.ref fLk) = true)
    (aLw : PySem.W.nsIn K mainGlobals "law" = some (some (.ref fLw)))
    (lLw : K.lookup fLw = some ⟨ocLw, odLw, .func (PySem.W.fnOf "law" "law" (defArgs sLaw) (defBody sLaw) (defScope sLaw) .none kVLw dcLw pmLw anLw (cdLw) ctLw), slLw⟩)
    (cLw : PySem.W.codeIn K (cdLw) "law" = true)
    (kLw : PySem.W.keepIn K (.ref fLw) = true)
    (aCi : PySem.W.findIn K (.ref M) "check_kind" = some (some (.ref fCi)))
    (iCi : PySem.W.isFn K (.ref fCi) = true)
    (lCi : K.lookup fCi = some ⟨ocCi, odCi, .func (PySem.W.fnOf "check_kind" "Map.check_kind" (defArgs sCheckK) (defBody sCheckK) (defScope sCheckK) .none kVCi dcCi pmCi anCi (cdCi) ctCi), slCi⟩)
    (cCi : PySem.W.codeIn K (cdCi) "Map.check_kind" = true)
    (kCi : PySem.W.keepIn K (.ref fCi) = true)
    (lcN : K.lookup qN = some ⟨eN, dN, .fields vsN, slcN⟩)
    (v11 : vsN[11]? = some (.ref P))
    (hcN : PySem.W.codeHdIn K qN P = true)
    (nP : K.lookup P = none)
    (tabPNr : h.get? PNr = some { cls := .none, data := .fields #[] })
    (aNr : PySem.W.nsIn K mainGlobals "is_number" = some (some (.ref fNr)))
    (lNr : K.lookup fNr = some ⟨ocNr, odNr, .func (PySem.W.fnOf "is_number" "is_number" (defArgs sIsNr) (defBody sIsNr) (defScope sIsNr) (.ref TDNr) kVNr dcNr pmNr anNr (.ref qNr) ctNr), slNr⟩)
    (cNr : PySem.W.codeIn K (.ref qNr) "is_number" = true)
    (kNr : PySem.W.keepIn K (.ref fNr) = true)
    (lTNr : K.lookup TDNr = some ⟨ocTNr, odTNr, .seq #[.int 6 t6Nr] nTNr, slTNr⟩)
    (lcNr : K.lookup qNr = some ⟨eNr, dNr, .fields vsNr, slcNr⟩)
    (v11Nr : vsNr[11]? = some (.ref PNr))
    (hcNr : PySem.W.codeHdIn K qNr PNr = true)
    (nPNr : K.lookup PNr = none)
    (aI : PySem.W.findIn K (.ref M) "__init__" = some (some (.ref fI)))
    (iI : PySem.W.isFn K (.ref fI) = true)
    (lI : K.lookup fI = some ⟨ocI, odI, .func (PySem.W.fnOf "__init__" "Map.__init__" (defArgs sInit) (defBody sInit) (defScope sInit) .none (.ref D0) dcI pmI anI cdI ctI), slI⟩)
    (cI : PySem.W.codeIn K cdI "Map.__init__" = true)
    (kI : PySem.W.keepIn K (.ref fI) = true)
    (d_places : PySem.W.nsIn K D0 "places" = some (some (.ref T1)))
    (d_roads : PySem.W.nsIn K D0 "roads" = some (some (.ref T2)))
    (d_bars : PySem.W.nsIn K D0 "bars" = some (some (.ref T0)))
    (pg : PySem.W.plainGet K M Str.empty = true)
    (hd : PySem.W.hasDictIn K M = true)
    (po : PySem.W.plainOver K M = true)
    (sa : PySem.W.findIn K (.ref M) "__setattr__" = some (some (.builtin "object.__setattr__")))
    (mk : PySem.W.makesIn K M = true)
    (kM : PySem.W.keepIn K (.ref M) = true)
    (n_day : PySem.W.findIn K (.ref M) "day" = some none)
    (n_kinds : PySem.W.findIn K (.ref M) "kinds" = some none)
    (n_places : PySem.W.findIn K (.ref M) "places" = some none)
    (n_roads : PySem.W.findIn K (.ref M) "roads" = some none)
    (n__roads_by_name : PySem.W.findIn K (.ref M) "_roads_by_name" = some none)
    (n_bars : PySem.W.findIn K (.ref M) "bars" = some none)
    (n__barred : PySem.W.findIn K (.ref M) "_barred" = some none)
    (snU1 : PySem.W.specialIn K (.builtin "object.__class__") "__get__" = some (some (.builtin "getset_descriptor.__get__")))
    (tkU : PySem.W.takesIn K (.builtin "object.__class__") = some true)
    (opU : PySem.W.nsIn K cStatics "thirdparty.any" = some none)
    (toX : (l.prog.main.scope.names.lookup ("super" : Str)).isSome = false)
    (lU : K.lookup U = some (excClassObj nmU qU U NU bsU bmU true snU subU abU colU ddU x0U x1U x2U x3U x5U "ValueError.__new__"))
    (rvU : PySem.HandSPX.refsVE bmU = true)
    (saU : PySem.W.findIn K (.ref U) "__setattr__" = some (some (.builtin "object.__setattr__")))
    (bU : PySem.W.subIn K (.ref U) (.type "BaseException") = some true)
    (tU : PySem.W.typeIn K (.ref U) = some (.type "type"))
    (kU : PySem.W.keepIn K (.ref U) = true)
    (iU : PySem.W.isClsIn K U = true)
    (sU : PySem.W.subIn K (.ref U) (.ref U) = some true)
    (xU : xfB K U = true)
    (clU : (PySem.W.clsIn K U).isSome = true)
    (gaU : PySem.W.findIn K (.ref U) "__getattribute__" = some (some (.builtin "BaseException.__getattribute__")))
    (ggU : PySem.W.findIn K (.ref U) "__getattr__" = some none)
    (ccU : PySem.W.findIn K (.ref U) "__class__" = some (some (.builtin "object.__class__")))
    (moU : PySem.W.mroIn K U (.type "object") = some true)
    (muU : PySem.W.mroIn K U (.ref U) = some true)
    (suU : PySem.W.ks_superIn K U U "__init__" = some (some (.builtin "ValueError.__init__")))
    (svU : PySem.W.subIn K (.ref U) (.type "ValueError") = some true)
    (nnU : PySem.W.findIn K (.ref U) "name" = some none)
    (aXU : PySem.W.findIn K (.ref U) "__init__" = some (some (.ref fXU)))
    (tXU : PySem.W.typeIn K (.ref fXU) = some (.type "function"))
    (lXU : K.lookup fXU = some ⟨ocXU, odXU, .func (fdU .none kVXU dcXU pmXU anXU cdaXU ctXU ccXU), slXU⟩)
    (cXU : PySem.W.codeIn K (.ref cdaXU) "UnknownName.__init__" = true)
    (coXU : K.lookup cdaXU = some ⟨cclXU, cddXU, .fields vsXU, ccsXU⟩)
    (v2XU : vsXU[2]? = some (.str fileXU tfXU))
    (fiXU : ((l.prog.main.file : Str) == fileXU) = true)
    (ceXU : K.lookup ccXU = some ⟨clXU, cldXU, .cell (some (.ref U)), cslXU⟩)
    (lR : K.lookup R = some (excClassObj nmR qR R NR bsR bmR true snR subR abR colR ddR x0R x1R x2R x3R x5R "ValueError.__new__"))
    (rvR : PySem.HandSPX.refsVE bmR = true)
    (saR : PySem.W.findIn K (.ref R) "__setattr__" = some (some (.builtin "object.__setattr__")))
    (bR : PySem.W.subIn K (.ref R) (.type "BaseException") = some true)
    (tR : PySem.W.typeIn K (.ref R) = some (.type "type"))
    (kR : PySem.W.keepIn K (.ref R) = true)
    (iR : PySem.W.isClsIn K R = true)
    (sR : PySem.W.subIn K (.ref R) (.ref R) = some true)
    (xR : xfB K R = true)
    (clR : (PySem.W.clsIn K R).isSome = true)
    (gaR : PySem.W.findIn K (.ref R) "__getattribute__" = some (some (.builtin "BaseException.__getattribute__")))
    (ggR : PySem.W.findIn K (.ref R) "__getattr__" = some none)
    (ccR : PySem.W.findIn K (.ref R) "__class__" = some (some (.builtin "object.__class__")))
    (moR : PySem.W.mroIn K R (.type "object") = some true)
    (muR : PySem.W.mroIn K R (.ref R) = some true)
    (suR : PySem.W.ks_superIn K R R "__init__" = some (some (.builtin "ValueError.__init__")))
    (svR : PySem.W.subIn K (.ref R) (.type "ValueError") = some true)
    (nnR : PySem.W.findIn K (.ref R) "line" = some none)
    (aXR : PySem.W.findIn K (.ref R) "__init__" = some (some (.ref fXR)))
    (tXR : PySem.W.typeIn K (.ref fXR) = some (.type "function"))
    (lXR : K.lookup fXR = some ⟨ocXR, odXR, .func (fdIP .none kVXR dcXR pmXR anXR cdaXR ctXR ccXR), slXR⟩)
    (cXR : PySem.W.codeIn K (.ref cdaXR) "InvalidPaper.__init__" = true)
    (coXR : K.lookup cdaXR = some ⟨cclXR, cddXR, .fields vsXR, ccsXR⟩)
    (v2XR : vsXR[2]? = some (.str fileXR tfXR))
    (fiXR : ((l.prog.main.file : Str) == fileXR) = true)
    (ceXR : K.lookup ccXR = some ⟨clXR, cldXR, .cell (some (.ref R)), cslXR⟩)
    (aPa : PySem.W.nsIn K mainGlobals "Paper" = some (some (.ref Pa)))
    (aPj : PySem.W.findIn K (.ref Pa) "__init__" = some (some (.ref fPj)))
    (iPj : PySem.W.isFn K (.ref fPj) = true)
    (lPj : K.lookup fPj = some ⟨ocPj, odPj, .func (PySem.W.fnOf "__init__" "Paper.__init__" (defArgs sPaInit) (defBody sPaInit) (defScope sPaInit) .none kVPj dcPj pmPj anPj (cdPj) ctPj), slPj⟩)
    (cPj : PySem.W.codeIn K (cdPj) "Paper.__init__" = true)
    (kPj : PySem.W.keepIn K (.ref fPj) = true)
    (pgPa : PySem.W.plainGet K Pa Str.empty = true)
    (hdPa : PySem.W.hasDictIn K Pa = true)
    (poPa : PySem.W.plainOver K Pa = true)
    (saPa : PySem.W.findIn K (.ref Pa) "__setattr__" = some (some (.builtin "object.__setattr__")))
    (mkPa : PySem.W.makesIn K Pa = true)
    (kpPa : PySem.W.keepIn K (.ref Pa) = true)
    (nPa_roads : PySem.W.findIn K (.ref Pa) "roads" = some none)
    (nPa_arrival : PySem.W.findIn K (.ref Pa) "arrival" = some none)
    (nPa_lows : PySem.W.findIn K (.ref Pa) "lows" = some none)
    (gIN : PySem.W.nsIn K mainGlobals "InvalidNotation" = some (some (.ref IN)))
    (kiB : PySem.W.kitOne K (.ref R) (.ref B) = some true)
    (kiV : PySem.W.kitOne K (.ref R) (.type "ValueError") = some true)
    (kiN : PySem.W.kitOne K (.ref R) (.ref IN) = some false)
    (sUR : PySem.W.subIn K (.ref U) (.ref R) = some false)
    (lT0 : K.lookup T0 = some ⟨.type "tuple", odZ, .seq #[] nZ, slZ⟩)
    (lT2 : K.lookup T2 = some ⟨.type "tuple", odZ2, .seq #[] nZ2, slZ2⟩)
    (g_LONGEST_NAME : PySem.W.nsIn K mainGlobals "LONGEST_NAME" = some (some (.int 12 t_LONGEST_NAME)))
    (g_LONGEST_DAY : PySem.W.nsIn K mainGlobals "LONGEST_DAY" = some (some (.int 1440 t_LONGEST_DAY)))
    (g_MOST_PLACES : PySem.W.nsIn K mainGlobals "MOST_PLACES" = some (some (.int 30 t_MOST_PLACES)))
    (g_MOST_KINDS : PySem.W.nsIn K mainGlobals "MOST_KINDS" = some (some (.int 4 t_MOST_KINDS)))
    (g_MOST_ROADS : PySem.W.nsIn K mainGlobals "MOST_ROADS" = some (some (.int 60 t_MOST_ROADS)))
    (g_MOST_MINUTES : PySem.W.nsIn K mainGlobals "MOST_MINUTES" = some (some (.int 1000 t_MOST_MINUTES)))
    (g_MOST_PAIRS : PySem.W.nsIn K mainGlobals "MOST_PAIRS" = some (some (.int 4 t_MOST_PAIRS)))
    (g_MOST_BARS : PySem.W.nsIn K mainGlobals "MOST_BARS" = some (some (.int 40 t_MOST_BARS)))
    (g_NAME : PySem.W.nsIn K mainGlobals "NAME" = some (some (.int 0 t_NAME)))
    (g_START : PySem.W.nsIn K mainGlobals "START" = some (some (.int 1 t_START)))
    (g_END : PySem.W.nsIn K mainGlobals "END" = some (some (.int 2 t_END)))
    (g_PARTS : PySem.W.nsIn K mainGlobals "PARTS" = some (some (.int 6 t_PARTS)))
    (g_LONGEST_NUMBER_texts : PySem.W.nsIn K mainGlobals "LONGEST_NUMBER_texts" = some (some (.int 9 t_LONGEST_NUMBER_texts)))
    (g_LETTERS : PySem.W.nsIn K mainGlobals "LETTERS" = some (some (.str zLet t_LETTERS)))
    (g_DIGITS : PySem.W.nsIn K mainGlobals "DIGITS" = some (some (.str zDig t_DIGITS)))
    (z_isinstance : PySem.W.nsIn K mainGlobals "isinstance" = some none)
    (z_len : PySem.W.nsIn K mainGlobals "len" = some none)
    (z_all : PySem.W.nsIn K mainGlobals "all" = some none)
    (z_set : PySem.W.nsIn K mainGlobals "set" = some none)
    (z_tuple : PySem.W.nsIn K mainGlobals "tuple" = some none)
    (z_sorted : PySem.W.nsIn K mainGlobals "sorted" = some none)
    (z_abs : PySem.W.nsIn K mainGlobals "abs" = some none)
    (z_int : PySem.W.nsIn K mainGlobals "int" = some none)
    (z_range : PySem.W.nsIn K mainGlobals "range" = some none)
    (z_max : PySem.W.nsIn K mainGlobals "max" = some none)
    (z_str : PySem.W.nsIn K mainGlobals "str" = some none)
    (z_super : PySem.W.nsIn K mainGlobals "super" = some none)
    (z_ValueError : PySem.W.nsIn K mainGlobals "ValueError" = some none) :
    LawL l w K (L2.CX l.prog w) 63 mg fa h := by
  have e := hfa.symm.trans (PySem.W.mg_of X G aLw)
  cases e
  have FNm := fun_mk (st := sIsName) lNm cNm kNm
  have bNm := FNm.binds (ps := ["text"]) fun _ _ _ _ _ _ us hl => match us, hl with | [_], _ => rfl
  have mNm := PySem.W.mg_of X G aNm
  have FDy := fun_mk (st := sDay) lDy cDy kDy
  have bDy := FDy.binds (ps := ["day"]) fun _ _ _ _ _ _ us hl => match us, hl with | [_], _ => rfl
  have mDy := PySem.W.mg_of X G aDy
  have FNa := fun_mk (st := sNames) lNa cNa kNa
  have bNa := FNa.binds (ps := ["names", "least", "most"]) fun _ _ _ _ _ _ us hl => match us, hl with | [_, _, _], _ => rfl
  have mNa := PySem.W.mg_of X G aNa
  have FDf := fun_mk (st := sDiff) lDf cDf kDf
  have bDf := FDf.binds (ps := ["parts"]) fun _ _ _ _ _ _ us hl => match us, hl with | [_], _ => rfl
  have mDf := PySem.W.mg_of X G aDf
  have FRs := fun_mk (st := sRoads) lRs cRs kRs
  have bRs := FRs.binds (ps := ["roads", "day", "places", "kinds"]) fun _ _ _ _ _ _ us hl => match us, hl with | [_, _, _, _], _ => rfl
  have mRs := PySem.W.mg_of X G aRs
  have FRd := fun_mk (st := sRoad) lRd cRd kRd
  have bRd := FRd.binds (ps := ["road", "day", "places", "kinds"]) fun _ _ _ _ _ _ us hl => match us, hl with | [_, _, _, _], _ => rfl
  have mRd := PySem.W.mg_of X G aRd
  have FHr := fun_mk (st := sHours) lHr cHr kHr
  have bHr := FHr.binds (ps := ["hours", "day"]) fun _ _ _ _ _ _ us hl => match us, hl with | [_, _], _ => rfl
  have mHr := PySem.W.mg_of X G aHr
  have FBr := fun_mk (st := sBars) lBr cBr kBr
  have bBr := FBr.binds (ps := ["bars", "roads_by_name"]) fun _ _ _ _ _ _ us hl => match us, hl with | [_, _], _ => rfl
  have mBr := PySem.W.mg_of X G aBr
  have FCn := fun_mk (st := sNamesC) lCn cCn kCn
  have bCn := FCn.binds (ps := ["chart", "kind", "places", "roads"]) fun _ _ _ _ _ _ us hl => match us, hl with | [_, _, _, _], _ => rfl
  have mCn := PySem.W.mg_of X G aCn
  have FCq := fun_mk (st := sCkPaper) lCq cCq kCq
  have bCq := FCq.binds (ps := ["chart", "kind", "start", "goal", "moment", "told"]) fun _ _ _ _ _ _ us hl => match us, hl with | [_, _, _, _, _, _], _ => rfl
  have mCq := PySem.W.mg_of X G aCq
  have FCc := fun_mk (st := sCpn) lCc cCc kCc
  have bCc := FCc.binds (ps := ["chart", "kind", "start", "goal", "told"]) fun _ _ _ _ _ _ us hl => match us, hl with | [_, _, _, _, _], _ => rfl
  have mCc := PySem.W.mg_of X G aCc
  have FRw := fun_mk (st := sRow) lRw cRw kRw
  have bRw := FRw.binds (ps := ["cell", "many"]) fun _ _ _ _ _ _ us hl => match us, hl with | [_, _], _ => rfl
  have mRw := PySem.W.mg_of X G aRw
  have FNu := fun_mk (st := sNumbers) lNu cNu kNu
  have bNu := FNu.binds (ps := ["script", "many"]) fun _ _ _ _ _ _ us hl => match us, hl with | [_, _], _ => rfl
  have mNu := PySem.W.mg_of X G aNu
  have FRo := fun_mk (st := sRowsT) lRo cRo kRo
  have bRo := FRo.binds (ps := ["text"]) fun _ _ _ _ _ _ us hl => match us, hl with | [_], _ => rfl
  have mRo := PySem.W.mg_of X G aRo
  have FPp := fun_mk (st := sParse) lPp cPp kPp
  have bPp := FPp.binds (ps := ["text"]) fun _ _ _ _ _ _ us hl => match us, hl with | [_], _ => rfl
  have mPp := PySem.W.mg_of X G aPp
  have FCs := fun_mk (st := sCan) lCs cCs kCs
  have bCs := FCs.binds (ps := ["rows", "at"]) fun _ _ _ _ _ _ us hl => match us, hl with | [_, _], _ => rfl
  have mCs := PySem.W.mg_of X G aCs
  have FIm := fun_mk (st := sMom) lIm cIm kIm
  have bIm := FIm.binds (ps := ["word"]) fun _ _ _ _ _ _ us hl => match us, hl with | [_], _ => rfl
  have mIm := PySem.W.mg_of X G aIm
  have FCt := fun_mk (st := sCkText) lCt cCt kCt
  have bCt := FCt.binds (ps := ["chart", "kind", "start", "goal", "moment", "text"]) fun _ _ _ _ _ _ us hl => match us, hl with | [_, _, _, _, _, _], _ => rfl
  have mCt := PySem.W.mg_of X G aCt
  have FLo := fun_mk (st := sLTold) lLo cLo kLo
  have bLo := FLo.binds (ps := ["text", "checks"]) fun _ _ _ _ _ _ us hl => match us, hl with | [_, _], _ => rfl
  have mLo := PySem.W.mg_of X G aLo
  have FLl := fun_mk (st := sLLines) lLl cLl kLl
  have bLl := FLl.binds (ps := ["numbers"]) fun _ _ _ _ _ _ us hl => match us, hl with | [_], _ => rfl
  have mLl := PySem.W.mg_of X G aLl
  have FLk := fun_mk (st := sLBroken) lLk cLk kLk
  have bLk := FLk.binds (ps := ["line", "fault", "number"]) fun _ _ _ _ _ _ us hl => match us, hl with | [_, _, _], _ => rfl
  have mLk := PySem.W.mg_of X G aLk
  have FLw := fun_mk (st := sLaw) lLw cLw kLw
  have bLw := FLw.binds (ps := ["script"]) fun _ _ _ _ _ _ us hl => match us, hl with | [_], _ => rfl
  have mLw := PySem.W.mg_of X G aLw
  have FCi := fun_mk (st := sCheckK) lCi cCi kCi
  have bCi := FCi.binds (ps := ["self", "kind"]) fun _ _ _ _ _ _ us hl => match us, hl with | [_, _], _ => rfl
  have mNr := PySem.W.mg_of X G aNr
  have FNr : FunD K "is_number" "is_number" (defArgs sIsNr) (defBody sIsNr) (defScope sIsNr) [.int 6] [] fNr (PySem.W.fnOf "is_number" "is_number" (defArgs sIsNr) (defBody sIsNr) (defScope sIsNr) (.ref TDNr) kVNr dcNr pmNr anNr (.ref qNr) ctNr) :=
    ⟨⟨_, _, _, _, _, _, _, _, _, _, rfl, lNr, cNr, .inr ⟨by simp, TDNr, _, [.int 6 t6Nr], _, rfl, lTNr, rfl, .cons ⟨t6Nr, rfl⟩ .nil⟩, .inl rfl⟩, kNr⟩
  obtain ⟨u6Nr, r6Nr, bNr⟩ := FNr.binds1 (ps := ["word", "longest"]) 2 1 (by simp) rfl (fun T kV doc pm an cdv ct us its h1 h2 => match us, its, h1, h2 with | [_, _], [i], _, _ => ⟨_, rfl, rfl⟩)
  obtain rfl : u6Nr = [] := by
    cases r6Nr
    rfl
  have e_isinstance := PySem.W.mg_none_of X G z_isinstance
  have e_len := PySem.W.mg_none_of X G z_len
  have e_all := PySem.W.mg_none_of X G z_all
  have e_set := PySem.W.mg_none_of X G z_set
  have e_tuple := PySem.W.mg_none_of X G z_tuple
  have e_sorted := PySem.W.mg_none_of X G z_sorted
  have e_abs := PySem.W.mg_none_of X G z_abs
  have e_int := PySem.W.mg_none_of X G z_int
  have e_range := PySem.W.mg_none_of X G z_range
  have e_max := PySem.W.mg_none_of X G z_max
  have e_str := PySem.W.mg_none_of X G z_str
  have e_super := PySem.W.mg_none_of X G z_super
  have e_ValueError := PySem.W.mg_none_of X G z_ValueError
  have i_LONGEST_NAME := PySem.W.mg_of X G g_LONGEST_NAME
  have i_LONGEST_DAY := PySem.W.mg_of X G g_LONGEST_DAY
  have i_MOST_PLACES := PySem.W.mg_of X G g_MOST_PLACES
  have i_MOST_KINDS := PySem.W.mg_of X G g_MOST_KINDS
  have i_MOST_ROADS := PySem.W.mg_of X G g_MOST_ROADS
  have i_MOST_MINUTES := PySem.W.mg_of X G g_MOST_MINUTES
  have i_MOST_PAIRS := PySem.W.mg_of X G g_MOST_PAIRS
  have i_MOST_BARS := PySem.W.mg_of X G g_MOST_BARS
  have i_NAME := PySem.W.mg_of X G g_NAME
  have i_START := PySem.W.mg_of X G g_START
  have i_END := PySem.W.mg_of X G g_END
  have i_PARTS := PySem.W.mg_of X G g_PARTS
  have i_LONGEST_NUMBER_texts := PySem.W.mg_of X G g_LONGEST_NUMBER_texts
  have i_LETTERS := PySem.W.mg_of X G g_LETTERS
  have i_DIGITS := PySem.W.mg_of X G g_DIGITS
  have FPj := fun_mk (st := sPaInit) lPj cPj kPj
  have bPj := FPj.binds (ps := ["self", "roads", "arrival", "lows"]) fun _ _ _ _ _ _ us hl => match us, hl with | [_, _, _, _], _ => rfl
  have mPa := PySem.W.mg_of X G aPa
  have eU := exm_two bU iU tU sU
  have TU : OexC K U := ⟨⟨_, _, _, _, _, _, _, _, _, _, _, _, _, _, _, lU, rvU⟩, saU, bU, tU, kU⟩
  have DU : ExcD K U := ⟨clU, gaU, ggU, bU, ccU, snU1, tkU, moU⟩
  have bXU : L2.Binds K (fdU .none kVXU dcXU pmXU anXU cdaXU ctXU ccXU) ["self", "name"] [] := .all fun us hl => match us, hl with | [_, _], _ => rfl
  have mU := PySem.W.mg_of X G gU
  have yU : XfC K U := xfB_ok xU
  have eR := exm_two bR iR tR sR
  have TR : OexC K R := ⟨⟨_, _, _, _, _, _, _, _, _, _, _, _, _, _, _, lR, rvR⟩, saR, bR, tR, kR⟩
  have DR : ExcD K R := ⟨clR, gaR, ggR, bR, ccR, snU1, tkU, moR⟩
  have bXR : L2.Binds K (fdIP .none kVXR dcXR pmXR anXR cdaXR ctXR ccXR) ["self", "line"] [] := .all fun us hl => match us, hl with | [_, _], _ => rfl
  have mR := PySem.W.mg_of X G gR
  have yR : XfC K R := xfB_ok xR
  have mB := PySem.W.mg_of X G gB
  have TM : TxtM K M := ⟨⟨pg, hd, po, sa⟩, n_day, n_kinds, n_places, n_roads, n__roads_by_name, n_bars, n__barred⟩
  have TN : Txt K mg M P := ⟨⟨_, i_LETTERS⟩, ⟨_, i_DIGITS⟩, ⟨_, i_LONGEST_NAME⟩, e_len, e_all⟩
  have FI : FunD K "__init__" "Map.__init__" (defArgs sInit) (defBody sInit) (defScope sInit) [] [("places", V.ref T1), ("roads", V.ref T2), ("bars", V.ref T0)] fI (PySem.W.fnOf "__init__" "Map.__init__" (defArgs sInit) (defBody sInit) (defScope sInit) .none (.ref D0) dcI pmI anI cdI ctI) :=
    ⟨⟨_, _, _, _, _, _, _, _, _, _, rfl, lI, cI, .inl ⟨rfl, rfl⟩, .inr ⟨D0, rfl, fun q hq => by
      simp only [List.mem_cons, List.not_mem_nil, or_false] at hq
      rcases hq with e | e | e <;> rw [e]
      · exact ⟨_, d_places, rfl⟩
      · exact ⟨_, d_roads, rfl⟩
      · exact ⟨_, d_bars, rfl⟩⟩⟩, kI⟩
  obtain ⟨mv, kb⟩ := map_binds3 FI
  have tabP : h.get? P = some { cls := .none, data := .fields #[] } := own _ (by decide +kernel) _ mNm qN P _ _ _ _ _ _ lNm rfl rfl lcN v11
  have hcs : ∀ p ∈ ([(qN, P), (qNr, PNr)] : List (Addr × Addr)), h.get? p.2 = some { cls := .none, data := .fields #[] } ∧ K.lookup p.2 = none ∧ PySem.W.CodeHd h p.1 p.2 := fun p hp => by
    simp only [List.mem_cons, List.not_mem_nil, or_false] at hp
    rcases hp with e | e <;> rw [e]
    · exact ⟨tabP, nP, PySem.W.codeHd_of_K X hcN⟩
    · exact ⟨tabPNr, nPNr, PySem.W.codeHd_of_K X hcNr⟩
  refine ⟨[(qN, P), (qNr, PNr)], spLaw K P PNr, hcs, fun H a ns hl hT hS => ⟨a, ns, rfl, hS, hl, ⟨#[], hT (qN, P) (by simp), by first | trivial | exact True.intro | decide⟩, ⟨#[], hT (qNr, PNr) (by simp), by first | trivial | exact True.intro | decide⟩, fun _ => rfl⟩, fun base KB NB TBL => ?_⟩
  have TBN : TabB base mg qN P := ⟨(TBL (qN, P) (by simp)).code, (TBL (qN, P) (by simp)).bm, (TBL (qN, P) (by simp)).gP⟩
  have TBNr : TabB base mg qNr PNr := ⟨(TBL (qNr, PNr) (by simp)).code, (TBL (qNr, PNr) (by simp)).bm, (TBL (qNr, PNr) (by simp)).gP⟩
  have hT0 : ∀ H : Hp, SqT K H T0 [] := fun H => .inr ⟨_, #[], nZ, lT0, rfl, rfl, Nat.zero_le _, .nil⟩
  have hT2 : ∀ H : Hp, SqT K H T2 [] := fun H => .inr ⟨_, #[], nZ2, lT2, rfl, rfl, Nat.zero_le _, .nil⟩
  have mIN := PySem.W.mg_of X G gIN
  have GNm : FnOk l.prog w K mg base CX0 2 fNm _ ["text"] (spIsName P) := ok_isName FNm TN TBN rfl NB
  have GNr : FnOk l.prog w K mg base CX0 2 fNr _ ["word", "longest"] (spIsNr PNr) := ok_isNr FNr e_len e_all i_DIGITS TBNr rfl NB
  have GDy : FnOk l.prog w K mg base CX0 1 fDy _ ["day"] spDay := ok_day FDy i_LONGEST_DAY
  have GDf : FnOk l.prog w K mg base CX0 1 fDf _ ["parts"] (spDiff K) := ok_diff FDf e_len e_set
  have GHr : FnOk l.prog w K mg base CX0 1 fHr _ ["hours", "day"] (spHours K P) := ok_hours FHr e_len e_tuple i_MOST_PAIRS
  have GNa := ok_names FNa e_len e_tuple e_sorted GNm mNm kNm bNm GDf mDf kDf bDf
  have GRd := ok_road FRd e_tuple e_sorted i_MOST_MINUTES GDf mDf kDf bDf GHr mHr kHr bHr
  have GRs := ok_roadsT FRs e_len e_tuple e_sorted i_PARTS i_NAME i_MOST_ROADS GNa mNa kNa bNa GRd mRd kRd bRd
  have GBr : FnOk l.prog w K mg base CX0 2 fBr _ ["bars", "roads_by_name"] (spBarsT K P) := ok_barsT FBr e_len e_tuple e_sorted i_MOST_BARS i_END i_START GDf mDf kDf bDf
  have GI := ok_initLT FI TM i_NAME i_MOST_KINDS i_MOST_PLACES GDy mDy kDy bDy GNa mNa kNa bNa GRs mRs kRs bRs GBr mBr kBr bBr
  have TA : TxtA K Pa := ⟨⟨pgPa, hdPa, poPa, saPa⟩, nPa_roads, nPa_arrival, nPa_lows⟩
  have GRo : FnOk l.prog w K mg base CX0 1 fRo _ ["text"] (spRowsT P) := ok_rowsT FRo
  have GIm := ok_mom FIm i_LONGEST_NUMBER_texts GNr mNr kNr bNr
  have GCs := ok_can FCs e_len GNm mNm kNm bNm GIm mIm kIm bIm
  have GPj : FnOk l.prog w K mg base CX0 1 fPj _ ["self", "roads", "arrival", "lows"] (spPaInit2 K Pa P) := ok_paInit2 FPj TA e_tuple
  have MkP : L2.Mk K Pa fPj := ⟨mkPa, aPj, iPj, kpPa⟩
  have GY : FnOk l.prog w K mg base CX0 1 fXU _ ["self", "name"] (spUInit K U) := ok_uinit lXU cXU coXU v2XU fiXU ceXU e_super toX TU muU opU suU svU nnU
  have GX : FnOk l.prog w K mg base CX0 1 fXR _ ["self", "line"] (spPInit K R) := ok_pinit lXR cXR coXR v2XR fiXR ceXR e_super toX TR muR opU suR svR nnR
  have GP1 := ok_parse FPp e_len e_int e_range GRo mRo kRo bRo GCs mCs kCs bCs MkP GPj mPa bPj
  have GP2 := ok_parseX FPp e_len e_int e_range GRo mRo kRo bRo GCs mCs kCs bCs MkP GPj mPa bPj mR TR aXR tXR GX bXR
  have GPp : FnOk l.prog w K mg base (L2.CX l.prog w) 5 fPp _ ["text"] (spAny R Pa P PNr) := FnOk.or GP1 GP2
  have GCi := ok_checkK FCi TM mU TU aXU tXU GY bXU
  have GCn := ok_chkNX FCn TM ⟨aCi, iCi, kCi⟩ GCi bCi
  have GCc := ok_cpnX (P := P) FCc TA GCn mCn kCn bCn
  have GCq := ok_ckX FCq GCc mCc kCc bCc
  have GCt := ok_ckText FCt GCq mCq kCq bCq GPp mPp kPp bPp
  have eUR := exm_two bR iR tR sUR
  have GLo := ok_told FLo e_int e_isinstance mU mR mB mIN e_ValueError yU nnU yR DR nnR eR eUR eU kiB kiV kiN ⟨mk, aI, iI, kM⟩ (PySem.W.mg_of X G aM) GI kb hT0 hT2 GCt mCt kCt bCt GPp mPp kPp bPp
  have GRw : FnOk l.prog w K mg base CX0 1 fRw _ ["cell", "many"] (spRow P) := ok_row FRw e_abs e_int e_range
  have GNu := ok_numbers FNu e_len e_max GRw mRw kRw bRw
  have GLl : FnOk l.prog w K mg base CX0 1 fLl _ ["numbers"] (spLLines K P) := ok_llines FLl e_int e_range e_str
  have GLk : FnOk l.prog w K mg base CX0 1 fLk _ ["line", "fault", "number"] (spLBroken K P) := ok_lbroken FLk e_len
  exact ok_law lLw cLw (fun s v => .of_eq rfl) e_int e_len GNu mNu kNu bNu GLl mLl kLl bLl GLk mLk kLk bLk GLo mLo kLo bLo
end W

set_option Elab.async false
local macro_rules | `(tactic| o_head ($f:ident $k $a $e)) => `(tactic| o_head (PySem.W.kmHook $k $a $e [337]))
open PySem PySem.W PyProof.Rows in
set_option maxRecDepth 100000 in
set_option maxHeartbeats 0 in
theorem PySem.Challenge.cw_waypapers_k68_texts_that_are_no_papers_holds : PySem.Challenge.rw_waypapers_k68_texts_that_are_no_papers.Holds := by
  w_on; o_law; k_head; (case hw => w_witness2)
  k_fill
  refine MyR.walk_ofL (l := PySem.Challenge.rw_waypapers_k68_texts_that_are_no_papers) (n := 63) (CX := fun w => L2.CX (PySem.Challenge.rw_waypapers_k68_texts_that_are_no_papers).prog w) ["is_name"] rfl (by decide) rfl (by decide +kernel) (fun w h Y => PySem.W.km_in_of Y) ?F (fun w H s e s' h => W.no_fly w H s e s' h)
  case F =>
    intro w mg fa h Y KX G hmg own
    refine' W.all_mk KX G hmg own ?aM ?gU ?gR ?gB ?aNm ?lNm ?cNm ?kNm ?aDy ?lDy ?cDy ?kDy ?aNa ?lNa ?cNa ?kNa ?aDf ?lDf ?cDf ?kDf ?aRs ?lRs ?cRs ?kRs ?aRd ?lRd ?cRd ?kRd ?aHr ?lHr ?cHr ?kHr ?aBr ?lBr ?cBr ?kBr ?aCn ?lCn ?cCn ?kCn ?aCq ?lCq ?cCq ?kCq ?aCc ?lCc ?cCc ?kCc ?aRw ?lRw ?cRw ?kRw ?aNu ?lNu ?cNu ?kNu ?aRo ?lRo ?cRo ?kRo ?aPp ?lPp ?cPp ?kPp ?aCs ?lCs ?cCs ?kCs ?aIm ?lIm ?cIm ?kIm ?aCt ?lCt ?cCt ?kCt ?aLo ?lLo ?cLo ?kLo ?aLl ?lLl ?cLl ?kLl ?aLk ?lLk ?cLk ?kLk ?aLw ?lLw ?cLw ?kLw ?aCi ?iCi ?lCi ?cCi ?kCi ?lcN ?v11 ?hcN ?nP ?tabPNr ?aNr ?lNr ?cNr ?kNr ?lTNr ?lcNr ?v11Nr ?hcNr ?nPNr ?aI ?iI ?lI ?cI ?kI ?d_places ?d_roads ?d_bars ?pg ?hd ?po ?sa ?mk ?kM ?n_day ?n_kinds ?n_places ?n_roads ?n__roads_by_name ?n_bars ?n__barred ?snU1 ?tkU ?opU ?toX ?lU ?rvU ?saU ?bU ?tU ?kU ?iU ?sU ?xU ?clU ?gaU ?ggU ?ccU ?moU ?muU ?suU ?svU ?nnU ?aXU ?tXU ?lXU ?cXU ?coXU ?v2XU ?fiXU ?ceXU ?lR ?rvR ?saR ?bR ?tR ?kR ?iR ?sR ?xR ?clR ?gaR ?ggR ?ccR ?moR ?muR ?suR ?svR ?nnR ?aXR ?tXR ?lXR ?cXR ?coXR ?v2XR ?fiXR ?ceXR ?aPa ?aPj ?iPj ?lPj ?cPj ?kPj ?pgPa ?hdPa ?poPa ?saPa ?mkPa ?kpPa ?nPa_roads ?nPa_arrival ?nPa_lows ?gIN ?kiB ?kiV ?kiN ?sUR ?lT0 ?lT2 ?g_LONGEST_NAME ?g_LONGEST_DAY ?g_MOST_PLACES ?g_MOST_KINDS ?g_MOST_ROADS ?g_MOST_MINUTES ?g_MOST_PAIRS ?g_MOST_BARS ?g_NAME ?g_START ?g_END ?g_PARTS ?g_LONGEST_NUMBER_texts ?g_LETTERS ?g_DIGITS ?z_isinstance ?z_len ?z_all ?z_set ?z_tuple ?z_sorted ?z_abs ?z_int ?z_range ?z_max ?z_str ?z_super ?z_ValueError
    (case aM => k_is)
    (case gU => k_is)
    (case gR => k_is)
    (case gB => k_is)
    (case aNm => k_is)
    (case lNm => k_is)
    (case cNm => k_is)
    (case kNm => k_is)
    (case aDy => k_is)
    (case lDy => k_is)
    (case cDy => k_is)
    (case kDy => k_is)
    (case aNa => k_is)
    (case lNa => k_is)
    (case cNa => k_is)
    (case kNa => k_is)
    (case aDf => k_is)
    (case lDf => k_is)
    (case cDf => k_is)
    (case kDf => k_is)
    (case aRs => k_is)
    (case lRs => k_is)
    (case cRs => k_is)
    (case kRs => k_is)
    (case aRd => k_is)
    (case lRd => k_is)
    (case cRd => k_is)
    (case kRd => k_is)
    (case aHr => k_is)
    (case lHr => k_is)
    (case cHr => k_is)
    (case kHr => k_is)
    (case aBr => k_is)
    (case lBr => k_is)
    (case cBr => k_is)
    (case kBr => k_is)
    (case aCn => k_is)
    (case lCn => k_is)
    (case cCn => k_is)
    (case kCn => k_is)
    (case aCq => k_is)
    (case lCq => k_is)
    (case cCq => k_is)
    (case kCq => k_is)
    (case aCc => k_is)
    (case lCc => k_is)
    (case cCc => k_is)
    (case kCc => k_is)
    (case aRw => k_is)
    (case lRw => k_is)
    (case cRw => k_is)
    (case kRw => k_is)
    (case aNu => k_is)
    (case lNu => k_is)
    (case cNu => k_is)
    (case kNu => k_is)
    (case aRo => k_is)
    (case lRo => k_is)
    (case cRo => k_is)
    (case kRo => k_is)
    (case aPp => k_is)
    (case lPp => k_is)
    (case cPp => k_is)
    (case kPp => k_is)
    (case aCs => k_is)
    (case lCs => k_is)
    (case cCs => k_is)
    (case kCs => k_is)
    (case aIm => k_is)
    (case lIm => k_is)
    (case cIm => k_is)
    (case kIm => k_is)
    (case aCt => k_is)
    (case lCt => k_is)
    (case cCt => k_is)
    (case kCt => k_is)
    (case aLo => k_is)
    (case lLo => k_is)
    (case cLo => k_is)
    (case kLo => k_is)
    (case aLl => k_is)
    (case lLl => k_is)
    (case cLl => k_is)
    (case kLl => k_is)
    (case aLk => k_is)
    (case lLk => k_is)
    (case cLk => k_is)
    (case kLk => k_is)
    (case aLw => k_is)
    (case lLw => k_is)
    (case cLw => k_is)
    (case kLw => k_is)
    (case aCi => k_is)
    (case iCi => k_is)
    (case lCi => k_is)
    (case cCi => k_is)
    (case kCi => k_is)
    (case lcN => k_is)
    (case v11 => rfl)
    (case hcN => kernel_rfl)
    (case nP => kernel_rfl)
    (case tabPNr => exact PySem.W.km_tabs_of Y 337 (by decide))
    (case aNr => k_is)
    (case lNr => k_is)
    (case cNr => k_is)
    (case kNr => k_is)
    (case lTNr => k_is)
    (case lcNr => k_is)
    (case v11Nr => rfl)
    (case hcNr => kernel_rfl)
    (case nPNr => kernel_rfl)
    (case aI => k_is)
    (case iI => k_is)
    (case lI => k_is)
    (case cI => k_is)
    (case kI => k_is)
    (case d_places => k_is)
    (case d_roads => k_is)
    (case d_bars => k_is)
    (case pg => k_is)
    (case hd => k_is)
    (case po => k_is)
    (case sa => k_is)
    (case mk => k_is)
    (case kM => k_is)
    (case n_day => k_is)
    (case n_kinds => k_is)
    (case n_places => k_is)
    (case n_roads => k_is)
    (case n__roads_by_name => k_is)
    (case n_bars => k_is)
    (case n__barred => k_is)
    (case snU1 => k_is)
    (case tkU => k_is)
    (case opU => k_is)
    (case toX => first | rfl | decide +kernel | kernel_rfl)
    (case lU => k_is)
    (case rvU => rfl)
    (case saU => k_is)
    (case bU => k_is)
    (case tU => k_is)
    (case kU => k_is)
    (case iU => k_is)
    (case sU => first | rfl | k_is)
    (case xU => first | kernel_rfl | k_is)
    (case clU => first | kernel_rfl | k_is)
    (case gaU => k_is)
    (case ggU => k_is)
    (case ccU => k_is)
    (case moU => k_is)
    (case muU => k_is)
    (case suU => first | kernel_rfl | k_is)
    (case svU => k_is)
    (case nnU => k_is)
    (case aXU => k_is)
    (case tXU => k_is)
    (case lXU => k_is)
    (case cXU => k_is)
    (case coXU => k_is)
    (case v2XU => rfl)
    (case fiXU => first | rfl | decide +kernel | kernel_rfl)
    (case ceXU => k_is)
    (case lR => k_is)
    (case rvR => rfl)
    (case saR => k_is)
    (case bR => k_is)
    (case tR => k_is)
    (case kR => k_is)
    (case iR => k_is)
    (case sR => first | rfl | k_is)
    (case xR => first | kernel_rfl | k_is)
    (case clR => first | kernel_rfl | k_is)
    (case gaR => k_is)
    (case ggR => k_is)
    (case ccR => k_is)
    (case moR => k_is)
    (case muR => k_is)
    (case suR => first | kernel_rfl | k_is)
    (case svR => k_is)
    (case nnR => k_is)
    (case aXR => k_is)
    (case tXR => k_is)
    (case lXR => k_is)
    (case cXR => k_is)
    (case coXR => k_is)
    (case v2XR => rfl)
    (case fiXR => first | rfl | decide +kernel | kernel_rfl)
    (case ceXR => k_is)
    (case aPa => k_is)
    (case aPj => k_is)
    (case iPj => k_is)
    (case lPj => k_is)
    (case cPj => k_is)
    (case kPj => k_is)
    (case pgPa => k_is)
    (case hdPa => k_is)
    (case poPa => k_is)
    (case saPa => k_is)
    (case mkPa => k_is)
    (case kpPa => k_is)
    (case nPa_roads => k_is)
    (case nPa_arrival => k_is)
    (case nPa_lows => k_is)
    (case gIN => k_is)
    (case kiB => first | kernel_rfl | kit_is | k_is)
    (case kiV => first | kernel_rfl | kit_is | k_is)
    (case kiN => first | kernel_rfl | kit_is | k_is)
    (case sUR => first | rfl | k_is)
    (case lT0 => k_is)
    (case lT2 => k_is)
    (case g_LONGEST_NAME => k_is)
    (case g_LONGEST_DAY => k_is)
    (case g_MOST_PLACES => k_is)
    (case g_MOST_KINDS => k_is)
    (case g_MOST_ROADS => k_is)
    (case g_MOST_MINUTES => k_is)
    (case g_MOST_PAIRS => k_is)
    (case g_MOST_BARS => k_is)
    (case g_NAME => k_is)
    (case g_START => k_is)
    (case g_END => k_is)
    (case g_PARTS => k_is)
    (case g_LONGEST_NUMBER_texts => k_is)
    (case g_LETTERS => k_is)
    (case g_DIGITS => k_is)
    (case z_isinstance => k_is)
    (case z_len => k_is)
    (case z_all => k_is)
    (case z_set => k_is)
    (case z_tuple => k_is)
    (case z_sorted => k_is)
    (case z_abs => k_is)
    (case z_int => k_is)
    (case z_range => k_is)
    (case z_max => k_is)
    (case z_str => k_is)
    (case z_super => k_is)
    (case z_ValueError => k_is)

