import PyProof.Rows.All
import Wide.All
import OpenK.AllK
import Wide.FinOn
import HandS.ForMost
import HandS.ForExc
import HandS.AnyAll
import HandS.TupSets
import HandS.Strs
import HandS.Sort
import HandS.SortOrd
import HandS.SortRule
import KE.KSortTup
import PyProof.EqAt
import PyProof.EqKinds
import HandS.DictComp
import HandS.FStr
import HandS.RaiseMore
import HandS.MakeKwOnly
import HandS.EndTab
import KE.KNestM
import HandS.Codes
import HandS.Text
import HandS.TryOnly
import HandS.ExcInit
import HandS.Rev
import HandS.Walk
import HandS.Property
import HandS.ExcOwn
import KE.LtData
import PyProof.Walk
import PyProof.WalkLemmas
import HandS.Gcd
import HandS.Iter
import KE.DataMinMax
import HandS.Style
import HandS.SortKw
import HandS.More
import KE.DataMinKey
import HandS.Lambda
import KE.GoesMore
import PyProof.EnumMake
import PyProof.Draws
import KE.KExcSuper
import KE.KExcIs
import HandS.ExcField
import PyProof.ReprLen
import PyProof.ReprRoads
import HandS.EndOwn
import HandS.TryMany
import HandS.IsInst
import HandS.Deep
import PyProof.CallFns
import HandS.Words
import HandS.WordsExc
import HandS.TupLe
import PySem.Challenge.RW_waypapers_k78_whole_nobody_meets_earlier
set_option Elab.async false
set_option linter.all false
set_option maxRecDepth 100000
set_option maxHeartbeats 4000000
/-! all(test for x in text), where the test reads constants of the module: the walked element knows the base heap and the def's globals. -/
namespace MyG
open PySem PySem.Spec PyProof.Rows L2 GxR
/-- what the element's evaluation may lean on: the base heap stands, the globals are the module's, no exception is handled -/
def EltB (prog : Program) (w : World) (base : Heap) (scope : Scope) (x : Str) (elt : Expr) (pb : Nat → Bool) : Prop :=
  ∀ (ce : Env) (B : Around) (F : Value → Shared → Prop) (c : Nat) (t : Tok) (z : Shared) (m : Str → Option Value),
    ce.scope = scope → ce.globals = mainGlobals → B.handled = none → (∀ b o, base.get? b = some o → z.heap.get? b = some o) →
    z.heap.Ns ce.locals m → m x = some (.str ⟨#[c]⟩ t) → wpAny (model prog w) B (eval elt ce) (fun y z' => y = .bool (pb c) ∧ Keeps z z') F z
section
variable {X : Cx} {pins : List (Addr × Obj)} {σ : L2.St} {H : Hp} {s : Shared}
theorem genB {c P : Addr} {elt iter : Expr} {x : Str} {px gpos : Pos} {scope : Scope} {pb : Nat → Bool} {te : TE} {k : Nat} {Q' : Value → Shared → Prop} {R : Str → Hp → Prop}
    (hr : Room k X.A) (TB : TabB X.base X.mg c P) (hcode : X.env.code = .ref c) (S : GenS X.env scope x) (hi : PE X iter te) (hel : EltB X.prog X.w X.base scope x elt pb)
    (hs : ∀ v, genFold iter X.env v = pure v) (I : Inv X pins σ H s) (h : te σ H fun v H1 => ∃ a : Str, v = .str a ∧ TabG H1 P ∧ R a H1)
    (hQ : ∀ a H1 g z, R a H1 → Ready X pins σ H1 P a pb g z → Q' (.ref g) z) :
    wpAny (model X.prog X.w) X.A (eval (.GeneratorExp elt [⟨.Name x px, iter, [], 0⟩] scope gpos) X.env) Q' X.xe s := by
  refine wpAny_GeneratorExp_walksQ hr.hd S.co (closure_ok S.free) S.cell S.dot S.loc S.kind (by have := hr.dp; omega) ?_ hs
  refine thn (hi.run pins s σ H _ I h) fun xv s1 ⟨v, H1, I1, r1, a, ev, tb, q1⟩ => ?_
  subst ev
  obtain ⟨t, rfl⟩ := _root_.id r1
  obtain ⟨ps, hP, ht⟩ := tb
  refine wpAny_pyIter_str fun o St W hst => ?_
  have eP : s1.heap.get? P = some { cls := .none, data := .fields ps } := I1.hok P _ hP
  have ltP : P < s1.heap.objs.size := Heap.lt_size eP
  have eP2 := Heap.get?_push_of_some o eP
  have cd : PySem.W.CodeHd (s1.heap.push o) c P := TB.code.keeps fun b u e => Heap.get?_push_of_some _ (I1.bk b u e)
  have lim := I1.nolimit.push o
  have szp : (s1.heap.push o).objs.size = s1.heap.objs.size + 1 := Heap.size_push ..
  -- the base is not the table
  have nbP : ∀ b u, X.base.get? b = some u → b ≠ P := fun b u e z => by
    have q := (I1.bs b u e).2
    rw [z, hP] at q
    cases q
  have stP : cStatics ≠ P := fun e => by
    obtain ⟨_, ⟨o', es, ep, ho, hd, _⟩, _⟩ := I1.nolimit
    rw [e, eP] at ho
    cases ho
    cases hd
  have stlt : cStatics < s1.heap.objs.size := let ⟨_, hns, _⟩ := I1.nolimit; hns.lt
  -- behind the code object (made or found): h3, the table ps'
  have go : ∀ (code : Value) (h3 : Heap) (tk : Nat) (more : Array Value), Heap.ExtBut P (s1.heap.push o) h3 → (s1.heap.push o).objs.size ≤ h3.objs.size → h3.get? P = some { cls := .none, data := .fields (ps ++ more) } → TriplesOk (ps ++ more).toList →
      wpAny (model X.prog X.w) X.A (builtinsFor X.env.globals X.env.builtins) (fun bi s₄ =>
        ∃ Ia fp wr n₀ Pf St₀ pz F, Value.ref s1.heap.objs.size = .ref Ia ∧ (∀ A' : Around, A'.handled = none → Walks X.prog X.w A' Ia fp wr n₀ Pf St₀) ∧ St₀ 0 s₄.heap ∧ (∀ b ∈ fp, b < s₄.heap.objs.size) ∧ s₄.heap.NoLimit ∧ cStatics ∉ wr ∧
          (∀ href : Heap, (∀ b o, s₄.heap.get? b = some o → href.get? b = some o) →
            QuietGen X.prog X.w (genEnv scope (cloFrom X.env.cells scope.names []) s₄.heap.objs.size code bi X.env) x [] elt (List.range s₄.heap.objs.size) wr Pf pz F href) ∧
          (∀ a h₅ tk gs, gs.bare = true → s₄.heap.objs.size < a → h₅.objs.size = a + 1 → (∀ b o, s₄.heap.get? b = some o → h₅.get? b = some o) →
            WalksS X.prog X.w X.A.in4 a (a :: s₄.heap.objs.size :: List.range s₄.heap.objs.size) (s₄.heap.objs.size :: wr) (GenOnlyQ s₄.gens.size) (passing pz n₀ 0).length
              (fun j y => ∃ i, (passing pz n₀ 0)[j]? = some i ∧ F i y) (GenAt X.prog X.w X.A.in4 a s₄.gens.size s₄.heap.objs.size (List.range s₄.heap.objs.size) wr pz n₀ F) →
            GenAt X.prog X.w X.A.in4 a s₄.gens.size s₄.heap.objs.size (List.range s₄.heap.objs.size) wr pz n₀ F 0 { s₄ with gens := s₄.gens.push gs, toks := tk, heap := h₅ } →
            Q' (.ref a) { s₄ with gens := s₄.gens.push gs, toks := tk, heap := h₅ })) X.xe { s1 with heap := h3, toks := tk } := by
    intro code h3 tk more hx hsz e3 ht3
    obtain ⟨bm, ob, b1, b2, b3, b4, b5, b6, b7, b8⟩ := TB.bm
    have old : ∀ b u, b ≠ P → s1.heap.get? b = some u → h3.get? b = some u := fun b u hb e => hx b u hb (Heap.get?_push_of_some _ e)
    refine wpAny_builtinsFor (m := X.mg) (by rw [I1.ok.glob]; exact ((I1.mod.glob.keeps I1.bk).push o).extBut hx TB.gP) b1 b2 (old _ _ b4 (I1.bk _ _ b5)) b6 b7 b8 ?_
    refine ⟨s1.heap.objs.size, [s1.heap.objs.size], [s1.heap.objs.size], a.cps.size, SignAt a, St, (fun _ => true), (fun i y => ∃ cc, a.cps[i]? = some cc ∧ y = .bool (pb cc)), rfl, W, ?_, ?_, lim.extBut hx stP, ?_, ?_, ?_⟩
    · refine (W X.A hr.hd).frame _ _ _ hst fun b hb u e => hx b u (fun z => ?_) e
      have hb' : b = s1.heap.objs.size := List.mem_singleton.mp hb
      exact Nat.ne_of_lt ltP (z.symm.trans hb')
    · intro b hb
      have hb' : b = s1.heap.objs.size := List.mem_singleton.mp hb
      rw [hb']
      exact Nat.lt_of_lt_of_le (by rw [szp]; exact Nat.lt_succ_self _) hsz
    · intro z
      exact Nat.ne_of_lt stlt (List.mem_singleton.mp z)
    · intro href hk
      constructor
      · intro A' E' i v s₂ m₂ hA hPv hn hm hk2
        simp only [List.forIn_nil]
        exact wpAny_pure ⟨rfl, keeps_refl _⟩
      · intro A' E' i v s₂ m₂ hA hPv hp hn hm hk2
        obtain ⟨cc, u, hcc, rfl⟩ := hPv
        refine wpAny_mono (hel _ A' E' cc u s₂ m₂ rfl I1.ok.glob hA (fun b w' e => ?_) hn hm) (fun y s3 r => ⟨⟨cc, hcc, r.1⟩, r.2⟩) fun _ _ e => e
        have e1 := I1.bk b w' e
        have e2 := old b w' (nbP b w' e) e1
        have l1 : b < s1.heap.objs.size := Heap.lt_size e1
        refine hk2 b (List.mem_range.mpr (Heap.lt_size e2)) (fun z => ?_) w' (hk b w' e2)
        exact Nat.ne_of_lt l1 (List.mem_singleton.mp z)
    · intro g h5 tk5 gs hgb hag hsz5 hk5 W5 hat
      simp only [GxR.passing_true, List.length_range] at W5
      refine hQ a H1 g _ q1 ⟨_, _, _, _, _, W5.in4_1, hat, ?_, fun s' hm => ?_⟩
      · intro j y sj Qj Ej hy hQj
        obtain ⟨i, hij, cc, hcc, rfl⟩ := hy
        obtain ⟨hj, ej⟩ := List.getElem?_eq_some_iff.mp hij
        rw [List.getElem_range] at ej
        subst ej
        have e9 : a.cps.toList[j]? = some cc := by rw [Array.getElem?_toList]; exact hcc
        have hQ2 : Qj (trF pb a.cps.toList j) sj := hQj
        rw [trF_some e9] at hQ2
        exact wpAny_truthy_bool hQ2
      · have nwr : ∀ b u, s1.heap.get? b = some u → b ∉ h3.objs.size :: [s1.heap.objs.size] := fun b u e hb => by
          have hl := Heap.lt_size e
          rcases List.mem_cons.mp hb with z | z
          · exact Nat.ne_of_lt (Nat.lt_of_lt_of_le (Nat.lt_trans hl (Nat.lt_succ_self _)) (Nat.le_trans (Nat.le_of_eq szp.symm) hsz)) z
          · exact Nat.ne_of_lt hl (List.mem_singleton.mp z)
        have J := inv_tab (more := more) (h' := s'.heap) (g' := s'.gens) (d' := s'.drawn) (t' := s'.toks) I1 hP (fun b u hb e => hm.heap b u (nwr b u e) (hk5 b u (old b u hb e)))
          (hm.heap P _ (nwr P _ eP) (hk5 P _ e3)) (AllBare.movedS (I1.bare.push hgb) hm)
        rw [sh_eta s1 s' hm.os] at J
        exact ⟨upd H1 P (.tbl (ps ++ more)), ⟨⟨ps ++ more, upd_same, ht3⟩, fun b hb => upd_ne hb⟩, J⟩
  refine ⟨lim, ?_⟩
  cases hf : codeAmong gpos ps.toList with
  | none =>
    refine wpAny_genexprCodeX hcode (cd.code eP2 ht) (cd.tab eP2) hf fun c' h' tk hx hge hlt hco' _ htab' _ => ?_
    obtain ⟨o1, vs, f1, tf, fl, tg, inF, tx, tt, op, _, _, _, _, _, _, _, _, _, htr, _⟩ := hco'
    exact go _ h' tk _ hx (Nat.le_trans hge (Nat.le_of_lt hlt)) htab'.2 htr
  | some cv =>
    refine wpAny_genexprCode_hit hcode (cd.code eP2 ht) hf ?_
    refine go cv (s1.heap.push o) s1.toks #[] (Heap.ExtBut.refl _ _) (Nat.le_refl _) ?_ ?_
    · rw [Array.append_empty]; exact eP2
    · rw [Array.append_empty]; exact ht

/-- all(test for x in e), e a text -/
theorem pe_allB {c P : Addr} {elt iter : Expr} {x : Str} {px p pos gpos : Pos} {scope : Scope} {pb : Nat → Bool} {te : TE} {k : Nat}
    (hr : Room k X.A) (hg : Gl X "all") (hm : X.mg "all" = none) (TB : TabB X.base X.mg c P) (hcode : X.env.code = .ref c) (S : GenS X.env scope x) (hi : PE X iter te) (hel : EltB X.prog X.w X.base scope x elt pb)
    (hs : ∀ v, genFold iter X.env v = pure v)
    (he : starEach [.GeneratorExp elt [⟨.Name x px, iter, [], 0⟩] scope gpos] X.env = (false, eval (.GeneratorExp elt [⟨.Name x px, iter, [], 0⟩] scope gpos) X.env) :: starEach [] X.env := by rfl) :
    PE X (.Call (.Name "all" p) [.GeneratorExp elt [⟨.Name x px, iter, [], 0⟩] scope gpos] [] pos) (tAllS P pb te) := by
  refine ⟨fun pins s σ H Q I h => ?_⟩
  refine wpAny_Call_Name_kw (ld_blt I hg hm (by decide +kernel : bootBuiltins "all" = some (.builtin "all")) ?_)
  refine PyProof.Rows.callWith_builtin1 ?_ he (by rfl)
  rw [he]
  refine Calls.spliced_cons (genB (R := fun a H1 => ∀ H2, Tabbed P H1 H2 → Q (.bl (a.cps.toList.all pb)) H2) hr TB hcode S hi hel hs I h fun a H1 g z hR hG => Calls.spliced_nil ?_)
  obtain ⟨fp, wr, G, F, St, W, hst, htr, hI⟩ := hG
  refine call_all_walkS (W.self 0 _ _ _ hst ⟨g, fp, wr, G, _, F, St, _, rfl, W, hst, htr, fun s' hmv => ?_⟩)
  obtain ⟨H2, hT, J⟩ := hI s' hmv
  exact ⟨.bl _, H2, J, rfl, by rw [all_signs a pb]; exact hR H2 hT⟩
end
end MyG

set_option Elab.async false
set_option linter.all false
set_option maxRecDepth 100000
set_option maxHeartbeats 4000000
/-! set(xs) of a list or a tuple, by what one adding does: J i h says what the set at S holds of the first i items in the heap h. -/
namespace MyS
open PySem PySem.Spec PyProof.Rows L2
section
variable {P : Program} {w : World} {A : Around} {E : Value → Shared → Prop} {s : Shared}
/-- one adding -/
def Adds (P : Program) (w : World) (A : Around) (S : Addr) (h0 : Heap) (J : Nat → Heap → Prop) (i : Nat) (v : Value) : Prop :=
  ∀ (z : Shared) (Q : Bool → Shared → Prop) (E : Value → Shared → Prop), J i z.heap → (∀ b o, h0.get? b = some o → z.heap.get? b = some o) →
    (∀ b h' tk, z.toks ≤ tk → Heap.SameBut S z.heap h' → J (i + 1) h' → Q b { z with heap := h', toks := tk }) → wpAny (model P w) A (setAdd S v) Q E z
def KeepsJ (S : Addr) (h0 : Heap) (J : Nat → Heap → Prop) : Prop := ∀ i h h', J i h → (∀ o, h.get? S = some o → h'.get? S = some o) → (∀ b o, h0.get? b = some o → h'.get? b = some o) → J i h'
theorem loopJ {I : Addr} {fp wr : List Addr} {G : Array GenState → Array GenState → Prop} {n : Nat} {Pv : Nat → Value → Prop} {St : Nat → Shared → Prop} {R : Result → Shared → Prop} {J : Nat → Heap → Prop} {S : Addr} {h0 : Heap}
    (W : WalksS P w A.in1 I fp wr G n Pv St) (hSf : S ∉ fp) (hS0 : h0.get? S = none) (hw0 : ∀ b ∈ wr, h0.get? b = none) (kj : KeepsJ S h0 J) (step : ∀ i v, i < n → Pv i v → Adds P w A.in1 S h0 J i v) :
    ∀ (k i : Nat) (z : Shared), n - i = k → i ≤ n → St i z → (∀ b o, h0.get? b = some o → z.heap.get? b = some o) → J i z.heap →
      (∀ z', Moved (S :: wr) G z z' → J n z'.heap → (∀ b o, h0.get? b = some o → z'.heap.get? b = some o) → R (.ok (.ret .none)) z') →
      codeAny (model P w) A (.builtin "set.update.loop" ⟨[.ref S, .ref I], []⟩) R z := by
  have Sw : S ∉ wr := fun h => hSf (W.sub _ h)
  have up : ∀ b ∈ wr, b ∈ S :: wr := fun b hb => List.mem_cons_of_mem _ hb
  have old : ∀ {z z' : Shared}, Moved wr G z z' → (∀ b o, h0.get? b = some o → z.heap.get? b = some o) → ∀ b o, h0.get? b = some o → z'.heap.get? b = some o := fun m k b o e =>
    m.heap b o (fun hb => by rw [hw0 b hb] at e; cases e) (k b o e)
  intro k
  induction k with
  | zero =>
    intro i z hk hi hst hkp hJ hR
    obtain rfl : i = n := by omega
    refine codeAny_builtin F.entry_set_update_loop ?_
    rw [Around.under_plainId F.plain_set_update_loop _]
    show wpAny _ A.in1 (pyNext (.ref I) >>= _) _ _ z
    refine wpAny_bind (W.done z _ _ hst fun z' m => ?_)
    show wpAny _ A.in1 (ret Value.none) _ _ z'
    have o' := old m hkp
    exact wpAny_pure (hR z' (m.mono up) (kj _ _ _ hJ (fun o e => m.heap S o Sw e) o') o')
  | succ k ih =>
    intro i z hk hi hst hkp hJ hR
    have lt : i < n := by omega
    refine codeAny_builtin F.entry_set_update_loop ?_
    rw [Around.under_plainId F.plain_set_update_loop _]
    show wpAny _ A.in1 (pyNext (.ref I) >>= _) _ _ z
    refine wpAny_bind (W.item i z _ _ lt hst fun v z' hP hst' m => ?_)
    have o' := old m hkp
    show wpAny _ A.in1 (holding [v] (setAdd S v) >>= _) _ _ z'
    refine wpAny_bind (wpAny_holding (step i v lt hP z' _ _ (kj _ _ _ hJ (fun o e => m.heap S o Sw e) o') o' fun b h' tk ht sb hJ2 => ?_))
    have nS : ∀ {b : Addr}, b ≠ S → ∀ o, z'.heap.get? b = some o → h'.get? b = some o := fun hb o e => (sb.2 _ hb).trans e
    have o2 : ∀ b o, h0.get? b = some o → h'.get? b = some o := fun b o e => nS (fun q => by rw [q, hS0] at e; cases e) o (o' b o e)
    refine wpAny_pure ⟨plainId_quiet F.plain_set_update_loop _, ih (i + 1) _ (by omega) lt (W.frame _ z' _ _ hst' ht fun b hb o e => nS (fun q => hSf (by rw [← q]; exact hb)) o e) o2 hJ2 fun z2 m2 hJ3 o3 => ?_⟩
    exact hR z2 (Moved.trans W.gtrans ((m.mono up).then_heap ht fun b o hb e => nS (fun q => hb (by rw [q]; exact List.mem_cons_self)) o e) m2) hJ3 o3

abbrev freshSet (w : World) : Obj := { cls := .type "set", dict := none, data := .set #[] 0 (.fresh 0 0 (!w.params.followText "set-order")) }
theorem gone_of {h : Heap} {b : Addr} (hb : h.objs.size ≤ b) : h.get? b = none := by
  cases q : h.get? b with
  | none => rfl
  | some o => exact absurd (Nat.lt_of_lt_of_le (Heap.lt_size q) hb) (Nat.lt_irrefl _)
theorem code_new (a : Value) {Q₁ : Value → Shared → Prop} (h : Q₁ (.ref s.heap.objs.size) { s with heap := s.heap.push (freshSet w) }) :
    codeAny (model P w) A (.call (.builtin "set.__new__") ⟨[.type "set", a], []⟩) (wants Q₁ E) s := code_set_led1 a h
set_option maxHeartbeats 3200000 in
/-- set(l), l a list or a tuple of n items -/
theorem call_setJ {l : Addr} {items : Array Value} {J : Nat → Heap → Prop} {Q : Value → Shared → Prop} (hh : A.handled = none) (hl : s.heap.IsList l items ∨ s.heap.IsTuple l items) (hJ0 : ∀ h, h.get? s.heap.objs.size = some (freshSet w) → J 0 h)
    (kj : KeepsJ s.heap.objs.size s.heap J) (hex : ∀ h, J items.size h → ∃ o, h.get? s.heap.objs.size = some o) (step : ∀ (A' : Around), A'.units ≤ A.units + 4 → ∀ i v, items[i]? = some v → Adds P w A' s.heap.objs.size s.heap J i v)
    (h : ∀ (h' : Heap) (tk : Nat), J items.size h' → (∀ b o, s.heap.get? b = some o → h'.get? b = some o) → (∃ o, h'.get? s.heap.objs.size = some o) → Q (.ref s.heap.objs.size) { s with heap := h', toks := tk }) :
    wpAny (model P w) A (call (.type "set") [.ref l]) Q E s := by
  obtain ⟨c, tl, hmro⟩ := F.called_set.mro
  have hmade := F.called_set.made
  have hsub := F.called_set.sub
  refine wpAny_call (codeAny_of_tree ?_)
  show wpAny _ _ (callAny (.type "set") _) _ _ _
  refine wpAny_pure ⟨Code.quiet_builtin _ (by decide +kernel), codeAny_builtin F.entry_type_call ?_⟩
  rw [Around.under_plain (weight_type_call_type "set" [.ref l] []) rfl]
  have h1 := F.called_set.notType
  have h2 := F.called_set.canCreate
  have hct := F.typeCall_set_1 (.ref l)
  repeat (any_goals (first | assumption | wp_step))

  refine codeAny_mono (code_new (.ref l) (E := E) (Q₁ := fun obj z => obj = .ref s.heap.objs.size ∧ z = { s with heap := s.heap.push (freshSet w) }) ⟨rfl, rfl⟩) fun r z hr => ?_
  cases r with
  | error e => exact hr
  | ok fl =>
    cases fl with
    | ret obj =>
      obtain ⟨rfl, rfl⟩ := hr
      have hS : (s.heap.push (freshSet w)).get? s.heap.objs.size = some (freshSet w) := Heap.get?_push_size _ rfl
      have hT : Shared.TypeIs { s with heap := s.heap.push (freshSet w) } (.ref s.heap.objs.size) "set" := ⟨_, hS, rfl⟩
      have hli := F.called_set.init.lookup
      have hbi := F.called_set.init.bind (.ref s.heap.objs.size)
      repeat (any_goals (first | assumption | wp_step))

      refine codeAny_mono (codeAny_call_builtin (R := wants (fun r z => r = .none ∧ ∃ h' tk, z = { s with heap := h', toks := tk } ∧ J items.size h' ∧ (∀ b o, s.heap.get? b = some o → h'.get? b = some o) ∧ ∃ o, h'.get? s.heap.objs.size = some o) E) F.called_set.init.plain F.entry_set_init (check_set_init_1 hT ?_)) fun r₂ z₂ hr₂ => ?_
      · have hneS : ∀ b o, s.heap.get? b = some o → b ≠ s.heap.objs.size := fun b o e z => Nat.lt_irrefl _ (z ▸ Heap.lt_size e)
        have szp : (s.heap.push (freshSet w)).objs.size = s.heap.objs.size + 1 := Heap.size_push ..
        have hu3 : (A.in1.in1.in1).units ≤ A.units + 4 := by have e : (A.in1.in1.in1).units = A.units + 3 := rfl; omega
        rcases hl with hl | hl
        · obtain ⟨ol, hol, hcl, nl, hdl⟩ := hl
          obtain ⟨ocls, odict, odata, oslots⟩ := ol
          simp only at hcl hdl
          subst hcl; subst hdl
          have hol' : (s.heap.push (freshSet w)).get? l = some { cls := .type "list", dict := odict, data := .seq items nl, slots := oslots } := Heap.get?_push_of_some _ hol
          have hsls := F.sub_list_set
          have hslf := F.sub_list_frozenset
          have hne : (Value.type "list" == Value.type "dict") = false := by decide
          have hl1 : (s.heap.push (freshSet w)).IsList l items := ⟨_, hol', rfl, nl, rfl⟩
          unfold Builtin.«set.__init__» noKeywords Builtin.Frozenset.updateFrom
          generalize hPI : pyIter = PI
          wp_walk
          subst hPI

          refine wpAny_pyIter_list hl1 ?_
          refine wpAny_bind (wpAny_runValue ?_)
          have hlS : l < s.heap.objs.size := Heap.lt_size hol
          have hneI : l ≠ (s.heap.push (freshSet w)).objs.size := by
            rw [szp]; exact Nat.ne_of_lt (Nat.lt_succ_of_lt hlS)
          have hSf : s.heap.objs.size ∉ [(s.heap.push (freshSet w)).objs.size, l] := fun z => by
            rw [szp] at z
            rcases List.mem_cons.mp z with z | z
            · exact Nat.ne_of_lt (Nat.lt_succ_self _) z
            · exact Nat.ne_of_gt hlS (List.mem_singleton.mp z)
          refine loopJ (S := s.heap.objs.size) (h0 := s.heap) (J := J) ((Walks.list (show A.in1.in1.in1.handled = none by simp [hh]) _ l hneI items).toS) hSf (gone_of (Nat.le_refl _)) (fun b hb => gone_of (by
              rw [List.mem_singleton.mp hb, szp]
              exact Nat.le_succ _)) kj (fun i v _ hv => step _ hu3 i v hv) (items.size - 0) 0 _ (by omega) (Nat.zero_le _)
            ⟨⟨_, Heap.get?_push_size _ rfl, rfl, rfl⟩, (hl1.push _)⟩ (fun b o e => Heap.get?_push_of_some _ (Heap.get?_push_of_some _ e)) (hJ0 _ (Heap.get?_push_of_some _ hS)) ?_
          intro z' m hJ o'
          have hso : ∃ o, z'.heap.get? s.heap.objs.size = some o := hex _ hJ
          obtain ⟨h', g2, d', tk', os'⟩ := z'
          have eg : g2 = s.gens := m.gens
          have ed : d' = s.drawn := m.drawn
          have eo : os' = s.os := m.os
          subst eg; subst ed; subst eo
          show wpAny _ _ _ _ _ _
          refine wpAny_pure ?_
          show wpAny _ _ (ret Value.none) _ _ _
          exact wpAny_pure ⟨rfl, h', tk', rfl, hJ, o', hso⟩
        · obtain ⟨ol, hol, hcl, nl, hdl⟩ := hl
          obtain ⟨ocls, odict, odata, oslots⟩ := ol
          simp only at hcl hdl
          subst hcl; subst hdl
          have hol' : (s.heap.push (freshSet w)).get? l = some { cls := .type "tuple", dict := odict, data := .seq items nl, slots := oslots } := Heap.get?_push_of_some _ hol
          have hsls := F.sub_tuple_set
          have hslf := F.sub_tuple_frozenset
          have hne : (Value.type "tuple" == Value.type "dict") = false := by decide
          have hl1 : (s.heap.push (freshSet w)).IsTuple l items := ⟨_, hol', rfl, nl, rfl⟩
          unfold Builtin.«set.__init__» noKeywords Builtin.Frozenset.updateFrom
          generalize hPI : pyIter = PI
          wp_walk
          subst hPI

          refine wpAny_pyIter_tuple hl1 ?_
          refine wpAny_bind (wpAny_runValue ?_)
          have hlS : l < s.heap.objs.size := Heap.lt_size hol
          have hneI : l ≠ (s.heap.push (freshSet w)).objs.size := by
            rw [szp]; exact Nat.ne_of_lt (Nat.lt_succ_of_lt hlS)
          have hSf : s.heap.objs.size ∉ [(s.heap.push (freshSet w)).objs.size, l] := fun z => by
            rw [szp] at z
            rcases List.mem_cons.mp z with z | z
            · exact Nat.ne_of_lt (Nat.lt_succ_self _) z
            · exact Nat.ne_of_gt hlS (List.mem_singleton.mp z)
          refine loopJ (S := s.heap.objs.size) (h0 := s.heap) (J := J) ((Walks.tuple (show A.in1.in1.in1.handled = none by simp [hh]) _ l hneI items).toS) hSf (gone_of (Nat.le_refl _)) (fun b hb => gone_of (by
              rw [List.mem_singleton.mp hb, szp]
              exact Nat.le_succ _)) kj (fun i v _ hv => step _ hu3 i v hv) (items.size - 0) 0 _ (by omega) (Nat.zero_le _)
            ⟨⟨_, Heap.get?_push_size _ rfl, rfl, rfl⟩, (hl1.push _)⟩ (fun b o e => Heap.get?_push_of_some _ (Heap.get?_push_of_some _ e)) (hJ0 _ (Heap.get?_push_of_some _ hS)) ?_
          intro z' m hJ o'
          have hso : ∃ o, z'.heap.get? s.heap.objs.size = some o := hex _ hJ
          obtain ⟨h', g2, d', tk', os'⟩ := z'
          have eg : g2 = s.gens := m.gens
          have ed : d' = s.drawn := m.drawn
          have eo : os' = s.os := m.os
          subst eg; subst ed; subst eo
          show wpAny _ _ _ _ _ _
          refine wpAny_pure ?_
          show wpAny _ _ (ret Value.none) _ _ _
          exact wpAny_pure ⟨rfl, h', tk', rfl, hJ, o', hso⟩
      · cases r₂ with
        | error e => exact hr₂
        | ok fl₂ =>
          cases fl₂ with
          | ret r =>
            obtain ⟨rfl, h', tk, rfl, hJ, hk', ho⟩ := hr₂
            repeat (any_goals (first | assumption | wp_step))
            exact h _ _ hJ hk' ho
          | _ => exact hr₂.elim
    | _ => exact hr.elim
end
end MyS

set_option Elab.async false
set_option linter.all false
set_option maxRecDepth 100000
set_option maxHeartbeats 4000000
/-! len(set(xs)) of a list or a tuple of texts: as many as there are different ones. -/
namespace MyS
open PySem PySem.Spec PyProof.Rows L2
theorem nodup_snoc {α : Type} {l : List α} {x : α} : (l ++ [x]).Nodup ↔ l.Nodup ∧ x ∉ l := by
  rw [List.nodup_append]
  constructor
  · rintro ⟨h1, _, h3⟩
    exact ⟨h1, fun h => h3 x h x (List.mem_singleton.mpr rfl) rfl⟩
  · rintro ⟨h1, h2⟩
    refine ⟨h1, by simp, fun a ha b hb e => ?_⟩
    rw [List.mem_singleton.mp hb] at e
    exact h2 (e ▸ ha)
/-- how many different ones the first i items are: n, whole exactly if they all differ -/
structure Cnt {α : Type} (l : List α) (n : Nat) : Prop where
  le : n ≤ l.length
  eq : n = l.length ↔ l.Nodup
theorem Cnt.nil {α : Type} : Cnt ([] : List α) 0 := ⟨Nat.le_refl _, ⟨fun _ => List.nodup_nil, fun _ => rfl⟩⟩
theorem Cnt.old {α : Type} {l : List α} {n : Nat} {x : α} (c : Cnt l n) (h : x ∈ l) : Cnt (l ++ [x]) n := by
  have h1 := c.le
  refine ⟨by rw [List.length_append]; exact Nat.le_succ_of_le h1, ?_⟩
  rw [List.length_append, List.length_singleton]
  exact ⟨fun e => absurd e (by omega), fun e => absurd h (nodup_snoc.mp e).2⟩
theorem Cnt.new {α : Type} {l : List α} {n : Nat} {x : α} (c : Cnt l n) (h : x ∉ l) : Cnt (l ++ [x]) (n + 1) := by
  have h1 := c.le
  refine ⟨by rw [List.length_append, List.length_singleton]; omega, ?_⟩
  rw [List.length_append, List.length_singleton, nodup_snoc, ← c.eq]
  constructor
  · intro e; exact ⟨by omega, h⟩
  · rintro ⟨e, _⟩; omega
section
variable {P : Program} {w : World} {A : Around} {E : Value → Shared → Prop} {s : Shared}
/-- the set at S behind the first i texts -/
def JT (P : Program) (w : World) (S : Addr) (xs : List Str) (i : Nat) (h : Heap) : Prop := ∃ n M, h.SetOf (PySem.strKind P w) S M n ∧ (∀ k, M k = true ↔ k ∈ xs.take i) ∧ Cnt (xs.take i) n
theorem take_snoc {α : Type} {l : List α} {i : Nat} {x : α} (h : l[i]? = some x) : l.take (i + 1) = l.take i ++ [x] := by rw [List.take_succ, h]; rfl
theorem JT.adds {S : Addr} {xs : List Str} {h0 : Heap} {i : Nat} {x : Str} {t : Tok} (hx : xs[i]? = some x) (hb : xs.length + 1 < scanBound) : Adds P w A S h0 (JT P w S xs) i (.str x t) := by
  intro z Q E hJ hk hQ
  obtain ⟨n, M, hS, hM, hc⟩ := hJ
  have hi : i < xs.length := (List.getElem?_eq_some_iff.mp hx).1
  have hn := hc.le
  rw [List.length_take] at hn
  unfold setAdd
  refine wpAny_holding ?_
  refine wpAny_bind ((PySem.strKind P w).pyHash (k := x) (strKind_is _ _ _ _) ?_)
  refine wpAny_setAddHashed_of (knd := PySem.strKind P w) (s := { z with toks := z.toks + 1 }) (strKind_is _ _ _ _) rfl hS (by omega) fun h' sb hS2 => ?_
  refine hQ _ h' _ (Nat.le_succ _) sb ⟨_, _, hS2, fun k => ?_, ?_⟩
  · rw [take_snoc hx, Bool.or_eq_true, hM k, decide_eq_true_eq, List.mem_append, List.mem_singleton]
  · rw [take_snoc hx]
    by_cases q : M x = true
    · rw [if_pos q]
      exact hc.old ((hM x).mp q)
    · rw [if_neg q]
      exact hc.new fun m => q ((hM x).mpr m)
theorem JT.keeps {S : Addr} {xs : List Str} {h0 : Heap} : KeepsJ S h0 (JT P w S xs) := by
  rintro i h h' ⟨n, M, ⟨o, es, ep, t, ho, r⟩, hM, hc⟩ k1 _
  exact ⟨n, M, ⟨o, es, ep, t, k1 o ho, r⟩, hM, hc⟩
theorem JT.zero {S : Addr} {xs : List Str} {h : Heap} (ho : h.get? S = some (freshSet w)) : JT P w S xs 0 h := by
  refine ⟨0, fun _ => false, ⟨_, #[], 0, _, ho, ⟨rfl, rfl, rfl⟩, rfl, (fun e he => by simp at he), (fun k => by simp), by decide, rfl, rfl⟩, fun k => by simp, Cnt.nil⟩
end
section
variable {X : Cx}
/-- len(set(xs)) -/
def tLenSetS (K : PySem.W.Frag) (ta : TE) : TE := fun σ H Q => ta σ H fun x H1 => ∃ (l : Addr) (xs : List Str), x = .ref l ∧ (SqL K H1 l (xs.map V.str) ∨ SqT K H1 l (xs.map V.str)) ∧ xs.length ≤ 4000 ∧ ∀ n, Cnt xs n → Q (.int (n : Nat)) H1
theorem strs_get {ys : List Str} {us : List Value} (r : Vals (ys.map V.str) us) {i : Nat} {v : Value} (h : us[i]? = some v) : ∃ x t, ys[i]? = some x ∧ v = .str x t := by
  have hl : i < ys.length := by
    have q := (List.getElem?_eq_some_iff.mp h).1
    have e := r.length
    rw [List.length_map] at e
    omega
  obtain ⟨u, e1, e2⟩ := Vals.get r (i := i) (x := V.str ys[i]) (by rw [List.getElem?_map, List.getElem?_eq_getElem hl]; rfl)
  rw [h] at e1
  cases e1
  obtain ⟨t, e⟩ := e2
  exact ⟨ys[i], t, List.getElem?_eq_getElem hl, e⟩
theorem pe_lenSetS {a : Expr} {ta : TE} {p p2 q pos : Pos} (hc : X.calm = true) (hm : X.mg "len" = none) (hm2 : X.mg "set" = none) (ha : PE X a ta) (hg : Gl X "len" := by rfl) (hg2 : Gl X "set" := by rfl)
    (na : starEach [a] X.env = (false, eval a X.env) :: starEach [] X.env := by rfl) : PE X (.Call (.Name "len" p) [.Call (.Name "set" p2) [a] [] q] [] pos) (tLenSetS X.K ta) := by
  refine ⟨fun pins s σ H Q I h => ?_⟩
  refine Call_ (ld_blt I hg hm boot_len ?_)
  refine PyProof.Rows.callWith_builtin1 (PyProof.Rows.args_cons ?_ rfl) rfl rfl
  refine Call_ (ld_blt I hg2 hm2 boot_set ?_)
  refine PyProof.Rows.callWith_type1 (PyProof.Rows.args_cons (thn (ha.run pins s σ H _ I h) fun v s1 ⟨x, H1, I1, r1, q1⟩ => PyProof.Rows.args_nil ?_) na) na rfl
  obtain ⟨l, xs, rfl, hq, h1, q1⟩ := q1
  cases r1
  have go : ∀ (its : List Value), Vals (xs.map V.str) its → (s1.heap.IsList l its.toArray ∨ s1.heap.IsTuple l its.toArray) → wpAny (model X.prog X.w) X.A (call (.type "set") [.ref l])
      (fun v s₂ => wpAny (model X.prog X.w) X.A (spliced (backTo pos (starEach [] X.env))) (fun vs s₃ => wpAny (model X.prog X.w) X.A (call (.builtin "len") (v :: vs)) (EP X pins σ Q) X.xe s₃) X.xe s₂) X.xe s1 := fun its r hl => by
    have hsz : its.toArray.size = xs.length := by rw [List.size_toArray, ← r.length, List.length_map]
    have hbd : xs.length + 1 < scanBound := by unfold scanBound; omega
    refine call_setJ (J := JT X.prog X.w s1.heap.objs.size xs) (I1.ok.hd hc) hl (fun h ho => JT.zero ho) JT.keeps (fun h hJ => ?_) (fun A' _ i v hv => ?_) fun h' tk hJ hk _ => ?_
    · obtain ⟨n, M, ⟨o, es, ep, t, ho, _⟩, _⟩ := hJ
      exact ⟨o, ho⟩
    · obtain ⟨x, t, hx, rfl⟩ := strs_get r (i := i) (v := v) (by simpa using hv)
      exact JT.adds hx hbd
    · rw [hsz] at hJ
      obtain ⟨n, M, ⟨o, es, ep, t, ho, hex, hd, _, _, _, hf, hn⟩, hM, hcn⟩ := hJ
      rw [List.take_length] at hcn
      have I2 : Inv X pins σ H1 { s1 with heap := h', toks := tk } := I1.kept fun b o e => hk b o e
      refine PyProof.Rows.args_nil ?_
      have hle := hcn.le
      refine call_len_set ho hex hd hf (by rw [hn]; omega) ⟨.int (n : Nat), H1, I2.tok _, ⟨_, by rw [hn]⟩, q1 n hcn⟩
  rcases hq with hq | hq
  · obtain ⟨its, r, pl, hz⟩ := I1.list hq
    exact go its r (.inl pl.isList)
  · obtain ⟨its, r, pl, hz⟩ := I1.tuple hq
    exact go its r (.inr (by first | exact pl | exact pl.isTuple))
end
end MyS

set_option Elab.async false
set_option linter.all false
set_option maxRecDepth 100000
set_option maxHeartbeats 4000000
/-! len(set(xs)) of a list of tuples of texts, fewer than 64: over the library's table of a set (TabOk, go_spec, relaid_ok). -/
namespace MyS
open PySem PySem.Spec PyProof.Rows L2
section
variable {P : Program} {w : World} {A : Around} {E : Value → Shared → Prop} {s : Shared}
/-- the tuple at b has the texts k; its hash -/
abbrev IsP (P : Program) (w : World) (h : Heap) (k : List Str) (b : Addr) : Prop := IsTupleKey (PySem.strKind P w) h k b
abbrev hashP (P : Program) (w : World) (k : List Str) : Int := tupleKeyHash (PySem.strKind P w) k
theorem IsP.keep {h h' : Heap} {k : List Str} {b : Addr} (x : IsP P w h k b) (hk : ∀ o, h.get? b = some o → h'.get? b = some o) : IsP P w h' k b :=
  let ⟨o, items, n, ho, r⟩ := x; ⟨o, items, n, hk o ho, r⟩
theorem strs_of {k : List Str} {vs : List Value} (h : ItemsAre (PySem.strKind P w) k vs) : ∀ v ∈ vs, ∃ x t, v = Value.str x t := by
  induction h with
  | nil => intro v hv; cases hv
  | @cons k0 v' ks vs h1 _ ih =>
    intro v hv
    rcases List.mem_cons.mp hv with e | hv
    · obtain ⟨t, e2⟩ := Value.isStrOf_shape h1
      exact ⟨k0, t, e.trans e2⟩
    · exact ih v hv
/-- a text is of no class statement -/
theorem noClass_str (n : Nat) (x : Str) (t : Tok) : ofAClassStatement n (.str x t) = pure false := by cases n <;> rfl
theorem hashBy_str (n : Nat) (x : Str) (t : Tok) : hashByValue n (.str x t) = pure false := by cases n <;> rfl
theorem noClass {k : List Str} {b : Addr} {Q : Bool → Shared → Prop} (hk : IsP P w s.heap k b) (h : Q false s) : wpAny (model P w) A (ofAClassStatement 8 (.ref b)) Q E s := by
  have hT := hk.typeIs
  obtain ⟨o, items, n, ho, _, hd, hi⟩ := hk
  unfold ofAClassStatement
  refine wpAny_bind (wpAny_typeOf hT ?_)
  have e : (("tuple" : String) == "tuple") = true := by decide
  simp only [e, if_true, Bool.not_true, Bool.false_eq_true, if_false]
  try refine wpAny_bind (wpAny_pure ?_)
  try simp only [Bool.not_true, Bool.false_eq_true, if_false]
  show wpAny _ _ (seqItems? (.ref b) >>= _) _ _ s
  refine wpAny_bind (wpAny_seqItems ho hd ?_)
  refine wpAny_bind ?_
  show wpAny _ _ (forIn items _ _) _ _ s
  rw [← Array.forIn_toList]
  refine wpAny_forIn_list _ (fun rest r z => r.1 = none ∧ z = s ∧ ∀ v ∈ rest, ∃ x t, v = Value.str x t) _ ?_ ?_ _ _ ⟨rfl, rfl, strs_of hi⟩
  · rintro v rest r z ⟨hr, rfl, hall⟩
    obtain ⟨x, t, rfl⟩ := hall v List.mem_cons_self
    rw [noClass_str]
    refine wpAny_bind (wpAny_pure ?_)
    simp only [Bool.false_eq_true, if_false]
    exact wpAny_pure ⟨rfl, rfl, fun u hu => hall u (List.mem_cons_of_mem _ hu)⟩
  · rintro ⟨r1, r2⟩ z ⟨hr, rfl, _⟩
    simp only at hr
    subst hr
    exact wpAny_pure h
/-- whether the hash is by value: either answer will do -/
theorem hashBy {k : List Str} {b : Addr} {Q : Bool → Shared → Prop} (hk : IsP P w s.heap k b) (h : ∀ r, Q r s) : wpAny (model P w) A (hashByValue 8 (.ref b)) Q E s := by
  have hT := hk.typeIs
  obtain ⟨o, items, n, ho, _, hd, hi⟩ := hk
  unfold hashByValue
  refine wpAny_bind (wpAny_specialOf hT F.slot_tuple_hash.lookup ?_)
  show wpAny _ _ (seqItems? (.ref b) >>= _) _ _ s
  refine wpAny_bind (wpAny_seqItems ho hd ?_)
  refine wpAny_bind ?_
  show wpAny _ _ (forIn items _ _) _ _ s
  rw [← Array.forIn_toList]
  refine wpAny_forIn_list _ (fun rest r z => r.1 = none ∧ z = s ∧ ∀ v ∈ rest, ∃ x t, v = Value.str x t) _ ?_ ?_ _ _ ⟨rfl, rfl, strs_of hi⟩
  · rintro v rest r z ⟨hr, rfl, hall⟩
    obtain ⟨x, t, rfl⟩ := hall v List.mem_cons_self
    rw [hashBy_str]
    refine wpAny_bind (wpAny_pure ?_)
    simp only [Bool.not_false, if_true]
    exact wpAny_pure (wpAny_pure (h _))
  · rintro ⟨r1, r2⟩ z ⟨hr, rfl, _⟩
    simp only at hr
    subst hr
    exact wpAny_pure (h _)
/-- a search among such tuples shows nothing -/
theorem unseen {k : List Str} {b : Addr} {Q : Bool → Shared → Prop} (hk : IsP P w s.heap k b) {ys : List Value} (hy : ∀ y ∈ ys, ∃ k' c, y = Value.ref c ∧ IsP P w s.heap k' c) (h : Q false s) :
    wpAny (model P w) A (searchCouldBeSeen (.ref b) ys) Q E s := by
  unfold searchCouldBeSeen
  refine wpAny_bind ?_
  refine wpAny_forIn_list _ (fun rest r z => r.1 = none ∧ z = s ∧ ∀ y ∈ rest, ∃ k' c, y = Value.ref c ∧ IsP P w s.heap k' c) _ ?_ ?_ _ _ ⟨rfl, rfl, hy⟩
  · rintro v rest r z ⟨hr, rfl, hall⟩
    obtain ⟨k', c, rfl, hc⟩ := hall v List.mem_cons_self
    have more : ∀ y ∈ rest, ∃ k' c, y = Value.ref c ∧ IsP P w z.heap k' c := fun u hu => hall u (List.mem_cons_of_mem _ hu)
    by_cases hv : (b == c || (carriedByValue (.ref b) && carriedByValue (.ref c))) = true
    · refine wp_if_pos hv ?_
      exact wpAny_pure ⟨rfl, rfl, more⟩
    · refine wp_if_neg hv ?_
      refine wpAny_bind (wpAny_eqIsQuiet_tuple hk ?_)
      simp only [Bool.not_true, Bool.false_eq_true, if_false]
      refine wpAny_bind (wpAny_eqIsQuiet_tuple hc ?_)
      simp only [Bool.not_true, Bool.false_eq_true, if_false]
      refine wpAny_bind (noClass hk ?_)
      simp only [Bool.false_eq_true, if_false]
      refine wpAny_bind (noClass hc ?_)
      simp only [Bool.false_eq_true, if_false]
      exact wpAny_pure ⟨rfl, rfl, more⟩
  · rintro ⟨r1, r2⟩ z ⟨hr, rfl, _⟩
    simp only at hr
    subst hr
    exact wpAny_pure h

/-! ### the set at a, its tuples in the table's order -/
def rowP (P : Program) (w : World) (p : Addr × List Str) : Int × Value := (hashP P w p.2, .ref p.1)
structure PSet (P : Program) (w : World) (h : Heap) (a : Addr) (L : List (Addr × List Str)) (es : Array (Int × Value)) (ep : Nat) (t : SetTable) : Prop where
  ob : ∃ o, h.get? a = some o ∧ o.ExactSet ∧ o.data = .set es ep t
  rows : es.toList = L.map (rowP P w)
  tab : TabOk t (L.map fun p => hashP P w p.2)
  nd : (L.map (·.2)).Nodup
  tup : ∀ p ∈ L, IsP P w h p.2 p.1
  room : L.length * 5 < t.mask * 3
  few : L.length < 64
variable {a : Addr} {L : List (Addr × List Str)} {es : Array (Int × Value)} {ep : Nat} {t : SetTable}
theorem PSet.size (R : PSet P w s.heap a L es ep t) : es.size = L.length := by
  have h := congrArg List.length R.rows
  rwa [Array.length_toList, List.length_map] at h
theorem PSet.fits (R : PSet P w s.heap a L es ep t) : t.fits es.size = true := by
  have h1 := R.tab.sz
  rw [List.length_map] at h1
  have h2 := R.size
  have h3 := R.room
  unfold SetTable.fits SetTable.fill
  rw [R.tab.dm, Bool.and_eq_true, beq_iff_eq, decide_eq_true_eq]
  show t.place.size = es.size ∧ t.place.size + 0 ≤ t.mask
  omega
theorem PSet.entry (R : PSet P w s.heap a L es ep t) {i : Nat} {p : Addr × List Str} (h : L[i]? = some p) : es[i]? = some (rowP P w p) := by
  rw [← Array.getElem?_toList, R.rows, List.getElem?_map, h]
  rfl
/-- the way of the hash g through the table: the probe behind k steps -/
abbrev stepP (m : Nat) (g : Int) (k : Nat) : SetTable.Probe := nth m (runAt m (SetTable.bits g % (m + 1)) (SetTable.bits g)) k
theorem stepP_add (m : Nat) (g : Int) (c q : Nat) : nth m (stepP m g c) q = stepP m g (c + q) := (nth_add m c _ q).symm
theorem stepP_clean (m : Nat) (g : Int) (c : Nat) : (stepP m g c).dummy = none := by
  have key : ∀ (n : Nat) (p : SetTable.Probe), p.dummy = none → (nth m p n).dummy = none := by
    intro n
    induction n with
    | zero => intro p h; exact h
    | succ n ih =>
      intro p h
      refine ih (adv m p) ?_
      unfold adv
      split <;> exact h
  exact key c _ rfl
/-- what is asked of the search for k among L: found, or the first free slot of the way -/
structure Seek (P : Program) (w : World) (t : SetTable) (L : List (Addr × List Str)) (k : List Str) (K : Nat) (Q : SetFound → Shared → Prop) (z : Shared) : Prop where
  few : K < 10 * SetTable.turns t.mask
  free : way t.mask (hashP P w k) K ∉ t.place.toList
  full : ∀ c, c < K → way t.mask (hashP P w k) c ∈ t.place.toList
  hit : k ∈ L.map (·.2) → Q (.there none) z
  miss : k ∉ L.map (·.2) → Q (.free (way t.mask (hashP P w k) K) false) z
theorem seek {x : Addr} {k : List Str} {K : Nat} {Q : SetFound → Shared → Prop} (R : PSet P w s.heap a L es ep t) (hx : IsP P w s.heap k x) (hu : A.units < cLine) (B : Seek P w t L k K Q s) :
    ∀ (f c : Nat) (stand : Option SetTable.Probe), stand.getD (t.probeStart (hashP P w k)) = stepP t.mask (hashP P w k) c → c ≤ K → K - c < f →
      (∀ (i : Nat) p, L[i]? = some p → p.2 = k → ∃ c', c ≤ c' ∧ c' < K ∧ t.place.toList[i]? = some (way t.mask (hashP P w k) c')) →
      wpAny (model P w) A (setSearchFrom a (.ref x) (hashP P w k) true f stand) Q E s
  | 0, c, stand, _, _, hf, _ => absurd hf (Nat.not_lt_zero _)
  | f + 1, c, stand, hst, hc, hf, hre => by
    obtain ⟨o, ho, hex, hd⟩ := R.ob
    rw [setSearchFrom_succ]
    refine wpAny_bind (wpAny_setState_of ho hd R.fits ?_)
    dsimp only
    refine wp_if_neg (by unfold SetTable.gaveWay; rw [mask_odd R.tab.mok]; decide) ?_
    try refine wpAny_bind (wpAny_pure ?_)
    have at_ : ∀ q, (nth t.mask (stepP t.mask (hashP P w k) c) q).j = way t.mask (hashP P w k) (c + q) := fun q => congrArg SetTable.Probe.j (stepP_add _ _ _ _)
    have hashAt : ∀ (i : Nat) p, L[i]? = some p → (fun i => (es[i]?.map (·.1)).getD 0) i = hashP P w p.2 := fun i p hp => by
      show (es[i]?.map (·.1)).getD 0 = _
      rw [R.entry hp]
      rfl
    rcases go_spec t R.tab.ris R.tab.dm (fun i => (es[i]?.map (·.1)).getD 0) (hashP P w k) (10 * SetTable.turns t.mask) (K - c) _ (stepP_clean t.mask (hashP P w k) c) (by have := B.few; omega)
      (fun q hq => by rw [at_]; exact B.full (c + q) (by omega)) (by rw [at_, show c + (K - c) = K by omega]; exact B.free) with ⟨q, i, hq, hi, hh, hno, hpr⟩ | ⟨hno, hpr⟩
    · -- a candidate: the entry i at the slot of the step c + q
      have hpr' : t.probe (fun i => (es[i]?.map (·.1)).getD 0) (hashP P w k) (stand.getD (t.probeStart (hashP P w k))) = some (.candidate (way t.mask (hashP P w k) (c + q)) i (stepP t.mask (hashP P w k) (c + (q + 1)))) := by
        rw [hst, ← at_, ← stepP_add]
        exact hpr
      rw [hpr']
      dsimp only
      rw [at_] at hi
      have hil : i < L.length := by
        have h1 : i < t.place.toList.length := (List.getElem?_eq_some_iff.mp hi).1
        have h2 := R.tab.sz
        rw [List.length_map] at h2
        rw [Array.length_toList] at h1
        omega
      obtain ⟨p, hp⟩ : ∃ p, L[i]? = some p := ⟨_, List.getElem?_eq_getElem hil⟩
      have pm : p ∈ L := List.mem_of_getElem? hp
      have rest : wpAny (model P w) A (searchRest a (.ref x) (hashP P w k) true f es t (way t.mask (hashP P w k) (c + q)) i (stepP t.mask (hashP P w k) (c + (q + 1)))) Q E s := by
        unfold searchRest
        rw [R.entry hp]
        dsimp only [rowP]
        refine wpAny_bind (wpAny_holding (wpAny_eqBool_tuple hu (R.tup p pm) hx ?_))
        refine wpAny_bind (wpAny_setState_of ho hd R.fits ?_)
        dsimp only
        by_cases hkk : p.2 = k
        · refine wp_if_pos (by simp [hkk]) ?_
          exact wpAny_pure (B.hit (List.mem_map.mpr ⟨p, pm, hkk⟩))
        · refine wp_if_neg (by simp [hkk]) ?_
          try refine wpAny_bind (wpAny_pure ?_)
          rw [sameMem]
          dsimp only
          have hsl : t.slot (way t.mask (hashP P w k) (c + q)) = .live i := slot_live R.tab.ris hi
          simp only [if_true, hsl, R.entry hp, rowP]
          refine wpAny_bind (wpAny_isSame_ref_self (wpAny_bind (wpAny_pure ?_)))
          simp only [if_true]
          refine wp_if_neg (by simp [hkk]) ?_
          refine seek R hx hu B f (c + (q + 1)) _ rfl (by omega) (by omega) fun i0 p0 h0 hk0 => ?_
          obtain ⟨c', a1, a2, a3⟩ := hre i0 p0 h0 hk0
          refine ⟨c', ?_, a2, a3⟩
          -- what has k is not behind us
          rcases Nat.lt_trichotomy c' (c + q) with y | y | y
          · exact absurd ((hashAt i0 p0 h0).trans (congrArg (hashP P w) hk0)) (hno (c' - c) i0 (by omega) (by rw [at_, show c + (c' - c) = c' by omega]; exact a3))
          · rw [y] at a3
            have s0 := (slot_live R.tab.ris a3).symm.trans hsl
            injection s0 with s0
            rw [s0, hp] at h0
            cases h0
            exact absurd hk0 hkk
          · omega
      by_cases hl : t.led = true
      · refine wp_if_neg (by simp [hl]) ?_
        try refine wpAny_bind (wpAny_pure ?_)
        exact rest
      · refine wp_if_pos (by simp [hl]) ?_
        refine wpAny_bind (unseen hx (fun y hy => ?_) ?_)
        · obtain ⟨e, he, ee⟩ := List.mem_map.mp hy
          have he1 : e ∈ es ∧ e.1 = hashP P w k := by simpa using he
          have he2 : e ∈ es.toList := by simpa using he1.1
          rw [R.rows] at he2
          obtain ⟨p2, hp2, e2⟩ := List.mem_map.mp he2
          exact ⟨p2.2, p2.1, by rw [← ee, ← e2]; rfl, R.tup p2 hp2⟩
        · refine wp_if_neg (by decide) ?_
          try refine wpAny_bind (wpAny_pure ?_)
          exact rest
    · -- the way's first free slot
      have hpr' : t.probe (fun i => (es[i]?.map (·.1)).getD 0) (hashP P w k) (stand.getD (t.probeStart (hashP P w k))) = some (.empty (way t.mask (hashP P w k) K) none) := by
        have e2 : way t.mask (hashP P w k) K = (nth t.mask (stepP t.mask (hashP P w k) c) (K - c)).j := by rw [at_, show c + (K - c) = K by omega]
        rw [hst, e2]
        exact hpr
      rw [hpr']
      dsimp only
      refine wpAny_pure (B.miss fun hm => ?_)
      obtain ⟨p0, h0, hk0⟩ := List.mem_map.mp hm
      obtain ⟨i0, hi0, e0⟩ := List.getElem_of_mem h0
      have h00 : L[i0]? = some p0 := by rw [List.getElem?_eq_getElem hi0, e0]
      obtain ⟨c', a1, a2, a3⟩ := hre i0 p0 h00 hk0
      exact hno (c' - c) i0 (by omega) (by rw [at_, show c + (c' - c) = c' by omega]; exact a3) ((hashAt i0 p0 h00).trans (congrArg (hashP P w) hk0))
/-- the search as adding asks for it -/
theorem seek_all {x : Addr} {k : List Str} {Q : SetFound → Shared → Prop} (R : PSet P w s.heap a L es ep t) (hx : IsP P w s.heap k x) (hu : A.units < cLine) (hit : k ∈ L.map (·.2) → Q (.there none) s)
    (miss : ∀ K, k ∉ L.map (·.2) → way t.mask (hashP P w k) K ∉ t.place.toList → (∀ c, c < K → way t.mask (hashP P w k) c ∈ t.place.toList) → Q (.free (way t.mask (hashP P w k) K) false) s) :
    wpAny (model P w) A (setSearch a (.ref x) (hashP P w k) true) Q E s := by
  have hroom := R.room
  obtain ⟨K, f1, f2, f3⟩ := R.tab.first (by rw [List.length_map]; omega) (hashP P w k)
  have big : K < 100000 := by
    have : 10 * SetTable.turns t.mask ≤ 1420 := by
      unfold SetTable.turns
      rcases R.tab.mok with e | e | e <;> omega
    omega
  unfold setSearch
  refine seek R hx hu ⟨f1, f2, f3, hit, fun hn => miss K hn f2 f3⟩ 100000 0 none rfl (Nat.zero_le _) (by omega) fun i p hp hk => ?_
  have hi : (L.map fun p => hashP P w p.2)[i]? = some (hashP P w k) := by rw [List.getElem?_map, hp, ← hk]; rfl
  have hil : i < t.place.toList.length := by
    have h1 : i < L.length := (List.getElem?_eq_some_iff.mp hp).1
    have h2 := R.tab.sz
    rw [List.length_map] at h2
    rw [Array.length_toList]
    omega
  obtain ⟨c, hc, e⟩ := R.tab.before f2 hi (List.getElem?_eq_getElem hil)
  exact ⟨c, Nat.zero_le _, hc, by rw [List.getElem?_eq_getElem hil, e]⟩
/-- the entries in another order -/
theorem reorder {α : Type} (row : α → Int × Value) (L : List α) (es : Array (Int × Value)) (order : Array Nat) (hr : es.toList = L.map row) (hp : order.toList.Perm (List.range L.length)) :
    ∃ L2 : List α, (order.filterMap (es[·]?)).toList = L2.map row ∧ L2.Perm L ∧ (L2.map fun p => (row p).1) = order.toList.map fun i => (es.map (·.1)).getD i 0 := by
  have at_ : ∀ i, es[i]? = (L[i]?).map row := fun i => by rw [← Array.getElem?_toList, hr, List.getElem?_map]
  have all : (List.range L.length).filterMap (fun i => L[i]?) = L := by
    have key : ∀ n, n ≤ L.length → (List.range n).filterMap (fun i => L[i]?) = L.take n := by
      intro n
      induction n with
      | zero => intro _; rfl
      | succ n ih =>
        intro hn
        have hlt : n < L.length := hn
        rw [List.range_succ, List.filterMap_append, ih (Nat.le_of_lt hlt), List.take_succ, List.getElem?_eq_getElem hlt]
        simp [List.getElem?_eq_getElem hlt]
    rw [key L.length (Nat.le_refl _), List.take_length]
  refine ⟨order.toList.filterMap (fun i => L[i]?), ?_, ?_, ?_⟩
  · rw [Array.toList_filterMap, List.map_filterMap]
    congr 1
    funext i
    exact at_ i
  · have h := hp.filterMap (fun i => L[i]?)
    rwa [all] at h
  · have hlt : ∀ i ∈ order.toList, i < L.length := fun i hi => List.mem_range.mp (hp.mem_iff.mp hi)
    generalize order.toList = l at hlt
    induction l with
    | nil => rfl
    | cons i l ih =>
      have hi := hlt i List.mem_cons_self
      rw [List.filterMap_cons_some (List.getElem?_eq_getElem hi), List.map_cons, List.map_cons, ih fun j hj => hlt j (List.mem_cons_of_mem _ hj)]
      have e5 : (es.map (·.1))[i]? = some (row L[i]).1 := by rw [Array.getElem?_map, at_, List.getElem?_eq_getElem hi]; rfl
      simp [Array.getD_eq_getD_getElem?, e5]
end
end MyS

set_option Elab.async false
set_option linter.all false
set_option maxRecDepth 100000
set_option maxHeartbeats 4000000
/-! A tuple of texts is added to a set; len(set(xs)) of a list of such. -/
namespace MyS
open PySem PySem.Spec PyProof.Rows L2
section
variable {P : Program} {w : World} {A : Around} {E : Value → Shared → Prop} {s : Shared}
variable {a : Addr} {L : List (Addr × List Str)} {es : Array (Int × Value)} {ep : Nat} {t : SetTable}
theorem IsP.other {h h' : Heap} {k : List Str} {a b : Addr} {o : Obj} {es : Array (Int × Value)} {ep : Nat} {t : SetTable} (hb : IsP P w h k b) (ho : h.get? a = some o) (hd : o.data = .set es ep t) (hs : Heap.SameBut a h h') : IsP P w h' k b := by
  obtain ⟨o', items, n, ho', r⟩ := hb
  have hne : b ≠ a := fun z => by
    rw [z, ho] at ho'
    cases ho'
    rw [hd] at r
    exact nomatch r.2.1
  exact ⟨o', items, n, (hs.2 b hne).trans ho', r⟩
/-- TabOk looks at the places, the dummies and the mask alone -/
theorem tabOk_congr {t u : SetTable} {hs : List Int} (T : TabOk t hs) (e1 : u.place = t.place) (e2 : u.dummies = t.dummies) (e3 : u.mask = t.mask) : TabOk u hs := by
  obtain ⟨h1, h2, h3, h4, h5, h6⟩ := T
  constructor
  · rw [e1]; exact h1
  · rw [e2]; exact h2
  · rw [e1]; exact h3
  · rw [e3]; exact h4
  · intro x hx; rw [e3]; rw [e1] at hx; exact h5 x hx
  · intro i g j hi hj
    rw [e1] at hj
    obtain ⟨k, c1, c2⟩ := h6 i g j hi hj
    exact ⟨k, by rw [e3]; exact c1, fun k' hk' => by rw [e3, e1]; exact c2 k' hk'⟩
/-- the table laid anew, larger -/
theorem relayP {o : Obj} (ho : s.heap.get? a = some o) (hex : o.ExactSet) (hd : o.data = .set es ep t) (rows : es.toList = L.map (rowP P w)) (T : TabOk t (L.map fun p => hashP P w p.2)) (hfl : L.length ≤ t.mask)
    (nd : (L.map (·.2)).Nodup) (tup : ∀ p ∈ L, IsP P w s.heap p.2 p.1) (few : L.length < 64) {wanted M : Nat}
    (hw : SetTable.sizeAbove wanted - 1 = M) (hM : MaskOk M) (hw2 : SetTable.sizeAbove wanted ≤ 128) (hn : L.length * 5 < M * 3) {Q : Unit → Shared → Prop}
    (hQ : ∀ h' L' es' ep' t', Heap.SameBut a s.heap h' → PSet P w h' a L' es' ep' t' → L'.Perm L → Q () { s with heap := h' }) : wpAny (model P w) A (setRelay a wanted) Q E s := by
  have hsl : es.size = L.length := by
    have h := congrArg List.length rows
    rwa [Array.length_toList, List.length_map] at h
  have hsz := T.sz
  rw [List.length_map] at hsz
  have hfits : t.fits es.size = true := by
    unfold SetTable.fits SetTable.fill
    rw [T.dm, Bool.and_eq_true, beq_iff_eq, decide_eq_true_eq]
    show t.place.size = es.size ∧ t.place.size + 0 ≤ t.mask
    omega
  obtain ⟨t', order, e, hp, T', em, el, epl, ed⟩ := relaid_ok t (hs := es.map (·.1)) (wanted := wanted) hw hM (by rw [Array.size_map, hsl]; omega)
  rw [Array.size_map, hsl] at hp
  obtain ⟨L2, r1, r2, r3⟩ := reorder (rowP P w) L es order rows hp
  rw [← r3] at T'
  have hs2 : (order.filterMap (es[·]?)).size = es.size := by
    have h := congrArg List.length r1
    rw [Array.length_toList, List.length_map, r2.length_eq] at h
    rw [h, hsl]
  rw [setRelay_eq]
  refine wpAny_bind (wpAny_setState_of ho hd hfits ?_)
  dsimp only
  refine wp_if_neg (by rw [sizeLine_eq]; omega) ?_
  try refine wpAny_bind (wpAny_pure ?_)
  rw [e]
  dsimp only
  refine wpAny_bind ?_
  refine wp_if_neg (by rw [hs2]; simp) ?_
  try refine wpAny_bind (wpAny_pure ?_)
  refine wpAny_pure ?_
  dsimp only
  refine wpAny_storeSet_of ho hd ?_ (by rw [hs2, hsl, sizeLine_eq]; omega)
  have sb : Heap.SameBut a s.heap (s.heap.update a (Obj.putSet (order.filterMap (es[·]?)) t')) := Heap.SameBut.update ..
  refine hQ _ L2 (order.filterMap (es[·]?)) (ep + 1) t' sb ⟨⟨_, store_at ho hd, ⟨hex.1, hex.2.1, hex.2.2⟩, rfl⟩, r1, T', (r2.map (·.2)).nodup_iff.mpr nd, fun p hpm => (tup p (r2.mem_iff.mp hpm)).other ho hd sb, ?_, by rw [r2.length_eq]; exact few⟩ r2
  rw [r2.length_eq, em]
  exact hn
theorem put_perm' {α : Type} (L : List α) (p : Nat) (x : α) : (L.take p ++ x :: L.drop p).Perm (x :: L) := L2.put_perm L p x
/-- the tail of an adding: the new tuple is laid down, and the table grows where it is too full -/
theorem tailP {o : Obj} (ho : s.heap.get? a = some o) (hex : o.ExactSet) (hd : o.data = .set es ep t) {L1 : List (Addr × List Str)} {es1 : Array (Int × Value)} {u : SetTable} (hsl : es.size = L.length) (hmok : MaskOk t.mask) (hroom : L.length * 5 < t.mask * 3)
    (hin : es1.toList = L1.map (rowP P w)) (T : TabOk u (L1.map fun p => hashP P w p.2)) (hmask : u.mask = t.mask) (hps : u.place.size = L.length + 1) (hlen : L1.length = L.length + 1) (nd1 : (L1.map (·.2)).Nodup) (tup1 : ∀ h', Heap.SameBut a s.heap h' → ∀ p ∈ L1, IsP P w h' p.2 p.1) (hfew : L.length + 1 < 64) {Q : Bool → Shared → Prop}
    (hQ : ∀ h' L' es' ep' t', Heap.SameBut a s.heap h' → PSet P w h' a L' es' ep' t' → L'.Perm L1 → Q true { s with heap := h' }) :
    wpAny (model P w) A (do
      storeSet a es1 u
      if !false && u.tooFull then setRelay a (SetTable.grown (es.size + 1))
      return true) Q E s := by
  have hes : es1.size = L.length + 1 := by
    have h := congrArg List.length hin
    rw [Array.length_toList, List.length_map, hlen] at h
    exact h
  refine wpAny_bind (wpAny_storeSet_of ho hd ?_ (by rw [hes, sizeLine_eq]; omega))
  have sb : Heap.SameBut a s.heap (s.heap.update a (Obj.putSet es1 u)) := Heap.SameBut.update ..
  have ho1 := store_at (es' := es1) (t' := u) ho hd
  have tup2 := tup1 _ sb
  generalize s.heap.update a (Obj.putSet es1 u) = h1 at sb ho1 tup2 ⊢
  have hfill : u.tooFull = true ↔ (L.length + 1) * 5 ≥ u.mask * 3 := by
    unfold SetTable.tooFull SetTable.fill
    rw [decide_eq_true_eq, T.dm]
    show (u.place.size + 0) * 5 ≥ u.mask * 3 ↔ _
    rw [hps]
  by_cases hf : u.tooFull = true
  · first
      | (refine wpAny_bind ?_; refine wp_if_pos (by simp [hf]) ?_)
      | (refine wp_if_pos (by simp [hf]) ?_; refine wpAny_bind ?_)
    have hfull := hfill.mp hf
    rw [hmask] at hfull
    rw [hsl]
    have cases2 : (t.mask = 7 ∧ L.length = 4) ∨ (t.mask = 31 ∧ L.length = 18) := by
      rcases hmok with e | e | e
      · left; rw [e] at hfull hroom; exact ⟨e, by omega⟩
      · right; rw [e] at hfull hroom; exact ⟨e, by omega⟩
      · exfalso; rw [e] at hfull; omega
    have go : ∀ M, SetTable.sizeAbove (SetTable.grown (L.length + 1)) - 1 = M → MaskOk M → SetTable.sizeAbove (SetTable.grown (L.length + 1)) ≤ 128 → (L.length + 1) * 5 < M * 3 →
        wpAny (model P w) A (setRelay a (SetTable.grown (L.length + 1))) (fun _ s' => wpAny (model P w) A (pure true) Q E s') E { s with heap := h1 } := fun M h1' h2' h3' h4' => by
      refine relayP (s := { s with heap := h1 }) ho1 ⟨hex.1, hex.2.1, hex.2.2⟩ rfl hin T (by rw [hlen, hmask]; rcases cases2 with ⟨e, e2⟩ | ⟨e, e2⟩ <;> omega) nd1 tup2 (by rw [hlen]; exact hfew) h1' h2' h3' (by rw [hlen]; exact h4') ?_
      intro h2 L2 es2 ep2 t2 sb2 R2 pm2
      exact wpAny_pure (hQ h2 L2 es2 ep2 t2 (sb.trans sb2) R2 pm2)
    rcases cases2 with ⟨_, e2⟩ | ⟨_, e2⟩
    · refine go 31 (by rw [e2, size_20]) (.inr (.inl rfl)) (by rw [e2, size_20]; decide) (by omega)
    · refine go 127 (by rw [e2, size_76]) (.inr (.inr rfl)) (by rw [e2, size_76]; decide) (by omega)
  · first
      | refine wp_if_neg (by simp [hf]) ?_
      | (refine wpAny_bind ?_; refine wp_if_neg (by simp [hf]) ?_; refine wpAny_pure ?_)
    refine wpAny_pure (hQ h1 L1 es1 (ep + 1) u sb ⟨⟨_, ho1, ⟨hex.1, hex.2.1, hex.2.2⟩, rfl⟩, hin, T, nd1, tup2, ?_, by rw [hlen]; exact hfew⟩ (List.Perm.refl _))
    have h := mt hfill.mpr hf
    rw [hlen]
    omega
/-- ADDING: what is there stays as it is; what isn't comes to it -/
theorem addP (R : PSet P w s.heap a L es ep t) {x : Addr} {k : List Str} (hx : IsP P w s.heap k x) (hu : A.units < cLine) (hfew : L.length + 1 < 64) {Q : Bool → Shared → Prop}
    (hQ : ∀ b h' L' es' ep' t', Heap.SameBut a s.heap h' → PSet P w h' a L' es' ep' t' → (k ∈ L.map (·.2) → L' = L) → (k ∉ L.map (·.2) → L'.Perm ((x, k) :: L)) → Q b { s with heap := h' }) :
    wpAny (model P w) A (setAddHashed a (.ref x) (hashP P w k)) Q E s := by
  obtain ⟨o, ho, hex, hd⟩ := R.ob
  have hsl := R.size
  have hroom := R.room
  unfold setAddHashed
  refine wpAny_holding ?_
  rw [show (100000 : Nat) = 99999 + 1 from rfl, setAddHashedIn_succ]
  refine wpAny_bind (wpAny_setState_of ho hd R.fits ?_)
  dsimp only
  refine wp_if_neg (by simp [byScan, Value.scannable]) ?_
  try refine wpAny_bind (wpAny_pure ?_)
  refine wpAny_bind (seek_all R hx hu (fun hm => ?_) fun K hm hK hb => ?_)
  · exact wpAny_pure (hQ false s.heap L es ep t (Heap.SameBut.refl a s.heap) R (fun _ => rfl) fun z => absurd hm z)
  · dsimp only
    refine wpAny_bind (wpAny_setState_of ho hd R.fits ?_)
    dsimp only
    obtain ⟨q1, q2, q3, q4, q5, q6, q7, q8, q9⟩ := R.tab.put hK hb
    have hin : (SetTable.insertAt es (SetTable.below t.place (way t.mask (hashP P w k) K)) (hashP P w k, Value.ref x)).toList = (L.take (SetTable.below t.place (way t.mask (hashP P w k) K)) ++ (x, k) :: L.drop (SetTable.below t.place (way t.mask (hashP P w k) K))).map (rowP P w) := by
      rw [SetTable.toList_insertAt, R.rows, List.map_append, List.map_cons, List.map_take, List.map_drop]
      rfl
    have pm := put_perm' L (SetTable.below t.place (way t.mask (hashP P w k) K)) (x, k)
    have hhs : (L.take (SetTable.below t.place (way t.mask (hashP P w k) K)) ++ (x, k) :: L.drop (SetTable.below t.place (way t.mask (hashP P w k) K))).map (fun p => hashP P w p.2) = (L.map fun p => hashP P w p.2).take (SetTable.below t.place (way t.mask (hashP P w k) K)) ++ hashP P w k :: (L.map fun p => hashP P w p.2).drop (SetTable.below t.place (way t.mask (hashP P w k) K)) := by
      rw [List.map_append, List.map_cons, List.map_take, List.map_drop]
    generalize hpt : t.put (way t.mask (hashP P w k) K) = pt at q1 q3 q4 q5 q6 q7 q8 q9 ⊢
    obtain ⟨t1, p⟩ := pt
    dsimp only at q1 q3 q4 q5 q6 q7 q8 q9 ⊢
    subst q1
    generalize hpp : SetTable.below t.place (way t.mask (hashP P w k) K) = p at q2 q3 hin pm hhs ⊢
    have hlen : (L.take p ++ (x, k) :: L.drop p).length = L.length + 1 := pm.length_eq
    rw [← hhs] at q3
    have nd1 : ((L.take p ++ (x, k) :: L.drop p).map (·.2)).Nodup := by
      refine (pm.map (·.2)).nodup_iff.mpr ?_
      rw [List.map_cons]
      exact List.nodup_cons.mpr ⟨hm, R.nd⟩
    generalize SetTable.insertAt es p (hashP P w k, Value.ref x) = es1 at hin ⊢
    generalize L.take p ++ (x, k) :: L.drop p = L1 at pm hlen q3 nd1 hin
    have tup1 : ∀ h1, Heap.SameBut a s.heap h1 → ∀ p ∈ L1, IsP P w h1 p.2 p.1 := fun h1 sb p hp => by
      rcases List.mem_cons.mp (pm.mem_iff.mp hp) with e | hp
      · rw [e]; exact IsP.other hx ho hd sb
      · exact IsP.other (R.tup p hp) ho hd sb
    have hps : t1.place.size = L.length + 1 := by
      have h := q3.sz
      rw [List.length_map, hlen] at h
      exact h
    have fin : ∀ u : SetTable, u.place = t1.place → u.dummies = t1.dummies → u.mask = t1.mask → wpAny (model P w) A (do
        storeSet a es1 u
        if !false && u.tooFull then setRelay a (SetTable.grown (es.size + 1))
        return true) Q E s := fun u e1 e2 e3 =>
      tailP ho hex hd hsl R.tab.mok hroom hin (tabOk_congr q3 e1 e2 e3) (e3.trans q4) (by rw [e1]; exact hps) hlen nd1 tup1 hfew fun h' L' es' ep' t' sb R' pm' => hQ true h' L' es' ep' t' sb R' (fun z => absurd z hm) fun _ => pm'.trans pm
    have both : ∀ r : Bool, wpAny (model P w) A (do
        storeSet a es1 (if r then t1 else { t1 with plain := false })
        if !false && (if r then t1 else { t1 with plain := false }).tooFull then setRelay a (SetTable.grown (es.size + 1))
        return true) Q E s := fun r => by
      cases r
      · exact fin _ rfl rfl rfl
      · exact fin _ rfl rfl rfl
    by_cases hp1 : t1.plain = true
    · first
        | (refine wpAny_bind ?_; refine wp_if_pos hp1 ?_; refine hashBy hx fun r => ?_)
        | refine wp_if_pos hp1 (wpAny_bind (hashBy hx fun r => ?_))
      exact both r
    · first
        | (refine wpAny_bind ?_; refine wp_if_neg hp1 ?_; refine wpAny_pure ?_)
        | refine wp_if_neg hp1 (wpAny_bind (wpAny_pure ?_))
        | refine wp_if_neg hp1 ?_
      exact both true
end
end MyS

set_option Elab.async false
set_option linter.all false
set_option maxRecDepth 100000
set_option maxHeartbeats 4000000
/-! len(set(xs)) of a list or a tuple of tuples of texts, fewer than 64. -/
namespace MyS
open PySem PySem.Spec PyProof.Rows L2
section
variable {P : Program} {w : World} {A : Around} {E : Value → Shared → Prop} {s : Shared}
/-- the set at S behind the first i tuples -/
def JP (P : Program) (w : World) (h0 : Heap) (S : Addr) (ks : List (List Str)) (i : Nat) (h : Heap) : Prop :=
  ∃ L es ep t, PSet P w h S L es ep t ∧ (∀ p ∈ L, IsP P w h0 p.2 p.1) ∧ (∀ k, k ∈ L.map (·.2) ↔ k ∈ ks.take i) ∧ Cnt (ks.take i) L.length
theorem JP.adds {S : Addr} {ks : List (List Str)} {h0 : Heap} {i : Nat} {k : List Str} {x : Addr} (hx : ks[i]? = some k) (hb : ks.length < 64) (ht : IsP P w h0 k x) (hu : A.units < cLine) : Adds P w A S h0 (JP P w h0 S ks) i (.ref x) := by
  intro z Q E hJ hk hQ
  obtain ⟨L, es, ep, t, R, h0t, hM, hc⟩ := hJ
  have hi : i < ks.length := (List.getElem?_eq_some_iff.mp hx).1
  have hn := hc.le
  rw [List.length_take] at hn
  have hz : IsP P w z.heap k x := ht.keep fun o e => hk x o e
  unfold setAdd
  refine wpAny_holding ?_
  refine wpAny_bind (wpAny_pyHash_tuple hu hz ?_)
  refine addP (s := { z with toks := z.toks + (k.length + 1) }) R hz hu (by omega) fun b h' L' es' ep' t' sb R' c1 c2 => ?_
  refine hQ _ h' _ (Nat.le_add_right _ _) sb ⟨L', es', ep', t', R', ?_⟩
  rw [take_snoc hx]
  by_cases c : k ∈ L.map (·.2)
  · have e := c1 c
    subst e
    refine ⟨h0t, fun q => ?_, hc.old ((hM k).mp c)⟩
    rw [List.mem_append, List.mem_singleton, hM q]
    exact ⟨.inl, fun h => h.elim id fun e => e ▸ (hM k).mp c⟩
  · have pm := c2 c
    refine ⟨fun p hp => ?_, fun q => ?_, ?_⟩
    · rcases List.mem_cons.mp (pm.mem_iff.mp hp) with e | hp
      · rw [e]; exact ht
      · exact h0t p hp
    · rw [(pm.map (·.2)).mem_iff, List.map_cons, List.mem_cons, List.mem_append, List.mem_singleton, hM q]
      exact ⟨fun h => h.elim .inr .inl, fun h => h.elim .inr .inl⟩
    · rw [pm.length_eq, List.length_cons]
      exact hc.new fun m => c ((hM k).mpr m)
theorem JP.keeps {S : Addr} {ks : List (List Str)} {h0 : Heap} : KeepsJ S h0 (JP P w h0 S ks) := by
  rintro i h h' ⟨L, es, ep, t, R, h0t, r⟩ k1 k2
  obtain ⟨o, ho, r1⟩ := R.ob
  exact ⟨L, es, ep, t, ⟨⟨o, k1 o ho, r1⟩, R.rows, R.tab, R.nd, fun p hp => (h0t p hp).keep fun o e => k2 p.1 o e, R.room, R.few⟩, h0t, r⟩
theorem JP.zero {S : Addr} {ks : List (List Str)} {h h0 : Heap} (ho : h.get? S = some (freshSet w)) : JP P w h0 S ks 0 h := by
  refine ⟨[], #[], 0, _, ⟨⟨_, ho, ⟨rfl, rfl, rfl⟩, rfl⟩, rfl, ⟨List.Pairwise.nil, rfl, rfl, .inl rfl, fun x hx => (by cases hx), fun i h j hi => (by simp at hi)⟩, List.nodup_nil, fun p hp => (by cases hp), (by show 0 * 5 < 7 * 3; decide), (by show 0 < 64; decide)⟩, fun p hp => (by cases hp), fun k => by simp, ?_⟩
  rw [List.take_zero]
  exact Cnt.nil
end
theorem strItems_of_vals (P : Program) (w : World) : ∀ {k : List Str} {us : List Value}, Vals (k.map V.str) us → ItemsAre (PySem.strKind P w) k us
  | [], _, .nil => .nil
  | n :: k, _, .cons r t => by
    obtain ⟨tk, rfl⟩ := r
    exact .cons (strKind_is P w n tk) (strItems_of_vals P w t)
section
variable {X : Cx}
theorem Inv_isP {pins : List (Addr × Obj)} {σ : L2.St} {H : Hp} {s : Shared} {b : Addr} {k : List Str} (I : Inv X pins σ H s) (h : SqT X.K H b (k.map V.str)) : IsP X.prog X.w s.heap k b := by
  obtain ⟨its, r, ⟨o, ho, hc, n, hd⟩, _⟩ := I.tuple h
  exact ⟨o, its.toArray, n, ho, hc, hd, by simpa using strItems_of_vals _ _ r⟩
/-- len(set(xs)), xs tuples of texts -/
def tLenSetP (K : PySem.W.Frag) (ta : TE) : TE := fun σ H Q => ta σ H fun x H1 => ∃ (l : Addr) (ks : List (Addr × List Str)), x = .ref l ∧ (SqL K H1 l (ks.map fun p => V.ref p.1) ∨ SqT K H1 l (ks.map fun p => V.ref p.1)) ∧ (∀ p ∈ ks, SqT K H1 p.1 (p.2.map V.str)) ∧ ks.length < 64 ∧ ∀ n, Cnt (ks.map (·.2)) n → Q (.int (n : Nat)) H1
theorem refsP : ∀ {ks : List (Addr × List Str)} {us : List Value}, Vals (ks.map fun p => V.ref p.1) us → us = ks.map fun p => Value.ref p.1
  | [], _, .nil => rfl
  | p :: ks, _, .cons r t => by
    cases r
    rw [refsP t] <;> rfl
theorem pe_lenSetP {a : Expr} {ta : TE} {p p2 q pos : Pos} (hc : X.calm = true) (hu : X.A.units + 64 < cLine) (hm : X.mg "len" = none) (hm2 : X.mg "set" = none) (ha : PE X a ta) (hg : Gl X "len" := by rfl) (hg2 : Gl X "set" := by rfl)
    (na : starEach [a] X.env = (false, eval a X.env) :: starEach [] X.env := by rfl) : PE X (.Call (.Name "len" p) [.Call (.Name "set" p2) [a] [] q] [] pos) (tLenSetP X.K ta) := by
  refine ⟨fun pins s σ H Q I h => ?_⟩
  refine Call_ (ld_blt I hg hm boot_len ?_)
  refine PyProof.Rows.callWith_builtin1 (PyProof.Rows.args_cons ?_ rfl) rfl rfl
  refine Call_ (ld_blt I hg2 hm2 boot_set ?_)
  refine PyProof.Rows.callWith_type1 (PyProof.Rows.args_cons (thn (ha.run pins s σ H _ I h) fun v s1 ⟨x, H1, I1, r1, q1⟩ => PyProof.Rows.args_nil ?_) na) na rfl
  obtain ⟨l, ks, rfl, hq, ht, h1, q1⟩ := q1
  cases r1
  have go : ∀ (its : List Value), Vals (ks.map fun p => V.ref p.1) its → (s1.heap.IsList l its.toArray ∨ s1.heap.IsTuple l its.toArray) → wpAny (model X.prog X.w) X.A (call (.type "set") [.ref l])
      (fun v s₂ => wpAny (model X.prog X.w) X.A (spliced (backTo pos (starEach [] X.env))) (fun vs s₃ => wpAny (model X.prog X.w) X.A (call (.builtin "len") (v :: vs)) (EP X pins σ Q) X.xe s₃) X.xe s₂) X.xe s1 := fun its r hl => by
    have hits := refsP r
    have hsz : its.toArray.size = ks.length := by rw [List.size_toArray, hits, List.length_map]
    refine call_setJ (J := JP X.prog X.w s1.heap s1.heap.objs.size (ks.map (·.2))) (I1.ok.hd hc) hl (fun h ho => JP.zero ho) JP.keeps (fun h hJ => ?_) (fun A' hA i v hv => ?_) fun h' tk hJ hk _ => ?_
    · obtain ⟨L, es, ep, t, R, _⟩ := hJ
      obtain ⟨o, ho, _⟩ := R.ob
      exact ⟨o, ho⟩
    · have e1 : (ks.map fun p => Value.ref p.1)[i]? = some v := by rw [← hits]; simpa using hv
      rw [List.getElem?_map] at e1
      obtain ⟨p, hp, rfl⟩ := Option.map_eq_some_iff.mp e1
      exact JP.adds (k := p.2) (by rw [List.getElem?_map, hp]; rfl) (by rw [List.length_map]; exact h1) (Inv_isP I1 (ht p (List.mem_of_getElem? hp))) (by omega)
    · rw [hsz] at hJ
      obtain ⟨L, es, ep, t, R, _, hM, hcn⟩ := hJ
      rw [show ks.length = (ks.map (·.2)).length by rw [List.length_map], List.take_length] at hcn
      have I2 : Inv X pins σ H1 { s1 with heap := h', toks := tk } := I1.kept fun b o e => hk b o e
      refine PyProof.Rows.args_nil ?_
      have hle := hcn.le
      obtain ⟨o, ho, hex, hd⟩ := R.ob
      have hfew := R.few
      refine call_len_set ho hex hd (R.fits (s := { s1 with heap := h', toks := tk })) (by rw [R.size (s := { s1 with heap := h', toks := tk })]; omega) ⟨.int (L.length : Nat), H1, I2.tok _, ⟨_, by rw [R.size (s := { s1 with heap := h', toks := tk })]⟩, q1 L.length hcn⟩
  rcases hq with hq | hq
  · obtain ⟨its, r, pl, hz⟩ := I1.list hq
    exact go its r (.inl pl.isList)
  · obtain ⟨its, r, pl, hz⟩ := I1.tuple hq
    exact go its r (.inr (by first | exact pl | exact pl.isTuple))
end
end MyS

set_option Elab.async false
set_option linter.all false
set_option maxRecDepth 100000
set_option maxHeartbeats 4000000
/-! sorted(xs) of a list or a tuple: of texts, of pairs of texts, of tuples told apart by their first text. -/
namespace MyS
open PySem PySem.Spec PyProof.Rows L2
open SrtO hiding Str
/-! ### the order of texts -/
def slt (a b : Str) : Bool := decide (a.cps.toList < b.cps.toList)
theorem str_ext {a b : Str} (h : a.cps.toList = b.cps.toList) : a = b := by
  obtain ⟨x⟩ := a
  obtain ⟨y⟩ := b
  exact congrArg PySem.Str.mk (Array.toList_inj.mp h)
theorem slt_iff {a b : Str} : slt a b = true ↔ a.cps.toList < b.cps.toList := decide_eq_true_iff
theorem slt_no {a b : Str} : slt a b = false ↔ ¬ a.cps.toList < b.cps.toList := decide_eq_false_iff_not
theorem slt_irr (a : Str) : slt a a = false := slt_no.mpr (List.lt_irrefl _)
theorem slt_asym {a b : Str} (h : slt a b = true) : slt b a = false := slt_no.mpr fun k => List.lt_irrefl _ (List.lt_trans (slt_iff.mp h) k)
theorem slt_tri {a b : Str} (h1 : slt a b = false) (h2 : slt b a = false) : a = b :=
  str_ext (List.le_antisymm (List.not_lt.mp (slt_no.mp h2)) (List.not_lt.mp (slt_no.mp h1)))
theorem slt_ntr {x y z : Str} (h1 : slt y x = false) (h2 : slt z y = false) : slt z x = false :=
  slt_no.mpr (List.not_lt.mpr (List.le_trans (List.not_lt.mp (slt_no.mp h1)) (List.not_lt.mp (slt_no.mp h2))))
theorem slt_trans {x y z : Str} (h1 : slt x y = true) (h2 : slt y z = true) : slt x z = true := slt_iff.mpr (List.lt_trans (slt_iff.mp h1) (slt_iff.mp h2))
/-- pairs: the first, then the second -/
def slt2 (p q : Str × Str) : Bool := if p.1 = q.1 then slt p.2 q.2 else slt p.1 q.1
theorem swo_s : Swo slt := ⟨fun x y h => slt_asym h, fun x y z h1 h2 => slt_ntr h1 h2⟩
theorem slt2_eq {p q : Str × Str} (h : p.1 = q.1) : slt2 p q = slt p.2 q.2 := if_pos h
theorem slt2_ne {p q : Str × Str} (h : ¬ p.1 = q.1) : slt2 p q = slt p.1 q.1 := if_neg h
theorem swo_s2 : Swo slt2 := by
  refine ⟨fun x y h => ?_, fun x y z h1 h2 => ?_⟩
  · by_cases e : x.1 = y.1
    · rw [slt2_eq e] at h
      rw [slt2_eq e.symm]
      exact slt_asym h
    · rw [slt2_ne e] at h
      rw [slt2_ne (fun c => e c.symm)]
      exact slt_asym h
  · by_cases e : z.1 = x.1
    · rw [slt2_eq e]
      by_cases e1 : y.1 = x.1
      · rw [slt2_eq e1] at h1
        rw [slt2_eq (e.trans e1.symm)] at h2
        exact slt_ntr h1 h2
      · rw [slt2_ne e1] at h1
        rw [slt2_ne (fun c => e1 (c.symm.trans e)), e] at h2
        exact absurd (slt_tri h1 h2) e1
    · rw [slt2_ne e]
      by_cases e1 : y.1 = x.1
      · rw [slt2_ne (fun c => e (c.trans e1)), e1] at h2
        exact h2
      · rw [slt2_ne e1] at h1
        by_cases e2 : z.1 = y.1
        · rw [e2]; exact h1
        · rw [slt2_ne e2] at h2
          exact slt_ntr h1 h2
theorem swo_of {α β : Type} {lt : β → β → Bool} (O : Swo lt) (f : α → β) : Swo fun x y => lt (f x) (f y) := ⟨fun x y => O.asym (f x) (f y), fun x y z => O.tr (f x) (f y) (f z)⟩
section
variable {prog : Program} {w : World} {A : Around} {E : Value → Shared → Prop} {s : Shared}
/-- collecting a tuple -/
theorem collect_tup {l : Addr} {vs : List Value} {Q : List Value → Shared → Prop} (hl : s.heap.IsTuple l vs.toArray)
    (h : Q vs { s with heap := (s.heap.push (seqObj "list" #[] 0)).update s.heap.objs.size (Obj.mapSeq (· ++ vs.toArray)) }) (hsz : vs.length ≤ sizeLine) :
    wpAny (model prog w) A (collect (.ref l)) Q E s := by
  obtain ⟨o, ho, hc, n, hd⟩ := id hl
  unfold collect
  refine wpAny_bind (wpAny_runValue (codeAny_builtin entry_proto_collect' ?_))
  show wpAny _ _ (do again (.builtin "list.__iadd__" ⟨[← newList [], .ref l], []⟩)) _ _ s
  refine wpAny_bind (wpAny_newList (wpAny_pure ⟨Code.quiet_builtin _ (by decide +kernel), codeAny_builtin entry_list_iadd' ?_⟩))
  show wpAny _ _ (Builtin.List.listExtendWith (.ref s.heap.objs.size) (.ref l) (.ref s.heap.objs.size)) _ _ { s with heap := s.heap.push (seqObj "list" #[] 0) }
  unfold Builtin.List.listExtendWith
  have ho' : (s.heap.push (seqObj "list" #[] 0)).get? l = some o := Heap.get?_push_of_some _ ho
  refine wpAny_bind (wpAny_typeOf (T := "tuple") ⟨o, ho', hc⟩ ?_)
  have ht : (Value.type "tuple" == Value.type "tuple") = true := by rfl
  rw [if_pos (by rw [ht]; simp)]
  refine wpAny_bind (listItems_at ho' hd ?_)
  refine wpAny_bind (listItems_at (xs := #[]) (n := 0) (Heap.get?_push_size _ rfl) rfl ?_)
  rw [if_neg (by simp)]
  refine wpAny_bind (listUpdate_at (xs := #[]) (n := 0) (Heap.get?_push_size _ rfl) rfl ?_ (Nat.zero_le _) (by show (#[] ++ vs.toArray).size ≤ sizeLine + 1; simp only [Array.size_append, List.size_toArray, List.length_nil]; omega))
  refine wpAny_pure ?_
  show wpAny (model prog w) A (do
      let o ← load s.heap.objs.size
      match o.data with
      | .seq xs _ => pure xs.toList
      | _ => unsupported "internal:collect") Q E { s with heap := (s.heap.push (seqObj "list" #[] 0)).update s.heap.objs.size (Obj.mapSeq (· ++ vs.toArray)) }
  refine wpAny_bind (wpAny_load (get?_update_seq (Heap.get?_push_size _ rfl) _) ?_)
  show wpAny _ _ (pure ((#[] : Array Value) ++ vs.toArray).toList) Q E _
  rw [show ((#[] : Array Value) ++ vs.toArray).toList = vs by simp]
  exact wpAny_pure h
/-- sorted(l), l a list or a tuple -/
theorem sorted_seq {l : Addr} {vs : List Value} {ltv : Value → Value → Bool} {Q : Value → Shared → Prop} (O : Swo ltv) (hl : s.heap.IsList l vs.toArray ∨ s.heap.IsTuple l vs.toArray) (hz : vs.length ≤ sizeLine)
    (hS : 2 ≤ vs.length → ∀ (h₁ : Heap) (a : Addr), h₁.get? a = some (seqObj "list" vs.toArray 0) → (∀ b o, s.heap.get? b = some o → b ≠ a ∧ h₁.get? b = some o) → SortableO prog w A.in1.in1 { s with heap := h₁ } a vs ltv)
    (h : ∀ out : List Value, Srtd ltv out → Stb ltv out vs → Q (.ref (s.heap.objs.size + 1)) { s with heap := sortedAll s.heap vs out.toArray }) :
    wpAny (model prog w) A (call (.builtin "sorted") [.ref l]) Q E s := by
  rcases hl with hl | hl
  · exact sorted_ord O hl hz hS h
  refine Calls.call_function_entry kind_sorted plain_sorted entry_sorted (args_sorted1 _) ?_
  unfold Builtin.«sorted»
  refine wpAny_bind (m := checkCount "sorted" 1 1 _) (wpAny_pure ?_)
  refine wpAny_bind (collect_tup hl ?_ hz)
  refine wpAny_bind (wpAny_newList ?_ hz)
  have hsz : ((s.heap.push (seqObj "list" #[] 0)).update s.heap.objs.size (Obj.mapSeq (· ++ vs.toArray))).objs.size = s.heap.objs.size + 1 := by
    rw [Heap.size_update, size_push']
  have hoL : (((s.heap.push (seqObj "list" #[] 0)).update s.heap.objs.size (Obj.mapSeq (· ++ vs.toArray))).push (seqObj "list" vs.toArray 0)).get? (s.heap.objs.size + 1) = some (seqObj "list" vs.toArray 0) := by
    rw [← hsz]; exact Heap.get?_push_size _ rfl
  have keep : ∀ b o, s.heap.get? b = some o → b ≠ s.heap.objs.size + 1 ∧ (((s.heap.push (seqObj "list" #[] 0)).update s.heap.objs.size (Obj.mapSeq (· ++ vs.toArray))).push (seqObj "list" vs.toArray 0)).get? b = some o := fun b o q => by
    have hlt : b < s.heap.objs.size := Heap.lt_size q
    refine ⟨Nat.ne_of_lt (Nat.lt_succ_of_lt hlt), Heap.get?_push_of_some _ ?_⟩
    rw [Heap.get?_update_ne _ _ _ _ (Nat.ne_of_lt hlt)]
    exact Heap.get?_push_of_some _ q
  show wpAny _ _ _ _ _ { s with heap := ((s.heap.push (seqObj "list" #[] 0)).update s.heap.objs.size (Obj.mapSeq (· ++ vs.toArray))).push (seqObj "list" vs.toArray 0) }
  rw [hsz]
  refine wpAny_bind (wpAny_holding (wpAny_call_entry slot_list_sort ⟨_, hoL, rfl⟩ entry_list_sort (list_sort_ord O hoL hz (fun h2 => hS h2 _ _ hoL keep) fun out hs hb => ⟨_, rfl, ?_⟩) (args_list_sort _)))
  exact wpAny_pure ⟨_, rfl, h out hs hb⟩
/-! ### texts -/
def sv : Value → Str
  | .str x _ => x
  | _ => ⟨#[]⟩
theorem strs_cmp {vs : List Value} (hI : ∀ v ∈ vs, ∃ x t, v = Value.str x t) : Cmp prog w A s oneType' (fun p => p.1 ∈ vs) (lt2 fun v u => slt (sv v) (sv u)) := by
  intro p q hm hm'
  obtain ⟨a, t, e⟩ := hI _ hm
  obtain ⟨b, u, e'⟩ := hI _ hm'
  show wpAny (model prog w) A (keyLt' oneType' p.1 q.1) (fun r s' => s' = s ∧ r = slt (sv p.1) (sv q.1)) (fun _ _ => False) s
  rw [e, e', keyLt'_oneType]
  exact oneLt_str ⟨rfl, rfl⟩
theorem strs_sortable {a : Addr} {vs : List Value} {ss : List Str} (hI : StrsAre vs ss) (h2 : 2 ≤ vs.length) : SortableO prog w A s a vs fun v u => slt (sv v) (sv u) := by
  intro h' _
  refine ⟨oneType', fun Q E hq => ?_, strs_cmp hI.all⟩
  match vs, hI, h2 with
  | v1 :: v2 :: rest, hI, _ =>
    rw [keyKind_strs hI]
    exact wpAny_pure hq
  | [], _, h => exact absurd h (by decide)
  | [v], _, h => exact absurd h (by simp)
theorem sv_strs : ∀ {vs : List Value} {ss : List Str}, StrsAre vs ss → vs.map sv = ss
  | _, _, .nil => rfl
  | _, _, .cons n t r => congrArg (n :: ·) (sv_strs r)
theorem strs_sv : ∀ {vs : List Value}, (∀ v ∈ vs, ∃ x t, v = Value.str x t) → StrsAre vs (vs.map sv)
  | [], _ => .nil
  | v :: vs, h => by
    obtain ⟨i, t, e⟩ := h v List.mem_cons_self
    subst e
    exact .cons i t (strs_sv fun u hu => h u (List.mem_cons_of_mem _ hu))
end
/-- ascending -/
def Asc (ys : List Str) : Prop := ys.Pairwise fun a b => slt b a = false
section
variable {X : Cx}
/-- sorted(xs), texts, a list or a tuple of them -/
def rSortSQ (K : PySem.W.Frag) : List V → Hp → VK → Prop := fun vs H Q => ∃ (a : Addr) (xs : List Str), vs = [V.ref a] ∧ (SqL K H a (xs.map V.str) ∨ SqT K H a (xs.map V.str)) ∧
  ∀ (ys : List Str) (p : Addr), ys.Perm xs → Asc ys → H p = none → Q (.ref p) (upd H p (.lst (ys.map V.str)))
theorem cr_sortSQ : CallR X (.builtin "sorted") (rSortSQ X.K) := by
  intro pins s σ H vs us Q I r h
  obtain ⟨a, xs, rfl, hs, q⟩ := h
  rw [Vals.ref1 r]
  have go : ∀ (its : List Value), Vals (xs.map V.str) its → (s.heap.IsList a its.toArray ∨ s.heap.IsTuple a its.toArray) → (xs.map V.str).length ≤ sizeLine → wpAny (model X.prog X.w) X.A (call (.builtin "sorted") [.ref a]) (EP X pins σ Q) X.xe s := fun its rv hl hz => by
    have hi := rv.strs
    refine sorted_seq (swo_of swo_s sv) hl (by rw [← rv.length]; exact hz) (fun h2 h₁ a' _ _ => strs_sortable hi h2) fun out h1 h2 => ?_
    have ho : ∀ v ∈ out, ∃ x t, v = Value.str x t := fun v hv => hi.all v (h2.perm.mem_iff.mp hv)
    have pm : (out.map sv).Perm xs := by
      have q := h2.perm.map sv
      rw [sv_strs hi] at q
      exact q
    obtain ⟨ep, he'⟩ := PyProof.Rows.sortedAll_at s.heap its out.toArray
    have hlen : ((out.map sv).map V.str).length ≤ sizeLine := by
      rw [List.length_map, pm.length_eq]
      rw [List.length_map] at hz
      exact hz
    exact ⟨.ref _, upd H (s.heap.objs.size + 1) (.lst ((out.map sv).map V.str)), I.laid (t' := s.toks) (fun _ _ => PyProof.Rows.sortedAll_old) (Nat.le_succ _) ⟨hlen, out, ep, vals_of_strs (strs_sv ho), he'⟩, rfl, q _ _ pm (List.pairwise_map.mpr h1) (I.hok.fresh (Nat.le_succ _))⟩
  rcases hs with hs | hs
  · obtain ⟨its, rv, pl, hz⟩ := I.list hs
    exact go its rv (.inl pl.isList) (by first | exact hz | (rw [rv.length]; exact hz))
  · obtain ⟨its, rv, pl, hz⟩ := I.tuple hs
    exact go its rv (.inr (by first | exact pl | exact pl.isTuple)) (by first | exact hz | (rw [rv.length]; exact hz))
end
end MyS

set_option Elab.async false
set_option linter.all false
set_option maxRecDepth 100000
set_option maxHeartbeats 4000000
/-! sorted(xs), xs a list of tuples: pairs of texts, or tuples told apart by their first text. -/
namespace MyS
open PySem PySem.Spec PyProof.Rows L2
open SrtO hiding Str
section
variable {prog : Program} {w : World} {A : Around} {E : Value → Shared → Prop} {s : Shared}
/-- v is a tuple with these items -/
def IsTp (h : Heap) (v : Value) (a : Str) (r : List Value) : Prop := ∃ (b : Addr) (o : Obj) (xs : Array Value) (n : Nat) (t : Tok), v = .ref b ∧ h.get? b = some o ∧ o.cls = .type "tuple" ∧ o.data = .seq xs n ∧ xs.toList = .str a t :: r
theorem IsTp.keeps {h h' : Heap} {v : Value} {a : Str} {r : List Value} (x : IsTp h v a r) (k : ∀ b o, h.get? b = some o → o.cls = .type "tuple" → h'.get? b = some o) : IsTp h' v a r := by
  obtain ⟨b, o, xs, n, t, e, ho, hc, q⟩ := x
  exact ⟨b, o, xs, n, t, e, k b o ho hc, hc, q⟩
theorem firstsS {h : Heap} : ∀ {vs : List Value}, (∀ v ∈ vs, ∃ a r, IsTp h v a r) → ∃ fs : List Value, PySem.W.KatTups h vs fs ∧ fs.length = vs.length ∧ ∀ f ∈ fs, ∃ x t, f = Value.str x t
  | [], _ => ⟨[], PySem.W.KatTups.nil, rfl, fun _ hm => by simp at hm⟩
  | v :: vs, hp => by
    obtain ⟨fs, h1, h2, h3⟩ := firstsS (vs := vs) fun v' hm => hp v' (List.mem_cons_of_mem _ hm)
    obtain ⟨a, r, b, o, xs, n, t, e, ho, hc, hd, hx⟩ := hp v (List.mem_cons_self ..)
    subst e
    refine ⟨.str a t :: fs, PySem.W.KatTups.cons ho hc hd (by rw [← Array.getElem?_toList, hx]; rfl) h1, by rw [List.length_cons, List.length_cons, h2], fun f hm => ?_⟩
    rcases List.mem_cons.mp hm with rfl | hm
    · exact ⟨a, t, rfl⟩
    · exact h3 f hm
theorem kat_self {b fin : Bool} {Q : Bool → Shared → Prop} : ∀ (r : List Value) (i : Nat), Q fin s → PySem.W.KatLex prog w A b fin Q (r.zip r) i s
  | [], _, h => PySem.W.kat_nil h
  | v :: r, i, h => PySem.W.kat_cons (SeqAt.EqAt.same v prog w _ _ (PySem.W.kat_yes (kat_self r (i + 1) h)))
theorem slt_eqF {a b : Str} (h : a = b) : slt a b = false := by rw [h]; exact slt_irr b
/-- tuples told apart by their first text -/
theorem first_cmp {vs : List Value} {k : Value → Str} (hp : ∀ v ∈ vs, ∃ r, IsTp s.heap v (k v) r) (ne : ∀ v ∈ vs, ∀ u ∈ vs, k v = k u → v = u) : Cmp prog w A s (tuples' true) (fun p => p.1 ∈ vs) (lt2 fun v u => slt (k v) (k u)) := by
  intro p q hm hm'
  obtain ⟨r, b, o, xs, n, t, e, ho, hc, hd, hx⟩ := hp _ hm
  obtain ⟨r', b', o', xs', n', t', e', ho', hc', hd', hx'⟩ := hp _ hm'
  have hne := ne _ hm _ hm'
  show wpAny (model prog w) A (keyLt' (tuples' true) p.1 q.1) (fun r s' => s' = s ∧ r = slt (k p.1) (k q.1)) (fun _ _ => False) s
  generalize k p.1 = x at *
  generalize k q.1 = y at *
  rw [e, e'] at hne ⊢
  refine PySem.W.kat_lt ho hd ho' hd' ?_
  rw [hx, hx']
  show PySem.W.KatLex prog w A true (decide (xs.size < xs'.size)) _ ((.str x t, .str y t') :: r.zip r') 0 s
  refine PySem.W.kat_cons (SeqAt.EqAt.str_str x t y t' prog w _ _ ?_)
  refine PySem.W.kat_go (fun e1 => ?_) (fun e1 => ?_)
  · have ex : x = y := by simpa using e1
    have eb : Value.ref b = Value.ref b' := hne ex
    injection eb with eb
    subst eb
    obtain rfl : o = o' := Option.some.inj (ho.symm.trans ho')
    have e2 : PySem.Data.seq xs n = PySem.Data.seq xs' n' := hd.symm.trans hd'
    injection e2 with e2 e3
    subst e2
    have e4 := (List.cons.inj (hx.symm.trans hx')).2
    subst e4
    refine PySem.W.kat_yes (kat_self r 1 ⟨rfl, ?_⟩)
    rw [slt_eqF ex]
    exact decide_eq_false (Nat.lt_irrefl _)
  · exact PySem.W.kat_no (oneLt_str ⟨rfl, rfl⟩)
/-- pairs of texts -/
theorem pairs_cmp {vs : List Value} {k : Value → Str × Str} (hp : ∀ v ∈ vs, ∃ t, IsTp s.heap v (k v).1 [.str (k v).2 t]) : Cmp prog w A s (tuples' true) (fun p => p.1 ∈ vs) (lt2 fun v u => slt2 (k v) (k u)) := by
  intro p q hm hm'
  obtain ⟨t2, b, o, xs, n, t, e, ho, hc, hd, hx⟩ := hp _ hm
  obtain ⟨t2', b', o', xs', n', t', e', ho', hc', hd', hx'⟩ := hp _ hm'
  show wpAny (model prog w) A (keyLt' (tuples' true) p.1 q.1) (fun r s' => s' = s ∧ r = slt2 (k p.1) (k q.1)) (fun _ _ => False) s
  generalize k p.1 = x at *
  generalize k q.1 = y at *
  rw [e, e']
  have sz : xs.size = 2 := by rw [← Array.length_toList, hx]; rfl
  have sz' : xs'.size = 2 := by rw [← Array.length_toList, hx']; rfl
  refine PySem.W.kat_lt ho hd ho' hd' ?_
  rw [hx, hx', sz, sz']
  show PySem.W.KatLex prog w A true (decide (2 < 2)) _ [(.str x.1 t, .str y.1 t'), (.str x.2 t2, .str y.2 t2')] 0 s
  refine PySem.W.kat_cons (SeqAt.EqAt.str_str x.1 t y.1 t' prog w _ _ ?_)
  refine PySem.W.kat_go (fun e1 => ?_) (fun e1 => ?_)
  · have ex : x.1 = y.1 := by simpa using e1
    refine PySem.W.kat_yes (PySem.W.kat_cons (SeqAt.EqAt.str_str x.2 t2 y.2 t2' prog w _ _ ?_))
    refine PySem.W.kat_go (fun e2 => ?_) (fun e2 => ?_)
    · have ey : x.2 = y.2 := by simpa using e2
      refine PySem.W.kat_yes (PySem.W.kat_nil ⟨rfl, ?_⟩)
      rw [slt2_eq ex, slt_eqF ey]
      rfl
    · refine PySem.W.kat_no (PySem.W.kat_one _ _ ?_)
      refine PyProof.Rows.lt_str ?_
      exact ⟨rfl, (slt2_eq ex).symm⟩
  · have ex : ¬ x.1 = y.1 := by simpa using e1
    exact PySem.W.kat_no (oneLt_str ⟨rfl, (slt2_ne ex).symm⟩)
theorem tps_kind {vs : List Value} (h0 : 0 < vs.length) (hp : ∀ v ∈ vs, ∃ a r, IsTp s.heap v a r) {Q : SortKind → Shared → Prop} (hq : Q (tuples' true) s) : wpAny (model prog w) A (keyKind' vs.toArray) Q E s := by
  obtain ⟨fs, h1, h2, h3⟩ := firstsS hp
  refine PySem.W.kat_kind (T := .type "str") h1 (by omega) (fun f hm => ?_) (by rfl) ?_
  · obtain ⟨x, t, rfl⟩ := h3 f hm
    exact PySem.W.Looks.now
  · have e : (Value.type "str" != Value.type "tuple") = true := by first | decide +kernel | rfl | decide
    rw [e]
    exact hq
theorem first_sortable {a : Addr} {vs : List Value} {k : Value → Str} (h0 : 0 < vs.length) (hp : ∀ v ∈ vs, ∃ r, IsTp s.heap v (k v) r) (ne : ∀ v ∈ vs, ∀ u ∈ vs, k v = k u → v = u) (ha : ∀ o, s.heap.get? a = some o → o.cls ≠ .type "tuple") : SortableO prog w A s a vs fun v u => slt (k v) (k u) := by
  intro h' keep
  have hp' : ∀ v ∈ vs, ∃ r, IsTp h' v (k v) r := fun v hm => let ⟨r, z⟩ := hp v hm; ⟨r, z.keeps fun b o e c => keep b o (fun z => by subst z; exact ha o e c) e⟩
  exact ⟨tuples' true, fun Q E hq => tps_kind h0 (fun v hm => let ⟨r, z⟩ := hp' v hm; ⟨_, r, z⟩) hq, first_cmp hp' ne⟩
theorem pairs_sortable {a : Addr} {vs : List Value} {k : Value → Str × Str} (h0 : 0 < vs.length) (hp : ∀ v ∈ vs, ∃ t, IsTp s.heap v (k v).1 [.str (k v).2 t]) (ha : ∀ o, s.heap.get? a = some o → o.cls ≠ .type "tuple") : SortableO prog w A s a vs fun v u => slt2 (k v) (k u) := by
  intro h' keep
  have hp' : ∀ v ∈ vs, ∃ t, IsTp h' v (k v).1 [.str (k v).2 t] := fun v hm => let ⟨r, z⟩ := hp v hm; ⟨r, z.keeps fun b o e c => keep b o (fun z => by subst z; exact ha o e c) e⟩
  exact ⟨tuples' true, fun Q E hq => tps_kind h0 (fun v hm => let ⟨r, z⟩ := hp' v hm; ⟨_, _, z⟩) hq, pairs_cmp hp'⟩
end
section
variable {X : Cx}
theorem noTup {h : Heap} {a : Addr} {vs : List Value} (ha : h.get? a = some (seqObj "list" vs.toArray 0)) : ∀ o, h.get? a = some o → o.cls ≠ .type "tuple" := fun o e c => by
  have e' : some o = some (seqObj "list" vs.toArray 0) := e.symm.trans ha
  cases e'
  exact absurd (Value.type.inj c) (by decide)
/-- sorted(xs), xs a list of tuples told apart by their first text -/
def rSortR (K : PySem.W.Frag) : List V → Hp → VK → Prop := fun vs H Q => ∃ (a : Addr) (xs : List V) (k : V → Str), vs = [V.ref a] ∧ SqL K H a xs ∧ (∀ x ∈ xs, ∃ t r, x = V.ref t ∧ SqT K H t (.str (k x) :: r)) ∧ (∀ x ∈ xs, ∀ y ∈ xs, k x = k y → x = y) ∧
  ∀ ys p, ys.Perm xs → ys.Pairwise (fun x y => slt (k y) (k x) = false) → H p = none → Q (.ref p) (upd H p (.lst ys))
theorem cr_sortR : CallR X (.builtin "sorted") (rSortR X.K) := by
  intro pins s σ H vs us Q I r h
  obtain ⟨a, xs, k, rfl, hs, hx, ne, q⟩ := h
  obtain ⟨its, rv, hl, hz⟩ := I.list hs
  rw [Vals.ref1 r]
  obtain ⟨e1, e2⟩ := refs_back rv fun x m => by
    obtain ⟨t, r, e, _⟩ := hx x m
    exact ⟨t, e⟩
  have hp : ∀ v ∈ its, ∃ r, IsTp s.heap v (k (backV v)) r := fun v hv => by
    obtain ⟨t, rfl⟩ := e2 v hv
    have hm : V.ref t ∈ xs := by rw [e1]; exact List.mem_map.mpr ⟨_, hv, rfl⟩
    obtain ⟨t', r, e, ht⟩ := hx _ hm
    cases e
    obtain ⟨its2, r2, ⟨o, ho, hc, n, hd⟩, _⟩ := I.tuple ht
    cases r2 with
    | cons r0 r3 =>
      obtain ⟨tk, rfl⟩ := r0
      exact ⟨_, t, o, _, n, tk, rfl, ho, hc, hd, rfl⟩
  have ne' : ∀ v ∈ its, ∀ u ∈ its, k (backV v) = k (backV u) → v = u := fun v hv u hu e => by
    obtain ⟨t, rfl⟩ := e2 v hv
    obtain ⟨t', rfl⟩ := e2 u hu
    have q := ne (.ref t) (by rw [e1]; exact List.mem_map.mpr ⟨_, hv, rfl⟩) (.ref t') (by rw [e1]; exact List.mem_map.mpr ⟨_, hu, rfl⟩) e
    injection q with q
    rw [q]
  refine sorted_seq (swo_of swo_s fun u => k (backV u)) (.inl hl.isList) (by rw [← rv.length]; exact hz) (fun h2 h₁ a' ha' kk => first_sortable (by omega) (fun v hv => let ⟨r, z⟩ := hp v hv; ⟨r, z.keeps fun b o e _ => (kk b o e).2⟩) ne' (noTup ha')) fun out h1 h2 => ?_
  have h3 : ∀ u ∈ out, ∃ a, u = Value.ref a := fun u hu => e2 u (h2.perm.mem_iff.mp hu)
  obtain ⟨ep, he'⟩ := PyProof.Rows.sortedAll_at s.heap its out.toArray
  have pm : (out.map backV).Perm xs := by
    rw [e1]
    exact h2.perm.map backV
  refine ⟨.ref _, upd H (s.heap.objs.size + 1) (.lst (out.map backV)), I.laid (t' := s.toks) (fun _ _ => PyProof.Rows.sortedAll_old) (Nat.le_succ _) ⟨by rw [pm.length_eq]; exact hz, out, ep, vals_back h3, he'⟩, rfl, q _ _ pm (List.pairwise_map.mpr h1) (I.hok.fresh (Nat.le_succ _))⟩
/-- sorted(xs), xs a list of pairs of texts -/
def rSortB (K : PySem.W.Frag) : List V → Hp → VK → Prop := fun vs H Q => ∃ (a : Addr) (xs : List V) (k : V → Str × Str), vs = [V.ref a] ∧ SqL K H a xs ∧ (∀ x ∈ xs, ∃ t, x = V.ref t ∧ SqT K H t [.str (k x).1, .str (k x).2]) ∧
  ∀ ys p, ys.Perm xs → ys.Pairwise (fun x y => slt2 (k y) (k x) = false) → H p = none → Q (.ref p) (upd H p (.lst ys))
theorem cr_sortB : CallR X (.builtin "sorted") (rSortB X.K) := by
  intro pins s σ H vs us Q I r h
  obtain ⟨a, xs, k, rfl, hs, hx, q⟩ := h
  obtain ⟨its, rv, hl, hz⟩ := I.list hs
  rw [Vals.ref1 r]
  obtain ⟨e1, e2⟩ := refs_back rv fun x m => by
    obtain ⟨t, e, _⟩ := hx x m
    exact ⟨t, e⟩
  have hp : ∀ v ∈ its, ∃ t, IsTp s.heap v (k (backV v)).1 [.str (k (backV v)).2 t] := fun v hv => by
    obtain ⟨t, rfl⟩ := e2 v hv
    have hm : V.ref t ∈ xs := by rw [e1]; exact List.mem_map.mpr ⟨_, hv, rfl⟩
    obtain ⟨t', e, ht⟩ := hx _ hm
    cases e
    obtain ⟨its2, r2, ⟨o, ho, hc, n, hd⟩, _⟩ := I.tuple ht
    obtain ⟨u1, u2, rfl, ri, rj⟩ := vals2 r2
    obtain ⟨t1, rfl⟩ := ri
    obtain ⟨t2, rfl⟩ := rj
    exact ⟨t2, t, o, _, n, t1, rfl, ho, hc, hd, rfl⟩
  refine sorted_seq (swo_of swo_s2 fun u => k (backV u)) (.inl hl.isList) (by rw [← rv.length]; exact hz) (fun h2 h₁ a' ha' kk => pairs_sortable (by omega) (fun v hv => let ⟨r, z⟩ := hp v hv; ⟨r, z.keeps fun b o e _ => (kk b o e).2⟩) (noTup ha')) fun out h1 h2 => ?_
  have h3 : ∀ u ∈ out, ∃ a, u = Value.ref a := fun u hu => e2 u (h2.perm.mem_iff.mp hu)
  obtain ⟨ep, he'⟩ := PyProof.Rows.sortedAll_at s.heap its out.toArray
  have pm : (out.map backV).Perm xs := by
    rw [e1]
    exact h2.perm.map backV
  refine ⟨.ref _, upd H (s.heap.objs.size + 1) (.lst (out.map backV)), I.laid (t' := s.toks) (fun _ _ => PyProof.Rows.sortedAll_old) (Nat.le_succ _) ⟨by rw [pm.length_eq]; exact hz, out, ep, vals_back h3, he'⟩, rfl, q _ _ pm (List.pairwise_map.mpr h1) (I.hok.fresh (Nat.le_succ _))⟩
end
end MyS

set_option Elab.async false
set_option linter.all false
set_option maxRecDepth 100000
set_option maxHeartbeats 4000000
/-! {k: v for x in xs} with tuples as keys (the library's HandS.DictComp is for ints and texts; the steps are its steps, the store is another). -/
namespace MyS
open PySem PySem.Spec PyProof.Rows L2
section
variable {X : Cx}
theorem d_dictSetT {pins : List (Addr × Obj)} {σ : L2.St} {H : Hp} {s : Shared} {E : Value → Shared → Prop} {D b : Addr} {kvs : List (List Key × V)} {k : List Key} {v : V} {u r : Value} {Q : Unit → Shared → Prop} (hu : X.A.units + 1 < cLine) (I : Inv X pins σ H s) (hD : H D = some (.dT kvs)) (hz : kvs.length < sizeLine)
    (eb : H b = some (.tup (k.map kV))) (ry : RelV (.ref b) u) (rv : RelV v r) (h : ∀ s', Inv X pins σ (upd H D (.dT (putK kvs k v))) s' → Q () s') : wpAny (model X.prog X.w) X.A (dictSet D u r) Q E s := by
  cases (show u = Value.ref b from ry)
  obtain ⟨z, hd, xs, rel, dd⟩ := dt_of I.hok hD
  have hxs : xs.length ≤ sizeLine := by rw [← Paired.length rel]; exact z
  have hl : (putK kvs k v).length ≤ sizeLine := by have := length_putK kvs k v; omega
  refine wpAny_dictSet_heap (hsz := hxs) (show X.A.units < cLine from Nat.lt_of_succ_lt hu) (key_of I.hok eb) dd fun h' dd' hs => h _ ?_
  obtain ⟨q, es, ep, hq, h2, h3, h4, _, h5⟩ := dd'
  refine d_write I (by rw [hD]; exact True.intro) hs ⟨q, hq⟩ ⟨hl, hd, _, (rel.put k eb rv).keeps fun c ys ec => ?_, q, es, ep, hq, h2, h3, h4, h5⟩
  rw [upd_ne (ne_of ec hD (fun z => nomatch z))]
  exact ec
/-- {k: v for x in xs}: the tuple keys' own dict D; the loop by W as in a list comprehension -/
def tDcT (wi : TI) (g : TG) (tt : TT) (tk tv : TE) (vs : List Nat) : TE := fun σ H Q => wi σ H fun J H1 => ∀ D, H1 D = none → ∃ W : Nat → Nat → Hp → Prop, (∃ m, W 0 m (upd H1 D (.dT []))) ∧ ∀ i m H, W i m H →
  (J.stop i H ∧ Q (.ref D) H) ∨ (J.go i H ∧ ∃ Nx : Hp → Prop, (∀ H', Nx H' → ∃ m', m' < m ∧ W (i + 1) m' H') ∧ ∀ x H', J.yld i H x H' → g x (wipe σ vs) H' fun σ2 H2 => wipe σ2 vs = wipe σ vs ∧ tt σ2 H2 fun b H3 =>
    if b = true then tk σ2 H3 fun y H4 => tv σ2 H4 fun z H5 => ∃ kvs k c, y = .ref c ∧ H5 c = some (.tup (k.map kV)) ∧ H5 D = some (.dT kvs) ∧ kvs.length < sizeLine ∧ Nx (upd H5 D (.dT (putK kvs k z))) else Nx H3)
theorem pe_dcT {kx vx tg iter : Expr} {ifs : List Expr} {scope : Scope} {own : List (PySem.Str × Nat)} {pos : Pos} {wi : TI} {g : TG} {tt : TT} {tk tv : TE} (hu : X.A.units + 1 < cLine) (hc : X.calm = true) (hN : X.N.Nodup) (hi : PI X tg iter wi) (ok : BlkOk X.N X.env.scope scope own)
    (hg : ∀ (s : Shared) (H : Hp) (C : Addr) (cl : List (PySem.Str × Addr)) (fp : List Addr), PG (X.blk s H scope (compEnvC scope cl C X.env) fp) tg g) (ht : ∀ (s : Shared) (H : Hp) (C : Addr) (cl : List (PySem.Str × Addr)) (fp : List Addr), PTs (X.blk s H scope (compEnvC scope cl C X.env) fp) ifs tt)
    (hk : ∀ (s : Shared) (H : Hp) (C : Addr) (cl : List (PySem.Str × Addr)) (fp : List Addr), PE (X.blk s H scope (compEnvC scope cl C X.env) fp) kx tk)
    (he : ∀ (s : Shared) (H : Hp) (C : Addr) (cl : List (PySem.Str × Addr)) (fp : List Addr), PE (X.blk s H scope (compEnvC scope cl C X.env) fp) vx tv) (hs : ∀ x, foldedSetIterable iter X.env x = pure x := by intro _; rfl) :
    PE X (.DictComp kx vx [⟨tg, iter, ifs, 0⟩] scope pos) (tDcT wi g tt tk tv (own.map (·.2))) := by
  refine ⟨fun pins s σ H Q I h => ?_⟩
  rw [arm_eval_DictComp]
  have hfree : ∀ y ∈ scope.names, y.2 = .free → ∃ c, X.env.cells.lookup y.1 = some c := fun y hy e =>
    (ok.free y hy e).elim (fun k => I.ok.has _ (.inl k)) fun k => I.ok.has _ (.inr k)
  refine wpAny_comprehension_free (use := none) rfl hs (closure_ok hfree) ok.kind (fun y hy e => by rw [ok.uniq y hy, e]) (thn (hi.run pins s σ H _ I h) fun xv s1 hx => thn hx fun itv s2 h2 => ?_)
  obtain ⟨it, fp, tn, J, H2, rfl, I2, T, st2, f2, q⟩ := h2
  refine wpAny_newObj_type (newEnv_comp ?_)
  obtain ⟨W, ⟨m0, w0⟩, turn⟩ := q s2.heap.objs.size (I2.hok.fresh (Nat.le_refl _))
  -- the new dict
  have I3 : Inv X pins σ (upd H2 s2.heap.objs.size (.dT [])) { s2 with heap := s2.heap.push { cls := .type "dict", data := .dict #[] } } :=
    I2.laid (t' := s2.toks) (fun b o e => Heap.get?_push_of_some _ e) (Nat.le_refl _) (dt_empty s2.heap I2.big)
  have below : ∀ b ∈ fp, b < s2.heap.objs.size := fun b hb => let ⟨o, e, _⟩ := T.obj _ _ st2 b hb; Heap.lt_size e
  generalize hs3 : ({ s2 with heap := s2.heap.push { cls := .type "dict", data := .dict #[] } } : Shared) = s3 at I3
  have h3 : s3.heap = s2.heap.push { cls := .type "dict", data := .dict #[] } := by rw [← hs3]
  generalize hD : s2.heap.objs.size = D at I3 w0 turn below ⊢
  have f3 : ∀ b ∈ fp, FpOk X pins (upd H2 D (.dT [])) b ∧ b < s3.heap.objs.size := fun b hb =>
    ⟨⟨by rw [upd_ne (Nat.ne_of_lt (below b hb))]; exact (f2 b hb).1, (f2 b hb).2⟩, by rw [h3, Heap.size_push, hD]; exact Nat.lt_succ_of_lt (below b hb)⟩
  have st3 : tn 0 s3.heap := T.keep _ _ _ st2 fun b _ o e => by rw [h3]; exact Heap.get?_push_of_some _ e
  have I4 := block_start I3 ok hN f3
  generalize hC : cellsFrom (s3.heap.objs.size + 1) scope.names (cloFrom X.env.cells scope.names []) = cl at I4
  have pg := hg s3 (upd H2 D (.dT [])) s3.heap.objs.size cl fp
  have pt := ht s3 (upd H2 D (.dT [])) s3.heap.objs.size cl fp
  have pk := hk s3 (upd H2 D (.dT [])) s3.heap.objs.size cl fp
  have pe := he s3 (upd H2 D (.dT [])) s3.heap.objs.size cl fp
  have goal : codeAny (model X.prog X.w) X.A (.compStart (.DictComp kx vx [⟨tg, iter, ifs, 0⟩] scope pos) 0 (.ref it) (.ref D) (compEnvC scope cl s3.heap.objs.size X.env)) (compPost (model X.prog X.w) X.A X.xe none (EP X pins σ Q) (.ref D) s3.heap.objs.size) { s3 with heap := pushCells (s3.heap.push { cls := .type "dict", data := .dict #[] }) scope.names } := by
    have cL : (compEnvC scope cl s3.heap.objs.size X.env).locals = s3.heap.objs.size := rfl
    generalize compEnvC scope cl s3.heap.objs.size X.env = ce at I4 pg pt pk pe cL ⊢
    generalize hH3 : upd H2 D (.dT []) = H3 at I3 I4 pg pt pk pe w0 f3
    generalize hs4 : ({ s3 with heap := pushCells (s3.heap.push { cls := .type "dict", data := .dict #[] }) scope.names } : Shared) = s4 at I4 ⊢
    have st4 : tn 0 s4.heap := T.keep _ _ _ st3 fun b _ o e => by rw [← hs4]; exact pushCells_keeps _ _ _ _ (Heap.get?_push_of_some _ e)
    have stat : ∀ {σ' : L2.St} {H' : Hp} {s' : Shared}, Inv (X.blk s3 H3 scope ce fp) [] σ' H' s' → (∀ b ∈ fp, H' b = none) → ∀ b ∈ fp, FpOk (X.blk s3 H3 scope ce fp) [] H' b := fun {σ' H' s'} I' hn b hb =>
      ⟨hn b hb, (I'.ok.exf b hb).1, I'.ok.exfs b hb, .inl hb, fun x c e => (I'.ok.exf b hb).2 x c e, fun p hp => absurd (show p ∈ ([] : List (Addr × Obj)) ++ [] from hp) (by simp)⟩
    refine codeAny_compStart_dict ?lp (T.self X.A 0 _ _ _ st4 ?lp)
    refine compLoop_anyD (fun n s' => ∃ i H', Inv (X.blk s3 H3 scope ce fp) [] (wipe σ (own.map (·.2))) H' s' ∧ tn i s'.heap ∧ (∀ b ∈ fp, H' b = none) ∧ W i n H') ?_ m0 ⟨0, H3, I4, st4, fun b hb => (f3 b hb).1.1, w0⟩
    rintro n s5 ⟨i, H5, I5, st5, n5, w5⟩
    rcases turn i n H5 w5 with ⟨stop, qq⟩ | ⟨go, Nx, hNx, step⟩
    · refine thnF (T.done (X.blk s3 H3 scope ce fp) rfl rfl rfl hc i [] s5 _ H5 (fun _ _ => False) I5 (stat I5 n5) st5 stop) fun r s6 ⟨hr, I6⟩ => ?_
      subst hr
      have I7 : Inv X pins σ H5 s6 := I3.call' (ch := fp) I6.os I6.base I6.hok I6.bare fun b hb => ⟨(f3 b hb).1.2.2.2.1, (f3 b hb).1.2.1, (f3 b hb).1.2.2.2.2.1, (f3 b hb).1.2.2.2.2.2⟩
      have nC : H5 s3.heap.objs.size = none := by
        have z : H5 ce.locals = none := I6.free
        rw [cL] at z
        exact z
      obtain ⟨m, hn, _⟩ := I6.loc
      have hn : s6.heap.Ns ce.locals m := hn
      rw [cL] at hn
      obtain ⟨f0, f1, f2, f3, f4, f5⟩ := I3.fpOk (Nat.le_refl _) nC
      exact ⟨m, hn, fun h'' sb => ⟨.ref D, H5, I7.turned (t' := s6.toks) (fun b o hb e => (sb.2 b hb).trans e) f0 f1 f3 f4 f5, rfl, qq⟩⟩
    · refine thnF (T.item (X.blk s3 H3 scope ce fp) rfl rfl rfl hc i [] s5 _ H5 (fun _ _ => False) I5 (stat I5 n5) st5 go) fun r s6 ⟨u, hr, h6⟩ => ?_
      subst hr
      refine thnF h6 fun _ s7 ⟨x, H7, I7, r7, y7, st7, n7⟩ => ?_
      refine thnF (pg.run _ s7 _ H7 x u _ (I7.pinned (stat I7 n7) (T.obj _ _ st7)) r7 (step x H7 y7)) fun _ s8 ⟨σ8, H8, I8, hw8, q8⟩ => ?_
      refine thnF (pt.run _ s8 σ8 H8 _ I8 q8) fun b s9 ⟨H9, I9, q9⟩ => ?_
      have fin : ∀ {s' : Shared} {H' : Hp}, Inv (X.blk s3 H3 scope ce fp) ([] ++ pinsAt fp s7.heap) σ8 H' s' → Nx H' → ∃ m, m < n ∧ ∃ i H', Inv (X.blk s3 H3 scope ce fp) [] (wipe σ (own.map (·.2))) H' s' ∧ tn i s'.heap ∧ (∀ b ∈ fp, H' b = none) ∧ W i m H' := fun {s' H'} I' nx => by
        obtain ⟨m', hm, w'⟩ := hNx H' nx
        have pin' : ∀ b ∈ fp, ∀ o, s7.heap.get? b = some o → s'.heap.get? b = some o ∧ H' b = none := fun b hb o e =>
          have z := I'.pin (b, o) (List.mem_append_right _ (List.mem_append_right _ (mem_pinsAt hb e)))
          ⟨z.1, z.2.1⟩
        have hl : (wipe σ (own.map (·.2))).length = σ8.length := by rw [← hw8, wipe_length]
        refine ⟨m', hm, i + 1, H', (I'.unpinned (pins := [])).weak hl (fun j v e => ?_), T.keep _ _ _ st7 fun b hb o e => (pin' b hb o e).1, fun b hb => ?_, w'⟩
        · rw [← hw8] at e
          exact (wipe_some e).1
        · obtain ⟨o, e, _⟩ := T.obj _ _ st7 b hb
          exact (pin' b hb o e).2
      cases b with
      | false =>
        simp only [Bool.false_eq_true, if_false] at q9 ⊢
        exact fin I9 q9
      | true =>
        simp only [if_true] at q9 ⊢
        refine thnF (pk.run _ s9 σ8 H9 _ I9 q9) fun z s10 ⟨yk, H10, I10, r10, q10⟩ => ?_
        refine thnF (pe.run _ s10 σ8 H10 _ I10 q10) fun z2 s11 ⟨yv, H11, I11, r11, kvs, k, c, ek, ec, hD11, hz11, nx⟩ => ?_
        subst ek
        exact d_dictSetT (X := X.blk s3 H3 scope ce fp) hu I11 hD11 hz11 ec r10 r11 fun s12 I12 => fin I12 nx
  subst hD
  exact goal
/-- over a tuple that stays -/
theorem dcT_tup {K : PySem.W.Frag} {a : Addr} {xs : List V} {g : TG} {tt : TT} {tk tv : TE} {vs : List Nat} {σ : L2.St} {H1 : Hp} {D : Addr} {Qd : Hp → Prop} (Pv : Nat → Hp → Prop) (h0 : Pv 0 (upd H1 D (.dT []))) (hl : ∀ i H, i ≤ xs.length → Pv i H → SqT K H a xs)
    (hs : ∀ i x H, xs[i]? = some x → Pv i H → g x (wipe σ vs) H fun σ2 H2 => wipe σ2 vs = wipe σ vs ∧ tt σ2 H2 fun b H3 =>
      if b = true then tk σ2 H3 fun y H4 => tv σ2 H4 fun z H5 => ∃ kvs k c, y = .ref c ∧ H5 c = some (.tup (k.map kV)) ∧ H5 D = some (.dT kvs) ∧ kvs.length < sizeLine ∧ Pv (i + 1) (upd H5 D (.dT (putK kvs k z))) else Pv (i + 1) H3) (hd : ∀ H, Pv xs.length H → Qd H) :
    ∃ W : Nat → Nat → Hp → Prop, (∃ m, W 0 m (upd H1 D (.dT []))) ∧ ∀ i m H, W i m H →
      ((Itt K a).stop i H ∧ Qd H) ∨ ((Itt K a).go i H ∧ ∃ Nx : Hp → Prop, (∀ H', Nx H' → ∃ m', m' < m ∧ W (i + 1) m' H') ∧ ∀ x H', (Itt K a).yld i H x H' → g x (wipe σ vs) H' fun σ2 H2 => wipe σ2 vs = wipe σ vs ∧ tt σ2 H2 fun b H3 =>
        if b = true then tk σ2 H3 fun y H4 => tv σ2 H4 fun z H5 => ∃ kvs k c, y = .ref c ∧ H5 c = some (.tup (k.map kV)) ∧ H5 D = some (.dT kvs) ∧ kvs.length < sizeLine ∧ Nx (upd H5 D (.dT (putK kvs k z))) else Nx H3) := by
  refine ⟨fun i m H => m = xs.length - i ∧ i ≤ xs.length ∧ Pv i H, ⟨xs.length, by simp, Nat.zero_le _, h0⟩, ?_⟩
  rintro i m H ⟨rfl, hi, p⟩
  have q := hl i H hi p
  rcases Nat.lt_or_ge i xs.length with lt | ge
  · refine .inr ⟨⟨xs, xs[i], q, by simp [lt]⟩, Pv (i + 1), fun H' p' => ⟨xs.length - (i + 1), by omega, rfl, lt, p'⟩, fun x H' y => ?_⟩
    obtain ⟨rfl, y⟩ := y
    exact hs i x _ (y xs q) p
  · obtain rfl : i = xs.length := by omega
    exact .inl ⟨⟨xs, q, Nat.le_refl _⟩, hd H p⟩
end
end MyS

set_option Elab.async false
set_option linter.all false
set_option maxRecDepth 100000
set_option maxHeartbeats 4000000
namespace W
open PySem PySem.Spec PyProof.Rows L2 GxR MyG
/-! ### the text by places -/
def top (i : Nat) : Stmt := PySem.Challenge.pw_waypapers_k78_whole_nobody_meets_earlier.main.body.getD i (.Pass ⟨0, 0, 0, 0⟩)
abbrev sIsName : Stmt := top 24
abbrev sNames : Stmt := top 26
abbrev sDiff : Stmt := top 27
abbrev sRoads : Stmt := top 28
abbrev sRoad : Stmt := top 29
abbrev sHours : Stmt := top 30
abbrev sBars : Stmt := top 31
abbrev sInit : Stmt := inClass (top 32) 0

/-! ### names -/
def zLet : Str := "abcdefghijklmnopqrstuvwxyz"
def zDig : Str := "0123456789"
def goodC (c : Nat) : Bool := decide (c ∈ zLet.cps.toList) || decide (c ∈ zDig.cps.toList)
def isNm (z : Str) : Bool := decide (1 ≤ z.length) && decide (z.length ≤ 12) && (match z.cps.toList with | [] => false | c :: _ => decide (c ∈ zLet.cps.toList)) && z.cps.toList.all goodC
/-- the element of the generator: x in A or x in B -/
theorem elt_two {prog : Program} {w : World} {base : Heap} {mg : Str → Option Value} {scope : Scope} {x A B : Str} {a b : Str} {ta tb : Tok} {p1 p2 p3 p4 p5 p6 p7 : Pos} (hk : scope.kind = .function) (hl : scope.names.lookup x = some .local)
    (hA : scope.names.lookup A = some .globalImplicit) (hB : scope.names.lookup B = some .globalImplicit) (hns : base.Ns mainGlobals mg) (eA : mg A = some (.str a ta)) (eB : mg B = some (.str b tb))
    (hd : (x == ("__debug__" : Str)) = false := by decide) (hdA : (A == ("__debug__" : Str)) = false := by decide) (hdB : (B == ("__debug__" : Str)) = false := by decide) :
    EltB prog w base scope x (.BoolOp .Or [.Compare (.Name x p1) [.In] [.Name A p2] p3, .Compare (.Name x p4) [.In] [.Name B p5] p6] p7) (fun c => decide (c ∈ a.cps.toList) || decide (c ∈ b.cps.toList)) := by
  intro ce B' F c t z m hs hg hh hb hn hm
  have kf : ce.scope.kind = .function := by rw [hs]; exact hk
  have kx : ce.kindOf x = some .local := by show ce.scope.names.lookup x = _; rw [hs]; exact hl
  have nsz : ∀ (z' : Shared), Keeps z z' → z'.heap.Ns ce.globals mg := fun z' k => by
    rw [hg]
    obtain ⟨h', tk, rfl, kk⟩ := k
    exact (hns.keeps hb).keeps kk
  have one : ∀ (G : Str) (g : Str) (tg : Tok) (q1 q2 q3 : Pos) (Q : Value → Shared → Prop), (G == ("__debug__" : Str)) = false → scope.names.lookup G = some .globalImplicit → mg G = some (.str g tg) → Q (.bool (decide (c ∈ g.cps.toList))) z →
      wpAny (model prog w) B' (eval (.Compare (.Name x q1) [.In] [.Name G q2] q3) ce) Q F z := by
    intro G g tg q1 q2 q3 Q hdG hG eG hQ
    refine wpAny_Compare1 ?_
    refine wpAny_Name (wpAny_loadName_local kf kx hn hm ?_) hd
    refine Calls.Name_function_global kf (by show ce.scope.names.lookup G = _; rw [hs]; exact hG) (Calls.loadGlobal_global (nsz z (keeps_refl z)) eG ?_) hdG
    refine PyProof.Rows.in_str ?_
    rw [PySem.StrLaws.found_one g c]
    exact hQ
  refine BoolOp_or (one A a ta _ _ _ _ hdA hA eA ?_)
  refine wpAny_truthy_bool ?_
  by_cases ca : c ∈ a.cps.toList
  · have ea : decide (c ∈ a.cps.toList) = true := decide_eq_true ca
    rw [if_pos ea]
    refine ⟨?_, keeps_refl z⟩
    show Value.bool (decide (c ∈ a.cps.toList)) = Value.bool (decide (c ∈ a.cps.toList) || decide (c ∈ b.cps.toList))
    rw [ea]; rfl
  · have ea : decide (c ∈ a.cps.toList) = false := decide_eq_false ca
    rw [if_neg (by rw [ea]; exact Bool.false_ne_true)]
    refine BoolOp_one (one B b tb _ _ _ _ hdB hB eB ?_)
    refine ⟨?_, keeps_refl z⟩
    show Value.bool (decide (c ∈ b.cps.toList)) = Value.bool (decide (c ∈ a.cps.toList) || decide (c ∈ b.cps.toList))
    rw [ea]; rfl

theorem pe_gI {X : Cx} {x : Str} {i : Int} {t : Tok} {pos : Pos} (hm : X.mg x = some (.int i t)) (hg : Gl X x := by rfl) (hd : (x == ("__debug__" : Str)) = false := by decide) : PE X (.Name x pos) (tC (.int i)) := pe_glob hg hm ⟨_, rfl⟩ hd
theorem pe_gS {X : Cx} {x z : Str} {t : Tok} {pos : Pos} (hm : X.mg x = some (.str z t)) (hg : Gl X x := by rfl) (hd : (x == ("__debug__" : Str)) = false := by decide) : PE X (.Name x pos) (tC (.str z)) := pe_glob hg hm ⟨_, rfl⟩ hd
theorem nofree {names : List (Str × NameKind)} {Q : Str × NameKind → Prop} (h : names.all (fun y => y.2 != .free) = true) : ∀ y ∈ names, y.2 = .free → Q y := fun y hy e => by
  have q := List.all_eq_true.mp h y hy
  rw [e] at q
  exact absurd q (by decide)
theorem if_t {c : Bool} {A B : Prop} (hc : c = true) (h : A) : if c = true then A else B := by
  rw [if_pos hc]
  exact h
theorem if_f {c : Bool} {A B : Prop} (hc : c = false) (h : B) : if c = true then A else B := by
  rw [hc, if_neg Bool.false_ne_true]
  exact h
/-! ### what the top has written -/
structure Txt (K : PySem.W.Frag) (mg : Str → Option Value) (C P : Addr) : Prop where
  let_ : ∃ t, mg "LETTERS" = some (.str zLet t)
  dig : ∃ t, mg "DIGITS" = some (.str zDig t)
  ln : ∃ t, mg "LONGEST_NAME" = some (.int 12 t)
  len : mg "len" = none
  all : mg "all" = none

def spIsName (P : Addr) : Sp := fun vs H Q _ => ∃ z : Str, vs = [.str z] ∧ z.length ≤ sizeLine ∧ TabG H P ∧ ∀ H', Tabbed P H H' → Q (.bl (isNm z)) H'
section
variable {Pg : Program} {w : World} {K : PySem.W.Frag} {mg : Str → Option Value} {base : Heap} {C P : Addr}
theorem scIsName : FnScope ["text"] ["text"] (defScope sIsName) := ⟨rfl, rfl, rfl, by decide +kernel, rfl, by decide +kernel, by decide +kernel⟩
theorem str_len0 {z : Str} (h : ¬ 1 ≤ z.length) : isNm z = false := by
  unfold isNm
  simp [h]
theorem ok_isName {f c : Addr} {fd : FuncData} (F : Fun K "is_name" "is_name" sIsName f fd) (T : Txt K mg C P) (TB : TabB base mg c P) (hfc : fd.code = .ref c) (hns : base.Ns mainGlobals mg) : FnOk Pg w K mg base CX0 2 f fd ["text"] (spIsName P) := by
  obtain ⟨oc, od, kV, doc, pm, an, cdv, ct, osl, efd, lk, hcd⟩ := F.ex
  subst efd
  have ecd : cdv = .ref c := hfc
  subst ecd
  refine fn_of lk hcd scIsName (fun vs H Q E h => ?_) (fun A outer s H vs Q E hr h => ?_)
  · obtain ⟨z, rfl, _⟩ := h
    rfl
  · obtain ⟨z, rfl, hz, hP, k⟩ := h
    obtain ⟨tl, el⟩ := T.let_
    obtain ⟨td, ed⟩ := T.dig
    obtain ⟨tn, en⟩ := T.ln
    refine ⟨_, PSs.nox (pss_cons (ps_if (PW.pt (pw_or (pt_not (pt_chain op_le op_le pe_int (pe_callB call_len_str (by rfl) T.len PySem.boot_len (pa_cons (pv 0) pa_nil)) (pe_gI en)))
        (pw_or1 (pt_cmpR op_notIn_sign (pe_ix ix_str (pv 0) pe_int (fun _ _ => rfl)) (pe_gS el) (by rfl)))))
        (pss_one (ps_ret pe_bl)) pss_nil)
      (pss_one (ps_ret (pe_allB (scope := _) (P := P) hr rfl T.all TB rfl ⟨rfl, rfl, by decide +kernel, by decide +kernel, by decide +kernel, nofree (by decide +kernel)⟩ (pv 0) (elt_two rfl (by decide +kernel) (by decide +kernel) (by decide +kernel) hns el ed) (fun _ => rfl))))), ?_⟩
    have zl : z.length = z.cps.toList.length := by simp [Str.length]
    refine ⟨_, rfl, z, rfl, hz, 1, _, rfl, rfl, _, rfl, ?_⟩
    by_cases h1 : (1 : Int) ≤ (z.length : Int)
    · refine if_t (decide_eq_true h1) ⟨_, _, rfl, rfl, _, rfl, ?_⟩
      by_cases h2 : (z.length : Int) ≤ 12
      · rw [decide_eq_true h2]
        refine iteF ?_
        have hp : 0 < z.cps.toList.length := by omega
        have e0 : atI z.cps.toList 0 = some (z.cps.toList[0]'hp) := atI_nat (j := 0) (List.getElem?_eq_getElem hp)
        refine ⟨_, rfl, z, 0, _, rfl, rfl, hz, e0, _, _, rfl, rfl, _, rfl, ?_⟩
        by_cases h3 : z.cps.toList[0]'hp ∈ zLet.cps.toList
        · rw [decide_eq_true h3]
          refine iteF ⟨_, rfl, z, rfl, hP, fun H2 hH => ?_⟩
          have e := k H2 hH
          have en : isNm z = z.cps.toList.all goodC := by
            unfold isNm
            cases q : z.cps.toList with
            | nil => rw [q] at hp; exact absurd hp (by decide)
            | cons c r =>
              have h3' : c ∈ zLet.cps.toList := by
                have : z.cps.toList[0]'hp = c := by simp [q]
                rw [← this]; exact h3
              have a1 : 1 ≤ z.length := by omega
              have a2 : z.length ≤ 12 := by omega
              simp [a1, a2, h3']
          rw [en] at e
          exact e
        · rw [decide_eq_false h3]
          refine iteT ?_
          have en : isNm z = false := by
            unfold isNm
            cases q : z.cps.toList with
            | nil => simp
            | cons c r =>
              have h3' : c ∉ zLet.cps.toList := by
                have : z.cps.toList[0]'hp = c := by simp [q]
                rw [← this]; exact h3
              simp [h3']
          have e := k H ⟨hP, fun _ _ => rfl⟩
          rw [en] at e
          exact e
      · rw [decide_eq_false h2]
        refine iteT ?_
        have en : isNm z = false := by
          unfold isNm
          have a2 : ¬ z.length ≤ 12 := by omega
          simp [a2]
        have e := k H ⟨hP, fun _ _ => rfl⟩
        rw [en] at e
        exact e
    · refine if_f (decide_eq_false h1) ⟨_, rfl, ?_⟩
      refine iteT ?_
      have en : isNm z = false := by
        unfold isNm
        have a2 : ¬ 1 ≤ z.length := by omega
        simp [a2]
      have e := k H ⟨hP, fun _ _ => rfl⟩
      rw [en] at e
      exact e
end
end W

set_option Elab.async false
set_option linter.all false
set_option maxRecDepth 100000
set_option maxHeartbeats 400000
namespace W
open PySem PySem.Spec PyProof.Rows L2 GxR MyG MyS
/-! ### heaps that have grown: what stood (but the table at P) stands -/
structure Grew (P : Addr) (H H' : Hp) : Prop where
  tab : TabG H' P
  old : ∀ b o, b ≠ P → H b = some o → H' b = some o
section
variable {P : Addr} {H H1 H2 H' : Hp} {K : PySem.W.Frag}
theorem Grew.refl (h : TabG H P) : Grew P H H := ⟨h, fun _ _ _ e => e⟩
theorem Grew.trans (a : Grew P H H1) (b : Grew P H1 H2) : Grew P H H2 := ⟨b.tab, fun c o n e => b.old c o n (a.old c o n e)⟩
theorem Grew.of (t : Tabbed P H H') : Grew P H H' := ⟨t.1, fun b o n e => by rw [t.2 b n]; exact e⟩
theorem tabNe (h : TabG H P) {a : Addr} (n : H a = none) : a ≠ P := fun e => by
  obtain ⟨ps, q, _⟩ := h
  rw [e, q] at n
  cases n
theorem tabNe' (h : TabG H P) {a : Addr} {o : HO} (e : H a = some o) (d : ∀ ps, o ≠ .tbl ps) : a ≠ P := fun z => by
  obtain ⟨ps, q, _⟩ := h
  rw [z, q] at e
  exact d ps (Option.some.inj e).symm
theorem tabUpd (h : TabG H P) {a : Addr} {o : HO} (n : a ≠ P) : TabG (upd H a o) P := by
  obtain ⟨ps, q, t⟩ := h
  exact ⟨ps, by rw [upd_ne (Ne.symm n)]; exact q, t⟩
/-- a new object -/
theorem Grew.new (h : TabG H P) {a : Addr} {o : HO} (n : H a = none) : Grew P H (upd H a o) := ⟨tabUpd h (tabNe h n), fun b u _ e => by rw [upd_ne (ne_of_none e n)]; exact e⟩
theorem Grew.put (g : Grew P H H1) {a : Addr} {o : HO} (n : H1 a = none) : Grew P H (L2.upd H1 a o) := g.trans (Grew.new g.tab n)
theorem Grew.get (g : Grew P H H') (h : TabG H P) {b : Addr} {o : HO} (e : H b = some o) (d : ∀ ps, o ≠ .tbl ps) : H' b = some o := g.old b o (tabNe' h e d) e
theorem Grew.lst (g : Grew P H H') (h : TabG H P) {b : Addr} {xs : List V} (e : H b = some (.lst xs)) : H' b = some (.lst xs) := g.get h e (fun _ z => by cases z)
theorem Grew.tup (g : Grew P H H') (h : TabG H P) {b : Addr} {xs : List V} (e : H b = some (.tup xs)) : H' b = some (.tup xs) := g.get h e (fun _ z => by cases z)
theorem Grew.free (g : Grew P H H') {b : Addr} (n : H' b = none) : H b = none := by
  cases q : H b with
  | none => rfl
  | some o =>
    rw [g.old b o (tabNe g.tab n) q] at n
    cases n
theorem Grew.sqL (g : Grew P H H') (h : TabG H P) {a : Addr} {xs : List V} (q : SqL K H a xs) : SqL K H' a xs := by
  rcases q with (q | ⟨o, q⟩) | q
  · exact .inl (.inl (g.lst h q))
  · exact .inl (.inr ⟨o, g.get h q (fun _ z => by cases z)⟩)
  · exact .inr q
theorem Grew.sqT (g : Grew P H H') (h : TabG H P) {a : Addr} {xs : List V} (q : SqT K H a xs) : SqT K H' a xs := by
  rcases q with (q | ⟨o, q⟩) | q
  · exact .inl (.inl (g.tup h q))
  · exact .inl (.inr ⟨o, g.get h q (fun _ z => by cases z)⟩)
  · exact .inr q
/-- an own object that was not there at H may be written -/
theorem Grew.write (g : Grew P H H1) {a : Addr} {o u : HO} (e : H1 a = some u) (d : ∀ ps, u ≠ .tbl ps) (n : H a = none) : Grew P H (L2.upd H1 a o) :=
  ⟨tabUpd g.tab (tabNe' g.tab e d), fun b v hb q => by rw [upd_ne (ne_of_none q n)]; exact g.old b v hb q⟩
end

/-! ### what stands in tuples goes on standing -/
def KeepT (K : PySem.W.Frag) (H H' : Hp) : Prop := ∀ a xs, SqT K H a xs → SqT K H' a xs
theorem KeepT.refl {K : PySem.W.Frag} {H : Hp} : KeepT K H H := fun _ _ h => h
theorem KeepT.trans {K : PySem.W.Frag} {H H1 H2 : Hp} (x : KeepT K H H1) (y : KeepT K H1 H2) : KeepT K H H2 := fun a xs h => y a xs (x a xs h)
theorem KeepT.grew {K : PySem.W.Frag} {P : Addr} {H H' : Hp} (g : Grew P H H') (h : TabG H P) : KeepT K H H' := fun _ _ q => g.sqT h q
theorem KeepT.upd {K : PySem.W.Frag} {H : Hp} {D : Addr} {o : HO} (h1 : ∀ xs, H D ≠ some (.tup xs)) (h2 : ∀ xs u, H D ≠ some (.frz u (.tup xs))) : KeepT K H (L2.upd H D o) := fun a xs q => by
  rcases q with (q | ⟨u, q⟩) | q
  · have ne : a ≠ D := fun e => by subst e; exact h1 xs q
    exact .inl (.inl (by rw [upd_ne ne]; exact q))
  · have ne : a ≠ D := fun e => by subst e; exact h2 xs u q
    exact .inl (.inr ⟨u, by rw [upd_ne ne]; exact q⟩)
  · exact .inr q
theorem KeepT.lst {K : PySem.W.Frag} {H : Hp} {D : Addr} {o : HO} {l : List V} (e : H D = some (.lst l)) : KeepT K H (L2.upd H D o) := .upd (fun xs q => by rw [e] at q; cases q) (fun xs u q => by rw [e] at q; cases q)
theorem KeepT.ins {K : PySem.W.Frag} {H : Hp} {D C dx : Addr} {o : HO} {fs : List (Str × V)} (e : H D = some (.ins C dx fs)) : KeepT K H (L2.upd H D o) := .upd (fun xs q => by rw [e] at q; cases q) (fun xs u q => by rw [e] at q; cases q)
theorem KeepT.dK {K : PySem.W.Frag} {H : Hp} {D : Addr} {o : HO} {l : List (Key × V)} (e : H D = some (.dK l)) : KeepT K H (L2.upd H D o) := .upd (fun xs q => by rw [e] at q; cases q) (fun xs u q => by rw [e] at q; cases q)
theorem KeepT.dT {K : PySem.W.Frag} {H : Hp} {D : Addr} {o : HO} {l : List (List Key × V)} (e : H D = some (.dT l)) : KeepT K H (L2.upd H D o) := .upd (fun xs q => by rw [e] at q; cases q) (fun xs u q => by rw [e] at q; cases q)
theorem KeepT.new {K : PySem.W.Frag} {H : Hp} {D : Addr} {o : HO} (e : H D = none) : KeepT K H (L2.upd H D o) := .upd (fun xs q => by rw [e] at q; cases q) (fun xs u q => by rw [e] at q; cases q)
/-! ### a < b < c <= d -/
section
variable {X : Cx} {a b c e : Expr} {ta tb tc te : TE} {pos : Pos}
def tChain3 (r r' r'' : R2) (ta tb tc te : TE) : TE := fun σ H Q => ta σ H fun x H1 => tb σ H1 fun y H2 => r x y H2 fun k H3 => ∃ i, k = .bl i ∧
  (if i = true then tc σ H3 fun z H4 => r' y z H4 fun k H5 => ∃ i, k = .bl i ∧ (if i = true then te σ H5 fun u H6 => r'' z u H6 Q else Q (.bl false) H5) else Q (.bl false) H3)
theorem pt_chain3 {op op' op'' : CmpOp} {r r' r'' : R2} (ho : OpR X (compareOp op) r) (ho' : OpR X (compareOp op') r') (ho'' : OpR X (compareOp op'') r'') (ha : PE X a ta) (hb : PE X b tb) (hc : PE X c tc) (he : PE X e te)
    (hm : lastMarks [op, op', op''] [b, c, e] = false := by with_unfolding_all rfl) : PT X (.Compare a [op, op', op''] [b, c, e] pos) (tTest (tChain3 r r' r'' ta tb tc te)) := by
  refine ⟨fun pins s σ H Q I h => ?_⟩
  refine isTrue_chain (thn (ha.run pins s σ H _ I h) fun v s1 ⟨x, H1, I1, r1, q1⟩ => test_link (thn (hb.run pins s1 σ H1 _ I1 q1) fun u s2 ⟨y, H2, I2, r2, q2⟩ =>
    thn (ho pins s2 σ H2 x y v u _ I2 r1 r2 q2) fun d s3 ⟨z, H3, I3, r3, k, ek, q3⟩ => ?_)) hm
  subst ek
  cases r3
  refine wpAny_truthy_bool ?_
  cases k with
  | false =>
    obtain ⟨k', e', q'⟩ := q3
    cases e'
    exact ite_ff ⟨H3, I3, q'⟩
  | true =>
    refine ite_tt (test_link (thn (hc.run pins s3 σ H3 _ I3 q3) fun w' s4 ⟨z', H4, I4, r4, q4⟩ => thn (ho' pins s4 σ H4 y z' u w' _ I4 r2 r4 q4) fun d s5 ⟨z5, H5, I5, r5, k5, e5, q5⟩ => ?_))
    subst e5
    cases r5
    refine wpAny_truthy_bool ?_
    cases k5 with
    | false =>
      obtain ⟨k', e', q'⟩ := q5
      cases e'
      exact ite_ff ⟨H5, I5, q'⟩
    | true =>
      refine ite_tt (test_last (thn (he.run pins s5 σ H5 _ I5 q5) fun w6 s6 ⟨z6, H6, I6, r6, q6⟩ => thn (ho'' pins s6 σ H6 z' z6 w' w6 _ I6 r4 r6 q6) fun d s7 ⟨z7, H7, I7, r7, k7, e7, q7⟩ => ?_))
      subst e7
      cases r7
      exact wpAny_truthy_bool ⟨H7, I7, q7⟩
end
def rTupOf (K : PySem.W.Frag) : List V → Hp → VK → Prop := fun xs H Q => ∃ p ys, xs = [.ref p] ∧ ((SqL K H p ys ∧ ∀ l, H l = none → Q (.ref l) (upd H l (.tup ys))) ∨ (SqT K H p ys ∧ Q (.ref p) H))
/-! ### what a map's parts are -/
theorem Paired.snoc {α β : Type} {F : α → β → Prop} {a : α} {b : β} : ∀ {l : List α} {m : List β}, Paired F l m → F a b → Paired F (l ++ [a]) (m ++ [b])
  | _, _, .nil, h => .cons h .nil
  | _, _, .cons r t, h => .cons r (Paired.snoc t h)
theorem Paired.len {α β : Type} {F : α → β → Prop} : ∀ {l : List α} {m : List β}, Paired F l m → l.length = m.length
  | _, _, .nil => rfl
  | _, _, .cons _ t => congrArg Nat.succ (Paired.len t)
theorem Paired.at {α β : Type} {F : α → β → Prop} : ∀ {l : List α} {m : List β} {i : Nat} {b : β}, Paired F l m → m[i]? = some b → ∃ a, l[i]? = some a ∧ F a b
  | _, _, _, _, .nil, e => by simp at e
  | _, _, 0, _, .cons r _, e => ⟨_, rfl, by simp at e; subst e; exact r⟩
  | _, _, i + 1, _, .cons _ t, e => by
    obtain ⟨a, h1, h2⟩ := Paired.at (i := i) t (by simpa using e)
    exact ⟨a, by simpa using h1, h2⟩
theorem Paired.to {α β : Type} {F : α → β → Prop} : ∀ {l : List α} {m : List β} {i : Nat} {a : α}, Paired F l m → l[i]? = some a → ∃ b, m[i]? = some b ∧ F a b
  | _, _, _, _, .nil, e => by simp at e
  | _, _, 0, _, .cons r _, e => ⟨_, rfl, by simp at e; subst e; exact r⟩
  | _, _, i + 1, _, .cons _ t, e => by
    obtain ⟨a, h1, h2⟩ := Paired.to (i := i) t (by simpa using e)
    exact ⟨a, by simpa using h1, h2⟩
theorem Paired.map' {α β : Type} {F G : α → β → Prop} : ∀ {l : List α} {m : List β}, Paired F l m → (∀ a b, F a b → G a b) → Paired G l m
  | _, _, .nil, _ => .nil
  | _, _, .cons r t, f => .cons (f _ _ r) (Paired.map' t f)
structure RoadD where
  name : Str
  start : Str
  goal : Str
  minutes : Int
  users : List Str
  hours : Option (List (Int × Int))
/-- a pair of hours -/
def GPair (K : PySem.W.Frag) (H : Hp) (p : Int × Int) (x : V) : Prop := ∃ t, x = .ref t ∧ SqT K H t [.int p.1, .int p.2]
/-- the hours of a road -/
def GHours (K : PySem.W.Frag) (H : Hp) (hs : Option (List (Int × Int))) (v : V) : Prop := match hs with
  | none => v = .non
  | some ps => ∃ l xs, v = .ref l ∧ SqT K H l xs ∧ Paired (GPair K H) ps xs
def GRoad (K : PySem.W.Frag) (H : Hp) (r : RoadD) (v : V) : Prop := ∃ t u h, v = .ref t ∧ SqT K H t [.str r.name, .str r.start, .str r.goal, .int r.minutes, .ref u, h] ∧ SqT K H u (r.users.map V.str) ∧ GHours K H r.hours h
theorem GPair.keep {K : PySem.W.Frag} {H H' : Hp} {p : Int × Int} {x : V} (k : KeepT K H H') (g : GPair K H p x) : GPair K H' p x := let ⟨t, e, q⟩ := g; ⟨t, e, k _ _ q⟩
theorem GHours.keep {K : PySem.W.Frag} {H H' : Hp} {hs : Option (List (Int × Int))} {v : V} (k : KeepT K H H') (g : GHours K H hs v) : GHours K H' hs v := by
  cases hs with
  | none => exact g
  | some ps =>
    obtain ⟨l, xs, e, q, r⟩ := g
    exact ⟨l, xs, e, k _ _ q, Paired.map' r fun _ _ => GPair.keep k⟩
theorem GRoad.keep {K : PySem.W.Frag} {H H' : Hp} {r : RoadD} {v : V} (k : KeepT K H H') (g : GRoad K H r v) : GRoad K H' r v := by
  obtain ⟨t, u, h, e, q1, q2, q3⟩ := g
  exact ⟨t, u, h, e, k _ _ q1, k _ _ q2, q3.keep k⟩
/-- pairs in order, apart, within the day -/
def hoursOk (d : Int) : Int → List (Int × Int) → Prop
  | _, [] => True
  | c, p :: r => c < p.1 ∧ p.1 < p.2 ∧ p.2 ≤ d ∧ hoursOk d p.2 r
def HoursOk (d : Int) : Option (List (Int × Int)) → Prop
  | none => True
  | some ps => ps.length ≤ 4 ∧ hoursOk d (-1) ps
/-- where the next pair begins behind the first i -/
def lastOf (c : Int) (ps : List (Int × Int)) (i : Nat) : Int := ((ps.take i).getLast?.map (·.2)).getD c
theorem hoursOk_at {d : Int} : ∀ {ps : List (Int × Int)} {c : Int} {i : Nat} {p : Int × Int}, hoursOk d c ps → ps[i]? = some p → lastOf c ps i < p.1 ∧ p.1 < p.2 ∧ p.2 ≤ d
  | [], _, _, _, _, e => by simp at e
  | q :: r, c, 0, p, h, e => by
    simp at e
    subst e
    exact ⟨h.1, h.2.1, h.2.2.1⟩
  | q :: r, c, i + 1, p, h, e => by
    have k := hoursOk_at (i := i) h.2.2.2 (by simpa using e)
    refine ⟨?_, k.2⟩
    have e2 : lastOf c (q :: r) (i + 1) = lastOf q.2 r i := by
      unfold lastOf
      rw [List.take_succ_cons]
      cases r.take i with
      | nil => rfl
      | cons a l => rw [List.getLast?_cons_cons]; cases h : (a :: l).getLast? with
        | none => simp at h
        | some z => rfl
    rw [e2]; exact k.1
theorem lastOf_succ {ps : List (Int × Int)} {c : Int} {i : Nat} {p : Int × Int} (e : ps[i]? = some p) : lastOf c ps (i + 1) = p.2 := by
  unfold lastOf
  rw [List.take_succ, e]
  simp
theorem isNm_len {z : Str} (h : isNm z = true) : z.length ≤ 12 := by
  unfold isNm at h
  simp only [Bool.and_eq_true, decide_eq_true_eq] at h
  exact h.1.1.2
/-! ### _checked_day, _check_different, _checked_hours, _checked_names -/
structure TxtE (X : Str → Option Value) (K : PySem.W.Frag) (C : Addr) : Prop where
  gC : X "InvalidMap" = some (.ref C)
  xC : PySem.W.excIn K C [.type "ValueError", .type "Exception", .type "BaseException", .type "object"] "ValueError.__new__" = true
  kC : PySem.W.keepIn K (.ref C) = true
  bC : PySem.W.subIn K (.ref C) (.type "BaseException") = some true
  tC : PySem.W.typeIn K (.ref C) = some (.type "type")
abbrev sDay : Stmt := top 25
def spDay : Sp := fun vs H Q _ => ∃ d : Int, vs = [.int d] ∧ 1 ≤ d ∧ d ≤ 1440 ∧ Q (.int d) H
def DiffS (K : PySem.W.Frag) (H : Hp) (a : Addr) : Prop := ∃ ns : List Str, (SqL K H a (ns.map V.str) ∨ SqT K H a (ns.map V.str)) ∧ ns.length ≤ 1000 ∧ ns.Nodup
def DiffP (K : PySem.W.Frag) (H : Hp) (a : Addr) : Prop := ∃ ks : List (Addr × List Str), SqL K H a (ks.map fun p => V.ref p.1) ∧ (∀ p ∈ ks, SqT K H p.1 (p.2.map V.str)) ∧ ks.length < 64 ∧ (ks.map (·.2)).Nodup
def spDiff (K : PySem.W.Frag) : Sp := fun vs H Q _ => ∃ a : Addr, vs = [.ref a] ∧ (DiffS K H a ∨ DiffP K H a) ∧ Q .non H
def spHours (K : PySem.W.Frag) (P : Addr) : Sp := fun vs H Q _ => ∃ (d : Int) (hs : Option (List (Int × Int))) (hv : V), vs = [hv, .int d] ∧ GHours K H hs hv ∧ HoursOk d hs ∧ TabG H P ∧ ∀ H' v', Grew P H H' → GHours K H' hs v' → Q v' H'
section
variable {Pg : Program} {w : World} {K : PySem.W.Frag} {mg : Str → Option Value} {base : Heap} {C P : Addr}
theorem scDay : FnScope ["day"] ["day"] (defScope sDay) := ⟨rfl, rfl, rfl, by decide +kernel, rfl, by decide +kernel, by decide +kernel⟩
theorem ok_day {f : Addr} {fd : FuncData} {t : Tok} (F : Fun K "_checked_day" "_checked_day" sDay f fd) (hd : mg "LONGEST_DAY" = some (.int 1440 t)) : FnOk Pg w K mg base CX0 1 f fd ["day"] spDay := by
  refine F.ok scDay (fun vs H Q E h => ?_) (fun cdv A outer s H vs Q E hr h => ?_)
  · obtain ⟨d, rfl, _⟩ := h
    rfl
  · obtain ⟨d, rfl, h1, h2, k⟩ := h
    refine ⟨_, pss_cons (ps_if (pt_not (pt_chain op_le op_le pe_int (pv 0) (pe_gI hd))) (pss_one ps_never) pss_nil) (pss_one (ps_ret (pv 0))), ?_⟩
    refine ⟨_, rfl, _, _, rfl, rfl, _, rfl, if_t (decide_eq_true h1) ⟨_, _, rfl, rfl, _, rfl, ?_⟩⟩
    rw [decide_eq_true h2]
    exact iteF ⟨_, rfl, k⟩
theorem scDiff : FnScope ["parts"] ["parts"] (defScope sDiff) := ⟨rfl, rfl, rfl, by decide +kernel, rfl, by decide +kernel, by decide +kernel⟩
theorem ok_diff {f : Addr} {fd : FuncData} (F : Fun K "_check_different" "_check_different" sDiff f fd) (hl : mg "len" = none) (hs : mg "set" = none) : FnOk Pg w K mg base CX0 1 f fd ["parts"] (spDiff K) := by
  refine F.ok scDiff (fun vs H Q E h => ?_) (fun cdv A outer s H vs Q E hr h => ?_)
  · obtain ⟨a, rfl, _⟩ := h
    rfl
  · obtain ⟨a, rfl, (⟨ns, hS, h1, nd⟩ | ⟨ks, hS, ht, h1, nd⟩), k⟩ := h
    · refine ⟨_, pss_one (ps_if (pt_cmpR op_lt (pe_lenSetS rfl hl hs (pv 0)) (pe_callB call_len_seq (by rfl) hl PySem.boot_len (pa_cons (pv 0) pa_nil)) (nomark _)) (pss_one ps_never) pss_nil), ?_⟩
      refine ⟨_, rfl, a, ns, rfl, hS, by omega, fun n hc => ?_⟩
      have e : n = ns.length := hc.eq.mpr nd
      subst e
      refine ⟨_, rfl, a, _, rfl, hS, _, _, rfl, rfl, _, rfl, ?_⟩
      rw [List.length_map]
      exact if_f (decide_eq_false (Int.lt_irrefl _)) k
    · refine ⟨_, pss_one (ps_if (pt_cmpR op_lt (pe_lenSetP rfl hr.units hl hs (pv 0)) (pe_callB call_len_seq (by rfl) hl PySem.boot_len (pa_cons (pv 0) pa_nil)) (nomark _)) (pss_one ps_never) pss_nil), ?_⟩
      refine ⟨_, rfl, a, ks, rfl, .inl hS, ht, h1, fun n hc => ?_⟩
      have e : n = (ks.map (·.2)).length := hc.eq.mpr nd
      subst e
      refine ⟨_, rfl, a, _, rfl, .inl hS, _, _, rfl, rfl, _, rfl, ?_⟩
      rw [List.length_map, List.length_map]
      exact if_f (decide_eq_false (Int.lt_irrefl _)) k
abbrev nHours : List Str := ["hours", "day", "closed", "pair"]
theorem scHours : FnScope nHours ["hours", "day"] (defScope sHours) := ⟨rfl, rfl, rfl, by decide +kernel, rfl, by decide +kernel, by decide +kernel⟩
theorem ok_hours {f : Addr} {fd : FuncData} {t1 : Tok} (F : Fun K "_checked_hours" "_checked_hours" sHours f fd) (hl : mg "len" = none) (ht : mg "tuple" = none) (hp : mg "MOST_PAIRS" = some (.int 4 t1)) : FnOk Pg w K mg base CX0 1 f fd ["hours", "day"] (spHours K P) := by
  refine F.ok scHours (fun vs H Q E h => ?_) (fun cdv A outer s H vs Q E hr h => ?_)
  · obtain ⟨d, hs, hv, rfl, _⟩ := h
    rfl
  · obtain ⟨d, hs, hv, rfl, g, ok, hP, k⟩ := h
    refine ⟨_, pss_cons (ps_if (pt_cmp (pc_isN (pv 0))) (pss_one (ps_ret pe_non)) pss_nil)
      (pss_cons (ps_if (pt_cmpR op_gt (pe_callB call_len_seq (by rfl) hl PySem.boot_len (pa_cons (pv 0) pa_nil)) (pe_gI hp) (nomark _)) (pss_one ps_never) pss_nil)
      (pss_cons (ps_set (i := 2) scHours.nd rfl (Or.inl rfl) (pe_un un_neg pe_int))
      (pss_cons (ps_for PassesOwn.never rfl (pi_tup (pv 0)) (pg_name (i := 3) scHours.nd rfl (Or.inl rfl))
        (pss_cons (ps_if (pt_cmpR op_ne (pe_callB call_len_seq (by rfl) hl PySem.boot_len (pa_cons (pv 3) pa_nil)) pe_int (nomark _)) (pss_one ps_never) pss_nil)
        (pss_cons (ps_if (pt_not (pt_chain3 op_lt op_lt op_le (pv 2) (pe_ix ix_tup (pv 3) pe_int (fun _ _ => rfl)) (pe_ix ix_tup (pv 3) pe_int (fun _ _ => rfl)) (pv 1))) (pss_one ps_never) pss_nil)
        (pss_one (ps_set (i := 2) scHours.nd rfl (Or.inl rfl) (pe_ix ix_tup (pv 3) pe_int (fun _ _ => rfl)))))))
      (pss_one (ps_ret (pe_callTy call_tuple_of (by rfl) ht (by decide +kernel) (pa_cons (pe_lc (own := [("pair", 3)]) (g := gName 3) (tt := tYes) rfl scHours.nd (pi_tup (pv 0)) (blkOk_by (N := nHours) (sc := defScope sHours) (by decide +kernel)) (fun _ _ _ _ _ => pg_name (i := 3) scHours.nd rfl (Or.inl rfl)) (fun _ _ _ _ _ => pts_nil)
          (fun _ _ _ _ _ => pe_callTy (r := rTupOf K) call_tuple_of (by rfl) ht (by decide +kernel) (pa_cons (pv 3) pa_nil))) pa_nil))))))), ?_⟩
    cases hs with
    | none =>
      obtain rfl : hv = .non := g
      refine ⟨_, rfl, _, rfl, ?_⟩
      exact iteT (k H .non (Grew.refl hP) rfl)
    | some ps =>
      obtain ⟨l, xs, rfl, hS, hG⟩ := g
      obtain ⟨ok4, okc⟩ := ok
      have hlen := Paired.len hG
      refine ⟨_, rfl, _, rfl, ?_⟩
      refine iteF ?_
      refine ⟨_, rfl, l, _, rfl, .inr hS, _, _, rfl, rfl, _, rfl, if_f (decide_eq_false (by omega)) ?_⟩
      refine ⟨1, rfl, ?_⟩
      refine ⟨_, rfl, l, rfl, ⟨_, hS⟩, for_tup (K := K) (a := l) (xs := xs) (fun i σ H' => H' = H ∧ ∃ v, σ = [some (.ref l), some (.int d), some (.int (lastOf (-1) ps i)), v])
        ⟨rfl, none, rfl⟩ (fun i σ H' _ ⟨e, _⟩ => by rw [e]; exact hS) ?_ ?_⟩
      · rintro i y σ H' hi ⟨rfl, v, rfl⟩
        obtain ⟨p, hp, t, rfl, hT⟩ := Paired.at hG hi
        obtain ⟨o1, o2, o3⟩ := hoursOk_at okc hp
        have e0 : atI [V.int p.1, V.int p.2] 0 = some (.int p.1) := rfl
        have e1 : atI [V.int p.1, V.int p.2] 1 = some (.int p.2) := rfl
        refine ⟨_, rfl, t, _, rfl, .inr hT, rfl, _, rfl, if_f (by rfl) ?_⟩
        refine ⟨_, rfl, _, rfl, t, _, 0, _, rfl, rfl, hT, e0, _, _, rfl, rfl, _, rfl, if_t (decide_eq_true o1) ⟨_, rfl, t, _, 1, _, rfl, rfl, hT, e1, _, _, rfl, rfl, _, rfl, if_t (decide_eq_true o2) ⟨_, rfl, _, _, rfl, rfl, _, rfl, ?_⟩⟩⟩
        rw [decide_eq_true o3]
        refine iteF ⟨_, rfl, t, _, 1, _, rfl, rfl, hT, e1, rfl, some (.ref t), ?_⟩
        rw [lastOf_succ hp]
        rfl
      · rintro σ H' ⟨rfl, v, rfl⟩
        refine ⟨_, rfl, l, rfl, ⟨_, hS⟩, fun D nD => lc_tup (K := K) (a := l) (xs := xs) (fun i H1 => Grew P H' H1 ∧ H1 D = some (.lst (xs.take i)))
          ⟨Grew.new hP nD, upd_same⟩ (fun i H1 _ p => p.1.sqT hP hS) (fun i x H1 hx p => ?_) (fun H1 p => ?_)⟩
        · obtain ⟨g, hD⟩ := p
          obtain ⟨p, hp, t, rfl, hT⟩ := Paired.at hG hx
          refine ⟨rfl, _, rfl, t, _, rfl, .inr ⟨g.sqT hP hT, _, hD, ?_, g.write hD (fun _ z => by cases z) nD, ?_⟩⟩
          · rw [List.length_take, sizeLine_eq]; omega
          · rw [upd_same, List.take_succ, hx]; rfl
        · obtain ⟨g, hD⟩ := p
          rw [List.take_length] at hD
          refine ⟨D, _, rfl, .inl ⟨SqL.of hD, fun q nq => ?_⟩⟩
          have gq := g.put (o := .tup xs) nq
          exact k _ _ gq ⟨q, xs, rfl, SqT.of upd_same, Paired.map' hG fun a b m => m.keep (KeepT.grew gq hP)⟩
end
end W

set_option Elab.async false
set_option linter.all false
set_option maxRecDepth 100000
set_option maxHeartbeats 400000
namespace W
open PySem PySem.Spec PyProof.Rows L2 GxR MyG MyS
/-! ### _checked_names, _checked_road -/
def spNames (K : PySem.W.Frag) (P : Addr) : Sp := fun vs H Q _ => ∃ (a : Addr) (ns : List Str) (lo hi : Int), vs = [.ref a, .int lo, .int hi] ∧ SqL K H a (ns.map V.str) ∧ lo ≤ ns.length ∧ (ns.length : Int) ≤ hi ∧ ns.length ≤ 1000 ∧ ns.all isNm = true ∧ ns.Nodup ∧ TabG H P ∧
  ∀ H' p ys, Grew P H H' → H p = none → H' p = some (.tup (ys.map V.str)) → ys.Perm ns → Asc ys → Q (.ref p) H'
section
variable {Pg : Program} {w : World} {K : PySem.W.Frag} {mg : Str → Option Value} {base : Heap} {C P : Addr}
theorem scNames : FnScope ["names", "least", "most", "name"] ["names", "least", "most"] (defScope sNames) := ⟨rfl, rfl, rfl, by decide +kernel, rfl, by decide +kernel, by decide +kernel⟩
theorem ok_names {f fN fD : Addr} {fd fdN fdD : FuncData} (F : Fun K "_checked_names" "_checked_names" sNames f fd) (hl : mg "len" = none) (ht : mg "tuple" = none) (hs : mg "sorted" = none)
    (GN : FnOk Pg w K mg base CX0 2 fN fdN ["text"] (spIsName P)) (gN : mg "is_name" = some (.ref fN)) (kN : PySem.W.keepIn K (.ref fN) = true) (bN : Binds K fdN ["text"] [])
    (GD : FnOk Pg w K mg base CX0 1 fD fdD ["parts"] (spDiff K)) (gD : mg "_check_different" = some (.ref fD)) (kD : PySem.W.keepIn K (.ref fD) = true) (bD : Binds K fdD ["parts"] []) :
    FnOk Pg w K mg base CX0 3 f fd ["names", "least", "most"] (spNames K P) := by
  refine F.ok scNames (fun vs H Q E h => ?_) (fun cdv A outer s H vs Q E hr h => ?_)
  · obtain ⟨a, ns, lo, hi, rfl, _⟩ := h
    rfl
  · obtain ⟨a, ns, lo, hi, rfl, hS, hlo, hhi, h1, hz, nd, hP, kQ⟩ := h
    have hr1 : Room 1 _ := hr.mono (by decide)
    refine ⟨_, pss_cons (ps_if (pt_not (pt_chain op_le op_le (pv 1) (pe_callB call_len_seq (by rfl) hl PySem.boot_len (pa_cons (pv 0) pa_nil)) (pv 2))) (pss_one ps_never) pss_nil)
      (pss_cons (ps_for PassesOwn.never rfl (pi_list (pv 0)) (pg_name (i := 3) scNames.nd rfl (Or.inl rfl))
        (pss_one (ps_if (pt_not (pt_val (pe_call GN hr (by rfl) gN kN bN .nil pass0 (pa_cons (pv 3) pa_nil)))) (pss_one ps_never) pss_nil)))
      (pss_cons (ps_expr (pe_call GD hr1 (by rfl) gD kD bD .nil pass0 (pa_cons (pv 0) pa_nil)))
      (pss_one (ps_ret (pe_callTy call_tuple_of (by rfl) ht (by decide +kernel) (pa_cons (pe_callB cr_sortSQ (by rfl) hs (by decide +kernel) (pa_cons (pv 0) pa_nil)) pa_nil)))))), ?_⟩
    refine ⟨_, rfl, _, rfl, a, _, rfl, .inl hS, _, _, rfl, rfl, _, rfl, ?_⟩
    rw [List.length_map]
    refine if_t (decide_eq_true hlo) ⟨_, rfl, _, _, rfl, rfl, _, rfl, ?_⟩
    rw [decide_eq_true hhi]
    refine iteF ⟨_, rfl, a, rfl, ⟨_, hS⟩, for_list (K := K) (a := a) (xs := ns.map V.str) (fun i σ H' => ∃ v, σ = [some (.ref a), some (.int lo), some (.int hi), v] ∧ Grew P H H')
      ⟨none, rfl, Grew.refl hP⟩ (fun i σ H' _ ⟨_, _, g⟩ => g.sqL hP hS) ?_ ?_⟩
    · rintro i y σ H' hi ⟨v, rfl, g⟩
      obtain ⟨z, hzi, rfl⟩ : ∃ z, ns[i]? = some z ∧ y = V.str z := by
        rw [List.getElem?_map] at hi
        obtain ⟨z, e1, e2⟩ := Option.map_eq_some_iff.mp hi
        exact ⟨z, e1, e2.symm⟩
      have hn : isNm z = true := List.all_eq_true.mp hz z (List.mem_of_getElem? hzi)
      have hzl := isNm_len hn
      refine ⟨_, rfl, z, rfl, by rw [sizeLine_eq]; omega, g.tab, fun H2 t2 => ⟨_, rfl, ?_⟩⟩
      have g2 := g.trans (Grew.of t2)
      rw [hn]
      exact iteF ⟨_, rfl, g2⟩
    · rintro σ H' ⟨v, rfl, g⟩
      refine ⟨_, rfl, a, rfl, .inl ⟨ns, .inl (g.sqL hP hS), h1, nd⟩, ?_⟩
      refine ⟨_, rfl, a, ns, rfl, .inl (g.sqL hP hS), fun ys l hp hso hl => ⟨l, _, rfl, .inl ⟨SqL.of upd_same, fun p hp2 => ?_⟩⟩⟩
      have gl := g.put (o := .lst (ys.map V.str)) hl
      exact kQ _ p ys (gl.put hp2) (gl.free hp2) upd_same hp hso
/-- the road leads from place to place, for kinds of the map -/
structure RoadOk (d : Int) (ps ks : List Str) (r : RoadD) : Prop where
  s : r.start ∈ ps
  g : r.goal ∈ ps
  m1 : 1 ≤ r.minutes
  m2 : r.minutes ≤ 1000
  u : ∀ k ∈ r.users, k ∈ ks
  un : r.users.length ≤ 4
  ud : r.users.Nodup
  h : HoursOk d r.hours
/-- the road as the map keeps it -/
def Kept (r r' : RoadD) : Prop := r'.name = r.name ∧ r'.start = r.start ∧ r'.goal = r.goal ∧ r'.minutes = r.minutes ∧ r'.hours = r.hours ∧ r'.users.Perm r.users ∧ Asc r'.users
def spRoad (K : PySem.W.Frag) (P : Addr) : Sp := fun vs H Q _ => ∃ (x : V) (pl ki : Addr) (d : Int) (ps ks : List Str) (r : RoadD), vs = [x, .int d, .ref pl, .ref ki] ∧ GRoad K H r x ∧ SqT K H pl (ps.map V.str) ∧ SqT K H ki (ks.map V.str) ∧ RoadOk d ps ks r ∧ TabG H P ∧
  ∀ H' p q h r', Grew P H H' → Kept r r' → H p = none → H' p = some (.tup [.str r'.name, .str r'.start, .str r'.goal, .int r'.minutes, .ref q, h]) → H' q = some (.tup (r'.users.map V.str)) → GHours K H' r'.hours h → Q (.ref p) H'
theorem scRoad : FnScope ["road", "day", "places", "kinds", "name", "start", "end", "minutes", "users", "hours", "kind"] ["road", "day", "places", "kinds"] (defScope sRoad) := ⟨rfl, rfl, rfl, by decide +kernel, rfl, by decide +kernel, by decide +kernel⟩
theorem inV_str {x : Str} {xs : List Str} (h : x ∈ xs) : inV (.str x) (xs.map V.str) = true := by
  unfold inV
  rw [List.any_map, List.any_eq_true]
  exact ⟨x, h, by simp [eqV]⟩
theorem flat_strs (xs : List Str) : (xs.map V.str).all flatV = true := by
  rw [List.all_map]
  exact List.all_eq_true.mpr fun _ _ => rfl
theorem ok_road {f fH fD : Addr} {fd fdH fdD : FuncData} {t1 : Tok} (F : Fun K "_checked_road" "_checked_road" sRoad f fd) (ht : mg "tuple" = none) (hs : mg "sorted" = none) (hm : mg "MOST_MINUTES" = some (.int 1000 t1))
    (GD : FnOk Pg w K mg base CX0 1 fD fdD ["parts"] (spDiff K)) (gD : mg "_check_different" = some (.ref fD)) (kD : PySem.W.keepIn K (.ref fD) = true) (bD : Binds K fdD ["parts"] [])
    (GH : FnOk Pg w K mg base CX0 1 fH fdH ["hours", "day"] (spHours K P)) (gH : mg "_checked_hours" = some (.ref fH)) (kH : PySem.W.keepIn K (.ref fH) = true) (bH : Binds K fdH ["hours", "day"] []) :
    FnOk Pg w K mg base CX0 2 f fd ["road", "day", "places", "kinds"] (spRoad K P) := by
  refine F.ok scRoad (fun vs H Q E h => ?_) (fun cdv A outer s H vs Q E hr h => ?_)
  · obtain ⟨x, pl, ki, d, ps, ks, r, rfl, _⟩ := h
    rfl
  · obtain ⟨x, pl, ki, d, ps, ks, r, rfl, ⟨t, u, h, rfl, hT, hU, hH⟩, hPl, hKi, ok, hP, k⟩ := h
    refine ⟨_, pss_cons (ps_asg (pv 0) (pg_tup (by rfl) (pgs_cons (pg_name (i := 4) scRoad.nd rfl (.inl rfl)) (pgs_cons (pg_name (i := 5) scRoad.nd rfl (.inl rfl)) (pgs_cons (pg_name (i := 6) scRoad.nd rfl (.inl rfl))
        (pgs_cons (pg_name (i := 7) scRoad.nd rfl (.inl rfl)) (pgs_cons (pg_name (i := 8) scRoad.nd rfl (.inl rfl)) (pgs_cons (pg_name (i := 9) scRoad.nd rfl (.inl rfl)) pgs_nil))))))))
      (pss_cons (ps_if (PW.pt (pw_or (pt_cmpR op_notIn_seq (pv 5) (pv 2) (by rfl)) (pw_or1 (pt_cmpR op_notIn_seq (pv 6) (pv 2) (by rfl))))) (pss_one ps_never) pss_nil)
      (pss_cons (ps_if (pt_not (pt_chain op_le op_le pe_int (pv 7) (pe_gI hm))) (pss_one ps_never) pss_nil)
      (pss_cons (ps_for PassesOwn.never rfl (pi_tup (pv 8)) (pg_name (i := 10) scRoad.nd rfl (Or.inl rfl)) (pss_one (ps_if (pt_cmpR op_notIn_seq (pv 10) (pv 3) (by rfl)) (pss_one ps_never) pss_nil)))
      (pss_cons (ps_expr (pe_call GD hr (by rfl) gD kD bD .nil pass0 (pa_cons (pv 8) pa_nil)))
      (pss_one (ps_ret (pe_tup (pa_cons (pv 4) (pa_cons (pv 5) (pa_cons (pv 6) (pa_cons (pv 7) (pa_cons (pe_callTy call_tuple_of (by rfl) ht (by decide +kernel) (pa_cons (pe_callB cr_sortSQ (by rfl) hs (by decide +kernel) (pa_cons (pv 8) pa_nil)) pa_nil))
        (pa_cons (pe_call GH hr (by rfl) gH kH bH .nil pass0 (pa_cons (pv 9) (pa_cons (pv 1) pa_nil))) pa_nil))))))))))))), ?_⟩
    refine ⟨_, rfl, t, _, rfl, hT, rfl, _, _, rfl, _, _, rfl, _, _, rfl, _, _, rfl, _, _, rfl, _, _, rfl, rfl, ?_⟩
    have i1 := inV_str ok.s
    have i2 := inV_str ok.g
    refine ⟨_, rfl, _, rfl, pl, _, rfl, .inr hPl, rfl, flat_strs _, _, rfl, ?_⟩
    refine if_f (by simp [i1]) ?_
    refine ⟨_, rfl, _, rfl, pl, _, rfl, .inr hPl, rfl, flat_strs _, _, rfl, ?_⟩
    refine if_f (by simp [i2]) ?_
    refine ⟨_, rfl, _, _, rfl, rfl, _, rfl, if_t (decide_eq_true ok.m1) ⟨_, _, rfl, rfl, _, rfl, ?_⟩⟩
    rw [decide_eq_true ok.m2]
    refine iteF ?_
    refine ⟨_, rfl, u, rfl, ⟨_, hU⟩, for_tup (K := K) (a := u) (xs := r.users.map V.str) (fun i σ H' => H' = H ∧ ∃ v, σ = [some (.ref t), some (.int d), some (.ref pl), some (.ref ki), some (.str r.name), some (.str r.start), some (.str r.goal), some (.int r.minutes), some (.ref u), some h, v])
      ⟨rfl, none, rfl⟩ (fun i σ H' _ ⟨e, _⟩ => by rw [e]; exact hU) ?_ ?_⟩
    · rintro i y σ H' hi ⟨rfl, v, rfl⟩
      obtain ⟨z, hzi, rfl⟩ : ∃ z, r.users[i]? = some z ∧ y = V.str z := by
        rw [List.getElem?_map] at hi
        obtain ⟨z, e1, e2⟩ := Option.map_eq_some_iff.mp hi
        exact ⟨z, e1, e2.symm⟩
      have i3 := inV_str (ok.u z (List.mem_of_getElem? hzi))
      refine ⟨_, rfl, _, rfl, ki, _, rfl, .inr hKi, rfl, flat_strs _, _, rfl, ?_⟩
      refine if_f (by simp [i3]) ⟨rfl, _, rfl⟩
    · rintro σ H' ⟨rfl, v, rfl⟩
      have un := ok.un
      refine ⟨_, rfl, u, rfl, .inl ⟨r.users, .inr hU, by omega, ok.ud⟩, ?_⟩
      refine ⟨_, rfl, _, rfl, _, rfl, _, rfl, _, rfl, u, r.users, rfl, .inr hU, fun ys l hp hso hl => ⟨l, _, rfl, .inl ⟨SqL.of upd_same, fun q hq => ?_⟩⟩⟩
      have gl := Grew.new hP (o := .lst (ys.map V.str)) hl
      have gq := gl.put (o := .tup (ys.map V.str)) hq
      refine ⟨_, rfl, _, rfl, d, r.hours, h, rfl, hH.keep (KeepT.grew gq hP), ok.h, gq.tab, fun H2 v' g2 hv => ⟨by show 6 ≤ sizeLine; decide, fun p hp2 => ?_⟩⟩
      have g3 := gq.trans g2
      have gp := g3.put (o := .tup [.str r.name, .str r.start, .str r.goal, .int r.minutes, .ref q, v']) hp2
      have e2 : H2 q = some (.tup (ys.map V.str)) := g2.tup gq.tab upd_same
      exact k _ p q v' { r with users := ys } gp ⟨rfl, rfl, rfl, rfl, rfl, hp, hso⟩ (g3.free hp2) upd_same (by rw [upd_ne (ne_of_none e2 hp2)]; exact e2) (hv.keep (KeepT.new hp2))
end
end W

set_option Elab.async false
set_option linter.all false
set_option maxRecDepth 100000
set_option maxHeartbeats 400000
namespace W
open PySem PySem.Spec PyProof.Rows L2 GxR MyG MyS
/-! ### _checked_roads -/
/-- a road that was made here: its own tuples stand tracked, none was there at H0 -/
def MadeR (K : PySem.W.Frag) (H0 H : Hp) (r : RoadD) (v : V) : Prop := ∃ r' p q h, v = .ref p ∧ H0 p = none ∧ Kept r r' ∧ H p = some (.tup [.str r'.name, .str r'.start, .str r'.goal, .int r'.minutes, .ref q, h]) ∧ H q = some (.tup (r'.users.map V.str)) ∧ GHours K H r'.hours h
/-- the road v at H -/
def RoadAt (K : PySem.W.Frag) (H : Hp) (r : RoadD) (v : V) : Prop := ∃ p q h, v = .ref p ∧ H p = some (.tup [.str r.name, .str r.start, .str r.goal, .int r.minutes, .ref q, h]) ∧ H q = some (.tup (r.users.map V.str)) ∧ GHours K H r.hours h
theorem RoadAt.grew {K : PySem.W.Frag} {P : Addr} {H H' : Hp} {r : RoadD} {v : V} (g : Grew P H H') (h : TabG H P) (m : RoadAt K H r v) : RoadAt K H' r v := by
  obtain ⟨p, q, hv, e, e1, e2, e3⟩ := m
  exact ⟨p, q, hv, e, g.tup h e1, g.tup h e2, e3.keep (KeepT.grew g h)⟩
theorem RoadAt.upd {K : PySem.W.Frag} {H : Hp} {D : Addr} {o : HO} {r : RoadD} {v : V} (nt : ∀ xs, H D ≠ some (.tup xs)) (kt : KeepT K H (L2.upd H D o)) (m : RoadAt K H r v) : RoadAt K (L2.upd H D o) r v := by
  obtain ⟨p, q, hv, e, e1, e2, e3⟩ := m
  exact ⟨p, q, hv, e, by rw [upd_ne (fun z => nt _ (z ▸ e1))]; exact e1, by rw [upd_ne (fun z => nt _ (z ▸ e2))]; exact e2, e3.keep kt⟩
theorem RoadAt.road {K : PySem.W.Frag} {H : Hp} {r : RoadD} {v : V} (m : RoadAt K H r v) : GRoad K H r v := by
  obtain ⟨p, q, hv, e, e1, e2, e3⟩ := m
  exact ⟨p, q, hv, e, SqT.of e1, SqT.of e2, e3⟩
theorem ex_list {α β : Type} {F : α → β → Prop} : ∀ (l : List α), (∀ a ∈ l, ∃ b, F a b) → ∃ m, Paired F l m
  | [], _ => ⟨[], .nil⟩
  | a :: l, h => by
    obtain ⟨b, hb⟩ := h a List.mem_cons_self
    obtain ⟨m, hm⟩ := ex_list l fun a ha => h a (List.mem_cons_of_mem _ ha)
    exact ⟨b :: m, .cons hb hm⟩
theorem Paired.mem {α β : Type} {F : α → β → Prop} : ∀ {l : List α} {m : List β} {b : β}, Paired F l m → b ∈ m → ∃ a ∈ l, F a b
  | _, _, _, .cons r t, h => by
    rcases List.mem_cons.mp h with e | h
    · exact ⟨_, List.mem_cons_self, e ▸ r⟩
    · obtain ⟨a, ha, f⟩ := Paired.mem t h
      exact ⟨a, List.mem_cons_of_mem _ ha, f⟩
theorem Paired.mem' {α β : Type} {F : α → β → Prop} : ∀ {l : List α} {m : List β} {a : α}, Paired F l m → a ∈ l → ∃ b ∈ m, F a b
  | _, _, _, .cons r t, h => by
    rcases List.mem_cons.mp h with e | h
    · exact ⟨_, List.mem_cons_self, e ▸ r⟩
    · obtain ⟨a, ha, f⟩ := Paired.mem' t h
      exact ⟨a, List.mem_cons_of_mem _ ha, f⟩
theorem Paired.comp {α β γ : Type} {F : α → β → Prop} {G : β → γ → Prop} {E : α → γ → Prop} (h : ∀ a b c, F a b → G b c → E a c) : ∀ {l : List α} {m : List β} {n : List γ}, Paired F l m → Paired G m n → Paired E l n
  | _, _, _, .nil, .nil => .nil
  | _, _, _, .cons r t, .cons r' t' => .cons (h _ _ _ r r') (Paired.comp h t t')
/-- the values in another order: the things behind them too -/
theorem Paired.perm {α β : Type} {F : α → β → Prop} {m m' : List β} (p : m'.Perm m) : ∀ {l : List α}, Paired F l m → ∃ l' : List α, l'.Perm l ∧ Paired F l' m' := by
  induction p with
  | nil => exact fun h => ⟨_, List.Perm.refl _, h⟩
  | cons x p ih =>
    intro l h
    cases h with
    | cons r t =>
      obtain ⟨l', q1, q2⟩ := ih t
      exact ⟨_ :: l', q1.cons _, .cons r q2⟩
  | swap x y l0 =>
    intro l h
    cases h with
    | cons r t =>
      cases t with
      | cons r2 t => exact ⟨_ :: _ :: _, List.Perm.swap .., .cons r2 (.cons r t)⟩
  | trans p q ih1 ih2 =>
    intro l h
    obtain ⟨l1, a1, a2⟩ := ih2 h
    obtain ⟨l2, b1, b2⟩ := ih1 a2
    exact ⟨l2, b1.trans a1, b2⟩
theorem Paired.pair {α β : Type} {F : α → β → Prop} {R : β → β → Prop} {S : α → α → Prop} (h : ∀ a b x y, F a x → F b y → R x y → S a b) : ∀ {l : List α} {m : List β}, Paired F l m → m.Pairwise R → l.Pairwise S
  | _, _, .nil, _ => List.Pairwise.nil
  | _, _, .cons r t, p => by
    have q := List.pairwise_cons.mp p
    refine List.pairwise_cons.mpr ⟨fun a ha => ?_, Paired.pair h t q.2⟩
    obtain ⟨b, hb, f⟩ := Paired.mem' t ha
    exact h _ _ _ _ r f (q.1 b hb)
theorem Paired.inj {α β γ : Type} {F : α → β → Prop} {f : α → γ} {l : List α} {m : List β} (h : Paired F l m) (nd : (l.map f).Nodup) {x y : β} (hx : x ∈ m) (hy : y ∈ m) (hxy : ∀ a b, F a x → F b y → f a = f b) : x = y := by
  obtain ⟨i, hi, ei⟩ := List.getElem_of_mem hx
  obtain ⟨j, hj, ej⟩ := List.getElem_of_mem hy
  obtain ⟨a, ha, fa⟩ := Paired.at h (List.getElem?_eq_some_iff.mpr ⟨hi, ei⟩)
  obtain ⟨b, hb, fb⟩ := Paired.at h (List.getElem?_eq_some_iff.mpr ⟨hj, ej⟩)
  have e := hxy a b fa fb
  obtain ⟨hi', ea⟩ := List.getElem?_eq_some_iff.mp ha
  obtain ⟨hj', eb⟩ := List.getElem?_eq_some_iff.mp hb
  have ij : i = j := by
    rcases Nat.lt_trichotomy i j with c | c | c
    · exact absurd (by rw [List.getElem_map, List.getElem_map, ea, eb]; exact e) (List.pairwise_iff_getElem.mp nd i j (by rw [List.length_map]; exact hi') (by rw [List.length_map]; exact hj') c)
    · exact c
    · exact absurd (by rw [List.getElem_map, List.getElem_map, ea, eb]; exact e.symm) (List.pairwise_iff_getElem.mp nd j i (by rw [List.length_map]; exact hj') (by rw [List.length_map]; exact hi') c)
  subst ij
  exact ei.symm.trans ej
theorem kept_names : ∀ {rs ms : List RoadD}, Paired Kept rs ms → ms.map (·.name) = rs.map (·.name)
  | _, _, .nil => rfl
  | _, _, .cons r t => by
    rw [List.map_cons, List.map_cons, kept_names t, r.1]
/-- the name of a road's tuple -/
def nameAt (H : Hp) : V → Str
  | .ref t => match H t with
    | some (.tup (.str n :: _)) => n
    | _ => Str.empty
  | _ => Str.empty
theorem RoadAt.name {K : PySem.W.Frag} {H : Hp} {r : RoadD} {v : V} (m : RoadAt K H r v) : nameAt H v = r.name := by
  obtain ⟨p, q, hv, e, e1, _⟩ := m
  subst e
  unfold nameAt
  simp only [e1]
/-- the roads as the map keeps them: the same ones, each as it is kept, by their names -/
def KeptAll (rs rs' : List RoadD) : Prop := ∃ l, l.Perm rs' ∧ Paired Kept rs l
def AscR (rs : List RoadD) : Prop := rs.Pairwise fun a b => slt b.name a.name = false
structure RoadsOk (d : Int) (ps ks : List Str) (rs : List RoadD) : Prop where
  len : rs.length ≤ 60
  nm : (rs.map (·.name)).all isNm = true
  nd : (rs.map (·.name)).Nodup
  ok : ∀ r ∈ rs, RoadOk d ps ks r
def spRoads (K : PySem.W.Frag) (P : Addr) : Sp := fun vs H Q _ => ∃ (a pl ki : Addr) (d : Int) (ps ks : List Str) (rs : List RoadD) (xs : List V), vs = [.ref a, .int d, .ref pl, .ref ki] ∧ SqL K H a xs ∧ Paired (GRoad K H) rs xs ∧ SqT K H pl (ps.map V.str) ∧ SqT K H ki (ks.map V.str) ∧ RoadsOk d ps ks rs ∧ TabG H P ∧
  ∀ H' p rs' ys, Grew P H H' → KeptAll rs rs' → AscR rs' → H p = none → H' p = some (.tup ys) → Paired (RoadAt K H') rs' ys → Q (.ref p) H'
section
variable {Pg : Program} {w : World} {K : PySem.W.Frag} {mg : Str → Option Value} {base : Heap} {C P : Addr}
abbrev nRoads : List Str := ["roads", "day", "places", "kinds", "road", "kept"]
theorem scRoads : FnScope nRoads ["roads", "day", "places", "kinds"] (defScope sRoads) := ⟨rfl, rfl, rfl, by decide +kernel, rfl, by decide +kernel, by decide +kernel⟩
theorem ok_roads {f fN fR : Addr} {fd fdN fdR : FuncData} {t1 t2 t3 : Tok} (F : Fun K "_checked_roads" "_checked_roads" sRoads f fd) (hl : mg "len" = none) (ht : mg "tuple" = none) (hs : mg "sorted" = none)
    (hp : mg "PARTS" = some (.int 6 t1)) (hn : mg "NAME" = some (.int 0 t2)) (hm : mg "MOST_ROADS" = some (.int 60 t3))
    (GN : FnOk Pg w K mg base CX0 3 fN fdN ["names", "least", "most"] (spNames K P)) (gN : mg "_checked_names" = some (.ref fN)) (kN : PySem.W.keepIn K (.ref fN) = true) (bN : Binds K fdN ["names", "least", "most"] [])
    (GR : FnOk Pg w K mg base CX0 2 fR fdR ["road", "day", "places", "kinds"] (spRoad K P)) (gR : mg "_checked_road" = some (.ref fR)) (kR : PySem.W.keepIn K (.ref fR) = true) (bR : Binds K fdR ["road", "day", "places", "kinds"] []) :
    FnOk Pg w K mg base CX0 4 f fd ["roads", "day", "places", "kinds"] (spRoads K P) := by
  refine F.ok scRoads (fun vs H Q E h => ?_) (fun cdv A outer s H vs Q E hr h => ?_)
  · obtain ⟨a, pl, ki, d, ps, ks, rs, xs, rfl, _⟩ := h
    rfl
  · obtain ⟨a, pl, ki, d, ps, ks, rs, xs, rfl, hS, hG, hPl, hKi, ok, hP, k⟩ := h
    have hr2 : Room 2 _ := hr.mono (by decide)
    refine ⟨_, pss_cons (ps_for PassesOwn.never rfl (pi_list (pv 0)) (pg_name (i := 4) scRoads.nd rfl (Or.inl rfl)) (pss_one (ps_if (pt_cmpR op_ne (pe_callB call_len_seq (by rfl) hl PySem.boot_len (pa_cons (pv 4) pa_nil)) (pe_gI hp) (nomark _)) (pss_one ps_never) pss_nil)))
      (pss_cons (ps_expr (pe_call GN hr (by rfl) gN kN bN .nil pass0 (pa_cons (pe_lc (own := [("road", 4)]) (g := gName 4) (tt := tYes) rfl scRoads.nd (pi_list (pv 0)) (blkOk_by (N := nRoads) (sc := defScope sRoads) (by decide +kernel)) (fun _ _ _ _ _ => pg_name (i := 4) scRoads.nd rfl (Or.inl rfl)) (fun _ _ _ _ _ => pts_nil)
          (fun _ _ _ _ _ => pe_ix (r := rIxT K) ix_tup (pv 4) (pe_gI hn) (fun _ _ => rfl))) (pa_cons pe_int (pa_cons (pe_gI hm) pa_nil)))))
      (pss_cons (ps_setLc (i := 5) (own := [("road", 4)]) (g := gName 4) (tt := tYes) rfl scRoads.nd rfl rfl (sw_true rfl rfl rfl (by decide +kernel)) (pi_list (pv 0)) (blkOk_by (N := nRoads) (sc := defScope sRoads) (by decide +kernel)) (fun _ _ _ _ _ => pg_name (i := 4) scRoads.nd rfl (Or.inl rfl)) (fun _ _ _ _ _ => pts_nil)
          (fun _ _ _ _ _ => pe_call GR hr2 (by rfl) gR kR bR .nil pass0 (pa_cons (pv 4) (pa_cons (pv 1) (pa_cons (pv 2) (pa_cons (pv 3) pa_nil))))))
      (pss_one (ps_ret (pe_callTy call_tuple_of (by rfl) ht (by decide +kernel) (pa_cons (pe_callB cr_sortR (by rfl) hs (by decide +kernel) (pa_cons (pv 5) pa_nil)) pa_nil)))))), ?_⟩
    have hln : rs.length = xs.length := Paired.len hG
    have hl60 := ok.len
    refine ⟨_, rfl, a, rfl, ⟨_, hS⟩, for_list (K := K) (a := a) (xs := xs) (fun i σ H' => H' = H ∧ ∃ v, σ = [some (.ref a), some (.int d), some (.ref pl), some (.ref ki), v, none])
      ⟨rfl, none, rfl⟩ (fun i σ H' _ ⟨e, _⟩ => by rw [e]; exact hS) ?_ ?_⟩
    · rintro i y σ H' hi ⟨rfl, v, rfl⟩
      obtain ⟨r, hr, t, u, h, rfl, hT, _⟩ := Paired.at hG hi
      refine ⟨_, rfl, t, _, rfl, .inr hT, rfl, _, rfl, ?_⟩
      exact if_f (by rfl) ⟨rfl, _, rfl⟩
    · rintro σ H' ⟨rfl, v, rfl⟩
      refine ⟨_, rfl, a, rfl, ⟨_, hS⟩, fun D nD => lc_list (K := K) (a := a) (xs := xs) (fun i H1 => Grew P H' H1 ∧ H1 D = some (.lst (((rs.map (·.name)).take i).map V.str)))
        ⟨Grew.new hP nD, upd_same⟩ (fun i H1 _ p => p.1.sqL hP hS) (fun i x H1 hx p => ?_) (fun H1 p => ?_)⟩
      · obtain ⟨g, hD⟩ := p
        obtain ⟨r, hr, t, u, h, rfl, hT, _⟩ := Paired.at hG hx
        refine ⟨rfl, _, rfl, t, _, 0, .str r.name, rfl, rfl, g.sqT hP hT, rfl, _, hD, ?_, ?_, ?_⟩
        · rw [List.length_map, List.length_take, List.length_map, sizeLine_eq]
          omega
        · exact g.write hD (fun _ z => by cases z) nD
        · rw [upd_same, List.take_succ, List.getElem?_map, hr, List.map_append]
          rfl
      · obtain ⟨g, hD⟩ := p
        rw [← hln, ← List.length_map (f := (·.name)), List.take_length] at hD
        refine ⟨D, rs.map (·.name), 0, 60, rfl, SqL.of hD, by omega, by rw [List.length_map]; omega, by rw [List.length_map]; omega, ok.nm, ok.nd, g.tab, fun H2 p2 ys2 g2 np e2 _ _ => ?_⟩
        have g3 := g.trans g2
        refine ⟨_, rfl, a, rfl, ⟨_, g3.sqL hP hS⟩, fun D2 nD2 => lc_list (K := K) (a := a) (xs := xs) (fun i H1 => Grew P H' H1 ∧ ∃ acc ms, H1 D2 = some (.lst acc) ∧ Paired Kept (rs.take i) ms ∧ Paired (RoadAt K H1) ms acc)
          ⟨g3.put nD2, [], [], upd_same, .nil, .nil⟩ (fun i H1 _ p => p.1.sqL hP hS) (fun i x H1 hx p => ?_) (fun H1 p => ?_)⟩
        · obtain ⟨g4, acc, ms, hD4, hk4, hm4⟩ := p
          obtain ⟨r, hr, hgr⟩ := Paired.at hG hx
          have nD2' := g3.free nD2
          refine ⟨rfl, _, rfl, _, rfl, _, rfl, _, rfl, x, pl, ki, d, ps, ks, r, rfl, hgr.keep (KeepT.grew g4 hP), g4.sqT hP hPl, g4.sqT hP hKi, ok.ok r (List.mem_of_getElem? hr), g4.tab, fun H5 p5 q5 h5 r5 g5 kp n5 e5 f5 hh5 => ?_⟩
          have hD5 := g5.lst g4.tab hD4
          have g45 := g4.trans g5
          refine ⟨acc, hD5, ?_, g45.write hD5 (fun _ z => by cases z) nD2', acc ++ [.ref p5], ms ++ [r5], upd_same, ?_, ?_⟩
          · rw [← Paired.len hm4, ← Paired.len hk4, List.length_take, sizeLine_eq]
            omega
          · rw [List.take_succ, hr]
            exact Paired.snoc hk4 kp
          · have up : ∀ {r : RoadD} {v : V}, RoadAt K H5 r v → RoadAt K (L2.upd H5 D2 (.lst (acc ++ [.ref p5]))) r v := fun m => m.upd (fun xs z => by rw [hD5] at z; cases z) (KeepT.lst hD5)
            exact Paired.snoc (Paired.map' hm4 fun r v m => up (m.grew g5 g4.tab)) (up ⟨p5, q5, h5, rfl, e5, f5, hh5⟩)
        · obtain ⟨g4, acc, ms, hD4, hk4, hm4⟩ := p
          rw [← hln, List.take_length] at hk4
          have nd : (ms.map (·.name)).Nodup := by rw [kept_names hk4]; exact ok.nd
          refine ⟨_, rfl, D2, acc, nameAt H1, rfl, SqL.of hD4, fun x hx => ?_, fun x hx y hy e => Paired.inj hm4 nd hx hy fun r r' m m' => by rw [← m.name, ← m'.name]; exact e, fun ys l hpm hso hl => ⟨l, _, rfl, .inl ⟨SqL.of upd_same, fun p hp2 => ?_⟩⟩⟩
          · obtain ⟨r, _, m⟩ := Paired.mem hm4 hx
            have nm := m.name
            obtain ⟨p, q, hv, e, e1, _⟩ := m
            exact ⟨p, _, e, by rw [nm]; exact SqT.of e1⟩
          · obtain ⟨rs', pm, hr'⟩ := Paired.perm hpm hm4
            have gl := Grew.new g4.tab (o := .lst ys) hl
            have gp := gl.put (o := .tup ys) hp2
            exact k _ p rs' ys (g4.trans gp) ⟨ms, pm.symm, hk4⟩ (Paired.pair (fun a b x y m m' e => by rw [m.name, m'.name] at e; exact e) hr' hso) (g4.free (gl.free hp2)) upd_same (Paired.map' hr' fun _ _ m => m.grew gp g4.tab)
end
end W

set_option Elab.async false
set_option linter.all false
set_option maxRecDepth 100000
set_option maxHeartbeats 400000
namespace W
open PySem PySem.Spec PyProof.Rows L2 GxR MyG MyS
/-! ### _checked_bars -/
theorem u1 {n : Nat} (h : n + 64 < cLine) : n + 1 < cLine := by omega
def GBar (H : Hp) (b : Str × Str) (v : V) : Prop := ∃ t, v = .ref t ∧ H t = some (.tup [.str b.1, .str b.2])
theorem GBar.grew {P : Addr} {H H' : Hp} {b : Str × Str} {v : V} (g : Grew P H H') (h : TabG H P) (m : GBar H b v) : GBar H' b v := let ⟨t, e, q⟩ := m; ⟨t, e, g.tup h q⟩
theorem GBar.upd {H : Hp} {D : Addr} {o : HO} {b : Str × Str} {v : V} (nt : ∀ xs, H D ≠ some (.tup xs)) (m : GBar H b v) : GBar (L2.upd H D o) b v := by
  obtain ⟨t, e, q⟩ := m
  exact ⟨t, e, by rw [upd_ne (fun z => nt _ (z ▸ q))]; exact q⟩
/-- the pair of a bar's tuple -/
def barAt (H : Hp) : V → Str × Str
  | .ref t => match H t with
    | some (.tup [.str a, .str b]) => (a, b)
    | _ => (Str.empty, Str.empty)
  | _ => (Str.empty, Str.empty)
theorem GBar.at {H : Hp} {b : Str × Str} {v : V} (m : GBar H b v) : barAt H v = b := by
  obtain ⟨t, e, q⟩ := m
  subst e
  unfold barAt
  simp only [q]
theorem bars_keys {H : Hp} {K : PySem.W.Frag} : ∀ {bs : List (Str × Str)} {xs : List V}, Paired (GBar H) bs xs → ∃ ks : List (Addr × List Str), xs = ks.map (fun p => V.ref p.1) ∧ ks.map (·.2) = bs.map (fun b => [b.1, b.2]) ∧ ∀ p ∈ ks, SqT K H p.1 (p.2.map V.str)
  | _, _, .nil => ⟨[], rfl, rfl, fun _ h => by cases h⟩
  | _, _, .cons (a := b) ⟨t, e, q⟩ r => by
    obtain ⟨ks, e1, e2, e3⟩ := bars_keys (K := K) r
    refine ⟨(t, [b.1, b.2]) :: ks, by rw [e, e1]; rfl, by rw [List.map_cons, List.map_cons, e2], fun p hp => ?_⟩
    rcases List.mem_cons.mp hp with z | z
    · rw [z]; exact SqT.of q
    · exact e3 p z
theorem nodup_bars {bs : List (Str × Str)} (h : bs.Nodup) : (bs.map (fun b => [b.1, b.2])).Nodup :=
  List.pairwise_map.mpr (h.imp fun {a b} ne e => ne (Prod.ext (List.cons.inj e).1 (List.cons.inj (List.cons.inj e).2).1))
/-- the dict of the roads by their names -/
def DictR (K : PySem.W.Frag) (H : Hp) (d : Addr) (rs : List RoadD) : Prop := ∃ kvs, H d = some (.dK kvs) ∧ (∀ r ∈ rs, ∃ v, valV kvs (.inr r.name) = some v ∧ RoadAt K H r v) ∧ ∀ z, (∀ r ∈ rs, r.name ≠ z) → valV kvs (.inr z) = none
theorem DictR.grew {K : PySem.W.Frag} {P d : Addr} {H H' : Hp} {rs : List RoadD} (g : Grew P H H') (h : TabG H P) (m : DictR K H d rs) : DictR K H' d rs := by
  obtain ⟨kvs, e, m1, m2⟩ := m
  exact ⟨kvs, g.get h e (fun _ z => by cases z), fun r hr => let ⟨v, a, b⟩ := m1 r hr; ⟨v, a, b.grew g h⟩, m2⟩
structure BarsOk (rs : List RoadD) (bs : List (Str × Str)) : Prop where
  len : bs.length ≤ 40
  nd : bs.Nodup
  ok : ∀ b ∈ bs, ∃ r1 ∈ rs, ∃ r2 ∈ rs, b.1 = r1.name ∧ b.2 = r2.name ∧ r1.goal = r2.start
def AscB (bs : List (Str × Str)) : Prop := bs.Pairwise fun a b => slt2 b a = false
def spBars (K : PySem.W.Frag) (P : Addr) : Sp := fun vs H Q _ => ∃ (a d : Addr) (rs : List RoadD) (bs : List (Str × Str)) (xs : List V), vs = [.ref a, .ref d] ∧ SqL K H a xs ∧ Paired (GBar H) bs xs ∧ DictR K H d rs ∧ BarsOk rs bs ∧ TabG H P ∧
  ∀ H' p bs' ys, Grew P H H' → bs'.Perm bs → AscB bs' → H p = none → H' p = some (.tup ys) → Paired (GBar H') bs' ys → Q (.ref p) H'
section
variable {Pg : Program} {w : World} {K : PySem.W.Frag} {mg : Str → Option Value} {base : Heap} {C P : Addr}
abbrev nBars : List Str := ["bars", "roads_by_name", "bar", "first", "second", "kept"]
theorem scBars : FnScope nBars ["bars", "roads_by_name"] (defScope sBars) := ⟨rfl, rfl, rfl, by decide +kernel, rfl, by decide +kernel, by decide +kernel⟩
theorem ok_bars {f fD : Addr} {fd fdD : FuncData} {t1 t2 t3 : Tok} (F : Fun K "_checked_bars" "_checked_bars" sBars f fd) (hl : mg "len" = none) (ht : mg "tuple" = none) (hs : mg "sorted" = none)
    (hm : mg "MOST_BARS" = some (.int 40 t1)) (he : mg "END" = some (.int 2 t2)) (hst : mg "START" = some (.int 1 t3))
    (GD : FnOk Pg w K mg base CX0 1 fD fdD ["parts"] (spDiff K)) (gD : mg "_check_different" = some (.ref fD)) (kD : PySem.W.keepIn K (.ref fD) = true) (bD : Binds K fdD ["parts"] []) :
    FnOk Pg w K mg base CX0 2 f fd ["bars", "roads_by_name"] (spBars K P) := by
  refine F.ok scBars (fun vs H Q E h => ?_) (fun cdv A outer s H vs Q E hr h => ?_)
  · obtain ⟨a, d, rs, bs, xs, rfl, _⟩ := h
    rfl
  · obtain ⟨a, d, rs, bs, xs, rfl, hS, hG, hD, ok, hP, k⟩ := h
    refine ⟨_, pss_cons (ps_if (pt_cmpR op_gt (pe_callB call_len_seq (by rfl) hl PySem.boot_len (pa_cons (pv 0) pa_nil)) (pe_gI hm) (nomark _)) (pss_one ps_never) pss_nil)
      (pss_cons (ps_for PassesOwn.never rfl (pi_list (pv 0)) (pg_name (i := 2) scBars.nd rfl (Or.inl rfl))
        (pss_cons (ps_if (pt_cmpR op_ne (pe_callB call_len_seq (by rfl) hl PySem.boot_len (pa_cons (pv 2) pa_nil)) pe_int (nomark _)) (pss_one ps_never) pss_nil)
        (pss_cons (ps_asg (pv 2) (pg_tup (by rfl) (pgs_cons (pg_name (i := 3) scBars.nd rfl (.inl rfl)) (pgs_cons (pg_name (i := 4) scBars.nd rfl (.inl rfl)) pgs_nil))))
        (pss_cons (ps_if (PW.pt (pw_or (pt_cmp (pc_dnotin (u1 hr.units) (pv 3) (pv 1))) (pw_or1 (pt_cmp (pc_dnotin (u1 hr.units) (pv 4) (pv 1)))))) (pss_one ps_never) pss_nil)
        (pss_one (ps_if (pt_cmpR op_ne (pe_ix ix_tup (pe_dget (u1 hr.units) (pv 1) (pv 3) (fun _ _ => rfl)) (pe_gI he) (fun _ _ => rfl)) (pe_ix ix_tup (pe_dget (u1 hr.units) (pv 1) (pv 4) (fun _ _ => rfl)) (pe_gI hst) (fun _ _ => rfl)) (nomark _)) (pss_one ps_never) pss_nil))))))
      (pss_cons (ps_setLc (i := 5) (own := [("bar", 2)]) (g := gName 2) (tt := tYes) rfl scBars.nd rfl rfl (sw_true rfl rfl rfl (by decide +kernel)) (pi_list (pv 0)) (blkOk_by (N := nBars) (sc := defScope sBars) (by decide +kernel)) (fun _ _ _ _ _ => pg_name (i := 2) scBars.nd rfl (Or.inl rfl)) (fun _ _ _ _ _ => pts_nil)
          (fun _ _ _ _ _ => pe_callTy (r := rTupOf K) call_tuple_of (by rfl) ht (by decide +kernel) (pa_cons (pv 2) pa_nil)))
      (pss_cons (ps_expr (pe_call GD (hr.mono (by decide)) (by rfl) gD kD bD .nil pass0 (pa_cons (pv 5) pa_nil)))
      (pss_one (ps_ret (pe_callTy call_tuple_of (by rfl) ht (by decide +kernel) (pa_cons (pe_callB cr_sortB (by rfl) hs (by decide +kernel) (pa_cons (pv 5) pa_nil)) pa_nil))))))), ?_⟩
    have hln := Paired.len hG
    have hl40 := ok.len
    refine ⟨_, rfl, a, _, rfl, .inl hS, _, _, rfl, rfl, _, rfl, if_f (decide_eq_false (by omega)) ?_⟩
    refine ⟨_, rfl, a, rfl, ⟨_, hS⟩, for_list (K := K) (a := a) (xs := xs) (fun i σ H' => H' = H ∧ ∃ v1 v2 v3, σ = [some (.ref a), some (.ref d), v1, v2, v3, none])
      ⟨rfl, none, none, none, rfl⟩ (fun i σ H' _ ⟨e, _⟩ => by rw [e]; exact hS) ?_ ?_⟩
    · rintro i y σ H' hi ⟨rfl, v1, v2, v3, rfl⟩
      obtain ⟨b, hb, t, rfl, hT⟩ := Paired.at hG hi
      obtain ⟨r1, hr1, r2, hr2, e1, e2, e3⟩ := ok.ok b (List.mem_of_getElem? hb)
      obtain ⟨kvs, hd, hin, _⟩ := hD
      obtain ⟨w1, l1, p1, q1, h1, rfl, a1, _, _⟩ := hin r1 hr1
      obtain ⟨w2, l2, p2, q2, h2, rfl, a2, _, _⟩ := hin r2 hr2
      rw [← e1] at l1
      rw [← e2] at l2
      have g1 : DGet H' d (.str b.1) (some (.ref p1)) := by rw [← l1]; exact DGet.k (k := .inr b.1) hd
      have g2 : DGet H' d (.str b.2) (some (.ref p2)) := by rw [← l2]; exact DGet.k (k := .inr b.2) hd
      refine ⟨_, rfl, t, _, rfl, .inr (SqT.of hT), rfl, _, rfl, if_f (by rfl) ?_⟩
      refine ⟨_, rfl, t, _, rfl, SqT.of hT, rfl, _, _, rfl, _, _, rfl, rfl, ?_⟩
      refine ⟨_, rfl, _, rfl, d, _, rfl, g1, _, rfl, if_f (by rfl) ?_⟩
      refine ⟨_, rfl, _, rfl, d, _, rfl, g2, _, rfl, if_f (by rfl) ?_⟩
      refine ⟨_, rfl, _, rfl, d, _, rfl, g1, p1, _, 2, .str r1.goal, rfl, rfl, SqT.of a1, rfl, _, rfl, _, rfl, d, _, rfl, g2, p2, _, 1, .str r2.start, rfl, rfl, SqT.of a2, rfl, rfl, _, rfl, if_f ?_ ⟨rfl, _, _, _, rfl⟩⟩
      rw [e3]
      simp
    · rintro σ H' ⟨rfl, v1, v2, v3, rfl⟩
      refine ⟨_, rfl, a, rfl, ⟨_, hS⟩, fun D nD => lc_list (K := K) (a := a) (xs := xs) (fun i H1 => Grew P H' H1 ∧ H1 D = some (.lst (xs.take i)))
        ⟨Grew.new hP nD, upd_same⟩ (fun i H1 _ p => p.1.sqL hP hS) (fun i x H1 hx p => ?_) (fun H1 p => ?_)⟩
      · obtain ⟨g, hD1⟩ := p
        obtain ⟨b, hb, t, rfl, hT⟩ := Paired.at hG hx
        refine ⟨rfl, _, rfl, t, _, rfl, .inr ⟨SqT.of (g.tup hP hT), _, hD1, ?_, g.write hD1 (fun _ z => by cases z) nD, ?_⟩⟩
        · rw [List.length_take, sizeLine_eq]; omega
        · rw [upd_same, List.take_succ, hx]; rfl
      · obtain ⟨g, hD1⟩ := p
        rw [List.take_length] at hD1
        have hG1 : Paired (GBar H1) bs xs := Paired.map' hG fun b v m => m.grew g hP
        obtain ⟨ks, ek1, ek2, ek3⟩ := bars_keys (K := K) hG1
        have lk : ks.length = xs.length := by rw [ek1, List.length_map]
        refine ⟨_, rfl, D, rfl, .inr ⟨ks, by rw [← ek1]; exact SqL.of hD1, ek3, by omega, by rw [ek2]; exact nodup_bars ok.nd⟩, ?_⟩
        refine ⟨_, rfl, D, xs, barAt H1, rfl, SqL.of hD1, fun x hx => ?_, fun ys l hpm hso hl => ⟨l, _, rfl, .inl ⟨SqL.of upd_same, fun p hp2 => ?_⟩⟩⟩
        · obtain ⟨b, _, m⟩ := Paired.mem hG1 hx
          have nm := m.at
          obtain ⟨t, e, q⟩ := m
          exact ⟨t, e, by rw [nm]; exact SqT.of q⟩
        · obtain ⟨bs', pm, hr'⟩ := Paired.perm hpm hG1
          have gl := Grew.new g.tab (o := .lst ys) hl
          have gp := gl.put (o := .tup ys) hp2
          exact k _ p bs' ys (g.trans gp) pm (Paired.pair (fun a b x y m m' e => by rw [m.at, m'.at] at e; exact e) hr' hso) (g.free (gl.free hp2)) upd_same (Paired.map' hr' fun _ _ m => m.grew gp g.tab)
end
end W

set_option Elab.async false
set_option linter.all false
set_option maxRecDepth 100000
set_option maxHeartbeats 800000
namespace W
open PySem PySem.Spec PyProof.Rows L2 GxR MyG MyS
/-! ### Map.__init__ -/
abbrev nInit : List Str := ["self", "day", "kinds", "places", "roads", "bars", "road", "bar"]
abbrev pInit : List Str := ["self", "day", "kinds", "places", "roads", "bars"]
section
variable {K : PySem.W.Frag} {H : Hp} {x C dx : Addr} {fs : List (Str × V)} {o : HO}
theorem insNe (hx : H x = some (.ins C dx fs)) {a : Addr} {u : HO} (e : H a = some u) (d : ∀ C dx fs, u ≠ .ins C dx fs) : a ≠ x := fun z => by
  rw [z, hx] at e
  exact d _ _ _ (Option.some.inj e).symm
theorem tup_ins (hx : H x = some (.ins C dx fs)) {a : Addr} {l : List V} (e : H a = some (.tup l)) : L2.upd H x o a = some (.tup l) := by
  rw [upd_ne (insNe hx e (fun _ _ _ z => by cases z))]
  exact e
theorem RoadAt.ins (hx : H x = some (.ins C dx fs)) {r : RoadD} {v : V} (m : RoadAt K H r v) : RoadAt K (L2.upd H x o) r v := m.upd (fun xs z => by rw [hx] at z; cases z) (KeepT.ins hx)
theorem GBar.ins (hx : H x = some (.ins C dx fs)) {b : Str × Str} {v : V} (m : GBar H b v) : GBar (L2.upd H x o) b v := m.upd (fun xs z => by rw [hx] at z; cases z)
theorem DictR.ins (hx : H x = some (.ins C dx fs)) {d : Addr} {rs : List RoadD} (m : DictR K H d rs) : DictR K (L2.upd H x o) d rs := by
  obtain ⟨kvs, e, m1, m2⟩ := m
  exact ⟨kvs, by rw [upd_ne (insNe hx e (fun _ _ _ z => by cases z))]; exact e, fun r hr => let ⟨v, a, b⟩ := m1 r hr; ⟨v, a, b.ins hx⟩, m2⟩
end
/-- the dict of the bars -/
def DictB (H : Hp) (d : Addr) (bs : List (Str × Str)) : Prop := ∃ kvs : List (List Key × V), H d = some (.dT kvs) ∧ ∀ a b : Str, (valV kvs [.inr a, .inr b]).isSome = true ↔ (a, b) ∈ bs
/-- the fields of a map -/
def nmF : List Str := ["day", "kinds", "places", "roads", "_roads_by_name", "bars", "_barred"]
theorem noF {fs : List (Str × V)} {g : Str} {v : V} (h : ∀ f, f ∉ nmF → fs.lookup f = none) (hg : g ∈ nmF) : ∀ f, f ∉ nmF → (putF g v fs).lookup f = none := fun f hf => by
  rw [lookup_putF, if_neg (by intro e; subst e; exact hf hg)]
  exact h f hf
/-- the map at x -/
structure MapF (K : PySem.W.Frag) (H : Hp) (fs : List (Str × V)) (d : Int) (ks ps : List Str) (rs : List RoadD) (bs : List (Str × Str)) (kk pp rr D bb D2 : Addr) (ys zs : List V) : Prop where
  f0 : ∀ f, f ∉ nmF → fs.lookup f = none
  f1 : fs.lookup ("day" : Str) = some (V.int d)
  f2 : fs.lookup ("kinds" : Str) = some (V.ref kk)
  f3 : fs.lookup ("places" : Str) = some (V.ref pp)
  f4 : fs.lookup ("roads" : Str) = some (V.ref rr)
  f5 : fs.lookup ("_roads_by_name" : Str) = some (V.ref D)
  f6 : fs.lookup ("bars" : Str) = some (V.ref bb)
  f7 : fs.lookup ("_barred" : Str) = some (V.ref D2)
  k : H kk = some (.tup (ks.map V.str))
  p : H pp = some (.tup (ps.map V.str))
  r : H rr = some (.tup ys)
  ry : Paired (RoadAt K H) rs ys
  d : DictR K H D rs
  b : H bb = some (.tup zs)
  bz : Paired (GBar H) bs zs
  db : DictB H D2 bs
def MapAt (K : PySem.W.Frag) (H : Hp) (M x : Addr) (d : Int) (ks ps : List Str) (rs : List RoadD) (bs : List (Str × Str)) : Prop := ∃ dx fs kk pp rr D bb D2 ys zs, H x = some (.ins M dx fs) ∧ MapF K H fs d ks ps rs bs kk pp rr D bb D2 ys zs
structure PartsOk (d : Int) (ks ps : List Str) (rs : List RoadD) (bs : List (Str × Str)) : Prop where
  d1 : 1 ≤ d
  d2 : d ≤ 1440
  k1 : 1 ≤ ks.length
  k2 : ks.length ≤ 4
  p2 : ps.length ≤ 30
  kn : ks.all isNm = true
  pn : ps.all isNm = true
  kd : ks.Nodup
  pd : ps.Nodup
  r : RoadsOk d ps ks rs
  b : BarsOk rs bs
theorem RoadsOk.perm {d : Int} {ps ps' ks ks' : List Str} {rs : List RoadD} (h : RoadsOk d ps ks rs) (hp : ps'.Perm ps) (hk : ks'.Perm ks) : RoadsOk d ps' ks' rs := by
  obtain ⟨a, b, c, e⟩ := h
  refine ⟨a, b, c, fun r hr => ?_⟩
  obtain ⟨h1, h2, h3, h4, h5, h6, h7, h8⟩ := e r hr
  exact ⟨hp.mem_iff.mpr h1, hp.mem_iff.mpr h2, h3, h4, fun k hk' => hk.mem_iff.mpr (h5 k hk'), h6, h7, h8⟩
theorem BarsOk.kept {rs rs' : List RoadD} {bs : List (Str × Str)} (h : BarsOk rs bs) (k : KeptAll rs rs') : BarsOk rs' bs := by
  obtain ⟨a, b, c⟩ := h
  obtain ⟨l, pm, pr⟩ := k
  have f : ∀ r ∈ rs, ∃ r' ∈ rs', r'.name = r.name ∧ r'.start = r.start ∧ r'.goal = r.goal := fun r hr => by
    obtain ⟨r', hr', q⟩ := Paired.mem' pr hr
    exact ⟨r', pm.mem_iff.mp hr', q.1, q.2.1, q.2.2.1⟩
  refine ⟨a, b, fun z hz => ?_⟩
  obtain ⟨r1, h1, r2, h2, e1, e2, e3⟩ := c z hz
  obtain ⟨s1, m1, n1, _, g1⟩ := f r1 h1
  obtain ⟨s2, m2, n2, g2, _⟩ := f r2 h2
  exact ⟨s1, m1, s2, m2, by rw [n1]; exact e1, by rw [n2]; exact e2, by rw [g1, g2]; exact e3⟩
theorem KeptAll.nodup {rs rs' : List RoadD} (k : KeptAll rs rs') (h : (rs.map (·.name)).Nodup) : (rs'.map (·.name)).Nodup := by
  obtain ⟨l, pm, pr⟩ := k
  rw [← kept_names pr] at h
  exact (pm.map (·.name)).nodup_iff.mp h
theorem KeptAll.len {rs rs' : List RoadD} (k : KeptAll rs rs') : rs'.length = rs.length := by
  obtain ⟨l, pm, pr⟩ := k
  rw [← pm.length_eq, ← Paired.len pr]
def spInit (K : PySem.W.Frag) (M P : Addr) : Sp := fun vs H Q _ => ∃ (x dx ki pl ro ba : Addr) (d : Int) (ks ps : List Str) (rs : List RoadD) (bs : List (Str × Str)) (xs zs : List V) (H0 : Hp), vs = [.ref x, .int d, .ref ki, .ref pl, .ref ro, .ref ba] ∧
  Grew P H0 H ∧ TabG H0 P ∧ H0 x = none ∧ H x = some (.ins M dx []) ∧ SqL K H0 ki (ks.map V.str) ∧ SqL K H0 pl (ps.map V.str) ∧ SqL K H0 ro xs ∧ Paired (GRoad K H0) rs xs ∧ SqL K H0 ba zs ∧ Paired (GBar H0) bs zs ∧ PartsOk d ks ps rs bs ∧
  ∀ H' ks' ps' rs' bs', Grew P H0 H' → ks'.Perm ks → Asc ks' → ps'.Perm ps → Asc ps' → KeptAll rs rs' → AscR rs' → bs'.Perm bs → AscB bs' → MapAt K H' M x d ks' ps' rs' bs' → Q .non H'
structure TxtM (K : PySem.W.Frag) (M : Addr) : Prop where
  cl : Cls K M
  n1 : NoAttr K M "day"
  n2 : NoAttr K M "kinds"
  n3 : NoAttr K M "places"
  n4 : NoAttr K M "roads"
  n5 : NoAttr K M "_roads_by_name"
  n6 : NoAttr K M "bars"
  n7 : NoAttr K M "_barred"
section
variable {Pg : Program} {w : World} {K : PySem.W.Frag} {mg : Str → Option Value} {base : Heap} {C P : Addr}
theorem scInit : FnScope nInit pInit (defScope sInit) := ⟨rfl, rfl, rfl, by decide +kernel, rfl, by decide +kernel, by decide +kernel⟩
theorem ok_init {f fY fN fR fB M : Addr} {fd fdY fdN fdR fdB : FuncData} {t1 t2 t3 : Tok} {dvs : List V} {kws : List (Str × V)} (F : FunD K "__init__" "Map.__init__" (defArgs sInit) (defBody sInit) (defScope sInit) dvs kws f fd) (T : TxtM K M)
    (hn : mg "NAME" = some (.int 0 t1)) (hk : mg "MOST_KINDS" = some (.int 4 t2)) (hp : mg "MOST_PLACES" = some (.int 30 t3))
    (GY : FnOk Pg w K mg base CX0 1 fY fdY ["day"] spDay) (gY : mg "_checked_day" = some (.ref fY)) (kY : PySem.W.keepIn K (.ref fY) = true) (bY : Binds K fdY ["day"] [])
    (GN : FnOk Pg w K mg base CX0 3 fN fdN ["names", "least", "most"] (spNames K P)) (gN : mg "_checked_names" = some (.ref fN)) (kN : PySem.W.keepIn K (.ref fN) = true) (bN : Binds K fdN ["names", "least", "most"] [])
    (GR : FnOk Pg w K mg base CX0 4 fR fdR ["roads", "day", "places", "kinds"] (spRoads K P)) (gR : mg "_checked_roads" = some (.ref fR)) (kR : PySem.W.keepIn K (.ref fR) = true) (bR : Binds K fdR ["roads", "day", "places", "kinds"] [])
    (GB : FnOk Pg w K mg base CX0 2 fB fdB ["bars", "roads_by_name"] (spBars K P)) (gB : mg "_checked_bars" = some (.ref fB)) (kB : PySem.W.keepIn K (.ref fB) = true) (bB : Binds K fdB ["bars", "roads_by_name"] []) :
    FnOk Pg w K mg base CX0 5 f fd pInit (spInit K M P) := by
  refine F.ok scInit (fun vs H Q E h => ?_) (fun cdv A outer s H vs Q E hr h => ?_)
  · obtain ⟨x, dx, ki, pl, ro, ba, d, ks, ps, rs, bs, xs, zs, H0, rfl, _⟩ := h
    rfl
  · obtain ⟨x, dx, ki, pl, ro, ba, d, ks, ps, rs, bs, xs, zs, H0, rfl, g0, hP0, nx, hx, hKi, hPl, hRo, hG, hBa, hB, ok, k⟩ := h
    have hr1 : Room 1 _ := hr.mono (by decide)
    have hr2 : Room 2 _ := hr.mono (by decide)
    have hr3 : Room 3 _ := hr.mono (by decide)
    refine ⟨_, pss_cons (ps_fld (pv 0) (pe_call GY hr1 (by rfl) gY kY bY .nil pass0 (pa_cons (pv 1) pa_nil)) rfl)
      (pss_cons (ps_fld (pv 0) (pe_call GN hr3 (by rfl) gN kN bN .nil pass0 (pa_cons (pv 2) (pa_cons pe_int (pa_cons (pe_gI hk) pa_nil)))) rfl)
      (pss_cons (ps_fld (pv 0) (pe_call GN hr3 (by rfl) gN kN bN .nil pass0 (pa_cons (pv 3) (pa_cons pe_int (pa_cons (pe_gI hp) pa_nil)))) rfl)
      (pss_cons (ps_fld (pv 0) (pe_call GR hr (by rfl) gR kR bR .nil pass0 (pa_cons (pv 4) (pa_cons (pv 1) (pa_cons (pe_fld (pv 0) rfl) (pa_cons (pe_fld (pv 0) rfl) pa_nil))))) rfl)
      (pss_cons (ps_fld (pv 0) (pe_dc (own := [("road", 6)]) (g := gName 6) (tt := tYes) rfl scInit.nd (pi_tup (pe_fld (pv 0) rfl)) (blkOk_by (N := nInit) (sc := defScope sInit) (by decide +kernel)) (fun _ _ _ _ _ => pg_name (i := 6) scInit.nd rfl (Or.inl rfl)) (fun _ _ _ _ _ => pts_nil)
          (fun _ _ _ _ _ => pe_ix (r := rIxT K) ix_tup (pv 6) (pe_gI hn) (fun _ _ => rfl)) (fun _ _ _ _ _ => pv 6)) rfl)
      (pss_cons (ps_fld (pv 0) (pe_call GB hr2 (by rfl) gB kB bB .nil pass0 (pa_cons (pv 5) (pa_cons (pe_fld (pv 0) rfl) pa_nil))) rfl)
      (pss_one (ps_fld (pv 0) (pe_dcT (own := [("bar", 7)]) (g := gName 7) (tt := tYes) (u1 hr.units) rfl scInit.nd (pi_tup (pe_fld (pv 0) rfl)) (blkOk_by (N := nInit) (sc := defScope sInit) (by decide +kernel)) (fun _ _ _ _ _ => pg_name (i := 7) scInit.nd rfl (Or.inl rfl)) (fun _ _ _ _ _ => pts_nil)
          (fun _ _ _ _ _ => pv 7) (fun _ _ _ _ _ => pe_bl)) rfl))))))), ?_⟩
    have nins : ∀ (fs : List (Str × V)) (q : Array Value), (HO.ins M dx fs) ≠ .tbl q := fun _ _ z => by cases z
    have k1 := ok.k1
    have k2 := ok.k2
    have p2 := ok.p2
    -- day
    refine ⟨_, rfl, d, rfl, ok.d1, ok.d2, _, rfl, x, M, dx, [], rfl, hx, T.cl, T.n1, by decide, ?_⟩
    have ga := g0.write (o := .ins M dx (putF "day" (.int d) [])) hx (nins _) nx
    have la : (putF ("day" : Str) (V.int d) []).length ≤ 1 := length_putF _ _ []
    -- kinds
    refine ⟨_, rfl, ki, ks, 1, 4, rfl, ga.sqL hP0 hKi, by omega, by omega, by omega, ok.kn, ok.kd, ga.tab, fun Hb kk ks' gb nk ek pk ak => ?_⟩
    have xb := gb.get ga.tab upd_same (nins _)
    refine ⟨_, rfl, x, M, dx, _, rfl, xb, T.cl, T.n2, by omega, ?_⟩
    have gc := (ga.trans gb).write (o := .ins M dx (putF "kinds" (.ref kk) (putF "day" (.int d) []))) xb (nins _) nx
    have lc := length_putF ("kinds" : Str) (V.ref kk) (putF ("day" : Str) (V.int d) [])
    have tk := tup_ins (o := .ins M dx (putF "kinds" (.ref kk) (putF "day" (.int d) []))) xb ek
    -- places
    refine ⟨_, rfl, pl, ps, 0, 30, rfl, gc.sqL hP0 hPl, by omega, by omega, by omega, ok.pn, ok.pd, gc.tab, fun Hd pp ps' gd np ep pp' ap => ?_⟩
    have xd := gd.get gc.tab upd_same (nins _)
    refine ⟨_, rfl, x, M, dx, _, rfl, xd, T.cl, T.n3, by omega, ?_⟩
    have ge := (gc.trans gd).write (o := .ins M dx (putF "places" (.ref pp) (putF "kinds" (.ref kk) (putF "day" (.int d) [])))) xd (nins _) nx
    have le := length_putF ("places" : Str) (V.ref pp) (putF ("kinds" : Str) (V.ref kk) (putF ("day" : Str) (V.int d) []))
    generalize hfs : putF ("places" : Str) (V.ref pp) (putF ("kinds" : Str) (V.ref kk) (putF ("day" : Str) (V.int d) [])) = fs at ge le ⊢
    have f0 : ∀ f, f ∉ nmF → fs.lookup f = none := by rw [← hfs]; exact noF (noF (noF (fun _ _ => rfl) (by decide +kernel)) (by decide +kernel)) (by decide +kernel)
    have f3 : fs.lookup ("places" : Str) = some (V.ref pp) := by rw [← hfs, lookup_putF, if_pos rfl]
    have f2 : fs.lookup ("kinds" : Str) = some (V.ref kk) := by rw [← hfs, lookup_putF, if_neg (by decide +kernel), lookup_putF, if_pos rfl]
    have f1 : fs.lookup ("day" : Str) = some (V.int d) := by rw [← hfs, lookup_putF, if_neg (by decide +kernel), lookup_putF, if_neg (by decide +kernel), lookup_putF, if_pos rfl]
    have tk2 := tup_ins (o := .ins M dx fs) xd (gd.tup gc.tab tk)
    have tp2 := tup_ins (o := .ins M dx fs) xd ep
    -- roads
    have okr := ok.r.perm pp' pk
    refine ⟨_, rfl, _, rfl, _, rfl, x, M, dx, _, _, rfl, upd_same, T.cl, T.n3, f3, _, rfl, x, M, dx, _, _, rfl, upd_same, T.cl, T.n2, f2,
      ro, pp, kk, d, ps', ks', rs, xs, rfl, ge.sqL hP0 hRo, Paired.map' hG (fun r v m => m.keep (KeepT.grew ge hP0)), SqT.of tp2, SqT.of tk2, okr, ge.tab, fun Hf rr rs' ys gf kr ar nr er hm => ?_⟩
    have xf := gf.get ge.tab upd_same (nins _)
    refine ⟨_, rfl, x, M, dx, _, rfl, xf, T.cl, T.n4, by omega, ?_⟩
    have gg := (ge.trans gf).write (o := .ins M dx (putF "roads" (.ref rr) fs)) xf (nins _) nx
    have lg := length_putF ("roads" : Str) (V.ref rr) fs
    have fg4 : (putF ("roads" : Str) (V.ref rr) fs).lookup ("roads" : Str) = some (V.ref rr) := by rw [lookup_putF, if_pos rfl]
    have fg3 : (putF ("roads" : Str) (V.ref rr) fs).lookup ("places" : Str) = some (V.ref pp) := by rw [lookup_putF, if_neg (by decide +kernel)]; exact f3
    have fg2 : (putF ("roads" : Str) (V.ref rr) fs).lookup ("kinds" : Str) = some (V.ref kk) := by rw [lookup_putF, if_neg (by decide +kernel)]; exact f2
    have fg1 : (putF ("roads" : Str) (V.ref rr) fs).lookup ("day" : Str) = some (V.int d) := by rw [lookup_putF, if_neg (by decide +kernel)]; exact f1
    have fg0 := noF (v := V.ref rr) f0 (show ("roads" : Str) ∈ nmF by decide +kernel)
    generalize hgs : putF ("roads" : Str) (V.ref rr) fs = gs at gg lg fg0 fg1 fg2 fg3 fg4 ⊢
    have tr3 := tup_ins (o := .ins M dx gs) xf er
    have tk3 := tup_ins (o := .ins M dx gs) xf (gf.tup ge.tab tk2)
    have tp3 := tup_ins (o := .ins M dx gs) xf (gf.tup ge.tab tp2)
    have hm3 : Paired (RoadAt K (L2.upd Hf x (.ins M dx gs))) rs' ys := Paired.map' hm fun r v m => m.ins xf
    have lys : ys.length ≤ 60 := by rw [← Paired.len hm3, kr.len]; exact ok.r.len
    have ndr := kr.nodup ok.r.nd
    generalize hHg : L2.upd Hf x (.ins M dx gs) = Hg at gg tr3 tk3 tp3 hm3 ⊢
    have xg : Hg x = some (.ins M dx gs) := by rw [← hHg]; exact upd_same
    -- _roads_by_name
    refine ⟨_, rfl, x, M, dx, _, _, rfl, xg, T.cl, T.n4, fg4, rr, rfl, ⟨_, SqT.of tr3⟩, fun D nD => dc_tup (K := K) (a := rr) (xs := ys)
      (fun i H1 => Grew P Hg H1 ∧ ∃ kvs, H1 D = some (.dK kvs) ∧ kvs.length ≤ i ∧ (∀ (j : Nat) r v, j < i → rs'[j]? = some r → ys[j]? = some v → valV kvs (.inr r.name) = some v) ∧ ∀ z : Str, (∀ r ∈ rs'.take i, r.name ≠ z) → valV kvs (.inr z) = none)
      ⟨Grew.new gg.tab nD, [], upd_same, Nat.le_refl _, fun j r v h => absurd h (Nat.not_lt_zero _), fun z _ => rfl⟩ (fun i H1 _ p => SqT.of (p.1.tup gg.tab tr3)) (fun i y H1 hy p => ?_) (fun Hh p => ?_)⟩
    · obtain ⟨g, kvs, hD, hl, hin, hno⟩ := p
      obtain ⟨r, hri, m⟩ := Paired.at hm3 hy
      have hi : i < ys.length := (List.getElem?_eq_some_iff.mp hy).1
      have m1 := m.grew g gg.tab
      obtain ⟨t, q, h, rfl, et, _⟩ := m1
      refine ⟨rfl, _, rfl, t, _, 0, .str r.name, rfl, rfl, SqT.of et, rfl, _, rfl, kvs, .inr r.name, rfl, hD, ?_, g.write hD (fun _ z => by cases z) nD, _, upd_same, ?_, fun j r' v' hj hr' hv' => ?_, fun z hz => ?_⟩
      · rw [sizeLine_eq]; omega
      · exact Nat.le_trans (length_putK kvs (.inr r.name) _) (by omega)
      · rw [valV_put]
        by_cases e : j = i
        · subst e
          rw [hri] at hr'
          rw [hy] at hv'
          cases hr'; cases hv'
          rw [if_pos rfl]
        · have ne : ¬ (Sum.inr r'.name : Key) = .inr r.name := fun z => by
            injection z with z
            have hri' := (List.getElem?_eq_some_iff.mp hri)
            have hrj' := (List.getElem?_eq_some_iff.mp hr')
            obtain ⟨a1, a2⟩ := hri'
            obtain ⟨b1, b2⟩ := hrj'
            refine absurd ?_ (List.pairwise_iff_getElem.mp ndr j i (by rw [List.length_map]; exact b1) (by rw [List.length_map]; exact a1) (by omega))
            rw [List.getElem_map, List.getElem_map, a2, b2]
            exact z
          rw [if_neg ne]
          exact hin j r' v' (by omega) hr' hv'
      · rw [valV_put, if_neg ?_]
        · exact hno z fun r' hr' => hz r' (by rw [List.take_succ]; exact List.mem_append_left _ hr')
        · intro e
          injection e with e
          exact hz r (by rw [List.take_succ, hri]; exact List.mem_append_right _ (List.mem_singleton.mpr rfl)) e.symm
    · obtain ⟨gh, kvs, hD, hl, hin, hno⟩ := p
      have xh := gh.get gg.tab xg (nins _)
      refine ⟨_, rfl, x, M, dx, _, rfl, xh, T.cl, T.n5, by omega, ?_⟩
      have gi := (gg.trans gh).write (o := .ins M dx (putF "_roads_by_name" (.ref D) gs)) xh (nins _) nx
      have li := length_putF ("_roads_by_name" : Str) (V.ref D) gs
      have fi5 : (putF ("_roads_by_name" : Str) (V.ref D) gs).lookup ("_roads_by_name" : Str) = some (V.ref D) := by rw [lookup_putF, if_pos rfl]
      have fi4 : (putF ("_roads_by_name" : Str) (V.ref D) gs).lookup ("roads" : Str) = some (V.ref rr) := by rw [lookup_putF, if_neg (by decide +kernel)]; exact fg4
      have fi3 : (putF ("_roads_by_name" : Str) (V.ref D) gs).lookup ("places" : Str) = some (V.ref pp) := by rw [lookup_putF, if_neg (by decide +kernel)]; exact fg3
      have fi2 : (putF ("_roads_by_name" : Str) (V.ref D) gs).lookup ("kinds" : Str) = some (V.ref kk) := by rw [lookup_putF, if_neg (by decide +kernel)]; exact fg2
      have fi1 : (putF ("_roads_by_name" : Str) (V.ref D) gs).lookup ("day" : Str) = some (V.int d) := by rw [lookup_putF, if_neg (by decide +kernel)]; exact fg1
      have fi0 := noF (v := V.ref D) fg0 (show ("_roads_by_name" : Str) ∈ nmF by decide +kernel)
      generalize his : putF ("_roads_by_name" : Str) (V.ref D) gs = is at gi li fi0 fi1 fi2 fi3 fi4 fi5 ⊢
      have hmh : Paired (RoadAt K Hh) rs' ys := Paired.map' hm3 fun r v m => m.grew gh gg.tab
      have dR : DictR K (L2.upd Hh x (.ins M dx is)) D rs' := by
        refine DictR.ins xh ⟨kvs, hD, fun r hr => ?_, fun z hz => hno z fun r hr => hz r (List.mem_of_mem_take hr)⟩
        obtain ⟨j, hj, ej⟩ := List.getElem_of_mem hr
        have hj' : rs'[j]? = some r := List.getElem?_eq_some_iff.mpr ⟨hj, ej⟩
        obtain ⟨v, hv, m⟩ := Paired.to hmh hj'
        exact ⟨v, hin j r v (List.getElem?_eq_some_iff.mp hv).1 hj' hv, m⟩
      have tr4 := tup_ins (o := .ins M dx is) xh (gh.tup gg.tab tr3)
      have tk4 := tup_ins (o := .ins M dx is) xh (gh.tup gg.tab tk3)
      have tp4 := tup_ins (o := .ins M dx is) xh (gh.tup gg.tab tp3)
      have hm4 : Paired (RoadAt K (L2.upd Hh x (.ins M dx is))) rs' ys := Paired.map' hmh fun r v m => m.ins xh
      generalize hHi : L2.upd Hh x (.ins M dx is) = Hi at gi tr4 tk4 tp4 hm4 dR ⊢
      have xi : Hi x = some (.ins M dx is) := by rw [← hHi]; exact upd_same
      -- bars
      refine ⟨_, rfl, _, rfl, x, M, dx, _, _, rfl, xi, T.cl, T.n5, fi5, ba, D, rs', bs, zs, rfl, gi.sqL hP0 hBa, Paired.map' hB (fun b v m => m.grew gi hP0), dR, ok.b.kept kr, gi.tab, fun Hj bb bs' zs' gj pb ab nb eb hz => ?_⟩
      have xj := gj.get gi.tab xi (nins _)
      refine ⟨_, rfl, x, M, dx, _, rfl, xj, T.cl, T.n6, by omega, ?_⟩
      have gk := (gi.trans gj).write (o := .ins M dx (putF "bars" (.ref bb) is)) xj (nins _) nx
      have lk := length_putF ("bars" : Str) (V.ref bb) is
      have fk6 : (putF ("bars" : Str) (V.ref bb) is).lookup ("bars" : Str) = some (V.ref bb) := by rw [lookup_putF, if_pos rfl]
      have fk5 : (putF ("bars" : Str) (V.ref bb) is).lookup ("_roads_by_name" : Str) = some (V.ref D) := by rw [lookup_putF, if_neg (by decide +kernel)]; exact fi5
      have fk4 : (putF ("bars" : Str) (V.ref bb) is).lookup ("roads" : Str) = some (V.ref rr) := by rw [lookup_putF, if_neg (by decide +kernel)]; exact fi4
      have fk3 : (putF ("bars" : Str) (V.ref bb) is).lookup ("places" : Str) = some (V.ref pp) := by rw [lookup_putF, if_neg (by decide +kernel)]; exact fi3
      have fk2 : (putF ("bars" : Str) (V.ref bb) is).lookup ("kinds" : Str) = some (V.ref kk) := by rw [lookup_putF, if_neg (by decide +kernel)]; exact fi2
      have fk1 : (putF ("bars" : Str) (V.ref bb) is).lookup ("day" : Str) = some (V.int d) := by rw [lookup_putF, if_neg (by decide +kernel)]; exact fi1
      have fk0 := noF (v := V.ref bb) fi0 (show ("bars" : Str) ∈ nmF by decide +kernel)
      generalize hjs : putF ("bars" : Str) (V.ref bb) is = js at gk lk fk0 fk1 fk2 fk3 fk4 fk5 fk6 ⊢
      have tb5 := tup_ins (o := .ins M dx js) xj eb
      have tr5 := tup_ins (o := .ins M dx js) xj (gj.tup gi.tab tr4)
      have tk5 := tup_ins (o := .ins M dx js) xj (gj.tup gi.tab tk4)
      have tp5 := tup_ins (o := .ins M dx js) xj (gj.tup gi.tab tp4)
      have hm5 : Paired (RoadAt K (L2.upd Hj x (.ins M dx js))) rs' ys := Paired.map' hm4 fun r v m => (m.grew gj gi.tab).ins xj
      have hz5 : Paired (GBar (L2.upd Hj x (.ins M dx js))) bs' zs' := Paired.map' hz fun b v m => m.ins xj
      have dR5 : DictR K (L2.upd Hj x (.ins M dx js)) D rs' := (dR.grew gj gi.tab).ins xj
      have lzs : zs'.length ≤ 40 := by rw [← Paired.len hz5, pb.length_eq]; exact ok.b.len
      generalize hHk : L2.upd Hj x (.ins M dx js) = Hk at gk tb5 tr5 tk5 tp5 hm5 hz5 dR5 ⊢
      have xk : Hk x = some (.ins M dx js) := by rw [← hHk]; exact upd_same
      -- _barred
      refine ⟨_, rfl, x, M, dx, _, _, rfl, xk, T.cl, T.n6, fk6, bb, rfl, ⟨_, SqT.of tb5⟩, fun D2 nD2 => dcT_tup (K := K) (a := bb) (xs := zs')
        (fun i H1 => Grew P Hk H1 ∧ ∃ kvs : List (List Key × V), H1 D2 = some (.dT kvs) ∧ kvs.length ≤ i ∧ ∀ a b : Str, (valV kvs [.inr a, .inr b]).isSome = true ↔ (a, b) ∈ bs'.take i)
        ⟨Grew.new gk.tab nD2, [], upd_same, Nat.le_refl _, fun a b => by simp [valV_nil]⟩ (fun i H1 _ p => SqT.of (p.1.tup gk.tab tb5)) (fun i y H1 hy p => ?_) (fun Hl p => ?_)⟩
      · obtain ⟨g, kvs, hD, hl, hin⟩ := p
        obtain ⟨b, hbi, m⟩ := Paired.at hz5 hy
        have hi : i < zs'.length := (List.getElem?_eq_some_iff.mp hy).1
        obtain ⟨t, rfl, et⟩ := m.grew g gk.tab
        refine ⟨rfl, _, rfl, kvs, [.inr b.1, .inr b.2], t, rfl, et, hD, ?_, g.write hD (fun _ z => by cases z) nD2, _, upd_same, ?_, fun a' b' => ?_⟩
        · rw [sizeLine_eq]; omega
        · have := length_putK kvs ([.inr b.1, .inr b.2] : List Key) (V.bl true)
          omega
        · rw [valV_put, List.take_succ, hbi, List.mem_append]
          by_cases e : ([.inr a', .inr b'] : List Key) = [.inr b.1, .inr b.2]
          · rw [if_pos e]
            have e1 : a' = b.1 := Sum.inr.inj (List.cons.inj e).1
            have e2 : b' = b.2 := Sum.inr.inj (List.cons.inj (List.cons.inj e).2).1
            subst e1 e2
            exact ⟨fun _ => .inr (List.mem_singleton.mpr rfl), fun _ => rfl⟩
          · rw [if_neg e, hin a' b']
            refine ⟨.inl, fun h => h.elim id fun h => ?_⟩
            have h' : (a', b') = b := List.mem_singleton.mp h
            subst h'
            exact absurd rfl e
      · obtain ⟨gl, kvs, hD, hl, hin⟩ := p
        have lb : bs'.length = zs'.length := Paired.len hz5
        rw [← lb, List.take_length] at hin
        have xl := gl.get gk.tab xk (nins _)
        refine ⟨_, rfl, x, M, dx, _, rfl, xl, T.cl, T.n7, by omega, ?_⟩
        have gm := (gk.trans gl).write (o := .ins M dx (putF "_barred" (.ref D2) js)) xl (nins _) nx
        refine k _ ks' ps' rs' bs' gm pk ak pp' ap kr ar pb ab ⟨dx, putF "_barred" (.ref D2) js, kk, pp, rr, D, bb, D2, ys, zs', upd_same, ?_⟩
        constructor
        · exact noF fk0 (by decide +kernel)
        · rw [lookup_putF, if_neg (by decide +kernel)]; exact fk1
        · rw [lookup_putF, if_neg (by decide +kernel)]; exact fk2
        · rw [lookup_putF, if_neg (by decide +kernel)]; exact fk3
        · rw [lookup_putF, if_neg (by decide +kernel)]; exact fk4
        · rw [lookup_putF, if_neg (by decide +kernel)]; exact fk5
        · rw [lookup_putF, if_neg (by decide +kernel)]; exact fk6
        · rw [lookup_putF, if_pos rfl]
        · exact tup_ins xl (gl.tup gk.tab tk5)
        · exact tup_ins xl (gl.tup gk.tab tp5)
        · exact tup_ins xl (gl.tup gk.tab tr5)
        · exact Paired.map' hm5 fun r v m => (m.grew gl gk.tab).ins xl
        · exact (dR5.grew gl gk.tab).ins xl
        · exact tup_ins xl (gl.tup gk.tab tb5)
        · exact Paired.map' hz5 fun b v m => (m.grew gl gk.tab).ins xl
        · exact ⟨kvs, by rw [upd_ne (insNe xl hD (fun _ _ _ z => by cases z))]; exact hD, hin⟩
end
end W

set_option Elab.async false
set_option linter.all false
set_option maxRecDepth 100000
set_option maxHeartbeats 400000
namespace W
open PySem PySem.Spec PyProof.Rows L2 GxR MyG
abbrev sRow : Stmt := top 63
abbrev sNumbers : Stmt := top 64
/-- the drawn numbers are small -/
def Sm (ns : List Int) : Prop := ∀ n ∈ ns, 0 ≤ n ∧ n < 1009
theorem Sm.snoc {ns : List Int} {n : Int} (h : Sm ns) (h1 : 0 ≤ n) (h2 : n < 1009) : Sm (ns ++ [n]) := fun z hz => by
  rcases List.mem_append.mp hz with hz | hz
  · exact h z hz
  · rw [List.mem_singleton.mp hz]; exact ⟨h1, h2⟩
theorem mod1009 (a : Int) : 0 ≤ a % 1009 ∧ a % 1009 < 1009 := by omega
def spRow (P : Addr) : Sp := fun vs H Q _ => ∃ (c : Int) (m : Nat), vs = [.int c, .int m] ∧ m ≤ 1000 ∧ TabG H P ∧ ∀ H' p ns, Grew P H H' → H p = none → H' p = some (.lst (ns.map V.int)) → ns.length = m → Sm ns → Q (.ref p) H'
def spNumbers (K : PySem.W.Frag) (P : Addr) : Sp := fun vs H Q _ => ∃ (a : Addr) (zs : List Int) (m : Nat), vs = [.ref a, .int m] ∧ SqL K H a (zs.map V.int) ∧ zs.length ≤ 63 ∧ m ≤ 900 ∧ TabG H P ∧
  ∀ H' p ns, Grew P H H' → H p = none → H' p = some (.lst (ns.map V.int)) → ns.length = m → Sm ns → Q (.ref p) H'
section
variable {Pg : Program} {w : World} {K : PySem.W.Frag} {mg : Str → Option Value} {base : Heap} {C P : Addr}
abbrev nRow : List Str := ["cell", "many", "row", "rest", "mixed", "k"]
theorem scRow : FnScope nRow ["cell", "many"] (defScope sRow) := ⟨rfl, rfl, rfl, by decide +kernel, rfl, by decide +kernel, by decide +kernel⟩
theorem ok_row {f : Addr} {fd : FuncData} (F : Fun K "_law_row" "_law_row" sRow f fd) (ha : mg "abs" = none) (hi : mg "int" = none) (hr' : mg "range" = none) : FnOk Pg w K mg base CX0 1 f fd ["cell", "many"] (spRow P) := by
  refine F.ok scRow (fun vs H Q E h => ?_) (fun cdv A outer s H vs Q E hr h => ?_)
  · obtain ⟨c, m, rfl, _⟩ := h
    rfl
  · obtain ⟨c, m, rfl, hm, hP, k⟩ := h
    refine ⟨_, pss_cons (ps_set (i := 2) scRow.nd rfl (Or.inl rfl) (pe_lst pa_nil))
      (pss_cons (ps_set (i := 3) scRow.nd rfl (Or.inl rfl) (pe_callB call_abs (by rfl) ha (by decide +kernel) (pa_cons (pv 0) pa_nil)))
      (pss_cons (ps_set (i := 4) scRow.nd rfl (Or.inl rfl) (pe_op op_mod (pe_callTy call_int1 (by rfl) hi (by decide +kernel) (pa_cons (pe_op op_add (pe_op op_mul (pv 3) pe_int) pe_int) pa_nil)) pe_int))
      (pss_cons (ps_for PassesOwn.never rfl (pi_range1 rfl hr' (pa_cons (pv 1) pa_nil)) (pg_name (i := 5) scRow.nd rfl (Or.inl rfl))
        (pss_cons (ps_set (i := 4) scRow.nd rfl (Or.inl rfl) (pe_op op_mod (pe_callTy call_int1 (by rfl) hi (by decide +kernel) (pa_cons (pe_op op_add (pe_op op_mul (pv 4) pe_int) (pe_op op_mul pe_int (pe_op op_add (pv 5) pe_int))) pa_nil)) pe_int))
        (pss_one (ps_if (pt_cmpR op_ge (pe_callB call_abs (by rfl) ha (by decide +kernel) (pa_cons (pv 0) pa_nil)) (pe_op op_pow pe_int pe_int) (nomark _))
          (pss_cons (ps_expr (pe_bm PySem.F.plainAttrs_list PySem.F.slot_list_append PySem.F.type_list_append mt_append (pv 2) (pa_cons (pe_op op_mod (pe_callTy call_int1 (by rfl) hi (by decide +kernel) (pa_cons (pv 3) pa_nil)) pe_int) pa_nil)))
            (pss_one (ps_set (i := 3) scRow.nd rfl (Or.inl rfl) (pe_op op_fdiv (pv 3) pe_int))))
          (pss_one (ps_expr (pe_bm PySem.F.plainAttrs_list PySem.F.slot_list_append PySem.F.type_list_append mt_append (pv 2) (pa_cons (pe_op op_mod (pe_callTy call_int1 (by rfl) hi (by decide +kernel) (pa_cons (pe_op op_fdiv (pv 4) pe_int) pa_nil)) pe_int) pa_nil))))))))
      (pss_one (ps_ret (pv 2)))))), ?_⟩
    refine ⟨Nat.zero_le _, fun p np => ?_⟩
    refine ⟨_, rfl, _, rfl, ?_⟩
    refine ⟨_, rfl, _, _, rfl, rfl, .inr ⟨by decide, by decide⟩, _, _, rfl, rfl, .inl ⟨_, rfl, _, _, rfl, rfl, (show (0 : Int) < 2147483647 by decide), ?_⟩⟩
    refine ⟨_, rfl, m, rfl, by omega, by omega, for_range (n := m) (fun i σ H' => ∃ r mx kv, ∃ ns : List Int, σ = [some (.int c), some (.int m), some (.ref p), some (.int r), some (.int mx), kv] ∧ Grew P H H' ∧ H' p = some (.lst (ns.map V.int)) ∧ ns.length = i ∧ Sm ns)
      ⟨_, _, none, [], rfl, Grew.new hP np, upd_same, rfl, fun n hn => by cases hn⟩ ?_ ?_⟩
    · rintro i σ H' hi ⟨r, mx, kv, ns, rfl, g, hp, hl, hsm⟩
      refine ⟨_, rfl, _, _, rfl, rfl, .inr ⟨by decide, by decide⟩, _, rfl, _, _, rfl, rfl, _, _, rfl, rfl, .inl ⟨by decide, by decide⟩, _, _, rfl, rfl, .inl ⟨_, rfl, _, _, rfl, rfl, (show (0 : Int) < 2147483629 by decide), ?_⟩⟩
      refine ⟨_, rfl, _, rfl, _, _, rfl, rfl, ⟨by decide, by decide, by decide⟩, _, _, rfl, rfl, _, rfl, ?_⟩
      have hlen : (ns.map V.int).length < sizeLine := by rw [List.length_map, hl, sizeLine_eq]; omega
      refine ite2 (fun _ => ?_) (fun _ => ?_)
      · refine ⟨_, rfl, .inl ⟨rfl, _, SqL.of hp⟩, _, rfl, .inl ⟨_, rfl, _, _, rfl, rfl, (show (0 : Int) < 1009 by decide), p, _, _, rfl, rfl, hp, hlen, ?_⟩⟩
        refine ⟨_, rfl, _, _, rfl, rfl, ⟨by decide, by decide⟩, _, _, _, ns ++ [_], rfl, g.write hp (fun _ z => by cases z) np, by rw [upd_same, List.map_append]; rfl, by rw [List.length_append, hl]; rfl, hsm.snoc (mod1009 _).1 (mod1009 _).2⟩
      · refine ⟨_, rfl, .inl ⟨rfl, _, SqL.of hp⟩, _, rfl, _, _, rfl, rfl, ⟨by decide, by decide⟩, .inl ⟨_, rfl, _, _, rfl, rfl, (show (0 : Int) < 1009 by decide), p, _, _, rfl, rfl, hp, hlen, ?_⟩⟩
        refine ⟨_, _, _, ns ++ [_], rfl, g.write hp (fun _ z => by cases z) np, by rw [upd_same, List.map_append]; rfl, by rw [List.length_append, hl]; rfl, hsm.snoc (mod1009 _).1 (mod1009 _).2⟩
    · rintro σ H' ⟨r, mx, kv, ns, rfl, g, hp, hl, hsm⟩
      exact ⟨_, rfl, k H' p ns g np hp hl hsm⟩
end
end W

set_option Elab.async false
set_option linter.all false
set_option maxRecDepth 100000
set_option maxHeartbeats 400000
namespace W
open PySem PySem.Spec PyProof.Rows L2 GxR MyG
theorem cutV_pre (xs : List V) (n : Nat) : cutV xs none (some (n : Int)) = xs.take n := by
  unfold cutV
  rw [HT.sIx_none, HT.sIx_nat, List.drop_zero, Nat.sub_zero]
  rcases Nat.le_total n xs.length with h | h
  · rw [Nat.min_eq_left h]
  · rw [Nat.min_eq_right h, List.take_length, List.take_of_length_le h]
theorem Sm.take {ns : List Int} (h : Sm ns) (k : Nat) : Sm (ns.take k) := fun z hz => h z (List.mem_of_mem_take hz)
theorem Sm.app {ns ms : List Int} (h : Sm ns) (h2 : Sm ms) : Sm (ns ++ ms) := fun z hz => by
  rcases List.mem_append.mp hz with hz | hz
  · exact h z hz
  · exact h2 z hz
section
variable {Pg : Program} {w : World} {K : PySem.W.Frag} {mg : Str → Option Value} {base : Heap} {C P : Addr}
abbrev nNumbers : List Str := ["script", "many", "cells", "each", "numbers", "cell", "number"]
theorem scNumbers : FnScope nNumbers ["script", "many"] (defScope sNumbers) := ⟨rfl, rfl, rfl, by decide +kernel, rfl, by decide +kernel, by decide +kernel⟩
theorem ok_numbers {f fR : Addr} {fd fdR : FuncData} (F : Fun K "_law_numbers" "_law_numbers" sNumbers f fd) (hl : mg "len" = none) (hx : mg "max" = none)
    (GR : FnOk Pg w K mg base CX0 1 fR fdR ["cell", "many"] (spRow P)) (gR : mg "_law_row" = some (.ref fR)) (kR : PySem.W.keepIn K (.ref fR) = true) (bR : Binds K fdR ["cell", "many"] []) :
    FnOk Pg w K mg base CX0 2 f fd ["script", "many"] (spNumbers K P) := by
  refine F.ok scNumbers (fun vs H Q E h => ?_) (fun cdv A outer s H vs Q E hr h => ?_)
  · obtain ⟨a, zs, m, rfl, _⟩ := h
    rfl
  · obtain ⟨a, zs, m, rfl, hS, hz, hm, hP, k⟩ := h
    refine ⟨_, pss_cons (ps_set (i := 2) scNumbers.nd rfl (Or.inl rfl) (pe_slice sl_list (pv 0) po_none (po_some pe_int)))
      (pss_cons (ps_set (i := 3) scNumbers.nd rfl (Or.inl rfl) (pe_op op_add pe_int (pe_op op_fdiv (pv 1) (pe_callB (call_max2 rfl) (by rfl) hx (by decide +kernel) (pa_cons pe_int (pa_cons (pe_callB call_len_seq (by rfl) hl PySem.boot_len (pa_cons (pv 2) pa_nil)) pa_nil))))))
      (pss_cons (ps_set (i := 4) scNumbers.nd rfl (Or.inl rfl) (pe_lst pa_nil))
      (pss_cons (ps_for PassesOwn.never rfl (pi_list (pv 2)) (pg_name (i := 5) scNumbers.nd rfl (Or.inl rfl))
        (pss_one (ps_for PassesOwn.never rfl (pi_list (pe_call GR hr (by rfl) gR kR bR .nil pass0 (pa_cons (pv 5) (pa_cons (pv 3) pa_nil)))) (pg_name (i := 6) scNumbers.nd rfl (Or.inl rfl))
          (pss_one (ps_expr (pe_bm PySem.F.plainAttrs_list PySem.F.slot_list_append PySem.F.type_list_append mt_append (pv 4) (pa_cons (pv 6) pa_nil)))))))
      (pss_cons (ps_while PassesOwn.never (pt_cmpR op_lt (pe_callB call_len_seq (by rfl) hl PySem.boot_len (pa_cons (pv 4) pa_nil)) (pv 1) (nomark _))
          (pss_one (ps_expr (pe_bm PySem.F.plainAttrs_list PySem.F.slot_list_append PySem.F.type_list_append mt_append (pv 4) (pa_cons pe_int pa_nil)))))
      (pss_one (ps_ret (pe_slice sl_list (pv 4) po_none (po_some (pv 1))))))))), ?_⟩
    -- cells
    refine ⟨_, rfl, _, rfl, a, _, rfl, hS, fun c nc => ?_⟩
    have ec : cutV (zs.map V.int) none (some 63) = zs.map V.int := by
      have q := cutV_pre (zs.map V.int) 63
      rw [List.take_of_length_le (by rw [List.length_map]; exact hz)] at q
      exact q
    rw [ec]
    have g1 := Grew.new hP (o := .lst (zs.map V.int)) nc
    -- each
    refine ⟨_, rfl, _, rfl, c, _, rfl, .inl (SqL.of upd_same), 1, _, rfl, _, _, rfl, rfl, ?_, _, _, rfl, rfl, ?_⟩
    · rw [List.length_map]
      constructor
      · split <;> omega
      · split <;> omega
    rw [List.length_map]
    generalize hdv : (if ((zs.length : Nat) : Int) > 1 then ((zs.length : Nat) : Int) else 1) = dv
    have hdp : 0 < dv := by rw [← hdv]; split <;> omega
    obtain ⟨e, he, he2⟩ : ∃ e : Nat, 1 + (m : Int) / dv = (e : Int) ∧ e ≤ 1000 := by
      have h1 : 0 ≤ (m : Int) / dv := Int.ediv_nonneg (by omega) (by omega)
      have h2 : (m : Int) / dv ≤ m := Int.ediv_le_self _ (by omega)
      exact ⟨(1 + (m : Int) / dv).toNat, by omega, by omega⟩
    refine ⟨Nat.zero_le _, fun p np => ?_⟩
    have g2 := g1.put (o := .lst []) np
    have hc : L2.upd (L2.upd H c (.lst (zs.map V.int))) p (.lst []) c = some (.lst (zs.map V.int)) := (Grew.new g1.tab np).lst g1.tab upd_same
    have ncp : c ≠ p := ne_of_none upd_same np
    refine ⟨_, rfl, c, rfl, ⟨_, SqL.of hc⟩, for_list (K := K) (a := c) (xs := zs.map V.int) (fun i σ H' => ∃ v5 v6, ∃ ns : List Int, σ = [some (.ref a), some (.int m), some (.ref c), some (.int (1 + (m : Int) / dv)), some (.ref p), v5, v6] ∧ Grew P H H' ∧ H' c = some (.lst (zs.map V.int)) ∧ H' p = some (.lst (ns.map V.int)) ∧ ns.length ≤ 1000 * i ∧ Sm ns)
      ⟨none, none, [], rfl, g2, hc, upd_same, Nat.zero_le _, fun n hn => by cases hn⟩ (fun i σ H' _ ⟨_, _, _, _, _, h, _⟩ => SqL.of h) ?_ ?_⟩
    · rintro i y σ H' hi ⟨v5, v6, ns, rfl, g, hcc, hp, hln, hsm⟩
      obtain ⟨z, rfl⟩ : ∃ z, y = V.int z := by
        rw [List.getElem?_map] at hi
        cases q : zs[i]? with
        | none => rw [q] at hi; cases hi
        | some z => rw [q] at hi; exact ⟨z, (Option.some.inj hi).symm⟩
      have hi63 : i < 63 := by
        have q := (List.getElem?_eq_some_iff.mp hi).1
        rw [List.length_map] at q
        omega
      refine ⟨_, rfl, _, rfl, z, e, by rw [he]; rfl, he2, g.tab, fun H2 q rs gr nq eq hrl hrs => ?_⟩
      have np2 : p ≠ q := ne_of_none hp nq
      have np0 : H p = none := (Grew.new hP nc).free np
      refine ⟨q, rfl, ⟨_, SqL.of eq⟩, for_list (K := K) (a := q) (xs := rs.map V.int) (fun j σ H' => ∃ v5 v6, σ = [some (.ref a), some (.int m), some (.ref c), some (.int (1 + (m : Int) / dv)), some (.ref p), v5, v6] ∧ Grew P H H' ∧ H' c = some (.lst (zs.map V.int)) ∧ H' q = some (.lst (rs.map V.int)) ∧ H' p = some (.lst ((ns ++ rs.take j).map V.int)))
        ⟨_, _, rfl, g.trans gr, gr.lst g.tab hcc, eq, by rw [List.take_zero, List.append_nil]; exact gr.lst g.tab hp⟩ (fun j σ H' _ ⟨_, _, _, _, _, h, _⟩ => SqL.of h) ?_ ?_⟩
      · rintro j y σ H3 hj ⟨w5, w6, rfl, g3, hc3, hq3, hp3⟩
        obtain ⟨z2, hz2, rfl⟩ : ∃ z, rs[j]? = some z ∧ y = V.int z := by
          rw [List.getElem?_map] at hj
          cases q : rs[j]? with
          | none => rw [q] at hj; cases hj
          | some z => rw [q] at hj; exact ⟨z, rfl, (Option.some.inj hj).symm⟩
        refine ⟨_, rfl, .inl ⟨rfl, _, SqL.of hp3⟩, _, rfl, p, _, _, rfl, rfl, hp3, ?_, _, _, rfl, g3.write hp3 (fun _ z => by cases z) np0, ?_, ?_, ?_⟩
        · rw [List.length_map, List.length_append, List.length_take, sizeLine_eq]; omega
        · rw [upd_ne ncp]; exact hc3
        · rw [upd_ne np2.symm]; exact hq3
        · rw [upd_same, List.take_succ, hz2]; simp
      · rintro σ H3 ⟨w5, w6, rfl, g3, hc3, hq3, hp3⟩
        rw [List.length_map, List.take_length] at hp3
        exact ⟨_, _, ns ++ rs, rfl, g3, hc3, hp3, by rw [List.length_append]; omega, hsm.app hrs⟩
    · rintro σ H' ⟨v5, v6, ns, rfl, g, hcc, hp, hln, hsm⟩
      rw [List.length_map] at hln
      have np0 : H p = none := (Grew.new hP nc).free np
      refine ⟨fun n σ H' => ∃ ns : List Int, σ = [some (.ref a), some (.int m), some (.ref c), some (.int (1 + (m : Int) / dv)), some (.ref p), v5, v6] ∧ Grew P H H' ∧ H' p = some (.lst (ns.map V.int)) ∧ ns.length ≤ 70000 ∧ Sm ns ∧ n = m - ns.length,
        ⟨_, ns, rfl, g, hp, by omega, hsm, rfl⟩, ?_⟩
      rintro n σ H3 ⟨ms, rfl, g3, hp3, hl3, hs3, rfl⟩
      refine ⟨_, rfl, p, _, rfl, .inl (SqL.of hp3), _, rfl, _, _, rfl, rfl, _, rfl, ?_⟩
      rw [List.length_map]
      refine ite2 (fun hlt => ?_) (fun hge => ?_)
      · have hlt' : (ms.length : Int) < m := of_decide_eq_true hlt
        refine ⟨_, fun _ _ h => h, _, rfl, .inl ⟨rfl, _, SqL.of hp3⟩, p, _, _, rfl, rfl, hp3, ?_, m - (ms.length + 1), by omega, ms ++ [0], rfl, g3.write hp3 (fun _ z => by cases z) np0, ?_, ?_, hs3.snoc (by decide) (by decide), ?_⟩
        · rw [List.length_map, sizeLine_eq]; omega
        · rw [upd_same, List.map_append]; rfl
        · rw [List.length_append, List.length_singleton]; omega
        · rw [List.length_append, List.length_singleton]
      · have hge' : ¬ (ms.length : Int) < m := fun z => hge (decide_eq_true z)
        refine ⟨_, rfl, _, rfl, _, rfl, p, _, rfl, SqL.of hp3, fun r nr => ?_⟩
        have ec2 := cutV_pre (ms.map V.int) m
        rw [ec2, ← List.map_take]
        exact k _ r (ms.take m) (g3.put nr) (g3.free nr) upd_same (by rw [List.length_take]; omega) (hs3.take m)
end
end W

set_option Elab.async false
set_option linter.all false
set_option maxRecDepth 100000
set_option maxHeartbeats 400000
namespace W
open PySem PySem.Spec PyProof.Rows L2 GxR MyG MyS
abbrev sLNames : Stmt := top 65
abbrev sLSome : Stmt := top 66
abbrev sLHours : Stmt := top 67
abbrev sLMap : Stmt := top 68
abbrev sLMade : Stmt := top 69
def zGood : Str := "abcdefghijklmnopqrstuvwxyz0123456789"
theorem str_len (z : Str) : z.length = z.cps.toList.length := by simp [Str.length]
/-! ### drawn names -/
/-- of the signs of names alone -/
def Gd (z : Str) : Prop := ∀ c ∈ z.cps.toList, goodC c = true
theorem good_all : ∀ c ∈ zGood.cps.toList, goodC c = true := by decide +kernel
theorem good_len : zGood.cps.toList.length = 36 := by decide +kernel
theorem good_nodup : zGood.cps.toList.Nodup := by decide +kernel
theorem good_let : ∀ c ∈ zGood.cps.toList.take 26, c ∈ zLet.cps.toList := by decide +kernel
theorem Gd.one {c : Nat} (h : c ∈ zGood.cps.toList) : Gd ⟨#[c]⟩ := fun x hx => by
  have e : x = c := by simpa using hx
  rw [e]; exact good_all c h
theorem app_cps (a b : Str) : (a ++ b).cps.toList = a.cps.toList ++ b.cps.toList := by
  show (a.cps ++ b.cps).toList = _
  exact Array.toList_append
theorem Gd.app {a b : Str} (h : Gd a) (k : Gd b) : Gd (a ++ b) := fun c hc => by
  rw [app_cps] at hc
  rcases List.mem_append.mp hc with hc | hc
  · exact h c hc
  · exact k c hc
theorem cutS_sub {z : Str} {lo hi : Option Int} {c : Nat} (h : c ∈ (cutS z lo hi).cps.toList) : c ∈ z.cps.toList := by
  unfold cutS at h
  have h2 : c ∈ (z.cps.toList.drop (HT.sIx z.length 0 lo)).take (HT.sIx z.length z.length hi - HT.sIx z.length 0 lo) := by simpa using h
  exact List.mem_of_mem_drop (List.mem_of_mem_take h2)
theorem Gd.cut {z : Str} (h : Gd z) (lo hi : Option Int) : Gd (cutS z lo hi) := fun c hc => h c (cutS_sub hc)
theorem fold_mem {sep : Str} {c : Nat} : ∀ (rest : List Str) (acc : Array Nat), c ∈ (rest.foldl (fun acc p => acc ++ sep.cps ++ p.cps) acc).toList → c ∈ acc.toList ∨ c ∈ sep.cps.toList ∨ ∃ p ∈ rest, c ∈ p.cps.toList
  | [], _, h => .inl h
  | p :: rest, acc, h => by
    rcases fold_mem rest _ h with h | h | ⟨q, hq, h⟩
    · rw [Array.toList_append, Array.toList_append] at h
      rcases List.mem_append.mp h with h | h
      · rcases List.mem_append.mp h with h | h
        · exact .inl h
        · exact .inr (.inl h)
      · exact .inr (.inr ⟨p, List.mem_cons_self, h⟩)
    · exact .inr (.inl h)
    · exact .inr (.inr ⟨q, List.mem_cons_of_mem _ hq, h⟩)
theorem Gd.join {ys : List Str} (h : ∀ y ∈ ys, Gd y) : Gd (Txt.join (Str.ofString "") ys) := fun c hc => by
  have hc2 : c ∈ ((ys.drop 1).foldl (fun acc p => acc ++ (Str.ofString "").cps ++ p.cps) (ys.headD Str.empty).cps).toList := hc
  rcases fold_mem _ _ hc2 with q | q | ⟨p, hp, q⟩
  · cases ys with
    | nil =>
      have e : (([] : List Str).headD Str.empty).cps.toList = [] := by decide +kernel
      rw [e] at q
      cases q
    | cons y ys => exact h y List.mem_cons_self c q
  · have e : (Str.ofString "").cps.toList = [] := by decide +kernel
    rw [e] at q
    cases q
  · exact h p (List.mem_of_mem_drop hp) c q
theorem join_len (ys : List Str) : (Txt.join (Str.ofString "") ys).length = (ys.map (·.length)).sum := by
  have e := size_glued (Str.ofString "") ys
  have e0 : (Str.ofString "").length = 0 := by decide +kernel
  rw [e0, Nat.mul_zero, Nat.add_zero] at e
  exact e
theorem cut_pre {z : Str} {k : Nat} (h : k ≤ z.length) : (cutS z none (some (k : Int))).cps.toList = z.cps.toList.take k := by
  unfold cutS
  rw [HT.sIx_none, HT.sIx_nat, List.drop_zero, Nat.sub_zero, Nat.min_eq_left h]
theorem cut_suf {z : Str} {k : Nat} (h : k ≤ z.length) : (cutS z (some (k : Int)) none).cps.toList = z.cps.toList.drop k := by
  unfold cutS
  rw [HT.sIx_none, HT.sIx_nat, Nat.min_eq_left h]
  show (z.cps.toList.drop k).take (z.length - k) = z.cps.toList.drop k
  refine List.take_of_length_le ?_
  rw [List.length_drop, str_len]
  exact Nat.le_refl _
theorem at_some {α : Type} {l : List α} {i : Int} (h0 : 0 ≤ i) (h1 : i < l.length) : ∃ c, atI l i = some c ∧ l[i.toNat]? = some c := by
  obtain ⟨n, rfl⟩ := Int.eq_ofNat_of_zero_le h0
  have hn : n < l.length := by omega
  exact ⟨l[n], atI_nat (List.getElem?_eq_getElem hn), List.getElem?_eq_getElem hn⟩
/-- a drawn name: the letter, a part, a sign, the rest -/
def nameOf (c : Nat) (z : Str) (k : Nat) (e : Nat) : Str := (((⟨#[c]⟩ : Str) ++ cutS z none (some (k : Int))) ++ (⟨#[e]⟩ : Str)) ++ cutS z (some (k : Int)) none
theorem nameOf_cps {c : Nat} {z : Str} {k e : Nat} (h : k ≤ z.length) : (nameOf c z k e).cps.toList = c :: (z.cps.toList.take k ++ e :: z.cps.toList.drop k) := by
  unfold nameOf
  rw [app_cps, app_cps, app_cps, cut_pre h, cut_suf h]
  simp
theorem nameOf_ok {c : Nat} {z : Str} {k e : Nat} (h : k ≤ z.length) (h10 : z.length ≤ 10) (hz : Gd z) (hc : c ∈ zLet.cps.toList) (he : e ∈ zGood.cps.toList) : isNm (nameOf c z k e) = true := by
  have q := nameOf_cps (c := c) (e := e) h
  have hl : (nameOf c z k e).length = z.length + 2 := by
    rw [str_len, q, List.length_cons, List.length_append, List.length_take, List.length_cons, List.length_drop, ← str_len]
    omega
  unfold isNm
  rw [q]
  simp only [Bool.and_eq_true, decide_eq_true_eq]
  refine ⟨⟨⟨by omega, by omega⟩, hc⟩, List.all_eq_true.mpr fun x hx => ?_⟩
  rcases List.mem_cons.mp hx with e1 | hx
  · subst e1
    unfold goodC
    rw [decide_eq_true hc]; rfl
  · rcases List.mem_append.mp hx with hx | hx
    · exact hz x (List.mem_of_mem_take hx)
    · rcases List.mem_cons.mp hx with e2 | hx
      · subst e2; exact good_all _ he
      · exact hz x (List.mem_of_mem_drop hx)
end W

set_option Elab.async false
set_option linter.all false
set_option maxRecDepth 100000
set_option maxHeartbeats 400000
namespace W
open PySem PySem.Spec PyProof.Rows L2 GxR MyG MyS
theorem heads_nodup (n : Int) {m : Nat} (hm : m ≤ 9) : ((List.range m).map fun (j : Nat) => zGood.cps.toList[((n + 3 * (j : Int)) % 26).toNat]?).Nodup := by
  refine List.pairwise_map.mpr (List.pairwise_iff_getElem.mpr fun a b ha hb hab e => ?_)
  rw [List.length_range] at ha hb
  rw [List.getElem_range, List.getElem_range] at e
  have h1 : ((n + 3 * (a : Int)) % 26).toNat < zGood.cps.toList.length := by rw [good_len]; omega
  have q := (List.getElem?_inj h1 good_nodup).mp e
  omega
def spLNames (P : Addr) : Sp := fun vs H Q _ => ∃ (n : Int) (m : Nat), vs = [.int n, .int m] ∧ 0 ≤ n ∧ m ≤ 9 ∧ TabG H P ∧ ∀ H' p (ns : List Str), Grew P H H' → H p = none → H' p = some (.lst (ns.map V.str)) → ns.length = m → ns.all isNm = true → ns.Nodup → Q (.ref p) H'
abbrev nLNames : List Str := ["number", "many", "letters", "size", "k", "rest", "place", "names", "own", "spot", "step"]
def rInt1 : List V → Hp → VK → Prop := fun xs H Q => (∃ i, xs = [.int i] ∧ Q (.int i) H) ∨ ∃ k, xs = [.bl k] ∧ Q (.int (if k then 1 else 0)) H
/-- the first signs differ -/
def heads (ns : List Str) : List (Option Nat) := ns.map fun z => z.cps.toList.head?
section
variable {Pg : Program} {w : World} {K : PySem.W.Frag} {mg : Str → Option Value} {base : Heap} {C P : Addr}
theorem scLNames : FnScope nLNames ["number", "many"] (defScope sLNames) := ⟨rfl, rfl, rfl, by decide +kernel, rfl, by decide +kernel, by decide +kernel⟩
theorem ok_lnames {f : Addr} {fd : FuncData} (F : Fun K "_law_names" "_law_names" sLNames f fd) (hi : mg "int" = none) (hr' : mg "range" = none) (hl : mg "len" = none) (hm : mg "min" = none) : FnOk Pg w K mg base CX0 1 f fd ["number", "many"] (spLNames P) := by
  refine F.ok scLNames (fun vs H Q E h => ?_) (fun cdv A outer s H vs Q E hr h => ?_)
  · obtain ⟨n, m, rfl, _⟩ := h
    rfl
  · obtain ⟨n, m, rfl, hn, hm9, hP, k⟩ := h
    refine ⟨_, pss_cons (ps_set (i := 2) scLNames.nd rfl (Or.inr rfl) pe_str)
      (pss_cons (ps_set (i := 3) scLNames.nd rfl (Or.inl rfl) (pe_op op_mod (pe_callTy call_int1 (by rfl) hi (by decide +kernel) (pa_cons (pv 0) pa_nil)) pe_int))
      (pss_cons (ps_set (i := 5) scLNames.nd rfl (Or.inl rfl) (pe_join pe_str (pe_lc (own := [("k", 4)]) (g := gName 4) (tt := tYes) rfl scLNames.nd (pi_range1 rfl hr' (pa_cons (pv 3) pa_nil)) (blkOk_by (N := nLNames) (sc := defScope sLNames) (by decide +kernel)) (fun _ _ _ _ _ => pg_name (i := 4) scLNames.nd rfl (Or.inl rfl)) (fun _ _ _ _ _ => pts_nil)
          (fun _ _ _ _ _ => pe_ix (r := rIxS) ix_str (pv 2) (pe_op op_mod (pe_callTy (r := rInt1) call_int1 (by rfl) hi (by decide +kernel) (pa_cons (pe_op op_add (pv 0) (pe_op op_mul (pe_op op_mul pe_int (pv 4)) (pv 4))) pa_nil)) pe_int) (fun _ _ => rfl)))))
      (pss_cons (ps_set (i := 6) scLNames.nd rfl (Or.inl rfl) (pe_op op_mod (pe_callTy call_int1 (by rfl) hi (by decide +kernel) (pa_cons (pe_op op_fdiv (pv 0) pe_int) pa_nil)) (pe_op op_add (pv 3) pe_int)))
      (pss_cons (ps_set (i := 7) scLNames.nd rfl (Or.inl rfl) (pe_lst pa_nil))
      (pss_cons (ps_for PassesOwn.never rfl (pi_range1 rfl hr' (pa_cons (pv 1) pa_nil)) (pg_name (i := 4) scLNames.nd rfl (Or.inl rfl))
        (pss_cons (ps_set (i := 8) scLNames.nd rfl (Or.inl rfl) (pv 5))
        (C8.pss_cut (ps_if (pt_cmpR op_eq (pe_op op_mod (pe_callTy call_int1 (by rfl) hi (by decide +kernel) (pa_cons (pe_op op_add (pe_op op_fdiv (pv 0) pe_int) (pv 4)) pa_nil)) pe_int) pe_int (nomark _))
          (pss_one (ps_set (i := 8) scLNames.nd rfl (Or.inl rfl) (pe_slice sl_str (pv 5) (po_some pe_int) po_none))) pss_nil)
        (pss_cons (ps_set (i := 9) scLNames.nd rfl (Or.inl rfl) (pe_callB (call_min2 rfl) (by rfl) hm (by decide +kernel) (pa_cons (pv 6) (pa_cons (pe_callB call_len_str (by rfl) hl PySem.boot_len (pa_cons (pv 8) pa_nil)) pa_nil))))
        (pss_cons (ps_set (i := 10) scLNames.nd rfl (Or.inl rfl) pe_int)
        (C8.pss_cut (ps_if (pt_cmpR op_eq (pe_op op_mod (pe_callTy call_int1 (by rfl) hi (by decide +kernel) (pa_cons (pe_op op_fdiv (pv 0) pe_int) pa_nil)) pe_int) pe_int (nomark _))
          (pss_one (ps_set (i := 10) scLNames.nd rfl (Or.inl rfl) pe_int)) pss_nil)
        (pss_one (ps_expr (pe_bm PySem.F.plainAttrs_list PySem.F.slot_list_append PySem.F.type_list_append mt_append (pv 7) (pa_cons
          (pe_op op_add_str (pe_op op_add_str (pe_op op_add_str (pe_ix ix_str (pv 2) (pe_op op_mod (pe_callTy call_int1 (by rfl) hi (by decide +kernel) (pa_cons (pe_op op_add (pv 0) (pe_op op_mul pe_int (pv 4))) pa_nil)) pe_int) (fun _ _ => rfl)) (pe_slice sl_str (pv 8) po_none (po_some (pv 9))))
            (pe_ix ix_str (pv 2) (pe_op op_mod (pe_callTy call_int1 (by rfl) hi (by decide +kernel) (pa_cons (pe_op op_add (pv 0) (pe_op op_mul (pv 10) (pv 4))) pa_nil)) pe_int) (fun _ _ => rfl))) (pe_slice sl_str (pv 8) (po_some (pv 9)) po_none)) pa_nil))))))))))
      (pss_one (ps_ret (pv 7)))))))), ?_⟩
    have sG : zGood.length ≤ sizeLine := by rw [str_len, good_len, sizeLine_eq]; decide
    refine ⟨_, rfl, .inl ⟨_, rfl, _, _, rfl, rfl, (show (0 : Int) < 11 by decide), ?_⟩⟩
    have hsz : 0 ≤ n % 11 ∧ n % 11 < 11 := by omega
    refine ⟨⟨_, rfl⟩, _, rfl, n % 11, rfl, by omega, by omega, fun D nD => lc_range (n := (n % 11).toNat) (fun i H1 => Grew P H H1 ∧ ∃ ys : List Str, H1 D = some (.lst (ys.map V.str)) ∧ ys.length = i ∧ ∀ y ∈ ys, Gd y ∧ y.length = 1)
      ⟨Grew.new hP nD, [], upd_same, rfl, fun y hy => by cases hy⟩ (fun i H1 hi p => ?_) (fun H1 p => ?_)⟩
    · obtain ⟨g, ys, hD, hl1, hy⟩ := p
      have hb : 0 ≤ (n + 7 * (0 + (i : Int)) * (0 + (i : Int))) % 36 ∧ (n + 7 * (0 + (i : Int)) * (0 + (i : Int))) % 36 < 36 := by omega
      obtain ⟨c, ec, ec2⟩ := at_some (l := zGood.cps.toList) hb.1 (by rw [good_len]; exact hb.2)
      refine ⟨rfl, _, rfl, _, rfl, _, rfl, _, _, rfl, rfl, .inl ⟨by decide, by decide⟩, _, rfl, _, _, rfl, rfl, .inr ⟨by omega, by omega⟩, _, _, rfl, rfl, .inl ⟨_, rfl, _, _, rfl, rfl, (show (0 : Int) < 36 by decide), _, _, c, rfl, rfl, sG, ec, _, hD, ?_, g.write hD (fun _ z => by cases z) nD, ys ++ [⟨#[c]⟩], ?_, ?_, ?_⟩⟩
      · rw [List.length_map, hl1, sizeLine_eq]; omega
      · rw [upd_same, List.map_append]; rfl
      · rw [List.length_append, hl1]; rfl
      · intro y hy2
        rcases List.mem_append.mp hy2 with hy2 | hy2
        · exact hy y hy2
        · rw [List.mem_singleton.mp hy2]
          exact ⟨Gd.one (List.mem_of_getElem? ec2), rfl⟩
    · obtain ⟨g, ys, hD, hl1, hy⟩ := p
      have hsum : ∀ ys : List Str, (∀ y ∈ ys, y.length = 1) → (ys.map (·.length)).sum = ys.length := by
        intro ys
        induction ys with
        | nil => intro _; rfl
        | cons y ys ih =>
          intro h
          rw [List.map_cons, List.sum_cons, ih fun z hz => h z (List.mem_cons_of_mem _ hz), h y List.mem_cons_self, List.length_cons]
          omega
      have hs1 := hsum ys fun y h => (hy y h).2
      have e0 : (Str.ofString "").length = 0 := by decide +kernel
      refine ⟨_, D, ys, rfl, rfl, .inl (SqL.of hD), by rw [hs1, e0]; omega, ?_⟩
      have hjl := join_len ys
      have hjg := Gd.join fun y h => (hy y h).1
      rw [hs1] at hjl
      generalize Txt.join (Str.ofString "") ys = rest at hjl hjg ⊢
      have hr10 : rest.length ≤ 10 := by omega
      refine ⟨_, rfl, _, _, rfl, rfl, ⟨by decide, by decide⟩, .inl ⟨_, rfl, _, rfl, _, _, rfl, rfl, _, _, rfl, rfl, (show (0 : Int) < n % 11 + 1 by omega), ?_⟩⟩
      have hpl : 0 ≤ n / 11 % (n % 11 + 1) := Int.emod_nonneg _ (by omega)
      refine ⟨Nat.zero_le _, fun p np => ?_⟩
      refine ⟨_, rfl, m, rfl, by omega, by omega, for_range (n := m) (fun i σ H' => ∃ kv ov sv tv, ∃ ns : List Str, σ = [some (.int n), some (.int m), some (.str zGood), some (.int (n % 11)), kv, some (.str rest), some (.int (n / 11 % (n % 11 + 1))), some (.ref p), ov, sv, tv] ∧ Grew P H H' ∧ H' p = some (.lst (ns.map V.str)) ∧ ns.length = i ∧ ns.all isNm = true ∧
          heads ns = (List.range i).map fun (j : Nat) => zGood.cps.toList[((n + 3 * (j : Int)) % 26).toNat]?)
        ⟨none, none, none, none, [], rfl, g.put np, upd_same, rfl, rfl, rfl⟩ ?_ ?_⟩
      · rintro i σ H' hi ⟨kv, ov, sv, tv, ns, rfl, g1, hp, hln, hall, hheads⟩
        refine ⟨_, rfl, ?_⟩
        -- own
        refine ⟨fun σ2 H2 => ∃ own : Str, σ2 = [some (.int n), some (.int m), some (.str zGood), some (.int (n % 11)), some (.int (0 + (i : Int))), some (.str rest), some (.int (n / 11 % (n % 11 + 1))), some (.ref p), some (.str own), sv, tv] ∧ own.length ≤ 10 ∧ Gd own ∧ H2 = H', ?_, ?_⟩
        · refine ⟨_, rfl, _, _, rfl, rfl, ⟨by decide, by decide⟩, _, rfl, _, _, rfl, rfl, .inl ⟨_, rfl, _, _, rfl, rfl, (show (0 : Int) < 3 by decide), rfl, _, rfl, ?_⟩⟩
          refine ite2 (fun _ => ?_) (fun _ => ?_)
          · have hc : (cutS rest (some 1) none).length ≤ 10 := by
              rw [str_len]
              have q : (cutS rest (some 1) none).cps.toList.length ≤ rest.cps.toList.length := by
                unfold cutS
                show ((rest.cps.toList.drop _).take _).toArray.toList.length ≤ _
                rw [List.toList_toArray, List.length_take, List.length_drop]
                omega
              rw [← str_len rest] at q
              omega
            exact ⟨_, rfl, 1, rfl, rest, rfl, by rw [sizeLine_eq]; omega, _, rfl, hc, hjg.cut _ _, rfl⟩
          · exact ⟨rest, rfl, hr10, hjg, rfl⟩
        rintro σ2 H2 ⟨own, rfl, ho10, hog, rfl⟩
        -- spot
        refine ⟨_, rfl, _, rfl, own, rfl, by rw [sizeLine_eq]; omega, _, _, rfl, ?_⟩
        obtain ⟨sp, hsp, hsp2⟩ : ∃ sp : Nat, (if ((own.length : Nat) : Int) < n / 11 % (n % 11 + 1) then ((own.length : Nat) : Int) else n / 11 % (n % 11 + 1)) = (sp : Int) ∧ sp ≤ own.length := by
          by_cases c : ((own.length : Nat) : Int) < n / 11 % (n % 11 + 1)
          · exact ⟨own.length, if_pos c, Nat.le_refl _⟩
          · refine ⟨(n / 11 % (n % 11 + 1)).toNat, ?_, by omega⟩
            rw [if_neg c]
            omega
        rw [hsp]
        -- step
        refine ⟨fun σ2 H3 => ∃ st : Int, σ2 = [some (.int n), some (.int m), some (.str zGood), some (.int (n % 11)), some (.int (0 + (i : Int))), some (.str rest), some (.int (n / 11 % (n % 11 + 1))), some (.ref p), some (.str own), some (.int sp), some (.int st)] ∧ 0 ≤ st ∧ st ≤ 31 ∧ H3 = H2, ?_, ?_⟩
        · refine ⟨_, rfl, _, _, rfl, rfl, ⟨by decide, by decide⟩, .inl ⟨_, rfl, _, _, rfl, rfl, (show (0 : Int) < 2 by decide), rfl, _, rfl, ?_⟩⟩
          refine ite2 (fun _ => ?_) (fun _ => ?_)
          · exact ⟨31, rfl, by decide, by decide, rfl⟩
          · exact ⟨5, rfl, by decide, by decide, rfl⟩
        rintro σ2 H3 ⟨st, rfl, hst1, hst2, rfl⟩
        have b1 : 0 ≤ (n + 3 * (0 + (i : Int))) % 26 ∧ (n + 3 * (0 + (i : Int))) % 26 < 26 := by omega
        have b2 : 0 ≤ (n + st * (0 + (i : Int))) % 36 ∧ (n + st * (0 + (i : Int))) % 36 < 36 := by omega
        obtain ⟨c, ec, ec'⟩ := at_some (l := zGood.cps.toList) b1.1 (by rw [good_len]; omega)
        obtain ⟨e, ee, ee'⟩ := at_some (l := zGood.cps.toList) b2.1 (by rw [good_len]; exact b2.2)
        have l1 : (cutS own none (some (sp : Int))).length = sp := by
          rw [str_len, cut_pre hsp2, List.length_take, ← str_len]; omega
        have l2 : (cutS own (some (sp : Int)) none).length = own.length - sp := by
          rw [str_len, cut_suf hsp2, List.length_drop, ← str_len]
        have lo : ∀ c : Nat, (⟨#[c]⟩ : Str).length = 1 := fun _ => rfl
        have s1 : ((⟨#[c]⟩ : Str) ++ cutS own none (some (sp : Int))).length = 1 + sp := by rw [PySem.Str.length_append, l1, lo]
        have s2 : ((⟨#[c]⟩ : Str) ++ cutS own none (some (sp : Int)) ++ (⟨#[e]⟩ : Str)).length = 1 + sp + 1 := by rw [PySem.Str.length_append, s1, lo]
        refine ⟨_, rfl, .inl ⟨rfl, _, SqL.of hp⟩, _, rfl, _, rfl, _, rfl, _, _, rfl, rfl, .inl ⟨by decide, by decide⟩, _, _, rfl, rfl, .inl ⟨_, rfl, _, _, rfl, rfl, (show (0 : Int) < 26 by decide), _, _, c, rfl, rfl, sG, ec,
          _, rfl, _, rfl, _, rfl, own, rfl, by rw [sizeLine_eq]; omega, _, _, rfl, rfl, by rw [l1, lo, sizeLine_eq]; omega,
          _, rfl, _, rfl, _, rfl, _, rfl, _, _, rfl, rfl, .inl ⟨by omega, by omega⟩, _, _, rfl, rfl, .inl ⟨_, rfl, _, _, rfl, rfl, (show (0 : Int) < 36 by decide), _, _, e, rfl, rfl, sG, ee, _, _, rfl, rfl, by rw [s1, lo, sizeLine_eq]; omega,
          _, rfl, _, rfl, _, rfl, own, rfl, by rw [sizeLine_eq]; omega, _, _, rfl, rfl, by rw [s2, l2, sizeLine_eq]; omega, p, _, _, rfl, rfl, hp, by rw [List.length_map, hln, sizeLine_eq]; omega, ?_⟩⟩⟩
        have hok : isNm (nameOf c own sp e) = true := nameOf_ok hsp2 ho10 hog (good_let c ?_) (List.mem_of_getElem? ee')
        · refine ⟨_, _, _, _, ns ++ [nameOf c own sp e], rfl, g1.write hp (fun _ z => by cases z) (g.free np), ?_, ?_, ?_, ?_⟩
          · rw [upd_same, List.map_append]; rfl
          · rw [List.length_append, hln]; rfl
          · rw [List.all_append, hall, List.all_cons, hok]; rfl
          · unfold heads at hheads ⊢
            rw [List.map_append, hheads, List.range_succ, List.map_append]
            congr 1
            show [(nameOf c own sp e).cps.toList.head?] = [_]
            rw [nameOf_cps hsp2]
            have ez : (0 : Int) + (i : Int) = (i : Int) := by omega
            rw [ez] at ec'
            exact congrArg (fun z => [z]) ec'.symm
        · exact List.mem_of_getElem? (i := ((n + 3 * (0 + (i : Int))) % 26).toNat) (by rw [List.getElem?_take_of_lt (by omega)]; exact ec')
      · rintro σ H' ⟨kv, ov, sv, tv, ns, rfl, g1, hp, hln, hall, hheads⟩
        refine ⟨_, rfl, k H' p ns g1 (g.free np) hp hln hall ?_⟩
        have nd : (heads ns).Nodup := by
          rw [hheads]
          exact heads_nodup n hm9
        exact List.Pairwise.of_map _ (fun a b hne e => hne (congrArg (fun z : Str => z.cps.toList.head?) e)) nd
end
end W

set_option Elab.async false
set_option linter.all false
set_option maxRecDepth 100000
set_option maxHeartbeats 400000
namespace W
open PySem PySem.Spec PyProof.Rows L2 GxR MyG MyS
def spLSome (K : PySem.W.Frag) (P : Addr) : Sp := fun vs H Q _ => ∃ (n : Int) (a : Addr) (ks : List Str), vs = [.int n, .ref a] ∧ SqL K H a (ks.map V.str) ∧ ks.length ≤ 4 ∧ TabG H P ∧ ∀ H' p (us : List Str), Grew P H H' → H p = none → H' p = some (.tup (us.map V.str)) → us.Sublist ks → Q (.ref p) H'
theorem at_num {ns : List Int} (hs : Sm ns) {i : Int} (h0 : 0 ≤ i) (h1 : i < ns.length) : ∃ n, atI (ns.map V.int) i = some (.int n) ∧ 0 ≤ n ∧ n < 1009 := by
  obtain ⟨k, rfl⟩ := Int.eq_ofNat_of_zero_le h0
  have hn : k < ns.length := by omega
  refine ⟨ns[k], atI_nat (by rw [List.getElem?_map, List.getElem?_eq_getElem hn]; rfl), hs _ (List.getElem_mem hn)⟩
def lastP (c : Int) (ps : List (Int × Int)) : Int := (ps.getLast?.map (·.2)).getD c
theorem hoursOk_snoc {d : Int} {q : Int × Int} : ∀ {ps : List (Int × Int)} {c : Int}, hoursOk d c ps → lastP c ps < q.1 → q.1 < q.2 → q.2 ≤ d → hoursOk d c (ps ++ [q])
  | [], _, _, h1, h2, h3 => ⟨h1, h2, h3, True.intro⟩
  | p :: ps, c, h, h1, h2, h3 => by
    refine ⟨h.1, h.2.1, h.2.2.1, hoursOk_snoc h.2.2.2 ?_ h2 h3⟩
    have e : lastP c (p :: ps) = lastP p.2 ps := by
      unfold lastP
      cases ps with
      | nil => rfl
      | cons a l =>
        rw [List.getLast?_cons_cons]
        cases h : (a :: l).getLast? with
        | none => simp at h
        | some z => rfl
    rw [← e]; exact h1
theorem lastP_snoc (c : Int) (ps : List (Int × Int)) (q : Int × Int) : lastP c (ps ++ [q]) = q.2 := by
  unfold lastP
  rw [List.getLast?_concat]
  rfl
def spLHours (K : PySem.W.Frag) (P : Addr) : Sp := fun vs H Q _ => ∃ (a : Addr) (ns : List Int) (at_ d : Int), vs = [.ref a, .int at_, .int d] ∧ SqL K H a (ns.map V.int) ∧ Sm ns ∧ 0 ≤ at_ ∧ at_ + 5 < ns.length ∧ 1 ≤ d ∧ TabG H P ∧ ∀ H' hs v, Grew P H H' → GHours K H' hs v → HoursOk d hs → Q v H'
section
variable {Pg : Program} {w : World} {K : PySem.W.Frag} {mg : Str → Option Value} {base : Heap} {C P : Addr}
abbrev nLSome : List Str := ["number", "rights", "found", "rest", "right"]
theorem scLSome : FnScope nLSome ["number", "rights"] (defScope sLSome) := ⟨rfl, rfl, rfl, by decide +kernel, rfl, by decide +kernel, by decide +kernel⟩
theorem ok_lsome {f : Addr} {fd : FuncData} (F : Fun K "_law_some" "_law_some" sLSome f fd) (hi : mg "int" = none) (ht : mg "tuple" = none) : FnOk Pg w K mg base CX0 1 f fd ["number", "rights"] (spLSome K P) := by
  refine F.ok scLSome (fun vs H Q E h => ?_) (fun cdv A outer s H vs Q E hr h => ?_)
  · obtain ⟨n, a, ks, rfl, _⟩ := h
    rfl
  · obtain ⟨n, a, ks, rfl, hS, hl, hP, k⟩ := h
    refine ⟨_, pss_cons (ps_set (i := 2) scLSome.nd rfl (Or.inl rfl) (pe_lst pa_nil))
      (pss_cons (ps_set (i := 3) scLSome.nd rfl (Or.inl rfl) (pv 0))
      (pss_cons (ps_for PassesOwn.never rfl (pi_list (pv 1)) (pg_name (i := 4) scLSome.nd rfl (Or.inl rfl))
        (C8.pss_cut (ps_if (pt_cmpR op_eq (pe_op op_mod (pe_callTy call_int1 (by rfl) hi (by decide +kernel) (pa_cons (pv 3) pa_nil)) pe_int) pe_int (nomark _))
          (pss_one (ps_expr (pe_bm PySem.F.plainAttrs_list PySem.F.slot_list_append PySem.F.type_list_append mt_append (pv 2) (pa_cons (pv 4) pa_nil)))) pss_nil)
        (pss_one (ps_set (i := 3) scLSome.nd rfl (Or.inl rfl) (pe_op op_fdiv (pv 3) pe_int)))))
      (pss_one (ps_ret (pe_callTy call_tuple_of (by rfl) ht (by decide +kernel) (pa_cons (pv 2) pa_nil)))))), ?_⟩
    refine ⟨Nat.zero_le _, fun p np => ?_⟩
    refine ⟨_, rfl, ?_⟩
    have g1 := Grew.new hP (o := .lst []) np
    refine ⟨_, rfl, a, rfl, ⟨_, g1.sqL hP hS⟩, for_list (K := K) (a := a) (xs := ks.map V.str) (fun i σ H' => ∃ r rv, ∃ us : List Str, σ = [some (.int n), some (.ref a), some (.ref p), some (.int r), rv] ∧ Grew P H H' ∧ H' p = some (.lst (us.map V.str)) ∧ us.Sublist (ks.take i))
      ⟨_, none, [], rfl, g1, upd_same, List.nil_sublist _⟩ (fun i σ H' _ ⟨_, _, _, _, g, _⟩ => g.sqL hP hS) ?_ ?_⟩
    · rintro i y σ H' hi ⟨r, rv, us, rfl, g, hp, hus⟩
      obtain ⟨z, hzi, rfl⟩ : ∃ z, ks[i]? = some z ∧ y = V.str z := by
        rw [List.getElem?_map] at hi
        obtain ⟨z, e1, e2⟩ := Option.map_eq_some_iff.mp hi
        exact ⟨z, e1, e2.symm⟩
      have lu : us.length ≤ 4 := Nat.le_trans hus.length_le (by rw [List.length_take]; omega)
      have tk : ks.take (i + 1) = ks.take i ++ [z] := by rw [List.take_succ, hzi]; rfl
      refine ⟨fun σ2 H2 => ∃ us : List Str, σ2 = [some (.int n), some (.ref a), some (.ref p), some (.int r), some (.str z)] ∧ Grew P H H2 ∧ H2 p = some (.lst (us.map V.str)) ∧ us.Sublist (ks.take (i + 1)), ?_, ?_⟩
      · refine ⟨_, rfl, .inl ⟨_, rfl, _, _, rfl, rfl, (show (0 : Int) < 2 by decide), rfl, _, rfl, ?_⟩⟩
        refine ite2 (fun _ => ?_) (fun _ => ?_)
        · refine ⟨_, rfl, .inl ⟨rfl, _, SqL.of hp⟩, _, rfl, p, _, _, rfl, rfl, hp, ?_, us ++ [z], rfl, g.write hp (fun _ z => by cases z) np, ?_, ?_⟩
          · rw [List.length_map, sizeLine_eq]; omega
          · rw [upd_same, List.map_append]; rfl
          · rw [tk]; exact hus.append (List.Sublist.refl _)
        · exact ⟨us, rfl, g, hp, hus.trans (by rw [tk]; exact List.sublist_append_left _ _)⟩
      rintro σ2 H2 ⟨us2, rfl, g2, hp2, hus2⟩
      exact ⟨_, rfl, _, _, rfl, rfl, ⟨by decide, by decide⟩, _, _, us2, rfl, g2, hp2, hus2⟩
    · rintro σ H' ⟨r, rv, us, rfl, g, hp, hus⟩
      rw [List.length_map, List.take_length] at hus
      refine ⟨_, rfl, p, _, rfl, .inl ⟨SqL.of hp, fun q nq => ?_⟩⟩
      exact k _ q us (g.put nq) (g.free nq) upd_same hus
abbrev nLHours : List Str := ["numbers", "at", "day", "kind", "pairs", "last", "k", "opened", "closed"]
theorem scLHours : FnScope nLHours ["numbers", "at", "day"] (defScope sLHours) := ⟨rfl, rfl, rfl, by decide +kernel, rfl, by decide +kernel, by decide +kernel⟩
theorem ok_lhours {f : Addr} {fd : FuncData} (F : Fun K "_law_hours" "_law_hours" sLHours f fd) (hi : mg "int" = none) (ht : mg "tuple" = none) (hr' : mg "range" = none) : FnOk Pg w K mg base CX0 1 f fd ["numbers", "at", "day"] (spLHours K P) := by
  refine F.ok scLHours (fun vs H Q E h => ?_) (fun cdv A outer s H vs Q E hr h => ?_)
  · obtain ⟨a, ns, at_, d, rfl, _⟩ := h
    rfl
  · obtain ⟨a, ns, at_, d, rfl, hS, hsm, ha0, ha1, hd, hP, k⟩ := h
    refine ⟨_, pss_cons (ps_set (i := 3) scLHours.nd rfl (Or.inl rfl) (pe_op op_mod (pe_callTy call_int1 (by rfl) hi (by decide +kernel) (pa_cons (pe_ix ix_list (pv 0) (pv 1) (fun _ _ => rfl)) pa_nil)) pe_int))
      (pss_cons (ps_if (pt_cmpR op_lt (pv 3) pe_int (nomark _)) (pss_one (ps_ret pe_non)) pss_nil)
      (pss_cons (ps_if (pt_cmpR op_eq (pv 3) pe_int (nomark _)) (pss_one (ps_ret (pe_tup pa_nil))) pss_nil)
      (pss_cons (ps_set (i := 4) scLHours.nd rfl (Or.inl rfl) (pe_lst pa_nil))
      (pss_cons (ps_set (i := 5) scLHours.nd rfl (Or.inl rfl) (pe_un un_neg pe_int))
      (pss_cons (ps_for PassesOwn.never rfl (pi_range1 rfl hr' (pa_cons (pe_op op_add pe_int (pe_op op_mod (pe_callTy call_int1 (by rfl) hi (by decide +kernel) (pa_cons (pe_ix ix_list (pv 0) (pe_op op_add (pv 1) pe_int) (fun _ _ => rfl)) pa_nil)) pe_int)) pa_nil)) (pg_name (i := 6) scLHours.nd rfl (Or.inl rfl))
        (pss_cons (ps_set (i := 7) scLHours.nd rfl (Or.inl rfl) (pe_op op_add (pe_op op_add (pv 5) pe_int) (pe_op op_mod (pe_callTy call_int1 (by rfl) hi (by decide +kernel) (pa_cons (pe_op op_fdiv (pe_ix ix_list (pv 0) (pe_op op_add (pe_op op_add (pv 1) pe_int) (pv 6)) (fun _ _ => rfl)) pe_int) pa_nil)) (pe_op op_add pe_int (pe_op op_fdiv (pv 2) pe_int)))))
        (pss_cons (ps_set (i := 8) scLHours.nd rfl (Or.inl rfl) (pe_op op_add (pe_op op_add (pv 7) pe_int) (pe_op op_mod (pe_callTy call_int1 (by rfl) hi (by decide +kernel) (pa_cons (pe_ix ix_list (pv 0) (pe_op op_add (pe_op op_add (pv 1) pe_int) (pv 6)) (fun _ _ => rfl)) pa_nil)) (pe_op op_add pe_int (pe_op op_fdiv (pv 2) pe_int)))))
        (pss_one (ps_if (pt_cmpR op_le (pv 8) (pv 2) (nomark _))
          (pss_cons (ps_expr (pe_bm PySem.F.plainAttrs_list PySem.F.slot_list_append PySem.F.type_list_append mt_append (pv 4) (pa_cons (pe_tup (pa_cons (pv 7) (pa_cons (pv 8) pa_nil))) pa_nil)))
          (pss_one (ps_set (i := 5) scLHours.nd rfl (Or.inl rfl) (pv 8)))) pss_nil)))))
      (pss_one (ps_ret (pe_callTy call_tuple_of (by rfl) ht (by decide +kernel) (pa_cons (pv 4) pa_nil))))))))), ?_⟩
    obtain ⟨n0, e0, l0, u0⟩ := at_num hsm (i := at_) ha0 (by omega)
    obtain ⟨n1, e1, l1, u1⟩ := at_num hsm (i := at_ + 1) (by omega) (by omega)
    refine ⟨_, rfl, _, rfl, a, _, _, _, rfl, rfl, hS, e0, .inl ⟨_, rfl, _, _, rfl, rfl, (show (0 : Int) < 8 by decide), ?_⟩⟩
    refine ⟨_, rfl, _, _, rfl, rfl, _, rfl, ?_⟩
    refine ite2 (fun _ => k H none .non (Grew.refl hP) rfl True.intro) (fun _ => ?_)
    refine ⟨_, rfl, rfl, _, rfl, ?_⟩
    refine ite2 (fun _ => ⟨Nat.zero_le _, fun p np => k _ (some []) _ (Grew.new hP np) ⟨p, [], rfl, SqT.of upd_same, .nil⟩ ⟨Nat.zero_le _, True.intro⟩⟩) (fun _ => ?_)
    refine ⟨Nat.zero_le _, fun p np => ⟨1, rfl, ?_⟩⟩
    have g1 := Grew.new hP (o := .lst []) np
    refine ⟨_, rfl, _, rfl, _, _, rfl, rfl, a, _, _, _, rfl, rfl, g1.sqL hP hS, e1, .inl ⟨_, rfl, _, _, rfl, rfl, (show (0 : Int) < 3 by decide), _, _, rfl, rfl, 1 + n1 % 3, rfl, by omega, by omega,
      for_range (n := (1 + n1 % 3).toNat) (fun i σ H' => ∃ kv ov cv, ∃ (ps : List (Int × Int)) (xs : List V), σ = [some (.ref a), some (.int at_), some (.int d), some (.int (n0 % 8)), some (.ref p), some (.int (lastP (-1) ps)), kv, ov, cv] ∧ Grew P H H' ∧ H' p = some (.lst xs) ∧ Paired (GPair K H') ps xs ∧ ps.length ≤ i ∧ hoursOk d (-1) ps)
        ⟨none, none, none, [], [], rfl, g1, upd_same, .nil, Nat.le_refl _, True.intro⟩ ?_ ?_⟩⟩
    · rintro i σ H' hi ⟨kv, ov, cv, ps, xs, rfl, g, hp, hps, hln, hok⟩
      have hi3 : i < 3 := by omega
      obtain ⟨n2, e2, l2, u2⟩ := at_num hsm (i := at_ + 2 + (0 + (i : Int))) (by omega) (by omega)
      have hS2 := g.sqL hP hS
      have d4 : (0 : Int) < 1 + d / 4 := by omega
      have d3 : (0 : Int) < 1 + d / 3 := by omega
      refine ⟨_, rfl, _, _, rfl, rfl, _, rfl, _, rfl, _, _, rfl, rfl, _, rfl, _, _, rfl, rfl, a, _, _, _, rfl, rfl, hS2, e2, _, _, rfl, rfl, ⟨by decide, by decide⟩, .inl ⟨_, rfl, _, rfl, _, _, rfl, rfl, ⟨by decide, by decide⟩, _, _, rfl, rfl, _, _, rfl, rfl, d4, _, _, rfl, rfl, ?_⟩⟩
      refine ⟨_, rfl, _, _, rfl, rfl, _, rfl, _, rfl, _, _, rfl, rfl, _, rfl, _, _, rfl, rfl, a, _, _, _, rfl, rfl, hS2, e2, .inl ⟨_, rfl, _, rfl, _, _, rfl, rfl, ⟨by decide, by decide⟩, _, _, rfl, rfl, _, _, rfl, rfl, d3, _, _, rfl, rfl, ?_⟩⟩
      have r1 : 0 ≤ n2 / 29 % (1 + d / 4) := Int.emod_nonneg _ (by omega)
      have r2 : 0 ≤ n2 % (1 + d / 3) := Int.emod_nonneg _ (by omega)
      refine ⟨_, rfl, _, rfl, _, _, rfl, rfl, _, rfl, ?_⟩
      refine ite2 (fun hle => ?_) (fun _ => ⟨_, _, _, ps, xs, rfl, g, hp, hps, by omega, hok⟩)
      have hle' := of_decide_eq_true hle
      refine ⟨_, rfl, .inl ⟨rfl, _, SqL.of hp⟩, _, rfl, _, rfl, by show 2 ≤ sizeLine; decide, fun q hq => ?_⟩
      have gq := g.put (o := .tup [.int (lastP (-1) ps + 1 + n2 / 29 % (1 + d / 4)), .int (lastP (-1) ps + 1 + n2 / 29 % (1 + d / 4) + 1 + n2 % (1 + d / 3))]) hq
      have hpq := (Grew.new g.tab (o := .tup [.int (lastP (-1) ps + 1 + n2 / 29 % (1 + d / 4)), .int (lastP (-1) ps + 1 + n2 / 29 % (1 + d / 4) + 1 + n2 % (1 + d / 3))]) hq).lst g.tab hp
      have lx := Paired.len hps
      have kt := KeepT.trans (KeepT.new (K := K) (o := .tup [.int (lastP (-1) ps + 1 + n2 / 29 % (1 + d / 4)), .int (lastP (-1) ps + 1 + n2 / 29 % (1 + d / 4) + 1 + n2 % (1 + d / 3))]) hq) (KeepT.lst (o := .lst (xs ++ [.ref q])) hpq)
      refine ⟨p, _, _, rfl, rfl, hpq, by rw [sizeLine_eq]; omega, _, rfl, some (.int (0 + (i : Int))), some (.int (lastP (-1) ps + 1 + n2 / 29 % (1 + d / 4))), some (.int (lastP (-1) ps + 1 + n2 / 29 % (1 + d / 4) + 1 + n2 % (1 + d / 3))), ps ++ [(lastP (-1) ps + 1 + n2 / 29 % (1 + d / 4), lastP (-1) ps + 1 + n2 / 29 % (1 + d / 4) + 1 + n2 % (1 + d / 3))], xs ++ [.ref q], ?_, gq.write hpq (fun _ z => by cases z) np, upd_same, ?_, ?_, ?_⟩
      · rw [lastP_snoc]; rfl
      · refine Paired.snoc (Paired.map' hps fun _ _ m => m.keep kt) ⟨q, rfl, ?_⟩
        exact (KeepT.lst (K := K) (o := .lst (xs ++ [.ref q])) hpq) _ _ (SqT.of upd_same)
      · rw [List.length_append, List.length_singleton]; omega
      · exact hoursOk_snoc hok (by show lastP (-1) ps < lastP (-1) ps + 1 + n2 / 29 % (1 + d / 4); omega) (by show lastP (-1) ps + 1 + n2 / 29 % (1 + d / 4) < lastP (-1) ps + 1 + n2 / 29 % (1 + d / 4) + 1 + n2 % (1 + d / 3); omega) hle'
    · rintro σ H' ⟨kv, ov, cv, ps, xs, rfl, g, hp, hps, hln, hok⟩
      refine ⟨_, rfl, p, _, rfl, .inl ⟨SqL.of hp, fun q nq => ?_⟩⟩
      exact k _ (some ps) _ (g.put nq) ⟨q, xs, rfl, SqT.of upd_same, Paired.map' hps fun _ _ m => m.keep (KeepT.new nq)⟩ ⟨by omega, hok⟩
end
end W

set_option Elab.async false
set_option linter.all false
set_option maxRecDepth 100000
set_option maxHeartbeats 800000
namespace W
open PySem PySem.Spec PyProof.Rows L2 GxR MyG MyS
theorem Paired.take {α β : Type} {F : α → β → Prop} : ∀ {l : List α} {m : List β} (n : Nat), Paired F l m → Paired F (l.take n) (m.take n)
  | _, _, 0, _ => .nil
  | _, _, _ + 1, .nil => .nil
  | _, _, n + 1, .cons r t => .cons r (Paired.take n t)
theorem prod_nodup {α β : Type} {m : List β} (hm : m.Nodup) : ∀ {l : List α}, l.Nodup → (l.flatMap fun a => m.map fun b => (a, b)).Nodup
  | [], _ => List.nodup_nil
  | a :: l, h => by
    rw [List.flatMap_cons, List.nodup_append]
    have h' := List.nodup_cons.mp h
    refine ⟨List.pairwise_map.mpr (hm.imp fun {x y} ne e => ne (Prod.mk.inj e).2), prod_nodup hm h'.2, fun x hx y hy e => ?_⟩
    obtain ⟨b, _, rfl⟩ := List.mem_map.mp hx
    obtain ⟨a', ha', hy⟩ := List.mem_flatMap.mp hy
    obtain ⟨b', _, rfl⟩ := List.mem_map.mp hy
    exact h'.1 ((Prod.mk.inj e).1 ▸ ha')
/-- the pairs that were met: all of the first i roads, with the (i+1)th the first j -/
def met (ns : List Str) (i j : Nat) : List (Str × Str) := ((ns.take i).flatMap fun a => ns.map fun b => (a, b)) ++ ((ns.drop i).take 1).flatMap fun a => (ns.take j).map fun b => (a, b)
theorem met_zero (ns : List Str) : met ns 0 0 = [] := by
  unfold met
  cases ns <;> simp
theorem met_next {ns : List Str} {i j : Nat} {a b : Str} (h : ns[i]? = some a) (k : ns[j]? = some b) : met ns i (j + 1) = met ns i j ++ [(a, b)] := by
  unfold met
  have e : (ns.drop i).take 1 = [a] := by
    have hi := (List.getElem?_eq_some_iff.mp h).1
    have q : (ns.drop i)[0]? = some a := by rw [List.getElem?_drop, Nat.add_zero]; exact h
    cases r : ns.drop i with
    | nil => rw [r] at q; cases q
    | cons x l => rw [r] at q; cases q; rfl
  rw [e, List.append_assoc]
  congr 1
  simp [List.take_succ, k]
theorem met_row {ns : List Str} {i : Nat} {a : Str} (h : ns[i]? = some a) : met ns (i + 1) 0 = met ns i ns.length := by
  unfold met
  have e : (ns.drop i).take 1 = [a] := by
    have q : (ns.drop i)[0]? = some a := by rw [List.getElem?_drop, Nat.add_zero]; exact h
    cases r : ns.drop i with
    | nil => rw [r] at q; cases q
    | cons x l => rw [r] at q; cases q; rfl
  rw [e, List.take_length, List.take_succ, h]
  simp
theorem met_all (ns : List Str) : met ns ns.length 0 = ns.flatMap fun a => ns.map fun b => (a, b) := by
  unfold met
  rw [List.take_length, List.drop_length]
  simp
/-- the drawn parts -/
def PartsAt (K : PySem.W.Frag) (H : Hp) (p : Addr) (d : Int) (ps ks : List Str) (rs : List RoadD) (bs : List (Str × Str)) : Prop := ∃ pl ki ro ba xs zs, H p = some (.lst [.int d, .ref pl, .ref ki, .ref ro, .ref ba]) ∧
  H pl = some (.lst (ps.map V.str)) ∧ H ki = some (.lst (ks.map V.str)) ∧ H ro = some (.lst xs) ∧ Paired (GRoad K H) rs xs ∧ H ba = some (.lst zs) ∧ Paired (GBar H) bs zs
def spLMap (K : PySem.W.Frag) (P : Addr) : Sp := fun vs H Q _ => ∃ (a : Addr) (ns : List Int) (at_ : Int), vs = [.ref a, .int at_] ∧ SqL K H a (ns.map V.int) ∧ Sm ns ∧ 0 ≤ at_ ∧ at_ + 100 ≤ ns.length ∧ TabG H P ∧
  ∀ H' p d ps ks rs bs, Grew P H H' → H p = none → PartsAt K H' p d ps ks rs bs → PartsOk d ks ps rs bs → 1 ≤ rs.length → rs.length ≤ 9 → Q (.ref p) H'
abbrev nLMap : List Str := ["numbers", "at", "day", "places", "kinds", "names", "roads", "k", "spot", "start", "end", "minutes", "used", "bars", "rest", "one", "other"]
theorem day_of (j : Int) (h0 : 0 ≤ j) (h8 : j < 8) : ∃ d : Int, atI [V.int 30, V.int 12, V.int 60, V.int 1440, V.int 7, V.int 24, V.int 1, V.int 100] j = some (.int d) ∧ 1 ≤ d ∧ d ≤ 1440 := by
  have : j = 0 ∨ j = 1 ∨ j = 2 ∨ j = 3 ∨ j = 4 ∨ j = 5 ∨ j = 6 ∨ j = 7 := by omega
  rcases this with rfl | rfl | rfl | rfl | rfl | rfl | rfl | rfl <;> exact ⟨_, rfl, by decide, by decide⟩
theorem at_str {ns : List Str} {i : Int} (h0 : 0 ≤ i) (h1 : i < ns.length) : ∃ z, atI (ns.map V.str) i = some (.str z) ∧ ns[i.toNat]? = some z ∧ z ∈ ns := by
  obtain ⟨k, rfl⟩ := Int.eq_ofNat_of_zero_le h0
  have hn : k < ns.length := by omega
  exact ⟨ns[k], atI_nat (by rw [List.getElem?_map, List.getElem?_eq_getElem hn]; rfl), List.getElem?_eq_getElem hn, List.getElem_mem hn⟩
section
variable {Pg : Program} {w : World} {K : PySem.W.Frag} {mg : Str → Option Value} {base : Heap} {C P : Addr}
theorem scLMap : FnScope nLMap ["numbers", "at"] (defScope sLMap) := ⟨rfl, rfl, rfl, by decide +kernel, rfl, by decide +kernel, by decide +kernel⟩
theorem ok_lmap {f fN fS fH : Addr} {fd fdN fdS fdH : FuncData} (F : Fun K "_law_map" "_law_map" sLMap f fd) (hi : mg "int" = none) (ht : mg "tuple" = none) (hr' : mg "range" = none) (hl : mg "len" = none)
    (GN : FnOk Pg w K mg base CX0 1 fN fdN ["number", "many"] (spLNames P)) (gN : mg "_law_names" = some (.ref fN)) (kN : PySem.W.keepIn K (.ref fN) = true) (bN : Binds K fdN ["number", "many"] [])
    (GS : FnOk Pg w K mg base CX0 1 fS fdS ["number", "rights"] (spLSome K P)) (gS : mg "_law_some" = some (.ref fS)) (kS : PySem.W.keepIn K (.ref fS) = true) (bS : Binds K fdS ["number", "rights"] [])
    (GH : FnOk Pg w K mg base CX0 1 fH fdH ["numbers", "at", "day"] (spLHours K P)) (gH : mg "_law_hours" = some (.ref fH)) (kH : PySem.W.keepIn K (.ref fH) = true) (bH : Binds K fdH ["numbers", "at", "day"] []) :
    FnOk Pg w K mg base CX0 2 f fd ["numbers", "at"] (spLMap K P) := by
  refine F.ok scLMap (fun vs H Q E h => ?_) (fun cdv A outer s H vs Q E hr h => ?_)
  · obtain ⟨a, ns, at_, rfl, _⟩ := h
    rfl
  · obtain ⟨a, ns, at_, rfl, hS, hsm, ha0, ha1, hP, k⟩ := h
    refine ⟨_, pss_cons (ps_set (i := 2) scLMap.nd rfl (Or.inl rfl) (pe_ix ix_list (pe_lst (pa_cons pe_int (pa_cons pe_int (pa_cons pe_int (pa_cons pe_int (pa_cons pe_int (pa_cons pe_int (pa_cons pe_int (pa_cons pe_int pa_nil)))))))))
        (pe_op op_mod (pe_callTy call_int1 (by rfl) hi (by decide +kernel) (pa_cons (pe_ix ix_list (pv 0) (pv 1) (fun _ _ => rfl)) pa_nil)) pe_int) (fun _ _ => rfl)))
      (pss_cons (ps_set (i := 3) scLMap.nd rfl (Or.inl rfl) (pe_call GN hr (by rfl) gN kN bN .nil pass0 (pa_cons (pe_ix ix_list (pv 0) (pe_op op_add (pv 1) pe_int) (fun _ _ => rfl)) (pa_cons (pe_op op_add pe_int (pe_op op_mod (pe_callTy call_int1 (by rfl) hi (by decide +kernel) (pa_cons (pe_ix ix_list (pv 0) (pe_op op_add (pv 1) pe_int) (fun _ _ => rfl)) pa_nil)) pe_int)) pa_nil))))
      (pss_cons (ps_set (i := 4) scLMap.nd rfl (Or.inl rfl) (pe_call GN hr (by rfl) gN kN bN .nil pass0 (pa_cons (pe_ix ix_list (pv 0) (pe_op op_add (pv 1) pe_int) (fun _ _ => rfl)) (pa_cons (pe_op op_add pe_int (pe_op op_mod (pe_callTy call_int1 (by rfl) hi (by decide +kernel) (pa_cons (pe_ix ix_list (pv 0) (pe_op op_add (pv 1) pe_int) (fun _ _ => rfl)) pa_nil)) pe_int)) pa_nil))))
      (pss_cons (ps_set (i := 5) scLMap.nd rfl (Or.inl rfl) (pe_call GN hr (by rfl) gN kN bN .nil pass0 (pa_cons (pe_ix ix_list (pv 0) (pe_op op_add (pv 1) pe_int) (fun _ _ => rfl)) (pa_cons pe_int pa_nil))))
      (pss_cons (ps_set (i := 6) scLMap.nd rfl (Or.inl rfl) (pe_lst pa_nil))
      (pss_cons (ps_for PassesOwn.never rfl (pi_range1 rfl hr' (pa_cons (pe_op op_add pe_int (pe_op op_mod (pe_callTy call_int1 (by rfl) hi (by decide +kernel) (pa_cons (pe_ix ix_list (pv 0) (pe_op op_add (pv 1) pe_int) (fun _ _ => rfl)) pa_nil)) pe_int)) pa_nil)) (pg_name (i := 7) scLMap.nd rfl (Or.inl rfl))
        (pss_cons (ps_set (i := 8) scLMap.nd rfl (Or.inl rfl) (pe_op op_add (pe_op op_add (pv 1) pe_int) (pe_op op_mul pe_int (pv 7))))
        (pss_cons (ps_set (i := 9) scLMap.nd rfl (Or.inl rfl) (pe_ix ix_list (pv 3) (pe_op op_mod (pe_callTy call_int1 (by rfl) hi (by decide +kernel) (pa_cons (pe_ix ix_list (pv 0) (pv 8) (fun _ _ => rfl)) pa_nil)) (pe_callB call_len_seq (by rfl) hl PySem.boot_len (pa_cons (pv 3) pa_nil))) (fun _ _ => rfl)))
        (pss_cons (ps_set (i := 10) scLMap.nd rfl (Or.inl rfl) (pe_ix ix_list (pv 3) (pe_op op_mod (pe_callTy call_int1 (by rfl) hi (by decide +kernel) (pa_cons (pe_ix ix_list (pv 0) (pe_op op_add (pv 8) pe_int) (fun _ _ => rfl)) pa_nil)) (pe_callB call_len_seq (by rfl) hl PySem.boot_len (pa_cons (pv 3) pa_nil))) (fun _ _ => rfl)))
        (pss_cons (ps_set (i := 11) scLMap.nd rfl (Or.inl rfl) (pe_op op_add pe_int (pe_op op_mod (pe_callTy call_int1 (by rfl) hi (by decide +kernel) (pa_cons (pe_ix ix_list (pv 0) (pe_op op_add (pv 8) pe_int) (fun _ _ => rfl)) pa_nil)) pe_int)))
        (C8.pss_cut (ps_if (pt_cmpR op_eq (pe_op op_mod (pe_callTy call_int1 (by rfl) hi (by decide +kernel) (pa_cons (pe_ix ix_list (pv 0) (pe_op op_add (pv 8) pe_int) (fun _ _ => rfl)) pa_nil)) pe_int) pe_int (nomark _))
          (pss_one (ps_set (i := 11) scLMap.nd rfl (Or.inl rfl) (pe_op op_add pe_int (pe_op op_mod (pe_callTy call_int1 (by rfl) hi (by decide +kernel) (pa_cons (pe_op op_mul (pe_ix ix_list (pv 0) (pe_op op_add (pv 8) pe_int) (fun _ _ => rfl)) pe_int) pa_nil)) pe_int)))) pss_nil)
        (pss_cons (ps_set (i := 12) scLMap.nd rfl (Or.inl rfl) (pe_call GS hr (by rfl) gS kS bS .nil pass0 (pa_cons (pe_ix ix_list (pv 0) (pe_op op_add (pv 8) pe_int) (fun _ _ => rfl)) (pa_cons (pv 4) pa_nil))))
        (C8.pss_cut (ps_if (pt_cmpR op_gt (pe_op op_mod (pe_callTy call_int1 (by rfl) hi (by decide +kernel) (pa_cons (pe_op op_fdiv (pe_ix ix_list (pv 0) (pe_op op_add (pv 8) pe_int) (fun _ _ => rfl)) pe_int) pa_nil)) pe_int) pe_int (nomark _))
          (pss_one (ps_set (i := 12) scLMap.nd rfl (Or.inl rfl) (pe_callTy call_tuple_of (by rfl) ht (by decide +kernel) (pa_cons (pv 4) pa_nil)))) pss_nil)
        (pss_one (ps_expr (pe_bm PySem.F.plainAttrs_list PySem.F.slot_list_append PySem.F.type_list_append mt_append (pv 6) (pa_cons (pe_tup (pa_cons (pe_ix ix_list (pv 5) (pv 7) (fun _ _ => rfl)) (pa_cons (pv 9) (pa_cons (pv 10) (pa_cons (pv 11) (pa_cons (pv 12)
          (pa_cons (pe_call GH hr (by rfl) gH kH bH .nil pass0 (pa_cons (pv 0) (pa_cons (pe_op op_add (pv 8) pe_int) (pa_cons (pv 2) pa_nil)))) pa_nil))))))) pa_nil))))))))))))
      (pss_cons (ps_set (i := 13) scLMap.nd rfl (Or.inl rfl) (pe_lst pa_nil))
      (pss_cons (ps_set (i := 14) scLMap.nd rfl (Or.inl rfl) (pe_ix ix_list (pv 0) (pe_op op_add (pv 1) pe_int) (fun _ _ => rfl)))
      (pss_cons (ps_for PassesOwn.never rfl (pi_list (pv 6)) (pg_name (i := 15) scLMap.nd rfl (Or.inl rfl))
        (pss_one (ps_for PassesOwn.never rfl (pi_list (pv 6)) (pg_name (i := 16) scLMap.nd rfl (Or.inl rfl))
          (pss_one (ps_if (pt_cmpR op_eq (pe_ix ix_tup (pv 15) pe_int (fun _ _ => rfl)) (pe_ix ix_tup (pv 16) pe_int (fun _ _ => rfl)) (nomark _))
            (C8.pss_cut (ps_if (pt_cmpR op_eq (pe_op op_mod (pe_callTy call_int1 (by rfl) hi (by decide +kernel) (pa_cons (pv 14) pa_nil)) pe_int) pe_int (nomark _))
              (pss_one (ps_expr (pe_bm PySem.F.plainAttrs_list PySem.F.slot_list_append PySem.F.type_list_append mt_append (pv 13) (pa_cons (pe_tup (pa_cons (pe_ix ix_tup (pv 15) pe_int (fun _ _ => rfl)) (pa_cons (pe_ix ix_tup (pv 16) pe_int (fun _ _ => rfl)) pa_nil))) pa_nil)))) pss_nil)
            (pss_one (ps_set (i := 14) scLMap.nd rfl (Or.inl rfl) (pe_op op_add (pe_op op_fdiv (pv 14) pe_int) (pe_op op_mul (pe_op op_mod (pe_callTy call_int1 (by rfl) hi (by decide +kernel) (pa_cons (pv 14) pa_nil)) pe_int) pe_int))))) pss_nil)))))
      (pss_one (ps_ret (pe_lst (pa_cons (pv 2) (pa_cons (pv 3) (pa_cons (pv 4) (pa_cons (pv 6) (pa_cons (pe_slice sl_list (pv 13) po_none (po_some pe_int)) pa_nil)))))))))))))))), ?_⟩
    obtain ⟨n0, e0, l0, u0⟩ := at_num hsm (i := at_) ha0 (by omega)
    have num : ∀ {j : Int}, 0 ≤ j → j < at_ + 100 → ∃ n, atI (ns.map V.int) j = some (.int n) ∧ 0 ≤ n ∧ n < 1009 := fun h0 h1 => at_num hsm h0 (by omega)
    obtain ⟨n1, e1, l1, u1⟩ := num (j := at_ + 1) (by omega) (by omega)
    obtain ⟨n2, e2, l2, u2⟩ := num (j := at_ + 2) (by omega) (by omega)
    obtain ⟨n3, e3, l3, u3⟩ := num (j := at_ + 3) (by omega) (by omega)
    obtain ⟨n4, e4, l4, u4⟩ := num (j := at_ + 4) (by omega) (by omega)
    obtain ⟨n5, e5, l5, u5⟩ := num (j := at_ + 5) (by omega) (by omega)
    obtain ⟨n6, e6, l6, u6⟩ := num (j := at_ + 6) (by omega) (by omega)
    obtain ⟨n7, e7, l7, u7⟩ := num (j := at_ + 7) (by omega) (by omega)
    obtain ⟨d, ed, hd1, hd2⟩ := day_of (n0 % 8) (by omega) (by omega)
    -- day
    refine ⟨by decide, fun L nL => ?_⟩
    have gL := Grew.new hP (o := .lst [V.int 30, V.int 12, V.int 60, V.int 1440, V.int 7, V.int 24, V.int 1, V.int 100]) nL
    refine ⟨_, rfl, _, rfl, a, _, _, _, rfl, rfl, gL.sqL hP hS, e0, .inl ⟨_, rfl, _, _, rfl, rfl, (show (0 : Int) < 8 by decide), L, _, _, _, rfl, rfl, SqL.of upd_same, ed, ?_⟩⟩
    -- places
    refine ⟨_, rfl, _, rfl, _, _, rfl, rfl, a, _, _, _, rfl, rfl, gL.sqL hP hS, e1, _, rfl, _, rfl, _, _, rfl, rfl, a, _, _, _, rfl, rfl, gL.sqL hP hS, e2, .inl ⟨_, rfl, _, _, rfl, rfl, (show (0 : Int) < 4 by decide), _, _, rfl, rfl,
      n1, (2 + n2 % 4).toNat, congrArg (fun z => [V.int n1, V.int z]) (Int.toNat_of_nonneg (show 0 ≤ 2 + n2 % 4 by omega)).symm, l1, by omega, gL.tab, fun Ha pl ps ga npl epl lps aps dps => ?_⟩⟩
    have g1 := gL.trans ga
    -- kinds
    refine ⟨_, rfl, _, rfl, _, _, rfl, rfl, a, _, _, _, rfl, rfl, g1.sqL hP hS, e3, _, rfl, _, rfl, _, _, rfl, rfl, a, _, _, _, rfl, rfl, g1.sqL hP hS, e4, .inl ⟨_, rfl, _, _, rfl, rfl, (show (0 : Int) < 3 by decide), _, _, rfl, rfl,
      n3, (1 + n4 % 3).toNat, congrArg (fun z => [V.int n3, V.int z]) (Int.toNat_of_nonneg (show 0 ≤ 1 + n4 % 3 by omega)).symm, l3, by omega, g1.tab, fun Hb ki ks gb nki eki lks aks dks => ?_⟩⟩
    have g2 := g1.trans gb
    have epl2 := gb.lst g1.tab epl
    -- names
    refine ⟨_, rfl, _, rfl, _, _, rfl, rfl, a, _, _, _, rfl, rfl, g2.sqL hP hS, e5, n5, 9, rfl, l5, by omega, g2.tab, fun Hc na nm gc nna ena lnm anm dnm => ?_⟩
    have g3 := g2.trans gc
    have epl3 := gc.lst g2.tab epl2
    have eki3 := gc.lst g2.tab eki
    -- roads
    refine ⟨Nat.zero_le _, fun ro nro => ?_⟩
    have g4 := g3.put (o := .lst []) nro
    have g34 := Grew.new g3.tab (o := .lst []) nro
    have n0ro := g3.free nro
    refine ⟨_, rfl, _, rfl, _, _, rfl, rfl, a, _, _, _, rfl, rfl, g4.sqL hP hS, e6, .inl ⟨_, rfl, _, _, rfl, rfl, (show (0 : Int) < 9 by decide), _, _, rfl, rfl, 1 + n6 % 9, rfl, by omega, by omega,
      for_range (n := (1 + n6 % 9).toNat) (fun i σ H' => ∃ v7 v8 v9 v10 v11 v12, ∃ (rs : List RoadD) (xs : List V), σ = [some (.ref a), some (.int at_), some (.int d), some (.ref pl), some (.ref ki), some (.ref na), some (.ref ro), v7, v8, v9, v10, v11, v12, none, none, none, none] ∧
          Grew P H H' ∧ H' pl = some (.lst (ps.map V.str)) ∧ H' ki = some (.lst (ks.map V.str)) ∧ H' na = some (.lst (nm.map V.str)) ∧ H' ro = some (.lst xs) ∧ Paired (GRoad K H') rs xs ∧ rs.map (·.name) = nm.take i ∧ ∀ r ∈ rs, RoadOk d ps ks r)
        ⟨none, none, none, none, none, none, [], [], rfl, g4, g34.lst g3.tab epl3, g34.lst g3.tab eki3, g34.lst g3.tab ena, upd_same, .nil, rfl, fun r h => by cases h⟩ ?_ ?_⟩⟩
    · rintro i σ H' hi ⟨v7, v8, v9, v10, v11, v12, rs, xs, rfl, g, hpl, hki, hna, hro, hrs, hnm, hok⟩
      have hi9 : i < 9 := by omega
      have hS2 := g.sqL hP hS
      have lrs : rs.length = i := by
        have q := congrArg List.length hnm
        rw [List.length_map, List.length_take] at q
        omega
      obtain ⟨m0, f0, a0, b0⟩ := num (j := at_ + 10 + 9 * (0 + (i : Int))) (by omega) (by omega)
      obtain ⟨m1, f1, a1, b1⟩ := num (j := at_ + 10 + 9 * (0 + (i : Int)) + 1) (by omega) (by omega)
      obtain ⟨m2, f2, a2, b2⟩ := num (j := at_ + 10 + 9 * (0 + (i : Int)) + 2) (by omega) (by omega)
      obtain ⟨m3, f3, a3, b3⟩ := num (j := at_ + 10 + 9 * (0 + (i : Int)) + 3) (by omega) (by omega)
      have lp : (0 : Int) < ps.length := by omega
      obtain ⟨st, es, es2, es3⟩ := at_str (ns := ps) (i := m0 % ps.length) (Int.emod_nonneg _ (by omega)) (Int.emod_lt_of_pos _ lp)
      obtain ⟨en, ee, ee2, ee3⟩ := at_str (ns := ps) (i := m1 % ps.length) (Int.emod_nonneg _ (by omega)) (Int.emod_lt_of_pos _ lp)
      -- spot
      refine ⟨_, rfl, _, _, rfl, rfl, _, rfl, _, _, rfl, rfl, .inl ⟨by decide, by decide⟩, _, _, rfl, rfl, ?_⟩
      -- start
      refine ⟨_, rfl, _, rfl, _, rfl, a, _, _, _, rfl, rfl, hS2, f0, .inl ⟨_, rfl, _, rfl, pl, _, rfl, .inl (SqL.of hpl), _, _, rfl, rfl, by rw [List.length_map]; exact lp, pl, _, _, _, rfl, rfl, SqL.of hpl, by rw [List.length_map]; exact es, ?_⟩⟩
      -- end
      refine ⟨_, rfl, _, rfl, _, rfl, _, _, rfl, rfl, a, _, _, _, rfl, rfl, hS2, f1, .inl ⟨_, rfl, _, rfl, pl, _, rfl, .inl (SqL.of hpl), _, _, rfl, rfl, by rw [List.length_map]; exact lp, pl, _, _, _, rfl, rfl, SqL.of hpl, by rw [List.length_map]; exact ee, ?_⟩⟩
      -- minutes
      refine ⟨_, rfl, _, rfl, _, _, rfl, rfl, a, _, _, _, rfl, rfl, hS2, f2, .inl ⟨_, rfl, _, _, rfl, rfl, (show (0 : Int) < 20 by decide), _, _, rfl, rfl, ?_⟩⟩
      refine ⟨fun σ2 H2 => ∃ mi : Int, σ2 = [some (.ref a), some (.int at_), some (.int d), some (.ref pl), some (.ref ki), some (.ref na), some (.ref ro), some (.int (0 + (i : Int))), some (.int (at_ + 10 + 9 * (0 + (i : Int)))), some (.str st), some (.str en), some (.int mi), v12, none, none, none, none] ∧ 1 ≤ mi ∧ mi ≤ 1000 ∧ H2 = H', ?_, ?_⟩
      · refine ⟨_, rfl, _, rfl, _, _, rfl, rfl, a, _, _, _, rfl, rfl, hS2, f2, .inl ⟨_, rfl, _, _, rfl, rfl, (show (0 : Int) < 13 by decide), rfl, _, rfl, ?_⟩⟩
        refine ite2 (fun _ => ?_) (fun _ => ?_)
        · refine ⟨_, rfl, _, rfl, _, _, rfl, rfl, a, _, _, _, rfl, rfl, hS2, f2, _, _, rfl, rfl, .inr ⟨by decide, by decide⟩, .inl ⟨_, rfl, _, _, rfl, rfl, (show (0 : Int) < 1000 by decide), _, _, rfl, rfl, 1 + m2 * 31 % 1000, rfl, by omega, by omega, rfl⟩⟩
        · exact ⟨1 + m2 % 20, rfl, by omega, by omega, rfl⟩
      rintro σ2 H2 ⟨mi, rfl, hmi1, hmi2, rfl⟩
      -- used
      refine ⟨_, rfl, _, rfl, _, _, rfl, rfl, a, _, _, _, rfl, rfl, hS2, f3, _, rfl, m3, ki, ks, rfl, SqL.of hki, by omega, g.tab, fun H3 u0 us0 g5 nu0 eu0 sub0 => ?_⟩
      have g35 := g.trans g5
      refine ⟨fun σ2 H4 => ∃ (u : Addr) (us : List Str), σ2 = [some (.ref a), some (.int at_), some (.int d), some (.ref pl), some (.ref ki), some (.ref na), some (.ref ro), some (.int (0 + (i : Int))), some (.int (at_ + 10 + 9 * (0 + (i : Int)))), some (.str st), some (.str en), some (.int mi), some (.ref u), none, none, none, none] ∧ Grew P H2 H4 ∧ H4 u = some (.tup (us.map V.str)) ∧ us.Sublist ks, ?_, ?_⟩
      · refine ⟨_, rfl, _, rfl, _, _, rfl, rfl, a, _, _, _, rfl, rfl, g35.sqL hP hS, f3, _, _, rfl, rfl, ⟨by decide, by decide⟩, .inl ⟨_, rfl, _, _, rfl, rfl, (show (0 : Int) < 3 by decide), _, _, rfl, rfl, _, rfl, ?_⟩⟩
        refine ite2 (fun _ => ?_) (fun _ => ?_)
        · exact ⟨_, rfl, ki, _, rfl, .inl ⟨SqL.of (g5.lst g.tab hki), fun q nq => ⟨q, ks, rfl, g5.put nq, upd_same, List.Sublist.refl _⟩⟩⟩
        · exact ⟨u0, us0, rfl, g5, eu0, sub0⟩
      rintro σ2 H4 ⟨u, us, rfl, g6, eu, sub⟩
      have g46 := g.trans g6
      -- the road
      obtain ⟨z, ez, ez2, ez3⟩ := at_str (ns := nm) (i := 0 + (i : Int)) (by omega) (by omega)
      have hro4 := g6.lst g.tab hro
      refine ⟨_, rfl, .inl ⟨rfl, _, SqL.of hro4⟩, _, rfl, _, rfl, na, _, _, _, rfl, rfl, SqL.of (g6.lst g.tab hna), ez, _, rfl, _, rfl, _, rfl, _, rfl, _, rfl, _, rfl, _, _, rfl, rfl, _, rfl,
        a, ns, at_ + 10 + 9 * (0 + (i : Int)) + 4, d, rfl, g46.sqL hP hS, hsm, by omega, by omega, hd1, g46.tab, fun H5 hs v g7 ghs hok5 => ⟨by show 6 ≤ sizeLine; decide, fun q nq => ?_⟩⟩
      have g57 := g46.trans g7
      have hro5 := g7.lst g46.tab hro4
      have g8 := Grew.new g57.tab (o := .tup [.str z, .str st, .str en, .int mi, .ref u, v]) nq
      have hro6 := g8.lst g57.tab hro5
      have g58 := g57.trans g8
      have gall := (g6.trans g7).trans g8
      have nero : ∀ {b : Addr} {l : List V}, L2.upd H5 q (.tup [.str z, .str st, .str en, .int mi, .ref u, v]) b = some (.lst l) → b ≠ ro → L2.upd (L2.upd H5 q (.tup [.str z, .str st, .str en, .int mi, .ref u, v])) ro (.lst (xs ++ [.ref q])) b = some (.lst l) := fun e ne => by rw [upd_ne ne]; exact e
      have nn : ∀ {b : Addr} {o : HO}, Hc b = some o → b ≠ ro := fun {b o} e z => by rw [z, nro] at e; cases e
      have kt := KeepT.lst (K := K) (o := .lst (xs ++ [.ref q])) hro6
      refine ⟨ro, _, _, rfl, rfl, hro6, by rw [← Paired.len hrs, lrs, sizeLine_eq]; omega, some (.int (0 + (i : Int))), some (.int (at_ + 10 + 9 * (0 + (i : Int)))), some (.str st), some (.str en), some (.int mi), some (.ref u), rs ++ [⟨z, st, en, mi, us, hs⟩], xs ++ [.ref q], rfl,
        g58.write hro6 (fun _ z => by cases z) n0ro, nero (gall.lst g.tab hpl) (nn epl3), nero (gall.lst g.tab hki) (nn eki3), nero (gall.lst g.tab hna) (nn ena), upd_same, ?_, ?_, ?_⟩
      · refine Paired.snoc (Paired.map' hrs fun r v m => (m.keep (KeepT.grew gall g.tab)).keep kt) ⟨q, u, v, rfl, kt _ _ (SqT.of upd_same), kt _ _ (SqT.of ((g7.trans g8).tup g46.tab eu)), (ghs.keep (KeepT.grew g8 g57.tab)).keep kt⟩
      · have ez2' : nm[i]? = some z := by
          have e : (0 + (i : Int)).toNat = i := by omega
          rw [e] at ez2; exact ez2
        rw [List.map_append, hnm, List.take_succ, ez2']
        rfl
      · intro r hr
        rcases List.mem_append.mp hr with hr | hr
        · exact hok r hr
        · rw [List.mem_singleton.mp hr]
          exact ⟨es3, ee3, hmi1, hmi2, fun x hx => sub.subset hx, Nat.le_trans sub.length_le (by omega), sub.nodup dks, hok5⟩
    · rintro σ H' ⟨v7, v8, v9, v10, v11, v12, rs, xs, rfl, g, hpl, hki, hna, hro, hrs, hnm, hok⟩
      have lrs : rs.length = (1 + n6 % 9).toNat := by
        have q := congrArg List.length hnm
        rw [List.length_map, List.length_take] at q
        omega
      have lxs := Paired.len hrs
      have ndn : (rs.map (·.name)).Nodup := by rw [hnm]; exact dnm.sublist (List.take_sublist _ _)
      -- bars
      refine ⟨Nat.zero_le _, fun ba nba => ?_⟩
      have gba := Grew.new g.tab (o := .lst []) nba
      have n0ba := g.free nba
      have gA := g.trans gba
      have nn : ∀ {b : Addr} {o : HO}, H' b = some o → b ≠ ba := fun {b o} e z => by rw [z, nba] at e; cases e
      refine ⟨_, rfl, _, rfl, _, _, rfl, rfl, a, _, _, _, rfl, rfl, gA.sqL hP hS, e7, ?_⟩
      have pin : ∀ {H2 : Hp}, Grew P H' H2 → H2 ro = some (.lst xs) ∧ Paired (GRoad K H2) rs xs := fun g2 => ⟨g2.lst g.tab hro, Paired.map' hrs fun r v m => m.keep (KeepT.grew g2 g.tab)⟩
      refine ⟨_, rfl, ro, rfl, ⟨_, SqL.of (gba.lst g.tab hro)⟩, for_list (K := K) (a := ro) (xs := xs) (fun i σ H2 => ∃ v15 v16, ∃ (rst : Int) (bs : List (Str × Str)) (zs : List V), σ = [some (.ref a), some (.int at_), some (.int d), some (.ref pl), some (.ref ki), some (.ref na), some (.ref ro), v7, v8, v9, v10, v11, v12, some (.ref ba), some (.int rst), v15, v16] ∧
          Grew P H' H2 ∧ H2 ba = some (.lst zs) ∧ Paired (GBar H2) bs zs ∧ zs.length ≤ 9 * i ∧ bs.Sublist (met (rs.map (·.name)) i 0) ∧ ∀ b ∈ bs, ∃ r1 ∈ rs, ∃ r2 ∈ rs, b.1 = r1.name ∧ b.2 = r2.name ∧ r1.goal = r2.start)
        ⟨none, none, n7, [], [], rfl, gba, upd_same, .nil, Nat.le_refl _, List.nil_sublist _, fun b h => by cases h⟩ (fun i σ H2 _ ⟨_, _, _, _, _, _, g2, _⟩ => SqL.of (pin g2).1) ?_ ?_⟩
      · rintro i y σ H2 hi ⟨v15, v16, rst, bs, zs, rfl, g2, hba, hz, lz, hsub, hbo⟩
        obtain ⟨r1, hr1, _⟩ := Paired.at hrs hi
        have m1 := List.mem_of_getElem? hr1
        have ii : i < rs.length := (List.getElem?_eq_some_iff.mp hr1).1
        have nm1 : (rs.map (·.name))[i]? = some r1.name := by rw [List.getElem?_map, hr1]; rfl
        refine ⟨_, rfl, ro, rfl, ⟨_, SqL.of (pin g2).1⟩, for_list (K := K) (a := ro) (xs := xs) (fun j σ H3 => ∃ v16, ∃ (rst : Int) (bs : List (Str × Str)) (zs : List V), σ = [some (.ref a), some (.int at_), some (.int d), some (.ref pl), some (.ref ki), some (.ref na), some (.ref ro), v7, v8, v9, v10, v11, v12, some (.ref ba), some (.int rst), some y, v16] ∧
            Grew P H' H3 ∧ H3 ba = some (.lst zs) ∧ Paired (GBar H3) bs zs ∧ zs.length ≤ 9 * i + j ∧ bs.Sublist (met (rs.map (·.name)) i j) ∧ ∀ b ∈ bs, ∃ r1 ∈ rs, ∃ r2 ∈ rs, b.1 = r1.name ∧ b.2 = r2.name ∧ r1.goal = r2.start)
          ⟨_, rst, bs, zs, rfl, g2, hba, hz, by omega, hsub, hbo⟩ (fun j σ H3 _ ⟨_, _, _, _, _, g3, _⟩ => SqL.of (pin g3).1) ?_ ?_⟩
        · rintro j y2 σ H3 hj ⟨w16, rst, bs, zs, rfl, g3, hba, hz, lz, hsub, hbo⟩
          obtain ⟨p1, p2⟩ := pin g3
          obtain ⟨r1', hr1', t1, u1, h1, rfl, hT1, _⟩ := Paired.at p2 hi
          obtain rfl : r1' = r1 := Option.some.inj (hr1'.symm.trans hr1)
          obtain ⟨r2, hr2, t2, u2, h2, rfl, hT2, _⟩ := Paired.at p2 hj
          have m2 := List.mem_of_getElem? hr2
          have jj : j < rs.length := (List.getElem?_eq_some_iff.mp hr2).1
          have nm2 : (rs.map (·.name))[j]? = some r2.name := by rw [List.getElem?_map, hr2]; rfl
          have mx := met_next nm1 nm2
          refine ⟨_, rfl, t1, _, 2, _, rfl, rfl, hT1, rfl, _, rfl, t2, _, 1, _, rfl, rfl, hT2, rfl, rfl, _, rfl, ?_⟩
          refine ite2 (fun heq => ?_) (fun _ => ⟨_, rst, bs, zs, rfl, g3, hba, hz, by omega, by rw [mx]; exact hsub.trans (List.sublist_append_left _ _), hbo⟩)
          have heq' : r1'.goal = r2.start := by
            have q := of_decide_eq_true heq
            injection q
          refine ⟨fun σ2 H4 => ∃ (bs : List (Str × Str)) (zs : List V), σ2 = [some (.ref a), some (.int at_), some (.int d), some (.ref pl), some (.ref ki), some (.ref na), some (.ref ro), v7, v8, v9, v10, v11, v12, some (.ref ba), some (.int rst), some (.ref t1), some (.ref t2)] ∧
            Grew P H' H4 ∧ H4 ba = some (.lst zs) ∧ Paired (GBar H4) bs zs ∧ zs.length ≤ 9 * i + (j + 1) ∧ bs.Sublist (met (rs.map (·.name)) i (j + 1)) ∧ ∀ b ∈ bs, ∃ r1 ∈ rs, ∃ r2 ∈ rs, b.1 = r1.name ∧ b.2 = r2.name ∧ r1.goal = r2.start, ?_, ?_⟩
          · refine ⟨_, rfl, .inl ⟨_, rfl, _, _, rfl, rfl, (show (0 : Int) < 4 by decide), rfl, _, rfl, ?_⟩⟩
            refine ite2 (fun _ => ?_) (fun _ => ⟨bs, zs, rfl, g3, hba, hz, by omega, by rw [mx]; exact hsub.trans (List.sublist_append_left _ _), hbo⟩)
            refine ⟨_, rfl, .inl ⟨rfl, _, SqL.of hba⟩, _, rfl, t1, _, 0, _, rfl, rfl, hT1, rfl, _, rfl, t2, _, 0, _, rfl, rfl, hT2, rfl, by show 2 ≤ sizeLine; decide, fun q nq => ?_⟩
            have gq := g3.put (o := .tup [.str r1'.name, .str r2.name]) nq
            have g1q := Grew.new g3.tab (o := .tup [.str r1'.name, .str r2.name]) nq
            have hba2 := g1q.lst g3.tab hba
            have ntl : ∀ l, L2.upd H3 q (.tup [.str r1'.name, .str r2.name]) ba ≠ some (.tup l) := fun l e => by rw [hba2] at e; cases e
            refine ⟨ba, _, _, rfl, rfl, hba2, by rw [sizeLine_eq]; omega, bs ++ [(r1'.name, r2.name)], zs ++ [.ref q], rfl, gq.write hba2 (fun _ z => by cases z) nba, upd_same, ?_, ?_, ?_, ?_⟩
            · refine Paired.snoc (Paired.map' hz fun b v m => (m.grew g1q g3.tab).upd ntl) (GBar.upd ntl ⟨q, rfl, upd_same⟩)
            · rw [List.length_append, List.length_singleton]; omega
            · rw [mx]
              exact hsub.append (List.Sublist.refl _)
            · intro b hb
              rcases List.mem_append.mp hb with hb | hb
              · exact hbo b hb
              · rw [List.mem_singleton.mp hb]
                exact ⟨r1', m1, r2, m2, rfl, rfl, heq'⟩
          rintro σ2 H4 ⟨bs, zs, rfl, g4', hba, hz, lz, hsub, hbo⟩
          exact ⟨_, rfl, _, _, rfl, rfl, ⟨by decide, by decide⟩, _, rfl, .inl ⟨_, rfl, _, _, rfl, rfl, (show (0 : Int) < 4 by decide), _, _, rfl, rfl, .inr ⟨by decide, by decide⟩, _, _, rfl, rfl, _, _, bs, zs, rfl, g4', hba, hz, lz, hsub, hbo⟩⟩
        · rintro σ H3 ⟨w16, rst, bs, zs, rfl, g3, hba, hz, lz, hsub, hbo⟩
          refine ⟨_, _, rst, bs, zs, rfl, g3, hba, hz, ?_, ?_, hbo⟩
          · have : xs.length ≤ 9 := by omega
            omega
          · rw [met_row nm1]
            rw [← lxs, ← List.length_map (f := (·.name))] at hsub
            exact hsub
      · rintro σ H2 ⟨v15, v16, rst, bs, zs, rfl, g2, hba, hz, lz, hsub, hbo⟩
        rw [← lxs, ← List.length_map (f := (·.name)), met_all] at hsub
        refine ⟨_, rfl, _, rfl, _, rfl, _, rfl, _, rfl, _, rfl, ba, _, rfl, SqL.of hba, fun c nc => ?_⟩
        rw [show (40 : Int) = ((40 : Nat) : Int) from rfl, cutV_pre zs 40]
        refine ⟨by show 5 ≤ sizeLine; decide, fun L2' nL2 => ?_⟩
        have gc2 := Grew.new g2.tab (o := .lst (zs.take 40)) nc
        have gL2 := gc2.put (o := .lst [.int d, .ref pl, .ref ki, .ref ro, .ref c]) nL2
        have g2L := g2.trans gL2
        have gl1 := Grew.new gc2.tab (o := .lst [.int d, .ref pl, .ref ki, .ref ro, .ref c]) nL2
        refine k _ L2' d ps ks rs (bs.take 40) (g.trans g2L) (g.free (g2.free (gc2.free nL2))) ⟨pl, ki, ro, c, xs, zs.take 40, upd_same, g2L.lst g.tab hpl, g2L.lst g.tab hki, g2L.lst g.tab hro, Paired.map' hrs (fun r v m => m.keep (KeepT.grew g2L g.tab)), gl1.lst gc2.tab upd_same, Paired.map' (Paired.take 40 hz) (fun b v m => m.grew gL2 g2.tab)⟩ ?_ (by omega) (by omega)
        have ndb : bs.Nodup := hsub.nodup (prod_nodup ndn ndn)
        refine ⟨hd1, hd2, by omega, by omega, by omega, aks, aps, dks, dps, ⟨by omega, ?_, ndn, hok⟩, ⟨by rw [List.length_take]; omega, ndb.sublist (List.take_sublist _ _), fun b hb => hbo b (List.mem_of_mem_take hb)⟩⟩
        rw [hnm]
        exact List.all_eq_true.mpr fun z hz => List.all_eq_true.mp anm z (List.mem_of_mem_take hz)
end
end W

set_option Elab.async false
set_option linter.all false
set_option maxRecDepth 100000
set_option maxHeartbeats 400000
namespace W
open PySem PySem.Spec PyProof.Rows L2 GxR MyG MyS
abbrev kMap : List Str := ["day", "kinds", "places", "roads", "bars"]
def gMap {α : Type} (us mv ws : List α) : List α := us ++ (ws ++ mv)
def spLMade (K : PySem.W.Frag) (M P : Addr) : Sp := fun vs H Q _ => ∃ (p : Addr) (d : Int) (ps ks : List Str) (rs : List RoadD) (bs : List (Str × Str)), vs = [.ref p] ∧ PartsAt K H p d ps ks rs bs ∧ PartsOk d ks ps rs bs ∧ TabG H P ∧
  ∀ H' x ks' ps' rs' bs', Grew P H H' → H x = none → ks'.Perm ks → Asc ks' → ps'.Perm ps → Asc ps' → KeptAll rs rs' → AscR rs' → bs'.Perm bs → AscB bs' → MapAt K H' M x d ks' ps' rs' bs' → Q (.ref x) H'
section
variable {Pg : Program} {w : World} {K : PySem.W.Frag} {mg : Str → Option Value} {base : Heap} {C P : Addr}
theorem map_binds {f : Addr} {fd : FuncData} {T1 T2 T : Addr} (F : FunD K "__init__" "Map.__init__" (defArgs sInit) (defBody sInit) (defScope sInit) [] [("places", V.ref T1), ("roads", V.ref T2), ("bars", V.ref T)] f fd) :
    ∃ mv : List Value, KBn K fd pInit 1 kMap (fun us ws => gMap us mv ws) (fun vs zs => gMap vs (([] : List (Str × V)).map (·.2)) zs) := by
  refine FunD.kbinds0 F 1 kMap [] gMap (by simp) (by simp) ?_ ?_
  · intro vs mz zs us mv ws r1 r2 r3
    exact r1.append (Vals.append r3 r2)
  · intro D doc pm an cdv ct us mv ws h1 h2 h3
    match us, mv, ws, h1, h2, h3 with
    | [u], [], [a, b, c, d, e], _, _, _ =>
      first
        | exact ⟨_, _, _, _, _, _, rfl, rfl, rfl⟩
        | exact rfl
        | exact ⟨rfl, rfl⟩
abbrev nLMade : List Str := ["parts", "day", "places", "kinds", "roads", "bars"]
theorem scLMade : FnScope nLMade ["parts"] (defScope sLMade) := ⟨rfl, rfl, rfl, by decide +kernel, rfl, by decide +kernel, by decide +kernel⟩
theorem ok_lmade {f fI M : Addr} {fd fdI : FuncData} {mv : List Value} (F : Fun K "_law_made" "_law_made" sLMade f fd) (TM : TxtM K M) (hls : mg "list" = none) (Mk : L2.Mk K M fI) (gM : mg "Map" = some (.ref M))
    (GI : FnOk Pg w K mg base CX0 5 fI fdI pInit (spInit K M P)) (kb : KBn K fdI pInit 1 kMap (fun us ws => gMap us mv ws) (fun vs zs => gMap vs (([] : List (Str × V)).map (·.2)) zs)) :
    FnOk Pg w K mg base CX0 7 f fd ["parts"] (spLMade K M P) := by
  refine F.ok scLMade (fun vs H Q E h => ?_) (fun cdv A outer s H vs Q E hr h => ?_)
  · obtain ⟨p, d, ps, ks, rs, bs, rfl, _⟩ := h
    rfl
  · obtain ⟨p, d, ps, ks, rs, bs, rfl, ⟨pl, ki, ro, ba, xs, zs, hp, hpl, hki, hro, hrs, hba, hbs⟩, ok, hP, k⟩ := h
    refine ⟨_, pss_cons (ps_asg (pv 0) (pg_lst (by rfl) (pgs_cons (pg_name (i := 1) scLMade.nd rfl (.inl rfl)) (pgs_cons (pg_name (i := 2) scLMade.nd rfl (.inl rfl)) (pgs_cons (pg_name (i := 3) scLMade.nd rfl (.inl rfl)) (pgs_cons (pg_name (i := 4) scLMade.nd rfl (.inl rfl)) (pgs_cons (pg_name (i := 5) scLMade.nd rfl (.inl rfl)) pgs_nil)))))))
      (pss_one (ps_ret (pe_makeK0 Mk GI hr (by rfl) gM kb pass0 (pk_cons (pv 1) (pk_cons (pe_callTy call_list_of (by rfl) hls (by decide +kernel) (pa_cons (pv 3) pa_nil)) (pk_cons (pe_callTy call_list_of (by rfl) hls (by decide +kernel) (pa_cons (pv 2) pa_nil))
        (pk_cons (pe_callTy call_list_of (by rfl) hls (by decide +kernel) (pa_cons (pv 4) pa_nil)) (pk_cons (pe_callTy call_list_of (by rfl) hls (by decide +kernel) (pa_cons (pv 5) pa_nil)) pk_nil)))))))), ?_⟩
    refine ⟨_, rfl, p, _, rfl, SqL.of hp, rfl, _, _, rfl, _, _, rfl, _, _, rfl, _, _, rfl, _, _, rfl, rfl, ?_⟩
    refine ⟨_, rfl, _, rfl, ki, _, rfl, .inl (SqL.of hki), fun k1 n1 => ?_⟩
    have g1 := Grew.new hP (o := .lst (ks.map V.str)) n1
    refine ⟨_, rfl, pl, _, rfl, .inl (SqL.of (g1.lst hP hpl)), fun k2 n2 => ?_⟩
    have g2 := Grew.new g1.tab (o := .lst (ps.map V.str)) n2
    have g12 := g1.trans g2
    refine ⟨_, rfl, ro, _, rfl, .inl (SqL.of (g12.lst hP hro)), fun k3 n3 => ?_⟩
    have g3 := Grew.new g12.tab (o := .lst xs) n3
    have g13 := g12.trans g3
    refine ⟨_, rfl, ba, _, rfl, .inl (SqL.of (g13.lst hP hba)), fun k4 n4 => ?_⟩
    have g4 := Grew.new g13.tab (o := .lst zs) n4
    have g14 := g13.trans g4
    refine ⟨rfl, rfl, fun x dx nx ndx nex => ?_⟩
    have gx : Grew P (L2.upd (L2.upd (L2.upd (L2.upd H k1 (.lst (ks.map V.str))) k2 (.lst (ps.map V.str))) k3 (.lst xs)) k4 (.lst zs)) (L2.upd (L2.upd (L2.upd (L2.upd (L2.upd (L2.upd H k1 (.lst (ks.map V.str))) k2 (.lst (ps.map V.str))) k3 (.lst xs)) k4 (.lst zs)) dx (.own x)) x (.ins M dx [])) := (Grew.new g14.tab ndx).put (by rw [upd_ne nex.symm]; exact nx)
    have e1 := (g2.trans (g3.trans g4)).lst g1.tab (b := k1) (xs := ks.map V.str) upd_same
    have e2 := (g3.trans g4).lst g12.tab (b := k2) (xs := ps.map V.str) upd_same
    have e3 := g4.lst g13.tab (b := k3) (xs := xs) upd_same
    refine ⟨x, dx, k1, k2, k3, k4, d, ks, ps, rs, bs, xs, zs, _, rfl, gx, g14.tab, nx, upd_same, SqL.of e1, SqL.of e2, SqL.of e3, Paired.map' hrs (fun r v m => m.keep (KeepT.grew g14 hP)), SqL.of upd_same, Paired.map' hbs (fun b v m => m.grew g14 hP), ok, fun H' ks' ps' rs' bs' g5 q1 q2 q3 q4 q5 q6 q7 q8 hm => ⟨rfl, ?_⟩⟩
    exact k H' x ks' ps' rs' bs' (g14.trans g5) (g14.free nx) q1 q2 q3 q4 q5 q6 q7 q8 hm
end
end W

set_option Elab.async false
set_option linter.all false
set_option maxRecDepth 100000
set_option maxHeartbeats 400000
namespace W
open PySem PySem.Spec PyProof.Rows L2 GxR MyG MyS
/-! ### Map.check_road, Map.road -/
abbrev sRoadM : Stmt := inClass (top 32) 2
abbrev sCheck : Stmt := inClass (top 32) 3
/-- an UnknownName with this name flies -/
def Unk (U : Addr) (H : Hp) (E : XK) (z : Str) : Prop := ∀ e, H e = none → E (.ref U) (some e) (L2.upd H e (.xd [("name", V.str z)]))
/-- UnknownName.__init__ -/
def spUInit (K : PySem.W.Frag) (U : Addr) : Sp := fun vs H Q _ => ∃ (a : Addr) (z : Str), vs = [.ref a, .str z] ∧ z.length ≤ 1000 ∧ H a = some (exo a U none) ∧ ∀ dx, H dx = none → dx ≠ a → Q .non (L2.upd (L2.upd H dx (exd dx [("name", V.str z)])) a (exo a U (some dx)))
def spCheck (K : PySem.W.Frag) (M U : Addr) : Sp := fun vs H Q E => ∃ (x : Addr) (z : Str) (d : Int) (ks ps : List Str) (rs : List RoadD) (bs : List (Str × Str)), vs = [.ref x, .str z] ∧ z.length ≤ 1000 ∧ MapAt K H M x d ks ps rs bs ∧
  ((∃ r ∈ rs, r.name = z) → Q .non H) ∧ ((∀ r ∈ rs, r.name ≠ z) → Unk U H E z)
def spRoadM (K : PySem.W.Frag) (M U : Addr) : Sp := fun vs H Q E => ∃ (x : Addr) (z : Str) (d : Int) (ks ps : List Str) (rs : List RoadD) (bs : List (Str × Str)), vs = [.ref x, .str z] ∧ z.length ≤ 1000 ∧ MapAt K H M x d ks ps rs bs ∧
  (∀ r ∈ rs, r.name = z → ∀ v, RoadAt K H r v → Q v H) ∧ ((∀ r ∈ rs, r.name ≠ z) → Unk U H E z)
theorem flown {H : Hp} {U a dx : Addr} {fs : List (Str × V)} (na : H a = none) (ndx : (L2.upd H a (exo a U none)) dx = none) : L2.upd (del (L2.upd (L2.upd (L2.upd H a (exo a U none)) dx (exd dx fs)) a (exo a U (some dx))) a) dx (.xd fs) = L2.upd H dx (.xd fs) := by
  funext b
  by_cases h1 : b = dx
  · subst h1; rw [upd_same, upd_same]
  · rw [upd_ne h1, upd_ne h1]
    by_cases h2 : b = a
    · subst h2; rw [del_same, na]
    · rw [del_ne h2, upd_ne h2, upd_ne h1, upd_ne h2]
section
variable {Pg : Program} {w : World} {K : PySem.W.Frag} {mg : Str → Option Value} {base : Heap} {C P : Addr}
theorem scCheck : FnScope ["self", "name"] ["self", "name"] (defScope sCheck) := ⟨rfl, rfl, rfl, by decide +kernel, rfl, by decide +kernel, by decide +kernel⟩
theorem ok_check {f M U fU : Addr} {fd fdU : FuncData} (F : Fun K "check_road" "Map.check_road" sCheck f fd) (TM : TxtM K M) (gU : mg "UnknownName" = some (.ref U)) (TU : OexC K U) (iU : PySem.W.findIn K (.ref U) "__init__" = some (some (.ref fU))) (tU : PySem.W.typeIn K (.ref fU) = some (.type "function"))
    (GU : FnOk Pg w K mg base CX0 1 fU fdU ["self", "name"] (spUInit K U)) (bU : Binds K fdU ["self", "name"] []) :
    FnOk Pg w K mg base (L2.CX Pg w) 3 f fd ["self", "name"] (spCheck K M U) := by
  refine F.okX scCheck (fun vs H Q E h => ?_) (fun cdv A outer s H vs Q E hr h => ?_)
  · obtain ⟨x, z, d, ks, ps, rs, bs, rfl, _⟩ := h
    rfl
  · obtain ⟨x, z, d, ks, ps, rs, bs, rfl, hz, hM, kQ, kE⟩ := h
    refine ⟨_, pss_one (ps_if (pt_cmp (pc_dnotin (u1 hr.units) (pv 1) (pe_fld (pv 0) rfl))) (pss_one (ps_raise rfl (takes_of rfl rfl rfl rfl) (pmk_oex TU iU tU GU (hr.mono (by decide)) bU .nil pass0 (by rfl) gU (pa_cons (pv 1) pa_nil)))) pss_nil), ?_⟩
    obtain ⟨dx, fs, kk, pp, rr, D, bb, D2, ys, zs, hx, F7⟩ := hM
    obtain ⟨kvs, hD, hin, hno⟩ := F7.d
    refine ⟨_, rfl, _, rfl, x, M, dx, fs, _, rfl, hx, TM.cl, TM.n5, F7.f5, D, _, rfl, DGet.k (k := .inr z) hD, _, rfl, ?_⟩
    by_cases ex : ∃ r ∈ rs, r.name = z
    · obtain ⟨r, hr1, hr2⟩ := ex
      obtain ⟨v, hv, _⟩ := hin r hr1
      rw [hr2] at hv
      rw [hv]
      exact iteF (kQ ⟨r, hr1, hr2⟩)
    · have no : ∀ r ∈ rs, r.name ≠ z := fun r hr e => ex ⟨r, hr, e⟩
      rw [hno z no]
      refine iteT ⟨_, rfl, by simp, fun a na => ⟨a, z, rfl, hz, upd_same, fun dx2 nd ne => ⟨rfl, dx2, [("name", .str z)], upd_same, ?_, ?_, ?_⟩⟩⟩
      · rw [upd_ne ne]; exact upd_same
      · rw [upd_ne ne] at nd; exact nd
      · rw [flown na nd]
        rw [upd_ne ne] at nd
        exact kE no dx2 nd
theorem scRoadM : FnScope ["self", "name"] ["self", "name"] (defScope sRoadM) := ⟨rfl, rfl, rfl, by decide +kernel, rfl, by decide +kernel, by decide +kernel⟩
theorem ok_roadM {f M U fC : Addr} {fd fdC : FuncData} (F : Fun K "road" "Map.road" sRoadM f fd) (TM : TxtM K M) (mC : Meth K M "check_road" fC)
    (GC : FnOk Pg w K mg base (L2.CX Pg w) 3 fC fdC ["self", "name"] (spCheck K M U)) (bC : Binds K fdC ["self", "name"] []) :
    FnOk Pg w K mg base (L2.CX Pg w) 4 f fd ["self", "name"] (spRoadM K M U) := by
  refine F.okX scRoadM (fun vs H Q E h => ?_) (fun cdv A outer s H vs Q E hr h => ?_)
  · obtain ⟨x, z, d, ks, ps, rs, bs, rfl, _⟩ := h
    rfl
  · obtain ⟨x, z, d, ks, ps, rs, bs, rfl, hz, hM, kQ, kE⟩ := h
    refine ⟨_, pss_cons (ps_expr (pe_meth (E := E) (pv 0) TM.cl mC GC hr bC .nil (passes_call (takes_of rfl rfl rfl rfl) (fun _ _ _ _ h => h)) (pa_cons (pv 1) pa_nil)))
      (pss_one (ps_ret (pe_dget (u1 hr.units) (pe_fld (pv 0) rfl) (pv 1) (fun _ _ => rfl)))), ?_⟩
    have hM2 := hM
    obtain ⟨dx, fs, kk, pp, rr, D, bb, D2, ys, zs, hx, F7⟩ := hM
    obtain ⟨kvs, hD, hin, hno⟩ := F7.d
    refine ⟨_, rfl, x, dx, fs, rfl, hx, F7.f0 _ (by decide +kernel), _, rfl, x, z, d, ks, ps, rs, bs, rfl, hz, hM2, fun ⟨r, hr1, hr2⟩ => ?_, kE⟩
    obtain ⟨v, hv, m⟩ := hin r hr1
    rw [hr2] at hv
    refine ⟨_, rfl, x, M, dx, fs, _, rfl, hx, TM.cl, TM.n5, F7.f5, _, rfl, D, v, rfl, ?_, kQ r hr1 hr2 v m⟩
    rw [← hv]
    exact DGet.k (k := .inr z) hD
end
end W

set_option Elab.async false
set_option linter.all false
set_option maxRecDepth 100000
set_option maxHeartbeats 400000
namespace W
open PySem PySem.Spec PyProof.Rows L2 GxR MyG MyS
/-! ### when a road may be entered -/
def optV : Option Int → V
  | none => .non
  | some i => .int i
/-- the first pair that closes later -/
def enterF (m : Int) : List (Int × Int) → Option Int
  | [] => none
  | p :: r => if m < p.2 then some (if p.1 > m then p.1 else m) else enterF m r
def enterD (d : Int) (hs : Option (List (Int × Int))) (t : Int) : Option Int := match hs with
  | none => some t
  | some [] => none
  | some (q :: ps) => match enterF (t % d) (q :: ps) with
    | some v => some (t - t % d + v)
    | none => some (t - t % d + d + q.1)
/-- of the pairs from the last on: the first one that opens in time -/
def lastF (m : Int) : List (Int × Int) → Option Int
  | [] => none
  | p :: r => if p.1 ≤ m then some (if p.2 - 1 < m then p.2 - 1 else m) else lastF m r
def lastD (d : Int) (hs : Option (List (Int × Int))) (t : Int) : Option Int := match hs with
  | none => some t
  | some ps => match lastF (t % d) ps.reverse with
    | some v => some (t - t % d + v)
    | none => if ps = [] ∨ t - t % d = 0 then none else some (t - t % d - d + lastP 0 ps - 1)
theorem enterF_step {m : Int} {ps : List (Int × Int)} {i : Nat} {p : Int × Int} (h : ps[i]? = some p) : enterF m (ps.drop i) = if m < p.2 then some (if p.1 > m then p.1 else m) else enterF m (ps.drop (i + 1)) := by
  have hi := (List.getElem?_eq_some_iff.mp h)
  obtain ⟨h1, h2⟩ := hi
  rw [List.drop_eq_getElem_cons h1, h2]
  rfl
theorem lastF_step {m : Int} {ps : List (Int × Int)} {i : Nat} {p : Int × Int} (h : ps[i]? = some p) : lastF m (ps.drop i) = if p.1 ≤ m then some (if p.2 - 1 < m then p.2 - 1 else m) else lastF m (ps.drop (i + 1)) := by
  have hi := (List.getElem?_eq_some_iff.mp h)
  obtain ⟨h1, h2⟩ := hi
  rw [List.drop_eq_getElem_cons h1, h2]
  rfl
def pairD (p : Int × Int) : PyData := .tuple [.int p.1, .int p.2]
theorem dp_pairs {K : PySem.W.Frag} {H : Hp} : ∀ {ps : List (Int × Int)} {xs : List V}, Paired (GPair K H) ps xs → DpAll K H xs (ps.map pairD)
  | _, _, .nil => .nil
  | _, _, .cons (a := p) ⟨t, e, q⟩ r => by
    subst e
    exact .cons (.tup q (.cons (.int p.1) (.cons (.int p.2) .nil))) (dp_pairs r)
theorem canLay_pairs : ∀ ps : List (Int × Int), PyData.canLayAll0 (ps.map pairD) = true
  | [] => rfl
  | p :: ps => by
    simp [PyData.canLayAll0, PyData.canLay0, pairD, canLay_pairs ps]
theorem depth_pairs : ∀ ps : List (Int × Int), PyData.depthAll (ps.map pairD) ≤ 2
  | [] => by simp [PyData.depthAll]
  | p :: ps => by
    have i := depth_pairs ps
    simp only [List.map_cons, PyData.depthAll, PyData.depth, pairD]
    simp [PyData.depthAll, PyData.depth]
    omega
theorem shaped_pairs (ps : List (Int × Int)) : SeqAt.shaped (PyData.tuple (ps.map pairD)) = true := by
  have c := canLay_pairs ps
  have d := depth_pairs ps
  unfold SeqAt.shaped
  rw [Bool.and_eq_true]
  refine ⟨by simpa [PyData.canLay0] using c, decide_eq_true ?_⟩
  simp only [PyData.depth]
  omega
theorem eqv_pairs (ps : List (Int × Int)) : PyData.eqv (PyData.tuple (ps.map pairD)) (PyData.tuple []) = ps.isEmpty := by
  cases ps with
  | nil => rfl
  | cons p ps => rfl
def enterR (d : Int) (r : RoadD) (t : Int) : Option Int := enterD d r.hours t
def lastR (d : Int) (r : RoadD) (t : Int) : Option Int := lastD d r.hours t
abbrev sEnter : Stmt := top 35
abbrev sArrive : Stmt := top 36
theorem uniq_name : ∀ {rs : List RoadD} {r r' : RoadD}, (rs.map (·.name)).Nodup → r ∈ rs → r' ∈ rs → r.name = r'.name → r = r'
  | a :: rs, r, r', nd, h, h', e => by
    have q := List.nodup_cons.mp nd
    rcases List.mem_cons.mp h with h | h <;> rcases List.mem_cons.mp h' with h' | h'
    · rw [h, h']
    · exact absurd (List.mem_map.mpr ⟨r', h', by rw [← e, h]⟩) q.1
    · exact absurd (List.mem_map.mpr ⟨r, h, by rw [e, h']⟩) q.1
    · exact uniq_name q.2 h h' e
theorem MapAt.grew {K : PySem.W.Frag} {H H' : Hp} {M x P : Addr} {d : Int} {ks ps : List Str} {rs : List RoadD} {bs : List (Str × Str)} (g : Grew P H H') (h : TabG H P) (m : MapAt K H M x d ks ps rs bs) : MapAt K H' M x d ks ps rs bs := by
  obtain ⟨dx, fs, kk, pp, rr, D, bb, D2, ys, zs, hx, F⟩ := m
  obtain ⟨kvs, hd, hin⟩ := F.db
  exact ⟨dx, fs, kk, pp, rr, D, bb, D2, ys, zs, g.get h hx (fun _ z => by cases z), ⟨F.f0, F.f1, F.f2, F.f3, F.f4, F.f5, F.f6, F.f7, g.tup h F.k, g.tup h F.p, g.tup h F.r, Paired.map' F.ry (fun _ _ m => m.grew g h), F.d.grew g h, g.tup h F.b, Paired.map' F.bz (fun _ _ m => m.grew g h), ⟨kvs, g.get h hd (fun _ z => by cases z), hin⟩⟩⟩
/-- a question about the road z at the moment t: answered by f -/
def spTravel (K : PySem.W.Frag) (M U P : Addr) (f : Int → RoadD → Int → Option Int) : Sp := fun vs H Q E => ∃ (x : Addr) (z : Str) (t d : Int) (ks ps : List Str) (rs : List RoadD) (bs : List (Str × Str)), vs = [.ref x, .str z, .int t] ∧ z.length ≤ 1000 ∧ 0 ≤ t ∧ 1 ≤ d ∧ MapAt K H M x d ks ps rs bs ∧ TabG H P ∧
  (∀ r ∈ rs, r.name = z → ∀ H', Grew P H H' → Q (optV (f d r t)) H') ∧ ((∀ r ∈ rs, r.name ≠ z) → Unk U H E z) ∧ (rs.map (·.name)).Nodup
/-- for x in reversed(t), t a tuple -/
theorem for_revT {K : PySem.W.Frag} {a : Addr} {xs : List V} {g : TG} {tb : TS} {D : Ends} {σ : L2.St} {H : Hp} (Pv : Nat → L2.St → Hp → Prop) (h0 : Pv 0 σ H) (hl : ∀ i σ H, i ≤ xs.length → Pv i σ H → SqT K H a xs)
    (hs : ∀ i x σ H, xs.reverse[i]? = some x → Pv i σ H → g x σ H fun σ2 H2 => tb { D with nx := Pv (i + 1), ct := Pv (i + 1), bk := D.nx } σ2 H2) (hd : ∀ σ H, Pv xs.length σ H → D.nx σ H) :
    ∃ W : Nat → Nat → L2.St → Hp → Prop, (∃ m, W 0 m σ H) ∧ ∀ i m σ H, W i m σ H →
      ((RT.ItvT K a xs.length).stop i H ∧ D.nx σ H) ∨ ((RT.ItvT K a xs.length).go i H ∧ ∃ N : L2.St → Hp → Prop, (∀ σ' H', N σ' H' → ∃ m', m' < m ∧ W (i + 1) m' σ' H') ∧ ∀ x H', (RT.ItvT K a xs.length).yld i H x H' → g x σ H' fun σ2 H2 => tb { D with nx := N, ct := N, bk := D.nx } σ2 H2) := by
  refine ⟨fun i m σ H => m = xs.length - i ∧ i ≤ xs.length ∧ Pv i σ H, ⟨xs.length, by simp, Nat.zero_le _, h0⟩, ?_⟩
  rintro i m σ H ⟨rfl, hi, p⟩
  have q := hl i σ H hi p
  rcases Nat.lt_or_ge i xs.length with lt | ge
  · have hx : xs[xs.length - 1 - i]? = some (xs[xs.length - 1 - i]'(by omega)) := List.getElem?_eq_getElem _
    refine .inr ⟨⟨lt, xs, _, q, hx⟩, Pv (i + 1), fun σ' H' p' => ⟨xs.length - (i + 1), by omega, rfl, lt, p'⟩, fun x H' y => ?_⟩
    obtain ⟨rfl, y⟩ := y
    exact hs i x σ _ (by rw [List.getElem?_reverse lt]; exact y xs q) p
  · obtain rfl : i = xs.length := by omega
    exact .inl ⟨Nat.le_refl _, hd σ H p⟩
theorem Paired.last {α β : Type} {F : α → β → Prop} : ∀ {l : List α} {m : List β}, Paired F l m → l ≠ [] → ∃ l0 p m0 v, l = l0 ++ [p] ∧ m = m0 ++ [v] ∧ F p v
  | _, _, .nil, h => absurd rfl h
  | _, _, .cons r .nil, _ => ⟨[], _, [], _, rfl, rfl, r⟩
  | a :: _, b :: _, .cons r (.cons r' t), _ => by
    obtain ⟨l0, p, m0, v, e1, e2, f⟩ := Paired.last (.cons r' t) (by simp)
    exact ⟨a :: l0, p, b :: m0, v, by rw [e1]; rfl, by rw [e2]; rfl, f⟩
theorem Paired.rev {α β : Type} {F : α → β → Prop} : ∀ {l : List α} {m : List β}, Paired F l m → Paired F l.reverse m.reverse
  | _, _, .nil => .nil
  | _, _, .cons r t => by
    rw [List.reverse_cons, List.reverse_cons]
    exact Paired.snoc (Paired.rev t) r
section
variable {Pg : Program} {w : World} {K : PySem.W.Frag} {mg : Str → Option Value} {base : Heap} {C P : Addr}
abbrev nEnter : List Str := ["chart", "name", "moment", "hours", "minute", "midnight", "opens", "closes"]
theorem scEnter : FnScope nEnter ["chart", "name", "moment"] (defScope sEnter) := ⟨rfl, rfl, rfl, by decide +kernel, rfl, by decide +kernel, by decide +kernel⟩
theorem ok_enter {f M U fR : Addr} {fd fdR : FuncData} {t1 : Tok} (F : Fun K "enter" "enter" sEnter f fd) (TM : TxtM K M) (mR : Meth K M "road" fR) (hh : mg "HOURS" = some (.int 5 t1)) (hm : mg "max" = none)
    (GR : FnOk Pg w K mg base (L2.CX Pg w) 4 fR fdR ["self", "name"] (spRoadM K M U)) (bR : Binds K fdR ["self", "name"] []) :
    FnOk Pg w K mg base (L2.CX Pg w) 5 f fd ["chart", "name", "moment"] (spTravel K M U P enterR) := by
  refine F.okX scEnter (fun vs H Q E h => ?_) (fun cdv A outer s H vs Q E hr h => ?_)
  · obtain ⟨x, z, t, d, ks, ps, rs, bs, rfl, _⟩ := h
    rfl
  · obtain ⟨x, z, t, d, ks, ps, rs, bs, rfl, hz, ht, hd, hM, hP, kQ, kE, nd⟩ := h
    refine ⟨_, pss_cons (ps_set (i := 3) scEnter.nd rfl (Or.inl rfl) (pe_ix ix_tup (pe_meth (E := E) (pv 0) TM.cl mR GR hr bR .nil (passes_call (takes_of rfl rfl rfl rfl) (fun _ _ _ _ h => h)) (pa_cons (pv 1) pa_nil)) (pe_gI hh) (fun _ _ => rfl)))
      (pss_cons (ps_if (pt_cmp (pc_isN (pv 3))) (pss_one (ps_ret (pv 2))) pss_nil)
      (pss_cons (ps_if (pt_cmpR (op_eqD hr.units) (pv 3) (pe_tup pa_nil) (nomark _)) (pss_one (ps_ret pe_non)) pss_nil)
      (pss_cons (ps_set (i := 4) scEnter.nd rfl (Or.inl rfl) (pe_op op_mod (pv 2) (pe_fld (pv 0) rfl)))
      (pss_cons (ps_set (i := 5) scEnter.nd rfl (Or.inl rfl) (pe_op op_sub (pv 2) (pv 4)))
      (pss_cons (ps_for (passes_of rfl) rfl (pi_tup (pv 3)) (pg_tup (by rfl) (pgs_cons (pg_name (i := 6) scEnter.nd rfl (.inl rfl)) (pgs_cons (pg_name (i := 7) scEnter.nd rfl (.inl rfl)) pgs_nil)))
        (pss_one (ps_if (pt_cmpR op_lt (pv 4) (pv 7) (nomark _)) (pss_one (ps_ret (pe_op op_add (pv 5) (pe_callB (call_max2 rfl) (by rfl) hm (by decide +kernel) (pa_cons (pv 4) (pa_cons (pv 6) pa_nil)))))) pss_nil)))
      (pss_one (ps_ret (pe_op op_add (pe_op op_add (pv 5) (pe_fld (pv 0) rfl)) (pe_ix ix_tup (pe_ix ix_tup (pv 3) pe_int (fun _ _ => rfl)) pe_int (fun _ _ => rfl)))))))))), ?_⟩
    have hM2 := hM
    obtain ⟨dx, fs, kk, pp, rr, D, bb, D2, ys, zs, hx, F7⟩ := hM
    refine ⟨_, rfl, x, dx, fs, rfl, hx, F7.f0 _ (by decide +kernel), _, rfl, x, z, d, ks, ps, rs, bs, rfl, hz, hM2, fun r hr1 hr2 v hv => ?_, kE⟩
    obtain ⟨p, q, hv, rfl, ep, eq, hh⟩ := hv
    obtain ⟨nm, st, go, mi, us, hs⟩ := r
    refine ⟨p, _, 5, hv, rfl, rfl, SqT.of ep, rfl, ?_⟩
    refine ⟨_, rfl, _, rfl, ?_⟩
    cases hs with
    | none =>
      obtain rfl : hv = .non := hh
      exact iteT ⟨_, rfl, kQ _ hr1 hr2 H (Grew.refl hP)⟩
    | some prs =>
      obtain ⟨l, xs, rfl, hS, hG⟩ := hh
      refine iteF ⟨_, rfl, Nat.zero_le _, fun e0 ne0 => ?_⟩
      have g1 := Grew.new hP (o := .tup []) ne0
      have hS1 := g1.sqT hP hS
      have hG1 : Paired (GPair K (L2.upd H e0 (.tup []))) prs xs := Paired.map' hG fun _ _ m => m.keep (KeepT.grew g1 hP)
      have hx1 := g1.get hP hx (fun _ z => by cases z)
      refine ⟨_, _, .tup hS1 (dp_pairs hG1), .tup (SqT.of upd_same) .nil, shaped_pairs prs, shaped_pairs [], _, rfl, ?_⟩
      rw [eqv_pairs]
      cases prs with
      | nil => exact iteT (kQ _ hr1 hr2 _ g1)
      | cons pr prs =>
        refine iteF ?_
        refine ⟨_, rfl, _, rfl, x, M, dx, fs, _, rfl, hx1, TM.cl, TM.n1, F7.f1, _, _, rfl, rfl, (show (0 : Int) < d by omega), ?_⟩
        refine ⟨_, rfl, _, rfl, _, _, rfl, rfl, ?_⟩
        refine ⟨_, rfl, l, rfl, ⟨_, hS1⟩, for_tup (K := K) (a := l) (xs := xs) (fun i σ H' => H' = L2.upd H e0 (.tup []) ∧ ∃ v6 v7, σ = [some (.ref x), some (.str z), some (.int t), some (.ref l), some (.int (t % d)), some (.int (t - t % d)), v6, v7] ∧ enterF (t % d) (pr :: prs) = enterF (t % d) ((pr :: prs).drop i))
          ⟨rfl, none, none, rfl, rfl⟩ (fun i σ H' _ ⟨e, _⟩ => by rw [e]; exact hS1) ?_ ?_⟩
        · rintro i y σ H' hi ⟨rfl, v6, v7, rfl, he⟩
          obtain ⟨pi, hpi, t2, rfl, hT⟩ := Paired.at hG1 hi
          rw [enterF_step hpi] at he
          refine ⟨t2, _, rfl, hT, rfl, _, _, rfl, _, _, rfl, rfl, ?_⟩
          refine ⟨_, rfl, _, rfl, _, _, rfl, rfl, _, rfl, ?_⟩
          refine ite2 (fun hlt => ?_) (fun hge => ?_)
          · rw [if_pos (of_decide_eq_true hlt)] at he
            refine ⟨_, rfl, _, rfl, _, rfl, _, _, rfl, _, _, rfl, rfl, ?_⟩
            have q := kQ _ hr1 hr2 _ g1
            unfold enterR enterD at q
            simp only [he] at q
            exact q
          · rw [if_neg (fun h => hge (decide_eq_true h))] at he
            exact ⟨rfl, _, _, rfl, he⟩
        · rintro σ H' ⟨rfl, v6, v7, rfl, he⟩
          rw [← Paired.len hG1, List.drop_length] at he
          cases hG1 with
          | cons r0 rs0 =>
            obtain ⟨t0, rfl, hT0⟩ := r0
            refine ⟨_, rfl, _, rfl, x, M, dx, fs, _, rfl, hx1, TM.cl, TM.n1, F7.f1, _, _, rfl, rfl, _, rfl, l, _, 0, _, rfl, rfl, hS1, atI_nat (j := 0) rfl, t0, _, 0, _, rfl, rfl, hT0, rfl, _, _, rfl, rfl, ?_⟩
            have q := kQ _ hr1 hr2 _ g1
            have he' : enterF (t % d) (pr :: prs) = none := he
            unfold enterR enterD at q
            simp only [he'] at q
            exact q
def arriveD (d : Int) (r : RoadD) (t : Int) : Option Int := (enterR d r t).map (· + r.minutes)
abbrev nArrive : List Str := ["chart", "name", "moment", "entered"]
theorem scArrive : FnScope nArrive ["chart", "name", "moment"] (defScope sArrive) := ⟨rfl, rfl, rfl, by decide +kernel, rfl, by decide +kernel, by decide +kernel⟩
theorem ok_arrive {f M U fR fE : Addr} {fd fdR fdE : FuncData} {t1 : Tok} (F : Fun K "arrive" "arrive" sArrive f fd) (TM : TxtM K M) (mR : Meth K M "road" fR) (hh : mg "MINUTES" = some (.int 3 t1))
    (GR : FnOk Pg w K mg base (L2.CX Pg w) 4 fR fdR ["self", "name"] (spRoadM K M U)) (bR : Binds K fdR ["self", "name"] [])
    (GE : FnOk Pg w K mg base (L2.CX Pg w) 5 fE fdE ["chart", "name", "moment"] (spTravel K M U P enterR)) (gE : mg "enter" = some (.ref fE)) (kE : PySem.W.keepIn K (.ref fE) = true) (bE : Binds K fdE ["chart", "name", "moment"] []) :
    FnOk Pg w K mg base (L2.CX Pg w) 6 f fd ["chart", "name", "moment"] (spTravel K M U P arriveD) := by
  refine F.okX scArrive (fun vs H Q E h => ?_) (fun cdv A outer s H vs Q E hr h => ?_)
  · obtain ⟨x, z, t, d, ks, ps, rs, bs, rfl, _⟩ := h
    rfl
  · obtain ⟨x, z, t, d, ks, ps, rs, bs, rfl, hz, ht, hd, hM, hP, kQ, kU, nd⟩ := h
    refine ⟨_, pss_cons (ps_set (i := 3) scArrive.nd rfl (Or.inl rfl) (pe_call (E := E) GE hr (by rfl) gE kE bE .nil (passes_call (takes_of rfl rfl rfl rfl) (fun _ _ _ _ h => h)) (pa_cons (pv 0) (pa_cons (pv 1) (pa_cons (pv 2) pa_nil)))))
      (pss_cons (ps_if (pt_cmp (pc_isN (pv 3))) (pss_one (ps_ret pe_non)) pss_nil)
      (pss_one (ps_ret (pe_op op_add (pv 3) (pe_ix ix_tup (pe_meth (E := E) (pv 0) TM.cl mR GR (hr.mono (by decide)) bR .nil (passes_call (takes_of rfl rfl rfl rfl) (fun _ _ _ _ h => h)) (pa_cons (pv 1) pa_nil)) (pe_gI hh) (fun _ _ => rfl)))))), ?_⟩
    refine ⟨_, rfl, _, rfl, _, rfl, x, z, t, d, ks, ps, rs, bs, rfl, hz, ht, hd, hM, hP, fun r hr1 hr2 H' g => ?_, kU, nd⟩
    have q := kQ r hr1 hr2 H' g
    unfold arriveD at q
    generalize enterR d r t = o at q ⊢
    refine ⟨_, rfl, _, rfl, ?_⟩
    cases o with
    | none => exact iteT q
    | some v =>
      refine iteF ?_
      have hM' := hM.grew g hP
      have hM2 := hM'
      obtain ⟨dx, fs, kk, pp, rr, D, bb, D2, ys, zs, hx, F7⟩ := hM'
      refine ⟨_, rfl, _, rfl, x, dx, fs, rfl, hx, F7.f0 _ (by decide +kernel), _, rfl, x, z, d, ks, ps, rs, bs, rfl, hz, hM2, fun r' hr1' hr2' v' hv => ?_, fun no => absurd hr2 (no r hr1)⟩
      obtain rfl : r' = r := uniq_name nd hr1' hr1 (hr2'.trans hr2.symm)
      obtain ⟨p, q', hv', rfl, ep, _, _⟩ := hv
      exact ⟨p, _, 3, .int r'.minutes, rfl, rfl, SqT.of ep, rfl, _, _, rfl, rfl, q⟩
end
end W

set_option Elab.async false
set_option linter.all false
set_option maxRecDepth 100000
set_option maxHeartbeats 400000
namespace W
/-! ### the first, the last moment at which the road is open -/
def openB (ps : List (Int × Int)) (m : Int) : Bool := ps.any fun p => decide (p.1 ≤ m) && decide (m < p.2)
theorem openB_cons (p : Int × Int) (ps : List (Int × Int)) (m : Int) : openB (p :: ps) m = ((decide (p.1 ≤ m) && decide (m < p.2)) || openB ps m) := rfl
theorem shut_one {p : Int × Int} {m : Int} (h : m < p.1 ∨ p.2 ≤ m) : (decide (p.1 ≤ m) && decide (m < p.2)) = false := by
  rw [Bool.and_eq_false_iff, decide_eq_false_iff_not, decide_eq_false_iff_not]
  omega
theorem open_one {p : Int × Int} {m : Int} (h1 : p.1 ≤ m) (h2 : m < p.2) : (decide (p.1 ≤ m) && decide (m < p.2)) = true := by
  rw [decide_eq_true h1, decide_eq_true h2]; rfl
/-- ahead of the pairs nothing is open -/
theorem open_lo {d : Int} : ∀ {ps : List (Int × Int)} {c j : Int}, hoursOk d c ps → j ≤ c → openB ps j = false
  | [], _, _, _, _ => rfl
  | p :: r, c, j, h, hj => by
    obtain ⟨h1, h2, h3, h4⟩ := h
    rw [openB_cons, shut_one (.inl (by omega)), open_lo h4 (by omega)]
    rfl
theorem open_in {d : Int} : ∀ {ps : List (Int × Int)} {c j : Int}, hoursOk d c ps → openB ps j = true → c < j ∧ j < d
  | [], _, _, _, h => by cases h
  | p :: r, c, j, h, ho => by
    obtain ⟨h1, h2, h3, h4⟩ := h
    rw [openB_cons, Bool.or_eq_true, Bool.and_eq_true, decide_eq_true_eq, decide_eq_true_eq] at ho
    rcases ho with ⟨a, b⟩ | ho
    · omega
    · have q := open_in h4 ho
      omega
theorem enterF_some {d m : Int} : ∀ {ps : List (Int × Int)} {c w : Int}, hoursOk d c ps → enterF m ps = some w → m ≤ w ∧ openB ps w = true ∧ ∀ j, m ≤ j → j < w → openB ps j = false
  | [], _, _, _, h => by cases h
  | p :: r, c, w, h, e => by
    obtain ⟨h1, h2, h3, h4⟩ := h
    unfold enterF at e
    by_cases c1 : m < p.2
    · rw [if_pos c1] at e
      by_cases c2 : p.1 > m
      · rw [if_pos c2] at e
        obtain rfl := Option.some.inj e
        refine ⟨by omega, ?_, fun j hj1 hj2 => ?_⟩
        · rw [openB_cons, open_one (Int.le_refl _) h2]; rfl
        · rw [openB_cons, shut_one (.inl hj2), open_lo h4 (by omega)]; rfl
      · rw [if_neg c2] at e
        obtain rfl := Option.some.inj e
        refine ⟨Int.le_refl _, ?_, fun j hj1 hj2 => by omega⟩
        rw [openB_cons, open_one (by omega) c1]; rfl
    · rw [if_neg c1] at e
      obtain ⟨q1, q2, q3⟩ := enterF_some h4 e
      refine ⟨q1, ?_, fun j hj1 hj2 => ?_⟩
      · rw [openB_cons, q2, Bool.or_true]
      · rw [openB_cons, shut_one (.inr (by omega)), q3 j hj1 hj2]; rfl
theorem enterF_none {d m : Int} : ∀ {ps : List (Int × Int)} {c : Int}, hoursOk d c ps → enterF m ps = none → ∀ j, m ≤ j → openB ps j = false
  | [], _, _, _, _, _ => rfl
  | p :: r, c, h, e, j, hj => by
    obtain ⟨h1, h2, h3, h4⟩ := h
    unfold enterF at e
    by_cases c1 : m < p.2
    · rw [if_pos c1] at e; cases e
    · rw [if_neg c1] at e
      rw [openB_cons, shut_one (.inr (by omega)), enterF_none h4 e j hj]; rfl
theorem lastF_snoc (m : Int) (q : Int × Int) : ∀ l : List (Int × Int), lastF m (l ++ [q]) = match lastF m l with | some w => some w | none => if q.1 ≤ m then some (if q.2 - 1 < m then q.2 - 1 else m) else none
  | [] => rfl
  | p :: l => by
    rw [List.cons_append]
    unfold lastF
    by_cases c1 : p.1 ≤ m
    · rw [if_pos c1, if_pos c1]
    · rw [if_neg c1, if_neg c1]
      exact lastF_snoc m q l
theorem lastF_spec {d m : Int} : ∀ {ps : List (Int × Int)} {c : Int}, hoursOk d c ps → match lastF m ps.reverse with
    | some w => w ≤ m ∧ openB ps w = true ∧ ∀ j, w < j → j ≤ m → openB ps j = false
    | none => ∀ j, j ≤ m → openB ps j = false
  | [], _, _ => fun _ _ => rfl
  | q :: r, c, h => by
    obtain ⟨h1, h2, h3, h4⟩ := h
    have ih := lastF_spec (m := m) h4
    rw [List.reverse_cons, lastF_snoc]
    cases e : lastF m r.reverse with
    | some w =>
      rw [e] at ih
      obtain ⟨i1, i2, i3⟩ := ih
      have q1 := (open_in h4 i2).1
      refine ⟨i1, by rw [openB_cons, i2, Bool.or_true], fun j hj1 hj2 => ?_⟩
      rw [openB_cons, shut_one (.inr (by omega)), i3 j hj1 hj2]; rfl
    | none =>
      rw [e] at ih
      have ih : ∀ j, j ≤ m → openB r j = false := ih
      show match (if q.1 ≤ m then some (if q.2 - 1 < m then q.2 - 1 else m) else none) with
        | some w => w ≤ m ∧ openB (q :: r) w = true ∧ ∀ j, w < j → j ≤ m → openB (q :: r) j = false
        | none => ∀ j, j ≤ m → openB (q :: r) j = false
      by_cases c1 : q.1 ≤ m
      · rw [if_pos c1]
        by_cases c2 : q.2 - 1 < m
        · rw [if_pos c2]
          refine ⟨by omega, by rw [openB_cons, open_one (by omega) (by omega)]; rfl, fun j hj1 hj2 => ?_⟩
          rw [openB_cons, shut_one (.inr (by omega)), ih j hj2]; rfl
        · rw [if_neg c2]
          refine ⟨Int.le_refl _, by rw [openB_cons, open_one c1 (by omega)]; rfl, fun j hj1 hj2 => by omega⟩
      · rw [if_neg c1]
        intro j hj
        rw [openB_cons, shut_one (.inl (by omega)), ih j hj]; rfl
theorem open_hi {d : Int} : ∀ {ps : List (Int × Int)} {c j : Int}, hoursOk d c ps → ps ≠ [] → lastP 0 ps ≤ j → openB ps j = false
  | [], _, _, _, h, _ => absurd rfl h
  | [p], c, j, h, _, hj => by
    have e : lastP 0 [p] = p.2 := rfl
    rw [e] at hj
    rw [openB_cons, shut_one (.inr hj)]; rfl
  | p :: q :: r, c, j, h, _, hj => by
    have e : lastP 0 (p :: q :: r) = lastP 0 (q :: r) := by
      unfold lastP
      rw [List.getLast?_cons_cons]
    rw [e] at hj
    have o := open_hi (ps := q :: r) h.2.2.2 (by simp) hj
    have l1 : q.1 < lastP 0 (q :: r) ∧ p.2 < lastP 0 (q :: r) := by
      have key : ∀ (l : List (Int × Int)) (a : Int × Int) (c : Int), hoursOk d c (a :: l) → a.1 < lastP 0 (a :: l) ∧ c < lastP 0 (a :: l) := by
        intro l
        induction l with
        | nil => intro a c h; exact ⟨h.2.1, by have e : lastP 0 [a] = a.2 := rfl; rw [e]; have := h.1; have := h.2.1; omega⟩
        | cons b l ih =>
          intro a c h
          have e : lastP 0 (a :: b :: l) = lastP 0 (b :: l) := by unfold lastP; rw [List.getLast?_cons_cons]
          rw [e]
          have q := ih b a.2 h.2.2.2
          have := h.1; have := h.2.1
          exact ⟨by omega, by omega⟩
      exact ⟨(key r q p.2 h.2.2.2).1, (key r q p.2 h.2.2.2).2⟩
    rw [openB_cons, shut_one (.inr (by omega)), o]; rfl
theorem open_last {d : Int} {ps : List (Int × Int)} {c : Int} (h : hoursOk d c ps) (hne : ps ≠ []) (hc : -1 ≤ c) : openB ps (lastP 0 ps - 1) = true ∧ 1 ≤ lastP 0 ps ∧ lastP 0 ps ≤ d := by
  induction ps generalizing c with
  | nil => exact absurd rfl hne
  | cons p r ih =>
    obtain ⟨h1, h2, h3, h4⟩ := h
    cases r with
    | nil =>
      have e : lastP 0 [p] = p.2 := rfl
      rw [e]
      exact ⟨by rw [openB_cons, open_one (by omega) (by omega)]; rfl, by omega, by omega⟩
    | cons q r =>
      have e : lastP 0 (p :: q :: r) = lastP 0 (q :: r) := by unfold lastP; rw [List.getLast?_cons_cons]
      rw [e]
      obtain ⟨a, b, c⟩ := ih h4 (by simp) (by omega)
      exact ⟨by rw [openB_cons, a, Bool.or_true], b, c⟩
/-- what the search forward finds -/
def FirstOpen (d : Int) (ps : List (Int × Int)) (t : Int) : Option Int → Prop
  | some v => ∃ k : Int, 0 ≤ k ∧ k < 2 * d ∧ v = t + k ∧ openB ps ((t + k) % d) = true ∧ ∀ j, 0 ≤ j → j < k → openB ps ((t + j) % d) = false
  | none => ∀ k, 0 ≤ k → k < 2 * d → openB ps ((t + k) % d) = false
/-- what the search backward finds -/
def LastOpen (d : Int) (ps : List (Int × Int)) (t : Int) : Option Int → Prop
  | some v => ∃ k : Int, 0 ≤ k ∧ k < 2 * d ∧ v = t - k ∧ 0 ≤ v ∧ openB ps ((t - k) % d) = true ∧ ∀ j, 0 ≤ j → j < k → openB ps ((t - j) % d) = false
  | none => ∀ k, 0 ≤ k → k < 2 * d → 0 ≤ t - k → openB ps ((t - k) % d) = false
theorem mod_base {t d j : Int} (hd : 1 ≤ d) (h0 : 0 ≤ j) (h1 : j < d) : (t - t % d + j) % d = j := by
  have e : t - t % d = d * (t / d) := by have := Int.mul_ediv_add_emod t d; omega
  rw [e, Int.add_comm, Int.add_mul_emod_self_left]
  exact Int.emod_eq_of_lt h0 h1
theorem mod_baseU {t d j : Int} (hd : 1 ≤ d) (h0 : d ≤ j) (h1 : j < 2 * d) : (t - t % d + j) % d = j - d := by
  have q := mod_base (t := t) hd (j := j - d) (by omega) (by omega)
  have e : t - t % d + j = (t - t % d + (j - d)) + d := by omega
  rw [e, Int.add_emod_right]
  exact q
theorem mod_baseD {t d j : Int} (hd : 1 ≤ d) (h0 : -d ≤ j) (h1 : j < 0) : (t - t % d + j) % d = j + d := by
  have q := mod_base (t := t) hd (j := j + d) (by omega) (by omega)
  have e : (t - t % d + (j + d)) = t - t % d + j + d := by omega
  rw [e, Int.add_emod_right] at q
  exact q
theorem enterD_first {d t : Int} {ps : List (Int × Int)} (hd : 1 ≤ d) (h : hoursOk d (-1) ps) : FirstOpen d ps t (enterD d (some ps) t) := by
  have m0 := Int.emod_nonneg t (show d ≠ 0 by omega)
  have m1 := Int.emod_lt_of_pos t (show 0 < d by omega)
  cases ps with
  | nil => exact fun k _ _ => rfl
  | cons q ps =>
    cases e : enterF (t % d) (q :: ps) with
    | some w =>
      have ev : enterD d (some (q :: ps)) t = some (t - t % d + w) := by unfold enterD; simp only [e]
      rw [ev]
      obtain ⟨a, b, c⟩ := enterF_some h e
      have wd := (open_in h b).2
      refine ⟨w - t % d, by omega, by omega, by omega, ?_, fun j hj0 hj1 => ?_⟩
      · have e1 : t + (w - t % d) = t - t % d + w := by omega
        rw [e1, mod_base hd (by omega) wd]; exact b
      · have e1 : t + j = t - t % d + (t % d + j) := by omega
        rw [e1, mod_base hd (by omega) (by omega)]
        exact c _ (by omega) (by omega)
    | none =>
      have ev : enterD d (some (q :: ps)) t = some (t - t % d + d + q.1) := by unfold enterD; simp only [e]
      rw [ev]
      have n := enterF_none h e
      obtain ⟨h1, h2, h3, h4⟩ := id h
      refine ⟨d + q.1 - t % d, by omega, by omega, by omega, ?_, fun j hj0 hj1 => ?_⟩
      · have e1 : t + (d + q.1 - t % d) = t - t % d + (d + q.1) := by omega
        rw [e1, mod_baseU hd (by omega) (by omega)]
        have e2 : d + q.1 - d = q.1 := by omega
        rw [e2, openB_cons, open_one (Int.le_refl _) h2]; rfl
      · have e1 : t + j = t - t % d + (t % d + j) := by omega
        rw [e1]
        by_cases c : t % d + j < d
        · rw [mod_base hd (by omega) c]
          exact n _ (by omega)
        · rw [mod_baseU hd (by omega) (by omega), openB_cons, shut_one (.inl (by omega)), open_lo h4 (by omega)]; rfl
theorem first_uniq {d t : Int} {ps : List (Int × Int)} {a b : Option Int} (ha : FirstOpen d ps t a) (hb : FirstOpen d ps t b) : a = b := by
  cases a with
  | none =>
    cases b with
    | none => rfl
    | some v =>
      obtain ⟨k, k0, k1, e, o, _⟩ := hb
      rw [ha k k0 k1] at o; cases o
  | some u =>
    obtain ⟨k, k0, k1, e, o, l⟩ := ha
    cases b with
    | none => rw [hb k k0 k1] at o; cases o
    | some v =>
      obtain ⟨k', k0', k1', e', o', l'⟩ := hb
      rcases Int.lt_trichotomy k k' with c | c | c
      · rw [l' k k0 c] at o; cases o
      · rw [e, e', c]
      · rw [l k' k0' c] at o'; cases o'
theorem lastD_last {d t : Int} {ps : List (Int × Int)} (hd : 1 ≤ d) (ht : 0 ≤ t) (h : hoursOk d (-1) ps) : LastOpen d ps t (lastD d (some ps) t) := by
  have m0 := Int.emod_nonneg t (show d ≠ 0 by omega)
  have m1 := Int.emod_lt_of_pos t (show 0 < d by omega)
  have mt : t % d ≤ t := (by have := Int.mul_ediv_add_emod t d; have := Int.mul_nonneg (show 0 ≤ d by omega) (Int.ediv_nonneg ht (show 0 ≤ d by omega)); omega)
  have sp := lastF_spec (m := t % d) h
  cases e : lastF (t % d) ps.reverse with
  | some w =>
    have ev : lastD d (some ps) t = some (t - t % d + w) := by unfold lastD; simp only [e]
    rw [ev]
    rw [e] at sp
    obtain ⟨a, b, c⟩ := sp
    have wd := open_in h b
    refine ⟨t % d - w, by omega, by omega, by omega, by omega, ?_, fun j hj0 hj1 => ?_⟩
    · have e1 : t - (t % d - w) = t - t % d + w := by omega
      rw [e1, mod_base hd (by omega) wd.2]; exact b
    · have e1 : t - j = t - t % d + (t % d - j) := by omega
      rw [e1, mod_base hd (by omega) (by omega)]
      exact c _ (by omega) (by omega)
  | none =>
    have ev : lastD d (some ps) t = if ps = [] ∨ t - t % d = 0 then none else some (t - t % d - d + lastP 0 ps - 1) := by unfold lastD; simp only [e]
    rw [ev]
    rw [e] at sp
    have sp : ∀ j, j ≤ t % d → openB ps j = false := sp
    by_cases hz : ps = [] ∨ t - t % d = 0
    · rw [if_pos hz]
      intro k k0 k1 kt
      rcases hz with hz | hz
      · subst hz; rfl
      · have e1 : t - k = t - t % d + (t % d - k) := by omega
        rw [e1, mod_base hd (by omega) (by omega)]
        exact sp _ (by omega)
    · rw [if_neg hz]
      have hne : ps ≠ [] := fun e => hz (.inl e)
      obtain ⟨o1, o2, o3⟩ := open_last h hne (Int.le_refl _)
      have hb : d ≤ t - t % d := by
        have e1 : t - t % d = d * (t / d) := by have := Int.mul_ediv_add_emod t d; omega
        have e2 : t / d ≠ 0 := fun z => hz (.inr (by rw [e1, z, Int.mul_zero]))
        have e3 : 0 ≤ t / d := Int.ediv_nonneg ht (by omega)
        have e4 : 1 ≤ t / d := by omega
        rw [e1]
        have := Int.mul_le_mul_of_nonneg_left e4 (show 0 ≤ d by omega)
        omega
      refine ⟨t % d + d - lastP 0 ps + 1, by omega, by omega, by omega, by omega, ?_, fun j hj0 hj1 => ?_⟩
      · have e1 : t - (t % d + d - lastP 0 ps + 1) = t - t % d + (lastP 0 ps - 1 - d) := by omega
        rw [e1, mod_baseD hd (by omega) (by omega)]
        have e2 : lastP 0 ps - 1 - d + d = lastP 0 ps - 1 := by omega
        rw [e2]; exact o1
      · have e1 : t - j = t - t % d + (t % d - j) := by omega
        rw [e1]
        by_cases c : 0 ≤ t % d - j
        · rw [mod_base hd c (by omega)]
          exact sp _ (by omega)
        · rw [mod_baseD hd (by omega) (by omega)]
          exact open_hi h hne (by omega)
theorem last_uniq {d t : Int} {ps : List (Int × Int)} {a b : Option Int} (ha : LastOpen d ps t a) (hb : LastOpen d ps t b) : a = b := by
  cases a with
  | none =>
    cases b with
    | none => rfl
    | some v =>
      obtain ⟨k, k0, k1, e, p, o, _⟩ := hb
      rw [ha k k0 k1 (by omega)] at o; cases o
  | some u =>
    obtain ⟨k, k0, k1, e, p, o, l⟩ := ha
    cases b with
    | none => rw [hb k k0 k1 (by omega)] at o; cases o
    | some v =>
      obtain ⟨k', k0', k1', e', p', o', l'⟩ := hb
      rcases Int.lt_trichotomy k k' with c | c | c
      · rw [l' k k0 c] at o; cases o
      · rw [e, e', c]
      · rw [l k' k0' c] at o'; cases o'
end W

set_option Elab.async false
set_option linter.all false
set_option maxRecDepth 100000
set_option maxHeartbeats 400000
namespace W
open PySem PySem.Spec PyProof.Rows L2 GxR MyG MyS
/-! ### Map.check_place, Map.check_kind, Map.is_barred, Map.may_follow, Map.may_use -/
abbrev sCheckP : Stmt := inClass (top 32) 4
abbrev sCheckK : Stmt := inClass (top 32) 5
abbrev sBarred : Stmt := inClass (top 32) 8
abbrev sMayF : Stmt := inClass (top 32) 9
abbrev sMayU : Stmt := inClass (top 32) 11
abbrev sCanEver : Stmt := top 38
theorem inV_dec (z : Str) (xs : List Str) : inV (.str z) (xs.map V.str) = decide (z ∈ xs) := by
  by_cases h : z ∈ xs
  · rw [inV_str h, decide_eq_true h]
  · rw [decide_eq_false h]
    unfold inV
    rw [List.any_map, List.any_eq_false]
    intro y hy e
    have q : y = z := by simpa [eqV] using e
    exact h (q ▸ hy)
/-- a map at x, with its table of code -/
structure MIn (K : PySem.W.Frag) (H : Hp) (M P x : Addr) (d : Int) (ks ps : List Str) (rs : List RoadD) (bs : List (Str × Str)) : Prop where
  m : MapAt K H M x d ks ps rs bs
  t : TabG H P
  nd : (rs.map (·.name)).Nodup
  nl : ∀ r ∈ rs, r.name.length ≤ 1000
  d1 : 1 ≤ d
  ho : ∀ r ∈ rs, HoursOk d r.hours
theorem MIn.grew {K : PySem.W.Frag} {H H' : Hp} {M P x : Addr} {d : Int} {ks ps : List Str} {rs : List RoadD} {bs : List (Str × Str)} (h : MIn K H M P x d ks ps rs bs) (g : Grew P H H') : MIn K H' M P x d ks ps rs bs :=
  ⟨h.m.grew g h.t, g.tab, h.nd, h.nl, h.d1, h.ho⟩
def spChkL (K : PySem.W.Frag) (M U : Addr) (f : List Str → List Str → List Str) : Sp := fun vs H Q E => ∃ (x : Addr) (z : Str) (d : Int) (ks ps : List Str) (rs : List RoadD) (bs : List (Str × Str)), vs = [.ref x, .str z] ∧ z.length ≤ 1000 ∧ MapAt K H M x d ks ps rs bs ∧
  (z ∈ f ks ps → Q .non H) ∧ (z ∉ f ks ps → Unk U H E z)
def selK (ks _ps : List Str) : List Str := ks
def selP (_ks ps : List Str) : List Str := ps
def spBarred (K : PySem.W.Frag) (M P : Addr) : Sp := fun vs H Q _ => ∃ (x : Addr) (d : Int) (ks ps : List Str) (rs : List RoadD) (bs : List (Str × Str)) (r1 r2 : RoadD), vs = [.ref x, .str r1.name, .str r2.name] ∧ MIn K H M P x d ks ps rs bs ∧ r1 ∈ rs ∧ r2 ∈ rs ∧
  ∀ H', Grew P H H' → Q (.bl (decide ((r1.name, r2.name) ∈ bs))) H'
def spMayF (K : PySem.W.Frag) (M P : Addr) : Sp := fun vs H Q _ => ∃ (x : Addr) (d : Int) (ks ps : List Str) (rs : List RoadD) (bs : List (Str × Str)) (r1 r2 : RoadD), vs = [.ref x, .str r1.name, .str r2.name] ∧ MIn K H M P x d ks ps rs bs ∧ r1 ∈ rs ∧ r2 ∈ rs ∧
  ∀ H', Grew P H H' → Q (.bl (decide (r1.goal = r2.start) && !decide ((r1.name, r2.name) ∈ bs))) H'
def spMayU (K : PySem.W.Frag) (M P : Addr) : Sp := fun vs H Q _ => ∃ (x : Addr) (z : Str) (d : Int) (ks ps : List Str) (rs : List RoadD) (bs : List (Str × Str)) (r : RoadD), vs = [.ref x, .str z, .str r.name] ∧ z.length ≤ 1000 ∧ z ∈ ks ∧ MIn K H M P x d ks ps rs bs ∧ r ∈ rs ∧
  Q (.bl (decide (z ∈ r.users))) H
def everB (z : Str) (r : RoadD) : Bool := decide (z ∈ r.users) && !decide (r.hours = some [])
def spEver (K : PySem.W.Frag) (M P : Addr) : Sp := fun vs H Q _ => ∃ (x : Addr) (z : Str) (d : Int) (ks ps : List Str) (rs : List RoadD) (bs : List (Str × Str)) (r : RoadD), vs = [.ref x, .str z, .str r.name] ∧ z.length ≤ 1000 ∧ z ∈ ks ∧ MIn K H M P x d ks ps rs bs ∧ r ∈ rs ∧
  ∀ H', Grew P H H' → Q (.bl (everB z r)) H'
def hoursD : Option (List (Int × Int)) → PyData
  | none => .none
  | some ps => .tuple (ps.map pairD)
theorem dp_hours {K : PySem.W.Frag} {H : Hp} {hs : Option (List (Int × Int))} {v : V} (g : GHours K H hs v) : Dp K H v (hoursD hs) := by
  cases hs with
  | none =>
    obtain rfl : v = .non := g
    exact .non
  | some ps =>
    obtain ⟨l, xs, rfl, q, p⟩ := g
    exact .tup q (dp_pairs p)
theorem shaped_hours : ∀ hs : Option (List (Int × Int)), SeqAt.shaped (hoursD hs) = true
  | none => rfl
  | some ps => shaped_pairs ps
theorem eqv_hours (hs : Option (List (Int × Int))) : PyData.eqv (hoursD hs) (PyData.tuple []) = decide (hs = some []) := by
  cases hs with
  | none => rfl
  | some ps =>
    show PyData.eqv (PyData.tuple (ps.map pairD)) (PyData.tuple []) = _
    rw [eqv_pairs]
    cases ps <;> simp
section
variable {Pg : Program} {w : World} {K : PySem.W.Frag} {mg : Str → Option Value} {base : Heap} {C P : Addr}
theorem raise_end {H : Hp} {U a : Addr} {E : XK} {z : Str} (na : H a = none) (kE : Unk U H E z) :
    ∀ dx, (L2.upd H a (exo a U none)) dx = none → dx ≠ a → ∀ H2, H2 = L2.upd (del (L2.upd (L2.upd (L2.upd H a (exo a U none)) dx (exd dx [("name", V.str z)])) a (exo a U (some dx))) a) dx (.xd [("name", V.str z)]) → E (.ref U) (some dx) H2 := fun dx nd ne H2 e2 => by
  rw [e2, flown na nd]
  rw [upd_ne ne] at nd
  exact kE dx nd
theorem scCheckP : FnScope ["self", "place"] ["self", "place"] (defScope sCheckP) := ⟨rfl, rfl, rfl, by decide +kernel, rfl, by decide +kernel, by decide +kernel⟩
theorem ok_checkP {f M U fU : Addr} {fd fdU : FuncData} (F : Fun K "check_place" "Map.check_place" sCheckP f fd) (TM : TxtM K M) (gU : mg "UnknownName" = some (.ref U)) (TU : OexC K U) (iU : PySem.W.findIn K (.ref U) "__init__" = some (some (.ref fU))) (tU : PySem.W.typeIn K (.ref fU) = some (.type "function"))
    (GU : FnOk Pg w K mg base CX0 1 fU fdU ["self", "name"] (spUInit K U)) (bU : Binds K fdU ["self", "name"] []) :
    FnOk Pg w K mg base (L2.CX Pg w) 3 f fd ["self", "place"] (spChkL K M U selP) := by
  refine F.okX scCheckP (fun vs H Q E h => ?_) (fun cdv A outer s H vs Q E hr h => ?_)
  · obtain ⟨x, z, d, ks, ps, rs, bs, rfl, _⟩ := h
    rfl
  · obtain ⟨x, z, d, ks, ps, rs, bs, rfl, hz, hM, kQ, kE⟩ := h
    refine ⟨_, pss_one (ps_if (pt_cmpR op_notIn_seq (pv 1) (pe_fld (pv 0) rfl) (by rfl)) (pss_one (ps_raise rfl (takes_of rfl rfl rfl rfl) (pmk_oex TU iU tU GU (hr.mono (by decide)) bU .nil pass0 (by rfl) gU (pa_cons (pv 1) pa_nil)))) pss_nil), ?_⟩
    obtain ⟨dx, fs, kk, pp, rr, D, bb, D2, ys, zs, hx, F7⟩ := hM
    refine ⟨_, rfl, _, rfl, x, M, dx, fs, _, rfl, hx, TM.cl, TM.n3, F7.f3, pp, _, rfl, .inr (SqT.of F7.p), rfl, flat_strs _, _, rfl, ?_⟩
    by_cases hin : z ∈ ps
    · exact if_f (by simp [inV_dec, hin]) (kQ hin)
    · refine if_t (by simp [inV_dec, hin]) ⟨_, rfl, by simp, fun a na => ⟨a, z, rfl, hz, upd_same, fun dx2 nd ne => ⟨rfl, dx2, [("name", .str z)], upd_same, ?_, ?_, ?_⟩⟩⟩
      · rw [upd_ne ne]; exact upd_same
      · rw [upd_ne ne] at nd; exact nd
      · exact raise_end na (kE hin) dx2 nd ne _ rfl
theorem scCheckK : FnScope ["self", "kind"] ["self", "kind"] (defScope sCheckK) := ⟨rfl, rfl, rfl, by decide +kernel, rfl, by decide +kernel, by decide +kernel⟩
theorem ok_checkK {f M U fU : Addr} {fd fdU : FuncData} (F : Fun K "check_kind" "Map.check_kind" sCheckK f fd) (TM : TxtM K M) (gU : mg "UnknownName" = some (.ref U)) (TU : OexC K U) (iU : PySem.W.findIn K (.ref U) "__init__" = some (some (.ref fU))) (tU : PySem.W.typeIn K (.ref fU) = some (.type "function"))
    (GU : FnOk Pg w K mg base CX0 1 fU fdU ["self", "name"] (spUInit K U)) (bU : Binds K fdU ["self", "name"] []) :
    FnOk Pg w K mg base (L2.CX Pg w) 3 f fd ["self", "kind"] (spChkL K M U selK) := by
  refine F.okX scCheckK (fun vs H Q E h => ?_) (fun cdv A outer s H vs Q E hr h => ?_)
  · obtain ⟨x, z, d, ks, ps, rs, bs, rfl, _⟩ := h
    rfl
  · obtain ⟨x, z, d, ks, ps, rs, bs, rfl, hz, hM, kQ, kE⟩ := h
    refine ⟨_, pss_one (ps_if (pt_cmpR op_notIn_seq (pv 1) (pe_fld (pv 0) rfl) (by rfl)) (pss_one (ps_raise rfl (takes_of rfl rfl rfl rfl) (pmk_oex TU iU tU GU (hr.mono (by decide)) bU .nil pass0 (by rfl) gU (pa_cons (pv 1) pa_nil)))) pss_nil), ?_⟩
    obtain ⟨dx, fs, kk, pp, rr, D, bb, D2, ys, zs, hx, F7⟩ := hM
    refine ⟨_, rfl, _, rfl, x, M, dx, fs, _, rfl, hx, TM.cl, TM.n2, F7.f2, kk, _, rfl, .inr (SqT.of F7.k), rfl, flat_strs _, _, rfl, ?_⟩
    by_cases hin : z ∈ ks
    · exact if_f (by simp [inV_dec, hin]) (kQ hin)
    · refine if_t (by simp [inV_dec, hin]) ⟨_, rfl, by simp, fun a na => ⟨a, z, rfl, hz, upd_same, fun dx2 nd ne => ⟨rfl, dx2, [("name", .str z)], upd_same, ?_, ?_, ?_⟩⟩⟩
      · rw [upd_ne ne]; exact upd_same
      · rw [upd_ne ne] at nd; exact nd
      · exact raise_end na (kE hin) dx2 nd ne _ rfl
theorem scMayU : FnScope ["self", "kind", "name"] ["self", "kind", "name"] (defScope sMayU) := ⟨rfl, rfl, rfl, by decide +kernel, rfl, by decide +kernel, by decide +kernel⟩
theorem ok_mayU {f M U fR fC : Addr} {fd fdR fdC : FuncData} {t1 : Tok} (F : Fun K "may_use" "Map.may_use" sMayU f fd) (TM : TxtM K M) (mR : Meth K M "road" fR) (mC : Meth K M "check_kind" fC) (hk : mg "KINDS" = some (.int 4 t1))
    (GR : FnOk Pg w K mg base (L2.CX Pg w) 4 fR fdR ["self", "name"] (spRoadM K M U)) (bR : Binds K fdR ["self", "name"] [])
    (GC : FnOk Pg w K mg base (L2.CX Pg w) 3 fC fdC ["self", "kind"] (spChkL K M U selK)) (bC : Binds K fdC ["self", "kind"] []) :
    FnOk Pg w K mg base (L2.CX Pg w) 5 f fd ["self", "kind", "name"] (spMayU K M P) := by
  refine F.okX scMayU (fun vs H Q E h => ?_) (fun cdv A outer s H vs Q E hr h => ?_)
  · obtain ⟨x, z, d, ks, ps, rs, bs, r, rfl, _⟩ := h
    rfl
  · obtain ⟨x, z, d, ks, ps, rs, bs, r, rfl, hz, hk2, hM, h1, kQ⟩ := h
    refine ⟨_, pss_cons (ps_expr (pe_meth (E := E) (pv 0) TM.cl mC GC (hr.mono (by decide)) bC .nil (passes_call (takes_of rfl rfl rfl rfl) (fun _ _ _ _ h => h)) (pa_cons (pv 1) pa_nil)))
      (pss_one (ps_ret (pe_cmpR op_in_seq (pv 1) (pe_ix ix_tup (pe_meth (E := E) (pv 0) TM.cl mR GR hr bR .nil (passes_call (takes_of rfl rfl rfl rfl) (fun _ _ _ _ h => h)) (pa_cons (pv 2) pa_nil)) (pe_gI hk) (fun _ _ => rfl)) (by rfl)))), ?_⟩
    obtain ⟨dx, fs, kk, pp, rr, D, bb, D2, ys, zs, hx, F7⟩ := hM.m
    refine ⟨_, rfl, x, dx, fs, rfl, hx, F7.f0 _ (by decide +kernel), _, rfl, x, z, d, ks, ps, rs, bs, rfl, hz, hM.m, fun _ => ?_, fun no => absurd hk2 no⟩
    refine ⟨_, rfl, _, rfl, x, dx, fs, rfl, hx, F7.f0 _ (by decide +kernel), _, rfl, x, r.name, d, ks, ps, rs, bs, rfl, hM.nl _ h1, hM.m, fun r' hr1 he1 v hv => ?_, fun no => absurd rfl (no r h1)⟩
    obtain rfl : r' = r := uniq_name hM.nd hr1 h1 he1
    obtain ⟨p, q, hv, rfl, ep, eq, _⟩ := hv
    refine ⟨p, _, 4, _, rfl, rfl, SqT.of ep, rfl, q, _, rfl, .inr (SqT.of eq), rfl, flat_strs _, ?_⟩
    rw [← inV_dec] at kQ
    exact kQ
theorem scEver : FnScope ["chart", "kind", "name"] ["chart", "kind", "name"] (defScope sCanEver) := ⟨rfl, rfl, rfl, by decide +kernel, rfl, by decide +kernel, by decide +kernel⟩
theorem ok_ever {f M U fR fC : Addr} {fd fdR fdC : FuncData} {t1 : Tok} (F : Fun K "can_ever_enter" "can_ever_enter" sCanEver f fd) (TM : TxtM K M) (mR : Meth K M "road" fR) (mC : Meth K M "may_use" fC) (hh : mg "HOURS" = some (.int 5 t1))
    (GR : FnOk Pg w K mg base (L2.CX Pg w) 4 fR fdR ["self", "name"] (spRoadM K M U)) (bR : Binds K fdR ["self", "name"] [])
    (GC : FnOk Pg w K mg base (L2.CX Pg w) 5 fC fdC ["self", "kind", "name"] (spMayU K M P)) (bC : Binds K fdC ["self", "kind", "name"] []) :
    FnOk Pg w K mg base (L2.CX Pg w) 6 f fd ["chart", "kind", "name"] (spEver K M P) := by
  refine F.okX scEver (fun vs H Q E h => ?_) (fun cdv A outer s H vs Q E hr h => ?_)
  · obtain ⟨x, z, d, ks, ps, rs, bs, r, rfl, _⟩ := h
    rfl
  · obtain ⟨x, z, d, ks, ps, rs, bs, r, rfl, hz, hk2, hM, h1, kQ⟩ := h
    refine ⟨_, pss_one (ps_ret (pe_and (pe_meth (E := E) (pv 0) TM.cl mC GC hr bC .nil (passes_call (takes_of rfl rfl rfl rfl) (fun _ _ _ _ h => h)) (pa_cons (pv 1) (pa_cons (pv 2) pa_nil)))
      (pe_one (pe_cmpR (op_neD hr.units) (pe_ix ix_tup (pe_meth (E := E) (pv 0) TM.cl mR GR (hr.mono (by decide)) bR .nil (passes_call (takes_of rfl rfl rfl rfl) (fun _ _ _ _ h => h)) (pa_cons (pv 2) pa_nil)) (pe_gI hh) (fun _ _ => rfl)) (pe_tup pa_nil) (nomark _))))), ?_⟩
    obtain ⟨dx, fs, kk, pp, rr, D, bb, D2, ys, zs, hx, F7⟩ := hM.m
    refine ⟨_, rfl, x, dx, fs, rfl, hx, F7.f0 _ (by decide +kernel), _, rfl, _, rfl, x, z, d, ks, ps, rs, bs, r, rfl, hz, hk2, hM, h1, _, rfl, ?_⟩
    unfold everB at kQ
    by_cases c : z ∈ r.users
    · rw [decide_eq_true c] at kQ ⊢
      refine iteT ⟨_, rfl, x, dx, fs, rfl, hx, F7.f0 _ (by decide +kernel), _, rfl, x, r.name, d, ks, ps, rs, bs, rfl, hM.nl _ h1, hM.m, fun r' hr1 he1 v hv => ?_, fun no => absurd rfl (no r h1)⟩
      obtain rfl : r' = r := uniq_name hM.nd hr1 h1 he1
      obtain ⟨p, q, hv, rfl, ep, eq, hh⟩ := hv
      refine ⟨p, _, 5, hv, rfl, rfl, SqT.of ep, rfl, Nat.zero_le _, fun e0 ne0 => ?_⟩
      have g := Grew.new hM.t (o := .tup []) ne0
      refine ⟨_, _, dp_hours (hh.keep (KeepT.grew g hM.t)), .tup (SqT.of upd_same) .nil, shaped_hours _, shaped_pairs [], ?_⟩
      rw [show (PyData.tuple []) = PyData.tuple (([] : List (Int × Int)).map pairD) from rfl] at *
      have k := kQ _ g
      rw [← eqv_hours, Bool.true_and] at k
      exact k
    · rw [decide_eq_false c] at kQ ⊢
      exact iteF (kQ H (Grew.refl hM.t))
end
end W

set_option Elab.async false
set_option linter.all false
set_option maxRecDepth 100000
set_option maxHeartbeats 800000
namespace W
open PySem PySem.Spec PyProof.Rows L2 GxR MyG MyS
/-! ### check_names, _can_go_on, run, waiting -/
abbrev sNamesC : Stmt := top 37
def Known (rs : List RoadD) (z : Str) : Prop := ∃ r ∈ rs, r.name = z
/-- z is the first of zs that has not p -/
def FirstNot (p : Str → Prop) (zs : List Str) (z : Str) : Prop := ∃ i, zs[i]? = some z ∧ ¬ p z ∧ ∀ (j : Nat) (y : Str), j < i → zs[j]? = some y → p y
/-- the names of a question: the first unknown one flies -/
def Names4 (U : Addr) (ks ps : List Str) (rs : List RoadD) (kind : Str) (zs1 zs2 : List Str) (B : Str → Prop) (G : Prop) : Prop :=
  (kind ∉ ks ∧ B kind) ∨ (kind ∈ ks ∧ ∃ z, FirstNot (· ∈ ps) zs1 z ∧ B z) ∨ (kind ∈ ks ∧ (∀ z ∈ zs1, z ∈ ps) ∧ ∃ z, FirstNot (Known rs) zs2 z ∧ B z) ∨ (kind ∈ ks ∧ (∀ z ∈ zs1, z ∈ ps) ∧ (∀ z ∈ zs2, Known rs z) ∧ G)
theorem Names4.imp {U : Addr} {ks ps : List Str} {rs : List RoadD} {kind : Str} {zs1 zs2 : List Str} {B B' : Str → Prop} {G G' : Prop} (h : Names4 U ks ps rs kind zs1 zs2 B G) (hB : ∀ z, B z → B' z) (hG : kind ∈ ks → (∀ z ∈ zs1, z ∈ ps) → (∀ z ∈ zs2, Known rs z) → G → G') : Names4 U ks ps rs kind zs1 zs2 B' G' := by
  rcases h with ⟨a, b⟩ | ⟨a, z, b, c⟩ | ⟨a, b, z, c, e⟩ | ⟨a, b, c, e⟩
  · exact .inl ⟨a, hB _ b⟩
  · exact .inr (.inl ⟨a, z, b, hB _ c⟩)
  · exact .inr (.inr (.inl ⟨a, b, z, c, hB _ e⟩))
  · exact .inr (.inr (.inr ⟨a, b, c, hG a b c e⟩))
def spChkN (K : PySem.W.Frag) (M U P : Addr) : Sp := fun vs H Q E => ∃ (x pl ro : Addr) (kind : Str) (zs1 zs2 : List Str) (d : Int) (ks ps : List Str) (rs : List RoadD) (bs : List (Str × Str)), vs = [.ref x, .str kind, .ref pl, .ref ro] ∧ MIn K H M P x d ks ps rs bs ∧ kind.length ≤ 1000 ∧
  SqL K H pl (zs1.map V.str) ∧ SqL K H ro (zs2.map V.str) ∧ (∀ z ∈ zs1, z.length ≤ 1000) ∧ (∀ z ∈ zs2, z.length ≤ 1000) ∧ Names4 U ks ps rs kind zs1 zs2 (Unk U H E) (Q .non H)
theorem str_at {ns : List Str} {i : Nat} {y : V} (h : (ns.map V.str)[i]? = some y) : ∃ z, ns[i]? = some z ∧ y = V.str z := by
  rw [List.getElem?_map] at h
  obtain ⟨z, e1, e2⟩ := Option.map_eq_some_iff.mp h
  exact ⟨z, e1, e2.symm⟩
section
variable {Pg : Program} {w : World} {K : PySem.W.Frag} {mg : Str → Option Value} {base : Heap} {C P : Addr}
abbrev nNamesC : List Str := ["chart", "kind", "places", "roads", "place", "name"]
theorem scNamesC : FnScope nNamesC ["chart", "kind", "places", "roads"] (defScope sNamesC) := ⟨rfl, rfl, rfl, by decide +kernel, rfl, by decide +kernel, by decide +kernel⟩
theorem ok_chkN {f M U fK fP fR : Addr} {fd fdK fdP fdR : FuncData} (F : Fun K "check_names" "check_names" sNamesC f fd) (TM : TxtM K M) (mK : Meth K M "check_kind" fK) (mP : Meth K M "check_place" fP) (mR : Meth K M "check_road" fR)
    (GK : FnOk Pg w K mg base (L2.CX Pg w) 3 fK fdK ["self", "kind"] (spChkL K M U selK)) (bK : Binds K fdK ["self", "kind"] [])
    (GP : FnOk Pg w K mg base (L2.CX Pg w) 3 fP fdP ["self", "place"] (spChkL K M U selP)) (bP : Binds K fdP ["self", "place"] [])
    (GR : FnOk Pg w K mg base (L2.CX Pg w) 3 fR fdR ["self", "name"] (spCheck K M U)) (bR : Binds K fdR ["self", "name"] []) :
    FnOk Pg w K mg base (L2.CX Pg w) 4 f fd ["chart", "kind", "places", "roads"] (spChkN K M U P) := by
  refine F.okX scNamesC (fun vs H Q E h => ?_) (fun cdv A outer s H vs Q E hr h => ?_)
  · obtain ⟨x, pl, ro, kind, zs1, zs2, d, ks, ps, rs, bs, rfl, _⟩ := h
    rfl
  · obtain ⟨x, pl, ro, kind, zs1, zs2, d, ks, ps, rs, bs, rfl, hM, hk, hS1, hS2, hz1, hz2, h4⟩ := h
    refine ⟨_, pss_cons (ps_expr (pe_meth (E := E) (pv 0) TM.cl mK GK hr bK .nil (passes_call (takes_of rfl rfl rfl rfl) (fun _ _ _ _ h => h)) (pa_cons (pv 1) pa_nil)))
      (pss_cons (ps_for (passes_of rfl) rfl (pi_list (pv 2)) (pg_name (i := 4) scNamesC.nd rfl (Or.inl rfl)) (pss_one (ps_expr (pe_meth (E := E) (pv 0) TM.cl mP GP hr bP .nil (passes_call (takes_of rfl rfl rfl rfl) (fun _ _ _ _ h => h)) (pa_cons (pv 4) pa_nil)))))
      (pss_one (ps_for (passes_of rfl) rfl (pi_list (pv 3)) (pg_name (i := 5) scNamesC.nd rfl (Or.inl rfl)) (pss_one (ps_expr (pe_meth (E := E) (pv 0) TM.cl mR GR hr bR .nil (passes_call (takes_of rfl rfl rfl rfl) (fun _ _ _ _ h => h)) (pa_cons (pv 5) pa_nil))))))), ?_⟩
    obtain ⟨dx, fs, kk, pp, rr, D, bb, D2, ys, zs, hx, F7⟩ := hM.m
    refine ⟨_, rfl, x, dx, fs, rfl, hx, F7.f0 _ (by decide +kernel), _, rfl, x, kind, d, ks, ps, rs, bs, rfl, hk, hM.m, fun hkin => ?_, fun hno => ?_⟩
    · have hkin' : kind ∈ ks := hkin
      refine ⟨_, rfl, pl, rfl, ⟨_, hS1⟩, for_list (K := K) (a := pl) (xs := zs1.map V.str) (fun i σ H' => H' = H ∧ ∃ v, σ = [some (.ref x), some (.str kind), some (.ref pl), some (.ref ro), v, none] ∧ ∀ j y, j < i → zs1[j]? = some y → y ∈ ps)
        ⟨rfl, none, rfl, fun j y hj => absurd hj (Nat.not_lt_zero _)⟩ (fun i σ H' _ ⟨e, _⟩ => by rw [e]; exact hS1) ?_ ?_⟩
      · rintro i y σ H' hi ⟨rfl, v, rfl, hb⟩
        obtain ⟨z, ez, rfl⟩ := str_at hi
        refine ⟨_, rfl, x, dx, fs, rfl, hx, F7.f0 _ (by decide +kernel), _, rfl, x, z, d, ks, ps, rs, bs, rfl, hz1 z (List.mem_of_getElem? ez), hM.m, fun hin => ⟨rfl, _, rfl, fun j y hj e => ?_⟩, fun hno => ?_⟩
        · rcases Nat.lt_succ_iff_lt_or_eq.mp hj with h | h
          · exact hb j y h e
          · rw [h, ez] at e
            cases e
            exact hin
        · have hno' : z ∉ ps := hno
          rcases h4 with ⟨a, _⟩ | ⟨_, z', ⟨i', e', n', b'⟩, u⟩ | ⟨_, b, _⟩ | ⟨_, b, _⟩
          · exact absurd hkin' a
          · rcases Nat.lt_trichotomy i i' with c | c | c
            · exact absurd (b' i z c ez) hno'
            · rw [c, e'] at ez
              cases ez
              exact u
            · exact absurd (hb i' z' c e') n'
          · exact absurd (b z (List.mem_of_getElem? ez)) hno'
          · exact absurd (b z (List.mem_of_getElem? ez)) hno'
      · rintro σ H' ⟨rfl, v, rfl, hb⟩
        rw [List.length_map] at hb
        have all1 : ∀ z ∈ zs1, z ∈ ps := fun z hz => by
          obtain ⟨j, hj, e⟩ := List.getElem_of_mem hz
          exact hb j z hj (by rw [List.getElem?_eq_getElem hj, e])
        refine ⟨_, rfl, ro, rfl, ⟨_, hS2⟩, for_list (K := K) (a := ro) (xs := zs2.map V.str) (fun i σ H2 => H2 = H' ∧ ∃ u, σ = [some (.ref x), some (.str kind), some (.ref pl), some (.ref ro), v, u] ∧ ∀ j y, j < i → zs2[j]? = some y → Known rs y)
          ⟨rfl, none, rfl, fun j y hj => absurd hj (Nat.not_lt_zero _)⟩ (fun i σ H' _ ⟨e, _⟩ => by rw [e]; exact hS2) ?_ ?_⟩
        · rintro i y σ H2 hi ⟨rfl, u, rfl, hb2⟩
          obtain ⟨z, ez, rfl⟩ := str_at hi
          refine ⟨_, rfl, x, dx, fs, rfl, hx, F7.f0 _ (by decide +kernel), _, rfl, x, z, d, ks, ps, rs, bs, rfl, hz2 z (List.mem_of_getElem? ez), hM.m, fun hin => ⟨rfl, _, rfl, fun j y hj e => ?_⟩, fun hno => ?_⟩
          · rcases Nat.lt_succ_iff_lt_or_eq.mp hj with h | h
            · exact hb2 j y h e
            · rw [h, ez] at e
              cases e
              exact hin
          · have hno' : ¬ Known rs z := fun ⟨r, h1, h2⟩ => hno r h1 h2
            rcases h4 with ⟨a, _⟩ | ⟨_, z', ⟨i', e', n', b'⟩, u⟩ | ⟨_, _, z', ⟨i', e', n', b'⟩, u⟩ | ⟨_, _, b, _⟩
            · exact absurd hkin' a
            · exact absurd (all1 z' (List.mem_of_getElem? e')) n'
            · rcases Nat.lt_trichotomy i i' with c | c | c
              · exact absurd (b' i z c ez) hno'
              · rw [c, e'] at ez
                cases ez
                exact u
              · exact absurd (hb2 i' z' c e') n'
            · exact absurd (b z (List.mem_of_getElem? ez)) hno'
        · rintro σ H2 ⟨rfl, u, rfl, hb2⟩
          rw [List.length_map] at hb2
          rcases h4 with ⟨a, _⟩ | ⟨_, z', ⟨i', e', n', b'⟩, _⟩ | ⟨_, _, z', ⟨i', e', n', b'⟩, _⟩ | ⟨_, _, _, g⟩
          · exact absurd hkin' a
          · exact absurd (all1 z' (List.mem_of_getElem? e')) n'
          · exact absurd (hb2 i' z' (List.getElem?_eq_some_iff.mp e').1 e') n'
          · exact g
    · have hno' : kind ∉ ks := hno
      rcases h4 with ⟨_, u⟩ | ⟨a, _⟩ | ⟨a, _⟩ | ⟨a, _⟩
      · exact u
      all_goals exact absurd a hno'
end
end W

set_option Elab.async false
set_option linter.all false
set_option maxRecDepth 100000
set_option maxHeartbeats 800000
namespace W
open PySem PySem.Spec PyProof.Rows L2 GxR MyG MyS
/-! ### Map.road_names, roads_from, followers; turns -/
abbrev sRNames : Stmt := inClass (top 32) 1
abbrev sRFrom : Stmt := inClass (top 32) 6
abbrev sFoll : Stmt := inClass (top 32) 10
abbrev sTurns : Stmt := top 39
/-- nothing is let out by a def whose promise lets nothing out -/
theorem passF {P : Program} {w : World} {X : Cx} (hP : X.prog = P) (hw : X.w = w) : Passes (L2.CX P w) X E0 := fun pins σ H s e s' I c => by
  obtain ⟨_, _, _, _, _, _, _, _, _, _, _, _, q⟩ := c
  exact q.elim
theorem pe_fldK {X : Cx} {e : Expr} {f : Str} {pos : Pos} {ta : TE} {K : PySem.W.Frag} (hK : X.K = K) (he : PE X e ta) (hb : attributeBase e f X.env (eval e X.env) = eval e X.env) : PE X (.Attribute e f pos) (tFld K ta f) := by
  subst hK
  exact pe_fld he hb
def namesV (rs : List RoadD) : List V := (rs.map (·.name)).map V.str
def spRNames (K : PySem.W.Frag) (M P : Addr) : Sp := fun vs H Q _ => ∃ (x : Addr) (d : Int) (ks ps : List Str) (rs : List RoadD) (bs : List (Str × Str)), vs = [.ref x] ∧ MIn K H M P x d ks ps rs bs ∧ rs.length ≤ 60 ∧
  ∀ H' p, Grew P H H' → H p = none → H' p = some (.tup (namesV rs)) → Q (.ref p) H'
def spRFrom (K : PySem.W.Frag) (M P : Addr) : Sp := fun vs H Q _ => ∃ (x : Addr) (z : Str) (d : Int) (ks ps : List Str) (rs : List RoadD) (bs : List (Str × Str)), vs = [.ref x, .str z] ∧ z.length ≤ 1000 ∧ z ∈ ps ∧ MIn K H M P x d ks ps rs bs ∧ rs.length ≤ 60 ∧
  ∀ H' p, Grew P H H' → H p = none → H' p = some (.lst (namesV (rs.filter fun r => decide (r.start = z)))) → Q (.ref p) H'
def spFoll (K : PySem.W.Frag) (M P : Addr) : Sp := fun vs H Q _ => ∃ (x : Addr) (r0 : RoadD) (d : Int) (ks ps : List Str) (rs : List RoadD) (bs : List (Str × Str)), vs = [.ref x, .str r0.name] ∧ r0 ∈ rs ∧ r0.goal ∈ ps ∧ r0.goal.length ≤ 1000 ∧ MIn K H M P x d ks ps rs bs ∧ rs.length ≤ 60 ∧
  ∀ H' p, Grew P H H' → H p = none → H' p = some (.lst (namesV (rs.filter fun r => decide (r.start = r0.goal) && !decide ((r0.name, r.name) ∈ bs)))) → Q (.ref p) H'
theorem filter_take {α : Type} {p : α → Bool} {l : List α} {i : Nat} {a : α} (h : l[i]? = some a) : (l.take (i + 1)).filter p = if p a = true then (l.take i).filter p ++ [a] else (l.take i).filter p := by
  rw [List.take_succ, h, List.filter_append]
  by_cases c : p a = true
  · rw [if_pos c]
    simp [c]
  · rw [if_neg c]
    simp [c]
theorem namesV_app (a b : List RoadD) : namesV (a ++ b) = namesV a ++ namesV b := by
  unfold namesV
  rw [List.map_append, List.map_append]
theorem namesV_len (a : List RoadD) : (namesV a).length ≤ a.length := by
  unfold namesV
  rw [List.length_map, List.length_map]
  exact Nat.le_refl _
section
variable {Pg : Program} {w : World} {K : PySem.W.Frag} {mg : Str → Option Value} {base : Heap} {C P : Addr}
theorem scRNames : FnScope ["self", "road"] ["self"] (defScope sRNames) := ⟨rfl, rfl, rfl, by decide +kernel, rfl, by decide +kernel, by decide +kernel⟩
theorem ok_rnames {f M : Addr} {fd : FuncData} {t1 : Tok} (F : Fun K "road_names" "Map.road_names" sRNames f fd) (TM : TxtM K M) (ht : mg "tuple" = none) (hn : mg "NAME" = some (.int 0 t1)) : FnOk Pg w K mg base CX0 1 f fd ["self"] (spRNames K M P) := by
  refine F.ok scRNames (fun vs H Q E h => ?_) (fun cdv A outer s H vs Q E hr h => ?_)
  · obtain ⟨x, d, ks, ps, rs, bs, rfl, _⟩ := h
    rfl
  · obtain ⟨x, d, ks, ps, rs, bs, rfl, hM, h60, k⟩ := h
    refine ⟨_, pss_one (ps_ret (pe_callTy call_tuple_of (by rfl) ht (by decide +kernel) (pa_cons (pe_lc (own := [("road", 1)]) (g := gName 1) (tt := tYes) rfl scRNames.nd (pi_tup (pe_fld (pv 0) rfl)) (blkOk_by (N := ["self", "road"]) (sc := defScope sRNames) (by decide +kernel)) (fun _ _ _ _ _ => pg_name (i := 1) scRNames.nd rfl (Or.inl rfl)) (fun _ _ _ _ _ => pts_nil)
          (fun _ _ _ _ _ => pe_ix (r := rIxT K) ix_tup (pv 1) (pe_gI hn) (fun _ _ => rfl))) pa_nil))), ?_⟩
    obtain ⟨dx, fs, kk, pp, rr, D, bb, D2, ys, zs, hx, F7⟩ := hM.m
    have hP := hM.t
    refine ⟨_, rfl, x, M, dx, fs, _, rfl, hx, TM.cl, TM.n4, F7.f4, rr, rfl, ⟨_, SqT.of F7.r⟩, fun L nL => lc_tup (K := K) (a := rr) (xs := ys) (fun i H1 => Grew P H H1 ∧ H1 L = some (.lst (namesV (rs.take i))))
      ⟨Grew.new hP nL, upd_same⟩ (fun i H1 _ p => SqT.of (p.1.tup hP F7.r)) (fun i y H1 hy p => ?_) (fun H1 p => ?_)⟩
    · obtain ⟨g, hD⟩ := p
      obtain ⟨r, hr1, m⟩ := Paired.at F7.ry hy
      obtain ⟨t, q, h, rfl, et, _⟩ := m.grew g hP
      have hi := (List.getElem?_eq_some_iff.mp hr1).1
      refine ⟨rfl, _, rfl, t, _, 0, .str r.name, rfl, rfl, SqT.of et, rfl, _, hD, ?_, g.write hD (fun _ z => by cases z) nL, ?_⟩
      · unfold namesV
        rw [List.length_map, List.length_map, List.length_take, sizeLine_eq]; omega
      · rw [upd_same, List.take_succ, hr1, namesV_app]; rfl
    · obtain ⟨g, hD⟩ := p
      rw [← Paired.len F7.ry, List.take_length] at hD
      refine ⟨L, _, rfl, .inl ⟨SqL.of hD, fun q nq => ?_⟩⟩
      exact k _ q (g.put nq) (g.free nq) upd_same
theorem scRFrom : FnScope ["self", "place", "road"] ["self", "place"] (defScope sRFrom) := ⟨rfl, rfl, rfl, by decide +kernel, rfl, by decide +kernel, by decide +kernel⟩
theorem ok_rfrom {f M U fC : Addr} {fd fdC : FuncData} {t1 t2 : Tok} (F : Fun K "roads_from" "Map.roads_from" sRFrom f fd) (TM : TxtM K M) (hn : mg "NAME" = some (.int 0 t1)) (hst : mg "START" = some (.int 1 t2)) (mC : Meth K M "check_place" fC)
    (GC : FnOk Pg w K mg base (L2.CX Pg w) 3 fC fdC ["self", "place"] (spChkL K M U selP)) (bC : Binds K fdC ["self", "place"] []) : FnOk Pg w K mg base (L2.CX Pg w) 4 f fd ["self", "place"] (spRFrom K M P) := by
  refine F.okX scRFrom (fun vs H Q E h => ?_) (fun cdv A outer s H vs Q E hr h => ?_)
  · obtain ⟨x, z, d, ks, ps, rs, bs, rfl, _⟩ := h
    rfl
  · obtain ⟨x, z, d, ks, ps, rs, bs, rfl, hz, hzp, hM, h60, k⟩ := h
    refine ⟨_, pss_cons (ps_expr (pe_meth (pv 0) TM.cl mC GC hr bC .nil (passF rfl rfl) (pa_cons (pv 1) pa_nil)))
      (pss_one (ps_ret (pe_lc (own := [("road", 2)]) (g := gName 2) rfl scRFrom.nd (pi_tup (pe_fld (pv 0) rfl)) (blkOk_by (N := ["self", "place", "road"]) (sc := defScope sRFrom) (by decide +kernel)) (fun _ _ _ _ _ => pg_name (i := 2) scRFrom.nd rfl (Or.inl rfl))
          (fun _ _ _ _ _ => pts_one (pt_cmpR op_eq (pe_ix (r := rIxT K) ix_tup (pv 2) (pe_gI hst) (fun _ _ => rfl)) (pv 1) (nomark _)))
          (fun _ _ _ _ _ => pe_ix (r := rIxT K) ix_tup (pv 2) (pe_gI hn) (fun _ _ => rfl))))), ?_⟩
    obtain ⟨dx, fs, kk, pp, rr, D, bb, D2, ys, zs, hx, F7⟩ := hM.m
    have hP := hM.t
    refine ⟨_, rfl, x, dx, fs, rfl, hx, F7.f0 _ (by decide +kernel), _, rfl, x, z, d, ks, ps, rs, bs, rfl, hz, hM.m, fun _ => ?_, fun no => absurd hzp no⟩
    refine ⟨_, rfl, x, M, dx, fs, _, rfl, hx, TM.cl, TM.n4, F7.f4, rr, rfl, ⟨_, SqT.of F7.r⟩, fun L nL => lc_tup (K := K) (a := rr) (xs := ys) (fun i H1 => Grew P H H1 ∧ H1 L = some (.lst (namesV ((rs.take i).filter fun r => decide (r.start = z)))))
      ⟨Grew.new hP nL, upd_same⟩ (fun i H1 _ p => SqT.of (p.1.tup hP F7.r)) (fun i y H1 hy p => ?_) (fun H1 p => ?_)⟩
    · obtain ⟨g, hD⟩ := p
      obtain ⟨r, hr1, m⟩ := Paired.at F7.ry hy
      obtain ⟨t, q, h, rfl, et, _⟩ := m.grew g hP
      have hi := (List.getElem?_eq_some_iff.mp hr1).1
      rw [filter_take hr1]
      refine ⟨rfl, _, rfl, t, _, 1, .str r.start, rfl, rfl, SqT.of et, rfl, _, rfl, rfl, _, rfl, ?_⟩
      by_cases c : r.start = z
      · rw [decide_eq_true (congrArg V.str c), if_pos (decide_eq_true c)]
        refine if_t rfl ⟨_, rfl, t, _, 0, .str r.name, rfl, rfl, SqT.of et, rfl, _, hD, ?_, g.write hD (fun _ z => by cases z) nL, ?_⟩
        · refine Nat.lt_of_le_of_lt (namesV_len _) (Nat.lt_of_le_of_lt (List.length_filter_le _ _) ?_)
          rw [List.length_take, sizeLine_eq]; omega
        · rw [upd_same, namesV_app]; rfl
      · rw [decide_eq_false (show ¬ V.str r.start = V.str z from fun e => c (by injection e)), if_neg (by simp [c])]
        exact if_f rfl ⟨g, hD⟩
    · obtain ⟨g, hD⟩ := p
      rw [← Paired.len F7.ry, List.take_length] at hD
      exact k _ L g nL hD
abbrev nFoll : List Str := ["self", "name", "end", "other"]
theorem scFoll : FnScope nFoll ["self", "name"] (defScope sFoll) := ⟨rfl, rfl, rfl, by decide +kernel, rfl, by decide +kernel, by decide +kernel⟩
theorem barred_dec {kvs : List (List Key × V)} {bs : List (Str × Str)} (h : ∀ a b : Str, (valV kvs [.inr a, .inr b]).isSome = true ↔ (a, b) ∈ bs) (a b : Str) : (valV kvs [.inr a, .inr b]).isSome = decide ((a, b) ∈ bs) := by
  by_cases hb : (a, b) ∈ bs
  · rw [(h _ _).mpr hb, decide_eq_true hb]
  · rw [decide_eq_false hb]
    cases c : (valV kvs [.inr a, .inr b]).isSome with
    | false => rfl
    | true => exact absurd ((h _ _).mp c) hb
theorem namesV_at {rs : List RoadD} {i : Nat} {y : V} (h : (namesV rs)[i]? = some y) : ∃ r, rs[i]? = some r ∧ y = .str r.name := by
  unfold namesV at h
  rw [List.getElem?_map, List.getElem?_map] at h
  cases q : rs[i]? with
  | none => rw [q] at h; cases h
  | some r => rw [q] at h; exact ⟨r, rfl, (Option.some.inj h).symm⟩
theorem ok_foll {f M U fR fF : Addr} {fd fdR fdF : FuncData} {t1 : Tok} (F : Fun K "followers" "Map.followers" sFoll f fd) (TM : TxtM K M) (he : mg "END" = some (.int 2 t1)) (mR : Meth K M "road" fR) (mF : Meth K M "roads_from" fF)
    (GR : FnOk Pg w K mg base (L2.CX Pg w) 4 fR fdR ["self", "name"] (spRoadM K M U)) (bR : Binds K fdR ["self", "name"] [])
    (GF : FnOk Pg w K mg base (L2.CX Pg w) 4 fF fdF ["self", "place"] (spRFrom K M P)) (bF : Binds K fdF ["self", "place"] []) : FnOk Pg w K mg base (L2.CX Pg w) 5 f fd ["self", "name"] (spFoll K M P) := by
  refine F.okX scFoll (fun vs H Q E h => ?_) (fun cdv A outer s H vs Q E hr h => ?_)
  · obtain ⟨x, r0, d, ks, ps, rs, bs, rfl, _⟩ := h
    rfl
  · obtain ⟨x, r0, d, ks, ps, rs, bs, rfl, h0, hgp, hgl, hM, h60, k⟩ := h
    refine ⟨_, pss_cons (ps_set (i := 2) scFoll.nd rfl (Or.inl rfl) (pe_ix ix_tup (pe_meth (pv 0) TM.cl mR GR hr bR .nil (passF rfl rfl) (pa_cons (pv 1) pa_nil)) (pe_gI he) (fun _ _ => rfl)))
      (pss_one (ps_ret (pe_lc (own := [("other", 3)]) (g := gName 3) rfl scFoll.nd (pi_list (pe_meth (pv 0) TM.cl mF GF hr bF .nil (passF rfl rfl) (pa_cons (pv 2) pa_nil))) (blkOk_by (N := nFoll) (sc := defScope sFoll) (by decide +kernel)) (fun _ _ _ _ _ => pg_name (i := 3) scFoll.nd rfl (Or.inl rfl))
          (fun _ _ _ _ _ => pts_one (pt_cmp (pc_dnotin (u1 hr.units) (pe_tup (pa_cons (pv 1) (pa_cons (pv 3) pa_nil))) (pe_fldK (K := K) rfl (pv 0) rfl))))
          (fun _ _ _ _ _ => pv 3)))), ?_⟩
    obtain ⟨dx, fs, kk, pp, rr, D, bb, D2, ys, zs, hx, F7⟩ := hM.m
    have hP := hM.t
    refine ⟨_, rfl, x, dx, fs, rfl, hx, F7.f0 _ (by decide +kernel), _, rfl, x, r0.name, d, ks, ps, rs, bs, rfl, hM.nl _ h0, hM.m, fun r hr1 he1 v hv => ?_, fun no => absurd rfl (no r0 h0)⟩
    obtain rfl : r = r0 := uniq_name hM.nd hr1 h0 he1
    obtain ⟨p, q, hv, rfl, ep, _, _⟩ := hv
    refine ⟨p, _, 2, _, rfl, rfl, SqT.of ep, rfl, ?_⟩
    refine ⟨_, rfl, x, dx, fs, rfl, hx, F7.f0 _ (by decide +kernel), _, rfl, x, r.goal, d, ks, ps, rs, bs, rfl, hgl, hgp, hM, h60, fun H1 L1 g1 nL1 eL1 => ?_⟩
    obtain ⟨kvs, hd, hin⟩ := F7.db
    generalize hfl : rs.filter (fun r' => decide (r'.start = r.goal)) = fl at eL1
    have lfl : fl.length ≤ 60 := by rw [← hfl]; exact Nat.le_trans (List.length_filter_le _ _) h60
    refine ⟨L1, rfl, ⟨_, SqL.of eL1⟩, fun L nL => lc_list (K := K) (a := L1) (xs := namesV fl) (fun i H2 => Grew P H1 H2 ∧ H2 L = some (.lst (namesV ((fl.take i).filter fun r' => !decide ((r.name, r'.name) ∈ bs)))))
      ⟨Grew.new g1.tab nL, upd_same⟩ (fun i H2 _ p => SqL.of (p.1.lst g1.tab eL1)) (fun i y H2 hy p => ?_) (fun H2 p => ?_)⟩
    · obtain ⟨g, hD⟩ := p
      obtain ⟨r', hr', rfl⟩ := namesV_at hy
      have hi := (List.getElem?_eq_some_iff.mp hr').1
      rw [filter_take hr']
      have g2 := g1.trans g
      refine ⟨rfl, _, rfl, _, rfl, by show 2 ≤ sizeLine; decide, fun q nq => ?_⟩
      have gq := Grew.new g.tab (o := .tup [.str r.name, .str r'.name]) nq
      have hDq := gq.lst g.tab hD
      refine ⟨_, rfl, x, M, dx, fs, _, rfl, (g2.trans gq).get hP hx (fun _ z => by cases z), TM.cl, TM.n7, F7.f7, D2, _, rfl, DGet.t (k := [.inr r.name, .inr r'.name]) ((g2.trans gq).get hP hd (fun _ z => by cases z)) upd_same, ?_⟩
      rw [barred_dec hin]
      by_cases c : (r.name, r'.name) ∈ bs
      · rw [decide_eq_true c]
        refine ⟨_, rfl, ?_⟩
        exact if_f rfl ⟨g.trans gq, by rw [if_neg (by simp)]; exact hDq⟩
      · rw [decide_eq_false c]
        refine ⟨_, rfl, ?_⟩
        refine if_t rfl ⟨_, rfl, _, hDq, ?_, (g.trans gq).write hDq (fun _ z => by cases z) nL, ?_⟩
        · refine Nat.lt_of_le_of_lt (namesV_len _) (Nat.lt_of_le_of_lt (List.length_filter_le _ _) ?_)
          rw [List.length_take, sizeLine_eq]; omega
        · rw [upd_same, if_pos (by simp), namesV_app]; rfl
    · obtain ⟨g, hD⟩ := p
      have ef : fl.length = (namesV fl).length := by unfold namesV; rw [List.length_map, List.length_map]
      rw [← ef, List.take_length, ← hfl, List.filter_filter] at hD
      refine k _ L (g1.trans g) (g1.free nL) ?_
      rw [hD]
      congr 3
      exact List.filter_congr fun r' _ => Bool.and_comm _ _
end
end W

set_option Elab.async false
set_option linter.all false
set_option maxRecDepth 100000
set_option maxHeartbeats 800000
namespace W
open PySem PySem.Spec PyProof.Rows L2 GxR MyG MyS
/-! ### turns: where a trip can go on -/
def mayB (kind : Str) (bs : List (Str × Str)) (place : Str) (before : Option Str) (r : RoadD) : Bool := decide (r.start = place) && (everB kind r && (match before with | none => true | some b => !decide ((b, r.name) ∈ bs)))
/-- the roads that can be driven next -/
def nxR (kind : Str) (bs : List (Str × Str)) (rs : List RoadD) (place : Str) (before : Option Str) : List RoadD := rs.filter (mayB kind bs place before)
def BehindAt (H : Hp) (D : Addr) (kind start : Str) (rs : List RoadD) (bs : List (Str × Str)) : Prop := ∃ kvs, H D = some (.dK kvs) ∧ (∃ l, valV kvs (.inr Str.empty) = some (.ref l) ∧ H l = some (.lst (namesV (nxR kind bs rs start none)))) ∧
  ∀ r ∈ rs, ∃ l, valV kvs (.inr r.name) = some (.ref l) ∧ H l = some (.lst (namesV (nxR kind bs rs r.goal (some r.name))))
theorem BehindAt.grew {P : Addr} {H H' : Hp} {D : Addr} {kind start : Str} {rs : List RoadD} {bs : List (Str × Str)} (b : BehindAt H D kind start rs bs) (g : Grew P H H') (h : TabG H P) : BehindAt H' D kind start rs bs := by
  obtain ⟨kvs, e, ⟨l, a1, a2⟩, b2⟩ := b
  refine ⟨kvs, g.get h e (fun _ z => by cases z), ⟨l, a1, g.lst h a2⟩, fun r hr => ?_⟩
  obtain ⟨l, c1, c2⟩ := b2 r hr
  exact ⟨l, c1, g.lst h c2⟩
/-- the map's roads lead between its places; no name is empty -/
structure RsIn (ps : List Str) (rs : List RoadD) : Prop where
  l60 : rs.length ≤ 60
  goal : ∀ r ∈ rs, r.goal ∈ ps
  ne : ∀ r ∈ rs, r.name ≠ Str.empty
abbrev sRTurns : Stmt := top 40
def RowsAt (H : Hp) (D : Addr) (kind : Str) (rs : List RoadD) (bs : List (Str × Str)) : Prop := ∃ kvs, H D = some (.dK kvs) ∧ kvs.length ≤ 60 ∧ ∀ r ∈ rs, ∃ l, valV kvs (.inr r.name) = some (.ref l) ∧ H l = some (.lst (namesV (nxR kind bs rs r.goal (some r.name))))
def spRTurns (K : PySem.W.Frag) (M P : Addr) : Sp := fun vs H Q _ => ∃ (x : Addr) (kind : Str) (d : Int) (ks ps : List Str) (rs : List RoadD) (bs : List (Str × Str)), vs = [.ref x, .str kind] ∧ MIn K H M P x d ks ps rs bs ∧ RsIn ps rs ∧ kind.length ≤ 1000 ∧ kind ∈ ks ∧ (∀ z ∈ ps, z.length ≤ 1000) ∧
  ∀ H' D, Grew P H H' → H D = none → RowsAt H' D kind rs bs → Q (.ref D) H'
def spTurns (K : PySem.W.Frag) (M P : Addr) : Sp := fun vs H Q _ => ∃ (x : Addr) (kind start : Str) (d : Int) (ks ps : List Str) (rs : List RoadD) (bs : List (Str × Str)), vs = [.ref x, .str kind, .str start] ∧ MIn K H M P x d ks ps rs bs ∧ RsIn ps rs ∧ kind.length ≤ 1000 ∧ kind ∈ ks ∧ start ∈ ps ∧ (∀ z ∈ ps, z.length ≤ 1000) ∧
  ∀ H' D, Grew P H H' → H D = none → BehindAt H' D kind start rs bs → Q (.ref D) H'
theorem nx_none (kind : Str) (bs : List (Str × Str)) (rs : List RoadD) (start : Str) : (rs.filter fun r => decide (r.start = start)).filter (everB kind) = nxR kind bs rs start none := by
  rw [List.filter_filter]
  refine List.filter_congr fun r _ => ?_
  unfold mayB
  rw [Bool.and_true, Bool.and_comm]
theorem nx_some (kind : Str) (bs : List (Str × Str)) (rs : List RoadD) (r0 : RoadD) : (rs.filter fun r => decide (r.start = r0.goal) && !decide ((r0.name, r.name) ∈ bs)).filter (everB kind) = nxR kind bs rs r0.goal (some r0.name) := by
  rw [List.filter_filter]
  refine List.filter_congr fun r _ => ?_
  unfold mayB
  generalize everB kind r = a
  generalize decide (r.start = r0.goal) = b
  show (a && (b && !decide ((r0.name, r.name) ∈ bs))) = (b && (a && !decide ((r0.name, r.name) ∈ bs)))
  generalize (!decide ((r0.name, r.name) ∈ bs)) = c
  cases a <;> cases b <;> cases c <;> rfl
section
variable {Pg : Program} {w : World} {K : PySem.W.Frag} {mg : Str → Option Value} {base : Heap} {C P : Addr}
theorem pi_listK {X : Cx} {l tg : Expr} {tl : TE} {K : PySem.W.Frag} (hK : X.K = K) (hl : PE X l tl) : PI X tg l (iList K tl) := by
  subst hK
  exact pi_list hl
abbrev scIn : Scope := { kind := ScopeKind.function, names := [(Str.ofString ".0", NameKind.local), (Str.ofString "last", NameKind.local), (Str.ofString "chart", NameKind.free), (Str.ofString "usable", NameKind.free)], isGenerator := false, isCoroutine := false }
abbrev nRTurns : List Str := ["chart", "kind", "usable", "last", "name"]
theorem scRTurns : FnScope nRTurns ["chart", "kind"] (defScope sRTurns) := ⟨rfl, rfl, rfl, by decide +kernel, rfl, by decide +kernel, by decide +kernel⟩
theorem ok_rturns {f M U fN fL fE pN : Addr} {fd fdN fdL fdE : FuncData} (F : Fun K "road_turns" "road_turns" sRTurns f fd) (TM : TxtM K M) (pr : PropOf K M "road_names" pN fN) (mL : Meth K M "followers" fL)
    (GN : FnOk Pg w K mg base CX0 1 fN fdN ["self"] (spRNames K M P)) (bN : Binds K fdN ["self"] [])
    (GL : FnOk Pg w K mg base (L2.CX Pg w) 5 fL fdL ["self", "name"] (spFoll K M P)) (bL : Binds K fdL ["self", "name"] [])
    (GE : FnOk Pg w K mg base (L2.CX Pg w) 6 fE fdE ["chart", "kind", "name"] (spEver K M P)) (gE : mg "can_ever_enter" = some (.ref fE)) (kE : PySem.W.keepIn K (.ref fE) = true) (bE : Binds K fdE ["chart", "kind", "name"] []) :
    FnOk Pg w K mg base (L2.CX Pg w) 7 f fd ["chart", "kind"] (spRTurns K M P) := by
  refine F.okX scRTurns (fun vs H Q E h => ?_) (fun cdv A outer s H vs Q E hr h => ?_)
  · obtain ⟨x, kind, d, ks, ps, rs, bs, rfl, _⟩ := h
    rfl
  · obtain ⟨x, kind, d, ks, ps, rs, bs, rfl, hM, hin, hkl, hk, hpl, k⟩ := h
    refine ⟨_, pss_cons (ps_set (i := 2) scRTurns.nd rfl (Or.inr rfl) (pe_dc (own := [("name", 4)]) (g := gName 4) (tt := tYes) rfl scRTurns.nd (pi_tup (pe_prop (pv 0) TM.cl pr GN (hr.mono (by decide)) bN .nil pass0 rfl)) (blkOk_by (N := nRTurns) (sc := defScope sRTurns) (by decide +kernel)) (fun _ _ _ _ _ => pg_name (i := 4) scRTurns.nd rfl (Or.inl rfl)) (fun _ _ _ _ _ => pts_nil)
          (fun _ _ _ _ _ => pv 4) (fun _ _ _ _ _ => pe_call (E := E0) GE hr (by rfl) gE kE bE .nil (passF rfl rfl) (pa_cons (pv 0) (pa_cons (pv 1) (pa_cons (pv 4) pa_nil))))))
      (pss_one (ps_ret (pe_dc (own := [("last", 3)]) (g := gName 3) (tt := tYes) rfl scRTurns.nd (pi_tup (pe_prop (pv 0) TM.cl pr GN (hr.mono (by decide)) bN .nil pass0 rfl)) (blkOk_by (N := nRTurns) (sc := defScope sRTurns) (by decide +kernel)) (fun _ _ _ _ _ => pg_name (i := 3) scRTurns.nd rfl (Or.inl rfl)) (fun _ _ _ _ _ => pts_nil)
          (fun _ _ _ _ _ => pv 3)
          (fun _ _ _ _ _ => pe_lc (own := [("name", 4)]) (g := gName 4) rfl scRTurns.nd (pi_listK (K := K) rfl (pe_meth (pv 0) TM.cl mL GL (hr.mono (by decide)) bL .nil (passF rfl rfl) (pa_cons (pv 3) pa_nil))) (blkOk_by (N := nRTurns) (sc := relS scIn (defScope sRTurns)) (by decide +kernel)) (fun _ _ _ _ _ => pg_name (i := 4) scRTurns.nd rfl (Or.inl rfl))
            (fun _ _ _ _ _ => pts_one (pt_val (pe_dget (u1 hr.units) (pv 2) (pv 4) (fun _ _ => rfl)))) (fun _ _ _ _ _ => pv 4))))), ?_⟩
    obtain ⟨dx, fs, kk, pp, rr, D0, bb, D2, ys, zs, hx, F7⟩ := hM.m
    have hP := hM.t
    have l60 := hin.l60
    have hxg : ∀ {H' : Hp}, Grew P H H' → H' x = some (.ins M dx fs) := fun g => g.get hP hx (fun _ z => by cases z)
    have lnv : (namesV rs).length = rs.length := by unfold namesV; rw [List.length_map, List.length_map]
    have nameNe : ∀ {i j : Nat} {r r' : RoadD}, rs[i]? = some r → rs[j]? = some r' → j ≠ i → ¬ (Sum.inr r'.name : Key) = .inr r.name := fun {i j r r'} hr1 hr' hne z => by
      injection z with z
      obtain ⟨a1, a2⟩ := List.getElem?_eq_some_iff.mp hr'
      obtain ⟨b1, b2⟩ := List.getElem?_eq_some_iff.mp hr1
      rcases Nat.lt_or_gt_of_ne hne with lt | lt
      · refine absurd ?_ (List.pairwise_iff_getElem.mp hM.nd j i (by rw [List.length_map]; exact a1) (by rw [List.length_map]; exact b1) lt)
        rw [List.getElem_map, List.getElem_map, a2, b2]
        exact z
      · refine absurd ?_ (List.pairwise_iff_getElem.mp hM.nd i j (by rw [List.length_map]; exact b1) (by rw [List.length_map]; exact a1) lt)
        rw [List.getElem_map, List.getElem_map, a2, b2]
        exact z.symm
    refine ⟨_, rfl, x, dx, fs, rfl, hx, x, d, ks, ps, rs, bs, rfl, hM, l60, fun H1 t1 g1 nt1 et1 => ?_⟩
    refine ⟨t1, rfl, ⟨_, SqT.of et1⟩, fun U nU => dc_tup (K := K) (a := t1) (xs := namesV rs) (fun i H2 => Grew P H1 H2 ∧ ∃ kvs, H2 U = some (.dK kvs) ∧ kvs.length ≤ i ∧ ∀ j r, j < i → rs[j]? = some r → valV kvs (.inr r.name) = some (.bl (everB kind r)))
      ⟨Grew.new g1.tab nU, [], upd_same, Nat.le_refl _, fun j r h => absurd h (Nat.not_lt_zero _)⟩ (fun i H2 _ p => SqT.of (p.1.tup g1.tab et1)) (fun i y H2 hy p => ?_) (fun H2 p => ?_)⟩
    · obtain ⟨g, kvs, hD, hl, hin2⟩ := p
      obtain ⟨r, hr1, rfl⟩ := namesV_at hy
      have hi := (List.getElem?_eq_some_iff.mp hr1).1
      have g2 := g1.trans g
      refine ⟨rfl, _, rfl, _, rfl, _, rfl, _, rfl, x, kind, d, ks, ps, rs, bs, r, rfl, hkl, hk, hM.grew g2, List.mem_of_getElem? hr1, fun H3 g3 => ?_⟩
      have hD3 := g3.get g2.tab hD (fun _ z => by cases z)
      refine ⟨kvs, .inr r.name, rfl, hD3, by rw [sizeLine_eq]; omega, (g.trans g3).write hD3 (fun _ z => by cases z) nU, _, upd_same, Nat.le_trans (length_putK kvs _ _) (by omega), fun j r' hj hr' => ?_⟩
      rw [valV_put]
      by_cases e : j = i
      · subst e
        rw [hr1] at hr'
        cases hr'
        rw [if_pos rfl]
      · rw [if_neg (nameNe hr1 hr' e)]
        exact hin2 j r' (by omega) hr'
    · obtain ⟨g, kvsU, hU, _, hin2⟩ := p
      rw [lnv] at hin2
      have usable : ∀ {H' : Hp}, Grew P H2 H' → ∀ r ∈ rs, DGet H' U (.str r.name) (some (.bl (everB kind r))) := fun g' r hr => by
        obtain ⟨j, hj, ej⟩ := List.getElem_of_mem hr
        rw [← hin2 j r hj (List.getElem?_eq_some_iff.mpr ⟨hj, ej⟩)]
        exact DGet.k (k := .inr r.name) (g'.get g.tab hU (fun _ z => by cases z))
      have gA := g1.trans g
      refine ⟨_, rfl, x, dx, fs, rfl, hxg gA, x, d, ks, ps, rs, bs, rfl, hM.grew gA, l60, fun H6 t2 g6 nt2 et2 => ?_⟩
      have gA6 := gA.trans g6
      refine ⟨t2, rfl, ⟨_, SqT.of et2⟩, fun D nD => dc_tup (K := K) (a := t2) (xs := namesV rs) (fun i H' => Grew P H6 H' ∧ ∃ kvs, H' D = some (.dK kvs) ∧ kvs.length ≤ i ∧ ∀ j r, j < i → rs[j]? = some r → ∃ l, valV kvs (.inr r.name) = some (.ref l) ∧ H' l = some (.lst (namesV (nxR kind bs rs r.goal (some r.name)))))
        ⟨Grew.new g6.tab nD, [], upd_same, Nat.le_refl _, fun j r h => absurd h (Nat.not_lt_zero _)⟩ (fun i H' _ p => SqT.of (p.1.tup g6.tab et2)) (fun i y H7 hy p => ?_) (fun H7 p => ?_)⟩
      · obtain ⟨g67, kvs, hD7, hlk, hall⟩ := p
        obtain ⟨r, hr1, rfl⟩ := namesV_at hy
        have hri := (List.getElem?_eq_some_iff.mp hr1).1
        have mr := List.mem_of_getElem? hr1
        have g27 := g6.trans g67
        have gH7 := gA.trans g27
        refine ⟨rfl, _, rfl, _, rfl, x, dx, fs, rfl, hxg gH7, F7.f0 _ (by decide +kernel), _, rfl, x, r, d, ks, ps, rs, bs, rfl, mr, hin.goal r mr, hpl _ (hin.goal r mr), hM.grew gH7, l60, fun H8 L2' g8 nL2 eL2 => ?_⟩
        generalize hf2 : rs.filter (fun r' => decide (r'.start = r.goal) && !decide ((r.name, r'.name) ∈ bs)) = fl2 at eL2
        have lf2 : fl2.length ≤ 60 := by rw [← hf2]; exact Nat.le_trans (List.length_filter_le _ _) l60
        have sf2 : ∀ r ∈ fl2, r ∈ rs := fun r hr => by rw [← hf2] at hr; exact (List.mem_filter.mp hr).1
        have g28 := g27.trans g8
        refine ⟨L2', rfl, ⟨_, SqL.of eL2⟩, fun L nL => lc_list (K := K) (a := L2') (xs := namesV fl2) (fun i H4 => Grew P H8 H4 ∧ H4 L = some (.lst (namesV ((fl2.take i).filter (everB kind)))))
          ⟨Grew.new g8.tab nL, upd_same⟩ (fun i H4 _ p => SqL.of (p.1.lst g8.tab eL2)) (fun i y H4 hy p => ?_) (fun H4 p => ?_)⟩
        · obtain ⟨g', hD⟩ := p
          obtain ⟨r', hr', rfl⟩ := namesV_at hy
          have hi := (List.getElem?_eq_some_iff.mp hr').1
          rw [filter_take hr']
          refine ⟨rfl, _, rfl, _, rfl, U, _, rfl, usable (g28.trans g') r' (sf2 r' (List.mem_of_getElem? hr')), _, rfl, ?_⟩
          refine ite2 (fun c => ?_) (fun c => ?_)
          · refine ⟨_, rfl, _, hD, ?_, g'.write hD (fun _ z => by cases z) nL, ?_⟩
            · refine Nat.lt_of_le_of_lt (namesV_len _) (Nat.lt_of_le_of_lt (List.length_filter_le _ _) ?_)
              rw [List.length_take, sizeLine_eq]
              have := lf2
              omega
            · rw [upd_same, if_pos c, namesV_app]; rfl
          · rw [if_neg c]
            exact ⟨g', hD⟩
        · obtain ⟨g', hD⟩ := p
          have ef : (fl2).length = (namesV (fl2)).length := by unfold namesV; rw [List.length_map, List.length_map]
          rw [← ef, List.take_length] at hD
          rw [← hf2, nx_some kind bs] at hD
          have g78 := g8.trans g'
          have g7 := g67
          have hD9 := g78.get (g6.trans g67).tab hD7 (fun _ z => by cases z)
          have neD : ∀ {b : Addr} {xs : List V} {H' : Hp}, H' D = some (.dK kvs) → H' b = some (.lst xs) → b ≠ D := fun e1 e2 z => by rw [z, e1] at e2; cases e2
          refine ⟨kvs, .inr r.name, rfl, hD9, by rw [sizeLine_eq]; omega, (g67.trans g78).write hD9 (fun _ z => by cases z) nD, _, upd_same, Nat.le_trans (length_putK kvs _ _) (by omega), fun j r2 hj hr2 => ?_⟩
          rw [valV_put]
          by_cases e : j = i
          · subst e
            rw [hr1] at hr2
            cases hr2
            rw [if_pos rfl]
            exact ⟨L, rfl, by rw [upd_ne (neD hD9 hD)]; exact hD⟩
          · rw [if_neg (nameNe hr1 hr2 e)]
            obtain ⟨l, c1, c2⟩ := hall j r2 (by omega) hr2
            exact ⟨l, c1, by rw [upd_ne (neD hD7 c2)]; exact g78.lst (g6.trans g67).tab c2⟩
      · obtain ⟨g67, kvs, hD7, hlk, hall⟩ := p
        rw [lnv] at hall hlk
        refine k H7 D (gA6.trans g67) (gA6.free nD) ⟨kvs, hD7, Nat.le_trans hlk l60, fun r hr => ?_⟩
        obtain ⟨j, hj, ej⟩ := List.getElem_of_mem hr
        exact hall j r hj (List.getElem?_eq_some_iff.mpr ⟨hj, ej⟩)
abbrev nTurns : List Str := ["chart", "kind", "start", "behind", "name"]
theorem scTurns : FnScope nTurns ["chart", "kind", "start"] (defScope sTurns) := ⟨rfl, rfl, rfl, by decide +kernel, rfl, by decide +kernel, by decide +kernel⟩
theorem ok_turns {f M U fR fF fE : Addr} {fd fdR fdF fdE : FuncData} {t1 : Tok} (F : Fun K "turns" "turns" sTurns f fd) (TM : TxtM K M) (hno : mg "NO_ROAD" = some (.str Str.empty t1)) (mF : Meth K M "roads_from" fF)
    (GR : FnOk Pg w K mg base (L2.CX Pg w) 7 fR fdR ["chart", "kind"] (spRTurns K M P)) (gR : mg "road_turns" = some (.ref fR)) (kR : PySem.W.keepIn K (.ref fR) = true) (bR : Binds K fdR ["chart", "kind"] [])
    (GF : FnOk Pg w K mg base (L2.CX Pg w) 4 fF fdF ["self", "place"] (spRFrom K M P)) (bF : Binds K fdF ["self", "place"] [])
    (GE : FnOk Pg w K mg base (L2.CX Pg w) 6 fE fdE ["chart", "kind", "name"] (spEver K M P)) (gE : mg "can_ever_enter" = some (.ref fE)) (kE : PySem.W.keepIn K (.ref fE) = true) (bE : Binds K fdE ["chart", "kind", "name"] []) :
    FnOk Pg w K mg base (L2.CX Pg w) 8 f fd ["chart", "kind", "start"] (spTurns K M P) := by
  refine F.okX scTurns (fun vs H Q E h => ?_) (fun cdv A outer s H vs Q E hr h => ?_)
  · obtain ⟨x, kind, start, d, ks, ps, rs, bs, rfl, _⟩ := h
    rfl
  · obtain ⟨x, kind, start, d, ks, ps, rs, bs, rfl, hM, hin, hkl, hk, hst, hpl, k⟩ := h
    refine ⟨_, pss_cons (ps_set (i := 3) scTurns.nd rfl (Or.inl rfl) (pe_call (E := E0) GR hr (by rfl) gR kR bR .nil (passF rfl rfl) (pa_cons (pv 0) (pa_cons (pv 1) pa_nil))))
      (pss_cons (ps_dput (u1 hr.units) (pv 3) (pe_gS hno) (pe_lc (own := [("name", 4)]) (g := gName 4) rfl scTurns.nd (pi_list (pe_meth (pv 0) TM.cl mF GF (hr.mono (by decide)) bF .nil (passF rfl rfl) (pa_cons (pv 2) pa_nil))) (blkOk_by (N := nTurns) (sc := defScope sTurns) (by decide +kernel)) (fun _ _ _ _ _ => pg_name (i := 4) scTurns.nd rfl (Or.inl rfl))
          (fun _ _ _ _ _ => pts_one (pt_val (pe_call (E := E0) GE (hr.mono (by decide)) (by rfl) gE kE bE .nil (passF rfl rfl) (pa_cons (pv 0) (pa_cons (pv 1) (pa_cons (pv 4) pa_nil)))))) (fun _ _ _ _ _ => pv 4)) rfl)
      (pss_one (ps_ret (pv 3)))), ?_⟩
    obtain ⟨dx, fs, kk, pp, rr, D0, bb, D2, ys, zs, hx, F7⟩ := hM.m
    have hP := hM.t
    have l60 := hin.l60
    have hxg : ∀ {H' : Hp}, Grew P H H' → H' x = some (.ins M dx fs) := fun g => g.get hP hx (fun _ z => by cases z)
    refine ⟨_, rfl, _, rfl, x, kind, d, ks, ps, rs, bs, rfl, hM, hin, hkl, hk, hpl, fun H2 D g2D nD hRows => ?_⟩
    obtain ⟨kvs, hD2, hlk, hall⟩ := hRows
    refine ⟨_, rfl, x, dx, fs, rfl, hxg g2D, F7.f0 _ (by decide +kernel), _, rfl, x, start, d, ks, ps, rs, bs, rfl, hpl start hst, hst, hM.grew g2D, l60, fun H3 L1 g3 nL1 eL1 => ?_⟩
    generalize hfl : rs.filter (fun r' => decide (r'.start = start)) = fl at eL1
    have lfl : fl.length ≤ 60 := by rw [← hfl]; exact Nat.le_trans (List.length_filter_le _ _) l60
    have sfl : ∀ r ∈ fl, r ∈ rs := fun r hr => by rw [← hfl] at hr; exact (List.mem_filter.mp hr).1
    have g23 := g2D.trans g3
    refine ⟨L1, rfl, ⟨_, SqL.of eL1⟩, fun L nL => lc_list (K := K) (a := L1) (xs := namesV fl) (fun i H4 => Grew P H3 H4 ∧ H4 L = some (.lst (namesV ((fl.take i).filter (everB kind)))))
      ⟨Grew.new g3.tab nL, upd_same⟩ (fun i H4 _ p => SqL.of (p.1.lst g3.tab eL1)) (fun i y H4 hy p => ?_) (fun H4 p => ?_)⟩
    · obtain ⟨g', hD⟩ := p
      obtain ⟨r', hr', rfl⟩ := namesV_at hy
      have hi := (List.getElem?_eq_some_iff.mp hr').1
      rw [filter_take hr']
      refine ⟨rfl, _, rfl, _, rfl, _, rfl, x, kind, d, ks, ps, rs, bs, r', rfl, hkl, hk, hM.grew (g23.trans g'), sfl r' (List.mem_of_getElem? hr'), fun H5 g5 => ⟨_, rfl, ?_⟩⟩
      have hD5 := g5.get (g23.trans g').tab hD (fun _ z => by cases z)
      refine ite2 (fun c => ?_) (fun c => ?_)
      · refine ⟨_, rfl, _, hD5, ?_, (g'.trans g5).write hD5 (fun _ z => by cases z) nL, ?_⟩
        · refine Nat.lt_of_le_of_lt (namesV_len _) (Nat.lt_of_le_of_lt (List.length_filter_le _ _) ?_)
          rw [List.length_take, sizeLine_eq]
          have := lfl
          omega
        · rw [upd_same, if_pos c, namesV_app]; rfl
      · rw [if_neg c]
        exact ⟨g'.trans g5, hD5⟩
    · obtain ⟨g', hD⟩ := p
      have ef : (fl).length = (namesV (fl)).length := by unfold namesV; rw [List.length_map, List.length_map]
      rw [← ef, List.take_length] at hD
      rw [← hfl, nx_none kind bs] at hD
      have g24 := g3.trans g'
      have hD4 := g24.get g2D.tab hD2 (fun _ z => by cases z)
      have neD : ∀ {b : Addr} {xs : List V} {H' : Hp}, H' D = some (.dK kvs) → H' b = some (.lst xs) → b ≠ D := fun e1 e2 z => by rw [z, e1] at e2; cases e2
      refine ⟨_, rfl, D, _, rfl, DPut.k (k := .inr Str.empty) hD4 (by rw [sizeLine_eq]; omega), ?_⟩
      have gW := (g2D.trans g24).write (o := .dK (putK kvs (.inr Str.empty) (.ref L))) hD4 (fun _ z => by cases z) nD
      refine ⟨_, rfl, k _ D gW nD ⟨_, upd_same, ⟨L, ?_, by rw [upd_ne (neD hD4 hD)]; exact hD⟩, fun r mr => ?_⟩⟩
      · rw [valV_put, if_pos rfl]
      · obtain ⟨l, c1, c2⟩ := hall r mr
        refine ⟨l, ?_, by rw [upd_ne (neD hD2 c2)]; exact g24.lst g2D.tab c2⟩
        rw [valV_put, if_neg (fun z => hin.ne r mr (Sum.inr.inj z))]
        exact c1
end
end W

set_option Elab.async false
set_option linter.all false
set_option maxRecDepth 100000
set_option maxHeartbeats 800000
namespace W
open PySem
/-! ### arrivals: there is one, it is not ahead of the moment, and a later moment leads to no earlier one -/
def ar (d : Int) (r : RoadD) (t : Int) : Int := (arriveD d r t).getD 0
theorem ar_some {d : Int} {r : RoadD} (hd : 1 ≤ d) (ho : HoursOk d r.hours) (hn : r.hours ≠ some []) (t : Int) : arriveD d r t = some (ar d r t) ∧ ∃ e, enterR d r t = some e ∧ ar d r t = e + r.minutes ∧ t ≤ e := by
  unfold ar arriveD enterR
  obtain ⟨nm, st, go, mi, us, hs⟩ := r
  cases hs with
  | none => exact ⟨rfl, t, rfl, rfl, Int.le_refl _⟩
  | some ps =>
    have hf := enterD_first (t := t) hd ho.2
    cases e : enterD d (some ps) t with
    | some v =>
      rw [e] at hf
      obtain ⟨k, k0, _, ev, _⟩ := hf
      exact ⟨rfl, v, rfl, rfl, by omega⟩
    | none =>
      exfalso
      have hne : ps ≠ [] := fun z => hn (by rw [z])
      obtain ⟨o1, o2, o3⟩ := open_last ho.2 hne (by decide)
      rw [e] at hf
      -- the last open minute comes within two days
      have m0 := Int.emod_nonneg t (show d ≠ 0 by omega)
      have m1 := Int.emod_lt_of_pos t (show 0 < d by omega)
      by_cases c : t % d ≤ lastP 0 ps - 1
      · have q := hf (lastP 0 ps - 1 - t % d) (by omega) (by omega)
        have em := mod_base (t := t) (d := d) (j := lastP 0 ps - 1) hd (by omega) (by omega)
        rw [show t + (lastP 0 ps - 1 - t % d) = t - t % d + (lastP 0 ps - 1) by omega, em, o1] at q
        cases q
      · have q := hf (lastP 0 ps - 1 + d - t % d) (by omega) (by omega)
        have em := mod_baseU (t := t) (d := d) (j := lastP 0 ps - 1 + d) hd (by omega) (by omega)
        rw [show t + (lastP 0 ps - 1 + d - t % d) = t - t % d + (lastP 0 ps - 1 + d) by omega, em, show lastP 0 ps - 1 + d - d = lastP 0 ps - 1 by omega, o1] at q
        cases q
theorem ar_mono {d : Int} {r : RoadD} (hd : 1 ≤ d) (ho : HoursOk d r.hours) (hn : r.hours ≠ some []) {t u : Int} (h : t ≤ u) : ar d r t ≤ ar d r u := by
  obtain ⟨_, e, he, ha, hle⟩ := ar_some hd ho hn t
  obtain ⟨_, f, hf, hb, hlf⟩ := ar_some hd ho hn u
  rw [ha, hb]
  have key : e ≤ f := by
    unfold enterR at he hf
    obtain ⟨nm, st, go, mi, us, hs⟩ := r
    cases hs with
    | none =>
      obtain rfl := Option.some.inj he
      obtain rfl := Option.some.inj hf
      exact h
    | some ps =>
      have q1 := enterD_first (t := t) hd ho.2
      have q2 := enterD_first (t := u) hd ho.2
      have he' : enterD d (some ps) t = some e := he
      have hf' : enterD d (some ps) u = some f := hf
      rw [he'] at q1
      rw [hf'] at q2
      obtain ⟨k, k0, k1, ev, _, kn⟩ := q1
      obtain ⟨j, j0, j1, fv, jo, _⟩ := q2
      rcases Int.lt_or_le f e with c | c
      · have q := kn (f - t) (by omega) (by omega)
        rw [show t + (f - t) = u + j by omega, jo] at q
        cases q
      · exact c
  omega
/-! ### the search -/
abbrev Node := Option RoadD
def nmN : Node → Str
  | none => Str.empty
  | some r => r.name
structure Ent where
  n : Node
  t : Int
  pv : Option Node
/-- what stands firm all through the search -/
structure SG (d : Int) (rs : List RoadD) : Prop where
  d1 : 1 ≤ d
  nd : (rs.map (·.name)).Nodup
  ne : ∀ r ∈ rs, r.name ≠ Str.empty
  ho : ∀ r ∈ rs, HoursOk d r.hours
  mi : ∀ r ∈ rs, 1 ≤ r.minutes
section
variable (d : Int) (kind : Str) (bs : List (Str × Str)) (rs : List RoadD) (start : Str) (moment : Int)
def nxN : Node → List RoadD
  | none => nxR kind bs rs start none
  | some r => nxR kind bs rs r.goal (some r.name)
structure SInv (es qs : List Ent) (cur : Ent) (rest : List RoadD) : Prop where
  root : (⟨none, moment, none⟩ : Ent) ∈ es
  nd : (es.map (·.n)).Nodup
  mem : ∀ e ∈ es, ∀ r, e.n = some r → r ∈ rs
  rt : ∀ e ∈ es, e.n = none → e.t = moment ∧ e.pv = none
  sub : ∀ q ∈ qs, q ∈ es
  qn : (qs.map (·.n)).Nodup
  lo : ∀ e ∈ es, e ∉ qs → e.t ≤ cur.t
  hi : ∀ q ∈ qs, cur.t ≤ q.t
  cd : rest ≠ [] → cur ∈ es ∧ cur ∉ qs ∧ ∀ r ∈ rest, r ∈ nxN kind bs rs start cur.n
  lnk : ∀ e ∈ es, ∀ r, e.n = some r → ∃ p ∈ es, p ∉ qs ∧ e.pv = some p.n ∧ r ∈ nxN kind bs rs start p.n ∧ e.t = ar d r p.t
  ge : ∀ e ∈ es, moment ≤ e.t
  cls : ∀ p ∈ es, p ∉ qs → ∀ r ∈ nxN kind bs rs start p.n, (p = cur ∧ r ∈ rest) ∨ ∃ e ∈ es, e.n = some r ∧ e.t ≤ ar d r p.t
end
section
variable {d : Int} {kind : Str} {bs : List (Str × Str)} {rs : List RoadD} {start : Str} {moment : Int} {es qs : List Ent} {cur : Ent} {rest : List RoadD}
theorem nx_mem {p : Node} {r : RoadD} (h : r ∈ nxN kind bs rs start p) : r ∈ rs ∧ everB kind r = true := by
  have go : ∀ {pl : Str} {b : Option Str}, r ∈ nxR kind bs rs pl b → r ∈ rs ∧ everB kind r = true := fun h => by
    obtain ⟨h1, h2⟩ := List.mem_filter.mp h
    unfold mayB at h2
    simp only [Bool.and_eq_true] at h2
    exact ⟨h1, h2.2.1⟩
  cases p with
  | none => exact go h
  | some r0 => exact go h
theorem ever_hours {kind : Str} {r : RoadD} (h : everB kind r = true) : r.hours ≠ some [] := by
  unfold everB at h
  simp only [Bool.and_eq_true, Bool.not_eq_true', decide_eq_false_iff_not] at h
  exact h.2
theorem ent_ext (nd : (es.map (·.n)).Nodup) {a b : Ent} (ha : a ∈ es) (hb : b ∈ es) (e : a.n = b.n) : a = b := by
  induction es with
  | nil => cases ha
  | cons x l ih =>
    have q := List.nodup_cons.mp nd
    rcases List.mem_cons.mp ha with h | h <;> rcases List.mem_cons.mp hb with h' | h'
    · rw [h, h']
    · exact absurd (List.mem_map.mpr ⟨b, h', by rw [← e, h]⟩) q.1
    · exact absurd (List.mem_map.mpr ⟨a, h, by rw [e, h']⟩) q.1
    · exact ih q.2 h h'
theorem SInv.init : SInv d kind bs rs start moment [⟨none, moment, none⟩] [⟨none, moment, none⟩] ⟨none, moment, none⟩ [] := by
  refine ⟨List.mem_singleton.mpr rfl, List.nodup_cons.mpr ⟨by simp, List.nodup_nil⟩, fun e he r h => ?_, fun e he _ => ?_, fun q hq => hq, List.nodup_cons.mpr ⟨by simp, List.nodup_nil⟩, fun e he h => absurd he h, fun q hq => ?_, fun h => absurd rfl h, fun e he r h => ?_, fun e he => ?_, fun p hp h => absurd hp h⟩
  · rw [List.mem_singleton.mp he] at h; cases h
  · rw [List.mem_singleton.mp he]; exact ⟨rfl, rfl⟩
  · rw [List.mem_singleton.mp hq]; exact Int.le_refl _
  · rw [List.mem_singleton.mp he] at h; cases h
  · rw [List.mem_singleton.mp he]; exact Int.le_refl _
theorem SInv.pop (I : SInv d kind bs rs start moment es qs cur []) {q : Ent} {qs' : List Ent} (hp : (q :: qs').Perm qs) (hm : ∀ j ∈ qs, q.t ≤ j.t) : SInv d kind bs rs start moment es qs' q (nxN kind bs rs start q.n) := by
  have hq : q ∈ qs := hp.mem_iff.mp List.mem_cons_self
  have nd' : ((q :: qs').map (·.n)).Nodup := (hp.map _).nodup_iff.mpr I.qn
  have nq : q ∉ qs' := fun h => (List.nodup_cons.mp nd').1 (List.mem_map.mpr ⟨q, h, rfl⟩)
  have old : ∀ e, e ∉ qs' → e ∉ qs ∨ e = q := fun e h => by
    by_cases c : e ∈ qs
    · rcases List.mem_cons.mp (hp.mem_iff.mpr c) with z | z
      · exact .inr z
      · exact absurd z h
    · exact .inl c
  have sub' : ∀ e ∈ qs', e ∈ qs := fun e h => hp.mem_iff.mp (List.mem_cons_of_mem _ h)
  refine ⟨I.root, I.nd, I.mem, I.rt, fun e h => I.sub e (sub' e h), (List.nodup_cons.mp nd').2, fun e he h => ?_, fun e h => hm e (sub' e h), fun _ => ⟨I.sub q hq, nq, fun r h => h⟩, fun e he r h => ?_, I.ge, fun p hp' h r hr => ?_⟩
  · rcases old e h with z | z
    · exact Int.le_trans (I.lo e he z) (I.hi q hq)
    · rw [z]; exact Int.le_refl _
  · obtain ⟨p, a1, a2, a3⟩ := I.lnk e he r h
    exact ⟨p, a1, fun z => a2 (sub' p z), a3⟩
  · rcases old p h with z | z
    · rcases I.cls p hp' z r hr with ⟨_, c⟩ | c
      · cases c
      · exact .inr c
    · subst z
      exact .inl ⟨rfl, hr⟩
theorem SInv.skip (G : SG d rs) {r : RoadD} (I : SInv d kind bs rs start moment es qs cur (r :: rest)) (hin : ∃ e ∈ es, e.n = some r) : SInv d kind bs rs start moment es qs cur rest := by
  obtain ⟨hc1, hc2, hc3⟩ := I.cd (by simp)
  refine ⟨I.root, I.nd, I.mem, I.rt, I.sub, I.qn, I.lo, I.hi, fun _ => ⟨hc1, hc2, fun r' h => hc3 r' (List.mem_cons_of_mem _ h)⟩, I.lnk, I.ge, fun p hp h r' hr => ?_⟩
  rcases I.cls p hp h r' hr with ⟨e, c⟩ | c
  · rcases List.mem_cons.mp c with z | z
    · subst z e
      obtain ⟨x, hx, xn⟩ := hin
      obtain ⟨p', a1, a2, _, a4, a5⟩ := I.lnk x hx r' xn
      obtain ⟨m1, m2⟩ := nx_mem a4
      refine .inr ⟨x, hx, xn, ?_⟩
      rw [a5]
      exact ar_mono G.d1 (G.ho r' m1) (ever_hours m2) (I.lo p' a1 a2)
    · exact .inl ⟨e, z⟩
  · exact .inr c
theorem SInv.add (G : SG d rs) {r : RoadD} (I : SInv d kind bs rs start moment es qs cur (r :: rest)) (hno : ∀ e ∈ es, e.n ≠ some r) {qs' : List Ent} (hq : qs'.Perm (qs ++ [⟨some r, ar d r cur.t, some cur.n⟩])) :
    SInv d kind bs rs start moment (es ++ [⟨some r, ar d r cur.t, some cur.n⟩]) qs' cur rest := by
  obtain ⟨hc1, hc2, hc3⟩ := I.cd (by simp)
  have hrn := hc3 r List.mem_cons_self
  obtain ⟨m1, m2⟩ := nx_mem hrn
  obtain ⟨_, e0, _, ea, ele⟩ := ar_some G.d1 (G.ho r m1) (ever_hours m2) cur.t
  have mi := G.mi r m1
  generalize hx : (⟨some r, ar d r cur.t, some cur.n⟩ : Ent) = x at hq
  have xn : x.n = some r := by rw [← hx]
  have xt : x.t = ar d r cur.t := by rw [← hx]
  have xp : x.pv = some cur.n := by rw [← hx]
  have hxq : x ∈ qs' := hq.mem_iff.mpr (List.mem_append_right _ (List.mem_singleton.mpr rfl))
  have out : ∀ e ∈ es ++ [x], e ∉ qs' → e ∈ es ∧ e ∉ qs := fun e he h => by
    rcases List.mem_append.mp he with z | z
    · exact ⟨z, fun w => h (hq.mem_iff.mpr (List.mem_append_left _ w))⟩
    · rw [List.mem_singleton.mp z] at h
      exact absurd hxq h
  have out2 : ∀ e ∈ es, e ∉ qs → e ∉ qs' := fun e he h z => by
    rcases List.mem_append.mp (hq.mem_iff.mp z) with w | w
    · exact h w
    · rw [List.mem_singleton.mp w] at he
      exact hno x he xn
  refine ⟨List.mem_append_left _ I.root, ?_, fun e he r' h => ?_, fun e he h => ?_, fun e h => ?_, ?_, fun e he h => ?_, fun e h => ?_, fun _ => ⟨List.mem_append_left _ hc1, out2 cur hc1 hc2, fun r' h => hc3 r' (List.mem_cons_of_mem _ h)⟩, fun e he r' h => ?_, fun e he => ?_, fun p hp h r' hr => ?_⟩
  · rw [List.map_append, List.nodup_append]
    refine ⟨I.nd, List.nodup_cons.mpr ⟨by simp, List.nodup_nil⟩, fun a ha b hb e => ?_⟩
    obtain ⟨y, hy, rfl⟩ := List.mem_map.mp ha
    rw [List.mem_singleton.mp hb] at e
    exact hno y hy (e.trans xn)
  · rcases List.mem_append.mp he with z | z
    · exact I.mem e z r' h
    · rw [List.mem_singleton.mp z, xn] at h
      rw [← Option.some.inj h]; exact m1
  · rcases List.mem_append.mp he with z | z
    · exact I.rt e z h
    · rw [List.mem_singleton.mp z, xn] at h
      cases h
  · rcases List.mem_append.mp (hq.mem_iff.mp h) with z | z
    · exact List.mem_append_left _ (I.sub e z)
    · exact List.mem_append_right _ z
  · refine (hq.map _).nodup_iff.mpr ?_
    rw [List.map_append, List.nodup_append]
    refine ⟨I.qn, List.nodup_cons.mpr ⟨by simp, List.nodup_nil⟩, fun a ha b hb e => ?_⟩
    obtain ⟨y, hy, rfl⟩ := List.mem_map.mp ha
    rw [List.mem_singleton.mp hb] at e
    exact hno y (I.sub y hy) (e.trans xn)
  · obtain ⟨a1, a2⟩ := out e he h
    exact I.lo e a1 a2
  · rcases List.mem_append.mp (hq.mem_iff.mp h) with z | z
    · exact I.hi e z
    · rw [List.mem_singleton.mp z, xt]; omega
  · rcases List.mem_append.mp he with z | z
    · obtain ⟨p, a1, a2, a3⟩ := I.lnk e z r' h
      exact ⟨p, List.mem_append_left _ a1, out2 p a1 a2, a3⟩
    · rw [List.mem_singleton.mp z] at h ⊢
      rw [xn] at h
      obtain rfl := Option.some.inj h
      exact ⟨cur, List.mem_append_left _ hc1, out2 cur hc1 hc2, xp, hrn, xt⟩
  · rcases List.mem_append.mp he with z | z
    · exact I.ge e z
    · have := I.ge cur hc1
      rw [List.mem_singleton.mp z, xt]; omega
  · obtain ⟨a1, a2⟩ := out p hp h
    rcases I.cls p a1 a2 r' hr with ⟨e, c⟩ | ⟨y, y1, y2⟩
    · rcases List.mem_cons.mp c with z | z
      · subst z e
        exact .inr ⟨x, List.mem_append_right _ (List.mem_singleton.mpr rfl), xn, by rw [xt]; exact Int.le_refl _⟩
      · exact .inl ⟨e, z⟩
    · exact .inr ⟨y, List.mem_append_left _ y1, y2⟩
/-- what the search has found -/
structure Sol (d : Int) (kind : Str) (bs : List (Str × Str)) (rs : List RoadD) (start : Str) (moment : Int) (es : List Ent) : Prop where
  root : (⟨none, moment, none⟩ : Ent) ∈ es
  nd : (es.map (·.n)).Nodup
  mem : ∀ e ∈ es, ∀ r, e.n = some r → r ∈ rs
  rt : ∀ e ∈ es, e.n = none → e.t = moment ∧ e.pv = none
  lnk : ∀ e ∈ es, ∀ r, e.n = some r → ∃ p ∈ es, e.pv = some p.n ∧ r ∈ nxN kind bs rs start p.n ∧ e.t = ar d r p.t
  ge : ∀ e ∈ es, moment ≤ e.t
  cls : ∀ p ∈ es, ∀ r ∈ nxN kind bs rs start p.n, ∃ e ∈ es, e.n = some r ∧ e.t ≤ ar d r p.t
theorem SInv.done (I : SInv d kind bs rs start moment es [] cur []) : Sol d kind bs rs start moment es := by
  refine ⟨I.root, I.nd, I.mem, I.rt, fun e he r h => ?_, I.ge, fun p hp r hr => ?_⟩
  · obtain ⟨p, a1, _, a3⟩ := I.lnk e he r h
    exact ⟨p, a1, a3⟩
  · rcases I.cls p hp (by simp) r hr with ⟨_, c⟩ | c
    · cases c
    · exact c
theorem nodup_sub_len {α : Type} : ∀ {l m : List α}, l.Nodup → (∀ x ∈ l, x ∈ m) → l.length ≤ m.length
  | [], _, _, _ => Nat.zero_le _
  | a :: l, m, nd, h => by
    obtain ⟨s, t, rfl⟩ := List.append_of_mem (h a List.mem_cons_self)
    have q := List.nodup_cons.mp nd
    have := nodup_sub_len (l := l) (m := s ++ t) q.2 fun x hx => by
      rcases List.mem_append.mp (h x (List.mem_cons_of_mem _ hx)) with z | z
      · exact List.mem_append_left _ z
      · rcases List.mem_cons.mp z with w | w
        · exact absurd (w ▸ hx) q.1
        · exact List.mem_append_right _ w
    simp only [List.length_append, List.length_cons] at this ⊢
    omega
/-- there are no more entries than roads, and the one of the start -/
theorem SInv.count (G : SG d rs) (I : SInv d kind bs rs start moment es qs cur rest) : es.length ≤ rs.length + 1 := by
  have h : (es.map (·.n)).length ≤ (none :: rs.map some : List Node).length := by
    refine nodup_sub_len I.nd fun n hn => ?_
    obtain ⟨e, he, rfl⟩ := List.mem_map.mp hn
    cases c : e.n with
    | none => exact List.mem_cons_self
    | some r => exact List.mem_cons_of_mem _ (List.mem_map.mpr ⟨r, I.mem e he r c, rfl⟩)
  simp only [List.length_map, List.length_cons] at h
  exact h
theorem SInv.qlen (I : SInv d kind bs rs start moment es qs cur rest) : qs.length ≤ es.length := nodup_sub_len (List.Pairwise.of_map _ (fun a b h e => h (by rw [e])) I.qn) I.sub
theorem perm_map_cons {α β : Type} {f : α → β} {k : β} {ks : List β} {qs : List α} (h : (k :: ks).Perm (qs.map f)) : ∃ q qs', f q = k ∧ (q :: qs').Perm qs ∧ ks.Perm (qs'.map f) := by
  obtain ⟨q, hq, rfl⟩ := List.mem_map.mp (h.mem_iff.mp List.mem_cons_self)
  obtain ⟨a, b, rfl⟩ := List.append_of_mem hq
  have p : (q :: (a ++ b)).Perm (a ++ q :: b) := List.perm_middle.symm
  refine ⟨q, a ++ b, rfl, p, ?_⟩
  have h2 := h.trans (p.map f).symm
  exact h2.cons_inv
theorem Sol.count (S : Sol d kind bs rs start moment es) : es.length ≤ rs.length + 1 := by
  have h : (es.map (·.n)).length ≤ (none :: rs.map some : List Node).length := by
    refine nodup_sub_len S.nd fun n hn => ?_
    obtain ⟨e, he, rfl⟩ := List.mem_map.mp hn
    cases c : e.n with
    | none => exact List.mem_cons_self
    | some r => exact List.mem_cons_of_mem _ (List.mem_map.mpr ⟨r, S.mem e he r c, rfl⟩)
  simp only [List.length_map, List.length_cons] at h
  exact h
end
end W

set_option Elab.async false
set_option linter.all false
set_option maxRecDepth 100000
set_option maxHeartbeats 400000
/-! heaps in an array: the order of parents and children, one place out of order -/
namespace MyH
open SrtO
section
variable {α : Type} {lt : α → α → Bool}
def par (i : Nat) : Nat := (i - 1) / 2
def IsHeap (lt : α → α → Bool) (xs : Array α) : Prop := ∀ i x y, 0 < i → xs[i]? = some x → xs[par i]? = some y → lt x y = false
structure Hole (lt : α → α → Bool) (xs : Array α) (p : Nat) : Prop where
  a : ∀ i x y, 0 < i → i ≠ p → par i ≠ p → xs[i]? = some x → xs[par i]? = some y → lt x y = false
  b : ∀ i x y, 0 < i → par i = p → 0 < p → xs[i]? = some x → xs[par p]? = some y → lt x y = false
def Below (lt : α → α → Bool) (xs : Array α) (p : Nat) : Prop := ∀ i x y, 0 < i → par i = p → xs[i]? = some x → xs[p]? = some y → lt x y = false
def sw (xs : Array α) (i j : Nat) (x y : α) : Array α := (xs.setIfInBounds i y).setIfInBounds j x
theorem sw_get {xs : Array α} {i j : Nat} {x y : α} (hi : xs[i]? = some x) (hj : xs[j]? = some y) (k : Nat) : (sw xs i j x y)[k]? = if k = j then some x else if k = i then some y else xs[k]? := by
  have li : i < xs.size := (Array.getElem?_eq_some_iff.mp hi).1
  have lj : j < xs.size := (Array.getElem?_eq_some_iff.mp hj).1
  unfold sw
  rw [Array.getElem?_setIfInBounds, Array.getElem?_setIfInBounds]
  by_cases e : j = k
  · subst e
    rw [if_pos rfl, if_pos rfl, if_pos (by rw [Array.size_setIfInBounds]; exact lj)]
  · rw [if_neg e, if_neg (show ¬ k = j from fun z => e z.symm)]
    by_cases e2 : i = k
    · subst e2
      rw [if_pos rfl, if_pos li, if_pos rfl]
    · rw [if_neg e2, if_neg (show ¬ k = i from fun z => e2 z.symm)]
theorem sw_size (xs : Array α) (i j : Nat) (x y : α) : (sw xs i j x y).size = xs.size := by
  unfold sw
  rw [Array.size_setIfInBounds, Array.size_setIfInBounds]
theorem sw_perm {xs : Array α} {i j : Nat} {x y : α} (hi : xs[i]? = some x) (hj : xs[j]? = some y) : (sw xs i j x y).toList.Perm xs.toList := by
  obtain ⟨li, ei⟩ := Array.getElem?_eq_some_iff.mp hi
  obtain ⟨lj, ej⟩ := Array.getElem?_eq_some_iff.mp hj
  have e : sw xs i j x y = xs.swap i j li lj := by
    refine Array.ext_getElem? fun k => ?_
    rw [sw_get hi hj, Array.getElem?_swap]
    by_cases e1 : k = j
    · subst e1
      rw [if_pos rfl]
      by_cases e2 : k = i
      · subst e2; simp; exact ei.symm
      · simp [e2]; exact ei.symm
    · rw [if_neg e1]
      by_cases e2 : k = i
      · subst e2
        have e1' : ¬ j = k := fun z => e1 z.symm
        simp [e1', ej]
      · have e1' : ¬ j = k := fun z => e1 z.symm
        have e2' : ¬ i = k := fun z => e2 z.symm
        simp [e1, e2, e1', e2']
  rw [e]
  exact (Array.swap_perm li lj).toList
theorem par_lt {i : Nat} (h : 0 < i) : par i < i := by unfold par; omega
theorem Hole.down {xs : Array α} {p c : Nat} {z v : α} (h : Hole lt xs p) (hc : 0 < c) (pc : par c = p) (ez : xs[c]? = some z) (ev : xs[p]? = some v) (sib : ∀ i u, 0 < i → i ≠ c → par i = p → xs[i]? = some u → lt u z = false) : Hole lt (sw xs c p z v) c := by
  have ne : c ≠ p := by have := par_lt hc; omega
  constructor
  · intro i x y hi n1 n2 e1 e2
    rw [sw_get ez ev] at e1 e2
    rw [if_neg n1] at e1
    rw [if_neg n2] at e2
    by_cases ip : i = p
    · subst ip
      rw [if_pos rfl] at e1
      have e1 := Option.some.inj e1
      subst e1
      have np : par i ≠ i := by have := par_lt hi; omega
      rw [if_neg np] at e2
      exact h.b c _ _ hc pc hi ez e2
    · rw [if_neg ip] at e1
      by_cases pp : par i = p
      · rw [if_pos pp] at e2
        have e2 := Option.some.inj e2
        subst e2
        exact sib i x hi n1 pp e1
      · rw [if_neg pp] at e2
        exact h.a i x y hi ip pp e1 e2
  · intro i x y hi pi _ e1 e2
    rw [sw_get ez ev] at e1 e2
    rw [pc, if_pos rfl] at e2
    have e2 := Option.some.inj e2
    subst e2
    have l1 := par_lt hi
    have l2 := par_lt hc
    rw [if_neg (by omega), if_neg (by omega)] at e1
    exact h.a i x _ hi (by omega) (by omega) e1 (by rw [pi]; exact ez)
theorem Hole.up (O : Swo lt) {xs : Array α} {p q : Nat} {x y : α} (h : Hole lt xs p) (u : Below lt xs p) (hp : 0 < p) (pq : par p = q) (ex : xs[p]? = some x) (ey : xs[q]? = some y) (hl : lt x y = true) :
    Hole lt (sw xs q p y x) q ∧ Below lt (sw xs q p y x) q := by
  have l1 := par_lt hp
  have ne : p ≠ q := by omega
  refine ⟨⟨?_, ?_⟩, ?_⟩
  · intro i a b hi n1 n2 e1 e2
    rw [sw_get ey ex] at e1 e2
    rw [if_neg n1] at e1
    rw [if_neg n2] at e2
    have ip : i ≠ p := fun z => n2 (by rw [z]; exact pq)
    rw [if_neg ip] at e1
    by_cases pp : par i = p
    · rw [if_pos pp] at e2
      have e2 := Option.some.inj e2
      subst e2
      exact h.b i a _ hi pp hp e1 (by rw [pq]; exact ey)
    · rw [if_neg pp] at e2
      exact h.a i a b hi ip pp e1 e2
  · intro i a b hi pi hq e1 e2
    rw [sw_get ey ex] at e1 e2
    have l2 := par_lt hq
    have l3 := par_lt hi
    rw [if_neg (by omega), if_neg (by omega)] at e2
    have hqb : lt y b = false := h.a q _ _ hq (fun z => ne z.symm) (by omega) ey e2
    by_cases ip : i = p
    · rw [if_pos ip] at e1
      have e1 := Option.some.inj e1
      subst e1
      exact hqb
    · rw [if_neg ip, if_neg (by omega)] at e1
      have hay : lt a y = false := h.a i a y hi ip (by omega) e1 (by rw [pi]; exact ey)
      exact O.tr b y a hqb hay
  · intro i a b hi pi e1 e2
    rw [sw_get ey ex] at e1 e2
    rw [if_neg (fun z => ne z.symm), if_pos rfl] at e2
    have e2 := Option.some.inj e2
    subst e2
    by_cases ip : i = p
    · rw [if_pos ip] at e1
      have e1 := Option.some.inj e1
      subst e1
      exact O.asym _ _ hl
    · have l3 := par_lt hi
      rw [if_neg ip, if_neg (by omega)] at e1
      have hay : lt a y = false := h.a i a y hi ip (by omega) e1 (by rw [pi]; exact ey)
      exact O.tr x y a (O.asym _ _ hl) hay
theorem Hole.done {xs : Array α} {p : Nat} (h : Hole lt xs p) (u : Below lt xs p) (hd : p = 0 ∨ ∀ x y, xs[p]? = some x → xs[par p]? = some y → lt x y = false) : IsHeap lt xs := by
  intro i x y hi e1 e2
  by_cases ip : i = p
  · subst ip
    rcases hd with z | hd
    · omega
    · exact hd x y e1 e2
  · by_cases pp : par i = p
    · exact u i x y hi pp e1 (by rw [← pp]; exact e2)
    · exact h.a i x y hi ip pp e1 e2
theorem leaf {xs : Array α} {p : Nat} (hs : xs.size ≤ 2 * p + 1) : Below lt xs p := by
  intro i x y hi pi e1 _
  have := (Array.getElem?_eq_some_iff.mp e1).1
  unfold par at pi
  omega
theorem IsHeap.least (O : Swo lt) {xs : Array α} {y : α} (h : IsHeap lt xs) (e : xs[0]? = some y) : ∀ (i : Nat) (x : α), xs[i]? = some x → lt x y = false := by
  intro i
  induction i using Nat.strongRecOn with
  | ind i ih =>
    intro x ex
    rcases Nat.eq_zero_or_pos i with z | hi
    · subst z
      rw [e] at ex
      have ex := Option.some.inj ex
      subst ex
      exact O.refl y
    · have l := par_lt hi
      have li := (Array.getElem?_eq_some_iff.mp ex).1
      have ep : xs[par i]? = some (xs[par i]'(by omega)) := Array.getElem?_eq_getElem (by omega)
      exact O.tr y _ x (ih (par i) l _ ep) (h i _ _ hi ex ep)
theorem IsHeap.push {xs : Array α} (h : IsHeap lt xs) (v : α) : Hole lt (xs.push v) xs.size ∧ Below lt (xs.push v) xs.size := by
  have g : ∀ {i : Nat} {x : α}, (xs.push v)[i]? = some x → i ≠ xs.size → xs[i]? = some x := fun {i x} e ne => by
    rw [Array.getElem?_push, if_neg ne] at e
    exact e
  refine ⟨⟨fun i x y hi n1 n2 e1 e2 => h i x y hi (g e1 n1) (g e2 n2), fun i x y hi pi hp e1 e2 => ?_⟩, leaf (by rw [Array.size_push]; omega)⟩
  have l := (Array.getElem?_eq_some_iff.mp e1).1
  rw [Array.size_push] at l
  unfold par at pi
  omega
theorem IsHeap.pop {xs : Array α} (h : IsHeap lt xs) (v : α) : Hole lt (xs.pop.setIfInBounds 0 v) 0 := by
  have g : ∀ {i : Nat} {x : α}, (xs.pop.setIfInBounds 0 v)[i]? = some x → i ≠ 0 → xs[i]? = some x := fun {i x} e ne => by
    rw [Array.getElem?_setIfInBounds, if_neg (fun z => ne z.symm), Array.getElem?_pop] at e
    split at e
    · exact e
    · cases e
  exact ⟨fun i x y hi n1 n2 e1 e2 => h i x y hi (g e1 n1) (g e2 n2), fun i x y hi pi hp => absurd hp (Nat.lt_irrefl _)⟩
end
end MyH

set_option Elab.async false
set_option linter.all false
set_option maxRecDepth 100000
set_option maxHeartbeats 4000000
namespace MyH
open PySem PySem.Spec PyProof.Rows
open SrtO hiding Str
theorem entry_heappush : entryFor table "_heapq.heappush" = some Builtin.«_heapq.heappush» := entryFor_of_fast (by kernel_rfl)
theorem entry_heappop : entryFor table "_heapq.heappop" = some Builtin.«_heapq.heappop» := entryFor_of_fast (by kernel_rfl)
theorem entry_sift : entryFor table "_heapq.heapify.sift" = some Builtin.«_heapq.heapify.sift» := entryFor_of_fast (by kernel_rfl)
theorem plain_sift : plainId "_heapq.heapify.sift" = true := by decide +kernel
theorem plain_push : plainId "_heapq.heappush" = true := by decide +kernel
theorem plain_pop : plainId "_heapq.heappop" = true := by decide +kernel
theorem kind_push : builtinKind "_heapq.heappush" = none := by decide +kernel
theorem kind_pop : builtinKind "_heapq.heappop" = none := by decide +kernel
theorem args_push (a b : Value) : argsOk "_heapq.heappush" ⟨[a, b], []⟩ := by
  with_unfolding_all rfl
theorem args_pop (a : Value) : argsOk "_heapq.heappop" ⟨[a], []⟩ := by
  with_unfolding_all rfl
section
variable {prog : Program} {w : World} {g : Array GenState} {d : Drawn} {tk : Nat} {os : OsState} {A : Around} {R : Result → Shared → Prop} {lt : Value → Value → Bool} {a : Addr} {h0 : Heap} {M : List Value}
def St (a : Addr) (h : Heap) (xs : Array Value) : Prop := ∃ n, h.get? a = some { cls := .type "list", data := .seq xs n }
def Fr (a : Addr) (h0 h : Heap) : Prop := ∀ b o, b ≠ a → h0.get? b = some o → h.get? b = some o
theorem St.upd {h : Heap} {xs : Array Value} (s : St a h xs) (f : Array Value → Array Value) : St a (h.update a (Obj.mapSeq f)) (f xs) := by
  obtain ⟨n, e⟩ := s
  exact ⟨_, get?_update_seq e f⟩
theorem Fr.upd {h : Heap} (k : Fr a h0 h) (f : Obj → Obj) : Fr a h0 (h.update a f) := fun b o ne e => by
  rw [Heap.get?_update_ne _ _ _ _ ne]
  exact k b o ne e
/-- what a builtin's tree leaves is wanted -/
abbrev Goes (prog : Program) (w : World) (A : Around) (R : Result → Shared → Prop) (t : Sem Fin) (s : Shared) : Prop :=
  wpAny (model prog w) A.in1 t (fun fin s' => match fin with | .done f => R (.ok f) s' | .again c' => c'.quiet = true ∧ codeAny (model prog w) A c' R s') (fun e s' => R (.error e) s') s
theorem upSeq {M : Model} {A : Around} {E : Value → Shared → Prop} {h : Heap} {a : Addr} {xs : Array Value} {n : Nat} {f : Array Value → Array Value} {Q : Unit → Shared → Prop} (hl : h.get? a = some { cls := .type "list", data := .seq xs n }) (hz : xs.size ≤ sizeLine)
    (hq : Q () ⟨h.update a (Obj.mapSeq f), g, d, tk, os⟩) (h2 : (f xs).size ≤ sizeLine + 1) : wpAny M A (updateSeq a f) Q E ⟨h, g, d, tk, os⟩ := wpAny_updateSeq (s := ⟨h, g, d, tk, os⟩) hl rfl hq hz h2
abbrev Cmp (A : Around) (R : Result → Shared → Prop) (lt : Value → Value → Bool) (a : Addr) (h0 : Heap) (M : List Value) (g : Array GenState) (d : Drawn) (tk : Nat) (os : OsState) : Prop :=
  ∀ h', Fr a h0 h' → ∀ x ∈ M, ∀ y ∈ M, PySem.SeqAt.RcLt A.in1 ⟨h', g, d, tk, os⟩ x y (lt x y)
theorem sift_up (O : Swo lt) (res : Value) (cmp : Cmp A R lt a h0 M g d tk os) : ∀ (pos : Nat) (h : Heap) (xs : Array Value), St a h xs → Fr a h0 h → Hole lt xs pos → Below lt xs pos → pos < xs.size → xs.size ≤ sizeLine → (∀ x ∈ xs.toList, x ∈ M) →
    (∀ h' ys, St a h' ys → Fr a h0 h' → IsHeap lt ys → ys.toList.Perm xs.toList → R (.ok (.ret res)) ⟨h', g, d, tk, os⟩) →
    Goes prog w A R (Builtin.«_heapq.heapify.sift» ⟨[.ref a, .bool false, .bool false, rawInt pos, rawInt 0, res, rawInt (-1)], []⟩) ⟨h, g, d, tk, os⟩ := by
  intro pos
  induction pos using Nat.strongRecOn with
  | ind pos ih =>
    intro h xs hs hf hh hb hp hz hM k
    obtain ⟨n, hl⟩ := id hs
    show wpAny _ _ _ _ _ _
    wp_walk using wpAny_loadPart' hl
    have en : ((pos : Nat) : Int).toNat = pos := Int.toNat_natCast pos
    rw [en]
    by_cases h0 : pos > 0
    · rw [if_pos (show pos > Int.toNat 0 from h0)]
      have lq := par_lt h0
      have lq' : (pos - 1) / 2 < xs.size := by unfold par at lq; omega
      have ex : xs[pos]? = some xs[pos] := Array.getElem?_eq_getElem hp
      have ey : xs[(pos - 1) / 2]? = some xs[(pos - 1) / 2] := Array.getElem?_eq_getElem lq'
      have mx := hM _ (Array.mem_toList_iff.mpr (Array.mem_of_getElem? ex))
      have my := hM _ (Array.mem_toList_iff.mpr (Array.mem_of_getElem? ey))
      wp_walk
      rw [ex]
      wp_walk
      rw [ey]
      have C : ∀ (E : Value → Shared → Prop) (Q : Value → Shared → Prop), Q (.bool (lt xs[pos] xs[(pos - 1) / 2])) ⟨h, g, d, tk, os⟩ → wpAny (model prog w) A.in1 (richCompare .Lt xs[pos] xs[(pos - 1) / 2]) Q E ⟨h, g, d, tk, os⟩ := fun E Q q => cmp h hf _ mx _ my prog w E Q q
      wp_walk using wpAny_loadPart' hl, C
      by_cases c : lt xs[pos] xs[(pos - 1) / 2] = true
      · rw [c]
        wp_walk using wpAny_loadPart' hl
        rw [ey]
        wp_walk using wpAny_loadPart' hl
        rw [ex]
        wp_walk using wpAny_loadPart' hl, upSeq hl hz
        · refine ⟨plainId_quiet plain_sift _, codeAny_builtin entry_sift ?_⟩
          rw [Around.under_plainId plain_sift _]
          obtain ⟨u1, u2⟩ := hh.up O hb h0 (q := (pos - 1) / 2) rfl ex ey c
          exact ih ((pos - 1) / 2) lq _ (sw xs ((pos - 1) / 2) pos xs[(pos - 1) / 2] xs[pos]) (hs.upd _) (hf.upd _) u1 u2 (by rw [sw_size]; exact lq') (by rw [sw_size]; exact hz)
            (fun x hx => hM x ((sw_perm ey ex).mem_iff.mp hx)) fun h' ys s' f' i' p' => k h' ys s' f' i' (p'.trans (sw_perm ey ex))
        · show (sw xs ((pos - 1) / 2) pos xs[(pos - 1) / 2] xs[pos]).size ≤ sizeLine + 1
          rw [sw_size]; omega
      · have c' : lt xs[pos] xs[(pos - 1) / 2] = false := by simpa using c
        rw [c']
        wp_walk using wpAny_loadPart' hl
        refine k h xs hs hf (hh.done hb (.inr fun x y e1 e2 => ?_)) (List.Perm.refl _)
        rw [ex] at e1
        have e2' : xs[(pos - 1) / 2]? = some y := e2
        rw [ey] at e2'
        rw [← Option.some.inj e1, ← Option.some.inj e2']
        exact c'
    · rw [if_neg (show ¬ pos > Int.toNat 0 from h0)]
      wp_walk using wpAny_loadPart' hl
      exact k h xs hs hf (hh.done hb (.inl (by omega))) (List.Perm.refl _)
theorem sift_down (O : Swo lt) (res : Value) (cmp : Cmp A R lt a h0 M g d tk os) : ∀ (m pos : Nat) (h : Heap) (xs : Array Value), xs.size - pos = m → St a h xs → Fr a h0 h → Hole lt xs pos → pos < xs.size → xs.size ≤ sizeLine → (∀ x ∈ xs.toList, x ∈ M) →
    (∀ h' ys, St a h' ys → Fr a h0 h' → IsHeap lt ys → ys.toList.Perm xs.toList → R (.ok (.ret res)) ⟨h', g, d, tk, os⟩) →
    Goes prog w A R (Builtin.«_heapq.heapify.sift» ⟨[.ref a, .bool false, .bool true, rawInt pos, rawInt 0, res, rawInt (-1)], []⟩) ⟨h, g, d, tk, os⟩ := by
  intro m
  induction m using Nat.strongRecOn with
  | ind m ih =>
    intro pos h xs hm hs hf hh hp hz hM k
    obtain ⟨n, hl⟩ := id hs
    show wpAny _ _ _ _ _ _
    have en : ((pos : Nat) : Int).toNat = pos := Int.toNat_natCast pos
    wp_walk using wpAny_loadPart' hl
    rw [en]
    by_cases h1 : pos < xs.size / 2
    · rw [if_pos h1]
      have l1 : 2 * pos + 1 < xs.size := by omega
      have ev : xs[pos]? = some xs[pos] := Array.getElem?_eq_getElem hp
      have el : xs[2 * pos + 1]? = some xs[2 * pos + 1] := Array.getElem?_eq_getElem l1
      have p1 : par (2 * pos + 1) = pos := by unfold par; omega
      have ml := hM _ (Array.mem_toList_iff.mpr (Array.mem_of_getElem? el))
      -- one child is taken
      have take : ∀ (c : Nat) (z : Value), 0 < c → par c = pos → c < xs.size → xs[c]? = some z → (∀ i u, 0 < i → i ≠ c → par i = pos → xs[i]? = some u → lt u z = false) →
          Goes prog w A R (Builtin.«_heapq.heapify.sift» ⟨[.ref a, .bool false, .bool true, rawInt c, rawInt 0, res, rawInt (-1)], []⟩) ⟨h.update a (Obj.mapSeq fun ys => (ys.setIfInBounds c xs[pos]).setIfInBounds pos z), g, d, tk, os⟩ := fun c z c0 pc cl ez sib => by
        have lc := par_lt c0
        exact ih (xs.size - c) (by omega) c _ (sw xs c pos z xs[pos]) (by rw [sw_size]) (hs.upd _) (hf.upd _) (hh.down c0 pc ez ev sib) (by rw [sw_size]; exact cl) (by rw [sw_size]; exact hz)
          (fun x hx => hM x ((sw_perm ez ev).mem_iff.mp hx)) fun h' ys s' f' i' p' => k h' ys s' f' i' (p'.trans (sw_perm ez ev))
      have kids : ∀ i, 0 < i → par i = pos → i = 2 * pos + 1 ∨ i = 2 * pos + 1 + 1 := fun i hi pi => by unfold par at pi; omega
      wp_walk using wpAny_loadPart' hl
      by_cases h2 : 2 * pos + 1 + 1 < xs.size
      · rw [if_pos h2]
        have er : xs[2 * pos + 1 + 1]? = some xs[2 * pos + 1 + 1] := Array.getElem?_eq_getElem h2
        have p2 : par (2 * pos + 1 + 1) = pos := by unfold par; omega
        have mr := hM _ (Array.mem_toList_iff.mpr (Array.mem_of_getElem? er))
        have C : ∀ (E : Value → Shared → Prop) (Q : Value → Shared → Prop), Q (.bool (lt xs[2 * pos + 1] xs[2 * pos + 1 + 1])) ⟨h, g, d, tk, os⟩ → wpAny (model prog w) A.in1 (richCompare .Lt xs[2 * pos + 1] xs[2 * pos + 1 + 1]) Q E ⟨h, g, d, tk, os⟩ := fun E Q q => cmp h hf _ ml _ mr prog w E Q q
        wp_walk using wpAny_loadPart' hl
        rw [el]
        wp_walk using wpAny_loadPart' hl
        rw [er]
        wp_walk using wpAny_loadPart' hl, C
        by_cases c : lt xs[2 * pos + 1] xs[2 * pos + 1 + 1] = true
        · rw [c]
          wp_walk using wpAny_loadPart' hl
          rw [el]
          wp_walk using wpAny_loadPart' hl
          rw [ev]
          wp_walk using wpAny_loadPart' hl, upSeq hl hz
          · refine ⟨plainId_quiet plain_sift _, codeAny_builtin entry_sift ?_⟩
            rw [Around.under_plainId plain_sift _]
            exact take (2 * pos + 1) _ (by omega) p1 l1 el fun i u hi ni pi eu => by
              rcases kids i hi pi with e | e
              · exact absurd e ni
              · rw [e, er] at eu
                rw [← Option.some.inj eu]
                exact O.asym _ _ c
          · show (sw xs (2 * pos + 1) pos xs[2 * pos + 1] xs[pos]).size ≤ sizeLine + 1
            rw [sw_size]; omega
        · have c' : lt xs[2 * pos + 1] xs[2 * pos + 1 + 1] = false := by simpa using c
          rw [c']
          wp_walk using wpAny_loadPart' hl
          rw [er]
          wp_walk using wpAny_loadPart' hl
          rw [ev]
          wp_walk using wpAny_loadPart' hl, upSeq hl hz
          · refine ⟨plainId_quiet plain_sift _, codeAny_builtin entry_sift ?_⟩
            rw [Around.under_plainId plain_sift _]
            exact take (2 * pos + 1 + 1) _ (by omega) p2 h2 er fun i u hi ni pi eu => by
              rcases kids i hi pi with e | e
              · rw [e, el] at eu
                rw [← Option.some.inj eu]
                exact c'
              · exact absurd e ni
          · show (sw xs (2 * pos + 1 + 1) pos xs[2 * pos + 1 + 1] xs[pos]).size ≤ sizeLine + 1
            rw [sw_size]; omega
      · rw [if_neg h2]
        wp_walk using wpAny_loadPart' hl
        rw [el]
        wp_walk using wpAny_loadPart' hl
        rw [ev]
        wp_walk using wpAny_loadPart' hl, upSeq hl hz
        · refine ⟨plainId_quiet plain_sift _, codeAny_builtin entry_sift ?_⟩
          rw [Around.under_plainId plain_sift _]
          exact take (2 * pos + 1) _ (by omega) p1 l1 el fun i u hi ni pi eu => by
            rcases kids i hi pi with e | e
            · exact absurd e ni
            · rw [e] at eu
              exact absurd (Array.getElem?_eq_some_iff.mp eu).1 h2
        · show (sw xs (2 * pos + 1) pos xs[2 * pos + 1] xs[pos]).size ≤ sizeLine + 1
          rw [sw_size]; omega
    · rw [if_neg h1]
      wp_walk using wpAny_loadPart' hl
      refine ⟨plainId_quiet plain_sift _, codeAny_builtin entry_sift ?_⟩
      rw [Around.under_plainId plain_sift _]
      exact sift_up O res cmp pos h xs hs hf hh (leaf (by omega)) hp hz hM k
theorem push_goes (O : Swo lt) {h : Heap} {xs : Array Value} {v : Value} (cmp : Cmp A R lt a h M g d tk os) (hs : St a h xs) (hh : IsHeap lt xs) (hz : xs.size < sizeLine) (hM : ∀ x ∈ xs.toList, x ∈ M) (hv : v ∈ M)
    (k : ∀ h' ys, St a h' ys → Fr a h h' → IsHeap lt ys → ys.toList.Perm (xs.toList ++ [v]) → R (.ok (.ret .none)) ⟨h', g, d, tk, os⟩) :
    Goes prog w A R (Builtin.«_heapq.heappush» ⟨[.ref a, v], []⟩) ⟨h, g, d, tk, os⟩ := by
  obtain ⟨n, hl⟩ := id hs
  have f3 := AutoSeq1.sub_list_list
  show wpAny _ _ _ _ _ _
  wp_walk using wpAny_loadPart' hl, upSeq hl (Nat.le_of_lt hz)
  · have hs' : St a (h.update a (Obj.mapSeq fun x => x.push v)) (xs.push v) := hs.upd _
    obtain ⟨n', hl'⟩ := id hs'
    wp_walk using wpAny_loadPart' hl'
    have e1 : (((fun x : Array Value => x.push v) xs).size - 1) = xs.size := by show (xs.push v).size - 1 = xs.size; rw [Array.size_push]; omega
    rw [e1]
    refine ⟨plainId_quiet plain_sift _, codeAny_builtin entry_sift ?_⟩
    rw [Around.under_plainId plain_sift _]
    obtain ⟨u1, u2⟩ := hh.push v
    exact sift_up O .none cmp xs.size _ (xs.push v) hs' (Fr.upd (fun _ _ _ e => e) _) u1 u2 (by rw [Array.size_push]; omega) (by rw [Array.size_push]; omega)
      (fun x hx => by
        rw [Array.toList_push] at hx
        rcases List.mem_append.mp hx with hx | hx
        · exact hM x hx
        · rw [List.mem_singleton.mp hx]; exact hv) fun h' ys s' f' i' p' => k h' ys s' f' i' (by rw [Array.toList_push] at p'; exact p')
  · show (xs.push v).size ≤ sizeLine + 1
    rw [Array.size_push]; omega
theorem pop_goes (O : Swo lt) {h : Heap} {xs : Array Value} {y : Value} (cmp : Cmp A R lt a h M g d tk os) (hs : St a h xs) (hh : IsHeap lt xs) (hz : xs.size ≤ sizeLine) (hM : ∀ x ∈ xs.toList, x ∈ M) (hy : xs[0]? = some y)
    (k : ∀ h' ys, St a h' ys → Fr a h h' → IsHeap lt ys → (y :: ys.toList).Perm xs.toList → R (.ok (.ret y)) ⟨h', g, d, tk, os⟩) :
    Goes prog w A R (Builtin.«_heapq.heappop» ⟨[.ref a], []⟩) ⟨h, g, d, tk, os⟩ := by
  obtain ⟨n, hl⟩ := id hs
  have f3 := AutoSeq1.sub_list_list
  have hn : 0 < xs.size := (Array.getElem?_eq_some_iff.mp hy).1
  obtain ⟨z, eb⟩ : ∃ z, xs.back? = some z := ⟨xs[xs.size - 1], by rw [Array.back?_eq_getElem?]; exact Array.getElem?_eq_getElem _⟩
  obtain ⟨zs, ezs⟩ := Array.back?_eq_some_iff.mp eb
  have ep : xs.pop = zs := by rw [ezs, Array.pop_push]
  have et : xs.toList = zs.toList ++ [z] := by rw [ezs, Array.toList_push]
  have esz : xs.size = zs.size + 1 := by rw [ezs, Array.size_push]
  show wpAny _ _ _ _ _ _
  wp_walk using wpAny_loadPart' hl, upSeq hl hz
  rw [eb]
  have hs1 : St a (h.update a (Obj.mapSeq fun x => x.pop)) xs.pop := hs.upd _
  obtain ⟨n1, hl1⟩ := id hs1
  have hz1 : xs.pop.size ≤ sizeLine := by rw [Array.size_pop]; omega
  by_cases h1 : xs.size = 1
  · have e1 : (xs.size == 1) = true := by rw [h1]; rfl
    wp_walk using wpAny_loadPart' hl, upSeq hl hz
    · rw [if_pos e1]
      wp_walk
      have el0 : zs.toList = [] := List.length_eq_zero_iff.mp (by rw [Array.length_toList]; omega)
      rw [el0, List.nil_append] at et
      have ey : z = y := by
        rw [← Array.getElem?_toList, et] at hy
        exact Option.some.inj hy
      rw [ey] at et ⊢
      refine k _ xs.pop hs1 (Fr.upd (fun _ _ _ e => e) _) (fun i x z hi e _ => ?_) ?_
      · have := (Array.getElem?_eq_some_iff.mp e).1
        rw [Array.size_pop] at this
        omega
      · rw [ep, et, el0]
    · show xs.pop.size ≤ sizeLine + 1
      omega
  · have e1 : (xs.size == 1) = false := by simpa using h1
    wp_walk using wpAny_loadPart' hl, upSeq hl hz
    · rw [if_neg (by rw [e1]; exact Bool.false_ne_true)]
      wp_walk
      rw [hy]
      wp_walk using wpAny_loadPart' hl1, upSeq hl1 hz1
      · refine ⟨plainId_quiet plain_sift _, codeAny_builtin entry_sift ?_⟩
        rw [Around.under_plainId plain_sift _]
        have hp1 : 0 < xs.pop.size := by rw [Array.size_pop]; omega
        have pm : (y :: (xs.pop.setIfInBounds 0 z).toList).Perm xs.toList := by
          rw [ep, et, Array.toList_setIfInBounds]
          have hy' : zs.toList[0]? = some y := by
            rw [← Array.getElem?_toList, et, List.getElem?_append_left (by rw [Array.length_toList]; omega)] at hy
            exact hy
          match hq : zs.toList, hy' with
          | b :: l, hy' =>
            have eb' : b = y := Option.some.inj hy'
            rw [eb']
            show (y :: z :: l).Perm (y :: l ++ [z])
            exact (List.perm_append_comm (l₁ := [z]) (l₂ := l)).cons y
        exact sift_down O y cmp _ 0 _ (xs.pop.setIfInBounds 0 z) rfl (hs1.upd _) ((Fr.upd (fun _ _ _ e => e) _).upd _) (hh.pop _) (by rw [Array.size_setIfInBounds]; exact hp1) (by rw [Array.size_setIfInBounds]; exact hz1)
          (fun x hx => hM x (pm.mem_iff.mp (List.mem_cons_of_mem _ hx))) fun h' ys s' f' i' p' => k h' ys s' f' i' ((p'.cons y).trans pm)
      · show (xs.pop.setIfInBounds 0 z).size ≤ sizeLine + 1
        rw [Array.size_setIfInBounds]; omega
    · show xs.pop.size ≤ sizeLine + 1
      omega
end
end MyH

set_option Elab.async false
set_option linter.all false
set_option maxRecDepth 100000
set_option maxHeartbeats 4000000
/-! heappush, heappop of tuples (number, (text, number)): rules over the layer -/
namespace MyH
open PySem PySem.Spec PyProof.Rows L2 MyS
open SrtO hiding Str
/-! ### the order -/
theorem swo_lex {α β : Type} [DecidableEq α] {l1 : α → α → Bool} {l2 : β → β → Bool} (O1 : Swo l1) (tri : ∀ x y, l1 x y = false → l1 y x = false → x = y) (O2 : Swo l2) : Swo fun (p q : α × β) => if p.1 = q.1 then l2 p.2 q.2 else l1 p.1 q.1 := by
  refine ⟨fun x y h => ?_, fun x y z h1 h2 => ?_⟩
  · by_cases e : x.1 = y.1
    · simp only [if_pos e] at h
      simp only [if_pos e.symm]
      exact O2.asym _ _ h
    · simp only [if_neg e] at h
      simp only [if_neg (fun c : y.1 = x.1 => e c.symm)]
      exact O1.asym _ _ h
  · by_cases e : z.1 = x.1
    · simp only [if_pos e]
      by_cases e1 : y.1 = x.1
      · simp only [if_pos e1] at h1
        simp only [if_pos (e.trans e1.symm)] at h2
        exact O2.tr _ _ _ h1 h2
      · simp only [if_neg e1] at h1
        simp only [if_neg (fun c : z.1 = y.1 => e1 (c.symm.trans e))] at h2
        rw [e] at h2
        exact absurd (tri _ _ h1 h2) e1
    · simp only [if_neg e]
      by_cases e1 : y.1 = x.1
      · simp only [if_neg (fun c : z.1 = y.1 => e (c.trans e1))] at h2
        rw [e1] at h2
        exact h2
      · simp only [if_neg e1] at h1
        by_cases e2 : z.1 = y.1
        · rw [e2]; exact h1
        · simp only [if_neg e2] at h2
          exact O1.tr _ _ _ h1 h2
def ilt (a b : Int) : Bool := decide (a < b)
theorem swo_i : Swo ilt := ⟨fun x y h => by unfold ilt at *; simp at *; omega, fun x y z h1 h2 => by unfold ilt at *; simp at *; omega⟩
theorem tri_i (x y : Int) (h1 : ilt x y = false) (h2 : ilt y x = false) : x = y := by unfold ilt at *; simp at *; omega
/-- a place in the queue: when, the road, the marks -/
abbrev K3 := Int × Str × Int
def ltN : Str × Int → Str × Int → Bool := fun p q => if p.1 = q.1 then ilt p.2 q.2 else slt p.1 q.1
def lt3 : K3 → K3 → Bool := fun p q => if p.1 = q.1 then ltN p.2 q.2 else ilt p.1 q.1
theorem swo_n : Swo ltN := swo_lex swo_s (fun _ _ => slt_tri) swo_i
theorem swo_3 : Swo lt3 := swo_lex swo_i tri_i swo_n
theorem lt3_first {p q : K3} (h : lt3 p q = false) : q.1 ≤ p.1 := by
  unfold lt3 at h
  by_cases e : p.1 = q.1
  · omega
  · rw [if_neg e] at h
    unfold ilt at h
    simp at h
    exact h
def dN (k : Str × Int) : PyData := .tuple [.str k.1, .int k.2]
def d3 (k : K3) : PyData := .tuple [.int k.1, dN k.2]
theorem alike_3 (p q : K3) : PySem.W.alike (d3 p) (d3 q) = true := by
  simp [d3, dN, PySem.W.alike, PySem.W.alikeAll]
theorem lex1 {a b : Int ⊕ List Nat} (l m : List (Int ⊕ List Nat)) : lexLt itemOrd (a :: l) (b :: m) = if a = b then lexLt itemOrd l m else itemLt a b := by
  by_cases e : a = b
  · rw [if_pos e, e]
    exact lex_self (O := itemOrd) _ _ _
  · rw [if_neg e]
    exact lex_diff (O := itemOrd) e
theorem dataLt_3 (p q : K3) : PySem.W.dataLt (d3 p) (d3 q) = lt3 p q := by
  obtain ⟨t, n, m⟩ := p
  obtain ⟨t', n', m'⟩ := q
  unfold PySem.W.dataLt lt3 ltN
  simp only [d3, dN, PySem.W.keyToks, PySem.W.keyToksAll, List.cons_append, List.nil_append]
  rw [lex1, if_pos rfl, lex1]
  by_cases e : t = t'
  · subst e
    rw [if_pos rfl, if_pos rfl, lex1, if_pos rfl, lex1, if_pos rfl, lex1]
    by_cases e2 : n = n'
    · subst e2
      rw [if_pos rfl, if_pos rfl, lex1, if_pos rfl, lex1]
      by_cases e3 : m = m'
      · subst e3
        simp [PyProof.Rows.lexLt, ilt, lex1, itemLt]
      · have : ¬ (Sum.inl m : Int ⊕ List Nat) = Sum.inl m' := fun z => e3 (Sum.inl.inj z)
        simp [this, itemLt, ilt]
    · have ne : ¬ (Sum.inr n.cps.toList : Int ⊕ List Nat) = Sum.inr n'.cps.toList := fun z => e2 (str_ext (Sum.inr.inj z))
      rw [if_neg ne, if_neg e2]
      have q := PySem.W.dataLt_str n n'
      unfold PySem.W.dataLt at q
      simp only [PySem.W.keyToks] at q
      rw [lex1, if_neg ne] at q
      exact q
  · have ne : ¬ (Sum.inl t : Int ⊕ List Nat) = Sum.inl t' := fun z => e (Sum.inl.inj z)
    rw [if_neg ne, if_neg e]
    rfl
/-! ### values that are places in the queue -/
def QV (h : Heap) (v : Value) (k : K3) : Prop := ∃ (p q : Addr) (t1 t2 t3 : Tok), v = .ref p ∧ h.IsTuple p #[.int k.1 t1, .ref q] ∧ h.IsTuple q #[.str k.2.1 t2, .int k.2.2 t3]
theorem QV.keep {h h' : Heap} {a : Addr} {xs : Array Value} {v : Value} {k : K3} (x : QV h v k) (hl : ∃ n, h.get? a = some { cls := .type "list", data := .seq xs n }) (f : Fr a h h') : QV h' v k := by
  obtain ⟨p, q, t1, t2, t3, e, ⟨o, h1, c1, n1, d1⟩, ⟨o2, h2, c2, n2, d2⟩⟩ := x
  obtain ⟨n, hl⟩ := hl
  refine ⟨p, q, t1, t2, t3, e, ⟨o, f p o (fun z => ?_) h1, c1, n1, d1⟩, ⟨o2, f q o2 (fun z => ?_) h2, c2, n2, d2⟩⟩
  · rw [z, hl] at h1
    rw [← Option.some.inj h1] at c1
    exact absurd c1 (by simp)
  · rw [z, hl] at h2
    rw [← Option.some.inj h2] at c2
    exact absurd c2 (by simp)
theorem QV.reads {h : Heap} {v : Value} {k : K3} (x : QV h v k) : ∃ as, Reads h v (d3 k) as := by
  obtain ⟨p, q, t1, t2, t3, e, ⟨o, h1, c1, n1, d1⟩, ⟨o2, h2, c2, n2, d2⟩⟩ := x
  subst e
  exact ⟨_, Reads.tuple h1 c1 d1 (.cons (.int _ _) (.cons (Reads.tuple h2 c2 d2 (.cons (.str _ _) (.cons (.int _ _) .nil))) .nil))⟩
/-- the place that a value is -/
noncomputable def kvOf (h : Heap) (v : Value) : K3 := open Classical in if x : ∃ k, QV h v k then x.choose else (0, Str.empty, 0)
theorem QV.at {h : Heap} {v : Value} {k : K3} (x : QV h v k) : kvOf h v = k := by
  have ex : ∃ k, QV h v k := ⟨k, x⟩
  unfold kvOf
  rw [dif_pos ex]
  have y := ex.choose_spec
  generalize ex.choose = k' at y
  obtain ⟨p, q, t1, t2, t3, e, ⟨o, h1, c1, n1, d1⟩, ⟨o2, h2, c2, n2, d2⟩⟩ := x
  obtain ⟨p', q', t1', t2', t3', e', ⟨o', h1', c1', n1', d1'⟩, ⟨o2', h2', c2', n2', d2'⟩⟩ := y
  rw [e] at e'
  injection e' with e'
  subst e'
  rw [h1] at h1'
  have := Option.some.inj h1'
  subst this
  rw [d1] at d1'
  injection d1' with a1 a2
  have a3 := congrArg Array.toList a1
  simp at a3
  obtain ⟨⟨b1, _⟩, b2⟩ := a3
  subst b2
  rw [h2] at h2'
  have := Option.some.inj h2'
  subst this
  rw [d2] at d2'
  injection d2' with a1 a2
  have a4 := congrArg Array.toList a1
  simp at a4
  obtain ⟨⟨b3, _⟩, b4, _⟩ := a4
  exact Prod.ext b1.symm (Prod.ext b3.symm b4.symm)
section
variable {prog : Program} {w : World} {E : Value → Shared → Prop} {s : Shared}
theorem call_again {A : Around} {id : String} {b : Builtin} {args : List Value} {Q : Value → Shared → Prop} (hk : builtinKind id = none) (hp : plainId id = true) (hb : entryFor table id = some b) (ha : argsOk id ⟨args, []⟩)
    (hc : Goes prog w A (fun r s' => match r with | .ok (.ret v) => Q v s' | .ok _ => False | .error e => E e s') (b ⟨args, []⟩) s) : wpAny (model prog w) A (call (.builtin id) args) Q E s := by
  refine wpAny_call (codeAny_call_builtin hp hb ?_)
  simp only [checkBuiltinCall, hk]
  cases hsig : Manifest.signature? id with
  | none => exact wpAny_pure hc
  | some sig =>
    simp only [argsOk, hsig] at ha
    have h2 : Bind.checkArgs id sig ⟨args, []⟩ = pure () := ha
    show wpAny _ A.in1 (Bind.checkArgs id sig ⟨args, []⟩) _ _ s
    rw [h2]; exact wpAny_pure hc
end
/-! ### over the layer -/
def QAt (H : Hp) (k : K3) (x : V) : Prop := ∃ p q, x = .ref p ∧ H p = some (.tup [.int k.1, .ref q]) ∧ H q = some (.tup [.str k.2.1, .int k.2.2])
def HeapK (ks : List K3) : Prop := IsHeap lt3 ks.toArray
section
variable {X : Cx} {pins : List (Addr × Obj)} {σ : L2.St} {H : Hp} {s : Shared}
theorem QAt.val (I : Inv X pins σ H s) {k : K3} {x : V} {u : Value} (q : QAt H k x) (r : RelV x u) : QV s.heap u k := by
  obtain ⟨p, q', e, h1, h2⟩ := q
  subst e
  cases r
  obtain ⟨_, its, rv, p1⟩ := I.hok p _ h1
  obtain ⟨_, its2, rv2, p2⟩ := I.hok q' _ h2
  obtain ⟨u1, u2, e1, r1, r2⟩ := rv.two
  obtain ⟨u3, u4, e2, r3, r4⟩ := rv2.two
  obtain ⟨t1, rfl⟩ := r1
  obtain rfl : u2 = .ref q' := r2
  obtain ⟨t2, rfl⟩ := r3
  obtain ⟨t3, rfl⟩ := r4
  subst e1 e2
  exact ⟨p, q', t1, t2, t3, rfl, p1, p2⟩
/-- a value of the queue's list -/
def FV (H : Hp) (k : K3) (u : Value) : Prop := ∃ x, RelV x u ∧ QAt H k x
theorem fv_of : ∀ {ks : List K3} {xs : List V} {us : List Value}, Paired (QAt H) ks xs → Vals xs us → Paired (FV H) ks us
  | _, _, _, .nil, .nil => .nil
  | _, _, _, .cons q r, .cons q' r' => .cons ⟨_, q', q⟩ (fv_of r r')
theorem fv_to : ∀ {ks : List K3} {us : List Value}, Paired (FV H) ks us → ∃ xs, Paired (QAt H) ks xs ∧ Vals xs us
  | _, _, .nil => ⟨[], .nil, .nil⟩
  | _, _, .cons ⟨x, a, b⟩ r => by
    obtain ⟨xs, h1, h2⟩ := fv_to r
    exact ⟨x :: xs, .cons b h1, .cons a h2⟩
theorem paired_snoc {α β : Type} {F : α → β → Prop} {a : α} {b : β} : ∀ {l : List α} {m : List β}, Paired F l m → F a b → Paired F (l ++ [a]) (m ++ [b])
  | _, _, .nil, h => .cons h .nil
  | _, _, .cons r t, h => .cons r (paired_snoc t h)
theorem fv_kv (I : Inv X pins σ H s) : ∀ {ks : List K3} {us : List Value}, Paired (FV H) ks us → us.map (kvOf s.heap) = ks
  | _, _, .nil => rfl
  | _, _, .cons ⟨x, a, b⟩ r => by
    rw [List.map_cons, fv_kv I r, (b.val I a).at]
theorem fv_mem : ∀ {ks : List K3} {us : List Value} {u : Value}, Paired (FV H) ks us → u ∈ us → ∃ k, FV H k u
  | _, _, _, .cons f r, h => by
    rcases List.mem_cons.mp h with e | h
    · rw [e]; exact ⟨_, f⟩
    · exact fv_mem r h
theorem paired_perm {α β : Type} {F : α → β → Prop} {m m' : List β} (p : m'.Perm m) : ∀ {l : List α}, Paired F l m → ∃ l' : List α, l'.Perm l ∧ Paired F l' m' := by
  induction p with
  | nil => exact fun h => ⟨_, List.Perm.refl _, h⟩
  | cons x p ih =>
    intro l h
    cases h with
    | cons r t =>
      obtain ⟨l', q1, q2⟩ := ih t
      exact ⟨_ :: l', q1.cons _, .cons r q2⟩
  | swap x y l0 =>
    intro l h
    cases h with
    | cons r t =>
      cases t with
      | cons r2 t => exact ⟨_ :: _ :: _, List.Perm.swap .., .cons r2 (.cons r t)⟩
  | trans p q ih1 ih2 =>
    intro l h
    obtain ⟨l1, a1, a2⟩ := ih2 h
    obtain ⟨l2, b1, b2⟩ := ih1 a2
    exact ⟨l2, b1.trans a1, b2⟩
theorem heap_map {α β : Type} {lt : β → β → Bool} {f : α → β} {xs : Array α} : IsHeap (fun x y => lt (f x) (f y)) xs ↔ IsHeap lt (xs.map f) := by
  constructor
  · intro h i x y hi e1 e2
    rw [Array.getElem?_map] at e1 e2
    obtain ⟨a, ea, rfl⟩ := Option.map_eq_some_iff.mp e1
    obtain ⟨b, eb, rfl⟩ := Option.map_eq_some_iff.mp e2
    exact h i a b hi ea eb
  · intro h i x y hi e1 e2
    exact h i (f x) (f y) hi (by rw [Array.getElem?_map, e1]; rfl) (by rw [Array.getElem?_map, e2]; rfl)
theorem kv_keep {h h' : Heap} {a : Addr} {xs : Array Value} {v : Value} {k : K3} (x : QV h v k) (hl : ∃ n, h.get? a = some { cls := .type "list", data := .seq xs n }) (f : Fr a h h') : kvOf h' v = k := (x.keep hl f).at
theorem cmp_of {A : Around} {R : Result → Shared → Prop} {h : Heap} {g : Array GenState} {d : Drawn} {tk : Nat} {os : OsState} {a : Addr} {xs : Array Value} {M : List Value} (hl : ∃ n, h.get? a = some { cls := .type "list", data := .seq xs n }) (hu : A.in1.units + 8 < cLine)
    (hM : ∀ v ∈ M, ∃ k, QV h v k) : Cmp A R (fun x y => lt3 (kvOf h x) (kvOf h y)) a h M g d tk os := by
  intro h' hf x hx y hy
  obtain ⟨kx, qx⟩ := hM x hx
  obtain ⟨ky, qy⟩ := hM y hy
  show PySem.SeqAt.RcLt A.in1 ⟨h', g, d, tk, os⟩ x y (lt3 (kvOf h x) (kvOf h y))
  rw [qx.at, qy.at, ← dataLt_3]
  obtain ⟨as, r1⟩ := (qx.keep hl hf).reads
  obtain ⟨bs, r2⟩ := (qy.keep hl hf).reads
  refine PySem.W.rcLt_alike (d3 kx) (d3 ky) _ ⟨h', g, d, tk, os⟩ x y as bs r1 r2 (alike_3 kx ky) (by unfold d3; exact fun z => nomatch z) ?_
  have e : (d3 kx).depth ≤ 4 := by
    simp [d3, dN, PyData.depth, PyData.depthAll]
  omega
def rPush : List V → Hp → VK → Prop := fun vs H Q => ∃ (l : Addr) (x : V) (xs : List V) (ks : List K3) (k : K3), vs = [.ref l, x] ∧ H l = some (.lst xs) ∧ Paired (QAt H) ks xs ∧ QAt H k x ∧ xs.length < sizeLine ∧ HeapK ks ∧
  ∀ ys ks', ks'.Perm (ks ++ [k]) → Paired (QAt H) ks' ys → HeapK ks' → Q .non (L2.upd H l (.lst ys))
def rPop : List V → Hp → VK → Prop := fun vs H Q => ∃ (l : Addr) (xs : List V) (ks : List K3), vs = [.ref l] ∧ H l = some (.lst xs) ∧ Paired (QAt H) ks xs ∧ ks ≠ [] ∧ HeapK ks ∧
  ∀ y k ys ks', QAt H k y → (k :: ks').Perm ks → (∀ j ∈ ks, lt3 j k = false) → Paired (QAt H) ks' ys → HeapK ks' → Q y (L2.upd H l (.lst ys))
theorem cr_push (hu : X.A.units + 64 < cLine) : CallR X (.builtin "_heapq.heappush") rPush := by
  intro pins s σ H vs us Q I r h
  obtain ⟨l, x, xs, ks, k, rfl, hH, hk, hx, hz, hh, q⟩ := h
  obtain ⟨u0, u, rfl, r0, ru⟩ := vals2 r
  cases r0
  obtain ⟨z, its, n, rv, hl, e⟩ := I.lstM hH
  have fv := fv_of hk rv
  have ek := fv_kv I fv
  refine call_again kind_push plain_push entry_heappush (args_push _ _) ?_
  obtain ⟨h, g, d, tk, os⟩ := s
  have hM : ∀ v ∈ its ++ [u], ∃ k, QV h v k := fun v hv => by
    rcases List.mem_append.mp hv with hv | hv
    · obtain ⟨k', x', a, b⟩ := fv_mem fv hv
      exact ⟨k', b.val I a⟩
    · rw [List.mem_singleton.mp hv]
      exact ⟨k, hx.val I ru⟩
  refine push_goes (lt := fun x y => lt3 (kvOf h x) (kvOf h y)) (M := its ++ [u]) (swo_of swo_3 _) (cmp_of ⟨n, e⟩ (by show X.A.units + 1 + 8 < cLine; omega) hM) ⟨n, e⟩ (heap_map.mpr ?_) (by rw [List.size_toArray]; omega) (fun v hv => List.mem_append_left _ (by simpa using hv)) (by simp) fun h' ys s' f' i' p' => ?_
  · rw [List.map_toArray, ek]
    exact hh
  · have p2 : ys.toList.Perm (its ++ [u]) := p'
    have fvu : Paired (FV H) (ks ++ [k]) (its ++ [u]) := paired_snoc fv ⟨x, ru, hx⟩
    obtain ⟨ks', pm, fv'⟩ := paired_perm p2 fvu
    obtain ⟨xs', hq, hv⟩ := fv_to fv'
    have ek' := fv_kv I fv'
    obtain ⟨n', e'⟩ := s'
    refine ⟨.non, _, I.write (e := l) (o := .lst xs') (t' := tk) (by rw [hH]; trivial) (.inl rfl) (fun b u hb hu => f' b u hb hu) ⟨_, e'⟩ ⟨?_, ys.toList, n', hv, e'⟩, rfl, q xs' ks' pm hq ?_⟩
    · rw [Vals.length hv, p2.length_eq, List.length_append, ← Vals.length rv]
      show xs.length + 1 ≤ sizeLine
      omega
    · have q2 := heap_map.mp i'
      have e3 : ys.map (kvOf h) = ks'.toArray := by
        rw [← ek', ← List.map_toArray, Array.toArray_toList]
      rw [e3] at q2
      exact q2
theorem cr_pop (hu : X.A.units + 64 < cLine) : CallR X (.builtin "_heapq.heappop") rPop := by
  intro pins s σ H vs us Q I r h
  obtain ⟨l, xs, ks, rfl, hH, hk, hne, hh, q⟩ := h
  obtain ⟨u0, rfl, r0⟩ := vals1 r
  cases r0
  obtain ⟨z, its, n, rv, hl, e⟩ := I.lstM hH
  have fv := fv_of hk rv
  have ek := fv_kv I fv
  refine call_again kind_pop plain_pop entry_heappop (args_pop _) ?_
  obtain ⟨h, g, d, tk, os⟩ := s
  have hM : ∀ v ∈ its, ∃ k, QV h v k := fun v hv => by
    obtain ⟨k', x', a, b⟩ := fv_mem fv hv
    exact ⟨k', b.val I a⟩
  have hh' : IsHeap (fun x y => lt3 (kvOf h x) (kvOf h y)) its.toArray := heap_map.mpr (by
    rw [List.map_toArray, ek]
    exact hh)
  obtain ⟨y0, r0, e0⟩ : ∃ y0 r0, its = y0 :: r0 := by
    match its, fv with
    | y0 :: r0, _ => exact ⟨y0, r0, rfl⟩
    | [], .nil => exact absurd rfl hne
  have ey : its.toArray[0]? = some y0 := by rw [e0]; rfl
  refine pop_goes (lt := fun x y => lt3 (kvOf h x) (kvOf h y)) (M := its) (swo_of swo_3 _) (cmp_of ⟨n, e⟩ (by show X.A.units + 1 + 8 < cLine; omega) hM) ⟨n, e⟩ hh' (by rw [List.size_toArray]; omega) (fun v hv => by simpa using hv) ey fun h' ys s' f' i' p' => ?_
  have p2 : (y0 :: ys.toList).Perm its := p'
  obtain ⟨kk, pm, fv'⟩ := paired_perm p2 fv
  match kk, fv' with
  | k :: ks', .cons ⟨y, ry, qy⟩ fv' =>
    obtain ⟨xs', hq, hv⟩ := fv_to fv'
    have ek' := fv_kv I fv'
    obtain ⟨n', e'⟩ := s'
    refine ⟨y, _, I.write (e := l) (o := .lst xs') (t' := tk) (by rw [hH]; trivial) (.inl rfl) (fun b u hb hu => f' b u hb hu) ⟨_, e'⟩ ⟨?_, ys.toList, n', hv, e'⟩, ry, q y k xs' ks' qy pm (fun j hj => ?_) hq ?_⟩
    · have q1 := Vals.length hv
      have q2 := p2.length_eq
      have q3 := Vals.length rv
      rw [List.length_cons] at q2
      omega
    · rw [← ek] at hj
      obtain ⟨v, hv1, rfl⟩ := List.mem_map.mp hj
      obtain ⟨i, hi, ei⟩ := List.getElem_of_mem hv1
      have ei' : its.toArray[i]? = some v := by rw [List.getElem?_toArray, List.getElem?_eq_getElem hi, ei]
      have q2 := hh'.least (swo_of swo_3 _) ey i v ei'
      have q3 : kvOf h y0 = k := (qy.val I ry).at
      rw [← q3]
      exact q2
    · have q2 := heap_map.mp i'
      have e3 : ys.map (kvOf h) = ks'.toArray := by
        rw [← ek', ← List.map_toArray, Array.toArray_toList]
      rw [e3] at q2
      exact q2
end
end MyH

set_option Elab.async false
set_option linter.all false
set_option maxRecDepth 100000
set_option maxHeartbeats 1000000
/-! {k: v} with one tuple as its key -/
namespace MyS
open PySem PySem.Spec PyProof.Rows L2
def tDisp1T (tk tv : TE) : TE := fun σ H Q => ∀ p, H p = none → tk σ (upd H p (.dT [])) fun x H1 => tv σ H1 fun y H2 => H2 p = some (.dT []) ∧ ∃ b k, x = .ref b ∧ H2 b = some (.tup (List.map kV k)) ∧ Q (.ref p) (upd H2 p (.dT (putK [] k y)))
theorem pe_disp1T {X : Cx} {k v : Expr} {pos : Pos} {tk tv : TE} (hu : X.A.units + 1 < cLine) (hk : PE X k tk) (hv : PE X v tv) : PE X (.Dict [some k] [v] pos) (tDisp1T tk tv) := by
  refine ⟨fun pins s σ H Q I q => ?_⟩
  have hn := I.hok.fresh (Nat.le_refl s.heap.objs.size)
  have I1 := I.laid (a := s.heap.objs.size) (o := .dT []) (h' := s.heap.push { cls := .type "dict", data := .dict #[] }) (t' := s.toks) (fun _ _ q => Heap.get?_push_of_some _ q) (Nat.le_refl _) (dt_empty s.heap I.big)
  have hl := pairTrees_length [some k] [v] X.env pos rfl rfl
  rw [arm_eval_Dict, zip_pairTrees [some k] [v] X.env pos rfl rfl, dictDisplay_pairs _ (fun e => by rw [e] at hl; cases hl) (by rw [hl]; show 1 < 17; decide)]
  refine wpAny_bind (wpAny_standAt (wpAny_bind ?_))
  unfold subDict
  refine wpAny_bind (wpAny_alloc ?_)
  refine wpAny_bind (wpAny_holding ?_)
  rw [if_pos (by rw [hl]; show 1 ≤ 15; decide)]
  refine wpAny_bind (pairTrees_cons_walk (thn (hk.run pins _ σ _ _ I1 (q _ hn)) fun u s1 ⟨x, H1, I2, rx, q1⟩ => thn (hv.run pins s1 σ H1 _ I2 q1) fun w2 s2 ⟨y, H2, I3, ry, hp, b, k', ex, hb, q2⟩ => pairTrees_nil_walk ?_))
  subst ex
  refine wpAny_holding (wpAny_bind ?_)
  rw [List.forIn_cons]
  refine wpAny_bind (wpAny_bind (d_dictSetT hu I3 hp (by decide) hb rx ry fun s3 I4 => wpAny_pure ?_))
  show wpAny _ _ (forIn [] PUnit.unit _) _ _ _
  rw [List.forIn_nil]
  exact wpAny_pure (wpAny_pure (wpAny_pure (wpAny_pure ⟨.ref s.heap.objs.size, _, I4, rfl, q2⟩)))
end MyS

set_option Elab.async false
set_option linter.all false
set_option maxRecDepth 100000
set_option maxHeartbeats 1000000
namespace W
open PySem PySem.Spec PyProof.Rows L2 GxR MyG MyS
open MyH (K3 QAt HeapK cr_push cr_pop)
/-! ### search -/
abbrev sSearch : Stmt := top 46
def keyN (n : Node) : List Key := [.inr (nmN n), .inl 0]
def EntAt (H : Hp) (e : Ent) (kv : List Key × V) : Prop := kv.1 = keyN e.n ∧ ∃ p x, kv.2 = .ref p ∧ H p = some (.tup [.int e.t, x]) ∧ (match e.pv with
  | none => x = .non
  | some m => ∃ q, x = .ref q ∧ H q = some (.tup [.str (nmN m), .int 0]))
def CameAt (H : Hp) (D : Addr) (es : List Ent) : Prop := ∃ kvs, H D = some (.dT kvs) ∧ Paired (EntAt H) es kvs
def kOf (e : Ent) : K3 := (e.t, nmN e.n, 0)
/-- tuples stay -/
def TK (H H' : Hp) : Prop := ∀ a xs, H a = some (.tup xs) → H' a = some (.tup xs)
theorem TK.grew {P : Addr} {H H' : Hp} (g : Grew P H H') (h : TabG H P) : TK H H' := fun a xs e => g.tup h e
theorem TK.trans {H H1 H2 : Hp} (a : TK H H1) (b : TK H1 H2) : TK H H2 := fun x xs e => b x xs (a x xs e)
theorem TK.upd {H : Hp} {D : Addr} {o u : HO} (e : H D = some u) (d : ∀ xs, u ≠ .tup xs) : TK H (L2.upd H D o) := fun a xs q => by
  rw [upd_ne (fun z => by rw [z, e] at q; exact d _ (Option.some.inj q))]
  exact q
theorem TK.new {H : Hp} {D : Addr} {o : HO} (e : H D = none) : TK H (L2.upd H D o) := fun a xs q => by
  rw [upd_ne (fun z => by rw [z, e] at q; cases q)]
  exact q
theorem EntAt.keep {H H' : Hp} {e : Ent} {kv : List Key × V} (k : TK H H') (h : EntAt H e kv) : EntAt H' e kv := by
  obtain ⟨h1, p, x, h2, h3, h4⟩ := h
  refine ⟨h1, p, x, h2, k _ _ h3, ?_⟩
  cases c : e.pv with
  | none => rw [c] at h4; exact h4
  | some m =>
    rw [c] at h4
    obtain ⟨q, a, b⟩ := h4
    exact ⟨q, a, k _ _ b⟩
theorem QAt.keep {H H' : Hp} {k : K3} {x : V} (t : TK H H') (h : QAt H k x) : QAt H' k x := by
  obtain ⟨p, q, h1, h2, h3⟩ := h
  exact ⟨p, q, h1, t _ _ h2, t _ _ h3⟩
theorem nm_inj {rs : List RoadD} (nd : (rs.map (·.name)).Nodup) (ne : ∀ r ∈ rs, r.name ≠ Str.empty) {n m : Node} (hn : ∀ r, n = some r → r ∈ rs) (hm : ∀ r, m = some r → r ∈ rs) (e : nmN n = nmN m) : n = m := by
  cases n with
  | none =>
    cases m with
    | none => rfl
    | some r => exact absurd e.symm (ne r (hm r rfl))
  | some r =>
    cases m with
    | none => exact absurd e (ne r (hn r rfl))
    | some r' => rw [uniq_name nd (hn r rfl) (hm r' rfl) e]
theorem key_inj {n m : Node} (e : keyN n = keyN m) : nmN n = nmN m := Sum.inr.inj (List.cons.inj e).1
theorem came_at {H : Hp} : ∀ {es : List Ent} {kvs : List (List Key × V)} {e : Ent}, Paired (EntAt H) es kvs → (∀ a ∈ es, ∀ b ∈ es, nmN a.n = nmN b.n → a = b) → e ∈ es → ∃ v, valV kvs (keyN e.n) = some v ∧ EntAt H e (keyN e.n, v)
  | x :: es, (k, v) :: kvs, e, .cons h t, inj, he => by
    by_cases c : nmN e.n = nmN x.n
    · obtain rfl := inj e he x List.mem_cons_self c
      have e1 : k = keyN e.n := h.1
      subst e1
      exact ⟨v, valV_pos rfl, h⟩
    · have ne : ¬ k = keyN e.n := fun z => c (key_inj (z.symm.trans h.1))
      rcases List.mem_cons.mp he with z | z
      · rw [z] at c; exact absurd rfl c
      · obtain ⟨w, a, b⟩ := came_at t (fun a ha b hb => inj a (List.mem_cons_of_mem _ ha) b (List.mem_cons_of_mem _ hb)) z
        exact ⟨w, by rw [valV_neg (p := (k, v)) ne]; exact a, b⟩
theorem came_no {H : Hp} {z : Str} : ∀ {es : List Ent} {kvs : List (List Key × V)}, Paired (EntAt H) es kvs → (∀ a ∈ es, nmN a.n ≠ z) → valV kvs [.inr z, .inl 0] = none
  | [], [], .nil, _ => rfl
  | x :: es, (k, v) :: kvs, .cons h t, no => by
    have ne : ¬ k = [.inr z, .inl 0] := fun e => no x List.mem_cons_self (by
      have q := h.1
      have e' : k = [.inr z, .inl 0] := e
      rw [e'] at q
      exact (Sum.inr.inj (List.cons.inj q).1).symm)
    rw [valV_neg (p := (k, v)) ne]
    exact came_no t fun a ha => no a (List.mem_cons_of_mem _ ha)
def sgOf {K : PySem.W.Frag} {H : Hp} {M P x : Addr} {d : Int} {ks ps : List Str} {rs : List RoadD} {bs : List (Str × Str)} (hM : MIn K H M P x d ks ps rs bs) (hin : RsIn ps rs) (mi : ∀ r ∈ rs, 1 ≤ r.minutes) : SG d rs :=
  ⟨hM.d1, hM.nd, hin.ne, hM.ho, mi⟩
def spSearch (K : PySem.W.Frag) (M P : Addr) : Sp := fun vs H Q _ => ∃ (x mk : Addr) (kind start : Str) (moment d : Int) (ks ps : List Str) (rs : List RoadD) (bs : List (Str × Str)), vs = [.ref x, .str kind, .str start, .int moment, .ref mk] ∧ H mk = some (.dK []) ∧ 0 ≤ moment ∧ MIn K H M P x d ks ps rs bs ∧ RsIn ps rs ∧ (∀ r ∈ rs, 1 ≤ r.minutes) ∧
  kind.length ≤ 1000 ∧ kind ∈ ks ∧ start ∈ ps ∧ (∀ z ∈ ps, z.length ≤ 1000) ∧ ∀ H' D es, Grew P H H' → H D = none → CameAt H' D es → Sol d kind bs rs start moment es → Q (.ref D) H'
theorem lt3_first' {p q : K3} (h : MyH.lt3 p q = false) : q.1 ≤ p.1 := MyH.lt3_first h
/-- the search under way, at a heap -/
def SrchAt (P : Addr) (H1 H' : Hp) (D L : Addr) (d : Int) (kind : Str) (bs : List (Str × Str)) (rs : List RoadD) (start : Str) (moment : Int) (es qs : List Ent) (cur : Ent) (rest : List RoadD) : Prop :=
  Grew P H1 H' ∧ (∃ kvs, H' D = some (.dT kvs) ∧ Paired (EntAt H') es kvs) ∧ (∃ xs ks, H' L = some (.lst xs) ∧ Paired (QAt H') ks xs ∧ HeapK ks ∧ ks.Perm (qs.map kOf)) ∧ SInv d kind bs rs start moment es qs cur rest
section
variable {Pg : Program} {w : World} {K : PySem.W.Frag} {mg : Str → Option Value} {base : Heap} {C P : Addr}
abbrev nSearch : List Str := ["chart", "kind", "start", "moment", "marks", "behind", "first", "came", "queue", "now", "state", "name", "further", "arrival"]
theorem scSearch : FnScope nSearch ["chart", "kind", "start", "moment", "marks"] (defScope sSearch) := ⟨rfl, rfl, rfl, by decide +kernel, rfl, by decide +kernel, by decide +kernel⟩
theorem ok_search {f M U fT fR fA : Addr} {fd fdT fdR fdA : FuncData} {t1 t2 t3 t4 : Tok} (F : Fun K "search" "search" sSearch f fd) (TM : TxtM K M) (hno : mg "NO_ROAD" = some (.str Str.empty t1)) (hro : mg "ROAD" = some (.int 0 t2)) (hpa : mg "PASSED" = some (.int 1 t3)) (hen : mg "END" = some (.int 2 t4))
    (hpop : mg "heappop" = some (.builtin "_heapq.heappop")) (hpush : mg "heappush" = some (.builtin "_heapq.heappush")) (mR : Meth K M "road" fR)
    (GT : FnOk Pg w K mg base (L2.CX Pg w) 8 fT fdT ["chart", "kind", "start"] (spTurns K M P)) (gT : mg "turns" = some (.ref fT)) (kT : PySem.W.keepIn K (.ref fT) = true) (bT : Binds K fdT ["chart", "kind", "start"] [])
    (GR : FnOk Pg w K mg base (L2.CX Pg w) 4 fR fdR ["self", "name"] (spRoadM K M U)) (bR : Binds K fdR ["self", "name"] [])
    (GA : FnOk Pg w K mg base (L2.CX Pg w) 6 fA fdA ["chart", "name", "moment"] (spTravel K M U P arriveD)) (gA : mg "arrive" = some (.ref fA)) (kA : PySem.W.keepIn K (.ref fA) = true) (bA : Binds K fdA ["chart", "name", "moment"] []) :
    FnOk Pg w K mg base (L2.CX Pg w) 9 f fd ["chart", "kind", "start", "moment", "marks"] (spSearch K M P) := by
  refine F.okX scSearch (fun vs H Q E h => ?_) (fun cdv A outer s H vs Q E hr h => ?_)
  · obtain ⟨x, mk, kind, start, moment, d, ks, ps, rs, bs, rfl, _⟩ := h
    rfl
  · obtain ⟨x, mk, kind, start, moment, d, ks0, ps, rs, bs, rfl, hmk, hmo, hM, hin, hmi, hkl, hk, hst, hpl, k⟩ := h
    refine ⟨_, pss_cons (ps_set (i := 5) scSearch.nd rfl (Or.inl rfl) (pe_call (E := E0) GT hr (by rfl) gT kT bT .nil (passF rfl rfl) (pa_cons (pv 0) (pa_cons (pv 1) (pa_cons (pv 2) pa_nil)))))
      (pss_cons (ps_set (i := 6) scSearch.nd rfl (Or.inl rfl) (pe_tup (pa_cons (pe_gS hno) (pa_cons (pe_dget2 (u1 hr.units) (pv 4) (pv 2) pe_int ⟨rfl, rfl, rfl, rfl⟩) pa_nil))))
      (pss_cons (ps_set (i := 7) scSearch.nd rfl (Or.inl rfl) (pe_disp1T (u1 hr.units) (pv 6) (pe_tup (pa_cons (pv 3) (pa_cons pe_non pa_nil)))))
      (pss_cons (ps_set (i := 8) scSearch.nd rfl (Or.inl rfl) (pe_lst (pa_cons (pe_tup (pa_cons (pv 3) (pa_cons (pv 6) pa_nil))) pa_nil)))
      (pss_cons (ps_while (passes_of rfl) (pt_truth (pv 8) (by intro _; rfl))
        (pss_cons (ps_asg (pe_callBfun (cr_pop hr.units) (by rfl) hpop (pa_cons (pv 8) pa_nil)) (pg_tup (by rfl) (pgs_cons (pg_name (i := 9) scSearch.nd rfl (.inl rfl)) (pgs_cons (pg_name (i := 10) scSearch.nd rfl (.inl rfl)) pgs_nil))))
        (pss_one (ps_for (passes_of rfl) rfl (pi_list (pe_dget (u1 hr.units) (pv 5) (pe_ix ix_tup (pv 10) (pe_gI hro) (fun _ _ => rfl)) (fun _ _ => rfl))) (pg_name (i := 11) scSearch.nd rfl (Or.inl rfl))
          (pss_cons (ps_set (i := 12) scSearch.nd rfl (Or.inl rfl) (pe_tup (pa_cons (pv 11) (pa_cons (pe_op op_or (pe_ix ix_tup (pv 10) (pe_gI hpa) (fun _ _ => rfl)) (pe_dget2 (u1 hr.units) (pv 4) (pe_ix ix_tup (pe_meth (pv 0) TM.cl mR GR (hr.mono (by decide)) bR .nil (passF rfl rfl) (pa_cons (pv 11) pa_nil)) (pe_gI hen) (fun _ _ => rfl)) pe_int ⟨rfl, rfl, rfl, rfl⟩)) pa_nil))))
          (pss_one (ps_if (pt_cmp (pc_dnotin (u1 hr.units) (pv 12) (pv 7)))
            (pss_cons (ps_set (i := 13) scSearch.nd rfl (Or.inl rfl) (pe_call (E := E0) GA (hr.mono (by decide)) (by rfl) gA kA bA .nil (passF rfl rfl) (pa_cons (pv 0) (pa_cons (pv 11) (pa_cons (pv 9) pa_nil)))))
            (pss_cons (ps_dput (u1 hr.units) (pv 7) (pv 12) (pe_tup (pa_cons (pv 13) (pa_cons (pv 10) pa_nil))) rfl)
            (pss_one (ps_expr (pe_callBfun (cr_push hr.units) (by rfl) hpush (pa_cons (pv 8) (pa_cons (pe_tup (pa_cons (pv 13) (pa_cons (pv 12) pa_nil))) pa_nil))))))) pss_nil)))))))
      (pss_one (ps_ret (pv 7))))))), ?_⟩
    have G := sgOf hM hin hmi
    have hP := hM.t
    refine ⟨_, rfl, _, rfl, _, rfl, x, kind, start, d, ks0, ps, rs, bs, rfl, hM, hin, hkl, hk, hst, hpl, fun H1 B g1 nB hB => ?_⟩
    obtain ⟨dx, fs, kk, pp, rr, D0, bb, D2, ys0, zs0, hx, F7⟩ := hM.m
    obtain ⟨kvsB, eB, ⟨l0, vB0, lB0⟩, allB⟩ := hB
    have hmk1 := g1.get hP hmk (fun _ z => by cases z)
    -- first
    refine ⟨_, rfl, mk, rfl, .inl ⟨_, .inl hmk1⟩, _, rfl, none, DGet.k (k := .inr start) hmk1, by show 2 ≤ sizeLine; decide, fun f0 nf0 => ?_⟩
    rw [show (none : Option V).getD (.int 0) = .int 0 from rfl]
    have ga := Grew.new g1.tab (o := .tup [.str Str.empty, .int 0]) nf0
    -- came
    refine fun D nD => ⟨_, rfl, _, rfl, by show 2 ≤ sizeLine; decide, fun e0 ne0 => ?_⟩
    have gb := ga.put (o := .dT []) nD
    have gc := gb.put (o := .tup [.int moment, .non]) ne0
    have nD1 : H1 D = none := ga.free nD
    have eD := (Grew.new gb.tab (o := .tup [.int moment, .non]) ne0).get gb.tab (b := D) upd_same (fun _ z => by cases z)
    have ef0 : L2.upd (L2.upd (L2.upd H1 f0 (.tup [.str Str.empty, .int 0])) D (.dT [])) e0 (.tup [.int moment, .non]) f0 = some (.tup [.str Str.empty, .int 0]) :=
      TK.new ne0 _ _ (TK.new nD _ _ upd_same)
    refine ⟨eD, f0, keyN none, rfl, ef0, ?_⟩
    have gd := gc.write (o := .dT (putK [] (keyN none) (.ref e0))) eD (fun _ z => by cases z) nD1
    generalize hHd : L2.upd (L2.upd (L2.upd (L2.upd H1 f0 (.tup [.str Str.empty, .int 0])) D (.dT [])) e0 (.tup [.int moment, .non])) D (.dT (putK [] (keyN none) (.ref e0))) = Hd at gd ⊢
    have eDd : Hd D = some (.dT [(keyN none, .ref e0)]) := by rw [← hHd]; exact upd_same
    have tkd : TK (L2.upd (L2.upd (L2.upd H1 f0 (.tup [.str Str.empty, .int 0])) D (.dT [])) e0 (.tup [.int moment, .non])) Hd := by rw [← hHd]; exact TK.upd eD (fun _ z => by cases z)
    have ee0 : Hd e0 = some (.tup [.int moment, .non]) := tkd _ _ upd_same
    have eff : Hd f0 = some (.tup [.str Str.empty, .int 0]) := tkd _ _ ef0
    -- queue
    refine ⟨_, rfl, _, rfl, by show 2 ≤ sizeLine; decide, fun q0 nq0 => ⟨by show 1 ≤ sizeLine; decide, fun L nL => ?_⟩⟩
    have ge := gd.put (o := .tup [.int moment, .ref f0]) nq0
    have gf := ge.put (o := .lst [.ref q0]) nL
    have nL1 : H1 L = none := ge.free nL
    have tke : TK Hd (L2.upd (L2.upd Hd q0 (.tup [.int moment, .ref f0])) L (.lst [.ref q0])) := (TK.new nq0).trans (TK.new nL)
    have eDf : L2.upd (L2.upd Hd q0 (.tup [.int moment, .ref f0])) L (.lst [.ref q0]) D = some (.dT [(keyN none, .ref e0)]) := ((Grew.new gd.tab nq0).trans (Grew.new ge.tab nL)).get gd.tab eDd (fun _ z => by cases z)
    have eq0 : L2.upd (L2.upd Hd q0 (.tup [.int moment, .ref f0])) L (.lst [.ref q0]) q0 = some (.tup [.int moment, .ref f0]) := TK.new nL _ _ upd_same
    generalize hHf : L2.upd (L2.upd Hd q0 (.tup [.int moment, .ref f0])) L (.lst [.ref q0]) = Hf at gf tke eDf eq0 ⊢
    have eLf : Hf L = some (.lst [.ref q0]) := by rw [← hHf]; exact upd_same
    refine ⟨fun n σ H' => ∃ es qs cur v9 v10 v11 v12 v13, σ = [some (.ref x), some (.str kind), some (.str start), some (.int moment), some (.ref mk), some (.ref B), some (.ref f0), some (.ref D), some (.ref L), v9, v10, v11, v12, v13] ∧ SrchAt P H1 H' D L d kind bs rs start moment es qs cur [] ∧ n = 2 * (rs.length + 1 - es.length) + qs.length,
      ⟨_, [⟨none, moment, none⟩], [⟨none, moment, none⟩], ⟨none, moment, none⟩, none, none, none, none, none, rfl, ⟨gf, ⟨_, eDf, .cons ⟨rfl, e0, .non, rfl, tke _ _ ee0, rfl⟩ .nil⟩, ⟨_, [(moment, Str.empty, 0)], eLf, .cons ⟨q0, f0, rfl, eq0, tke _ _ eff⟩ .nil, ?_, List.Perm.refl _⟩, SInv.init⟩, rfl⟩, ?_⟩
    · intro i a b hi e1 e2
      have := (Array.getElem?_eq_some_iff.mp e1).1
      simp at this
      omega
    rintro n σ H2 ⟨es, qs, cur, v9, v10, v11, v12, v13, rfl, ⟨g2, ⟨kvs, hD, hE⟩, ⟨xs, ks', hL, hQ, hh, pm⟩, I⟩, hn⟩
    refine ⟨_, rfl, _, .inl ⟨xs, SqL.of hL, rfl⟩, ?_⟩
    refine ite2 (fun hne => ?_) (fun he => ?_)
    · refine ⟨_, fun _ _ h => h, ?_⟩
      have xne : xs ≠ [] := fun z => by rw [z] at hne; cases hne
      have kne : ks' ≠ [] := fun z => by
        rw [z] at hQ
        cases hQ
        exact xne rfl
      refine ⟨_, rfl, L, xs, ks', rfl, hL, hQ, kne, hh, fun y k1 ys ks2 hy hp hmin hq' hh' => ?_⟩
      obtain ⟨q, qs', rfl, hpq, hpk⟩ := perm_map_cons (hp.trans pm)
      obtain ⟨p, q1, rfl, hp1, hq1⟩ := hy
      have I' := I.pop hpq fun j hj => lt3_first' (hmin (kOf j) (pm.mem_iff.mpr (List.mem_map.mpr ⟨j, hj, rfl⟩)))
      have tk3 : TK H2 (L2.upd H2 L (.lst ys)) := TK.upd hL (fun _ z => by cases z)
      have g3 := g2.write (o := .lst ys) hL (fun _ z => by cases z) nL1
      have hD3 : L2.upd H2 L (.lst ys) D = some (.dT kvs) := by rw [upd_ne (fun z => by rw [z, hL] at hD; cases hD)]; exact hD
      have hE3 : Paired (EntAt (L2.upd H2 L (.lst ys))) es kvs := Paired.map' hE fun _ _ m => m.keep tk3
      have hQ3 : Paired (QAt (L2.upd H2 L (.lst ys))) ks2 ys := Paired.map' hq' fun _ _ m => QAt.keep tk3 m
      refine ⟨p, _, rfl, SqT.of (tk3 _ _ hp1), rfl, _, _, rfl, _, _, rfl, rfl, ?_⟩
      have hp1' : H2 p = some (.tup [.int q.t, .ref q1]) := hp1
      have hq1' : H2 q1 = some (.tup [.str (nmN q.n), .int 0]) := hq1
      generalize hH3 : L2.upd H2 L (.lst ys) = H3 at tk3 g3 hD3 hE3 hQ3 ⊢
      have hL3 : H3 L = some (.lst ys) := by rw [← hH3]; exact upd_same
      have hq3 := tk3 _ _ hq1'
      have hqes : q ∈ es := I.sub q (hpq.mem_iff.mp List.mem_cons_self)
      obtain ⟨l, hl1, hl2⟩ : ∃ l, valV kvsB (.inr (nmN q.n)) = some (.ref l) ∧ H1 l = some (.lst (namesV (nxN kind bs rs start q.n))) := by
        cases c : q.n with
        | none => exact ⟨l0, vB0, lB0⟩
        | some r =>
          obtain ⟨l, a, b⟩ := allB r (I.mem q hqes r c)
          exact ⟨l, a, b⟩
      have eB3 := g3.get g1.tab eB (fun _ z => by cases z)
      have gB : DGet H3 B (.str (nmN q.n)) (some (.ref l)) := by rw [← hl1]; exact DGet.k (k := .inr (nmN q.n)) eB3
      have lnx : (namesV (nxN kind bs rs start q.n)).length = (nxN kind bs rs start q.n).length := by unfold namesV; rw [List.length_map, List.length_map]
      have hcnt0 := I.count G
      have hqlen : qs'.length + 1 = qs.length := by have := hpq.length_eq; simpa using this
      refine ⟨_, rfl, _, rfl, q1, _, 0, _, rfl, rfl, SqT.of hq3, rfl, B, _, rfl, gB, l, rfl, ⟨_, SqL.of (g3.lst g1.tab hl2)⟩, for_list (K := K) (a := l) (xs := namesV (nxN kind bs rs start q.n))
        (fun i σ H' => ∃ es qs v11 v12 v13, σ = [some (.ref x), some (.str kind), some (.str start), some (.int moment), some (.ref mk), some (.ref B), some (.ref f0), some (.ref D), some (.ref L), some (.int q.t), some (.ref q1), v11, v12, v13] ∧
          SrchAt P H1 H' D L d kind bs rs start moment es qs q ((nxN kind bs rs start q.n).drop i) ∧ H' q1 = some (.tup [.str (nmN q.n), .int 0]) ∧ 2 * (rs.length + 1 - es.length) + qs.length < n)
        ⟨es, qs', v11, v12, v13, rfl, ⟨g3, ⟨kvs, hD3, hE3⟩, ⟨ys, ks2, hL3, hQ3, hh', hpk⟩, I'⟩, hq3, by omega⟩ (fun i σ H' _ ⟨_, _, _, _, _, _, s, _⟩ => SqL.of (s.1.lst g1.tab hl2)) ?_ ?_⟩
      · rintro i y σ H4 hy ⟨es, qs, v11, v12, v13, rfl, ⟨g4, ⟨kvs, hD, hE⟩, ⟨xs, ks, hL, hQ, hh, pm⟩, I⟩, hq4, hmeas⟩
        obtain ⟨r, hri, rfl⟩ := namesV_at hy
        have hdrop : (nxN kind bs rs start q.n).drop i = r :: (nxN kind bs rs start q.n).drop (i + 1) := by
          obtain ⟨h1, h2⟩ := List.getElem?_eq_some_iff.mp hri
          rw [List.drop_eq_getElem_cons h1, h2]
        rw [hdrop] at I
        obtain ⟨hr1, hever⟩ := nx_mem (List.mem_of_getElem? hri)
        have g04 := g1.trans g4
        have hM4 := hM.grew g04
        have hmk4 := g4.get g1.tab hmk1 (fun _ z => by cases z)
        have hcnt := I.count G
        have hql := I.qlen
        have hDL : D ≠ L := fun z => by rw [z, hL] at hD; cases hD
        -- further
        refine ⟨_, rfl, _, rfl, q1, _, 1, _, rfl, rfl, SqT.of hq4, rfl, _, rfl, mk, rfl, .inl ⟨_, .inl hmk4⟩, _, rfl, x, dx, fs, rfl, g04.get hP hx (fun _ z => by cases z), F7.f0 _ (by decide +kernel), _, rfl, x, r.name, d, ks0, ps, rs, bs, rfl, hM.nl _ hr1, hM4.m, fun r' h1' he1 v hv => ?_, fun no => absurd rfl (no r hr1)⟩
        obtain rfl : r' = r := uniq_name hM.nd h1' hr1 he1
        obtain ⟨pr, qr, hv', rfl, epr, _, _⟩ := hv
        refine ⟨pr, _, 2, .str r'.goal, rfl, rfl, SqT.of epr, rfl, none, DGet.k (k := .inr r'.goal) hmk4, _, _, rfl, rfl, by show 2 ≤ sizeLine; decide, fun fu nfu => ?_⟩
        dsimp only [Option.getD_none]
        rw [show V.int (Builtin.bitOr 0 0) = V.int 0 from rfl]
        have g5 := g4.put (o := .tup [.str r'.name, .int 0]) nfu
        have g45 := Grew.new g4.tab (o := .tup [.str r'.name, .int 0]) nfu
        have tk5 : TK H4 (L2.upd H4 fu (.tup [.str r'.name, .int 0])) := TK.new nfu
        have efu5 : L2.upd H4 fu (.tup [.str r'.name, .int 0]) fu = some (.tup [.str r'.name, .int 0]) := upd_same
        generalize hH5 : L2.upd H4 fu (.tup [.str r'.name, .int 0]) = H5 at g5 g45 tk5 efu5 ⊢
        have hD5 := g45.get g4.tab hD (fun _ z => by cases z)
        have hL5 := g45.lst g4.tab hL
        have hq5 := tk5 _ _ hq4
        have hE5 : Paired (EntAt H5) es kvs := Paired.map' hE fun _ _ m => m.keep tk5
        have hQ5 : Paired (QAt H5) ks xs := Paired.map' hQ fun _ _ m => QAt.keep tk5 m
        have inj : ∀ a ∈ es, ∀ b ∈ es, nmN a.n = nmN b.n → a = b := fun a ha b hb e => ent_ext I.nd ha hb (nm_inj hM.nd hin.ne (I.mem a ha) (I.mem b hb) e)
        have kvl : kvs.length = es.length := (Paired.len hE).symm
        have l60 := hin.l60
        refine ⟨_, rfl, _, rfl, D, _, rfl, DGet.t (k := keyN (some r')) hD5 efu5, _, rfl, ?_⟩
        by_cases hin' : ∃ e ∈ es, e.n = some r'
        · obtain ⟨e, he, en⟩ := hin'
          obtain ⟨v, hv, _⟩ := came_at hE inj he
          rw [en] at hv
          rw [hv]
          refine iteF ?_
          exact ⟨es, qs, _, _, _, rfl, ⟨g5, ⟨kvs, hD5, hE5⟩, ⟨xs, ks, hL5, hQ5, hh, pm⟩, I.skip G ⟨e, he, en⟩⟩, hq5, hmeas⟩
        · have hno' : ∀ e ∈ es, e.n ≠ some r' := fun e he en => hin' ⟨e, he, en⟩
          have hnone : valV kvs (keyN (some r')) = none := came_no hE fun a ha e => hno' a ha (nm_inj hM.nd hin.ne (I.mem a ha) (fun r2 h2 => by rw [← Option.some.inj h2]; exact hr1) e)
          rw [hnone]
          refine iteT ?_
          obtain ⟨hc1, hc2, _⟩ := I.cd (by simp)
          have hq0 : 0 ≤ q.t := Int.le_trans hmo (I.ge q hc1)
          obtain ⟨earr, _⟩ := ar_some G.d1 (G.ho r' hr1) (ever_hours hever) q.t
          have g05 := g1.trans g5
          refine ⟨_, rfl, _, rfl, _, rfl, x, r'.name, q.t, d, ks0, ps, rs, bs, rfl, hM.nl _ hr1, hq0, hM.d1, (hM.grew g05).m, g5.tab, fun r2 h2 he2 H6 g56 => ?_, fun no => absurd rfl (no r' hr1), hM.nd⟩
          obtain rfl : r2 = r' := uniq_name hM.nd h2 hr1 he2
          rw [earr]
          rw [show optV (some (ar d r2 q.t)) = V.int (ar d r2 q.t) from rfl]
          have g6 := g5.trans g56
          have tk6 : TK H5 H6 := TK.grew g56 g5.tab
          have hD6 := g56.get g5.tab hD5 (fun _ z => by cases z)
          have hL6 := g56.lst g5.tab hL5
          have efu6 := tk6 _ _ efu5
          have hq6 := tk6 _ _ hq5
          -- came[further] = ..
          refine ⟨_, rfl, _, rfl, by show 2 ≤ sizeLine; decide, fun en nen => ?_⟩
          have g7 := g6.put (o := .tup [.int (ar d r2 q.t), .ref q1]) nen
          have g67 := Grew.new g6.tab (o := .tup [.int (ar d r2 q.t), .ref q1]) nen
          have tk7 : TK H6 (L2.upd H6 en (.tup [.int (ar d r2 q.t), .ref q1])) := TK.new nen
          have een : L2.upd H6 en (.tup [.int (ar d r2 q.t), .ref q1]) en = some (.tup [.int (ar d r2 q.t), .ref q1]) := upd_same
          generalize hH7 : L2.upd H6 en (.tup [.int (ar d r2 q.t), .ref q1]) = H7 at g7 g67 tk7 een ⊢
          have hD7 := g67.get g6.tab hD6 (fun _ z => by cases z)
          have hL7 := g67.lst g6.tab hL6
          have efu7 := tk7 _ _ efu6
          have hq7 := tk7 _ _ hq6
          refine ⟨_, rfl, _, rfl, D, _, rfl, DPut.t (k := keyN (some r2)) hD7 efu7 (by rw [sizeLine_eq]; omega), ?_⟩
          rw [putK_new _ hnone]
          have g8 := g7.write (o := .dT (kvs ++ [(keyN (some r2), .ref en)])) hD7 (fun _ z => by cases z) nD1
          have tk8 : TK H7 (L2.upd H7 D (.dT (kvs ++ [(keyN (some r2), .ref en)]))) := TK.upd hD7 (fun _ z => by cases z)
          have hD8 : L2.upd H7 D (.dT (kvs ++ [(keyN (some r2), .ref en)])) D = some (.dT (kvs ++ [(keyN (some r2), .ref en)])) := upd_same
          have hL8 : L2.upd H7 D (.dT (kvs ++ [(keyN (some r2), .ref en)])) L = some (.lst xs) := by rw [upd_ne hDL.symm]; exact hL7
          generalize hH8 : L2.upd H7 D (.dT (kvs ++ [(keyN (some r2), .ref en)])) = H8 at g8 tk8 hD8 hL8 ⊢
          -- push
          refine ⟨_, rfl, _, rfl, _, rfl, by show 2 ≤ sizeLine; decide, fun qe nqe => ?_⟩
          have g9 := g8.put (o := .tup [.int (ar d r2 q.t), .ref fu]) nqe
          have g89 := Grew.new g8.tab (o := .tup [.int (ar d r2 q.t), .ref fu]) nqe
          have tk9 : TK H8 (L2.upd H8 qe (.tup [.int (ar d r2 q.t), .ref fu])) := TK.new nqe
          have eqe : L2.upd H8 qe (.tup [.int (ar d r2 q.t), .ref fu]) qe = some (.tup [.int (ar d r2 q.t), .ref fu]) := upd_same
          generalize hH9 : L2.upd H8 qe (.tup [.int (ar d r2 q.t), .ref fu]) = H9 at g9 g89 tk9 eqe ⊢
          have hD9 := g89.get g8.tab hD8 (fun _ z => by cases z)
          have hL9 := g89.lst g8.tab hL8
          have tk49 : TK H5 H9 := ((tk6.trans tk7).trans tk8).trans tk9
          have tk79 : TK H7 H9 := tk8.trans tk9
          have hQ9 : Paired (QAt H9) ks xs := Paired.map' hQ5 fun _ _ m => QAt.keep tk49 m
          have hlx : xs.length = qs.length := by rw [← Paired.len hQ, pm.length_eq, List.length_map]
          refine ⟨L, _, xs, ks, (ar d r2 q.t, r2.name, 0), rfl, hL9, hQ9, ⟨qe, fu, rfl, eqe, tk79 _ _ efu7⟩, by rw [sizeLine_eq]; omega, hh, fun ys ks3 pm3 hQ10 hh10 => ?_⟩
          have g10 := g9.write (o := .lst ys) hL9 (fun _ z => by cases z) nL1
          have tk10 : TK H9 (L2.upd H9 L (.lst ys)) := TK.upd hL9 (fun _ z => by cases z)
          have hD10 : L2.upd H9 L (.lst ys) D = some (.dT (kvs ++ [(keyN (some r2), .ref en)])) := by rw [upd_ne hDL]; exact hD9
          have hE10 : Paired (EntAt (L2.upd H9 L (.lst ys))) (es ++ [⟨some r2, ar d r2 q.t, some q.n⟩]) (kvs ++ [(keyN (some r2), .ref en)]) :=
            Paired.snoc (Paired.map' hE5 fun _ _ m => m.keep (tk49.trans tk10)) (show EntAt _ _ _ from ⟨rfl, en, .ref q1, rfl, (tk79.trans tk10) _ _ een, q1, rfl, (tk79.trans tk10) _ _ hq7⟩)
          have pmq : ks3.Perm ((qs ++ [(⟨some r2, ar d r2 q.t, some q.n⟩ : Ent)]).map kOf) := by
            rw [List.map_append]
            exact pm3.trans (List.Perm.append_right _ pm)
          have hnew := I.add G hno' (List.Perm.refl _)
          have hcn := hnew.count G
          rw [List.length_append, List.length_singleton] at hcn
          refine ⟨_, _, _, _, _, rfl, ⟨g10, ⟨_, hD10, hE10⟩, ⟨ys, ks3, upd_same, Paired.map' hQ10 fun _ _ m => QAt.keep tk10 m, hh10, pmq⟩, hnew⟩, (tk79.trans tk10) _ _ hq7, ?_⟩
          rw [List.length_append, List.length_append, List.length_singleton]
          omega
      · rintro σ H4 ⟨es, qs, v11, v12, v13, rfl, ⟨g4, hc, hl, I⟩, hq4, hmeas⟩
        rw [lnx, List.drop_length] at I
        exact ⟨_, hmeas, es, qs, q, _, _, _, _, _, rfl, ⟨g4, hc, hl, I⟩, rfl⟩
    · have xe : xs = [] := by
        cases xs with
        | nil => rfl
        | cons a l => exact absurd rfl he
      subst xe
      cases hQ
      have qe : qs = [] := by
        have := pm.length_eq
        simp at this
        exact List.length_eq_zero_iff.mp this.symm
      subst qe
      exact ⟨_, rfl, k H2 D es (g1.trans g2) (g1.free nD1) ⟨kvs, hD, hE⟩ I.done⟩
end
end W

set_option Elab.async false
set_option linter.all false
set_option maxRecDepth 100000
set_option maxHeartbeats 400000
/-! comprehensions over a locked dict's keys -/
namespace MyS
open PySem PySem.Spec PyProof.Rows L2
theorem lc_keysT {d : Addr} {o : Obj} {kvs : List (List Key × V)} {g : TG} {tt : TT} {te : TE} {vs : List Nat} {σ : L2.St} {H1 : Hp} {D : Addr} {Qd : Hp → Prop} (Pv : Nat → Hp → Prop) (h0 : Pv 0 (upd H1 D (.lst []))) (hl : ∀ i H, i ≤ kvs.length → Pv i H → H d = some (.frz o (.dT kvs)))
    (hs : ∀ i k v q H, kvs[i]? = some (k, v) → H q = some (.tup (List.map kV k)) → Pv i H → g (.ref q) (wipe σ vs) H fun σ2 H2 => wipe σ2 vs = wipe σ vs ∧ tt σ2 H2 fun b H3 =>
      if b = true then te σ2 H3 fun y H4 => ∃ acc, H4 D = some (.lst acc) ∧ acc.length < sizeLine ∧ Pv (i + 1) (upd H4 D (.lst (acc ++ [y]))) else Pv (i + 1) H3) (hd : ∀ H, Pv kvs.length H → Qd H) :
    ∃ W : Nat → Nat → Hp → Prop, (∃ m, W 0 m (upd H1 D (.lst []))) ∧ ∀ i m H, W i m H →
      ((Itkt d o kvs).stop i H ∧ Qd H) ∨ ((Itkt d o kvs).go i H ∧ ∃ Nx : Hp → Prop, (∀ H', Nx H' → ∃ m', m' < m ∧ W (i + 1) m' H') ∧ ∀ x H', (Itkt d o kvs).yld i H x H' → g x (wipe σ vs) H' fun σ2 H2 => wipe σ2 vs = wipe σ vs ∧ tt σ2 H2 fun b H3 =>
        if b = true then te σ2 H3 fun y H4 => ∃ acc, H4 D = some (.lst acc) ∧ acc.length < sizeLine ∧ Nx (upd H4 D (.lst (acc ++ [y]))) else Nx H3) := by
  refine ⟨fun i m H => m = kvs.length - i ∧ i ≤ kvs.length ∧ Pv i H, ⟨kvs.length, by simp, Nat.zero_le _, h0⟩, ?_⟩
  rintro i m H ⟨rfl, hi, p⟩
  have q := hl i H hi p
  by_cases hlt : i < kvs.length
  · refine .inr ⟨⟨q, hlt⟩, Pv (i + 1), fun H' p' => ⟨kvs.length - (i + 1), by omega, rfl, hlt, p'⟩, fun x H' y => ?_⟩
    obtain ⟨e, k, v, a, e1, e2, e3⟩ := y
    subst e e2
    exact hs i k v a _ e1 e3 p
  · have e : i = kvs.length := by omega
    subst e
    exact .inl ⟨⟨q, Nat.le_refl _⟩, hd H p⟩
theorem lc_keysK {d : Addr} {o : Obj} {kvs : List (Key × V)} {g : TG} {tt : TT} {te : TE} {vs : List Nat} {σ : L2.St} {H1 : Hp} {D : Addr} {Qd : Hp → Prop} (Pv : Nat → Hp → Prop) (h0 : Pv 0 (upd H1 D (.lst []))) (hl : ∀ i H, i ≤ kvs.length → Pv i H → H d = some (.frz o (.dK kvs)))
    (hs : ∀ i k v H, kvs[i]? = some (k, v) → Pv i H → g (kV k) (wipe σ vs) H fun σ2 H2 => wipe σ2 vs = wipe σ vs ∧ tt σ2 H2 fun b H3 =>
      if b = true then te σ2 H3 fun y H4 => ∃ acc, H4 D = some (.lst acc) ∧ acc.length < sizeLine ∧ Pv (i + 1) (upd H4 D (.lst (acc ++ [y]))) else Pv (i + 1) H3) (hd : ∀ H, Pv kvs.length H → Qd H) :
    ∃ W : Nat → Nat → Hp → Prop, (∃ m, W 0 m (upd H1 D (.lst []))) ∧ ∀ i m H, W i m H →
      ((Itk d o kvs).stop i H ∧ Qd H) ∨ ((Itk d o kvs).go i H ∧ ∃ Nx : Hp → Prop, (∀ H', Nx H' → ∃ m', m' < m ∧ W (i + 1) m' H') ∧ ∀ x H', (Itk d o kvs).yld i H x H' → g x (wipe σ vs) H' fun σ2 H2 => wipe σ2 vs = wipe σ vs ∧ tt σ2 H2 fun b H3 =>
        if b = true then te σ2 H3 fun y H4 => ∃ acc, H4 D = some (.lst acc) ∧ acc.length < sizeLine ∧ Nx (upd H4 D (.lst (acc ++ [y]))) else Nx H3) := by
  refine ⟨fun i m H => m = kvs.length - i ∧ i ≤ kvs.length ∧ Pv i H, ⟨kvs.length, by simp, Nat.zero_le _, h0⟩, ?_⟩
  rintro i m H ⟨rfl, hi, p⟩
  have q := hl i H hi p
  by_cases hlt : i < kvs.length
  · refine .inr ⟨⟨q, hlt⟩, Pv (i + 1), fun H' p' => ⟨kvs.length - (i + 1), by omega, rfl, hlt, p'⟩, fun x H' y => ?_⟩
    obtain ⟨e, k, v, e1, e2⟩ := y
    subst e e2
    exact hs i k v _ e1 p
  · have e : i = kvs.length := by omega
    subst e
    exact .inl ⟨⟨q, Nat.le_refl _⟩, hd H p⟩
end MyS

set_option Elab.async false
set_option linter.all false
set_option maxRecDepth 100000
set_option maxHeartbeats 1000000
namespace W
open PySem PySem.Spec PyProof.Rows L2 GxR MyG MyS
open MyH (K3 QAt HeapK cr_push cr_pop)
/-! ### labels, places_from -/
abbrev sLabels : Stmt := top 52
abbrev sPlaces : Stmt := top 53
/-- a row of a list that is told -/
def RowAt (H : Hp) (e : Str × Int) (v : V) : Prop := ∃ p, v = .ref p ∧ H p = some (.tup [.str e.1, .int e.2])
theorem RowAt.keep {H H' : Hp} {e : Str × Int} {v : V} (k : TK H H') (h : RowAt H e v) : RowAt H' e v := let ⟨p, a, b⟩ := h; ⟨p, a, k _ _ b⟩
def AscF (ls : List (Str × Int)) : Prop := ls.Pairwise fun a b => slt b.1 a.1 = false
def labsOf (es : List Ent) : List (Str × Int) := es.filterMap fun e => e.n.map fun r => (r.name, e.t)
def fstAt (H : Hp) : V → Str
  | .ref p => match H p with
    | some (.tup (.str n :: _)) => n
    | _ => Str.empty
  | _ => Str.empty
theorem RowAt.fst {H : Hp} {e : Str × Int} {v : V} (m : RowAt H e v) : fstAt H v = e.1 := by
  obtain ⟨p, rfl, h⟩ := m
  unfold fstAt
  simp only [h]
/-- the questions of a kind, a start and a moment: what they are told of -/
def Ask (K : PySem.W.Frag) (H : Hp) (M P x : Addr) (d : Int) (ks ps : List Str) (rs : List RoadD) (bs : List (Str × Str)) (kind start : Str) (moment : Int) : Prop :=
  MIn K H M P x d ks ps rs bs ∧ RsIn ps rs ∧ (∀ r ∈ rs, 1 ≤ r.minutes) ∧ (∀ z ∈ ps, z.length ≤ 1000) ∧ kind.length ≤ 1000 ∧ start.length ≤ 1000 ∧ 0 ≤ moment
def spLabels (K : PySem.W.Frag) (M U P : Addr) (f : List Ent → List (Str × Int)) : Sp := fun vs H Q E => ∃ (x : Addr) (kind start : Str) (moment d : Int) (ks ps : List Str) (rs : List RoadD) (bs : List (Str × Str)), vs = [.ref x, .str kind, .str start, .int moment] ∧ Ask K H M P x d ks ps rs bs kind start moment ∧
  Names4 U ks ps rs kind [start] [] (fun z => ∀ H', Grew P H H' → Unk U H' E z) (∀ H' p es ls ys, Grew P H H' → H p = none → Sol d kind bs rs start moment es → ls.Perm (f es) → AscF ls → H' p = some (.lst ys) → Paired (RowAt H') ls ys → Q (.ref p) H')
theorem names_of_keys {H : Hp} : ∀ {es : List Ent} {kvs : List (List Key × V)} {i : Nat} {k : List Key} {v : V}, Paired (EntAt H) es kvs → kvs[i]? = some (k, v) → ∃ e, es[i]? = some e ∧ k = keyN e.n := fun h hi => by
  obtain ⟨e, he, m⟩ := Paired.at h hi
  exact ⟨e, he, m.1⟩
theorem labs_take {es : List Ent} {i : Nat} {e : Ent} (h : es[i]? = some e) : labsOf (es.take (i + 1)) = labsOf (es.take i) ++ (match e.n with | none => [] | some r => [(r.name, e.t)]) := by
  unfold labsOf
  rw [List.take_succ, h, List.filterMap_append]
  cases c : e.n with
  | none => simp [c]
  | some r => simp [c]
theorem labs_nodup {rs : List RoadD} (nd : (rs.map (·.name)).Nodup) : ∀ {es : List Ent}, (es.map (·.n)).Nodup → (∀ e ∈ es, ∀ r, e.n = some r → r ∈ rs) → ((labsOf es).map (·.1)).Nodup
  | [], _, _ => List.nodup_nil
  | e :: es, h, hm => by
    have q := List.nodup_cons.mp h
    have ih := labs_nodup nd q.2 fun e he => hm e (List.mem_cons_of_mem _ he)
    unfold labsOf at ih ⊢
    cases c : e.n with
    | none => rw [List.filterMap_cons, c]; exact ih
    | some r =>
      rw [List.filterMap_cons, c]
      refine List.nodup_cons.mpr ⟨fun z => ?_, ih⟩
      obtain ⟨y, hy, ey⟩ := List.mem_map.mp z
      obtain ⟨e', he', h2⟩ := List.mem_filterMap.mp hy
      cases c' : e'.n with
      | none => rw [c'] at h2; cases h2
      | some r' =>
        rw [c'] at h2
        have ey' : y = (r'.name, e'.t) := (Option.some.inj h2).symm
        rw [ey'] at ey
        have er := uniq_name nd (hm e' (List.mem_cons_of_mem _ he') r' c') (hm e List.mem_cons_self r c) ey
        rw [er] at c'
        exact q.1 (List.mem_map.mpr ⟨e', he', c'.trans c.symm⟩)
theorem perm_perm {α : Type} {a b c : List α} (h : a.Perm b) (g : b.Perm c) : a.Perm c := h.trans g
section
variable {Pg : Program} {w : World} {K : PySem.W.Frag} {mg : Str → Option Value} {base : Heap} {C P : Addr}
abbrev nLabels : List Str := ["chart", "kind", "start", "moment", "came", "state"]
theorem scLabels : FnScope nLabels ["chart", "kind", "start", "moment"] (defScope sLabels) := ⟨rfl, rfl, rfl, by decide +kernel, rfl, by decide +kernel, by decide +kernel⟩
theorem ok_labels {f M U fN fS : Addr} {fd fdN fdS : FuncData} {t1 t2 t3 : Tok} (F : Fun K "labels" "labels" sLabels f fd) (hs : mg "sorted" = none) (hno : mg "NO_ROAD" = some (.str Str.empty t1)) (hro : mg "ROAD" = some (.int 0 t2)) (har : mg "ARRIVAL" = some (.int 0 t3))
    (GN : FnOk Pg w K mg base (L2.CX Pg w) 4 fN fdN ["chart", "kind", "places", "roads"] (spChkN K M U P)) (gN : mg "check_names" = some (.ref fN)) (kN : PySem.W.keepIn K (.ref fN) = true) (bN : Binds K fdN ["chart", "kind", "places", "roads"] [])
    (GS : FnOk Pg w K mg base (L2.CX Pg w) 9 fS fdS ["chart", "kind", "start", "moment", "marks"] (spSearch K M P)) (gS : mg "search" = some (.ref fS)) (kS : PySem.W.keepIn K (.ref fS) = true) (bS : Binds K fdS ["chart", "kind", "start", "moment", "marks"] []) :
    FnOk Pg w K mg base (L2.CX Pg w) 10 f fd ["chart", "kind", "start", "moment"] (spLabels K M U P labsOf) := by
  refine F.okX scLabels (fun vs H Q E h => ?_) (fun cdv A outer s H vs Q E hr h => ?_)
  · obtain ⟨x, kind, start, moment, d, ks, ps, rs, bs, rfl, _⟩ := h
    rfl
  · obtain ⟨x, kind, start, moment, d, ks, ps, rs, bs, rfl, ⟨hM, hin, hmi, hpl, hkl, hsl, hmo⟩, h4⟩ := h
    refine ⟨_, pss_cons (ps_expr (pe_call (E := E) GN (hr.mono (by decide)) (by rfl) gN kN bN .nil (passes_call (takes_of rfl rfl rfl rfl) (fun _ _ _ _ h => h)) (pa_cons (pv 0) (pa_cons (pv 1) (pa_cons (pe_lst (pa_cons (pv 2) pa_nil)) (pa_cons (pe_lst pa_nil) pa_nil))))))
      (pss_cons (ps_set (i := 4) scLabels.nd rfl (Or.inr rfl) (pe_call (E := E0) GS hr (by rfl) gS kS bS .nil (passF rfl rfl) (pa_cons (pv 0) (pa_cons (pv 1) (pa_cons (pv 2) (pa_cons (pv 3) (pa_cons pe_dnewK pa_nil)))))))
      (pss_one (ps_ret (pe_callB cr_sortR (by rfl) hs (by decide +kernel) (pa_cons (pe_lock (pe_lc (own := [("state", 5)]) (g := gName 5) rfl scLabels.nd (pi_keys (pv 4)) (blkOk_by (N := nLabels) (sc := defScope sLabels) (by decide +kernel)) (fun _ _ _ _ _ => pg_name (i := 5) scLabels.nd rfl (Or.inl rfl))
          (fun _ _ _ _ _ => pts_one (pt_cmpR op_ne (pe_ix (r := rIxT K) ix_tup (pv 5) (pe_gI hro) (fun _ _ => rfl)) (pe_gS hno) (nomark _)))
          (fun _ _ _ _ _ => pe_tup (pa_cons (pe_ix (r := rIxT K) ix_tup (pv 5) (pe_gI hro) (fun _ _ => rfl)) (pa_cons (pe_ix (r := rIxT K) ix_tup (pe_dget (u1 hr.units) (pv 4) (pv 5) (fun _ _ => rfl)) (pe_gI har) (fun _ _ => rfl)) pa_nil))))) pa_nil))))), ?_⟩
    have hP := hM.t
    -- the names
    refine ⟨_, rfl, _, rfl, _, rfl, by show 1 ≤ sizeLine; decide, fun La nLa => ⟨Nat.zero_le _, fun Lb nLb => ?_⟩⟩
    have ga := Grew.new hP (o := .lst [.str start]) nLa
    have gb := ga.put (o := .lst []) nLb
    have e1 := (Grew.new ga.tab (o := .lst []) nLb).lst ga.tab (b := La) (xs := [.str start]) upd_same
    refine ⟨x, La, Lb, kind, [start], [], d, ks, ps, rs, bs, rfl, hM.grew gb, hkl, SqL.of e1, SqL.of upd_same, fun z hz => by rw [List.mem_singleton.mp hz]; exact hsl, fun z hz => absurd hz (by simp), ?_⟩
    refine h4.imp (fun z b => b _ gb) fun hkin hpin _ kQ => ?_
    generalize hHb : L2.upd (L2.upd H La (.lst [.str start])) Lb (.lst []) = Hb at gb
    refine ⟨_, rfl, _, rfl, _, rfl, _, rfl, fun mk nmk => ?_⟩
    have gm := gb.put (o := .dK []) nmk
    refine ⟨x, mk, kind, start, moment, d, ks, ps, rs, bs, rfl, upd_same, hmo, hM.grew gm, hin, hmi, hkl, hkin, hpin start (List.mem_singleton.mpr rfl), hpl, fun H1 D es g1 nD hC S => ?_⟩
    generalize hHm : L2.upd Hb mk (.dK []) = Hm at gm g1 nD
    obtain ⟨kvs, hD, hE⟩ := hC
    have inj : ∀ a ∈ es, ∀ b ∈ es, nmN a.n = nmN b.n → a = b := fun a ha b hb e => ent_ext S.nd ha hb (nm_inj hM.nd hin.ne (S.mem a ha) (S.mem b hb) e)
    have kvl : es.length = kvs.length := Paired.len hE
    have cnt := S.count
    have l60 := hin.l60
    -- the rows
    refine ⟨D, .dT kvs, hD, True.intro, fun od => ?_⟩
    have gfz := g1.write (o := .frz od (.dT kvs)) hD (fun _ z => by cases z) nD
    have tkz : TK H1 (L2.upd H1 D (.frz od (.dT kvs))) := TK.upd hD (fun _ z => by cases z)
    have hDz : L2.upd H1 D (.frz od (.dT kvs)) D = some (.frz od (.dT kvs)) := upd_same
    generalize hHz : L2.upd H1 D (.frz od (.dT kvs)) = Hz at gfz tkz hDz
    have hEz : Paired (EntAt Hz) es kvs := Paired.map' hE fun _ _ m => m.keep tkz
    refine ⟨_, rfl, D, od, rfl, .inr ⟨kvs, hDz, fun R nR => lc_keysT (kvs := kvs) (fun i H' => ∃ acc, Grew P Hm H' ∧ H' D = some (.frz od (.dT kvs)) ∧ H' R = some (.lst acc) ∧ Paired (RowAt H') (labsOf (es.take i)) acc ∧ TK Hz H')
      ⟨[], gfz.put nR, by rw [upd_ne (ne_of_none hDz nR)]; exact hDz, upd_same, .nil, TK.new nR⟩ (fun i H' _ ⟨_, _, h, _⟩ => h) (fun i k v q H' hi hq p => ?_) (fun H' p => ?_)⟩⟩
    · obtain ⟨acc, g, hfz, hR, hrows, tk⟩ := p
      obtain ⟨e, he, rfl⟩ := names_of_keys hEz hi
      have hil := (List.getElem?_eq_some_iff.mp he).1
      have hes := List.mem_of_getElem? he
      have nR0 : Hm R = none := gfz.free nR
      have hq' : H' q = some (.tup [.str (nmN e.n), .int 0]) := hq
      rw [labs_take he]
      refine ⟨rfl, _, rfl, q, _, 0, .str (nmN e.n), rfl, rfl, SqT.of hq', rfl, rfl, _, rfl, ?_⟩
      have lacc : acc.length ≤ i := by
        rw [← Paired.len hrows]
        unfold labsOf
        exact Nat.le_trans (List.length_filterMap_le _ _) (by rw [List.length_take]; exact Nat.min_le_left _ _)
      cases c : e.n with
      | none =>
        refine if_f (by simp [nmN]) ⟨acc, g, hfz, hR, ?_, tk⟩
        rw [List.append_nil]
        exact hrows
      | some r =>
        have hr1 := S.mem e hes r c
        have nz := hin.ne r hr1
        refine if_t (by simp [nmN, nz]) ?_
        obtain ⟨v2, hv2, m⟩ := came_at hEz inj hes
        obtain ⟨_, p1, x1, ev, hp1, _⟩ := m
        have ev' : v2 = .ref p1 := ev
        subst ev'
        refine ⟨_, rfl, q, _, 0, .str r.name, rfl, rfl, SqT.of (by rw [c] at hq'; exact hq'), rfl, _, rfl, _, rfl, D, _, rfl, .inr ⟨kvs, keyN e.n, q, .inr ⟨od, hfz⟩, rfl, hq, hv2.symm⟩, p1, _, 0, .int e.t, rfl, rfl, SqT.of (tk _ _ hp1), rfl, by show 2 ≤ sizeLine; decide, fun rw nrw => ?_⟩
        have g2 := g.put (o := .tup [.str r.name, .int e.t]) nrw
        have tk2 : TK H' (L2.upd H' rw (.tup [.str r.name, .int e.t])) := TK.new nrw
        have hR2 := (Grew.new g.tab (o := .tup [.str r.name, .int e.t]) nrw).lst g.tab hR
        have hf2 := (Grew.new g.tab (o := .tup [.str r.name, .int e.t]) nrw).get g.tab hfz (fun _ z => by cases z)
        have tk3 : TK (L2.upd H' rw (.tup [.str r.name, .int e.t])) (L2.upd (L2.upd H' rw (.tup [.str r.name, .int e.t])) R (.lst (acc ++ [.ref rw]))) := TK.upd hR2 (fun _ z => by cases z)
        refine ⟨acc, hR2, by rw [sizeLine_eq]; omega, acc ++ [.ref rw], g2.write hR2 (fun _ z => by cases z) nR0, by rw [upd_ne (fun z => by rw [z, hR2] at hf2; cases hf2)]; exact hf2, upd_same, ?_, (tk.trans tk2).trans tk3⟩
        exact Paired.snoc (Paired.map' hrows fun _ _ m => m.keep (tk2.trans tk3)) ⟨rw, rfl, tk3 _ _ upd_same⟩
    · obtain ⟨acc, g, hfz, hR, hrows, tk⟩ := p
      rw [← kvl, List.take_length] at hrows
      have tku : TK H' (L2.upd H' D (.dT kvs)) := TK.upd hfz (fun _ z => by cases z)
      have gu := g.write (o := .dT kvs) hfz (fun _ z => by cases z) nD
      have hRu : L2.upd H' D (.dT kvs) R = some (.lst acc) := by rw [upd_ne (fun z => by rw [z, hfz] at hR; cases hR)]; exact hR
      generalize hHu : L2.upd H' D (.dT kvs) = Hu at tku gu hRu ⊢
      have rows := Paired.map' hrows fun _ _ m => m.keep tku
      refine ⟨hfz, R, acc, fstAt Hu, rfl, SqL.of hRu, fun y hy => ?_, fun y hy z hz e => Paired.inj rows (labs_nodup hM.nd S.nd S.mem) hy hz fun a b ma mb => by rw [← ma.fst, ← mb.fst]; exact e, fun ys l hpm hso hl => ?_⟩
      · obtain ⟨e, _, m⟩ := Paired.mem rows hy
        have mf := m.fst
        obtain ⟨p, ep, hp⟩ := m
        exact ⟨p, _, ep, by rw [mf]; exact SqT.of hp⟩
      · obtain ⟨ls, pm, hr'⟩ := Paired.perm hpm rows
        have tkl : TK Hu (L2.upd Hu l (.lst ys)) := TK.new hl
        exact kQ _ l es ls ys ((gm.trans gu).put hl) (gm.free (gu.free hl)) S pm (Paired.pair (fun a b u v ma mb e => by rw [ma.fst, mb.fst] at e; exact e) hr' hso) upd_same (Paired.map' hr' fun _ _ m => m.keep tkl)
end
end W

set_option Elab.async false
set_option linter.all false
set_option maxRecDepth 100000
set_option maxHeartbeats 1000000
namespace W
open PySem PySem.Spec PyProof.Rows L2 GxR MyG MyS
/-! ### a dict of places and moments -/
def kvZ (p : Str × Int) : Key × V := (.inr p.1, .int p.2)
def zget (zs : List (Str × Int)) (z : Str) : Option Int := (zs.find? fun p => decide (p.1 = z)).map (·.2)
def zput (zs : List (Str × Int)) (z : Str) (t : Int) : List (Str × Int) := if (zs.any fun p => decide (p.1 = z)) = true then zs.map (fun p => if p.1 = z then (p.1, t) else p) else zs ++ [(z, t)]
theorem val_z (z : Str) : ∀ zs : List (Str × Int), valV (zs.map kvZ) (.inr z) = (zget zs z).map V.int
  | [] => rfl
  | p :: zs => by
    by_cases e : p.1 = z
    · have ek : (kvZ p).1 = (.inr z : Key) := congrArg Sum.inr e
      rw [List.map_cons, valV_pos ek]
      unfold zget
      rw [List.find?_cons, decide_eq_true e]
      rfl
    · have ek : ¬ (kvZ p).1 = (.inr z : Key) := fun h => e (Sum.inr.inj h)
      rw [List.map_cons, valV_neg ek, val_z z zs]
      unfold zget
      rw [List.find?_cons, decide_eq_false e]
theorem put_z (zs : List (Str × Int)) (z : Str) (t : Int) : putK (zs.map kvZ) (.inr z) (.int t) = (zput zs z t).map kvZ := by
  have ea : ((zs.map kvZ).any fun kv => decide (kv.1 = (.inr z : Key))) = zs.any fun p => decide (p.1 = z) := by
    rw [List.any_map]
    congr 1
    funext p
    by_cases e : p.1 = z
    · have : (kvZ p).1 = (.inr z : Key) := congrArg Sum.inr e
      simp [e, this]
    · have : ¬ (kvZ p).1 = (.inr z : Key) := fun h => e (Sum.inr.inj h)
      simp [e, this]
  unfold putK zput
  rw [ea]
  by_cases c : (zs.any fun p => decide (p.1 = z)) = true
  · rw [if_pos c, if_pos c, List.map_map, List.map_map]
    refine List.map_congr_left fun p _ => ?_
    show (if (kvZ p).1 = (.inr z : Key) then ((kvZ p).1, V.int t) else kvZ p) = kvZ (if p.1 = z then (p.1, t) else p)
    by_cases e : p.1 = z
    · rw [if_pos (show (kvZ p).1 = (.inr z : Key) from congrArg Sum.inr e), if_pos e]
      rfl
    · rw [if_neg (show ¬ (kvZ p).1 = (.inr z : Key) from fun h => e (Sum.inr.inj h)), if_neg e]
  · rw [if_neg c, if_neg c, List.map_append]
    rfl
theorem zput_mem {zs : List (Str × Int)} {z : Str} {t : Int} {p : Str × Int} : p ∈ zput zs z t ↔ p = (z, t) ∨ (p ∈ zs ∧ p.1 ≠ z) := by
  unfold zput
  by_cases c : (zs.any fun p => decide (p.1 = z)) = true
  · rw [if_pos c]
    constructor
    · intro h
      obtain ⟨q, hq, e⟩ := List.mem_map.mp h
      by_cases d : q.1 = z
      · rw [if_pos d] at e
        exact .inl (by rw [← e, d])
      · rw [if_neg d] at e
        exact .inr ⟨e ▸ hq, e ▸ d⟩
    · rintro (e | ⟨h, d⟩)
      · obtain ⟨q, hq, e2⟩ := List.any_eq_true.mp c
        have e3 := of_decide_eq_true e2
        exact List.mem_map.mpr ⟨q, hq, by rw [if_pos e3, e, e3]⟩
      · exact List.mem_map.mpr ⟨p, h, by rw [if_neg d]⟩
  · rw [if_neg c, List.mem_append, List.mem_singleton]
    have no : ∀ q ∈ zs, q.1 ≠ z := fun q hq e => c (List.any_eq_true.mpr ⟨q, hq, decide_eq_true e⟩)
    exact ⟨fun h => h.elim (fun h => .inr ⟨h, no p h⟩) .inl, fun h => h.elim .inr fun h => .inl h.1⟩
theorem zput_nodup {zs : List (Str × Int)} (nd : (zs.map (·.1)).Nodup) (z : Str) (t : Int) : ((zput zs z t).map (·.1)).Nodup := by
  unfold zput
  by_cases c : (zs.any fun p => decide (p.1 = z)) = true
  · rw [if_pos c, List.map_map]
    have e : zs.map ((fun p : Str × Int => p.1) ∘ fun p => if p.1 = z then (p.1, t) else p) = zs.map (·.1) := List.map_congr_left fun p _ => by
      show (if p.1 = z then (p.1, t) else p).1 = p.1
      by_cases d : p.1 = z
      · rw [if_pos d]
      · rw [if_neg d]
    rw [e]
    exact nd
  · rw [if_neg c, List.map_append, List.nodup_append]
    refine ⟨nd, List.nodup_cons.mpr ⟨by simp, List.nodup_nil⟩, fun a ha b hb e => ?_⟩
    obtain ⟨q, hq, rfl⟩ := List.mem_map.mp ha
    rw [List.mem_singleton.mp hb] at e
    exact c (List.any_eq_true.mpr ⟨q, hq, decide_eq_true e⟩)
theorem zget_some {zs : List (Str × Int)} {z : Str} {t : Int} (nd : (zs.map (·.1)).Nodup) (h : (z, t) ∈ zs) : zget zs z = some t := by
  induction zs with
  | nil => cases h
  | cons p zs ih =>
    have q := List.nodup_cons.mp nd
    unfold zget
    rw [List.find?_cons]
    rcases List.mem_cons.mp h with e | h
    · rw [← e]
      simp
    · have ne : ¬ p.1 = z := fun e => q.1 (List.mem_map.mpr ⟨(z, t), h, e.symm⟩)
      rw [decide_eq_false ne]
      exact ih q.2 h
theorem zget_none {zs : List (Str × Int)} {z : Str} (h : zget zs z = none) : ∀ p ∈ zs, p.1 ≠ z := by
  intro p hp e
  unfold zget at h
  cases c : zs.find? fun p => decide (p.1 = z) with
  | some q => rw [c] at h; cases h
  | none =>
    have := List.find?_eq_none.mp c p hp
    exact this (decide_eq_true e)
theorem zget_mem {zs : List (Str × Int)} {z : Str} {t : Int} (h : zget zs z = some t) : (z, t) ∈ zs := by
  unfold zget at h
  cases c : zs.find? fun p => decide (p.1 = z) with
  | none => rw [c] at h; cases h
  | some q =>
    rw [c] at h
    have e1 := List.mem_of_find?_eq_some c
    have e2 : q.1 = z := of_decide_eq_true (List.find?_some (p := fun p : Str × Int => decide (p.1 = z)) c)
    have e3 : q.2 = t := Option.some.inj h
    rw [← e2, ← e3]
    exact e1
structure PlZ (start : Str) (moment : Int) (rs : List RoadD) (pref zs : List (Str × Int)) : Prop where
  nd : (zs.map (·.1)).Nodup
  so : ∀ p ∈ zs, (p.1 = start ∧ p.2 = moment) ∨ ∃ q ∈ pref, q.2 = p.2 ∧ ∃ r ∈ rs, r.name = q.1 ∧ r.goal = p.1
  st : ∃ t, (start, t) ∈ zs ∧ t ≤ moment
  le : ∀ q ∈ pref, ∀ r ∈ rs, r.name = q.1 → ∃ t, (r.goal, t) ∈ zs ∧ t ≤ q.2
theorem PlZ.init (start : Str) (moment : Int) (rs : List RoadD) : PlZ start moment rs [] [(start, moment)] :=
  ⟨List.nodup_cons.mpr ⟨by simp, List.nodup_nil⟩, fun p hp => .inl (by rw [List.mem_singleton.mp hp]; exact ⟨rfl, rfl⟩), ⟨moment, List.mem_singleton.mpr rfl, Int.le_refl _⟩, fun q hq => absurd hq (by simp)⟩
def minZ (a : Int) (o : Option Int) : Int := if o.getD a < a then o.getD a else a
theorem PlZ.step {start : Str} {moment : Int} {rs : List RoadD} {pref zs : List (Str × Int)} (nd : (rs.map (·.name)).Nodup) (h : PlZ start moment rs pref zs) {n : Str} {a : Int} {r : RoadD} (hr : r ∈ rs) (hn : r.name = n) :
    PlZ start moment rs (pref ++ [(n, a)]) (zput zs r.goal (minZ a (zget zs r.goal))) := by
  have hle : minZ a (zget zs r.goal) ≤ a := by unfold minZ; split <;> omega
  have hold : ∀ t, (r.goal, t) ∈ zs → minZ a (zget zs r.goal) ≤ t := fun t ht => by
    rw [zget_some h.nd ht]
    unfold minZ
    show (if t < a then t else a) ≤ t
    split <;> omega
  have up : ∀ {z : Str} {t b : Int}, (z, t) ∈ zs → t ≤ b → ∃ t', (z, t') ∈ zput zs r.goal (minZ a (zget zs r.goal)) ∧ t' ≤ b := fun {z t b} ht hb => by
    by_cases e : z = r.goal
    · subst e
      exact ⟨_, zput_mem.mpr (.inl rfl), Int.le_trans (hold t ht) hb⟩
    · exact ⟨t, zput_mem.mpr (.inr ⟨ht, e⟩), hb⟩
  refine ⟨zput_nodup h.nd _ _, fun p hp => ?_, ?_, fun q hq r' hr' hn' => ?_⟩
  · rcases zput_mem.mp hp with e | ⟨hp, _⟩
    · rw [e]
      unfold minZ
      cases c : zget zs r.goal with
      | none => exact .inr ⟨(n, a), List.mem_append_right _ (List.mem_singleton.mpr rfl), by show a = if a < a then a else a; split <;> rfl, r, hr, hn, rfl⟩
      | some t =>
        show (_ ∧ (if t < a then t else a) = moment) ∨ _
        by_cases d : t < a
        · rw [if_pos d]
          rcases h.so _ (zget_mem c) with z | ⟨q, h1, h2, h3⟩
          · exact .inl z
          · refine .inr ⟨q, List.mem_append_left _ h1, ?_, h3⟩
            show q.2 = if t < a then t else a
            rw [if_pos d]; exact h2
        · refine .inr ⟨(n, a), List.mem_append_right _ (List.mem_singleton.mpr rfl), ?_, r, hr, hn, rfl⟩
          show a = if t < a then t else a
          rw [if_neg d]
    · rcases h.so p hp with z | ⟨q, h1, h2⟩
      · exact .inl z
      · exact .inr ⟨q, List.mem_append_left _ h1, h2⟩
  · obtain ⟨t, h1, h2⟩ := h.st
    exact up h1 h2
  · rcases List.mem_append.mp hq with hq | hq
    · obtain ⟨t, h1, h2⟩ := h.le q hq r' hr' hn'
      exact up h1 h2
    · have eq := List.mem_singleton.mp hq
      subst eq
      have er := uniq_name nd hr' hr (hn'.trans hn.symm)
      subst er
      exact ⟨_, zput_mem.mpr (.inl rfl), hle⟩
theorem PlZ.len {start : Str} {moment : Int} {rs : List RoadD} {pref zs : List (Str × Int)} {ps : List Str} (h : PlZ start moment rs pref zs) (hs : start ∈ ps) (hg : ∀ r ∈ rs, r.goal ∈ ps) : zs.length ≤ ps.length := by
  rw [← List.length_map (f := (·.1))]
  refine nodup_sub_len h.nd fun z hz => ?_
  obtain ⟨p, hp, rfl⟩ := List.mem_map.mp hz
  rcases h.so p hp with ⟨e, _⟩ | ⟨_, _, _, r, h1, _, h2⟩
  · rw [e]; exact hs
  · rw [← h2]; exact hg r h1
def PlOk (start : Str) (moment : Int) (es : List Ent) (ls : List (Str × Int)) : Prop :=
  (ls.map (·.1)).Nodup ∧ (∃ t, (start, t) ∈ ls ∧ t ≤ moment) ∧ (∀ p ∈ ls, (p.1 = start ∧ p.2 = moment) ∨ ∃ e ∈ es, ∃ r, e.n = some r ∧ r.goal = p.1 ∧ e.t = p.2) ∧ ∀ e ∈ es, ∀ r, e.n = some r → ∃ t, (r.goal, t) ∈ ls ∧ t ≤ e.t
def spPlaces (K : PySem.W.Frag) (M U P : Addr) : Sp := fun vs H Q E => ∃ (x : Addr) (kind start : Str) (moment d : Int) (ks ps : List Str) (rs : List RoadD) (bs : List (Str × Str)), vs = [.ref x, .str kind, .str start, .int moment] ∧ Ask K H M P x d ks ps rs bs kind start moment ∧ ps.length ≤ 1000 ∧
  Names4 U ks ps rs kind [start] [] (fun z => ∀ H', Grew P H H' → Unk U H' E z) (∀ H' p es ls ys, Grew P H H' → H p = none → Sol d kind bs rs start moment es → PlOk start moment es ls → AscF ls → H' p = some (.lst ys) → Paired (RowAt H') ls ys → Q (.ref p) H')
theorem labs_mem {es : List Ent} {q : Str × Int} (h : q ∈ labsOf es) : ∃ e ∈ es, ∃ r, e.n = some r ∧ q = (r.name, e.t) := by
  obtain ⟨e, he, h2⟩ := List.mem_filterMap.mp h
  cases c : e.n with
  | none => rw [c] at h2; cases h2
  | some r => rw [c] at h2; exact ⟨e, he, r, c, (Option.some.inj h2).symm⟩
theorem mem_labs {es : List Ent} {e : Ent} {r : RoadD} (h : e ∈ es) (hr : e.n = some r) : (r.name, e.t) ∈ labsOf es := List.mem_filterMap.mpr ⟨e, h, by rw [hr]; rfl⟩
theorem PlZ.ok {d : Int} {kind : Str} {bs : List (Str × Str)} {start : Str} {moment : Int} {rs : List RoadD} {es : List Ent} {pref zs ls : List (Str × Int)} (nd : (rs.map (·.name)).Nodup) (S : Sol d kind bs rs start moment es) (hp : pref.Perm (labsOf es)) (h : PlZ start moment rs pref zs) (pm : ls.Perm zs) : PlOk start moment es ls := by
  refine ⟨(pm.map _).nodup_iff.mpr h.nd, ?_, fun p hp' => ?_, fun e he r hr => ?_⟩
  · obtain ⟨t, a, b⟩ := h.st
    exact ⟨t, pm.mem_iff.mpr a, b⟩
  · rcases h.so p (pm.mem_iff.mp hp') with z | ⟨q, h1, h2, r, h3, h4, h5⟩
    · exact .inl z
    · obtain ⟨e, he, r', hr', eq⟩ := labs_mem (hp.mem_iff.mp h1)
      rw [eq] at h2 h4
      have er := uniq_name nd (S.mem e he r' hr') h3 h4.symm
      exact .inr ⟨e, he, r', hr', by rw [er]; exact h5, h2⟩
  · obtain ⟨t, a, b⟩ := h.le _ (hp.mem_iff.mpr (mem_labs he hr)) r (S.mem e he r hr) rfl
    exact ⟨t, pm.mem_iff.mpr a, b⟩
section
variable {Pg : Program} {w : World} {K : PySem.W.Frag} {mg : Str → Option Value} {base : Heap} {C P : Addr}
abbrev nPlaces : List Str := ["chart", "kind", "start", "moment", "arrivals", "name", "arrival", "end", "place"]
theorem scPlaces : FnScope nPlaces ["chart", "kind", "start", "moment"] (defScope sPlaces) := ⟨rfl, rfl, rfl, by decide +kernel, rfl, by decide +kernel, by decide +kernel⟩
theorem ok_places {f M U fL fR : Addr} {fd fdL fdR : FuncData} {t1 : Tok} (F : Fun K "places_from" "places_from" sPlaces f fd) (TM : TxtM K M) (hs : mg "sorted" = none) (hmi : mg "min" = none) (hen : mg "END" = some (.int 2 t1)) (mR : Meth K M "road" fR)
    (GR : FnOk Pg w K mg base (L2.CX Pg w) 4 fR fdR ["self", "name"] (spRoadM K M U)) (bR : Binds K fdR ["self", "name"] [])
    (GL : FnOk Pg w K mg base (L2.CX Pg w) 10 fL fdL ["chart", "kind", "start", "moment"] (spLabels K M U P labsOf)) (gL : mg "labels" = some (.ref fL)) (kL : PySem.W.keepIn K (.ref fL) = true) (bL : Binds K fdL ["chart", "kind", "start", "moment"] []) :
    FnOk Pg w K mg base (L2.CX Pg w) 11 f fd ["chart", "kind", "start", "moment"] (spPlaces K M U P) := by
  refine F.okX scPlaces (fun vs H Q E h => ?_) (fun cdv A outer s H vs Q E hr h => ?_)
  · obtain ⟨x, kind, start, moment, d, ks, ps, rs, bs, rfl, _⟩ := h
    rfl
  · obtain ⟨x, kind, start, moment, d, ks, ps, rs, bs, rfl, ⟨hM, hin, hmi', hpl, hkl, hsl, hmo⟩, hps, h4⟩ := h
    refine ⟨_, pss_cons (ps_set (i := 4) scPlaces.nd rfl (Or.inr rfl) (pe_disp (pps_cons (pv 2) (pv 3) pps_nil) (by rfl) (by rfl) (fun z => by cases z) (by decide)))
      (pss_cons (ps_for (passes_of rfl) rfl (pi_list (pe_call (E := E) GL hr (by rfl) gL kL bL .nil (passes_call (takes_of rfl rfl rfl rfl) (fun _ _ _ _ h => h)) (pa_cons (pv 0) (pa_cons (pv 1) (pa_cons (pv 2) (pa_cons (pv 3) pa_nil)))))) (pg_tup (by rfl) (pgs_cons (pg_name (i := 5) scPlaces.nd rfl (.inl rfl)) (pgs_cons (pg_name (i := 6) scPlaces.nd rfl (.inl rfl)) pgs_nil)))
        (pss_cons (ps_set (i := 7) scPlaces.nd rfl (Or.inl rfl) (pe_ix ix_tup (pe_meth (E := E0) (pv 0) TM.cl mR GR (hr.mono (by decide)) bR .nil (passF rfl rfl) (pa_cons (pv 5) pa_nil)) (pe_gI hen) (fun _ _ => rfl)))
        (pss_one (ps_dput (u1 hr.units) (pv 4) (pv 7) (pe_callB (call_min2 rfl) (by rfl) hmi (by decide +kernel) (pa_cons (pv 6) (pa_cons (pe_dget2 (u1 hr.units) (pv 4) (pv 7) (pv 6) ⟨rfl, rfl, rfl, rfl⟩) pa_nil))) rfl))))
      (pss_one (ps_ret (pe_callB cr_sortR (by rfl) hs (by decide +kernel) (pa_cons (pe_lock (pe_lc (own := [("place", 8)]) (g := gName 8) (tt := tYes) rfl scPlaces.nd (pi_keys (pv 4)) (blkOk_by (N := nPlaces) (sc := defScope sPlaces) (by decide +kernel)) (fun _ _ _ _ _ => pg_name (i := 8) scPlaces.nd rfl (Or.inl rfl)) (fun _ _ _ _ _ => pts_nil)
          (fun _ _ _ _ _ => pe_tup (pa_cons (pv 8) (pa_cons (pe_dget (u1 hr.units) (pv 4) (pv 8) (fun _ _ => rfl)) pa_nil))))) pa_nil))))), ?_⟩
    have hP := hM.t
    obtain ⟨dx, fs, kk, pp, rr, D0, bb, D2, ys0, zs0, hx, F7⟩ := hM.m
    intro D nD
    refine ⟨_, rfl, _, rfl, upd_same, [(.inr start, .int moment)], rfl, by show 1 ≤ 15; decide, ?_⟩
    have ga := Grew.new hP (o := .dK []) nD
    have gb := ga.write (o := .dK (mergeK [] [(.inr start, .int moment)])) upd_same (fun _ z => by cases z) nD
    have eD : L2.upd (L2.upd H D (.dK [])) D (.dK (mergeK [] [(.inr start, .int moment)])) D = some (.dK (([(start, moment)] : List (Str × Int)).map kvZ)) := upd_same
    generalize hHb : L2.upd (L2.upd H D (.dK [])) D (.dK (mergeK [] [(.inr start, .int moment)])) = Hb at gb eD ⊢
    refine ⟨_, rfl, _, rfl, _, rfl, _, rfl, x, kind, start, moment, d, ks, ps, rs, bs, rfl, ⟨hM.grew gb, hin, hmi', hpl, hkl, hsl, hmo⟩, h4.imp (fun z b H' g => b H' (gb.trans g)) fun hkin hpin _ kQ => ?_⟩
    intro H1 p1 es ls ys g1 np1 S hperm hasc hp1 hrows
    have gH1 := gb.trans g1
    have np1H := gb.free np1
    have eD1 := g1.get gb.tab eD (fun _ z => by cases z)
    refine ⟨p1, rfl, ⟨_, SqL.of hp1⟩, for_list (K := K) (a := p1) (xs := ys) (fun i σ H' => ∃ v5 v6 v7 zs, σ = [some (.ref x), some (.str kind), some (.str start), some (.int moment), some (.ref D), v5, v6, v7, none] ∧ Grew P H H' ∧ H' D = some (.dK (List.map kvZ zs)) ∧ H' p1 = some (.lst ys) ∧ TK H1 H' ∧ PlZ start moment rs (ls.take i) zs)
      ⟨none, none, none, _, rfl, gH1, eD1, hp1, fun _ _ e => e, PlZ.init start moment rs⟩ (fun i σ H' _ ⟨_, _, _, _, _, _, _, e, _⟩ => SqL.of e) ?_ ?_⟩
    · rintro i y σ H2 hy ⟨v5, v6, v7, zs, rfl, g2, hD, hp2, tk, hz⟩
      obtain ⟨q, hq, p, rfl, hp⟩ := Paired.at hrows hy
      obtain ⟨n, a⟩ := q
      obtain ⟨e, he, r, hr, eq⟩ := labs_mem (hperm.mem_iff.mp (List.mem_of_getElem? hq))
      have en : n = r.name := congrArg Prod.fst eq
      subst en
      have hr1 := S.mem e he r hr
      have zl := hz.len (hpin start (List.mem_singleton.mpr rfl)) hin.goal
      refine ⟨p, _, rfl, SqT.of (tk _ _ hp), rfl, _, _, rfl, _, _, rfl, rfl, ?_⟩
      refine ⟨_, rfl, x, dx, fs, rfl, g2.get hP hx (fun _ z => by cases z), F7.f0 _ (by decide +kernel), _, rfl, x, r.name, d, ks, ps, rs, bs, rfl, hM.nl _ hr1, (hM.grew g2).m, fun r' h1' he1 v hv => ?_, fun no => absurd rfl (no r hr1)⟩
      obtain rfl : r' = r := uniq_name hM.nd h1' hr1 he1
      obtain ⟨pr, qr, hv', rfl, epr, _, _⟩ := hv
      refine ⟨pr, _, 2, .str r'.goal, rfl, rfl, SqT.of epr, rfl, ?_⟩
      refine ⟨_, rfl, _, rfl, D, rfl, .inl ⟨_, .inl hD⟩, _, rfl, _, rfl, _, DGet.k (k := .inr r'.goal) hD, a, (zget zs r'.goal).getD a, ?_, ?_⟩
      · rw [val_z]
        cases zget zs r'.goal <;> rfl
      · refine ⟨_, rfl, _, rfl, D, _, rfl, DPut.k (k := .inr r'.goal) hD (by rw [List.length_map, sizeLine_eq]; omega), ?_⟩
        rw [put_z]
        have hst := hz.step hM.nd (n := r'.name) (a := a) hr1 rfl
        rw [show ls.take i ++ [(r'.name, a)] = ls.take (i + 1) by rw [List.take_succ, hq]; rfl] at hst
        exact ⟨_, _, _, _, rfl, g2.write hD (fun _ z => by cases z) nD, upd_same, by rw [upd_ne (fun z => by rw [z, hD] at hp2; cases hp2)]; exact hp2, tk.trans (TK.upd hD (fun _ z => by cases z)), hst⟩
    · rintro σ H2 ⟨v5, v6, v7, zs, rfl, g2, hD, hp2, tk, hz⟩
      rw [← Paired.len hrows, List.take_length] at hz
      have zl := hz.len (hpin start (List.mem_singleton.mpr rfl)) hin.goal
      -- the rows
      refine ⟨D, .dK (List.map kvZ zs), hD, True.intro, fun od => ?_⟩
      have gfz := g2.write (o := .frz od (.dK (List.map kvZ zs))) hD (fun _ z => by cases z) nD
      have hDz : L2.upd H2 D (.frz od (.dK (List.map kvZ zs))) D = some (.frz od (.dK (List.map kvZ zs))) := upd_same
      generalize hHz : L2.upd H2 D (.frz od (.dK (List.map kvZ zs))) = Hz at gfz hDz
      refine ⟨_, rfl, D, od, rfl, .inl ⟨_, hDz, fun R nR => lc_keysK (kvs := List.map kvZ zs) (fun i H' => ∃ acc, Grew P H H' ∧ H' D = some (.frz od (.dK (List.map kvZ zs))) ∧ H' R = some (.lst acc) ∧ Paired (RowAt H') (zs.take i) acc ∧ TK Hz H')
        ⟨[], gfz.put nR, by rw [upd_ne (ne_of_none hDz nR)]; exact hDz, upd_same, .nil, TK.new nR⟩ (fun i H' _ ⟨_, _, h, _⟩ => h) (fun i k v H' hi p => ?_) (fun H' p => ?_)⟩⟩
      · obtain ⟨acc, g, hfz, hR, hrows2, tk2⟩ := p
        have nR0 : H R = none := gfz.free nR
        rw [List.getElem?_map] at hi
        obtain ⟨q, hq, eq⟩ := Option.map_eq_some_iff.mp hi
        obtain ⟨z, t⟩ := q
        have hzm := List.mem_of_getElem? hq
        have hil := (List.getElem?_eq_some_iff.mp hq).1
        cases eq
        have lacc : acc.length ≤ i := by rw [← Paired.len hrows2, List.length_take]; exact Nat.min_le_left _ _
        refine ⟨rfl, _, rfl, _, rfl, _, rfl, D, V.int t, rfl, .inl ⟨_, .inr z, .inr ⟨od, hfz⟩, rfl, by rw [val_z, zget_some hz.nd hzm]; rfl⟩, by show 2 ≤ sizeLine; decide, fun rw nrw => ?_⟩
        have g3 := g.put (o := .tup [.str z, .int t]) nrw
        have tk3 : TK H' (L2.upd H' rw (.tup [.str z, .int t])) := TK.new nrw
        have hR2 := (Grew.new g.tab (o := .tup [.str z, .int t]) nrw).lst g.tab hR
        have hf2 := (Grew.new g.tab (o := .tup [.str z, .int t]) nrw).get g.tab hfz (fun _ z => by cases z)
        have tk4 : TK (L2.upd H' rw (.tup [.str z, .int t])) (L2.upd (L2.upd H' rw (.tup [.str z, .int t])) R (.lst (acc ++ [.ref rw]))) := TK.upd hR2 (fun _ z => by cases z)
        refine ⟨acc, hR2, by rw [sizeLine_eq]; omega, acc ++ [.ref rw], g3.write hR2 (fun _ z => by cases z) nR0, by rw [upd_ne (fun z => by rw [z, hR2] at hf2; cases hf2)]; exact hf2, upd_same, ?_, (tk2.trans tk3).trans tk4⟩
        rw [show zs.take (i + 1) = zs.take i ++ [(z, t)] by rw [List.take_succ, hq]; rfl]
        exact Paired.snoc (Paired.map' hrows2 fun _ _ m => m.keep (tk3.trans tk4)) ⟨rw, rfl, tk4 _ _ upd_same⟩
      · obtain ⟨acc, g, hfz, hR, hrows2, tk2⟩ := p
        rw [List.length_map, List.take_length] at hrows2
        have tku : TK H' (L2.upd H' D (.dK (List.map kvZ zs))) := TK.upd hfz (fun _ z => by cases z)
        have gu := g.write (o := .dK (List.map kvZ zs)) hfz (fun _ z => by cases z) nD
        have hRu : L2.upd H' D (.dK (List.map kvZ zs)) R = some (.lst acc) := by rw [upd_ne (fun z => by rw [z, hfz] at hR; cases hR)]; exact hR
        generalize hHu : L2.upd H' D (.dK (List.map kvZ zs)) = Hu at tku gu hRu ⊢
        have rows := Paired.map' hrows2 fun _ _ m => m.keep tku
        refine ⟨hfz, R, acc, fstAt Hu, rfl, SqL.of hRu, fun y hy => ?_, fun y hy z hz2 e => Paired.inj rows hz.nd hy hz2 fun a b ma mb => by rw [← ma.fst, ← mb.fst]; exact e, fun ys2 l hpm hso hl => ?_⟩
        · obtain ⟨e, _, m⟩ := Paired.mem rows hy
          have mf := m.fst
          obtain ⟨p, ep, hp⟩ := m
          exact ⟨p, _, ep, by rw [mf]; exact SqT.of hp⟩
        · obtain ⟨ls2, pm, hr'⟩ := Paired.perm hpm rows
          have tkl : TK Hu (L2.upd Hu l (.lst ys2)) := TK.new hl
          exact kQ _ l es ls2 ys2 (gu.put hl) (gu.free hl) S (hz.ok hM.nd S hperm pm) (Paired.pair (fun a b u v ma mb e => by rw [ma.fst, mb.fst] at e; exact e) hr' hso) upd_same (Paired.map' hr' fun _ _ m => m.keep tkl)
end
end W

set_option Elab.async false
set_option linter.all false
set_option maxRecDepth 100000
set_option maxHeartbeats 1000000
/-! min of a list of rows (time, (name, mark)) -/
namespace MyH
open PySem PySem.Spec PyProof.Rows L2
open SrtO hiding Str
def minK (k : K3) (ks : List K3) : K3 := ks.foldl (fun a y => if lt3 y a = true then y else a) k
theorem minD_3 : ∀ (ks : List K3) (k : K3), PySem.W.minD (d3 k) (ks.map d3) = d3 (minK k ks)
  | [], _ => rfl
  | y :: ks, k => by
    have ih := minD_3 ks (if lt3 y k = true then y else k)
    unfold PySem.W.minD minK at *
    rw [List.map_cons, List.foldl_cons, List.foldl_cons, dataLt_3]
    by_cases c : lt3 y k = true
    · rw [if_pos c] at ih
      rw [if_pos c, if_pos c]
      exact ih
    · rw [if_neg c] at ih
      rw [if_neg c, if_neg c]
      exact ih
theorem minK_is : ∀ (ks : List K3) (k : K3), minK k ks ∈ k :: ks ∧ ∀ j ∈ k :: ks, lt3 j (minK k ks) = false
  | [], k => ⟨List.mem_singleton.mpr rfl, fun j hj => by
      rw [List.mem_singleton.mp hj]
      cases c : lt3 k (minK k []) with
      | false => rfl
      | true => exact c.symm.trans (swo_3.asym _ _ c)⟩
  | y :: ks, k => by
    obtain ⟨h1, h2⟩ := minK_is ks (if lt3 y k = true then y else k)
    have e : minK k (y :: ks) = minK (if lt3 y k = true then y else k) ks := rfl
    rw [e]
    by_cases c : lt3 y k = true
    · rw [if_pos c] at h1 h2 ⊢
      refine ⟨List.mem_cons_of_mem _ h1, fun j hj => ?_⟩
      rcases List.mem_cons.mp hj with rfl | hj
      · exact swo_3.tr _ _ _ (h2 y List.mem_cons_self) (swo_3.asym _ _ c)
      · exact h2 j hj
    · have c' : lt3 y k = false := by cases q : lt3 y k with
        | false => rfl
        | true => exact absurd q c
      rw [if_neg c] at h1 h2 ⊢
      refine ⟨?_, fun j hj => ?_⟩
      · rcases List.mem_cons.mp h1 with q | q
        · rw [q]; exact List.mem_cons_self
        · exact List.mem_cons_of_mem _ (List.mem_cons_of_mem _ q)
      · rcases List.mem_cons.mp hj with rfl | hj
        · exact h2 j List.mem_cons_self
        · rcases List.mem_cons.mp hj with rfl | hj
          · exact swo_3.tr _ _ _ (h2 k List.mem_cons_self) c'
          · exact h2 j (List.mem_cons_of_mem _ hj)
theorem d3_inj {p q : K3} (h : d3 p = d3 q) : p = q := by
  obtain ⟨a, b, c⟩ := p
  obtain ⟨a', b', c'⟩ := q
  simp [d3, dN] at h
  obtain ⟨h1, h2, h3⟩ := h
  rw [h1, h2, h3]
theorem alike_all (ks : List K3) : PySem.W.AlikeAll (ks.map d3) := ⟨fun x hx y hy => by
  obtain ⟨p, _, rfl⟩ := List.mem_map.mp hx
  obtain ⟨q, _, rfl⟩ := List.mem_map.mp hy
  exact alike_3 p q, fun x hx => by
  obtain ⟨p, _, rfl⟩ := List.mem_map.mp hx
  exact fun z => nomatch z⟩
theorem depth_all : ∀ ks : List K3, PyData.depthAll (ks.map d3) ≤ 4
  | [] => by simp [PyData.depthAll]
  | k :: ks => by
    have i := depth_all ks
    simp only [List.map_cons, PyData.depthAll, PyData.depth, d3, dN]
    simp [PyData.depthAll, PyData.depth]
    omega
section
variable {X : Cx} {pins : List (Addr × Obj)} {σ : L2.St} {H : Hp} {s : Shared}
theorem reads_all (I : Inv X pins σ H s) : ∀ {ks : List K3} {us : List Value}, Paired (FV H) ks us → ∃ as, ReadsAll s.heap us (ks.map d3) as
  | _, _, .nil => ⟨_, .nil⟩
  | _, _, .cons ⟨x, r, q⟩ t => by
    obtain ⟨as, h1⟩ := (q.val I r).reads
    obtain ⟨bs, h2⟩ := reads_all I t
    exact ⟨_, .cons h1 h2⟩
theorem Reads.more {h h' : Heap} {v : Value} {k : K3} (q : QV h v k) (f : ∀ b o, h.get? b = some o → h'.get? b = some o) : QV h' v k := by
  obtain ⟨p, q, t1, t2, t3, e, ⟨o, h1, c1, n1, d1⟩, ⟨o2, h2, c2, n2, d2⟩⟩ := q
  exact ⟨p, q, t1, t2, t3, e, ⟨o, f _ _ h1, c1, n1, d1⟩, ⟨o2, f _ _ h2, c2, n2, d2⟩⟩
def rMinQ : List V → Hp → VK → Prop := fun vs H Q => ∃ (l : Addr) (xs : List V) (ks : List K3), vs = [.ref l] ∧ H l = some (.lst xs) ∧ Paired (QAt H) ks xs ∧ ks ≠ [] ∧
  ∀ y k, QAt H k y → k ∈ ks → (∀ j ∈ ks, lt3 j k = false) → Q y H
theorem fv_at : ∀ {ks : List K3} {us : List Value} {i : Nat} {u : Value}, Paired (FV H) ks us → us[i]? = some u → ∃ k ∈ ks, FV H k u
  | _, _, 0, _, .cons (a := k) f _, h => ⟨k, List.mem_cons_self, by rw [← Option.some.inj h]; exact f⟩
  | _, _, i + 1, _, .cons _ t, h => by
    obtain ⟨k, a, b⟩ := fv_at t h
    exact ⟨k, List.mem_cons_of_mem _ a, b⟩
theorem cr_minQ (hh : X.A.handled = none) (hu : X.A.units + 64 < cLine) : CallR X (.builtin "min") rMinQ := by
  intro pins s σ H vs us Q I r h
  obtain ⟨l, xs, ks, rfl, hH, hk, hne, q⟩ := h
  obtain ⟨u0, rfl, r0⟩ := vals1 r
  cases r0
  obtain ⟨z, its, n, rv, hl, e⟩ := I.lstM hH
  have fv := fv_of hk rv
  cases ks with
  | nil => exact absurd rfl hne
  | cons k ks =>
    obtain ⟨as, ra⟩ := reads_all I fv
    refine PySem.W.min_list_data (vs := its.toArray) (x := d3 k) (xs := ks.map d3) (as := as) hh ?_ (by simpa using ra) (alike_all (k :: ks)) (by have := depth_all (k :: ks); rw [List.map_cons] at this; omega) fun i v h' tk bs hi rd mo => ?_
    · exact ⟨_, e, rfl, _, rfl⟩
    · obtain ⟨k', hk', x, rx, qx⟩ := fv_at fv (by simpa using hi)
      have q1 := Reads.more (qx.val I rx) mo
      obtain ⟨cs, r1⟩ := q1.reads
      rw [minD_3] at rd
      have ek : k' = minK k ks := d3_inj (PySem.W.alike_unique _ _ v cs bs (alike_3 _ _) r1 rd)
      obtain ⟨m1, m2⟩ := minK_is ks k
      exact ⟨x, H, I.kept (t' := tk) mo, rx, q x k' qx hk' (by rw [ek]; exact m2)⟩
end
end MyH

set_option Elab.async false
set_option linter.all false
set_option maxRecDepth 100000
set_option maxHeartbeats 1000000
namespace W
open PySem PySem.Spec PyProof.Rows L2 GxR MyG MyS
open MyH (K3 QAt cr_minQ d3 dN)
/-! ### place_of, earliest_of -/
abbrev sPlaceOf : Stmt := top 47
abbrev sEarlOf : Stmt := top 48
abbrev sRouteTo : Stmt := top 49
abbrev sRInit : Stmt := inClass (top 51) 0
abbrev sEarliest : Stmt := top 54
def plN (start : Str) : Node → Str
  | none => start
  | some r => r.goal
/-- the value that names an entry's node -/
def StAt (H : Hp) (e : Ent) (v : V) : Prop := ∃ q, v = .ref q ∧ H q = some (.tup [.str (nmN e.n), .int 0])
theorem StAt.keep {H H' : Hp} {e : Ent} {v : V} (k : TK H H') (h : StAt H e v) : StAt H' e v := let ⟨q, a, b⟩ := h; ⟨q, a, k _ _ b⟩
def spPlaceOf (K : PySem.W.Frag) (M P : Addr) : Sp := fun vs H Q _ => ∃ (x q : Addr) (start : Str) (n : Node) (d : Int) (ks ps : List Str) (rs : List RoadD) (bs : List (Str × Str)), vs = [.ref x, .str start, .ref q] ∧ MIn K H M P x d ks ps rs bs ∧ (∀ r ∈ rs, r.name ≠ Str.empty) ∧ (∀ r, n = some r → r ∈ rs) ∧ H q = some (.tup [.str (nmN n), .int 0]) ∧ Q (.str (plN start n)) H
def spEarlOf (K : PySem.W.Frag) (P : Addr) : Sp := fun vs H Q _ => ∃ (D L : Addr) (es fs : List Ent) (kvs : List (List Key × V)) (xs : List V), vs = [.ref D, .ref L] ∧ H D = some (.dT kvs) ∧ Paired (EntAt H) es kvs ∧ (∀ a ∈ es, ∀ b ∈ es, nmN a.n = nmN b.n → a = b) ∧ H L = some (.lst xs) ∧ Paired (StAt H) fs xs ∧ (∀ f ∈ fs, f ∈ es) ∧ fs.length ≤ 1000 ∧
  (∀ f ∈ fs, PyData.strOk (nmN f.n) = true) ∧ TabG H P ∧ (fs = [] → ∀ H', Grew P H H' → Q .non H') ∧ ∀ H' e v, Grew P H H' → e ∈ fs → (∀ f ∈ fs, e.t ≤ f.t) → StAt H' e v → Q v H'
theorem dp_q {K : PySem.W.Frag} {H : Hp} : ∀ {ks : List K3} {ys : List V}, Paired (QAt H) ks ys → DpAll K H ys (ks.map d3)
  | _, _, .nil => .nil
  | _, _, .cons ⟨p, q, e, h1, h2⟩ r => by
    subst e
    exact .cons (.tup (SqT.of h1) (.cons (.int _) (.cons (.tup (SqT.of h2) (.cons (.str _) (.cons (.int _) .nil))) .nil))) (dp_q r)
theorem canLay_q : ∀ {ks : List K3}, (∀ k ∈ ks, PyData.strOk k.2.1 = true) → PyData.canLayAll0 (ks.map d3) = true
  | [], _ => rfl
  | z :: zs, h => by
    simp [PyData.canLayAll0, PyData.canLay0, d3, dN, h z List.mem_cons_self, canLay_q (ks := zs) fun x hx => h x (List.mem_cons_of_mem _ hx)]
theorem shaped_q {ks : List K3} (h : ∀ k ∈ ks, PyData.strOk k.2.1 = true) : SeqAt.shaped (PyData.list (ks.map d3)) = true := by
  have c := canLay_q h
  have d := MyH.depth_all ks
  unfold SeqAt.shaped
  rw [Bool.and_eq_true]
  refine ⟨by simpa [PyData.canLay0] using c, decide_eq_true ?_⟩
  simp only [PyData.depth]
  omega
section
variable {Pg : Program} {w : World} {K : PySem.W.Frag} {mg : Str → Option Value} {base : Heap} {C P : Addr}
theorem scPlaceOf : FnScope ["chart", "start", "state"] ["chart", "start", "state"] (defScope sPlaceOf) := ⟨rfl, rfl, rfl, by decide +kernel, rfl, by decide +kernel, by decide +kernel⟩
theorem ok_placeOf {f M U fR : Addr} {fd fdR : FuncData} {t1 t2 t3 : Tok} (F : Fun K "place_of" "place_of" sPlaceOf f fd) (TM : TxtM K M) (hno : mg "NO_ROAD" = some (.str Str.empty t1)) (hro : mg "ROAD" = some (.int 0 t2)) (hen : mg "END" = some (.int 2 t3)) (mR : Meth K M "road" fR)
    (GR : FnOk Pg w K mg base (L2.CX Pg w) 4 fR fdR ["self", "name"] (spRoadM K M U)) (bR : Binds K fdR ["self", "name"] []) :
    FnOk Pg w K mg base CX0 5 f fd ["chart", "start", "state"] (spPlaceOf K M P) := by
  refine F.ok scPlaceOf (fun vs H Q E h => ?_) (fun cdv A outer s H vs Q E hr h => ?_)
  · obtain ⟨x, q, start, n, d, ks, ps, rs, bs, rfl, _⟩ := h
    rfl
  · obtain ⟨x, q, start, n, d, ks, ps, rs, bs, rfl, hM, hne, hn, hq, k⟩ := h
    refine ⟨_, pss_cons (ps_if (pt_cmpR op_eq (pe_ix ix_tup (pv 2) (pe_gI hro) (fun _ _ => rfl)) (pe_gS hno) (nomark _)) (pss_one (ps_ret (pv 1))) pss_nil)
      (pss_one (ps_ret (pe_ix ix_tup (pe_meth (E := E0) (pv 0) TM.cl mR GR hr bR .nil (passF rfl rfl) (pa_cons (pe_ix ix_tup (pv 2) (pe_gI hro) (fun _ _ => rfl)) pa_nil)) (pe_gI hen) (fun _ _ => rfl)))), ?_⟩
    have hM2 := hM
    obtain ⟨dx, fs, kk, pp, rr, D, bb, D2, ys, zs, hx, F7⟩ := hM.m
    refine ⟨_, rfl, q, _, 0, .str (nmN n), rfl, rfl, SqT.of hq, rfl, rfl, _, rfl, ?_⟩
    cases n with
    | none => exact if_t (by simp [nmN]) ⟨_, rfl, k⟩
    | some r =>
      have hr1 := hn r rfl
      refine if_f (by simp [nmN, hne r hr1]) ?_
      refine ⟨_, rfl, x, dx, fs, rfl, hx, F7.f0 _ (by decide +kernel), _, rfl, q, _, 0, .str r.name, rfl, rfl, SqT.of hq, rfl, x, r.name, d, ks, ps, rs, bs, rfl, hM.nl _ hr1, hM.m, fun r' h1' he1 v hv => ?_, fun no => absurd rfl (no r hr1)⟩
      obtain rfl : r' = r := uniq_name hM.nd h1' hr1 he1
      obtain ⟨pr, qr, hv', rfl, epr, _, _⟩ := hv
      exact ⟨pr, _, 2, .str r'.goal, rfl, rfl, SqT.of epr, rfl, k⟩
abbrev nEarlOf : List Str := ["came", "states", "arrivals", "state"]
theorem scEarlOf : FnScope nEarlOf ["came", "states"] (defScope sEarlOf) := ⟨rfl, rfl, rfl, by decide +kernel, rfl, by decide +kernel, by decide +kernel⟩
theorem ok_earlOf {f : Addr} {fd : FuncData} {t1 : Tok} (F : Fun K "earliest_of" "earliest_of" sEarlOf f fd) (hm : mg "min" = none) (har : mg "ARRIVAL" = some (.int 0 t1)) : FnOk Pg w K mg base CX0 1 f fd ["came", "states"] (spEarlOf K P) := by
  refine F.ok scEarlOf (fun vs H Q E h => ?_) (fun cdv A outer s H vs Q E hr h => ?_)
  · obtain ⟨D, L, es, fs, kvs, xs, rfl, _⟩ := h
    rfl
  · obtain ⟨D, L, es, fs, kvs, xs, rfl, hD, hE, inj, hL, hfs, sub, l1000, hok, hP, kN, kS⟩ := h
    refine ⟨_, pss_cons (ps_setLc (i := 2) (own := [("state", 3)]) (g := gName 3) rfl scEarlOf.nd rfl rfl (sw_true rfl rfl rfl (by decide +kernel)) (pi_list (pv 1)) (blkOk_by (N := nEarlOf) (sc := defScope sEarlOf) (by decide +kernel)) (fun _ _ _ _ _ => pg_name (i := 3) scEarlOf.nd rfl (Or.inl rfl)) (fun _ _ _ _ _ => pts_nil)
        (fun _ _ _ _ _ => pe_tup (pa_cons (pe_ix (r := rIxT K) ix_tup (pe_dget (u1 hr.units) (pv 0) (pv 3) (fun _ _ => rfl)) (pe_gI har) (fun _ _ => rfl)) (pa_cons (pv 3) pa_nil))))
      (pss_cons (ps_if (pt_cmpR (op_eqD hr.units) (pv 2) (pe_lst pa_nil) (nomark _)) (pss_one (ps_ret pe_non)) pss_nil)
      (pss_one (ps_ret (pe_ix ix_tup (pe_callB (cr_minQ hr.hd hr.units) (by rfl) hm (by decide +kernel) (pa_cons (pv 2) pa_nil)) pe_int (fun _ _ => rfl))))), ?_⟩
    have lf := Paired.len hfs
    refine ⟨_, rfl, L, rfl, ⟨_, SqL.of hL⟩, fun R nR => lc_list (K := K) (a := L) (xs := xs) (fun i H' => ∃ acc, Grew P H H' ∧ H' R = some (.lst acc) ∧ Paired (QAt H') ((fs.take i).map kOf) acc)
      ⟨[], Grew.new hP nR, upd_same, .nil⟩ (fun i H' _ ⟨_, g, _⟩ => SqL.of (g.lst hP hL)) (fun i y H' hy p => ?_) (fun H1 p1 => ?_)⟩
    · obtain ⟨acc, g, hR, hacc⟩ := p
      obtain ⟨e, he, q, rfl, hq⟩ := Paired.at hfs hy
      have hem := List.mem_of_getElem? he
      have hil := (List.getElem?_eq_some_iff.mp he).1
      have lacc : acc.length ≤ i := by rw [← Paired.len hacc, List.length_map, List.length_take]; exact Nat.min_le_left _ _
      obtain ⟨v2, hv2, m⟩ := came_at hE inj (sub e hem)
      obtain ⟨_, p1, x1, ev, hp1, _⟩ := m
      have ev' : v2 = .ref p1 := ev
      subst ev'
      have hD' := g.get hP hD (fun _ z => by cases z)
      have hq' := g.tup hP hq
      have hp1' := g.tup hP hp1
      refine ⟨rfl, _, rfl, _, rfl, D, _, rfl, .inr ⟨kvs, keyN e.n, q, .inl hD', rfl, hq', hv2.symm⟩, p1, _, 0, .int e.t, rfl, rfl, SqT.of hp1', rfl, _, rfl, by show 2 ≤ sizeLine; decide, fun rw nrw => ?_⟩
      have hRq := (Grew.new g.tab (o := .tup [.int e.t, .ref q]) nrw).lst g.tab hR
      have tk3 : TK H' (L2.upd H' rw (.tup [.int e.t, .ref q])) := TK.new nrw
      have tk4 : TK (L2.upd H' rw (.tup [.int e.t, .ref q])) (L2.upd (L2.upd H' rw (.tup [.int e.t, .ref q])) R (.lst (acc ++ [.ref rw]))) := TK.upd hRq (fun _ z => by cases z)
      refine ⟨acc, hRq, by rw [sizeLine_eq]; omega, acc ++ [.ref rw], (g.put nrw).write hRq (fun _ z => by cases z) nR, upd_same, ?_⟩
      rw [show (fs.take (i + 1)).map kOf = (fs.take i).map kOf ++ [kOf e] by rw [List.take_succ, he, List.map_append]; rfl]
      exact Paired.snoc (Paired.map' hacc fun _ _ m => QAt.keep (tk3.trans tk4) m) ⟨rw, q, rfl, tk4 _ _ upd_same, (tk3.trans tk4) _ _ hq'⟩
    obtain ⟨acc, g1, hR, hacc⟩ := p1
    rw [← lf, List.take_length] at hacc
    refine ⟨_, rfl, Nat.zero_le _, fun Z nZ => ?_⟩
    have gz := Grew.new g1.tab (o := .lst []) nZ
    have hRz := gz.lst g1.tab hR
    have haccz : Paired (QAt (L2.upd H1 Z (.lst []))) (fs.map kOf) acc := Paired.map' hacc fun _ _ m => QAt.keep (TK.new nZ) m
    have okk : ∀ k ∈ fs.map kOf, PyData.strOk k.2.1 = true := fun k hk => by
      obtain ⟨e, he, rfl⟩ := List.mem_map.mp hk
      exact hok e he
    refine ⟨.list ((fs.map kOf).map d3), .list ([].map d3), .lst (SqL.of hRz) (dp_q haccz), .lst (SqL.of upd_same) .nil, shaped_q okk, shaped_q (fun k hk => absurd hk (by simp)), _, rfl, ?_⟩
    by_cases c : fs = []
    · subst c
      exact if_t (by simp [PyData.eqv, PyData.eqvAll]) (kN rfl _ (g1.trans gz))
    · refine if_f ?_ ?_
      · cases fs with
        | nil => exact absurd rfl c
        | cons a l => simp [PyData.eqv, PyData.eqvAll]
      · refine ⟨_, rfl, R, acc, fs.map kOf, rfl, hRz, haccz, fun z => c (List.map_eq_nil_iff.mp z), fun y k0 hy hk hmin => ?_⟩
        obtain ⟨e, he, rfl⟩ := List.mem_map.mp hk
        obtain ⟨p, q, rfl, h1, h2⟩ := hy
        refine ⟨p, _, 1, .ref q, rfl, rfl, SqT.of h1, rfl, ?_⟩
        exact kS _ e (.ref q) (g1.trans gz) he (fun f hf => MyH.lt3_first (hmin (kOf f) (List.mem_map.mpr ⟨f, hf, rfl⟩))) ⟨q, rfl, h2⟩
end
end W

set_option Elab.async false
set_option linter.all false
set_option maxRecDepth 100000
set_option maxHeartbeats 1000000
namespace W
open PySem PySem.Spec PyProof.Rows L2 GxR MyG MyS
/-! ### route_to -/
/-- the roads along which a node is come to -/
inductive PathTo (es : List Ent) : Node → List RoadD → Prop
  | root : PathTo es none []
  | step (e p : Ent) (r : RoadD) (l : List RoadD) (he : e ∈ es) (hn : e.n = some r) (hp : p ∈ es) (hv : e.pv = some p.n) (h : PathTo es p.n l) : PathTo es (some r) (l ++ [r])
theorem filter_lt {α : Type} {P Q : α → Bool} (h : ∀ x, P x = true → Q x = true) : ∀ {l : List α} {x : α}, x ∈ l → Q x = true → P x = false → (l.filter P).length < (l.filter Q).length
  | a :: l, x, hx, hq, hp => by
    have le : ∀ l : List α, (l.filter P).length ≤ (l.filter Q).length := fun l => by
      induction l with
      | nil => exact Nat.le_refl _
      | cons b l ih =>
        rw [List.filter_cons, List.filter_cons]
        by_cases c : P b = true
        · rw [if_pos c, if_pos (h b c), List.length_cons, List.length_cons]; omega
        · rw [if_neg c]
          split
          · rw [List.length_cons]; omega
          · exact ih
    rw [List.filter_cons, List.filter_cons]
    rcases List.mem_cons.mp hx with e | hx
    · subst e
      rw [if_pos hq, if_neg (by rw [hp]; exact Bool.false_ne_true), List.length_cons]
      have := le l
      omega
    · have ih := filter_lt h hx hq hp
      by_cases c : P a = true
      · rw [if_pos c, if_pos (h a c), List.length_cons, List.length_cons]; omega
      · rw [if_neg c]
        split
        · rw [List.length_cons]; omega
        · exact ih
def spRouteTo (K : PySem.W.Frag) (P : Addr) : Sp := fun vs H Q _ => ∃ (D : Addr) (v : V) (d : Int) (kind start : Str) (moment : Int) (rs : List RoadD) (bs : List (Str × Str)) (es : List Ent) (e : Ent) (kvs : List (List Key × V)), vs = [.ref D, v] ∧ H D = some (.dT kvs) ∧ Paired (EntAt H) es kvs ∧ (∀ a ∈ es, ∀ b ∈ es, nmN a.n = nmN b.n → a = b) ∧ SG d rs ∧ Sol d kind bs rs start moment es ∧
  (∀ r ∈ rs, r.name ≠ Str.empty) ∧ es.length ≤ 1000 ∧ e ∈ es ∧ StAt H e v ∧ TabG H P ∧ ∀ H' R l, Grew P H H' → H R = none → H' R = some (.lst (namesV l)) → PathTo es e.n l → Q (.ref R) H'
section
variable {Pg : Program} {w : World} {K : PySem.W.Frag} {mg : Str → Option Value} {base : Heap} {C P : Addr}
theorem scRouteTo : FnScope ["came", "state", "route"] ["came", "state"] (defScope sRouteTo) := ⟨rfl, rfl, rfl, by decide +kernel, rfl, by decide +kernel, by decide +kernel⟩
theorem ok_routeTo {f : Addr} {fd : FuncData} {t1 t2 t3 : Tok} (F : Fun K "route_to" "route_to" sRouteTo f fd) (hno : mg "NO_ROAD" = some (.str Str.empty t1)) (hro : mg "ROAD" = some (.int 0 t2)) (hbe : mg "BEFORE" = some (.int 1 t3)) : FnOk Pg w K mg base CX0 1 f fd ["came", "state"] (spRouteTo K P) := by
  refine F.ok scRouteTo (fun vs H Q E h => ?_) (fun cdv A outer s H vs Q E hr h => ?_)
  · obtain ⟨D, v, d, kind, start, moment, rs, bs, es, e, kvs, rfl, _⟩ := h
    rfl
  · obtain ⟨D, v, d, kind, start, moment, rs, bs, es, e, kvs, rfl, hD, hE, inj, G, S, hne, l1000, hem, hst, hP, k⟩ := h
    refine ⟨_, pss_cons (ps_set (i := 2) scRouteTo.nd rfl (Or.inl rfl) (pe_lst pa_nil))
      (pss_cons (ps_while PassesOwn.never (pt_cmpR op_ne (pe_ix ix_tup (pv 1) (pe_gI hro) (fun _ _ => rfl)) (pe_gS hno) (nomark _))
        (pss_cons (ps_expr (pe_bm PySem.F.plainAttrs_list PySem.F.slot_list_append PySem.F.type_list_append mt_append (pv 2) (pa_cons (pe_ix ix_tup (pv 1) (pe_gI hro) (fun _ _ => rfl)) pa_nil)))
        (pss_one (ps_set (i := 1) scRouteTo.nd rfl (Or.inl rfl) (pe_ix ix_tup (pe_dget (u1 hr.units) (pv 0) (pv 1) (fun _ _ => rfl)) (pe_gI hbe) (fun _ _ => rfl))))))
      (pss_one (ps_ret (pe_revL (pv 2))))), ?_⟩
    refine ⟨Nat.zero_le _, fun R nR => ?_⟩
    have g0 := Grew.new hP (o := .lst []) nR
    refine ⟨fun n σ H' => ∃ (c : Ent) (v1 : V) (acc : List RoadD), σ = [some (.ref D), some v1, some (.ref R)] ∧ Grew P H H' ∧ c ∈ es ∧ StAt H c v1 ∧ H' R = some (.lst (namesV acc)) ∧ acc.length + n ≤ 1000 ∧ (∀ l, PathTo es c.n l → PathTo es e.n (l ++ acc.reverse)) ∧ n = (es.filter fun x => decide (x.t < c.t)).length, ?_, ?_⟩
    · exact ⟨_, e, v, [], rfl, g0, hem, hst, upd_same, by have := List.length_filter_le (fun x : Ent => decide (x.t < e.t)) es; show 0 + _ ≤ _; omega, fun l h => by rw [List.reverse_nil, List.append_nil]; exact h, rfl⟩
    rintro n σ H2 ⟨c, v1, acc, rfl, g2, hc, ⟨q, rfl, hq⟩, hR, hl, hpath, hn⟩
    have hq2 := g2.tup hP hq
    have hD2 := g2.get hP hD (fun _ z => by cases z)
    refine ⟨_, rfl, q, _, 0, .str (nmN c.n), rfl, rfl, SqT.of hq2, rfl, rfl, _, rfl, ?_⟩
    cases cn : c.n with
    | none =>
      refine if_f (by simp [nmN]) ?_
      refine ⟨_, rfl, R, _, rfl, SqL.of hR, fun R2 nR2 => ?_⟩
      rw [cn] at hpath
      refine k _ R2 acc.reverse (g2.put nR2) (g2.free nR2) ?_ (by have := hpath [] .root; rw [List.nil_append] at this; exact this)
      rw [upd_same]
      unfold namesV
      rw [List.map_reverse, List.map_reverse]
    | some r =>
      have hr1 := S.mem c hc r cn
      refine if_t (by simp [nmN, hne r hr1]) ⟨_, fun _ _ h => h, ?_⟩
      obtain ⟨p, hp, epv, hnx, ear⟩ := S.lnk c hc r cn
      obtain ⟨v2, hv2, m⟩ := came_at hE inj hc
      obtain ⟨_, p1, x1, ev, hp1, hpv⟩ := m
      have ev' : v2 = .ref p1 := ev
      subst ev'
      rw [epv] at hpv
      obtain ⟨q', ex1, hq'⟩ := hpv
      subst ex1
      have hv : r.hours ≠ some [] := by
        cases pn : p.n with
        | none =>
          rw [pn] at hnx
          have h3 := (List.mem_filter.mp hnx).2
          unfold mayB at h3
          simp only [Bool.and_eq_true] at h3
          exact ever_hours (by first | exact h3.2.1 | exact h3.2 | exact h3.1.2)
        | some r' =>
          rw [pn] at hnx
          have h3 := (List.mem_filter.mp hnx).2
          unfold mayB at h3
          simp only [Bool.and_eq_true] at h3
          exact ever_hours (by first | exact h3.2.1 | exact h3.2 | exact h3.1.2)
      obtain ⟨_, en, _, ea, hle⟩ := ar_some G.d1 (G.ho r hr1) hv p.t
      have mi := G.mi r hr1
      have lt : p.t < c.t := by omega
      refine ⟨_, rfl, .inl ⟨rfl, _, SqL.of hR⟩, _, rfl, q, _, 0, .str (nmN c.n), rfl, rfl, SqT.of hq2, rfl, R, _, _, rfl, rfl, hR, by unfold namesV; rw [List.length_map, List.length_map, sizeLine_eq]; omega, ?_⟩
      have g3 := g2.write (o := .lst (namesV acc ++ [.str (nmN c.n)])) hR (fun _ z => by cases z) nR
      have tk : TK H2 (L2.upd H2 R (.lst (namesV acc ++ [.str (nmN c.n)]))) := TK.upd hR (fun _ z => by cases z)
      have hD3 : L2.upd H2 R (.lst (namesV acc ++ [.str (nmN c.n)])) D = some (.dT kvs) := g3.get hP hD (fun _ z => by cases z)
      refine ⟨_, rfl, _, rfl, D, _, rfl, .inr ⟨kvs, keyN c.n, q, .inl hD3, rfl, g3.tup hP hq, hv2.symm⟩, p1, _, 1, .ref q', rfl, rfl, SqT.of (g3.tup hP hp1), rfl, ?_⟩
      have lf : (es.filter fun x => decide (x.t < p.t)).length < (es.filter fun x => decide (x.t < c.t)).length := filter_lt (fun x h => by have := of_decide_eq_true h; exact decide_eq_true (by omega)) hp (decide_eq_true lt) (decide_eq_false (by omega))
      refine ⟨_, by rw [hn]; exact lf, p, .ref q', acc ++ [r], rfl, g3, hp, ⟨q', rfl, hq'⟩, ?_, by rw [List.length_append]; show _ + 1 + _ ≤ _; omega, fun l h => ?_, rfl⟩
      · rw [upd_same, cn]
        rw [namesV_app]
        rfl
      · rw [List.reverse_append, show ([r].reverse : List RoadD) = [r] from rfl, ← List.append_assoc]
        rw [cn] at hpath
        exact hpath _ (.step c p r l hc cn hp epv h)
end
end W

set_option Elab.async false
set_option linter.all false
set_option maxRecDepth 100000
set_option maxHeartbeats 1000000
namespace W
open PySem PySem.Spec PyProof.Rows L2 GxR MyG MyS
/-! ### Route.__init__ -/
structure TxtR (K : PySem.W.Frag) (Rt : Addr) : Prop where
  cl : Cls K Rt
  n1 : NoAttr K Rt "roads"
  n2 : NoAttr K Rt "arrival"
def RouteAt (H : Hp) (Rt y : Addr) (xs : List V) (t : Int) : Prop := ∃ dx fs q, H y = some (.ins Rt dx fs) ∧ fs.lookup ("roads" : Str) = some (V.ref q) ∧ fs.lookup ("arrival" : Str) = some (V.int t) ∧ (∀ f : Str, f ≠ "roads" → f ≠ "arrival" → fs.lookup f = none) ∧ H q = some (.tup xs)
def spRoInit (K : PySem.W.Frag) (Rt P : Addr) : Sp := fun vs H Q _ => ∃ (x dx L : Addr) (t : Int) (xs : List V) (H0 : Hp), vs = [.ref x, .ref L, .int t] ∧ Grew P H0 H ∧ TabG H0 P ∧ H0 x = none ∧ H x = some (.ins Rt dx []) ∧ SqL K H0 L xs ∧
  ∀ H', Grew P H0 H' → RouteAt H' Rt x xs t → Q .non H'
section
variable {Pg : Program} {w : World} {K : PySem.W.Frag} {mg : Str → Option Value} {base : Heap} {C P : Addr}
theorem scRoInit : FnScope ["self", "roads", "arrival"] ["self", "roads", "arrival"] (defScope sRInit) := ⟨rfl, rfl, rfl, by decide +kernel, rfl, by decide +kernel, by decide +kernel⟩
theorem ok_roInit {f Rt : Addr} {fd : FuncData} (F : Fun K "__init__" "Route.__init__" sRInit f fd) (T : TxtR K Rt) (ht : mg "tuple" = none) : FnOk Pg w K mg base CX0 1 f fd ["self", "roads", "arrival"] (spRoInit K Rt P) := by
  refine F.ok scRoInit (fun vs H Q E h => ?_) (fun cdv A outer s H vs Q E hr h => ?_)
  · obtain ⟨x, dx, L, t, xs, H0, rfl, _⟩ := h
    rfl
  · obtain ⟨x, dx, L, t, xs, H0, rfl, g0, hP0, nx, hx, hL, k⟩ := h
    refine ⟨_, pss_cons (ps_fld (pv 0) (pe_callTy call_tuple_of (by rfl) ht (by decide +kernel) (pa_cons (pv 1) pa_nil)) rfl)
      (pss_one (ps_fld (pv 0) (pv 2) rfl)), ?_⟩
    have nins : ∀ (fs : List (Str × V)) (q : Array Value), (HO.ins Rt dx fs) ≠ .tbl q := fun _ _ z => by cases z
    refine ⟨_, rfl, L, _, rfl, .inl ⟨g0.sqL hP0 hL, fun q nq => ?_⟩⟩
    have g1 := g0.put (o := .tup xs) nq
    have gs := Grew.new g0.tab (o := .tup xs) nq
    have hx1 := gs.get g0.tab hx (nins _)
    refine ⟨_, rfl, x, Rt, dx, [], rfl, hx1, T.cl, T.n1, by decide, ?_⟩
    have nqx : q ≠ x := fun e => by rw [e, hx] at nq; cases nq
    have ga := g1.write (o := .ins Rt dx (putF "roads" (.ref q) [])) hx1 (nins _) nx
    refine ⟨_, rfl, _, rfl, x, Rt, dx, _, rfl, upd_same, T.cl, T.n2, by have := length_putF ("roads" : Str) (V.ref q) []; rw [List.length_nil] at this; omega, ?_⟩
    have gb := ga.write (o := .ins Rt dx (putF "arrival" (.int t) (putF "roads" (.ref q) []))) upd_same (nins _) nx
    refine k _ gb ⟨dx, _, q, upd_same, ?_, ?_, ?_, ?_⟩
    · rw [lookup_putF, if_neg (by decide +kernel), lookup_putF, if_pos rfl]
    · rw [lookup_putF, if_pos rfl]
    · intro g h1 h2
      rw [lookup_putF, if_neg h2, lookup_putF, if_neg h1]
      rfl
    · rw [upd_ne nqx, upd_ne nqx]; exact upd_same
/-! ### earliest -/
abbrev nEarliest : List Str := ["chart", "kind", "start", "goal", "moment", "came", "last", "state"]
theorem scEarliest : FnScope nEarliest ["chart", "kind", "start", "goal", "moment"] (defScope sEarliest) := ⟨rfl, rfl, rfl, by decide +kernel, rfl, by decide +kernel, by decide +kernel⟩
def FoundAt (H : Hp) (Rt : Addr) (start goal : Str) (es : List Ent) (v : V) : Prop := ((∀ e ∈ es, plN start e.n ≠ goal) ∧ v = .non) ∨ ∃ e ∈ es, plN start e.n = goal ∧ (∀ f ∈ es, plN start f.n = goal → e.t ≤ f.t) ∧ ∃ y l, v = .ref y ∧ PathTo es e.n l ∧ RouteAt H Rt y (namesV l) e.t
def spEarliest (K : PySem.W.Frag) (M U Rt P : Addr) : Sp := fun vs H Q E => ∃ (x : Addr) (kind start goal : Str) (moment d : Int) (ks ps : List Str) (rs : List RoadD) (bs : List (Str × Str)), vs = [.ref x, .str kind, .str start, .str goal, .int moment] ∧ Ask K H M P x d ks ps rs bs kind start moment ∧ goal.length ≤ 1000 ∧ (∀ r ∈ rs, PyData.strOk r.name = true) ∧
  Names4 U ks ps rs kind [start, goal] [] (fun z => ∀ H', Grew P H H' → Unk U H' E z) (∀ H' es v, Grew P H H' → Sol d kind bs rs start moment es → FoundAt H' Rt start goal es v → Q v H')
theorem ok_earliest {f M U Rt fN fS fP fO fT fI : Addr} {fd fdN fdS fdP fdO fdT fdI : FuncData} {t1 t2 : Tok} (F : Fun K "earliest" "earliest" sEarliest f fd) (har : mg "ARRIVAL" = some (.int 0 t1))
    (GN : FnOk Pg w K mg base (L2.CX Pg w) 4 fN fdN ["chart", "kind", "places", "roads"] (spChkN K M U P)) (gN : mg "check_names" = some (.ref fN)) (kN : PySem.W.keepIn K (.ref fN) = true) (bN : Binds K fdN ["chart", "kind", "places", "roads"] [])
    (GS : FnOk Pg w K mg base (L2.CX Pg w) 9 fS fdS ["chart", "kind", "start", "moment", "marks"] (spSearch K M P)) (gS : mg "search" = some (.ref fS)) (kS : PySem.W.keepIn K (.ref fS) = true) (bS : Binds K fdS ["chart", "kind", "start", "moment", "marks"] [])
    (GP : FnOk Pg w K mg base CX0 5 fP fdP ["chart", "start", "state"] (spPlaceOf K M P)) (gP : mg "place_of" = some (.ref fP)) (kP : PySem.W.keepIn K (.ref fP) = true) (bP : Binds K fdP ["chart", "start", "state"] [])
    (GO : FnOk Pg w K mg base CX0 1 fO fdO ["came", "states"] (spEarlOf K P)) (gO : mg "earliest_of" = some (.ref fO)) (kO : PySem.W.keepIn K (.ref fO) = true) (bO : Binds K fdO ["came", "states"] [])
    (GT : FnOk Pg w K mg base CX0 1 fT fdT ["came", "state"] (spRouteTo K P)) (gT : mg "route_to" = some (.ref fT)) (kT : PySem.W.keepIn K (.ref fT) = true) (bT : Binds K fdT ["came", "state"] [])
    (Mk : L2.Mk K Rt fI) (gR : mg "Route" = some (.ref Rt)) (GI : FnOk Pg w K mg base CX0 1 fI fdI ["self", "roads", "arrival"] (spRoInit K Rt P)) (bI : Binds K fdI ["self", "roads", "arrival"] []) :
    FnOk Pg w K mg base (L2.CX Pg w) 10 f fd ["chart", "kind", "start", "goal", "moment"] (spEarliest K M U Rt P) := by
  refine F.okX scEarliest (fun vs H Q E h => ?_) (fun cdv A outer s H vs Q E hr h => ?_)
  · obtain ⟨x, kind, start, goal, moment, d, ks, ps, rs, bs, rfl, _⟩ := h
    rfl
  · obtain ⟨x, kind, start, goal, moment, d, ks, ps, rs, bs, rfl, ⟨hM, hin, hmi, hpl, hkl, hsl, hmo⟩, hgl, hso, h4⟩ := h
    refine ⟨_, pss_cons (ps_expr (pe_call (E := E) GN (hr.mono (by decide)) (by rfl) gN kN bN .nil (passes_call (takes_of rfl rfl rfl rfl) (fun _ _ _ _ h => h)) (pa_cons (pv 0) (pa_cons (pv 1) (pa_cons (pe_lst (pa_cons (pv 2) (pa_cons (pv 3) pa_nil))) (pa_cons (pe_lst pa_nil) pa_nil))))))
      (pss_cons (ps_set (i := 5) scEarliest.nd rfl (Or.inl rfl) (pe_call (E := E0) GS hr (by rfl) gS kS bS .nil (passF rfl rfl) (pa_cons (pv 0) (pa_cons (pv 1) (pa_cons (pv 2) (pa_cons (pv 4) (pa_cons pe_dnewK pa_nil)))))))
      (pss_cons (ps_set (i := 6) scEarliest.nd rfl (Or.inl rfl) (pe_call GO (hr.mono (by decide)) (by rfl) gO kO bO .nil pass0 (pa_cons (pv 5) (pa_cons (pe_lock (pe_lc (own := [("state", 7)]) (g := gName 7) rfl scEarliest.nd (pi_keys (pv 5)) (blkOk_by (N := nEarliest) (sc := defScope sEarliest) (by decide +kernel)) (fun _ _ _ _ _ => pg_name (i := 7) scEarliest.nd rfl (Or.inl rfl))
          (fun _ _ _ _ _ => pts_one (pt_cmpR op_eq (pe_call GP (hr.mono (by decide)) (by rfl) gP kP bP .nil pass0 (pa_cons (pv 0) (pa_cons (pv 2) (pa_cons (pv 7) pa_nil)))) (pv 3) (nomark _))) (fun _ _ _ _ _ => pv 7))) pa_nil))))
      (pss_cons (ps_if (pt_cmp (pc_isN (pv 6))) (pss_one (ps_ret pe_non)) pss_nil)
      (pss_one (ps_ret (pe_make Mk GI (hr.mono (by decide)) (by rfl) gR bI .nil pass0 (pa_cons (pe_call GT (hr.mono (by decide)) (by rfl) gT kT bT .nil pass0 (pa_cons (pv 5) (pa_cons (pv 6) pa_nil))) (pa_cons (pe_ix ix_tup (pe_dget (u1 hr.units) (pv 5) (pv 6) (fun _ _ => rfl)) (pe_gI har) (fun _ _ => rfl)) pa_nil)))))))), ?_⟩
    have hP := hM.t
    refine ⟨_, rfl, _, rfl, _, rfl, _, rfl, by show 2 ≤ sizeLine; decide, fun La nLa => ⟨Nat.zero_le _, fun Lb nLb => ?_⟩⟩
    have ga := Grew.new hP (o := .lst [.str start, .str goal]) nLa
    have gb := ga.put (o := .lst []) nLb
    have e1 := (Grew.new ga.tab (o := .lst []) nLb).lst ga.tab (b := La) (xs := [.str start, .str goal]) upd_same
    refine ⟨x, La, Lb, kind, [start, goal], [], d, ks, ps, rs, bs, rfl, hM.grew gb, hkl, SqL.of e1, SqL.of upd_same, fun z hz => ?_, fun z hz => absurd hz (by simp), ?_⟩
    · rcases List.mem_cons.mp hz with rfl | hz
      · exact hsl
      · rw [List.mem_singleton.mp hz]; exact hgl
    refine h4.imp (fun z b => b _ gb) fun hkin hpin _ kQ => ?_
    generalize hHb : L2.upd (L2.upd H La (.lst [.str start, .str goal])) Lb (.lst []) = Hb at gb
    refine ⟨_, rfl, _, rfl, _, rfl, _, rfl, fun mk nmk => ?_⟩
    have gm := gb.put (o := .dK []) nmk
    refine ⟨x, mk, kind, start, moment, d, ks, ps, rs, bs, rfl, upd_same, hmo, hM.grew gm, hin, hmi, hkl, hkin, hpin start List.mem_cons_self, hpl, fun H1 D es g1 nD hC S => ?_⟩
    generalize hHm : L2.upd Hb mk (.dK []) = Hm at gm g1 nD
    obtain ⟨kvs, hD, hE⟩ := hC
    have inj : ∀ a ∈ es, ∀ b ∈ es, nmN a.n = nmN b.n → a = b := fun a ha b hb e => ent_ext S.nd ha hb (nm_inj hM.nd hin.ne (S.mem a ha) (S.mem b hb) e)
    have kvl : es.length = kvs.length := Paired.len hE
    have cnt := S.count
    have l60 := hin.l60
    -- the states at the goal
    refine ⟨_, rfl, D, .dT kvs, hD, True.intro, fun od => ?_⟩
    have gfz := g1.write (o := .frz od (.dT kvs)) hD (fun _ z => by cases z) nD
    have tkz : TK H1 (L2.upd H1 D (.frz od (.dT kvs))) := TK.upd hD (fun _ z => by cases z)
    have hDz : L2.upd H1 D (.frz od (.dT kvs)) D = some (.frz od (.dT kvs)) := upd_same
    generalize hHz : L2.upd H1 D (.frz od (.dT kvs)) = Hz at gfz tkz hDz
    have hEz : Paired (EntAt Hz) es kvs := Paired.map' hE fun _ _ m => m.keep tkz
    refine ⟨_, rfl, D, od, rfl, .inr ⟨kvs, hDz, fun R nR => lc_keysT (kvs := kvs) (fun i H' => ∃ acc, Grew P Hm H' ∧ H' D = some (.frz od (.dT kvs)) ∧ H' R = some (.lst acc) ∧ Paired (StAt H') ((es.take i).filter fun e => decide (plN start e.n = goal)) acc ∧ TK Hz H')
      ⟨[], gfz.put nR, by rw [upd_ne (ne_of_none hDz nR)]; exact hDz, upd_same, .nil, TK.new nR⟩ (fun i H' _ ⟨_, _, h, _⟩ => h) (fun i k v q H' hi hq p => ?_) (fun H' p => ?_)⟩⟩
    · obtain ⟨acc, g, hfz, hR, hrows, tk⟩ := p
      obtain ⟨e, he, rfl⟩ := names_of_keys hEz hi
      have hil := (List.getElem?_eq_some_iff.mp he).1
      have hes := List.mem_of_getElem? he
      have nR0 : Hm R = none := gfz.free nR
      have hq' : H' q = some (.tup [.str (nmN e.n), .int 0]) := hq
      have lacc : acc.length ≤ i := by
        rw [← Paired.len hrows]
        exact Nat.le_trans (List.length_filter_le _ _) (by rw [List.length_take]; exact Nat.min_le_left _ _)
      have etk : es.take (i + 1) = es.take i ++ [e] := by rw [List.take_succ, he]; rfl
      refine ⟨rfl, _, rfl, _, rfl, _, rfl, x, q, start, e.n, d, ks, ps, rs, bs, rfl, hM.grew (gm.trans g), hin.ne, S.mem e hes, hq', _, rfl, rfl, _, rfl, ?_⟩
      by_cases c : plN start e.n = goal
      · refine if_t (decide_eq_true (by rw [c])) ⟨_, rfl, acc, hR, by rw [sizeLine_eq]; omega, acc ++ [.ref q], g.write hR (fun _ z => by cases z) nR0, by rw [upd_ne (fun z => by rw [z, hR] at hfz; cases hfz)]; exact hfz, upd_same, ?_, tk.trans (TK.upd hR (fun _ z => by cases z))⟩
        have tk4 : TK H' (L2.upd H' R (.lst (acc ++ [.ref q]))) := TK.upd hR (fun _ z => by cases z)
        rw [etk, List.filter_append, List.filter_cons, if_pos (decide_eq_true c)]
        exact Paired.snoc (Paired.map' hrows fun _ _ m => m.keep tk4) ⟨q, rfl, tk4 _ _ hq'⟩
      · refine if_f (decide_eq_false (fun z => c (by injection z))) ⟨acc, g, hfz, hR, ?_, tk⟩
        rw [etk, List.filter_append, List.filter_cons, if_neg (fun z => c (of_decide_eq_true z)), List.filter_nil, List.append_nil]
        exact hrows
    obtain ⟨acc, g, hfz, hR, hrows, tk⟩ := p
    rw [← kvl, List.take_length] at hrows
    have tku : TK H' (L2.upd H' D (.dT kvs)) := TK.upd hfz (fun _ z => by cases z)
    have gu := g.write (o := .dT kvs) hfz (fun _ z => by cases z) nD
    have hRu : L2.upd H' D (.dT kvs) R = some (.lst acc) := by rw [upd_ne (fun z => by rw [z, hfz] at hR; cases hR)]; exact hR
    have hDu : L2.upd H' D (.dT kvs) D = some (.dT kvs) := upd_same
    generalize hHu : L2.upd H' D (.dT kvs) = Hu at tku gu hRu hDu ⊢
    have rows := Paired.map' hrows fun _ _ m => m.keep tku
    have hEu : Paired (EntAt Hu) es kvs := Paired.map' hEz fun _ _ m => m.keep (tk.trans tku)
    have gHu := gm.trans gu
    have sokN : ∀ f ∈ es, PyData.strOk (nmN f.n) = true := fun f hf => by
      cases c : f.n with
      | none => decide +kernel
      | some r => exact hso r (S.mem f hf r c)
    refine ⟨hfz, D, R, es, _, kvs, acc, rfl, hDu, hEu, inj, hRu, rows, fun f hf => (List.mem_filter.mp hf).1, by have := List.length_filter_le (fun e : Ent => decide (plN start e.n = goal)) es; omega, fun f hf => sokN f (List.mem_filter.mp hf).1, gu.tab, fun hno H2 g2 => ?_, fun H2 e v g2 he hmin hst => ?_⟩
    · refine ⟨_, rfl, _, rfl, if_t rfl ?_⟩
      exact kQ H2 es .non (gHu.trans g2) S (.inl ⟨fun e he c => (by
        have : e ∈ es.filter fun e => decide (plN start e.n = goal) := List.mem_filter.mpr ⟨he, decide_eq_true c⟩
        rw [hno] at this
        cases this), rfl⟩)
    · obtain ⟨hes, hgo⟩ := List.mem_filter.mp he
      have hgo' := of_decide_eq_true hgo
      obtain ⟨q, rfl, hq⟩ := hst
      refine ⟨_, rfl, _, rfl, if_f rfl ?_⟩
      have hD2 := g2.get gu.tab hDu (fun _ z => by cases z)
      have hE2 : Paired (EntAt H2) es kvs := Paired.map' hEu fun _ _ m => m.keep (fun _ _ e => g2.tup gu.tab e)
      refine ⟨_, rfl, _, rfl, D, .ref q, d, kind, start, moment, rs, bs, es, e, kvs, rfl, hD2, hE2, inj, sgOf hM hin hmi, S, hin.ne, by omega, hes, ⟨q, rfl, hq⟩, g2.tab, fun H3 R3 l g3 nR3 hR3 hpath => ?_⟩
      have hD3 := g3.get g2.tab hD2 (fun _ z => by cases z)
      have hq3 := g3.tup g2.tab hq
      have hE3 : Paired (EntAt H3) es kvs := Paired.map' hE2 fun _ _ m => m.keep (fun _ _ e => g3.tup g2.tab e)
      obtain ⟨v2, hv2, m⟩ := came_at hE3 inj hes
      obtain ⟨_, p1, x1, ev, hp1, _⟩ := m
      have ev' : v2 = .ref p1 := ev
      subst ev'
      refine ⟨_, rfl, _, rfl, D, _, rfl, .inr ⟨kvs, keyN e.n, q, .inl hD3, rfl, hq3, hv2.symm⟩, p1, _, 0, .int e.t, rfl, rfl, SqT.of hp1, rfl, ?_⟩
      intro y dx ny ndx nex
      have gx : Grew P H3 (L2.upd (L2.upd H3 dx (.own y)) y (.ins Rt dx [])) := (Grew.new g3.tab ndx).put (by rw [upd_ne nex.symm]; exact ny)
      refine ⟨y, dx, R3, e.t, namesV l, H3, rfl, gx, g3.tab, ny, upd_same, SqL.of hR3, fun H4 g4 hro => ⟨rfl, ?_⟩⟩
      exact kQ H4 es (.ref y) (((gHu.trans g2).trans g3).trans g4) S (.inr ⟨e, hes, hgo', fun f hf hfg => hmin f (List.mem_filter.mpr ⟨hf, decide_eq_true hfg⟩), y, l, rfl, hpath, hro⟩)
end
end W

set_option Elab.async false
set_option linter.all false
set_option maxRecDepth 100000
set_option maxHeartbeats 1000000
/-! min(l, default=d) of a list of ints: a rule over the layer -/
namespace MyH
open PySem PySem.Spec PyProof.Rows L2
def rMinDef : List V → List V → Hp → VK → Prop := fun vs zs H Q => ∃ (l : Addr) (ns : List Int) (d : V), vs = [.ref l] ∧ zs = [d] ∧ H l = some (.lst (ns.map V.int)) ∧
  (ns = [] → Q d H) ∧ ∀ n ns', ns = n :: ns' → Q (.int (ns'.foldl min n)) H
theorem reads_ints {h : Heap} : ∀ {ns : List Int} {us : List Value}, IntsAre us ns → ∃ as, ReadsAll h us (ns.map PyData.int) as
  | _, _, .nil => ⟨_, .nil⟩
  | _, _, .cons n t r => by
    obtain ⟨as, q⟩ := reads_ints r
    exact ⟨_, .cons (.int n t) q⟩
theorem alike_ints (ns : List Int) : PySem.W.AlikeAll (ns.map PyData.int) := ⟨fun x hx y hy => by
  obtain ⟨p, _, rfl⟩ := List.mem_map.mp hx
  obtain ⟨q, _, rfl⟩ := List.mem_map.mp hy
  rfl, fun x hx => by
  obtain ⟨p, _, rfl⟩ := List.mem_map.mp hx
  exact fun z => nomatch z⟩
theorem depth_ints : ∀ ns : List Int, PyData.depthAll (ns.map PyData.int) ≤ 1
  | [] => by simp [PyData.depthAll]
  | n :: ns => by
    have i := depth_ints ns
    simp only [List.map_cons, PyData.depthAll, PyData.depth]
    omega
section
variable {X : Cx}
theorem cr_minDef (hh : X.A.handled = none) (hu : X.A.units + 8 < cLine) : CallRK X (.builtin "min") [Str.ofString "default"] rMinDef := by
  intro pins s σ H vs zs us ws Q I r rz h
  obtain ⟨l, ns, d, rfl, rfl, hH, q0, q⟩ := h
  obtain rfl := Vals.ref1 r
  obtain ⟨w1, rfl, e1⟩ := vals1 rz
  obtain ⟨z, its, n, rv, hl, e⟩ := I.lstM hH
  have hi := ints_vals rv
  obtain ⟨as, ra⟩ := reads_ints (h := s.heap) hi
  refine PySem.W.min_list_default (vs := its.toArray) (xs := ns.map PyData.int) (as := as) hh ?_ (by simpa using ra) (alike_ints ns) (by have := depth_ints ns; omega) (fun hz h' tk mo => ?_) fun y ys i v h' tk bs hy hi' rd mo => ?_
  · exact ⟨_, e, rfl, _, rfl⟩
  · exact ⟨d, H, I.kept (t' := tk) mo, e1, q0 (List.map_eq_nil_iff.mp hz)⟩
  · cases ns with
    | nil => cases hy
    | cons m ms =>
      rw [List.map_cons] at hy
      injection hy with h1 h2
      subst h1 h2
      rw [PySem.W.minD_ints] at rd
      cases rd with
      | int _ t => exact ⟨.int _, H, I.kept (t' := tk) mo, ⟨t, rfl⟩, q m ms rfl⟩
end
theorem foldl_min : ∀ (ns : List Int) (n : Int), (ns.foldl min n ∈ n :: ns) ∧ ∀ m ∈ n :: ns, ns.foldl min n ≤ m
  | [], n => ⟨List.mem_cons_self, fun m hm => by rw [List.mem_singleton.mp hm]; exact Int.le_refl _⟩
  | k :: ns, n => by
    obtain ⟨h1, h2⟩ := foldl_min ns (min n k)
    rw [List.foldl_cons]
    refine ⟨?_, fun m hm => ?_⟩
    · rcases List.mem_cons.mp h1 with e | h
      · rw [e]
        by_cases c : n ≤ k
        · rw [Int.min_eq_left c]; exact List.mem_cons_self
        · rw [Int.min_eq_right (by omega)]; exact List.mem_cons_of_mem _ List.mem_cons_self
      · exact List.mem_cons_of_mem _ (List.mem_cons_of_mem _ h)
    · have h0 := h2 (min n k) List.mem_cons_self
      rcases List.mem_cons.mp hm with e | h
      · rw [e]; omega
      · rcases List.mem_cons.mp h with e | h
        · rw [e]; omega
        · exact h2 m (List.mem_cons_of_mem _ h)
end MyH

set_option Elab.async false
set_option linter.all false
set_option maxRecDepth 100000
set_option maxHeartbeats 1000000
/-! max(l, default=d) of a list of ints: a rule over the layer -/
namespace MyH
open PySem PySem.Spec PyProof.Rows L2
def rMaxDef : List V → List V → Hp → VK → Prop := fun vs zs H Q => ∃ (l : Addr) (ns : List Int) (d : V), vs = [.ref l] ∧ zs = [d] ∧ H l = some (.lst (ns.map V.int)) ∧
  (ns = [] → Q d H) ∧ ∀ n ns', ns = n :: ns' → Q (.int (ns'.foldl max n)) H
section
variable {X : Cx}
theorem cr_maxDef (hh : X.A.handled = none) (hu : X.A.units + 8 < cLine) : CallRK X (.builtin "max") [Str.ofString "default"] rMaxDef := by
  intro pins s σ H vs zs us ws Q I r rz h
  obtain ⟨l, ns, d, rfl, rfl, hH, q0, q⟩ := h
  obtain rfl := Vals.ref1 r
  obtain ⟨w1, rfl, e1⟩ := vals1 rz
  obtain ⟨z, its, n, rv, hl, e⟩ := I.lstM hH
  have hi := ints_vals rv
  obtain ⟨as, ra⟩ := reads_ints (h := s.heap) hi
  refine PySem.W.max_list_default (vs := its.toArray) (xs := ns.map PyData.int) (as := as) hh ?_ (by simpa using ra) (alike_ints ns) (by have := depth_ints ns; omega) (fun hz h' tk mo => ?_) fun y ys i v h' tk bs hy hi' rd mo => ?_
  · exact ⟨_, e, rfl, _, rfl⟩
  · exact ⟨d, H, I.kept (t' := tk) mo, e1, q0 (List.map_eq_nil_iff.mp hz)⟩
  · cases ns with
    | nil => cases hy
    | cons m ms =>
      rw [List.map_cons] at hy
      injection hy with h1 h2
      subst h1 h2
      rw [PySem.W.maxD_ints] at rd
      cases rd with
      | int _ t => exact ⟨.int _, H, I.kept (t' := tk) mo, ⟨t, rfl⟩, q m ms rfl⟩
end
theorem foldl_max : ∀ (ns : List Int) (n : Int), (ns.foldl max n ∈ n :: ns) ∧ ∀ m ∈ n :: ns, m ≤ ns.foldl max n
  | [], n => ⟨List.mem_cons_self, fun m hm => by rw [List.mem_singleton.mp hm]; exact Int.le_refl _⟩
  | k :: ns, n => by
    obtain ⟨h1, h2⟩ := foldl_max ns (max n k)
    rw [List.foldl_cons]
    refine ⟨?_, fun m hm => ?_⟩
    · rcases List.mem_cons.mp h1 with e | h
      · rw [e]
        by_cases c : k ≤ n
        · rw [Int.max_eq_left c]; exact List.mem_cons_self
        · rw [Int.max_eq_right (by omega)]; exact List.mem_cons_of_mem _ List.mem_cons_self
      · exact List.mem_cons_of_mem _ (List.mem_cons_of_mem _ h)
    · have h0 := h2 (max n k) List.mem_cons_self
      rcases List.mem_cons.mp hm with e | h
      · rw [e]; omega
      · rcases List.mem_cons.mp h with e | h
        · rw [e]; omega
        · exact h2 m (List.mem_cons_of_mem _ h)
end MyH

set_option Elab.async false
set_option linter.all false
set_option maxRecDepth 100000
set_option maxHeartbeats 2000000
/-! min(l, key=lambda row: row[k], default=None), max(..) -/
namespace LamK
open PySem PySem.Spec PyProof.Rows L2 LamX
abbrev fnObj (q : Str) (params : Arguments) (body : Expr) (scope : Scope) (cl : List (Str × Addr)) (pm : Value) (c' : Addr) (ctv : Value) : Obj := PySem.W.kla_obj "<lambda>" q params body scope cl pm c' ctv
/-- a lambda of one parameter, no other name -/
structure RowLam (row : Str) (params : Arguments) (scope : Scope) : Prop where
  kind : scope.kind = .function
  co : scope.isCoroutine = false
  gen : scope.isGenerator = false
  cell : ∀ y ∈ scope.names, y.2 ≠ .cell
  nofree : ∀ y ∈ scope.names, y.2 ≠ .free
  loc : scope.names.lookup row = some .local
  bind : ∀ (q : Str) (body : Expr) (cl : List (Str × Addr)) (pm cv ctv v : Value), bindArgs (PySem.W.kla_fn "<lambda>" q params body scope cl pm cv ctv) ⟨[v], []⟩ = pure [(row, v)]
section
variable {prog : Program} {w : World} {A : Around} {E : Value → Shared → Prop} {s : Shared}
theorem call_row {row q : Str} {params : Arguments} {scope : Scope} {cl : List (Str × Addr)} {pm ctv y : Value} {c' f t : Addr} {its : Array Value} {k : Nat} {j : Nat} {p1 p2 p3 : Pos} {Q : Value → Shared → Prop} (L : RowLam row params scope) (hd : A.depth < recursionLimit)
    (of : s.heap.get? f = some (fnObj q params (.Subscript (.Name row p1) (.Constant (.int k) j p2) p3) scope cl pm c' ctv)) (cr : s.heap.CodeRec (.ref c') q) (lim : s.heap.NoLimit) (ht : IsTup s.heap t its) (hk : its[k]? = some y) (hsz : its.size ≤ sizeLine) (hdb : (row == ("__debug__" : Str)) = false)
    (hQ : ∀ h' tk, (∀ b o, s.heap.get? b = some o → h'.get? b = some o) → s.toks ≤ tk → Q y { s with heap := h', toks := tk }) :
    wpAny (model prog w) A (call (.ref f) [.ref t]) Q E s := by
  refine wpAny_call (PySem.W.kla_callFunE hd of rfl L.co L.gen rfl cr ?_)
  rw [L.bind]
  refine wpAny_pure (wpAny_newFunctionEnv L.cell (fun z hz => ?_) (fun h₁ hns hsb => ⟨lim.fresh _ hsb, ?_⟩) L.kind)
  · rw [List.mem_singleton.mp hz]; exact L.loc
  have kp : ∀ b o, s.heap.get? b = some o → h₁.get? b = some o := fun b o e => hsb.extBut b o (Nat.ne_of_lt (Heap.lt_size e)) (Heap.get?_push_of_some _ e)
  refine PySem.W.kla_codeExpr ?_
  refine Subscript_ (wpAny_Name (wpAny_loadName_local L.kind L.loc hns (show ([(row, Value.ref t)] : List (Str × Value)).reverse.lookup row = some (.ref t) by simp) ?_) hdb)
  refine wpAny_Constant_int ?_
  have ht1 : IsTup h₁ t its := by
    obtain ⟨o, e, r⟩ := ht
    exact ⟨o, kp t o e, r⟩
  have hkl : k < its.size := (Array.getElem?_eq_some_iff.mp hk).1
  have l63 := line63
  refine subscriptTail_builtinR (x := y) ht1.typeIs slot_tuple_getitem.lookup (getItem_tuple (j := k) ht1 (by omega) (by omega) ?_ hk ⟨rfl, ?_⟩)
  · have c0 : ¬ (k : Int) < 0 := by omega
    unfold seqIndex?
    simp [c0, hkl]
  · exact hQ h₁ _ kp (Nat.le_trans (Nat.le_succ _) (Nat.le_succ _))
theorem best_min {rows : Nat → Int} : ∀ n, (∀ j, j ≤ n → rows (argBest (fun i j => decide (rows i < rows j)) n) ≤ rows j) ∧ (∀ j, j < argBest (fun i j => decide (rows i < rows j)) n → rows (argBest (fun i j => decide (rows i < rows j)) n) < rows j) ∧ argBest (fun i j => decide (rows i < rows j)) n ≤ n
  | 0 => ⟨fun j hj => by rw [Nat.le_zero.mp hj]; exact Int.le_refl _, fun j hj => absurd hj (Nat.not_lt_zero _), Nat.le_refl _⟩
  | n + 1 => by
    obtain ⟨h1, h2, h3⟩ := best_min (rows := rows) n
    generalize hb : argBest (fun i j => decide (rows i < rows j)) n = b at h1 h2 h3
    have e : argBest (fun i j => decide (rows i < rows j)) (n + 1) = if decide (rows (n + 1) < rows b) then n + 1 else b := by rw [← hb]; rfl
    rw [e]
    by_cases c : rows (n + 1) < rows b
    · rw [if_pos (decide_eq_true c)]
      refine ⟨fun j hj => ?_, fun j hj => ?_, Nat.le_refl _⟩
      · by_cases ej : j = n + 1
        · rw [ej]; exact Int.le_refl _
        · have := h1 j (by omega); omega
      · have := h1 j (by omega); omega
    · rw [if_neg (by simpa using c)]
      refine ⟨fun j hj => ?_, h2, by omega⟩
      by_cases ej : j = n + 1
      · rw [ej]; omega
      · exact h1 j (by omega)
theorem best_max {rows : Nat → Int} (n : Nat) : (∀ j, j ≤ n → rows j ≤ rows (argBest (fun i j => decide (rows j < rows i)) n)) ∧ (∀ j, j < argBest (fun i j => decide (rows j < rows i)) n → rows j < rows (argBest (fun i j => decide (rows j < rows i)) n)) ∧ argBest (fun i j => decide (rows j < rows i)) n ≤ n := by
  have e : (fun i j => decide (rows j < rows i)) = (fun i j => decide ((fun x => - rows x) i < (fun x => - rows x) j)) := by
    funext i j
    exact decide_eq_decide.mpr ⟨fun h => by show - rows i < - rows j; omega, fun h => by have h' : - rows i < - rows j := h; omega⟩
  have q := best_min (rows := fun x => - rows x) n
  rw [e]
  generalize argBest (fun i j => decide ((fun x => - rows x) i < (fun x => - rows x) j)) n = B at q ⊢
  obtain ⟨h1, h2, h3⟩ := q
  exact ⟨fun j hj => by have h' : - rows B ≤ - rows j := h1 j hj; omega, fun j hj => by have h' : - rows B < - rows j := h2 j hj; omega, h3⟩
/-- the rows of a list, as they stand -/
structure RowsAt (s : Shared) (vs : Array Value) (k : Nat) (rows : Nat → Int) : Prop where
  at_ : ∀ i v, vs[i]? = some v → ∃ (t : Addr) (its : Array Value) (u : Tok), v = .ref t ∧ IsTup s.heap t its ∧ its[k]? = some (.int (rows i) u) ∧ its.size ≤ sizeLine
theorem key_run {op : CmpOp} {bt : Nat → Nat → Bool} {row q : Str} {params : Arguments} {scope : Scope} {cl : List (Str × Addr)} {pm ctv : Value} {c' f l S : Addr} {k j : Nat} {p1 p2 p3 : Pos} {vs : Array Value} {rows : Nat → Int} {St : Nat → Shared → Prop} (L : RowLam row params scope) (hd : A.depth < recursionLimit) (hS : s.heap.objs.size < S)
    (of : s.heap.get? f = some (fnObj q params (.Subscript (.Name row p1) (.Constant (.int k) j p2) p3) scope cl pm c' ctv)) (cr : ∃ (oc : Obj) (vs : Array Value) (t : Tok), s.heap.get? c' = some oc ∧ oc.data = .fields vs ∧ vs[1]? = some (.str q t)) (lim : s.heap.NoLimit) (hR : RowsAt s vs k rows) (hdb : (row == ("__debug__" : Str)) = false)
    (frame : ∀ i (s : Shared) h' tk, St i s → s.toks ≤ tk → (∀ b ∈ [s_0, l], ∀ o, s.heap.get? b = some o → h'.get? b = some o) → St i { s with heap := h', toks := tk })
    (hcmp : ∀ i j t u (s : Shared) (Q : Value → Shared → Prop) (E : Value → Shared → Prop), Q (.bool (bt i j)) s → wpAny (model prog w) A (richCompare op (.int (rows i) t) (.int (rows j) u)) Q E s) :
    KeyRun prog w A (.ref f) op S [s.heap.objs.size] (fun a b => b = a) vs.size (fun i v => vs[i]? = some v) St (Keeps s) (fun i k _ => ∃ u, k = .int (rows i) u) bt where
  keep := fun s1 s2 h m => by
    obtain ⟨h', tk, rfl, hk⟩ := h
    refine ⟨s2.heap, s2.toks, ?_, fun b o e => m.heap b o (fun hb => ?_) (hk b o e)⟩
    · obtain ⟨hp, g, d, tk2, os⟩ := s2
      have h1 : g = s.gens := m.gens
      have h2 : d = s.drawn := m.drawn
      have h3 : os = s.os := m.os
      subst h1 h2 h3
      rfl
    · have lt := Heap.lt_size e
      rcases List.mem_cons.mp hb with z | z
      · rw [z] at lt; exact Nat.lt_irrefl _ (Nat.lt_trans lt hS)
      · rw [List.mem_singleton.mp z] at lt; exact Nat.lt_irrefl _ lt
  keepV := fun i k s s' h _ => h
  turn := fun i v s1 o Q E hi hv hJ hst hSo h => by
    obtain ⟨h', tk, rfl, hk⟩ := hJ
    obtain ⟨t, its, u, rfl, ht, hik, hz⟩ := hR.at_ i v hv
    have ht1 : IsTup h' t its := by
      obtain ⟨o, e, r⟩ := ht
      exact ⟨o, hk t o e, r⟩
    obtain ⟨oc, vs2, t2, e1, e2, e3⟩ := cr
    refine call_row L hd (hk _ _ of) ⟨c', oc, vs2, t2, rfl, hk _ _ e1, e2, e3⟩ (lim.keeps hk) ht1 hik hz hdb fun h2 tk2 hk2 htk => ?_
    exact h _ _ ⟨h2, tk2, rfl, fun b o e => hk2 b o (hk b o e)⟩ (frame _ _ _ _ hst htk fun b _ o e => hk2 b o e) (hk2 _ _ hSo) ⟨u, rfl⟩ fun j k' hj => hj
  cmp := fun i j ki kj s Q E _ ⟨t, e1⟩ ⟨u, e2⟩ hq => by
    subst e1 e2
    exact hcmp i j t u s Q E hq
theorem min_rows {row q : Str} {params : Arguments} {scope : Scope} {cl : List (Str × Addr)} {pm ctv : Value} {c' f l : Addr} {k j : Nat} {p1 p2 p3 : Pos} {vs : Array Value} {rows : Nat → Int} {Q : Value → Shared → Prop} (L : RowLam row params scope) (hh : A.handled = none) (hd : A.depth < recursionLimit) (hl : s.heap.IsList l vs)
    (of : s.heap.get? f = some (fnObj q params (.Subscript (.Name row p1) (.Constant (.int k) j p2) p3) scope cl pm c' ctv)) (cr : ∃ (oc : Obj) (vs : Array Value) (t : Tok), s.heap.get? c' = some oc ∧ oc.data = .fields vs ∧ vs[1]? = some (.str q t)) (lim : s.heap.NoLimit) (hR : RowsAt s vs k rows) (hdb : (row == ("__debug__" : Str)) = false)
    (h0 : vs.size = 0 → ∀ h' tk, (∀ b o, s.heap.get? b = some o → h'.get? b = some o) → Q .none { s with heap := h', toks := tk })
    (h : ∀ i v h' tk, vs[i]? = some v → (∀ j, j < vs.size → rows i ≤ rows j) → (∀ j, j < i → rows i < rows j) → (∀ b o, s.heap.get? b = some o → h'.get? b = some o) → Q v { s with heap := h', toks := tk }) :
    wpAny (model prog w) A (call (.builtin "min") [.ref l] [(Str.ofString "key", .ref f), (Str.ofString "default", .none)]) Q E s := by
  refine call_min_walkKD (PySem.W.iter_listW (A := A.in1) hh hl fun s₂ e W st hfp hw hk => ?_)
  refine ⟨_, _, _, _, _, _, _, Keeps s, _, _, rfl, W, st, hfp, key_run (bt := fun i j => decide (rows i < rows j)) L hd ?_ of cr lim hR hdb W.frame (fun i j t u s Q E hq => lt_int hq), ⟨_, _, e, fun b o q => Heap.get?_push_of_some _ q⟩, fun hz s' hJ => ?_, fun hn v s' hv hJ => ?_⟩
  · rw [e]; show s.heap.objs.size < (s.heap.push _).objs.size; rw [Heap.size_push]; exact Nat.lt_succ_self _
  · obtain ⟨h', tk, rfl, hk'⟩ := hJ
    exact h0 hz h' tk hk'
  · obtain ⟨h', tk, rfl, hk'⟩ := hJ
    obtain ⟨b1, b2, b3⟩ := best_min (rows := rows) (vs.size - 1)
    exact h _ v h' tk hv (fun j hj => b1 j (by omega)) b2 hk'
theorem max_rows {row q : Str} {params : Arguments} {scope : Scope} {cl : List (Str × Addr)} {pm ctv : Value} {c' f l : Addr} {k j : Nat} {p1 p2 p3 : Pos} {vs : Array Value} {rows : Nat → Int} {Q : Value → Shared → Prop} (L : RowLam row params scope) (hh : A.handled = none) (hd : A.depth < recursionLimit) (hl : s.heap.IsList l vs)
    (of : s.heap.get? f = some (fnObj q params (.Subscript (.Name row p1) (.Constant (.int k) j p2) p3) scope cl pm c' ctv)) (cr : ∃ (oc : Obj) (vs : Array Value) (t : Tok), s.heap.get? c' = some oc ∧ oc.data = .fields vs ∧ vs[1]? = some (.str q t)) (lim : s.heap.NoLimit) (hR : RowsAt s vs k rows) (hdb : (row == ("__debug__" : Str)) = false)
    (h0 : vs.size = 0 → ∀ h' tk, (∀ b o, s.heap.get? b = some o → h'.get? b = some o) → Q .none { s with heap := h', toks := tk })
    (h : ∀ i v h' tk, vs[i]? = some v → (∀ j, j < vs.size → rows j ≤ rows i) → (∀ j, j < i → rows j < rows i) → (∀ b o, s.heap.get? b = some o → h'.get? b = some o) → Q v { s with heap := h', toks := tk }) :
    wpAny (model prog w) A (call (.builtin "max") [.ref l] [(Str.ofString "key", .ref f), (Str.ofString "default", .none)]) Q E s := by
  refine call_max_walkKD (PySem.W.iter_listW (A := A.in1) hh hl fun s₂ e W st hfp hw hk => ?_)
  refine ⟨_, _, _, _, _, _, _, Keeps s, _, _, rfl, W, st, hfp, key_run (bt := fun i j => decide (rows j < rows i)) L hd ?_ of cr lim hR hdb W.frame (fun i j t u s Q E hq => gt_int hq), ⟨_, _, e, fun b o q => Heap.get?_push_of_some _ q⟩, fun hz s' hJ => ?_, fun hn v s' hv hJ => ?_⟩
  · rw [e]; show s.heap.objs.size < (s.heap.push _).objs.size; rw [Heap.size_push]; exact Nat.lt_succ_self _
  · obtain ⟨h', tk, rfl, hk'⟩ := hJ
    exact h0 hz h' tk hk'
  · obtain ⟨h', tk, rfl, hk'⟩ := hJ
    obtain ⟨b1, b2, b3⟩ := best_max (rows := rows) (vs.size - 1)
    exact h _ v h' tk hv (fun j hj => b1 j (by omega)) b2 hk'
end
/-- a lambda was made in the def whose table is P -/
def LamStep (P : Addr) (q : Str) (H H1 : Hp) : Prop := TabS H1 P q ∧ (H1 = H ∨ ∃ (ps more : Array Value) (c' : Addr), H P = some (.tbl ps) ∧ H c' = none ∧ H1 = upd (upd H P (.tbl (ps ++ more))) c' (CodeO c' q))
theorem LamStep.old {P : Addr} {q : Str} {H H1 : Hp} (h : LamStep P q H H1) {b : Addr} {o : HO} (e : H b = some o) (n : b ≠ P) : H1 b = some o := by
  rcases h.2 with rfl | ⟨ps, more, c', hP, hc, rfl⟩
  · exact e
  · rw [upd_ne (ne_of_none e hc), upd_ne n]; exact e
theorem LamStep.old' {P : Addr} {q : Str} {H H1 : Hp} (h : LamStep P q H H1) {b : Addr} {o : HO} (e : H b = some o) (n : ∀ ps, o ≠ .tbl ps) : H1 b = some o := by
  rcases h.2 with rfl | ⟨ps, more, c', hP, hc, rfl⟩
  · exact e
  · rw [upd_ne (ne_of_none e hc), upd_ne (fun z => by rw [z, hP] at e; exact n _ (Option.some.inj e).symm)]; exact e
theorem LamStep.sqT {K : PySem.W.Frag} {P : Addr} {q : Str} {H H1 : Hp} (h : LamStep P q H H1) {a : Addr} {xs : List V} (m : SqT K H a xs) : SqT K H1 a xs := by
  rcases m with (m | ⟨o, m⟩) | m
  · exact .inl (.inl (h.old' m fun _ z => by cases z))
  · exact .inl (.inr ⟨o, h.old' m fun _ z => by cases z⟩)
  · exact .inr m
section
variable {X : Cx} {pins : List (Addr × Obj)} {σ : L2.St} {H : Hp} {s : Shared}
theorem lam_make3 {row : Str} {c P : Addr} {params : Arguments} {body : Expr} {scope : Scope} {pos : Pos} {E : Value → Shared → Prop} {Q : Value → Shared → Prop} (I : Inv X pins σ H s) (TB : TabB X.base X.mg c P) (hcode : X.env.code = .ref c) (hT : TabS H P (X.env.qual ++ "<lambda>")) (hdef : defaultsOf params X.env = ([], [])) (L : RowLam row params scope)
    (h : ∀ (f c' : Addr) (pm ctv : Value) (H1 : Hp) (s' : Shared), Inv X pins σ H1 s' → LamStep P (X.env.qual ++ "<lambda>") H H1 → s'.heap.get? f = some (fnObj (X.env.qual ++ "<lambda>") params body scope (cloFrom X.env.cells scope.names []) pm c' ctv) → H1 c' = some (CodeO c' (X.env.qual ++ "<lambda>")) → Q (.ref f) s') :
    wpAny (model X.prog X.w) X.A (eval (.Lambda params body scope pos) X.env) Q E s := by
  have hT0 := hT
  obtain ⟨ps, hP, ht, ha⟩ := hT
  have hcl : closureFor scope X.env = pure (cloFrom X.env.cells scope.names []) := closure_ok fun y hy e => absurd e (L.nofree y hy)
  have eP : s.heap.get? P = some { cls := .none, data := .fields ps } := I.hok P _ hP
  refine PySem.W.kla_eval hdef ?_
  rcases hc : codeAmong pos ps.toList with _ | cv
  · refine PySem.W.kla_makeFunction (mg := X.mg) (c := c) (P := P) (ps := ps) hcl I.ok.glob (I.mod.glob.keeps I.bk) hcode (TB.code.keeps I.bk) eP ht hc TB.gP (TB.bm.keeps I.bk) fun c' ctv h' tk hx hge hlt hrec htb => ?_
    obtain ⟨c2, oc, vs, t, e2, hoc, hd, hv⟩ := hrec
    cases e2
    have nc : H c' = none := I.hok.fresh hge
    have hnew := inv_table (q := X.env.qual ++ "<lambda>") (t' := tk) (more := #[rawInt pos.line, rawInt pos.col, .ref c']) (h' := h'.push (fnObj (X.env.qual ++ "<lambda>") params body scope (cloFrom X.env.cells scope.names []) ((X.mg "__name__").getD .none) c' ctv)) I hP (fun b o hb e => Heap.get?_push_of_some _ (hx b o hb e)) (Heap.get?_push_of_some _ htb) hge ⟨oc, vs, t, Heap.get?_push_of_some _ hoc, hd, hv⟩
    have hst : LamStep P (X.env.qual ++ "<lambda>") H (upd (upd H P (.tbl (ps ++ #[rawInt pos.line, rawInt pos.col, .ref c']))) c' (CodeO c' (X.env.qual ++ "<lambda>"))) := by
      have eL : (ps ++ #[rawInt pos.line, rawInt pos.col, .ref c']).toList = ps.toList ++ [rawInt pos.line, rawInt pos.col, .ref c'] := by simp
      refine ⟨⟨_, by rw [upd_ne (ne_of_none hP nc), upd_same], by rw [eL]; exact PySem.TriplesOk_snoc _ _ _ _ ht, fun p' cv hcv => ?_⟩, .inr ⟨ps, _, c', hP, nc, rfl⟩⟩
      rw [eL] at hcv
      rcases among_app _ ht hcv with z | z
      · obtain ⟨c0, e1, e2⟩ := ha p' cv z
        exact ⟨c0, e1, by rw [upd_ne (ne_of_none e2 nc), upd_ne (fun z => by rw [z, hP] at e2; exact codeO_ne _ (Option.some.inj e2).symm)]; exact e2⟩
      · exact ⟨c', z, upd_same⟩
    exact h h'.objs.size c' _ ctv _ _ hnew hst (Heap.get?_push_size _ rfl) upd_same
  · obtain ⟨c', rfl, hco⟩ := ha pos cv hc
    refine PySem.W.kla_makeFunctionHit (mg := X.mg) (c := c) (P := P) (ps := ps) hcl I.ok.glob (I.mod.glob.keeps I.bk) hcode (TB.code.keeps I.bk) eP ht hc (TB.bm.keeps I.bk) fun ctv h' tk hx hsz => ?_
    exact h h'.objs.size c' _ ctv H _ (I.kept fun b o e => Heap.get?_push_of_some _ (hx b o e)) ⟨hT0, .inl rfl⟩ (Heap.get?_push_size _ rfl) hco
/-- the rows of a list, with the numbers at k -/
def RowsV (K : PySem.W.Frag) (H : Hp) (k : Nat) (ns : List Int) (xs : List V) : Prop := ns.length = xs.length ∧ ∀ (i : Nat) (n : Int) (x : V), ns[i]? = some n → xs[i]? = some x → ∃ t ys, x = V.ref t ∧ SqT K H t ys ∧ ys[k]? = some (.int n)
def tKey (K : PySem.W.Frag) (P : Addr) (q : Str) (k : Nat) (lt : Int → Int → Prop) (t : TA) : TE := fun σ H Q => t σ H fun vs H1 => ∃ (l : Addr) (xs : List V) (ns : List Int), vs = [.ref l] ∧ H1 l = some (.lst xs) ∧ RowsV K H1 k ns xs ∧ TabS H1 P q ∧
  ∀ H2, LamStep P q H1 H2 → (xs = [] → Q .non H2) ∧ ∀ (i : Nat) (n : Int) (x : V), ns[i]? = some n → xs[i]? = some x → (∀ m ∈ ns, ¬ lt m n) → (∀ (j : Nat) (m : Int), j < i → ns[j]? = some m → lt n m) → Q x H2
/-- min(l, key=lambda row: row[k], default=None) -/
theorem pe_minKey {row : Str} {c P : Addr} {params : Arguments} {scope : Scope} {e : Expr} {es : List Expr} {t : TA} {k j jn : Nat} {kk : Nat} {p p1 p2 p3 pos lpos k1 k2 pn : Pos} (hr : Room kk X.A) (hg : Gl X "min") (hm : X.mg "min" = none) (ha : PA X (e :: es) t) (TB : TabB X.base X.mg c P) (hcode : X.env.code = .ref c) (hdef : defaultsOf params X.env = ([], [])) (L : RowLam row params scope) (hdb : (row == ("__debug__" : Str)) = false := by decide)
    (he : backTo pos (starEach (e :: es) X.env) = (false, eval e X.env) :: backTo pos (starEach es X.env) := by rfl) (hpl : (backTo pos (starEach (e :: es) X.env)).any (·.1) = false := by rfl) :
    PE X (.Call (.Name "min" p) (e :: es) [⟨some "key", .Lambda params (.Subscript (.Name row p1) (.Constant (.int k) j p2) p3) scope lpos, k1⟩, ⟨some "default", .Constant .none jn pn, k2⟩] pos) (tKey X.K P (X.env.qual ++ "<lambda>") k (fun a b => a < b) t) := by
  refine ⟨fun pins s σ H Q I h => ?_⟩
  refine wpAny_Call_Name_kw (ld_blt I hg hm (by decide +kernel : bootBuiltins "min" = some (.builtin "min")) ?_)
  refine PyProof.Rows.callWith_kw (thn (ha.run pos pins s σ H _ I h) fun us s1 ⟨vs, H1, I1, r1, q1⟩ => ?_) he hpl (by rfl) (by rfl)
  obtain ⟨l, xs, ns, rfl, hl, ⟨hlen, hrows⟩, hT, q⟩ := q1
  obtain rfl := Vals.ref1 r1
  show wpAny _ _ (evalAll [(do let v ← eval (.Lambda params (.Subscript (.Name row p1) (.Constant (.int k) j p2) p3) scope lpos) X.env; standAt pos; pure v), (do let v ← eval (.Constant .none jn pn) X.env; standAt pos; pure v)]) _ _ s1
  refine wpAny_evalAll_cons (wpAny_bind (lam_make3 I1 TB hcode hT hdef L fun f c' pm ctv H2 s2 I2 st of hc' => wpAny_bind (wpAny_standAt (wpAny_pure ?_))))
  refine wpAny_evalAll_cons (wpAny_bind (Constant_none (wpAny_bind (wpAny_standAt (wpAny_pure (wpAny_evalAll_nil ?_))))))
  have hl2 : H2 l = some (.lst xs) := st.old' hl fun _ z => by cases z
  obtain ⟨z, its, n, r, hlz, el⟩ := I2.lstM hl2
  obtain ⟨⟨oc, vs, tq, hoc, hdc, hvc⟩, _, _⟩ := I2.hok c' _ hc'
  have lr := r.length
  have get : ∀ (i : Nat) (v : Value), its.toArray[i]? = some v → ∃ (x : V) (m : Int), xs[i]? = some x ∧ ns[i]? = some m ∧ RelV x v := fun i v hv => by
    have hv2 : its[i]? = some v := by simpa using hv
    have hi2 : i < its.length := (List.getElem?_eq_some_iff.mp hv2).1
    have hx : xs[i]? = some (xs[i]'(by omega)) := List.getElem?_eq_getElem _
    obtain ⟨u, hu, ru⟩ := r.get hx
    rw [hv2] at hu
    cases hu
    exact ⟨_, _, hx, List.getElem?_eq_getElem (show i < ns.length by omega), ru⟩
  have hR : RowsAt s2 its.toArray k (fun i => ns.getD i 0) := ⟨fun i v hv => by
    obtain ⟨x, m, hx, hm2, ru⟩ := get i v hv
    obtain ⟨tt, ys, rfl, hq, hk⟩ := hrows i m x hm2 hx
    obtain rfl : v = Value.ref tt := ru
    obtain ⟨its2, r2, it2, lz⟩ := I2.tuple (st.sqT hq)
    obtain ⟨u, hu, rru⟩ := r2.get hk
    obtain ⟨t0, rfl⟩ := (show ∃ t, u = Value.int m t from rru)
    have l2 := r2.length
    refine ⟨tt, its2.toArray, t0, rfl, it2, ?_, by rw [List.size_toArray, ← l2]; exact lz⟩
    rw [show ns.getD i 0 = m by simp [hm2]]
    simpa using hu⟩
  have sz : its.toArray.size = ns.length := by rw [List.size_toArray, ← lr, hlen]
  show wpAny _ _ (call (.builtin "min") [.ref l] [(Str.ofString "key", .ref f), (Str.ofString "default", .none)]) _ _ s2
  refine min_rows L hr.hd hr.depth ⟨_, el, rfl, _, rfl⟩ of ⟨oc, vs, tq, hoc, hdc, hvc⟩ I2.nolimit hR hdb (fun h0 h' tk mo => ?_) fun i v h' tk hv b1 b2 mo => ?_
  · have hx0 : xs = [] := List.eq_nil_of_length_eq_zero (by omega)
    exact ⟨.non, H2, I2.kept (t' := tk) mo, rfl, (q H2 st).1 hx0⟩
  · obtain ⟨x, m, hx, hm2, ru⟩ := get i v hv
    refine ⟨x, H2, I2.kept (t' := tk) mo, ru, (q H2 st).2 i m x hm2 hx (fun m2 hm3 => ?_) fun i2 m2 hi2 hm3 => ?_⟩
    · obtain ⟨i2, hi2, e2⟩ := List.getElem_of_mem hm3
      have := b1 i2 (by omega)
      have e3 : ns[i2]? = some m2 := List.getElem?_eq_some_iff.mpr ⟨hi2, e2⟩
      simp only [List.getD_eq_getElem?_getD, hm2, e3, Option.getD_some] at this
      show ¬ m2 < m; omega
    · have := b2 i2 hi2
      simp only [List.getD_eq_getElem?_getD, hm2, hm3, Option.getD_some] at this
      exact this
/-- max(l, key=lambda row: row[k], default=None) -/
theorem pe_maxKey {row : Str} {c P : Addr} {params : Arguments} {scope : Scope} {e : Expr} {es : List Expr} {t : TA} {k j jn : Nat} {kk : Nat} {p p1 p2 p3 pos lpos k1 k2 pn : Pos} (hr : Room kk X.A) (hg : Gl X "max") (hm : X.mg "max" = none) (ha : PA X (e :: es) t) (TB : TabB X.base X.mg c P) (hcode : X.env.code = .ref c) (hdef : defaultsOf params X.env = ([], [])) (L : RowLam row params scope) (hdb : (row == ("__debug__" : Str)) = false := by decide)
    (he : backTo pos (starEach (e :: es) X.env) = (false, eval e X.env) :: backTo pos (starEach es X.env) := by rfl) (hpl : (backTo pos (starEach (e :: es) X.env)).any (·.1) = false := by rfl) :
    PE X (.Call (.Name "max" p) (e :: es) [⟨some "key", .Lambda params (.Subscript (.Name row p1) (.Constant (.int k) j p2) p3) scope lpos, k1⟩, ⟨some "default", .Constant .none jn pn, k2⟩] pos) (tKey X.K P (X.env.qual ++ "<lambda>") k (fun a b => b < a) t) := by
  refine ⟨fun pins s σ H Q I h => ?_⟩
  refine wpAny_Call_Name_kw (ld_blt I hg hm (by decide +kernel : bootBuiltins "max" = some (.builtin "max")) ?_)
  refine PyProof.Rows.callWith_kw (thn (ha.run pos pins s σ H _ I h) fun us s1 ⟨vs, H1, I1, r1, q1⟩ => ?_) he hpl (by rfl) (by rfl)
  obtain ⟨l, xs, ns, rfl, hl, ⟨hlen, hrows⟩, hT, q⟩ := q1
  obtain rfl := Vals.ref1 r1
  show wpAny _ _ (evalAll [(do let v ← eval (.Lambda params (.Subscript (.Name row p1) (.Constant (.int k) j p2) p3) scope lpos) X.env; standAt pos; pure v), (do let v ← eval (.Constant .none jn pn) X.env; standAt pos; pure v)]) _ _ s1
  refine wpAny_evalAll_cons (wpAny_bind (lam_make3 I1 TB hcode hT hdef L fun f c' pm ctv H2 s2 I2 st of hc' => wpAny_bind (wpAny_standAt (wpAny_pure ?_))))
  refine wpAny_evalAll_cons (wpAny_bind (Constant_none (wpAny_bind (wpAny_standAt (wpAny_pure (wpAny_evalAll_nil ?_))))))
  have hl2 : H2 l = some (.lst xs) := st.old' hl fun _ z => by cases z
  obtain ⟨z, its, n, r, hlz, el⟩ := I2.lstM hl2
  obtain ⟨⟨oc, vs, tq, hoc, hdc, hvc⟩, _, _⟩ := I2.hok c' _ hc'
  have lr := r.length
  have get : ∀ (i : Nat) (v : Value), its.toArray[i]? = some v → ∃ (x : V) (m : Int), xs[i]? = some x ∧ ns[i]? = some m ∧ RelV x v := fun i v hv => by
    have hv2 : its[i]? = some v := by simpa using hv
    have hi2 : i < its.length := (List.getElem?_eq_some_iff.mp hv2).1
    have hx : xs[i]? = some (xs[i]'(by omega)) := List.getElem?_eq_getElem _
    obtain ⟨u, hu, ru⟩ := r.get hx
    rw [hv2] at hu
    cases hu
    exact ⟨_, _, hx, List.getElem?_eq_getElem (show i < ns.length by omega), ru⟩
  have hR : RowsAt s2 its.toArray k (fun i => ns.getD i 0) := ⟨fun i v hv => by
    obtain ⟨x, m, hx, hm2, ru⟩ := get i v hv
    obtain ⟨tt, ys, rfl, hq, hk⟩ := hrows i m x hm2 hx
    obtain rfl : v = Value.ref tt := ru
    obtain ⟨its2, r2, it2, lz⟩ := I2.tuple (st.sqT hq)
    obtain ⟨u, hu, rru⟩ := r2.get hk
    obtain ⟨t0, rfl⟩ := (show ∃ t, u = Value.int m t from rru)
    have l2 := r2.length
    refine ⟨tt, its2.toArray, t0, rfl, it2, ?_, by rw [List.size_toArray, ← l2]; exact lz⟩
    rw [show ns.getD i 0 = m by simp [hm2]]
    simpa using hu⟩
  have sz : its.toArray.size = ns.length := by rw [List.size_toArray, ← lr, hlen]
  show wpAny _ _ (call (.builtin "max") [.ref l] [(Str.ofString "key", .ref f), (Str.ofString "default", .none)]) _ _ s2
  refine max_rows L hr.hd hr.depth ⟨_, el, rfl, _, rfl⟩ of ⟨oc, vs, tq, hoc, hdc, hvc⟩ I2.nolimit hR hdb (fun h0 h' tk mo => ?_) fun i v h' tk hv b1 b2 mo => ?_
  · have hx0 : xs = [] := List.eq_nil_of_length_eq_zero (by omega)
    exact ⟨.non, H2, I2.kept (t' := tk) mo, rfl, (q H2 st).1 hx0⟩
  · obtain ⟨x, m, hx, hm2, ru⟩ := get i v hv
    refine ⟨x, H2, I2.kept (t' := tk) mo, ru, (q H2 st).2 i m x hm2 hx (fun m2 hm3 => ?_) fun i2 m2 hi2 hm3 => ?_⟩
    · obtain ⟨i2, hi2, e2⟩ := List.getElem_of_mem hm3
      have := b1 i2 (by omega)
      have e3 : ns[i2]? = some m2 := List.getElem?_eq_some_iff.mpr ⟨hi2, e2⟩
      simp only [List.getD_eq_getElem?_getD, hm2, e3, Option.getD_some] at this
      show ¬ m < m2; omega
    · have := b2 i2 hi2
      simp only [List.getD_eq_getElem?_getD, hm2, hm3, Option.getD_some] at this
      exact this
end
end LamK

set_option Elab.async false
set_option linter.all false
set_option maxRecDepth 100000
set_option maxHeartbeats 2000000
/-! min(l, key=lambda row: row[k]) of a list that is not empty -/
namespace LamK
open PySem PySem.Spec PyProof.Rows L2 LamX
section
variable {prog : Program} {w : World} {A : Around} {E : Value → Shared → Prop} {s : Shared}
theorem min_rows1 {row q : Str} {params : Arguments} {scope : Scope} {cl : List (Str × Addr)} {pm ctv : Value} {c' f l : Addr} {k j : Nat} {p1 p2 p3 : Pos} {vs : Array Value} {rows : Nat → Int} {Q : Value → Shared → Prop} (L : RowLam row params scope) (hh : A.handled = none) (hd : A.depth < recursionLimit) (hl : s.heap.IsList l vs)
    (of : s.heap.get? f = some (fnObj q params (.Subscript (.Name row p1) (.Constant (.int k) j p2) p3) scope cl pm c' ctv)) (cr : ∃ (oc : Obj) (vs : Array Value) (t : Tok), s.heap.get? c' = some oc ∧ oc.data = .fields vs ∧ vs[1]? = some (.str q t)) (lim : s.heap.NoLimit) (hR : RowsAt s vs k rows) (hdb : (row == ("__debug__" : Str)) = false)
    (hn0 : 0 < vs.size)
    (h : ∀ i v h' tk, vs[i]? = some v → (∀ j, j < vs.size → rows i ≤ rows j) → (∀ j, j < i → rows i < rows j) → (∀ b o, s.heap.get? b = some o → h'.get? b = some o) → Q v { s with heap := h', toks := tk }) :
    wpAny (model prog w) A (call (.builtin "min") [.ref l] [(Str.ofString "key", .ref f)]) Q E s := by
  refine call_min_walkK (PySem.W.iter_listW (A := A.in1) hh hl fun s₂ e W st hfp hw hk => ?_)
  refine ⟨_, _, _, _, _, _, _, Keeps s, _, _, rfl, W, st, hfp, hn0, key_run (bt := fun i j => decide (rows i < rows j)) L hd ?_ of cr lim hR hdb W.frame (fun i j t u s Q E hq => lt_int hq), ⟨_, _, e, fun b o q => Heap.get?_push_of_some _ q⟩, fun v s' hv hJ => ?_⟩
  · rw [e]; show s.heap.objs.size < (s.heap.push _).objs.size; rw [Heap.size_push]; exact Nat.lt_succ_self _
  · obtain ⟨h', tk, rfl, hk'⟩ := hJ
    obtain ⟨b1, b2, b3⟩ := best_min (rows := rows) (vs.size - 1)
    exact h _ v h' tk hv (fun j hj => b1 j (by omega)) b2 hk'
end
section
variable {X : Cx} {pins : List (Addr × Obj)} {σ : L2.St} {H : Hp} {s : Shared}
def tKey1 (K : PySem.W.Frag) (P : Addr) (q : Str) (k : Nat) (lt : Int → Int → Prop) (t : TA) : TE := fun σ H Q => t σ H fun vs H1 => ∃ (l : Addr) (xs : List V) (ns : List Int), vs = [.ref l] ∧ H1 l = some (.lst xs) ∧ RowsV K H1 k ns xs ∧ 0 < xs.length ∧ TabS H1 P q ∧
  ∀ H2, LamStep P q H1 H2 → ∀ (i : Nat) (n : Int) (x : V), ns[i]? = some n → xs[i]? = some x → (∀ m ∈ ns, ¬ lt m n) → (∀ (j : Nat) (m : Int), j < i → ns[j]? = some m → lt n m) → Q x H2
/-- min(l, key=lambda row: row[k]) -/
theorem pe_minKey1 {row : Str} {c P : Addr} {params : Arguments} {scope : Scope} {e : Expr} {es : List Expr} {t : TA} {k j : Nat} {kk : Nat} {p p1 p2 p3 pos lpos k1 : Pos} (hr : Room kk X.A) (hg : Gl X "min") (hm : X.mg "min" = none) (ha : PA X (e :: es) t) (TB : TabB X.base X.mg c P) (hcode : X.env.code = .ref c) (hdef : defaultsOf params X.env = ([], [])) (L : RowLam row params scope) (hdb : (row == ("__debug__" : Str)) = false := by decide)
    (he : backTo pos (starEach (e :: es) X.env) = (false, eval e X.env) :: backTo pos (starEach es X.env) := by rfl) (hpl : (backTo pos (starEach (e :: es) X.env)).any (·.1) = false := by rfl) :
    PE X (.Call (.Name "min" p) (e :: es) [⟨some "key", .Lambda params (.Subscript (.Name row p1) (.Constant (.int k) j p2) p3) scope lpos, k1⟩] pos) (tKey1 X.K P (X.env.qual ++ "<lambda>") k (fun a b => a < b) t) := by
  refine ⟨fun pins s σ H Q I h => ?_⟩
  refine wpAny_Call_Name_kw (ld_blt I hg hm (by decide +kernel : bootBuiltins "min" = some (.builtin "min")) ?_)
  refine PyProof.Rows.callWith_kw (thn (ha.run pos pins s σ H _ I h) fun us s1 ⟨vs, H1, I1, r1, q1⟩ => ?_) he hpl (by rfl) (by rfl)
  obtain ⟨l, xs, ns, rfl, hl, ⟨hlen, hrows⟩, hne, hT, q⟩ := q1
  obtain rfl := Vals.ref1 r1
  show wpAny _ _ (evalAll [(do let v ← eval (.Lambda params (.Subscript (.Name row p1) (.Constant (.int k) j p2) p3) scope lpos) X.env; standAt pos; pure v)]) _ _ s1
  refine wpAny_evalAll_cons (wpAny_bind (lam_make3 I1 TB hcode hT hdef L fun f c' pm ctv H2 s2 I2 st of hc' => wpAny_bind (wpAny_standAt (wpAny_pure (wpAny_evalAll_nil ?_)))))
  have hl2 : H2 l = some (.lst xs) := st.old' hl fun _ z => by cases z
  obtain ⟨z, its, n, r, hlz, el⟩ := I2.lstM hl2
  obtain ⟨⟨oc, vs, tq, hoc, hdc, hvc⟩, _, _⟩ := I2.hok c' _ hc'
  have lr := r.length
  have get : ∀ (i : Nat) (v : Value), its.toArray[i]? = some v → ∃ (x : V) (m : Int), xs[i]? = some x ∧ ns[i]? = some m ∧ RelV x v := fun i v hv => by
    have hv2 : its[i]? = some v := by simpa using hv
    have hi2 : i < its.length := (List.getElem?_eq_some_iff.mp hv2).1
    have hx : xs[i]? = some (xs[i]'(by omega)) := List.getElem?_eq_getElem _
    obtain ⟨u, hu, ru⟩ := r.get hx
    rw [hv2] at hu
    cases hu
    exact ⟨_, _, hx, List.getElem?_eq_getElem (show i < ns.length by omega), ru⟩
  have hR : RowsAt s2 its.toArray k (fun i => ns.getD i 0) := ⟨fun i v hv => by
    obtain ⟨x, m, hx, hm2, ru⟩ := get i v hv
    obtain ⟨tt, ys, rfl, hq, hk⟩ := hrows i m x hm2 hx
    obtain rfl : v = Value.ref tt := ru
    obtain ⟨its2, r2, it2, lz⟩ := I2.tuple (st.sqT hq)
    obtain ⟨u, hu, rru⟩ := r2.get hk
    obtain ⟨t0, rfl⟩ := (show ∃ t, u = Value.int m t from rru)
    have l2 := r2.length
    refine ⟨tt, its2.toArray, t0, rfl, it2, ?_, by rw [List.size_toArray, ← l2]; exact lz⟩
    rw [show ns.getD i 0 = m by simp [hm2]]
    simpa using hu⟩
  have sz : its.toArray.size = ns.length := by rw [List.size_toArray, ← lr, hlen]
  show wpAny _ _ (call (.builtin "min") [.ref l] [(Str.ofString "key", .ref f)]) _ _ s2
  refine min_rows1 L hr.hd hr.depth ⟨_, el, rfl, _, rfl⟩ of ⟨oc, vs, tq, hoc, hdc, hvc⟩ I2.nolimit hR hdb (by rw [sz, hlen]; exact hne) fun i v h' tk hv b1 b2 mo => ?_
  · obtain ⟨x, m, hx, hm2, ru⟩ := get i v hv
    refine ⟨x, H2, I2.kept (t' := tk) mo, ru, q H2 st i m x hm2 hx (fun m2 hm3 => ?_) fun i2 m2 hi2 hm3 => ?_⟩
    · obtain ⟨i2, hi2, e2⟩ := List.getElem_of_mem hm3
      have := b1 i2 (by omega)
      have e3 : ns[i2]? = some m2 := List.getElem?_eq_some_iff.mpr ⟨hi2, e2⟩
      simp only [List.getD_eq_getElem?_getD, hm2, e3, Option.getD_some] at this
      show ¬ m2 < m; omega
    · have := b2 i2 hi2
      simp only [List.getD_eq_getElem?_getD, hm2, hm3, Option.getD_some] at this
      exact this
end
end LamK

set_option Elab.async false
set_option linter.all false
set_option maxRecDepth 100000
set_option maxHeartbeats 1000000
/-! enumerate(t), t a tuple -/
namespace MyS
open PySem PySem.Spec PyProof.Rows L2
open AutoSeq1 (wpAny_loadPart')
theorem meets_enumerate_newT (l : Addr) (items : Array Value) (n : Nat) (dct : Option Addr) (sl : Array (Option Value)) :
    Meets (Builtin.«enumerate.__new__» ⟨[.type "enumerate", .ref l], []⟩) (fun _ R s => s.heap.get? l = some { cls := .type "tuple", dict := dct, data := .seq items n, slots := sl } ∧
      R (.ok (.ret (.ref (s.heap.push { cls := .type "tuple_iterator", data := .fields #[.ref l, .int 0 0] }).objs.size)))
        { s with heap := (s.heap.push { cls := .type "tuple_iterator", data := .fields #[.ref l, .int 0 0] }).push { cls := .type "enumerate", data := .fields #[.none, .bool false, .ref s.heap.objs.size, rawInt 0, .none, .none] } }) :=
  .of_wp fun prog w A R s h => by
    obtain ⟨hp, g, d, tk, os⟩ := s; obtain ⟨hl, h⟩ := h
    have hsub := sub_enumerate
    have hL : Heap.IsTuple (Shared.heap ⟨hp, g, d, tk, os⟩) l items := ⟨_, hl, rfl, n, rfl⟩
    wp_walk using wpAny_loadPart' hl
    refine wpAny_stack_any fun st => wpAny_pure ?_
    split
    · rename_i c _ _ _ _ _
      cases (c == Value.type "enumerate")
      · wp_walk using wpAny_loadPart' hl, wpAny_pyIter_tuple hL
        exact ⟨_, rfl, h⟩
      · wp_walk using wpAny_loadPart' hl, wpAny_pyIter_tuple hL
        exact ⟨_, rfl, h⟩
    · wp_walk using wpAny_loadPart' hl, wpAny_pyIter_tuple hL
      exact ⟨_, rfl, h⟩
theorem call_enumerate_tuple {prog : Program} {w : World} {A : Around} {E : Value → Shared → Prop} {s : Shared} {l : Addr} {items : Array Value} {Q : Value → Shared → Prop} (hL : s.heap.IsTuple l items)
    (h : ∀ h', IsEnum h' (s.heap.objs.size + 1) s.heap.objs.size 0 .none → h'.IsTupleIter s.heap.objs.size l 0 → h'.objs.size = s.heap.objs.size + 2 →
      (∀ b o, s.heap.get? b = some o → h'.get? b = some o) → Q (.ref (s.heap.objs.size + 1)) { s with heap := h' }) :
    wpAny (model prog w) A (call (.type "enumerate") [.ref l]) Q E s := by
  obtain ⟨⟨c, dct, dt, sl⟩, hl, hc, n, hd⟩ := hL
  replace hc : c = .type "tuple" := hc
  replace hd : dt = .seq items n := hd
  subst hc hd
  refine callType_new F.called_enumerate (by decide) (F.typeCall_enumerate_1 _) (F.newCall_enumerate_1 _) (fun obj => F.args_object_init_2 obj _) F.entry_enumerate_new
    (meets_enumerate_newT l items n dct sl) ⟨hl, ?_⟩
  have hz : (s.heap.push { cls := .type "tuple_iterator", data := .fields #[.ref l, .int 0 0] }).objs.size = s.heap.objs.size + 1 := Heap.size_push ..
  show _ ∧ _
  rw [hz]
  have he : IsEnum ((s.heap.push { cls := .type "tuple_iterator", data := .fields #[.ref l, .int 0 0] }).push
      { cls := .type "enumerate", data := .fields #[.none, .bool false, .ref s.heap.objs.size, rawInt 0, .none, .none] }) (s.heap.objs.size + 1) s.heap.objs.size 0 .none := by
    have := Heap.get?_push_size (s.heap.push { cls := .type "tuple_iterator", data := .fields #[.ref l, .int 0 0] })
      (o := { cls := .type "enumerate", data := .fields #[.none, .bool false, .ref s.heap.objs.size, rawInt 0, .none, .none] }) rfl
    rw [hz] at this; exact this
  refine ⟨⟨_, he, rfl⟩, h _ he ⟨_, Heap.get?_push_of_some _ (Heap.get?_push_size _ rfl), rfl, rfl⟩ (by rw [Heap.size_push, hz]) fun b o x => Heap.get?_push_of_some _ (Heap.get?_push_of_some _ x)⟩
def IteT (K : PySem.W.Frag) (a : Addr) : It :=
  ⟨fun i H => ∃ (xs : List V) (x : V), SqT K H a xs ∧ xs[i]? = some x, fun i H v H' => ∃ T x, v = .ref T ∧ H T = none ∧ H' = upd H T (.tup [.int (i : Nat), x]) ∧ ∀ xs, SqT K H a xs → xs[i]? = some x, fun i H => ∃ xs : List V, SqT K H a xs ∧ xs.length ≤ i⟩
theorem tup_ne {h : Heap} {a e : Addr} {items : Array Value} {o : Obj} (p : h.IsTuple a items) (he : h.get? e = some o) (hc : o.cls ≠ .type "tuple") : e ≠ a := fun z => by
  obtain ⟨o', ho', hc', _⟩ := p
  rw [z, ho'] at he
  injection he with he
  rw [he] at hc'
  exact hc hc'
theorem turn_enumT {P : Program} {w : World} {K : PySem.W.Frag} {elts : List Expr} {kk : Nat} {tpos : Pos} (a e it : Addr) :
    Turn P w K (.Tuple elts kk tpos) (IteT K a) [e, it] e (fun i h => (∃ old, IsEnum h e it ((i : Nat) : Int) old) ∧ h.IsTupleIter it a i ∧ e ≠ it) where
  mem := by simp
  obj := fun i h st b hb => by
    obtain ⟨⟨old, he⟩, ⟨o, ho, hc, hd⟩, _⟩ := st
    have e' : b = e ∨ b = it := by simpa using hb
    rcases e' with z | z
    · rw [z]; exact ⟨_, he, fun v q => nomatch q⟩
    · rw [z]; exact ⟨o, ho, fun v q => by rw [hd] at q; cases q⟩
  keep := fun i h h' st k => let ⟨⟨old, he⟩, hi, hne⟩ := st; ⟨⟨old, k e (by simp) _ he⟩, hi.at fun o q => k it (by simp) o q, hne⟩
  item := by
    intro X hP hw hK hc i pins s σ H E I hf st hg
    subst hP hw hK
    obtain ⟨⟨old, he⟩, hit, hne⟩ := st
    obtain ⟨xs, x, hq, hx⟩ := hg
    obtain ⟨its, rv, p, hz⟩ := I.tuple hq
    obtain ⟨u, hu, ru⟩ := rv.get hx
    have hel : e < s.heap.objs.size := Heap.lt_size he
    have hil : it < s.heap.objs.size := by obtain ⟨_, q, _⟩ := hit; exact Heap.lt_size q
    have p' : s.heap.IsTuple a its.toArray := p
    have nea : e ≠ a := tup_ne p' he (by simp)
    have nia : it ≠ a := by
      obtain ⟨o, ho, hc', _⟩ := id hit
      exact tup_ne p' ho (by rw [hc']; simp)
    have D := Draws.tuple (prog := X.prog) (w := X.w) (A := X.A.in1) (I.ok.hd hc) it a (Ne.symm nia) its.toArray
    have hlt : i < its.toArray.size := by
      have := (List.getElem?_eq_some_iff.mp hu).1
      simpa using this
    refine wpAny_pyNext_enum_itemD D he ⟨hit, p'⟩ hlt hne (by simp [hne, nea]) fun x1 h' tk hx1 ho hst' hT hsz hk => ?_
    obtain rfl : x1 = u := by
      have q1 : its.toArray[i]? = some u := by simpa using hu
      rw [hx1] at q1
      exact Option.some.inj q1
    refine ⟨_, rfl, wpAny_letOwnedTupleGo_enum (s := { s with heap := h', toks := tk + 1 }) ho fun h'' he' sb => ?_⟩
    have hT2 : h''.get? s.heap.objs.size = some { cls := .type "tuple", data := .seq #[.int i tk, x1] } := (sb.2 _ (Nat.ne_of_gt hel)).trans hT
    have new : ObjOk X.prog X.w (upd H s.heap.objs.size (.tup [.int (i : Nat), x])) h'' s.heap.objs.size (.tup [.int (i : Nat), x]) :=
      ⟨by show 2 ≤ sizeLine; decide, [.int i tk, x1], .cons ⟨_, rfl⟩ (.cons ru .nil), ⟨_, hT2, rfl, _, rfl⟩⟩
    have I1 : Inv X pins σ (upd H s.heap.objs.size (.tup [.int (i : Nat), x])) { s with heap := h'', toks := tk + 1 } :=
      I.turnedNew (ch := [e, it]) (fun b ob hb q => (sb.2 b (fun z => hb (by simp [z]))).trans (hk b ob (fun z => hb (by simp [z])) (fun z => hb (by simp [z])) q)) hf (Nat.le_refl _) new
    refine ⟨.ref s.heap.objs.size, _, I1, rfl, ⟨_, x, rfl, I.hok.fresh (Nat.le_refl _), rfl, fun ys hy => by rw [I.tuple_inj hy hq]; exact hx⟩, ⟨⟨x1, ?_⟩, hst'.1.at fun o q => (sb.2 it (Ne.symm hne)).trans q, hne⟩, fun b hb => ?_⟩
    · have e1 : ((i + 1 : Nat) : Int) = (i : Int) + 1 := by omega
      rw [e1]; exact he'
    · have hb' : b < s.heap.objs.size := by
        have e' : b = e ∨ b = it := by simpa using hb
        rcases e' with z | z
        · rw [z]; exact hel
        · rw [z]; exact hil
      rw [upd_ne (Nat.ne_of_lt hb')]
      exact (hf b hb).1
  done := by
    intro X hP hw hK hc i pins s σ H E I hf st hg
    subst hP hw hK
    obtain ⟨⟨old, he⟩, hit, hne⟩ := st
    obtain ⟨xs, hq, hx⟩ := hg
    obtain ⟨its, rv, p, hz⟩ := I.tuple hq
    obtain ⟨f0, f1, f2, f3, f4, f5⟩ := hf it (by simp)
    have hl := rv.length
    have p' : s.heap.IsTuple a its.toArray := p
    have hnone : its.toArray[i]? = none := by simp; omega
    have hh : X.A.in1.handled = none := I.ok.hd hc
    have D : Draws X.prog X.w X.A.in1 it [it, a] i (fun _ _ => False) (fun j h => j = i ∧ h.IsTupleIter it a i ∧ h.IsTuple a its.toArray) :=
      { live := fun _ _ st => let ⟨o, ho, _⟩ := st.2.1; ⟨o, ho⟩
        frame := fun _ _ _ st hk => ⟨st.1, st.2.1.at fun o e => hk it (by simp) o e, st.2.2.at fun o e => hk a (by simp) o e⟩
        item := fun j s Q E hi st hQ => absurd st.1 (Nat.ne_of_lt hi)
        done := fun s Q E st hE => wpAny_nextOf_tuple_end hh st.2.1 st.2.2 hnone hE }
    exact wpAny_pyNext_enum_endD D he ⟨rfl, hit, p'⟩ fun h' eb => ⟨rfl, I.turned (t' := s.toks) (fun b ob hb e => eb b ob hb e) f0 f1 f3 f4 f5⟩
  self := fun A i s Q E st h => let ⟨⟨_, he⟩, _⟩ := st; wpAny_pyIter_enum he h
def iEnumT (K : PySem.W.Frag) (ta : TA) : TI := fun σ H R => ta σ H fun vs H1 => ∃ a xs, vs = [.ref a] ∧ SqT K H1 a xs ∧ R (IteT K a) H1
theorem pi_enumT {X : Cx} {e : Expr} {ta : TA} {p pos tpos : Pos} {elts : List Expr} {kk : Nat} (hg : Gl X "enumerate") (hm : X.mg "enumerate" = none) (ha : PA X [e] ta) (hs : starEach [e] X.env = [(false, eval e X.env)] := by rfl) :
    PI X (.Tuple elts kk tpos) (.Call (.Name "enumerate" p) [e] [] pos) (iEnumT X.K ta) := by
  refine ⟨fun pins s σ H R I h => ?_⟩
  refine Call_ (ld_blt I hg hm boot_enumerate (PyProof.Rows.callWith_type1 (thn (ha.run pos pins s σ H _ I h) fun us s1 ⟨vs, H1, I1, r1, q1⟩ => ?_) hs rfl))
  obtain ⟨a, xs, ex, hq, q⟩ := q1
  subst ex
  cases r1 with
  | cons r rr =>
    cases rr
    cases r
    obtain ⟨its, rv, p', hz⟩ := I1.tuple hq
    refine call_enumerate_tuple (show s1.heap.IsTuple a its.toArray from p') fun h' he hit hsz hk => wpAny_pyIter_enum he ?_
    have I2 : Inv X pins σ H1 { s1 with heap := h' } := I1.kept (t' := s1.toks) hk
    refine ⟨s1.heap.objs.size + 1, [s1.heap.objs.size + 1, s1.heap.objs.size], _, _, H1, rfl, I2, turn_enumT a (s1.heap.objs.size + 1) s1.heap.objs.size, ⟨⟨.none, he⟩, hit, Nat.succ_ne_self _⟩, fun b hb => ?_, q⟩
    have e' : b = s1.heap.objs.size + 1 ∨ b = s1.heap.objs.size := by simpa using hb
    have hle : s1.heap.objs.size ≤ b := by
      rcases e' with z | z
      · rw [z]; exact Nat.le_add_right _ _
      · rw [z]; exact Nat.le_refl _
    exact I1.fpOk hle (I1.hok.fresh hle)
theorem walk_enumT {K : PySem.W.Frag} {a : Addr} {xs : List V} : Walk (IteT K a) xs.length (fun H => SqT K H a xs) (YPair (fun i => some (.int (i : Nat))) (fun i => xs[i]?)) := by
  refine ⟨fun i _ hi q => ⟨xs, xs[i], q, by simp [hi]⟩, fun _ q => ⟨xs, q, Nat.le_refl _⟩, fun i H v H' _ q y => ?_⟩
  obtain ⟨T, x, h1, h2, h3, h4⟩ := y
  exact ⟨T, .int (i : Nat), x, h1, h2, h3, rfl, h4 xs q⟩
end MyS

set_option Elab.async false
set_option linter.all false
set_option maxRecDepth 100000
set_option maxHeartbeats 2000000
namespace W
open PySem PySem.Spec PyProof.Rows L2 GxR MyG MyS
/-! ### _common_places -/
abbrev sCommon : Stmt := top 60
theorem fsnoc {α : Type} {p : α → Bool} {l : List α} {i : Nat} {r : α} (e : l[i]? = some r) : (l.take (i + 1)).filter p = (l.take i).filter p ++ (if p r = true then [r] else []) := by
  have et : l.take (i + 1) = l.take i ++ [r] := by rw [List.take_succ, e]; rfl
  rw [et, List.filter_append]
  congr 1
  rw [List.filter_cons]
  rfl
theorem iteC {p : Prop} [Decidable p] {A B : Prop} (h1 : p → A) (h2 : ¬ p → B) : if decide p = true then A else B := by
  by_cases c : p
  · rw [if_pos (decide_eq_true c)]; exact h1 c
  · rw [if_neg (by rw [decide_eq_true_iff]; exact c)]; exact h2 c
abbrev Trip := Str × Str × Int
def TripAt (H : Hp) (t : Trip) (v : V) : Prop := ∃ p, v = .ref p ∧ H p = some (.tup [.str t.1, .str t.2.1, .int t.2.2])
def TripOk (ks ps : List Str) (t : Trip) : Prop := t.1 ∈ ks ∧ t.2.1 ∈ ps ∧ t.1.length ≤ 1000 ∧ t.2.1.length ≤ 1000 ∧ 0 ≤ t.2.2
/-- what the places' arrivals of a trip are -/
def PlF (d : Int) (bs : List (Str × Str)) (rs : List RoadD) (t : Trip) (f : Str → Option Int) : Prop := ∃ es ls, Sol d t.1 bs rs t.2.1 t.2.2 es ∧ PlOk t.2.1 t.2.2 es ls ∧ f = zget ls
def maxL : List Int → Int
  | [] => 0
  | n :: ns => ns.foldl max n
def comP (fs : List (Str → Option Int)) (p : Str) : Option (Str × Int) := if (fs.filterMap fun f => f p).length = fs.length then some (p, maxL (fs.filterMap fun f => f p)) else none
def comL (fs : List (Str → Option Int)) (ps : List Str) : List (Str × Int) := ps.filterMap (comP fs)
def rDictP (K : PySem.W.Frag) : List V → Hp → VK → Prop := fun xs H Q => ∃ (a : Addr) (ps : List Addr) (kvs : List (Key × V)), xs = [.ref a] ∧ SqL K H a (ps.map V.ref) ∧ Paired (fun p kv => SqT K H p [kV kv.1, kv.2]) ps kvs ∧
    ∀ p, H p = none → Q (.ref p) (upd H p (.dK (mergeK [] kvs)))
theorem call_dictK {X : Cx} (hc : X.calm = true) : CallR X (.type "dict") (rDictP X.K) := call_dictP hc
theorem merge_z : ∀ (ls zs : List (Str × Int)), ((zs ++ ls).map (·.1)).Nodup → mergeK (zs.map kvZ) (ls.map kvZ) = (zs ++ ls).map kvZ
  | [], zs, _ => by rw [List.append_nil]; rfl
  | e :: ls, zs, nd => by
    have e1 : putK (zs.map kvZ) (kvZ e).1 (kvZ e).2 = (zs ++ [e]).map kvZ := by
      show putK (zs.map kvZ) (.inr e.1) (.int e.2) = _
      rw [put_z]
      congr 1
      unfold zput
      rw [if_neg]
      intro h
      rw [List.any_eq_true] at h
      obtain ⟨q, hq, eq⟩ := h
      have eq' := of_decide_eq_true eq
      rw [List.map_append, List.map_cons] at nd
      exact (List.nodup_append.mp nd).2.2 _ (List.mem_map.mpr ⟨q, hq, rfl⟩) _ List.mem_cons_self eq'
    show mergeK (putK (zs.map kvZ) (kvZ e).1 (kvZ e).2) (ls.map kvZ) = _
    rw [e1, merge_z ls (zs ++ [e]) (by rw [List.append_assoc]; exact nd), List.append_assoc]
    rfl
theorem pairs_rows {K : PySem.W.Frag} {H : Hp} : ∀ {ls : List (Str × Int)} {ys : List V}, Paired (RowAt H) ls ys → ∃ ps : List Addr, ys = ps.map V.ref ∧ Paired (fun p kv => SqT K H p [kV kv.1, kv.2]) ps (ls.map kvZ)
  | _, _, .nil => ⟨[], rfl, .nil⟩
  | _, _, .cons ⟨p, e, h⟩ r => by
    obtain ⟨ps, e2, q⟩ := pairs_rows (K := K) r
    exact ⟨p :: ps, by rw [e, e2]; rfl, .cons (SqT.of h) q⟩
/-- a dict of a place's arrivals -/
def TabAt (H : Hp) (f : Str → Option Int) (v : V) : Prop := ∃ (D : Addr) (ls : List (Str × Int)), v = .ref D ∧ H D = some (.dK (ls.map kvZ)) ∧ f = zget ls
def spCommon (K : PySem.W.Frag) (M P : Addr) : Sp := fun vs H Q _ => ∃ (x L : Addr) (trips : List Trip) (xs : List V) (d : Int) (ks ps : List Str) (rs : List RoadD) (bs : List (Str × Str)), vs = [.ref x, .ref L] ∧ MIn K H M P x d ks ps rs bs ∧ RsIn ps rs ∧ (∀ r ∈ rs, 1 ≤ r.minutes) ∧ (∀ z ∈ ps, z.length ≤ 1000) ∧ ps.length ≤ 1000 ∧
  H L = some (.lst xs) ∧ Paired (TripAt H) trips xs ∧ (∀ t ∈ trips, TripOk ks ps t) ∧ trips.length ≤ 900 ∧
  ∀ H' R fs ys, Grew P H H' → H R = none → Paired (PlF d bs rs) trips fs → H' R = some (.lst ys) → Paired (RowAt H') (comL fs ps) ys → Q (.ref R) H'
section
variable {Pg : Program} {w : World} {K : PySem.W.Frag} {mg : Str → Option Value} {base : Heap} {C P : Addr}
abbrev nCommon : List Str := ["chart", "trips", "arrivals", "rows", "place", "there", "kind", "start", "moment", "row"]
theorem scCommon : FnScope nCommon ["chart", "trips"] (defScope sCommon) := ⟨rfl, rfl, rfl, by decide +kernel, rfl, by decide +kernel, by decide +kernel⟩
theorem ok_common {f M U fL : Addr} {fd fdL : FuncData} (F : Fun K "_common_places" "_common_places" sCommon f fd) (TM : TxtM K M) (hd : mg "dict" = none) (hl : mg "len" = none) (hmx : mg "max" = none)
    (GL : FnOk Pg w K mg base (L2.CX Pg w) 11 fL fdL ["chart", "kind", "start", "moment"] (spPlaces K M U P)) (gL : mg "places_from" = some (.ref fL)) (kL : PySem.W.keepIn K (.ref fL) = true) (bL : Binds K fdL ["chart", "kind", "start", "moment"] []) :
    FnOk Pg w K mg base (L2.CX Pg w) 12 f fd ["chart", "trips"] (spCommon K M P) := by
  refine F.okX scCommon (fun vs H Q E h => ?_) (fun cdv A outer s H vs Q E hr h => ?_)
  · obtain ⟨x, L, trips, xs, d, ks, ps, rs, bs, rfl, _⟩ := h
    rfl
  · obtain ⟨x, L, trips, xs, d, ks, ps, rs, bs, rfl, hM, hin, hmi, hpl, lps, hL, hT, hok, lt, k⟩ := h
    have hu := u1 hr.units
    refine ⟨_, C8.pss_cut (ps_setLc (i := 2) (own := [("kind", 6), ("start", 7), ("moment", 8)]) (g := gTup K 3 (gCons (gName 6) (gCons (gName 7) (gCons (gName 8) gNil)))) (tt := tYes) rfl scCommon.nd rfl rfl (sw_true rfl rfl rfl (by decide +kernel)) (pi_list (pv 1)) (blkOk_by (N := nCommon) (sc := defScope sCommon) (by decide +kernel)) (fun _ _ _ _ _ => pg_tup rfl (pgs_cons (pg_name (i := 6) scCommon.nd rfl (.inl rfl)) (pgs_cons (pg_name (i := 7) scCommon.nd rfl (.inl rfl)) (pgs_cons (pg_name (i := 8) scCommon.nd rfl (.inl rfl)) pgs_nil))))
        (fun _ _ _ _ _ => pts_nil) (fun _ _ _ _ _ => pe_callTy (T := "dict") (r := rDictP K) (call_dictK rfl) (by rfl) hd (by decide +kernel) (pa_cons (pe_call (E := E0) GL hr (by rfl) gL kL bL .nil (passF rfl rfl) (pa_cons (pv 0) (pa_cons (pv 6) (pa_cons (pv 7) (pa_cons (pv 8) pa_nil))))) pa_nil)))
      (pss_cons (ps_set (i := 3) scCommon.nd rfl (Or.inl rfl) (pe_lst pa_nil))
      (pss_cons (ps_for (passes_of rfl) rfl (pi_tup (pe_fld (pv 0) rfl)) (pg_name (i := 4) scCommon.nd rfl (Or.inr rfl))
        (C8.pss_cut (ps_setLc (i := 5) (own := [("row", 9)]) (g := gName 9) rfl scCommon.nd rfl rfl (sw_true rfl rfl rfl (by decide +kernel)) (pi_list (pv 2)) (blkOk_by (N := nCommon) (sc := defScope sCommon) (by decide +kernel)) (fun _ _ _ _ _ => pg_name (i := 9) scCommon.nd rfl (Or.inl rfl)) (fun _ _ _ _ _ => pts_one (pt_cmp (pc_din hu (pv 4) (pv 9)))) (fun _ _ _ _ _ => pe_dget hu (pv 9) (pv 4) (fun _ _ => rfl)))
        (pss_one (ps_if (pt_cmpR op_eq (pe_callB call_len_seq (by rfl) hl PySem.boot_len (pa_cons (pv 5) pa_nil)) (pe_callB call_len_seq (by rfl) hl PySem.boot_len (pa_cons (pv 1) pa_nil)) (nomark _))
          (pss_one (ps_expr (pe_bm PySem.F.plainAttrs_list PySem.F.slot_list_append PySem.F.type_list_append mt_append (pv 3) (pa_cons (pe_tup (pa_cons (pv 4) (pa_cons (pe_callBK (MyH.cr_maxDef hr.hd (Nat.lt_of_le_of_lt (Nat.add_le_add_left (by decide : 8 ≤ 64) _) hr.units)) (by rfl) hmx (by decide +kernel) (pa_cons (pv 5) pa_nil) (pk_cons pe_int pk_nil)) pa_nil))) pa_nil)))) pss_nil))))
      (pss_one (ps_ret (pv 3))))), ?_⟩
    have hP := hM.t
    have lx := Paired.len hT
    -- the tables
    refine ⟨fun σ H' => ∃ (D : Addr) (acc : List V) (fs : List (Str → Option Int)), σ = [some (.ref x), some (.ref L), some (.ref D), none, none, none, none, none, none, none] ∧ Grew P H H' ∧ H' D = some (.lst acc) ∧ Paired (TabAt H') fs acc ∧ Paired (PlF d bs rs) trips fs, ?_, ?_⟩
    · refine ⟨_, rfl, L, rfl, ⟨_, SqL.of hL⟩, fun D nD => lc_list (K := K) (a := L) (xs := xs) (fun i H' => Grew P H H' ∧ ∃ acc fs, H' D = some (.lst acc) ∧ Paired (TabAt H') fs acc ∧ Paired (PlF d bs rs) (trips.take i) fs)
        ⟨Grew.new hP nD, [], [], upd_same, .nil, .nil⟩ (fun i H' _ h => SqL.of (h.1.lst hP hL)) (fun i v H1 hv h => ?_) (fun H1 h => ?_)⟩
      · obtain ⟨g, acc, fs, hD, hacc, hfs⟩ := h
        obtain ⟨t, ht, tp, rfl, htp⟩ := Paired.at hT hv
        have hil := (List.getElem?_eq_some_iff.mp ht).1
        have htm := List.mem_of_getElem? ht
        obtain ⟨t1, t2, t3, t4, t5⟩ := hok t htm
        refine ⟨tp, _, rfl, SqT.of (g.tup hP htp), rfl, _, _, rfl, _, _, rfl, _, _, rfl, rfl, ?_⟩
        refine ⟨rfl, _, rfl, _, rfl, _, rfl, _, rfl, x, t.1, t.2.1, t.2.2, d, ks, ps, rs, bs, rfl, ⟨hM.grew g, hin, hmi, hpl, t3, t4, t5⟩, lps, .inr (.inr (.inr ⟨t1, fun z hz => by rw [List.mem_singleton.mp hz]; exact t2, fun z hz => absurd hz (by simp), fun H2 p es ls ys g2 np S plok asc hp rows => ?_⟩))⟩
        obtain ⟨pps, rfl, hpr⟩ := pairs_rows (K := K) rows
        refine ⟨p, pps, ls.map kvZ, rfl, SqL.of hp, hpr, fun q nq => ?_⟩
        have em : mergeK [] (ls.map kvZ) = ls.map kvZ := merge_z ls [] plok.1
        rw [em]
        have g3 := Grew.new g2.tab (o := .dK (ls.map kvZ)) nq
        have hD2 := g2.lst g.tab hD
        have hD3 := g3.lst g2.tab hD2
        have la := Paired.len hacc
        have lf := Paired.len hfs
        rw [List.length_take] at lf
        refine ⟨acc, hD3, by rw [sizeLine_eq]; omega, ((g.trans g2).trans g3).write hD3 (fun _ z => by cases z) nD, acc ++ [.ref q], fs ++ [zget ls], upd_same, ?_, ?_⟩
        · have nqD : q ≠ D := fun e => by rw [e, hD2] at nq; cases nq
          refine Paired.snoc (Paired.map' hacc fun f v ⟨D0, l0, a, b, c⟩ => ⟨D0, l0, a, ?_, c⟩) ⟨q, ls, rfl, by rw [upd_ne nqD, upd_same], rfl⟩
          rw [upd_ne (fun e => by rw [e, hD] at b; cases b)]
          exact g3.get g2.tab (g2.get g.tab b (fun _ z => by cases z)) (fun _ z => by cases z)
        · have et : trips.take (i + 1) = trips.take i ++ [t] := by rw [List.take_succ, ht]; rfl
          rw [et]
          exact Paired.snoc hfs ⟨es, ls, S, plok, rfl⟩
      · obtain ⟨g, acc, fs, hD, hacc, hfs⟩ := h
        rw [← lx, List.take_length] at hfs
        exact ⟨D, acc, fs, rfl, g, hD, hacc, hfs⟩
    rintro σ H1 ⟨D, acc, fs, rfl, g1, hD, hacc, hfs⟩
    have la := Paired.len hacc
    have lf := Paired.len hfs
    refine ⟨Nat.zero_le _, fun R nR => ?_⟩
    have gR := Grew.new g1.tab (o := .lst []) nR
    have g2 := g1.trans gR
    have hD2 := gR.lst g1.tab hD
    have hacc2 : Paired (TabAt (L2.upd H1 R (.lst []))) fs acc := Paired.map' hacc fun f v ⟨D0, l0, a, b, c⟩ => ⟨D0, l0, a, gR.get g1.tab b (fun _ z => by cases z), c⟩
    have hR2 : L2.upd H1 R (.lst []) R = some (.lst []) := upd_same
    have nR0 : H R = none := g1.free nR
    have hL2 := g2.lst hP hL
    generalize L2.upd H1 R (.lst []) = H2 at gR g2 hD2 hacc2 hR2 hL2
    obtain ⟨dx, fs7, kk, pp, rr, D0, bb, D2, ys7, zs7, hx, F7⟩ := hM.m
    refine ⟨_, rfl, x, M, dx, fs7, _, rfl, g2.get hP hx (fun _ z => by cases z), TM.cl, TM.n3, F7.f3, pp, rfl, ⟨_, SqT.of (g2.tup hP F7.p)⟩, for_tup (K := K) (a := pp) (xs := ps.map V.str) (fun i σ H' => ∃ (v4 v5 : Option V) (ys : List V), σ = [some (.ref x), some (.ref L), some (.ref D), some (.ref R), v4, v5, none, none, none, none] ∧ Grew P H1 H' ∧ H' R = some (.lst ys) ∧ Paired (RowAt H') (comL fs (ps.take i)) ys)
      ⟨none, none, [], rfl, gR, hR2, .nil⟩ (fun i σ H' _ ⟨_, _, _, _, g, _⟩ => SqT.of ((g1.trans g).tup hP F7.p)) ?_ ?_⟩
    · rintro i v σ H3 hv ⟨v4, v5, ys, rfl, g3, hR3, hys⟩
      obtain ⟨z, hz, rfl⟩ := str_at hv
      have hD3 := g3.lst g1.tab hD
      have hacc3 : Paired (TabAt H3) fs acc := Paired.map' hacc fun f v ⟨D0, l0, a, b, c⟩ => ⟨D0, l0, a, g3.get g1.tab b (fun _ z => by cases z), c⟩
      -- there
      refine ⟨fun σ H' => ∃ (B : Addr), σ = [some (.ref x), some (.ref L), some (.ref D), some (.ref R), some (.str z), some (.ref B), none, none, none, none] ∧ Grew P H3 H' ∧ H3 B = none ∧ H' B = some (.lst ((fs.filterMap fun f => f z).map V.int)), ?_, ?_⟩
      · refine ⟨_, rfl, D, rfl, ⟨_, SqL.of hD3⟩, fun B nB => lc_list (K := K) (a := D) (xs := acc) (fun i H' => Grew P H3 H' ∧ H' B = some (.lst (((fs.take i).filterMap fun f => f z).map V.int)))
          ⟨Grew.new g3.tab nB, upd_same⟩ (fun i H' _ h => SqL.of (h.1.lst g3.tab hD3)) (fun j v H4 hv h => ?_) (fun H4 h => ?_)⟩
        · obtain ⟨g4, hB⟩ := h
          obtain ⟨f, hf, D4, l4, rfl, hD4, rfl⟩ := Paired.at hacc3 hv
          have gD : DGet H4 D4 (.str z) ((zget l4 z).map V.int) := .inl ⟨_, .inr z, .inl (g4.get g3.tab hD4 (fun _ z => by cases z)), rfl, (val_z z l4).symm⟩
          have et : ((fs.take (j + 1)).filterMap fun f => f z) = ((fs.take j).filterMap fun f => f z) ++ (zget l4 z).toList := by
            rw [List.take_succ, hf, List.filterMap_append]
            cases c : zget l4 z <;> simp [c]
          have len := List.length_filterMap_le (fun f : Str → Option Int => f z) (fs.take j)
          rw [List.length_take] at len
          refine ⟨rfl, _, rfl, _, rfl, D4, _, rfl, gD, (zget l4 z).isSome, by rw [Option.isSome_map], ?_⟩
          cases c : zget l4 z with
          | none =>
            rw [c] at et
            refine if_f rfl ⟨g4, by rw [et, hB]; simp⟩
          | some u =>
            rw [c] at et gD
            refine if_t rfl ⟨_, rfl, _, rfl, D4, _, rfl, gD, _, hB, by rw [List.length_map, sizeLine_eq]; omega, g4.write hB (fun _ z => by cases z) nB, ?_⟩
            rw [upd_same, et, List.map_append]
            rfl
        · obtain ⟨g4, hB⟩ := h
          rw [← Paired.len hacc3, List.take_length] at hB
          exact ⟨B, rfl, g4, nB, hB⟩
      rintro σ H4 ⟨B, rfl, g4, nB, hB⟩
      have hL4 := ((g1.trans g3).trans g4).lst hP hL
      have hR4 := g4.lst g3.tab hR3
      have hys4 : Paired (RowAt H4) (comL fs (ps.take i)) ys := Paired.map' hys fun _ _ m => m.keep (fun _ _ e => g4.tup g3.tab e)
      have et : comL fs (ps.take (i + 1)) = comL fs (ps.take i) ++ (comP fs z).toList := by
        unfold comL
        rw [List.take_succ, hz, List.filterMap_append]
        cases c : comP fs z <;> simp [c]
      have len := List.length_filterMap_le (comP fs) (ps.take i)
      rw [List.length_take] at len
      have ly := Paired.len hys
      unfold comL at ly
      refine ⟨_, rfl, B, _, rfl, .inl (SqL.of hB), _, rfl, L, _, rfl, .inl (SqL.of hL4), rfl, _, rfl, ?_⟩
      by_cases c : (fs.filterMap fun f => f z).length = fs.length
      · have cp : comP fs z = some (z, maxL (fs.filterMap fun f => f z)) := if_pos c
        rw [cp] at et
        refine if_t (decide_eq_true (by rw [List.length_map, c, ← lf, lx])) ?_
        have fin : ∀ tp, H4 tp = none → rAppend (.ref R) [.ref tp] (L2.upd H4 tp (.tup [.str z, .int (maxL (fs.filterMap fun f => f z))])) (fun _ H' => ∃ (v4 v5 : Option V) (ys : List V), ([some (.ref x), some (.ref L), some (.ref D), some (.ref R), some (.str z), some (.ref B), none, none, none, none] : L2.St) = [some (.ref x), some (.ref L), some (.ref D), some (.ref R), v4, v5, none, none, none, none] ∧ Grew P H1 H' ∧ H' R = some (.lst ys) ∧ Paired (RowAt H') (comL fs (ps.take (i + 1))) ys) := fun tp ntp => by
          have gt := Grew.new g4.tab (o := .tup [.str z, .int (maxL (fs.filterMap fun f => f z))]) ntp
          have hR5 := gt.lst g4.tab hR4
          have n2 : tp ≠ R := fun e => by rw [e, hR4] at ntp; cases ntp
          refine ⟨R, ys, _, rfl, rfl, hR5, by rw [sizeLine_eq]; omega, _, _, _, rfl, ((g3.trans g4).trans gt).write hR5 (fun _ z => by cases z) nR, upd_same, ?_⟩
          rw [et]
          refine Paired.snoc (Paired.map' hys4 fun e v m => ?_) ⟨tp, rfl, by rw [upd_ne n2, upd_same]⟩
          exact m.keep fun a xs ea => by rw [upd_ne (fun h => by rw [h, hR4] at ea; cases ea), upd_ne (fun h => by rw [h, ntp] at ea; cases ea)]; exact ea
        refine ⟨_, rfl, .inl ⟨rfl, _, SqL.of hR4⟩, _, rfl, _, rfl, B, _, .int 0, rfl, rfl, hB, fun e => ?_, fun n ns' e => ?_⟩
        · have m0 : maxL (fs.filterMap fun f => f z) = 0 := by rw [e]; rfl
          exact ⟨by show 2 ≤ sizeLine; decide, fun tp ntp => by have q := fin tp ntp; rw [m0] at q; exact q⟩
        · have m0 : maxL (fs.filterMap fun f => f z) = ns'.foldl max n := by rw [e]; rfl
          exact ⟨by show 2 ≤ sizeLine; decide, fun tp ntp => by have q := fin tp ntp; rw [m0] at q; exact q⟩
      · have cp : comP fs z = none := if_neg c
        rw [cp] at et
        refine if_f (decide_eq_false fun e => c ?_) ?_
        · injection e with e
          rw [List.length_map] at e
          omega
        · exact ⟨_, _, ys, rfl, g3.trans g4, hR4, by rw [et]; simpa using hys4⟩
    · rintro σ H3 ⟨v4, v5, ys, rfl, g3, hR3, hys⟩
      rw [List.length_map, List.take_length] at hys
      exact ⟨_, rfl, k H3 R fs ys (g1.trans g3) nR0 hfs hR3 hys⟩
end
end W

set_option Elab.async false
set_option linter.all false
set_option maxRecDepth 100000
set_option maxHeartbeats 800000
namespace W
open PySem PySem.Spec PyProof.Rows L2 GxR MyG MyS
/-! ### isinstance of a caught error with fields -/
structure ExcD (K : PySem.W.Frag) (D : Addr) : Prop where
  cl : (PySem.W.clsIn K D).isSome = true
  hg : PySem.W.findIn K (.ref D) "__getattribute__" = some (some (.builtin "BaseException.__getattribute__"))
  hk : PySem.W.findIn K (.ref D) "__getattr__" = some none
  hs : PySem.W.subIn K (.ref D) (.type "BaseException") = some true
  ha : PySem.W.findIn K (.ref D) "__class__" = some (some (.builtin "object.__class__"))
  hn : PySem.W.specialIn K (.builtin "object.__class__") "__get__" = some (some (.builtin "getset_descriptor.__get__"))
  ht : PySem.W.takesIn K (.builtin "object.__class__") = some true
  hm : PySem.W.mroIn K D (.type "object") = some true
def rIsD (K : PySem.W.Frag) (D a : Addr) (cls : Value) (d : Option Addr) : List V → Hp → VK → Prop := fun xs H Q => ∃ (c : V) (cv : Value) (dd : Addr) (fs : List (Str × V)) (b : Bool), xs = [.ref a, c] ∧ cls = .ref D ∧ d = some dd ∧ (∀ u, RelV c u → u = cv) ∧ H dd = some (.xd fs) ∧ PySem.W.kitOne K (.ref D) cv = some b ∧ Q (.bl b) H
theorem call_isD {X : Cx} {a D : Addr} {cls : Value} {d : Option Addr} {oe : Obj} {pn : List (Addr × Obj)} (C : ExcD X.K D) (hz : Zc cls d oe) (hf : ∃ vs, oe.data = .fields vs) : CallR (X.suite a ((a, oe) :: pn)) (.builtin "isinstance") (rIsD X.K D a cls d) := by
  intro pins s σ H xs us Q I r h
  obtain ⟨c, cv, dd, fs, b, rfl, rfl, rfl, hcv, ed, e, q⟩ := h
  obtain ⟨u1, u2, rfl, r1, r2⟩ := vals2 r
  obtain rfl : u1 = Value.ref a := r1
  obtain rfl : u2 = cv := hcv _ r2
  obtain ⟨hget, _⟩ := I.pin (a, oe) (List.mem_append.mpr (.inl List.mem_cons_self))
  obtain ⟨vs, hd⟩ := hf
  have hx : ObjOk X.prog X.w H s.heap dd (.xd fs) := I.hok dd _ ed
  obtain ⟨mA, hns, hr⟩ := hx
  obtain ⟨od, ho, hl⟩ := lookIn_ns hns
  have J : PySem.W.InstAt s.heap a oe D (some od) := ⟨hget, hz.1, by unfold PySem.W.notCls; rw [hd] <;> rfl, by rw [hz.2]; exact ho⟩
  exact PySem.W.kia_one (PySem.W.kitx_exc C.cl C.hg C.hk C.hs C.ha C.hn C.ht C.hm) I.kIn J e (fun z => nomatch z) fun tk => ⟨.bl b, H, I.kept (t' := tk) fun _ _ z => z, rfl, q⟩
/-! ### super().__init__(..) of an own error: the bound __init__ called -/
section
variable {prog : Program} {w : World} {A : Around} {E : Value → Shared → Prop} {h : Heap} {g : Array GenState} {d : Drawn} {t : Nat} {os : OsState}
variable {nm q : Str} {C N : Addr} {bs bm bmB : List Value} {hdct : Bool} {sn : List Str} {sub : List Value} {ab : Bool} {col : Option Bool} {dd : Option Addr} {k0 k1 k2 k3 k5 : Option Value} {newId initId : String} {B : String}
theorem call_mw (FB : ExcBaseFacts B newId initId bmB) {u a t0 : Addr} {rest : List Value} {Q : Value → Shared → Prop} (hu : h.get? u = some (PySem.W.kxs_mw initId a)) (hC : h.get? C = some (excClassObj nm q C N bs bm hdct sn sub ab col dd k0 k1 k2 k3 k5 newId)) (he : h.get? a = some (PySem.HandSPX.excO C t0)) (hz : rest.length ≤ sizeLine)
    (hq : ∀ h' t1, (∀ b o, b ≠ a → h.get? b = some o → h'.get? b = some o) → h'.get? a = some (PySem.HandSPX.excO C t1) → Q .none ⟨h', g, d, t, os⟩) :
    wpAny (model prog w) A (call (.ref u) rest) Q E ⟨h, g, d, t, os⟩ := by
  refine wpAny_call (codeAny_of_tree ?_)
  show wpAny _ A.in1 (callAny (.ref u) ⟨rest, []⟩) _ _ _
  simp only [callAny]
  refine wpAny_bind (wpAny_load hu ?_)
  simp only [PySem.W.kxs_mw, show (Value.type "method-wrapper" == Value.type "method" || Value.type "method-wrapper" == Value.type "builtin_function_or_method" || Value.type "method-wrapper" == Value.type "method-wrapper") = true by decide, if_true]
  refine PySem.W.KFB.if_so (by decide) ?_
  refine wpAny_bind (PySem.W.check_bound_init FB.toExcCallFacts hC he rfl ?_)
  refine wpAny_bind (wpAny_pure (wpAny_pure ?_))
  refine ⟨plainId_quiet FB.init.plain _, codeAny_builtin FB.initEntry ?_⟩
  exact PySem.W.exc_init_tree (cls := .ref C) (t0 := t0) (dv := none) (c2 := .none) (c3 := .none) (b4 := .bool false) he hz fun h' k e1 _ => hq h' _ k e1
end
/-! ### UnknownName.__init__ -/
abbrev sUInit : Stmt := inClass (top 5) 0
def scFake : Scope := { kind := .function, names := [("self", .local), ("name", .local)], isGenerator := false, isCoroutine := false, more := [] }
theorem scFakeOk : FnScope ["self", "name"] ["self", "name"] scFake := ⟨rfl, rfl, rfl, by decide +kernel, rfl, by decide +kernel, by decide +kernel⟩
section
variable {Pg : Program} {w : World} {K : PySem.W.Frag} {mg : Str → Option Value} {base : Heap}
abbrev fdU (dV kV doc pm : Value) (an : Option Addr) (cda : Addr) (ct : Value) (cc : Addr) : FuncData := PySem.W.fnX "__init__" "UnknownName.__init__" (defArgs sUInit) (defBody sUInit) (defScope sUInit) [("__class__", cc)] dV kV doc pm an (.ref cda) ct
theorem ok_uinit {CX : CXT} {f U cc cda : Addr} {oc ccl cl dV kV doc pm ct : Value} {od cdd cld an : Option Addr} {osl ccs csl : Array (Option Value)} {vs : Array Value} {file : Str} {tf : Tok}
    (lk : K.lookup f = some ⟨oc, od, .func (fdU dV kV doc pm an cda ct cc), osl⟩) (hcd : PySem.W.codeIn K (.ref cda) "UnknownName.__init__" = true) (hcode : K.lookup cda = some ⟨ccl, cdd, .fields vs, ccs⟩) (hvs : vs[2]? = some (.str file tf)) (hfile : ((Pg.main.file : Str) == file) = true)
    (hcell : K.lookup cc = some ⟨cl, cld, .cell (some (.ref U)), csl⟩) (hsuper : mg "super" = none) (htop : (Pg.main.scope.names.lookup ("super" : Str)).isSome = false)
    (TU : OexC K U) (hmU : PySem.W.mroIn K U (.ref U) = some true) (hop : PySem.W.nsIn K cStatics "thirdparty.any" = some none) (hsi : PySem.W.ks_superIn K U U "__init__" = some (some (.builtin "ValueError.__init__"))) (hsV : PySem.W.subIn K (.ref U) (.type "ValueError") = some true)
    (hno : PySem.W.findIn K (.ref U) "name" = some none) : FnOk Pg w K mg base CX 1 f (fdU dV kV doc pm an cda ct cc) ["self", "name"] (spUInit K U) := by
  have len : ∀ vs H Q E, spUInit K U vs H Q E → vs.length = 2 := by
    rintro vs H Q E ⟨a, z, rfl, _⟩
    rfl
  refine ⟨len, fun A outer s H args us vs2 Q E hr e0 hb r hsp => ?_⟩
  obtain ⟨a, z, rfl, hz, ea, kq⟩ := hsp
  obtain ⟨u1, u2, rfl, r1, r2⟩ := vals2 r
  obtain rfl : u1 = Value.ref a := r1
  obtain ⟨tk, rfl⟩ := r2
  have KX : K.In s.heap := e0.mod.kin.keeps fun b o e => (e0.bs b o e).1
  have lim : s.heap.NoLimit := e0.mod.nolimit.keeps fun b o e => (e0.bs b o e).1
  obtain ⟨cnm, cq, cN, cbs, cbm, csn, csub, cab, ccol, cdd2, c0, c1, c2, c3, c5, hC, hbm⟩ := TU.cls
  refine PySem.ks_codeAny_call_defAt (body := defBody sUInit) (binds := (["self", "name"] : List Str).zip [Value.ref a, Value.str z tk]) hr.depth (KX _ _ lk) rfl lim (PySem.W.codeRec_of KX hcd) rfl hb (show ∀ x ∈ (defScope sUInit).names, x.2 ≠ .cell by decide +kernel) (by
    intro y hy
    rcases List.mem_cons.mp hy with e | hy
    · subst e; show (defScope sUInit).names.lookup ("self" : Str) = some .local; decide +kernel
    · rw [List.mem_singleton.mp hy]; show (defScope sUInit).names.lookup ("name" : Str) = some .local; decide +kernel) (fun h0 hns hk => ?_) rfl rfl rfl
  have em : (fun x => ((["self", "name"] : List Str).zip [Value.ref a, Value.str z tk]).reverse.lookup x) = bindL (envOfC "UnknownName.__init__" scFake s.heap.objs.size f (.ref cda)).kindOf ((["self", "name"] : List Str).zip [Value.ref a, Value.str z tk]) fun _ => none := by
    funext y
    show ([(("name" : Str), Value.str z tk), ("self", Value.ref a)] : List (Str × Value)).lookup y = if y = "name" then some (Value.str z tk) else if y = "self" then some (Value.ref a) else none
    by_cases h1 : y = ("name" : Str)
    · subst h1; rw [if_pos rfl]; rfl
    · rw [if_neg h1]
      by_cases h2 : y = ("self" : Str)
      · subst h2; rw [if_pos rfl]; rfl
      · rw [if_neg h2]
        simp [List.lookup, h1, h2, beq_eq_false_iff_ne.mpr h1, beq_eq_false_iff_ne.mpr h2]
  have I : Inv (cxOf CX Pg w K mg base ["self", "name"] "UnknownName.__init__" scFake f (.ref cda) A outer s H E) [] (L2.start ["self", "name"] [.ref a, .str z]) H { s with heap := h0, toks := s.toks + 2 } :=
    inv_start scFakeOk hr.hd e0 rfl (.cons rfl (.cons ⟨tk, rfl⟩ .nil)) ⟨⟨⟨h0, s.toks + 2, rfl⟩, by rw [← em]; exact hns, hk, Nat.le_refl _⟩, fun n c e => (by cases e), List.Pairwise.nil, fun n c e => (by cases e)⟩
  refine PySem.ks_wpAt_execs_cons (PySem.ks_wpAt_Expr_any (PySem.ks_wpAt_MethodCall ?_))
  have K0 : K.In h0 := KX.keeps hk
  obtain ⟨t1, ho⟩ := exo_at e0.hok ea
  have ho0 : h0.get? a = some (PySem.HandSPX.excO U t1) := hk a _ ho
  have hcl : PySem.W.clsIn K U = some { name := cnm, bases := cbs, mro := .ref U :: cbm, ns := cN, qualname := cq, hasDict := true, slotNames := csn, subclasses := csub, abstract := cab, collection := ccol, hasDel := false } := by unfold PySem.W.clsIn; rw [hC] <;> rfl
  obtain ⟨mb, hb1, hb2⟩ := e0.mod.blt
  have bk0 : ∀ b o, base.get? b = some o → h0.get? b = some o := fun b o e => hk b o (e0.bs b o e).1
  have m1 : (fun x => ((["self", "name"] : List Str).zip [Value.ref a, Value.str z tk]).reverse.lookup x) "self" = some (Value.ref a) := rfl
  refine PySem.ks_wpAt_super_base (f := f) (fd := fdU dV kV doc pm an cda ct cc) (show (defScope sUInit).names.lookup ("super" : Str) = some .globalImplicit by decide +kernel) (show (defScope sUInit).names.lookup ("__class__" : Str) = some .free by decide +kernel) (by decide) rfl (hk _ _ (KX _ _ lk)) rfl rfl rfl (K0 _ _ hcode) rfl hvs hfile htop ?_
  refine PySem.W.ks_loadName_global rfl (show (defScope sUInit).names.lookup ("super" : Str) = some .globalImplicit by decide +kernel) (Calls.loadGlobal_builtin (e0.mod.glob.keeps bk0) hsuper (hb1.keeps bk0) ((hb2 "super" (by decide)).trans (by decide +kernel)) ⟨rfl, ?_⟩)
  refine wpAny_loadName_free rfl (show (defScope sUInit).names.lookup ("__class__" : Str) = some .free by decide +kernel) rfl ⟨_, K0 _ _ hcell, rfl⟩ ?_
  refine wpAny_loadName_local rfl (show (defScope sUInit).names.lookup ("self" : Str) = some .local by decide +kernel) hns m1 ?_
  refine PySem.ks_wpAny_isType_cls (K0 _ _ hC) rfl ⟨rfl, ?_⟩
  refine PySem.ks_wpAny_call_super (K0 _ _ hC) rfl ho0 rfl (fun c e => by cases e) (PySem.W.looks_mroIn K0 hmU) (fun h1 e1 k1 => ?_)
  have K1 : K.In h1 := K0.keeps k1
  have J1 : PySem.W.InstAt h1 a (PySem.HandSPX.excO U t1) U none := ⟨k1 _ _ ho0, rfl, rfl, trivial⟩
  have hsi' := hsi
  unfold PySem.W.ks_superIn at hsi'
  rw [hcl] at hsi'
  refine PySem.W.kxs_getMethod PySem.W.kxs_ValueError e1 (PySem.W.looks_opaque K1 hop) (l₀ := .ref U :: cbm) (fun A Q E s k q => wpAny_bind ((PySem.W.looks_clsIn K1 hcl) A _ E s k (wpAny_pure q))) rfl K1 hsi' (J1.type.andThen (PySem.W.looks_subIn K1 hsV)) (PySem.W.ks_ne K1 J1 hcl) (by decide) ?_
  have I1 : Inv (cxOf CX Pg w K mg base ["self", "name"] "UnknownName.__init__" scFake f (.ref cda) A outer s H E) [] (L2.start ["self", "name"] [.ref a, .str z]) H ⟨h1.push (PySem.W.kxs_mw "ValueError.__init__" a), s.gens, s.drawn, s.toks + 2 + 1, s.os⟩ :=
    I.kept (t' := s.toks + 2 + 1) fun b o q => Heap.get?_push_of_some _ (k1 b o q)
  have hu1 : (h1.push (PySem.W.kxs_mw "ValueError.__init__" a)).get? h1.objs.size = some (PySem.W.kxs_mw "ValueError.__init__" a) := Heap.get?_push_size _ rfl
  have look : ∀ {x : Str} {v : V} {st : Shared} {σ0 : L2.St} {H0 : Hp} (j : Nat), Inv (cxOf CX Pg w K mg base ["self", "name"] "UnknownName.__init__" scFake f (.ref cda) A outer s H E) [] σ0 H0 st → (["self", "name"] : List Str)[j]? = some x → σ0[j]? = some (some v) → scFake.names.lookup x = some .local → (defScope sUInit).names.lookup x = some .local →
      (x == ("__debug__" : Str)) = false → ∀ (p : Pos) (Q' : Value → Shared → Prop) (E' : Value → Shared → Prop) (A' : Around), (∀ u, RelV v u → Q' u st) → wpAny (model Pg w) A' (eval (.Name x p) (callEnv (fdU dV kV doc pm an cda ct cc) s.heap.objs.size f)) Q' E' st := by
    intro x v st σ0 H0 j J e1 e2 e3 e4 hdb p Q' E' A' hQ
    obtain ⟨m, hn, hm⟩ := J.loc
    obtain ⟨u, ru, lu⟩ := hm j x v e1 e2 (.inl e3)
    have e5 : m x = some u := by
      rcases lu with ⟨_, q⟩ | ⟨q, _⟩
      · exact q
      · have q' : scFake.names.lookup x = some .cell ∨ scFake.names.lookup x = some .free := q
        rw [e3] at q'
        rcases q' with q' | q' <;> cases q'
    exact wpAny_Name (wpAny_loadName_local rfl e4 hn e5 (hQ u ru)) hdb
  refine PySem.W.kxs_callWith (i := "ValueError.__init__") (x := a) (by rfl) (Calls.evalArgs_plain ?_)
  refine PyProof.Rows.args_cons (wpAny_JoinedStr ?_) rfl
  refine Calls.Constant_str ⟨_, _, rfl, (show (Str.empty ++ Str.ofString "unknown name: ").length ≤ sizeLine by decide +kernel), ?_⟩
  have I2 := I1.tok (s.toks + 2 + 1 + 1)
  refine wpAny_FormattedValue_plain (look 1 I2 rfl rfl rfl (by decide +kernel) (by decide) _ _ _ _ fun u ru => ?_)
  obtain ⟨tk2, rfl⟩ := ru
  have hz2 : z.length ≤ sizeLine := by rw [sizeLine_eq]; omega
  have hlen : ((Str.empty ++ Str.ofString "unknown name: ") ++ z).length ≤ sizeLine := by
    rw [PySem.Str.length_append, sizeLine_eq]
    have e : (Str.empty ++ (Str.ofString "unknown name: ")).length ≤ 100 := by decide +kernel
    omega
  have eu : L2.upd H a (exo a U none) = H := by
    funext b
    by_cases hb : b = a
    · rw [hb, upd_same, ea]
    · rw [upd_ne hb]
  have hC1 : (h1.push (PySem.W.kxs_mw "ValueError.__init__" a)).get? U = _ := Heap.get?_push_of_some _ (K1 _ _ hC)
  have he1 : (h1.push (PySem.W.kxs_mw "ValueError.__init__" a)).get? a = some (PySem.HandSPX.excO U t1) := Heap.get?_push_of_some _ (k1 _ _ ho0)
  refine wpAny_formatField_str ?_ ?_ hz2
  all_goals
    refine ⟨z, _, rfl, hlen, hlen, PyProof.Rows.args_nil ⟨hu1, ?_⟩⟩
    refine call_mw PySem.F.excBase_ValueError hu1 hC1 he1 (by show 1 ≤ sizeLine; decide) (fun h5 t5 k5 e5 => ?_)
    have J5 := I1.write (t' := s.toks + 2 + 1 + 1 + 1) (x := a) (e := a) (o := exo a U none) (by rw [ea]; exact True.intro) (.inl rfl) k5 ⟨_, e5⟩ (exo_ok e5)
    rw [eu] at J5
    have J6 := fun tk => J5.tok tk
    refine PySem.ks_wpAt_execs_cons (PySem.ks_wpAt_Assign_Attr (PySem.wpAt_of_wpAny (look 1 (J6 _) rfl rfl rfl (by decide +kernel) (by decide) _ _ _ _ fun u2 r2 => look 0 (J6 _) rfl rfl rfl (by decide +kernel) (by decide) _ _ _ _ fun u3 r3 => ?_)))
    obtain rfl : u3 = Value.ref a := r3
    refine ost_new TU (J6 _) ea hno r2 fun dx s' nd ne J' => ?_
    refine PySem.wpAt_of_wpAny (wpAny_pure ?_)
    exact ⟨.non, _, J'.os, J'.bare, J'.base, J'.hok, rfl, kq dx nd ne⟩
end
end W

set_option Elab.async false
set_option linter.all false
set_option maxRecDepth 100000
set_option maxHeartbeats 800000
namespace MyR
open PySem PySem.Spec PyProof.Rows L2
/-! ### repr of data, where no repr is under way -/
def rRep (K : PySem.W.Frag) : List V → Hp → VK → Prop := fun xs H Q => ∃ (a : Addr) (d : PyData), xs = [.ref a] ∧ Dp K H (.ref a) d ∧ d.showable = true ∧ d.hasDict = false ∧ d.depth ≤ 8 ∧ d.shown.length ≤ sizeLine ∧ Q (.str d.shown) H
theorem call_repD {X : Cx} (hg : X.A.guards = some []) (hu : X.A.units + 64 < cLine) : CallR X (.builtin "repr") (rRep X.K) := by
  intro pins s σ H xs us Q I r h
  obtain ⟨a, d, rfl, hd, hs, hn, hp, hz, q⟩ := h
  obtain ⟨u, rfl, r1⟩ := vals1 r
  obtain rfl : u = Value.ref a := r1
  obtain ⟨as, rd⟩ := Dp.reads I d _ _ hd rfl
  exact repr_of_reads' rd hs (fun e => by rw [hn] at e; cases e) hg (by omega) (fun _ _ e => e) (fun h' u tk k => ⟨.str _, H, I.kept k, ⟨u, rfl⟩, q⟩) hz
end MyR

set_option Elab.async false
set_option linter.all false
set_option maxRecDepth 100000
set_option maxHeartbeats 2000000
namespace MyR
open PySem PySem.Spec PyProof.Rows L2
/-! ### the law's own call: here, and only here, it is known that no repr is under way -/
/-- f called by the caller of the law keeps sp -/
def RunG (P : Program) (w : World) (K : PySem.W.Frag) (mg : Str → Option Value) (base : Heap) (CX : CXT) (f : Addr) (sp : Sp) : Prop :=
  ∀ (s : Shared) (H : Hp) (a : Addr) (Q : VK) (E : XK), Env0 P w K mg base callerA [] s H → sp [.ref a] H Q E → codeAny (model P w) callerA (.call (.ref f) ⟨[.ref a], []⟩) (CR CX [] P w H s Q E) s
section
variable {P : Program} {w : World} {K : PySem.W.Frag} {mg : Str → Option Value} {base : Heap}
theorem runG_of {CX : CXT} {f : Addr} {name qual x : Str} {params : Arguments} {body : List Stmt} {scope : Scope} {dV kV doc pm cdv ct oc : Value} {an od : Option Addr} {osl : Array (Option Value)} {N : List Str} {sp : Sp}
    (lk : K.lookup f = some ⟨oc, od, .func (PySem.W.fnOf name qual params body scope dV kV doc pm an cdv ct), osl⟩) (hcd : PySem.W.codeIn K cdv qual = true) (S : FnScope N [x] scope)
    (hb : ∀ (s : Shared) (u : Value), BindsTo s (PySem.W.fnOf name qual params body scope dV kV doc pm an cdv ct) ⟨[u], []⟩ [(x, u)]) (hr : Room 8 callerA)
    (hbody : ∀ (s : Shared) (H : Hp) (a : Addr) (Q : VK) (E : XK), sp [.ref a] H Q E → ∃ t, PSs (cxOf CX P w K mg base N qual scope f cdv callerA [] s H E) body t ∧ t { nx := fun _ H' => Q .non H', rt := Q } (start N [.ref a]) H) :
    RunG P w K mg base CX f sp := fun s H a Q E e0 hsp => by
  have up : ∀ b o, base.get? b = some o → s.heap.get? b = some o := fun b o e => (e0.bs b o e).1
  have KX : K.In s.heap := e0.mod.kin.keeps up
  have hx : scope.names.lookup x = some .local ∨ (scope.names.lookup x = some .cell ∧ ((cellsFrom (s.heap.objs.size + 1) scope.names []).lookup x).isSome = true) :=
    (S.par x (List.mem_singleton.mpr rfl)).imp id fun q => ⟨q, PySem.W.cellsFrom_some _ _ _ (.inl q)⟩
  refine codeAny_call_function hr.depth (KX _ _ lk) rfl S.co S.gen rfl (PySem.W.codeRec_of KX hcd) (hb s (.ref a) _ _ _ _ ?_)
  refine wpAny_newFunctionEnv_cells S.kind (fun y hy => by rw [List.mem_singleton.mp hy]; exact hx) fun env he s1 st => ?_
  subst he
  refine ⟨(e0.mod.nolimit.keeps up).keeps st.toInCall.keep, codeAny_func ?_⟩
  obtain ⟨t, ht, hq⟩ := hbody s H a Q E hsp
  have I : Inv (cxOf CX P w K mg base N qual scope f cdv callerA [] s H E) [] (start N [.ref a]) H s1 := inv_start S hr.hd e0 rfl (.cons rfl .nil) st
  have out : ∀ {σ2 : L2.St} {H2 : Hp} {s2 : Shared} {v : V} {u : Value}, Inv (cxOf CX P w K mg base N qual scope f cdv callerA [] s H E) [] σ2 H2 s2 → RelV v u → Q v H2 → CE [] P w H s Q u s2 :=
    fun {σ2 H2 s2 v u} J rv q => ⟨v, H2, J.os, J.bare, J.base, J.hok, rv, q⟩
  refine wpAny_mono (ht.run [] s1 _ H _ I hq) (fun fl s2 hs => ?_) fun _ _ z => z
  match fl, hs with
  | .ret u, ⟨v, σ2, H2, J, rv, q⟩ => exact out J rv q
  | .next, ⟨σ2, H2, J, q⟩ => exact out (v := V.non) (u := Value.none) J rfl q
  | .brk, ⟨_, _, _, z⟩ => exact z.elim
  | .cont, ⟨_, _, _, z⟩ => exact z.elim
/-- what is tracked at the top: the one table, and the script where it is not written down -/
def topH (K : PySem.W.Frag) (T a : Addr) (o : Obj) (xs : List V) : Hp := fun b => if b = T then some (.tbl #[]) else if b = a ∧ K.lookup a = none then some (.frz o (.lst xs)) else none
theorem topH_cases {T a b : Addr} {o : Obj} {xs : List V} {u : HO} (h : topH K T a o xs b = some u) : (b = T ∧ u = .tbl #[]) ∨ (b ≠ T ∧ b = a ∧ K.lookup a = none ∧ u = .frz o (.lst xs)) := by
  unfold topH at h
  by_cases h1 : b = T
  · rw [if_pos h1] at h
    exact .inl ⟨h1, (Option.some.inj h).symm⟩
  · rw [if_neg h1] at h
    by_cases h2 : b = a ∧ K.lookup a = none
    · rw [if_pos h2] at h
      exact .inr ⟨h1, h2.1, h2.2, (Option.some.inj h).symm⟩
    · rw [if_neg h2] at h
      cases h
theorem top_call {mb : Str → Option Value} {CX : CXT} {f a c T : Addr} {sp : Sp} {s : Shared} {vs : List Value} {ns : List Int} (KX : K.In s.heap) (G : s.heap.Ns mainGlobals mg) (B : s.heap.Ns builtinsNs mb) (hB : ∀ x : Str, x ≠ "__name__" → mb x = bootBuiltins x) (lim : s.heap.NoLimit) (ng : s.gens = #[])
    (eT : s.heap.get? T = some { cls := .none, data := .fields #[] }) (nT : K.lookup T = none) (C : PySem.W.CodeHd s.heap c T)
    (hbm : ∃ (bm : Addr) (ob : Obj), mg "__builtins__" = some (.ref bm) ∧ bm ≠ builtinsNs ∧ s.heap.get? bm = some ob ∧ ob.cls = .type "module" ∧ ob.dict = some builtinsNs ∧ ob.data = .plain)
    (ea : s.heap.get? a = some { cls := .type "list", data := .seq vs.toArray }) (hi : IntsAre vs ns) (hl : ns.length ≤ sizeLine)
    (R : ∀ base : Heap, K.In base → base.Ns mainGlobals mg → LamX.TabB base mg c T → RunG P w K mg base CX f sp)
    (hsp : ∀ H : Hp, H T = some (.tbl #[]) → SqL K H a (ns.map V.int) → sp [.ref a] H (fun v _ => v = .bl true) fun _ _ _ => False)
    (no : ∀ H e s', CX [] H s (fun _ _ _ => False) e s' → False) :
    codeAny (model P w) callerA (.call (.ref f) ⟨[.ref a], []⟩) (fun r s' => r = .ok (.ret (.bool true)) ∧ OldK s.heap s'.heap ∧ s'.os = s.os ∧ AllBare s'.gens) s := by
  have rv := vals_ints hi
  have nz : a ≠ T := fun z => by
    rw [z, eT] at ea
    cases ea
  obtain ⟨H, eH⟩ : ∃ H, H = topH K T a { cls := .type "list", data := .seq vs.toArray } (ns.map V.int) := ⟨_, rfl⟩
  have tr : ∀ {b : Addr} {u : HO}, H b = some u → _ := fun {b u} h => topH_cases (by rw [eH] at h; exact h)
  have HT : H T = some (.tbl #[]) := by
    rw [eH]
    exact if_pos rfl
  have hS : SqL K H a (ns.map V.int) := by
    cases q : K.lookup a with
    | none => exact .inl (.inr ⟨_, by rw [eH]; exact (if_neg nz).trans (if_pos ⟨rfl, q⟩)⟩)
    | some o =>
      have e := KX a o q
      rw [ea] at e
      cases e
      exact .inr ⟨_, vs.toArray, _, q, rfl, rfl, rfl, by rw [List.size_toArray, hi.length]; exact hl, by simpa using rv⟩
  have ok : HOk P w H s.heap := fun b u h => by
    rcases tr h with ⟨rfl, rfl⟩ | ⟨_, rfl, _, rfl⟩
    · exact eT
    · exact ⟨ea, by rw [List.length_map]; exact hl, vs, _, rv, ea⟩
  have gone : ∀ {b : Addr} {o : Obj}, s.heap.get? b = some o → (∀ xs n, o.data ≠ .seq xs n) → o.data ≠ .fields #[] → H b = none := fun {b o} e d1 d2 => by
    cases h : H b with
    | none => rfl
    | some u =>
      rcases tr h with ⟨rfl, _⟩ | ⟨_, rfl, _, _⟩
      · rw [eT] at e
        cases e
        exact (d2 rfl).elim
      · rw [ea] at e
        cases e
        exact (d1 _ _ rfl).elim
  have toB : ∀ {b : Addr} {m : Str → Option Value}, s.heap.Ns b m → (hidT s.heap H).Ns b m := fun {b m} ⟨o, es, ep, e, d, r⟩ =>
    ⟨o, es, ep, hidT_get e (gone e (fun xs n z => by rw [d] at z; cases z) (fun z => by rw [d] at z; cases z)), d, r⟩
  have KB : K.In (hidT s.heap H) := fun b o e => hidT_get (KX b o e) (by
    cases h : H b with
    | none => rfl
    | some u =>
      rcases tr h with ⟨rfl, _⟩ | ⟨_, rfl, k, _⟩
      · rw [nT] at e; cases e
      · rw [k] at e; cases e)
  have TB : LamX.TabB (hidT s.heap H) mg c T := by
    refine ⟨?_, ?_, fun z => ?_⟩
    · obtain ⟨o, us, file, tf, flags, tg, inF, text, tt, e1, r1, r2, r3, r⟩ := C
      exact ⟨o, us, file, tf, flags, tg, inF, text, tt, hidT_get e1 (gone e1 (fun xs n z => by rw [r2] at z; cases z) (fun z => by rw [r2] at z; cases z; simp at r3)), r1, r2, r3, r⟩
    · obtain ⟨bm, ob, b1, b2, b3, b4, b5, b6⟩ := hbm
      refine ⟨bm, ob, b1, b2, fun z => ?_, fun z => ?_, hidT_get b3 (gone b3 (fun xs n z => by rw [b6] at z; cases z) (fun z => by rw [b6] at z; cases z)), b4, b5, b6⟩
      · obtain ⟨o, es, ep, e, d, _⟩ := G
        rw [z, e] at b3
        cases b3
        rw [d] at b6
        cases b6
      · rw [z, eT] at b3
        cases b3
        cases b6
    · obtain ⟨o, es, ep, e, d, _⟩ := G
      rw [z, eT] at e
      cases e
      cases d
  have e0 : Env0 P w K mg (hidT s.heap H) callerA [] s H :=
    ⟨rfl, ⟨KB, toB G, ⟨mb, toB B, hB⟩, let ⟨mc, h1, h2⟩ := lim; ⟨mc, toB h1, h2⟩⟩, fun b o e => of_hidT e, Nat.le_of_eq (hidT_size _ _), trivial, fun b hb => absurd (show b ∈ ([] : List Addr) from hb) (by simp), ok, .of_eq ng⟩
  refine codeAny_mono (R _ KB (toB G) TB s H a _ _ e0 (hsp H HT hS)) fun r s' h => ?_
  match r, h with
  | .error e, h => exact (no H e s' h).elim
  | .ok .next, h => exact False.elim h
  | .ok .brk, h => exact False.elim h
  | .ok .cont, h => exact False.elim h
  | .ok (.ret u), ⟨v, H', os, bare, un, ok', r', q⟩ =>
    obtain rfl : v = .bl true := q
    obtain rfl : u = Value.bool true := r'
    obtain ⟨more, hm⟩ : ∃ more : Array Value, s'.heap.get? T = some { cls := .none, data := .fields more } := by
      obtain ⟨more, z⟩ := un.tbls T #[] HT
      exact ⟨_, ok' T _ z⟩
    have old : ∀ b o, b ≠ T → s.heap.get? b = some o → s'.heap.get? b = some o := fun b o ne e => by
      cases h : H b with
      | none => exact un.keep b o e h (fun z => absurd (show b ∈ ([] : List Addr) from z) (by simp)) (by simp)
      | some u =>
        rcases tr h with ⟨z, _⟩ | ⟨_, rfl, _, rfl⟩
        · exact absurd z ne
        · obtain ⟨e2, _⟩ := ok' b _ (un.frzs b _ _ h)
          rw [ea] at e
          cases e
          exact e2
    refine ⟨rfl, ⟨fun b o e => ?_, fun b o e => ?_⟩, os, bare⟩
    · by_cases hb : b = T
      · subst hb
        rw [eT] at e
        cases e
        exact .inr (.inl ⟨(C.tab eT).isCodeTable, rfl, #[], more, rfl, by rw [Array.empty_append]; exact hm⟩)
      · exact .inl (old b o hb e)
    · by_cases hb : b = T
      · rw [hb]
        exact ⟨_, hm⟩
      · exact ⟨o, old b o hb e⟩
end

/-- what the law's end asks: the table T of the code object c, and the promise sp -/
def LawG (l : PySem.W.OpenLaw) (w : World) (K : PySem.W.Frag) (CX : CXT) (n : Nat) (mg : Str → Option Value) (fa : Addr) (h : Heap) : Prop :=
  ∃ (c T : Addr) (sp : Sp), h.get? T = some { cls := .none, data := .fields #[] } ∧ K.lookup T = none ∧ PySem.W.CodeHd h c T ∧
    (∀ (H : Hp) (a : Addr) (ns : List Int), ns.length ≤ n → H T = some (.tbl #[]) → SqL K H a (ns.map V.int) → sp [.ref a] H (fun v _ => v = .bl true) fun _ _ _ => False) ∧
    ∀ base : Heap, K.In base → base.Ns mainGlobals mg → LamX.TabB base mg c T → RunG l.prog w K mg base CX fa sp
theorem walk_ofG {l : PySem.W.OpenLaw} {n : Nat} {q : Program} {loose : List Str} {XP : (Str → Option Value) → Heap → Prop} {YP : World → Heap → Prop} {d : DefRec} {K : Params → PySem.W.Frag} {CX : World → CXT} (names : List Str)
    (hn : l.most = some n) (hn2 : n ≤ sizeLine) (hdf : d.params.defaults = []) (hrec : names.all (fun y => (recsOf q).any fun e => e.name == y) = true) (hY : ∀ (w : World) (h : Heap), YP w h → (K w.params).In h)
    (F : ∀ (w : World) (mg : Str → Option Value) (fa : Addr) (h : Heap), YP w h → (K w.params).In h → h.Ns mainGlobals mg → mg d.name = some (.ref fa) → (∀ y ∈ names, ∀ f, mg y = some (.ref f) → LamX.OwnTab (K w.params) f h) → LawG l w (K w.params) (CX w) n mg fa h)
    (no : ∀ (w : World) (H : Hp) (s : Shared) (e : Value) (s' : Shared), CX w [] H s (fun _ _ _ => False) e s' → False) :
    PySem.W.WalkO q loose XP YP l.row.toRowW d [] (fun f vs => PySem.call f vs) := by
  refine Att.attach_callB hn hdf fun w s₀ s₁ mg mb fa o pm cd doc a vs ns G Y ho hd hcd hmg hobj hints hlen hbits hg => ?_
  have KX := hY w _ Y
  obtain ⟨c, T, sp, eT, nT, C, hsp, R⟩ := F w mg fa _ Y KX G.T.g hmg (fun y hy f hf c P o1 fd1 e dd vs1 sl k1 k2 k3 k4 k5 => by
    obtain ⟨dL, hm, hn1⟩ := List.any_eq_true.mp (List.all_eq_true.mp hrec y hy)
    obtain ⟨a', o', fd', c', P', h1, h2, h3, h4, h5, h6⟩ := G.T.tab dL hm
    rw [beq_iff_eq.mp hn1, hf] at h1
    cases h1
    have g1 := KX _ _ k1
    rw [g1] at h2
    cases h2
    rw [k2] at h3
    cases h3
    rw [k3] at h4
    cases h4
    obtain ⟨⟨oc, vc, e1, _, e3, e4⟩, hP⟩ := h6
    have g2 := KX _ _ k4
    rw [g2] at e1
    cases e1
    cases e3
    rw [k5] at e4
    cases e4
    exact hP)
  exact top_call KX G.T.g G.T.b G.T.builtins G.T.nolimit hg eT nT C G.T.bmain hobj hints (Nat.le_trans hlen hn2) R (fun H hH hS => hsp H a ns hlen hH hS) fun H e s' => no w H s₁ e s'
end MyR

set_option Elab.async false
set_option linter.all false
set_option maxRecDepth 100000
set_option maxHeartbeats 1000000
namespace MyR
open PySem PySem.Spec PyProof.Rows L2
/-! ### try: .. except A as n: .. except B as n: .. -/
/-- the ends of a clause's suite: n is gone behind it -/
def offS (i : Nat) (D : Ends) : Ends := { nx := fun σ H => D.nx (σ.set i none) H, rt := D.rt, bk := fun σ H => D.bk (σ.set i none) H, ct := fun σ H => D.ct (σ.set i none) H }
abbrev Suite := Addr → Value → Option Addr → TS
def wAll (K : PySem.W.Frag) (i : Nat) (Wout : WX) (D : Ends) : List (Value × Suite) → WX
  | [] => Wout
  | p :: l => fun cls d σ H => ∃ b, PySem.W.exmOne K cls p.1 = some b ∧ (b = true → ∀ a, H a = none → p.2 a cls d (offS i D) (σ.set i (some (.ref a))) H) ∧ (b = false → wAll K i Wout D l cls d σ H)
inductive Clauses (X : Cx) (n : Str) : List ExceptHandler → List (Value × Suite) → Prop
  | nil : Clauses X n [] []
  | cons {x : Str} {c : Value} {ts : Suite} {s0 : Stmt} {ss : List Stmt} {p1 p2 : Pos} {hs : List ExceptHandler} {l : List (Value × Suite)} (hc : Names X x c)
      (run : ∀ (a : Addr) (o : Obj) (cls : Value) (d : Option Addr) (pn : List (Addr × Obj)), Zc cls d o → (∃ vs, o.data = .fields vs) → PSs (X.suite a ((a, o) :: pn)) (s0 :: ss) (ts a cls d)) (r : Clauses X n hs l) :
      Clauses X n (.ExceptHandler (some (.Name x p1)) (some n) (s0 :: ss) p2 :: hs) ((c, ts) :: l)
section
variable {X : Cx} {n : Str} {i : Nat} {body : List Stmt} {h0 : ExceptHandler} {hs : List ExceptHandler} {l : List (Value × Suite)} {pos : Pos} {tb : WX → TS} {Wout : WX}
theorem ps_try_all (st : X.stack = X.env :: X.outer) (fr : X.env.frame = some X.env.locals) (nd : X.N.Nodup) (at_ : X.N[i]? = some n) (loc : X.env.kindOf n = some .local) (tk : Takes X Wout)
    (hb : ∀ (W : WX) (pn : List (Addr × Obj)) (xe : Value → Shared → Prop), Takes (X.tr pn xe) W → PassesOwn (model X.prog X.w) X.A X.env xe → PSs (X.tr pn xe) body (tb W)) (hh : Clauses X n (h0 :: hs) l) :
    PS X (.Try body (h0 :: hs) [] [] pos) (fun D σ H => tb (wAll X.K i Wout D l) D σ H) := by
  refine ⟨fun pins s σ H D I h => wpAny_Try_except ?_⟩
  have ok := I.ok
  have af : X.A.frames = some (X.env :: X.outer) := by rw [ok.frames, st]
  -- what the catch does with an exception
  obtain ⟨catch_, ec⟩ : ∃ c : Value → Shared → Prop, c = fun e z => wpAny (model X.prog X.w) X.A (noteFrame e X.env) (fun _ z2 => wpAny (model X.prog X.w) X.A (setFlight e none) (fun _ z3 =>
    wpAny (model X.prog X.w) X.A (handleBy e X.env (h0 :: hs)) (SP X pins D) X.xe z3) X.xe z2) X.xe z := ⟨_, rfl⟩
  have T : Takes (X.tr (X.pn ++ pins) catch_) (wAll X.K i Wout D l) := fun u z thrown => by
    obtain ⟨a, B, zI, pins', σ', H', cls, d, rfl, J0, nb, up, sky0, na, os, ag, wish⟩ := thrown
    have J : Inv X pins σ' H' zI := J0.ofTry ok
    have sky : Sky B (X.env :: X.outer) a (Zc cls d) X.env.locals z.heap := by rw [← st]; exact sky0
    rw [ec]
    refine Sky.land Zc.steady af fr sky fun k1 fl1 up1 => ?_
    have J1 : Inv X pins σ' H' { z with heap := k1 } := J.landed nb fl1.1 (up.trans up1) os ag
    obtain ⟨o1, vs1, g1, z1, d1⟩ := fl1.there
    have out : a ∉ frs (X.env :: X.outer) := fun hm => by
      obtain ⟨_, o', e', hnf⟩ := fl1.2.2.1.mem hm
      rw [g1] at e'
      cases e'
      exact hnf _ d1
    have neL : a ≠ X.env.locals := fun e => out (List.mem_filterMap.mpr ⟨X.env, List.mem_cons_self, by rw [fr, e]⟩)
    have neF : a ∉ X.fs := fun hm => by
      obtain ⟨e, he, q⟩ := List.mem_filterMap.mp hm
      exact out (List.mem_filterMap.mpr ⟨e, List.mem_cons_of_mem _ he, q⟩)
    have S1 := J1.suite g1 d1 na neL neF
    suffices go : ∀ {hs' : List ExceptHandler} {l' : List (Value × Suite)}, Clauses X n hs' l' → wAll X.K i Wout D l' cls d σ' H' → wpAny (model X.prog X.w) X.A (handleBy (.ref a) X.env hs') (SP X pins D) X.xe { z with heap := k1 } from go hh wish
    intro hs' l' hk
    induction hk with
    | nil =>
      intro wo
      refine wpAny_handleBy_nil ?_
      obtain ⟨_, _, _, o2, vs2, T2, oT2, ts2, g2, z2, d2, f2, _⟩ := id fl1
      unfold PySem.passOn
      refine wpAny_bind (wpAny_field g2 d2 f2 ?_)
      rw [if_neg (show ¬ ((Value.ref T2 == Value.none) = true) from by simp)]
      have last : wpAny (model X.prog X.w) X.A (setFlight (.ref a) X.env.frame) (fun _ z4 => wpAny (model X.prog X.w) X.A (throw (.ref a) : Sem Flow) (SP X pins D) X.xe z4) X.xe { z with heap := k1 } := by
        rw [fr]
        exact HandSPX.setFlight_upZ fl1 fun k2 sky2 up2 => wpAny_throw (tk _ _ ⟨a, B, zI, pins, σ', H', cls, d, rfl, J, nb, (up.trans up1).trans up2, .inr (.inr (by rw [st]; exact sky2)), na, os, ag, wo⟩)
      first
        | exact wpAny_bind (wpAny_pure (wpAny_bind last))
        | exact wpAny_bind last
    | @cons x c ts s0 ss p1 p2 hs2 l2 hc run r ih =>
      rintro ⟨b, eb, yes, no⟩
      refine wpAny_handleBy_cons (codeAny_handlers_test ?_) (by intro q; cases q)
      have fits := PySem.W.exm_one (M := model X.prog X.w) J1.kIn (fun A Q E z k q => wpAny_typeOf_ref (k _ _ g1) (by rw [z1.1]; exact q)) eb
      have named : ∀ {Q E : Value → Shared → Prop}, Q c { z with heap := k1 } → wpAny (model X.prog X.w) (X.A.mark (some (.ref a))) (eval (.Name x p1) X.env) Q E { z with heap := k1 } := fun {Q E} q => by
        obtain ⟨gl, db, m | ⟨m, v, nn⟩⟩ := hc
        · exact ld_glob (X := X.suite a ((a, o1) :: (X.pn ++ pins))) S1 gl m q db
        · exact ld_blt (X := X.suite a ((a, o1) :: (X.pn ++ pins))) S1 gl m v q nn db
      refine named (fits.here ?_)
      cases b with
      | false => exact ih (no rfl)
      | true =>
        refine codeAny_handlers_suite_as (HandSPX.lands_againZ fl1 fun k2 fl2 up2 => ?_)
        have J2 : Inv X pins σ' H' { z with heap := k2 } := J.landed nb fl2.1 ((up.trans up1).trans up2) os ag
        obtain ⟨o2, vs2, g2, z2, d2⟩ := fl2.there
        refine store_ok (X := X.suite a ((a, o2) :: (X.pn ++ pins))) (v := .ref a) (J2.suite g2 d2 na neL neF) nd at_ (.inl loc) rfl (fun z5 S5 => ?_) (.inr loc)
        refine wpAny_mono ((run a o2 cls d (X.pn ++ pins) z2 ⟨_, d2⟩).run [] z5 _ H' _ S5 (yes rfl a na)) (fun fl z6 hs6 => ?_) (fun _ _ q => False.elim q)
        have bare : ∀ {σ6 : L2.St} {H6 : Hp} {R : Shared → Prop}, Inv (X.suite a ((a, o2) :: (X.pn ++ pins))) [] σ6 H6 z6 → (∀ z7, Inv X pins (σ6.set i none) H6 z7 → R z7) →
          wpAny (model X.prog X.w) X.A (do bindName X.env n .none; unbindBehindTheSuite X.env n p2) (fun _ z7 => R z7) X.xe z6 := fun {σ6 H6 R} S6 q => gone_ok (S6.unsuite ok) nd at_ loc q
        match fl, hs6 with
        | .next, ⟨_, _, S6, q⟩ => exact bare S6 fun _ J7 => ⟨_, _, J7, q⟩
        | .brk, ⟨_, _, S6, q⟩ => exact bare S6 fun _ J7 => ⟨_, _, J7, q⟩
        | .cont, ⟨_, _, S6, q⟩ => exact bare S6 fun _ J7 => ⟨_, _, J7, q⟩
        | .ret u, ⟨_, _, _, S6, rv, q⟩ => exact bare S6 fun _ J7 => ⟨_, _, _, J7, rv, q⟩
  have P : PassesOwn (model X.prog X.w) X.A X.env catch_ := by
    rw [ec]
    exact PassesOwn.looking
  refine wpAny_mono (((hb _ (X.pn ++ pins) catch_ T P).run [] s σ H D (I.toTry _) h)) (fun fl z hsp => ?_) (fun e z he => by
    have he' : catch_ e z := he
    rw [ec] at he'
    exact he')
  match fl, hsp with
  | .next, ⟨_, _, J, q⟩ => exact wpAny_execs_nil ⟨_, _, J.ofTry ok, q⟩
  | .brk, ⟨_, _, J, q⟩ => exact ⟨_, _, J.ofTry ok, q⟩
  | .cont, ⟨_, _, J, q⟩ => exact ⟨_, _, J.ofTry ok, q⟩
  | .ret u, ⟨_, _, _, J, rv, q⟩ => exact ⟨_, _, _, J.ofTry ok, rv, q⟩
end
end MyR

set_option Elab.async false
set_option linter.all false
set_option maxRecDepth 100000
set_option maxHeartbeats 800000
namespace W
open PySem PySem.Spec PyProof.Rows L2 GxR MyG MyS MyR
/-! ### _law_is_integer, _law_soon -/
abbrev sSoon : Stmt := top 70
abbrev sLRoad : Stmt := top 71
abbrev sLMay : Stmt := top 72
abbrev sLTrip : Stmt := top 75
abbrev sLaw : Stmt := top 78
theorem enter_is {d t : Int} {hs : Option (List (Int × Int))} (h : hs ≠ some []) : ∃ e, enterD d hs t = some e := by
  cases hs with
  | none => exact ⟨_, rfl⟩
  | some ps =>
    cases ps with
    | nil => exact absurd rfl h
    | cons q ps =>
      show ∃ e, (match enterF (t % d) (q :: ps) with | some v => some (t - t % d + v) | none => some (t - t % d + d + q.1)) = some e
      cases enterF (t % d) (q :: ps) with
      | none => exact ⟨_, rfl⟩
      | some v => exact ⟨_, rfl⟩
theorem enter_ge {d t e : Int} {hs : Option (List (Int × Int))} (hd : 1 ≤ d) (ok : HoursOk d hs) (h : enterD d hs t = some e) : t ≤ e := by
  cases hs with
  | none =>
    cases h
    exact Int.le_refl _
  | some ps =>
    have q := enterD_first (t := t) hd ok.2
    rw [h] at q
    obtain ⟨k, k0, _, ek, _⟩ := q
    omega
def spIsInt : Sp := fun vs H Q _ => ∃ i : Int, vs = [.int i] ∧ Q (.bl true) H
def spLWhen (K : PySem.W.Frag) (f : Int → Option (List (Int × Int)) → Int → Option Int) : Sp := fun vs H Q _ => ∃ (d t : Int) (hs : Option (List (Int × Int))) (hv : V), vs = [.int d, hv, .int t] ∧ 1 ≤ d ∧ d ≤ 1440 ∧ 0 ≤ t ∧ GHours K H hs hv ∧ HoursOk d hs ∧ Q (optV (f d hs t)) H
def candF (d t : Int) (p : Int × Int) : Int := if p.2 ≤ t % d then t + d - t % d + p.1 else t + (if p.1 - t % d > 0 then p.1 - t % d else 0)
def Best (f : Int × Int → Int) (l : List (Int × Int)) : Option Int → Prop
  | none => l = []
  | some b => (∃ p ∈ l, f p = b) ∧ ∀ p ∈ l, b ≤ f p
theorem enterF_mem {m w : Int} : ∀ {ps : List (Int × Int)}, enterF m ps = some w → ∃ p ∈ ps, m < p.2 ∧ w = if p.1 > m then p.1 else m
  | [], h => by cases h
  | p :: ps, h => by
    unfold enterF at h
    by_cases c : m < p.2
    · rw [if_pos c] at h
      exact ⟨p, List.mem_cons_self, c, (Option.some.inj h).symm⟩
    · rw [if_neg c] at h
      obtain ⟨q, hq, r⟩ := enterF_mem h
      exact ⟨q, List.mem_cons_of_mem _ hq, r⟩
theorem enterF_shut {m : Int} : ∀ {ps : List (Int × Int)}, enterF m ps = none → ∀ p ∈ ps, p.2 ≤ m
  | [], _, p, hp => by cases hp
  | q :: ps, h, p, hp => by
    unfold enterF at h
    by_cases c : m < q.2
    · rw [if_pos c] at h
      cases h
    · rw [if_neg c] at h
      rcases List.mem_cons.mp hp with e | hp
      · rw [e]; omega
      · exact enterF_shut h p hp
theorem hours_in {d : Int} : ∀ {ps : List (Int × Int)} {c : Int}, hoursOk d c ps → ∀ p ∈ ps, c < p.1 ∧ p.1 < p.2 ∧ p.2 ≤ d
  | [], _, _, p, hp => by cases hp
  | q :: ps, c, h, p, hp => by
    obtain ⟨h1, h2, h3, h4⟩ := h
    rcases List.mem_cons.mp hp with e | hp
    · rw [e]; exact ⟨h1, h2, h3⟩
    · obtain ⟨a, b, e⟩ := hours_in h4 p hp
      exact ⟨by omega, b, e⟩
theorem open_of {ps : List (Int × Int)} {p : Int × Int} {m : Int} (h : p ∈ ps) (h1 : p.1 ≤ m) (h2 : m < p.2) : openB ps m = true := List.any_eq_true.mpr ⟨p, h, open_one h1 h2⟩
theorem soon_end {d t : Int} {ps : List (Int × Int)} {b : Option Int} (hd : 1 ≤ d) (ok : hoursOk d (-1) ps) (h : Best (candF d t) ps b) : b = enterD d (some ps) t := by
  have m0 : 0 ≤ t % d := Int.emod_nonneg _ (by omega)
  have m1 : t % d < d := Int.emod_lt_of_pos _ (by omega)
  cases ps with
  | nil =>
    cases b with
    | none => rfl
    | some v =>
      obtain ⟨⟨p, hp, _⟩, _⟩ := h
      cases hp
  | cons q l =>
    cases b with
    | none => cases h
    | some v =>
      obtain ⟨⟨p, hp, ep⟩, hmin⟩ := h
      obtain ⟨E, eE⟩ := enter_is (d := d) (t := t) (hs := some (q :: l)) (by simp)
      rw [eE]
      have fo := enterD_first (t := t) hd ok
      rw [eE] at fo
      obtain ⟨k, k0, k1, ek, _, shut⟩ := fo
      have lo : ∀ p ∈ q :: l, E ≤ candF d t p := fun p hp => by
        obtain ⟨a, b, c⟩ := hours_in ok p hp
        refine Int.not_lt.mp fun lt => ?_
        by_cases cm : p.2 ≤ t % d
        · have e : candF d t p = t + (d - t % d + p.1) := by unfold candF; rw [if_pos cm]; omega
          have s := shut (d - t % d + p.1) (by omega) (by omega)
          rw [show t + (d - t % d + p.1) = t - t % d + (d + p.1) by omega, mod_baseU hd (by omega) (by omega)] at s
          rw [open_of hp (by omega) (by omega)] at s
          cases s
        · by_cases cp : p.1 - t % d > 0
          · have e : candF d t p = t + (p.1 - t % d) := by unfold candF; rw [if_neg cm, if_pos cp]
            have s := shut (p.1 - t % d) (by omega) (by omega)
            rw [show t + (p.1 - t % d) = t - t % d + p.1 by omega, mod_base hd (by omega) (by omega)] at s
            rw [open_of hp (by omega) (by omega)] at s
            cases s
          · have e : candF d t p = t + 0 := by unfold candF; rw [if_neg cm, if_neg cp]
            have s := shut 0 (Int.le_refl _) (by omega)
            rw [Int.add_zero, open_of hp (by omega) (by omega)] at s
            cases s
      have hit : ∃ p ∈ q :: l, candF d t p = E := by
        have e2 : (match enterF (t % d) (q :: l) with | some v => some (t - t % d + v) | none => some (t - t % d + d + q.1)) = some E := eE
        cases c : enterF (t % d) (q :: l) with
        | some w =>
          rw [c] at e2
          obtain ⟨p, hp, lt, ew⟩ := enterF_mem c
          refine ⟨p, hp, ?_⟩
          have e3 : t - t % d + w = E := Option.some.inj e2
          unfold candF
          rw [if_neg (by omega), ← e3, ew]
          by_cases cp : p.1 > t % d
          · rw [if_pos cp, if_pos (by omega)]; omega
          · rw [if_neg cp, if_neg (by omega)]; omega
        | none =>
          rw [c] at e2
          have e3 : t - t % d + d + q.1 = E := Option.some.inj e2
          refine ⟨q, List.mem_cons_self, ?_⟩
          unfold candF
          rw [if_pos (enterF_shut c q List.mem_cons_self)]
          omega
      obtain ⟨p', hp', ep'⟩ := hit
      have a := hmin p' hp'
      have b := lo p hp
      congr 1
      omega
def bestN (f : Int × Int → Int) (p : Int × Int) : Option Int → Option Int
  | none => some (f p)
  | some v => if f p < v then some (f p) else some v
theorem best_step {f : Int × Int → Int} {ps : List (Int × Int)} {i : Nat} {p : Int × Int} {b : Option Int} (e : ps[i]? = some p) (h : Best f (ps.take i) b) :
    Best f (ps.take (i + 1)) (bestN f p b) := by
  have et : ps.take (i + 1) = ps.take i ++ [p] := by rw [List.take_succ, e]; rfl
  rw [et]
  cases b with
  | none =>
    have h' : ps.take i = [] := h
    rw [h']
    exact ⟨⟨p, by simp, rfl⟩, fun q hq => by
      obtain rfl : q = p := by simpa using hq
      exact Int.le_refl _⟩
  | some v =>
    obtain ⟨⟨q, hq, eq⟩, hm⟩ := h
    show Best f _ (if f p < v then some (f p) else some v)
    by_cases c : f p < v
    · rw [if_pos c]
      refine ⟨⟨p, by simp, rfl⟩, fun z hz => ?_⟩
      rcases List.mem_append.mp hz with hz | hz
      · have := hm z hz; omega
      · rw [List.mem_singleton.mp hz]; exact Int.le_refl _
    · rw [if_neg c]
      refine ⟨⟨q, List.mem_append_left _ hq, eq⟩, fun z hz => ?_⟩
      rcases List.mem_append.mp hz with hz | hz
      · exact hm z hz
      · rw [List.mem_singleton.mp hz]; omega
section
variable {Pg : Program} {w : World} {K : PySem.W.Frag} {mg : Str → Option Value} {base : Heap} {C P : Addr}
abbrev nSoon : List Str := ["day", "hours", "moment", "minute", "best", "opened", "closed", "entered"]
theorem scSoon : FnScope nSoon ["day", "hours", "moment"] (defScope sSoon) := ⟨rfl, rfl, rfl, by decide +kernel, rfl, by decide +kernel, by decide +kernel⟩
theorem ok_soon {f : Addr} {fd : FuncData} (F : Fun K "_law_soon" "_law_soon" sSoon f fd) (hi : mg "int" = none) (hm : mg "max" = none) : FnOk Pg w K mg base CX0 1 f fd ["day", "hours", "moment"] (spLWhen K enterD) := by
  refine F.ok scSoon (fun vs H Q E h => ?_) (fun cdv A outer s H vs Q E hr h => ?_)
  · obtain ⟨d, t, hs, hv, rfl, _⟩ := h
    rfl
  · obtain ⟨d, t, hs, hv, rfl, hd1, hd2, ht, hH, ok, k⟩ := h
    refine ⟨_, pss_cons (ps_if (pt_cmp (pc_isN (pv 1))) (pss_one (ps_ret (pv 2))) pss_nil)
      (pss_cons (ps_set (i := 3) scSoon.nd rfl (Or.inl rfl) (pe_op op_mod (pe_callTy call_int1 (by rfl) hi (by decide +kernel) (pa_cons (pv 2) pa_nil)) (pv 0)))
      (pss_cons (ps_set (i := 4) scSoon.nd rfl (Or.inl rfl) pe_non)
      (pss_cons (ps_for PassesOwn.never rfl (pi_tup (pv 1)) (pg_tup (by rfl) (pgs_cons (pg_name (i := 5) scSoon.nd rfl (.inl rfl)) (pgs_cons (pg_name (i := 6) scSoon.nd rfl (.inl rfl)) pgs_nil)))
        (pss_cons (ps_set (i := 7) scSoon.nd rfl (Or.inl rfl) (pe_op op_add (pv 2) (pe_callB (call_max2 rfl) (by rfl) hm (by decide +kernel) (pa_cons pe_int (pa_cons (pe_op op_sub (pv 5) (pv 3)) pa_nil)))))
        (C8.pss_cut (ps_if (pt_cmpR op_ge (pv 3) (pv 6) (nomark _)) (pss_one (ps_set (i := 7) scSoon.nd rfl (Or.inl rfl) (pe_op op_add (pe_op op_sub (pe_op op_add (pv 2) (pv 0)) (pv 3)) (pv 5)))) pss_nil)
        (pss_one (ps_if (PW.pt (pw_or (pt_cmp (pc_isN (pv 4))) (pw_or1 (pt_cmpR op_lt (pv 7) (pv 4) (nomark _))))) (pss_one (ps_set (i := 4) scSoon.nd rfl (Or.inl rfl) (pv 7))) pss_nil)))))
      (pss_one (ps_ret (pv 4)))))), ?_⟩
    refine ⟨_, rfl, _, rfl, ?_⟩
    cases hs with
    | none =>
      obtain rfl : hv = .non := hH
      exact iteT ⟨_, rfl, k⟩
    | some ps =>
      obtain ⟨l, xs, rfl, hS, hG⟩ := hH
      refine iteF ⟨_, rfl, .inl ⟨_, rfl, _, rfl, _, _, rfl, rfl, (show (0 : Int) < d by omega), ?_⟩⟩
      refine ⟨_, rfl, l, rfl, ⟨_, hS⟩, for_tup (K := K) (a := l) (xs := xs) (fun i σ H' => H' = H ∧ ∃ (b : Option Int) (v5 v6 v7 : Option V), σ = [some (.int d), some (.ref l), some (.int t), some (.int (t % d)), some (optV b), v5, v6, v7] ∧ Best (candF d t) (ps.take i) b)
        ⟨rfl, none, none, none, none, rfl, rfl⟩ (fun i σ H' _ ⟨e, _⟩ => by rw [e]; exact hS) ?_ ?_⟩
      · rintro i y σ H' hi ⟨rfl, b, v5, v6, v7, rfl, hb⟩
        obtain ⟨p, hp, q, rfl, hq⟩ := Paired.at hG hi
        refine ⟨q, _, rfl, hq, rfl, _, _, rfl, _, _, rfl, rfl, ?_⟩
        refine ⟨_, rfl, _, rfl, _, rfl, _, _, rfl, rfl, _, _, rfl, _, _, rfl, rfl, ?_⟩
        refine ⟨fun σ2 H2 => σ2 = [some (.int d), some (.ref l), some (.int t), some (.int (t % d)), some (optV b), some (.int p.1), some (.int p.2), some (.int (candF d t p))] ∧ H2 = H', ?_, ?_⟩
        · refine ⟨_, rfl, _, rfl, _, _, rfl, rfl, _, rfl, ?_⟩
          refine ite2 (fun c => ?_) (fun c => ?_)
          · refine ⟨_, rfl, _, rfl, _, _, rfl, rfl, _, rfl, _, _, rfl, rfl, _, rfl, _, _, rfl, rfl, ?_, rfl⟩
            unfold candF
            rw [if_pos (of_decide_eq_true c)]
            rfl
          · refine ⟨?_, rfl⟩
            unfold candF
            rw [if_neg (fun h => c (decide_eq_true h))]
            rfl
        rintro σ2 H2 ⟨rfl, rfl⟩
        have bs := best_step hp hb
        refine ⟨_, rfl, _, rfl, ?_⟩
        cases b with
        | none => exact iteT ⟨_, rfl, rfl, _, _, _, _, rfl, bs⟩
        | some v =>
          refine iteF ⟨_, rfl, _, rfl, _, _, rfl, rfl, _, rfl, ?_⟩
          refine ite2 (fun c => ?_) (fun c => ?_)
          · have bs' : Best (candF d t) (ps.take (i + 1)) (if candF d t p < v then some (candF d t p) else some v) := bs
            rw [if_pos (of_decide_eq_true c)] at bs'
            exact ⟨_, rfl, rfl, _, _, _, _, rfl, bs'⟩
          · have bs' : Best (candF d t) (ps.take (i + 1)) (if candF d t p < v then some (candF d t p) else some v) := bs
            rw [if_neg (fun h => c (decide_eq_true h))] at bs'
            exact ⟨rfl, _, _, _, _, rfl, bs'⟩
      · rintro σ H' ⟨rfl, b, v5, v6, v7, rfl, hb⟩
        rw [← Paired.len hG, List.take_length] at hb
        rw [soon_end hd1 ok.2 hb]
        exact ⟨_, rfl, k⟩
end
end W

set_option Elab.async false
set_option linter.all false
set_option maxRecDepth 100000
set_option maxHeartbeats 800000
namespace W
open PySem PySem.Spec PyProof.Rows L2 GxR MyG MyS MyR
/-! ### _law_road, _law_may -/
theorem PartsAt.grew {K : PySem.W.Frag} {P : Addr} {H H' : Hp} {q : Addr} {d : Int} {ps ks : List Str} {rs : List RoadD} {bs : List (Str × Str)} (g : Grew P H H') (h : TabG H P) (m : PartsAt K H q d ps ks rs bs) : PartsAt K H' q d ps ks rs bs := by
  obtain ⟨pl, ki, ro, ba, xs, zs, e, epl, eki, ero, hrs, eba, hbs⟩ := m
  exact ⟨pl, ki, ro, ba, xs, zs, g.lst h e, g.lst h epl, g.lst h eki, g.lst h ero, Paired.map' hrs (fun _ _ m => m.keep (KeepT.grew g h)), g.lst h eba, Paired.map' hbs (fun _ _ m => m.grew g h)⟩
def spLRoad (K : PySem.W.Frag) (P : Addr) : Sp := fun vs H Q _ => ∃ (q : Addr) (d : Int) (ps ks : List Str) (rs : List RoadD) (bs : List (Str × Str)) (r : RoadD), vs = [.ref q, .str r.name] ∧ PartsAt K H q d ps ks rs bs ∧ (rs.map (·.name)).Nodup ∧ rs.length ≤ 9 ∧ r ∈ rs ∧ TabG H P ∧ ∀ H' v, Grew P H H' → GRoad K H' r v → Q v H'
theorem filter_none {z : Str} : ∀ {rs : List RoadD}, (∀ r ∈ rs, r.name ≠ z) → rs.filter (fun r => decide (r.name = z)) = []
  | [], _ => rfl
  | r :: rs, h => by
    rw [List.filter_cons, if_neg (by simp [h r List.mem_cons_self])]
    exact filter_none fun r hr => h r (List.mem_cons_of_mem _ hr)
theorem filter_name {r : RoadD} : ∀ {rs : List RoadD}, (rs.map (·.name)).Nodup → r ∈ rs → rs.filter (fun r' => decide (r'.name = r.name)) = [r]
  | a :: rs, nd, h => by
    have q := List.nodup_cons.mp nd
    rcases List.mem_cons.mp h with e | h'
    · subst e
      rw [List.filter_cons, if_pos (by simp), filter_none fun r' hr e => q.1 (List.mem_map.mpr ⟨r', hr, e⟩)]
    · have ne : a.name ≠ r.name := fun e => q.1 (List.mem_map.mpr ⟨r, h', e.symm⟩)
      rw [List.filter_cons, if_neg (by simp [ne])]
      exact filter_name q.2 h'
theorem filter_takeL {p : RoadD → Bool} {rs : List RoadD} {i : Nat} {r : RoadD} (e : rs[i]? = some r) : (rs.take (i + 1)).filter p = (rs.take i).filter p ++ (if p r = true then [r] else []) := by
  have et : rs.take (i + 1) = rs.take i ++ [r] := by rw [List.take_succ, e]; rfl
  rw [et, List.filter_append]
  congr 1
  rw [List.filter_cons]
  rfl
section
variable {Pg : Program} {w : World} {K : PySem.W.Frag} {mg : Str → Option Value} {base : Heap} {C P : Addr}
theorem scLRoad : FnScope ["parts", "name", "road"] ["parts", "name"] (defScope sLRoad) := ⟨rfl, rfl, rfl, by decide +kernel, rfl, by decide +kernel, by decide +kernel⟩
theorem ok_lroad {f : Addr} {fd : FuncData} (F : Fun K "_law_road" "_law_road" sLRoad f fd) : FnOk Pg w K mg base CX0 1 f fd ["parts", "name"] (spLRoad K P) := by
  refine F.ok scLRoad (fun vs H Q E h => ?_) (fun cdv A outer s H vs Q E hr h => ?_)
  · obtain ⟨q, d, ps, ks, rs, bs, r, rfl, _⟩ := h
    rfl
  · obtain ⟨q, d, ps, ks, rs, bs, r, rfl, hq, nd, h9, hrm, hP, k⟩ := h
    refine ⟨_, pss_one (ps_ret (pe_ix ix_list (pe_lc (own := [("road", 2)]) (g := gName 2) (tt := _) rfl scLRoad.nd (pi_list (pe_ix ix_list (pv 0) pe_int (fun _ _ => rfl))) (blkOk_by (N := ["parts", "name", "road"]) (sc := defScope sLRoad) (by decide +kernel))
      (fun _ _ _ _ _ => pg_name (i := 2) scLRoad.nd rfl (Or.inl rfl)) (fun _ _ _ _ _ => pts_one (pt_cmpR (r := rEq) op_eq (pe_ix (r := rIxT K) ix_tup (pv 2) pe_int (fun _ _ => rfl)) (pv 1) (nomark _))) (fun _ _ _ _ _ => pv 2)) pe_int (fun _ _ => rfl))), ?_⟩
    obtain ⟨pl, ki, ro, ba, xs, zs2, eq, epl, eki, ero, hrs, eba, hbs⟩ := hq
    have e3 : atI [V.int d, V.ref pl, V.ref ki, V.ref ro, V.ref ba] 3 = some (.ref ro) := rfl
    refine ⟨_, rfl, q, _, 3, _, rfl, rfl, SqL.of eq, e3, ro, rfl, ⟨_, SqL.of ero⟩, fun D nD => lc_list (K := K) (a := ro) (xs := xs) (fun i H1 => Grew P H H1 ∧ ∃ ys : List V, H1 D = some (.lst ys) ∧ Paired (GRoad K H1) ((rs.take i).filter fun r' => decide (r'.name = r.name)) ys)
      ⟨Grew.new hP nD, [], upd_same, .nil⟩ (fun i H1 _ p => SqL.of (p.1.lst hP ero)) (fun i y H1 hi p => ?_) (fun H1 p => ?_)⟩
    · obtain ⟨g1, ys, hD, hys⟩ := p
      obtain ⟨r1, hr1, t, u, hv, rfl, hT, hU, hH⟩ := Paired.at hrs hi
      have lx := (List.getElem?_eq_some_iff.mp hr1).1
      have ft := filter_takeL (p := fun r' => decide (r'.name = r.name)) hr1
      have hT1 := g1.sqT hP hT
      refine ⟨rfl, _, rfl, t, _, 0, _, rfl, rfl, hT1, rfl, _, rfl, rfl, _, rfl, ?_⟩
      have ly : ys.length ≤ 9 := by
        rw [← Paired.len hys]
        exact Nat.le_trans (List.length_filter_le _ _) (Nat.le_trans (by rw [List.length_take]; exact Nat.min_le_right _ _) h9)
      have kt := KeepT.lst (K := K) (o := .lst (ys ++ [.ref t])) hD
      have hroad : GRoad K H1 r1 (.ref t) := ⟨t, u, hv, rfl, hT1, g1.sqT hP hU, hH.keep (KeepT.grew g1 hP)⟩
      refine ite2 (fun c => ?_) (fun c => ?_)
      · have c' : r1.name = r.name := by
          have e := of_decide_eq_true c
          injection e
        refine ⟨_, rfl, ys, hD, by rw [sizeLine_eq]; omega, g1.write hD (fun _ z => by cases z) nD, _, upd_same, ?_⟩
        rw [ft, if_pos (decide_eq_true c')]
        exact Paired.snoc (Paired.map' hys fun _ _ m => m.keep kt) (hroad.keep kt)
      · have c' : ¬ r1.name = r.name := fun e => c (decide_eq_true (congrArg V.str e))
        refine ⟨g1, ys, hD, ?_⟩
        rw [ft, if_neg (fun h => c' (of_decide_eq_true h)), List.append_nil]
        exact hys
    · obtain ⟨g1, ys, hD, hys⟩ := p
      rw [← Paired.len hrs, List.take_length, filter_name nd hrm] at hys
      cases hys with
      | cons a b =>
        cases b
        exact ⟨D, _, 0, _, rfl, rfl, SqL.of hD, rfl, k H1 _ g1 a⟩
end
def optS : Option Str → V
  | none => .non
  | some z => .str z
def OkB (bs : List (Str × Str)) : Prop := ∀ b ∈ bs, PyData.strOk b.1 = true ∧ PyData.strOk b.2 = true
def spLMay (K : PySem.W.Frag) (P : Addr) : Sp := fun vs H Q _ => ∃ (q : Addr) (d : Int) (ps ks : List Str) (rs : List RoadD) (bs : List (Str × Str)) (kind place : Str) (before : Option Str) (r : RoadD) (v : V), vs = [.ref q, .str kind, .str place, optS before, v] ∧ PartsAt K H q d ps ks rs bs ∧ OkB bs ∧ (∀ z, before = some z → PyData.strOk z = true) ∧ PyData.strOk r.name = true ∧ GRoad K H r v ∧ TabG H P ∧ ∀ H', Grew P H H' → Q (.bl (mayB kind bs place before r)) H'
def barD (b : Str × Str) : PyData := .tuple [.str b.1, .str b.2]
theorem dp_bars {K : PySem.W.Frag} {H : Hp} : ∀ {bs : List (Str × Str)} {xs : List V}, Paired (GBar H) bs xs → DpAll K H xs (bs.map barD)
  | _, _, .nil => .nil
  | _, _, .cons (a := p) ⟨t, e, q⟩ r => by
    subst e
    exact .cons (.tup (SqT.of q) (.cons (.str p.1) (.cons (.str p.2) .nil))) (dp_bars r)
theorem canLay_bars : ∀ bs : List (Str × Str), OkB bs → PyData.canLayAll0 (bs.map barD) = true
  | [], _ => rfl
  | p :: bs, h => by
    have a := h p List.mem_cons_self
    simp [PyData.canLayAll0, PyData.canLay0, barD, canLay_bars bs (fun b hb => h b (List.mem_cons_of_mem _ hb)), a.1, a.2]
theorem depth_bars : ∀ bs : List (Str × Str), PyData.depthAll (bs.map barD) ≤ 2
  | [] => by simp [PyData.depthAll]
  | p :: bs => by
    have i := depth_bars bs
    simp only [List.map_cons, PyData.depthAll, PyData.depth, barD]
    simp [PyData.depthAll, PyData.depth]
    omega
theorem shaped_bars {bs : List (Str × Str)} (h : OkB bs) : SeqAt.shaped (PyData.list (bs.map barD)) = true := by
  have c := canLay_bars bs h
  have d := depth_bars bs
  unfold SeqAt.shaped
  rw [Bool.and_eq_true]
  refine ⟨by simpa [PyData.canLay0] using c, decide_eq_true ?_⟩
  simp only [PyData.depth]
  omega
theorem shaped_bar {b : Str × Str} (h : PyData.strOk b.1 = true ∧ PyData.strOk b.2 = true) : SeqAt.shaped (barD b) = true := by
  have c := canLay_bars [b] (fun x hx => by rw [List.mem_singleton.mp hx]; exact h)
  have d := depth_bars [b]
  unfold SeqAt.shaped
  rw [Bool.and_eq_true]
  refine ⟨by simpa [PyData.canLayAll0] using c, decide_eq_true ?_⟩
  simp [PyData.depthAll] at d
  omega
theorem eqv_bar (a b : Str × Str) : PyData.eqv (barD a) (barD b) = decide (a = b) := by
  obtain ⟨a1, a2⟩ := a
  obtain ⟨b1, b2⟩ := b
  have e : ∀ x y : Str, (x == y) = decide (x = y) := fun x y => by by_cases h : x = y <;> simp [h]
  simp [barD, PyData.eqv, PyData.eqvAll, Prod.mk.injEq, Bool.decide_and, e]
theorem any_bars (bs : List (Str × Str)) (b : Str × Str) : ((bs.map barD).any fun z => PyData.eqv z (barD b)) = decide (b ∈ bs) := by
  rw [List.any_map]
  by_cases h : b ∈ bs
  · rw [decide_eq_true h, List.any_eq_true]
    exact ⟨b, h, by simp [eqv_bar]⟩
  · rw [decide_eq_false h, List.any_eq_false]
    intro c hc e
    have e2 : PyData.eqv (barD c) (barD b) = true := e
    rw [eqv_bar] at e2
    exact h (of_decide_eq_true e2 ▸ hc)
section
variable {Pg : Program} {w : World} {K : PySem.W.Frag} {mg : Str → Option Value} {base : Heap} {C P : Addr}
theorem u65 {k : Nat} {A : Around} (h : Room k A) : A.units + 65 < cLine := by
  have := h.un
  omega
theorem scLMay : FnScope ["parts", "kind", "place", "before", "road"] ["parts", "kind", "place", "before", "road"] (defScope sLMay) := ⟨rfl, rfl, rfl, by decide +kernel, rfl, by decide +kernel, by decide +kernel⟩
theorem ok_lmay {f : Addr} {fd : FuncData} (F : Fun K "_law_may" "_law_may" sLMay f fd) : FnOk Pg w K mg base CX0 1 f fd ["parts", "kind", "place", "before", "road"] (spLMay K P) := by
  refine F.ok scLMay (fun vs H Q E h => ?_) (fun cdv A outer s H vs Q E hr h => ?_)
  · obtain ⟨q, d, ps, ks, rs, bs, kind, place, before, r, v, rfl, _⟩ := h
    rfl
  · obtain ⟨q, d, ps, ks, rs, bs, kind, place, before, r, v, rfl, hq, hob, hbe, hnm, ⟨t, u, hv, rfl, hT, hU, hH⟩, hP, k⟩ := h
    refine ⟨_, pss_cons (ps_if (PW.pt (pw_or (pt_cmpR op_ne (pe_ix ix_tup (pv 4) pe_int (fun _ _ => rfl)) (pv 2) (nomark _)) (pw_or (pt_cmpR op_notIn_seq (pv 1) (pe_ix ix_tup (pv 4) pe_int (fun _ _ => rfl)) (by rfl)) (pw_or1 (pt_cmpR (op_eqD hr.units) (pe_ix ix_tup (pv 4) pe_int (fun _ _ => rfl)) (pe_tup pa_nil) (nomark _)))))) (pss_one (ps_ret pe_bl)) pss_nil)
      (pss_one (ps_ret (pe_or (pe_cmp (pc_isN (pv 3))) (pe_one (pe_cmpR (op_notInD (u65 hr)) (pe_tup (pa_cons (pv 3) (pa_cons (pe_ix ix_tup (pv 4) pe_int (fun _ _ => rfl)) pa_nil))) (pe_ix ix_list (pv 0) pe_int (fun _ _ => rfl)) (by rfl)))))), ?_⟩
    refine ⟨_, rfl, t, _, 1, _, rfl, rfl, hT, rfl, _, rfl, rfl, _, rfl, ?_⟩
    by_cases c1 : r.start = place
    · refine if_f (by simp [c1]) ⟨_, rfl, _, rfl, t, _, 4, _, rfl, rfl, hT, rfl, u, _, rfl, .inr hU, rfl, flat_strs _, _, rfl, ?_⟩
      by_cases c2 : kind ∈ r.users
      · refine if_f (by simp [inV_dec, c2]) ⟨_, rfl, t, _, 5, _, rfl, rfl, hT, rfl, Nat.zero_le _, fun e0 ne0 => ?_⟩
        have g := Grew.new hP (o := .tup []) ne0
        refine ⟨_, _, dp_hours (hH.keep (KeepT.grew g hP)), .tup (SqT.of upd_same) .nil, shaped_hours _, shaped_pairs [], _, rfl, ?_⟩
        show if PyData.eqv (hoursD r.hours) (PyData.tuple []) = true then _ else _
        rw [eqv_hours]
        have eb : everB kind r = !decide (r.hours = some []) := by
          unfold everB
          rw [decide_eq_true c2, Bool.true_and]
        by_cases c3 : r.hours = some []
        · rw [decide_eq_true c3] at eb ⊢
          refine iteT ?_
          have q' := k _ g
          unfold mayB at q'
          rw [eb] at q'
          have q2 : Q (.bl false) (L2.upd H e0 (.tup [])) := by simpa using q'
          exact q2
        · rw [decide_eq_false c3] at eb ⊢
          refine iteF ⟨_, rfl, _, rfl, ?_⟩
          cases before with
          | none =>
            have q' := k _ g
            unfold mayB at q'
            rw [eb, decide_eq_true c1] at q'
            refine iteT ?_
            have q2 : Q (.bl true) (L2.upd H e0 (.tup [])) := by simpa using q'
            exact q2
          | some b =>
            refine iteF ⟨_, rfl, _, rfl, t, _, 0, _, rfl, rfl, g.sqT hP hT, rfl, by show 2 ≤ sizeLine; decide, fun q5 nq5 => ?_⟩
            have g2 := Grew.new g.tab (o := .tup [.str b, .str r.name]) nq5
            have g02 := g.trans g2
            obtain ⟨pl, ki, ro, ba, xs, zs, eq, epl, eki, ero, hrs, eba, hbs⟩ := PartsAt.grew g02 hP hq
            have sb : PyData.strOk (b, r.name).1 = true ∧ PyData.strOk (b, r.name).2 = true := ⟨hbe b rfl, hnm⟩
            refine ⟨_, rfl, q, _, 4, _, rfl, rfl, SqL.of eq, rfl, barD (b, r.name), bs.map barD, .tup (SqT.of upd_same) (.cons (.str b) (.cons (.str r.name) .nil)), .lst (SqL.of eba) (dp_bars hbs), shaped_bar sb, shaped_bars hob, ?_⟩
            rw [any_bars]
            have q' := k _ g02
            unfold mayB at q'
            rw [eb, decide_eq_true c1] at q'
            have q2 : Q (.bl (!decide ((b, r.name) ∈ bs))) (L2.upd (L2.upd H e0 (.tup [])) q5 (.tup [.str b, .str r.name])) := by simpa using q'
            exact q2
      · refine if_t (by simp [inV_dec, c2]) ?_
        have q' := k H (Grew.refl hP)
        unfold mayB everB at q'
        rw [decide_eq_false c2] at q'
        have q2 : Q (.bl false) H := by simpa using q'
        exact q2
    · refine if_t (by simp [c1]) ?_
      have q' := k H (Grew.refl hP)
      unfold mayB at q'
      rw [decide_eq_false c1] at q'
      have q2 : Q (.bl false) H := by simpa using q'
      exact q2
end
end W

set_option Elab.async false
set_option linter.all false
set_option maxRecDepth 100000
set_option maxHeartbeats 800000
namespace W
open PySem PySem.Spec PyProof.Rows L2 GxR MyG MyS MyR
/-! ### _law_trip, _law_walk -/
def spLTrip (K : PySem.W.Frag) (P : Addr) : Sp := fun vs H Q _ => ∃ (q a : Addr) (at_ d : Int) (ps ks : List Str) (rs : List RoadD) (bs : List (Str × Str)) (ns : List Int), vs = [.ref q, .ref a, .int at_] ∧ PartsAt K H q d ps ks rs bs ∧ PartsOk d ks ps rs bs ∧ 1 ≤ rs.length ∧ SqL K H a (ns.map V.int) ∧ Sm ns ∧ 0 ≤ at_ ∧ at_ + 4 ≤ ns.length ∧ TabG H P ∧
  ∀ H' tp kind place t, Grew P H H' → kind ∈ ks → place ∈ ps → 0 ≤ t → t ≤ 99999 → H' tp = some (.tup [.str kind, .str place, .int t]) → Q (.ref tp) H'
section
variable {Pg : Program} {w : World} {K : PySem.W.Frag} {mg : Str → Option Value} {base : Heap} {C P : Addr}
theorem scLTrip : FnScope ["parts", "numbers", "at", "moment"] ["parts", "numbers", "at"] (defScope sLTrip) := ⟨rfl, rfl, rfl, by decide +kernel, rfl, by decide +kernel, by decide +kernel⟩
theorem ok_ltrip {f : Addr} {fd : FuncData} (F : Fun K "_law_trip" "_law_trip" sLTrip f fd) (hi : mg "int" = none) (hl : mg "len" = none) : FnOk Pg w K mg base CX0 1 f fd ["parts", "numbers", "at"] (spLTrip K P) := by
  refine F.ok scLTrip (fun vs H Q E h => ?_) (fun cdv A outer s H vs Q E hr h => ?_)
  · obtain ⟨q, a, at_, d, ps, ks, rs, bs, ns, rfl, _⟩ := h
    rfl
  · obtain ⟨q, a, at_, d, ps, ks, rs, bs, ns, rfl, hq, ok, hl1, hS, hsm, h0, h1, hP, k⟩ := h
    refine ⟨_, pss_cons (ps_set (i := 3) scLTrip.nd rfl (Or.inl rfl) (pe_op op_mod (pe_callTy call_int1 (by rfl) hi (by decide +kernel) (pa_cons (pe_ix ix_list (pv 1) (pe_op op_add (pv 2) pe_int) (fun _ _ => rfl)) pa_nil)) (pe_op op_add (pe_op op_mul pe_int (pe_ix ix_list (pv 0) pe_int (fun _ _ => rfl))) pe_int)))
      (C8.pss_cut (ps_if (pt_cmpR op_eq (pe_op op_mod (pe_callTy call_int1 (by rfl) hi (by decide +kernel) (pa_cons (pe_ix ix_list (pv 1) (pe_op op_add (pv 2) pe_int) (fun _ _ => rfl)) pa_nil)) pe_int) pe_int (nomark _))
        (pss_one (ps_set (i := 3) scLTrip.nd rfl (Or.inl rfl) (pe_op op_mul (pe_ix ix_list (pv 1) (pe_op op_add (pv 2) pe_int) (fun _ _ => rfl)) pe_int))) pss_nil)
      (pss_one (ps_ret (pe_tup (pa_cons (pe_ix ix_list (pe_ix ix_list (pv 0) pe_int (fun _ _ => rfl)) (pe_op op_mod (pe_callTy call_int1 (by rfl) hi (by decide +kernel) (pa_cons (pe_ix ix_list (pv 1) (pv 2) (fun _ _ => rfl)) pa_nil)) (pe_callB call_len_seq (by rfl) hl PySem.boot_len (pa_cons (pe_ix ix_list (pv 0) pe_int (fun _ _ => rfl)) pa_nil))) (fun _ _ => rfl))
        (pa_cons (pe_ix ix_list (pe_ix ix_list (pv 0) pe_int (fun _ _ => rfl)) (pe_op op_mod (pe_callTy call_int1 (by rfl) hi (by decide +kernel) (pa_cons (pe_ix ix_list (pv 1) (pe_op op_add (pv 2) pe_int) (fun _ _ => rfl)) pa_nil)) (pe_callB call_len_seq (by rfl) hl PySem.boot_len (pa_cons (pe_ix ix_list (pv 0) pe_int (fun _ _ => rfl)) pa_nil))) (fun _ _ => rfl))
        (pa_cons (pv 3) pa_nil))))))), ?_⟩
    obtain ⟨n0, e0, l0, u0⟩ := at_num hsm (i := at_) h0 (by omega)
    obtain ⟨n1, e1, l1, u1⟩ := at_num hsm (i := at_ + 1) (by omega) (by omega)
    obtain ⟨n2, e2, l2, u2⟩ := at_num hsm (i := at_ + 2) (by omega) (by omega)
    obtain ⟨n3, e3, l3, u3⟩ := at_num hsm (i := at_ + 3) (by omega) (by omega)
    obtain ⟨pl, ki, ro, ba, xs, zs2, eq, epl, eki, ero, hrs, eba, hbs⟩ := hq
    have d1 := ok.d1
    have d2 := ok.d2
    have k1 := ok.k1
    have lp : 1 ≤ ps.length := by
      cases rs with
      | nil => exact absurd hl1 (by simp)
      | cons r rs => exact List.length_pos_of_mem (ok.r.ok r List.mem_cons_self).s
    have at0 : ∀ {j : Int} {v : V}, atI [V.int d, V.ref pl, V.ref ki, V.ref ro, V.ref ba] j = some v → atI [V.int d, V.ref pl, V.ref ki, V.ref ro, V.ref ba] j = some v := fun h => h
    -- moment
    refine ⟨_, rfl, _, rfl, _, _, rfl, rfl, a, _, _, _, rfl, rfl, hS, e2, .inl ⟨_, rfl, _, rfl, q, _, 0, _, rfl, rfl, SqL.of eq, rfl, _, _, rfl, rfl, .inl ⟨by decide, by decide⟩, _, _, rfl, rfl, _, _, rfl, rfl, (show (0 : Int) < 3 * d + 1 by omega), ?_⟩⟩
    have hb0 : 0 ≤ n2 % (3 * d + 1) := Int.emod_nonneg _ (by omega)
    have hb1 : n2 % (3 * d + 1) < 3 * d + 1 := Int.emod_lt_of_pos _ (by omega)
    refine ⟨fun σ2 H2 => ∃ t : Int, σ2 = [some (.ref q), some (.ref a), some (.int at_), some (.int t)] ∧ H2 = H ∧ 0 ≤ t ∧ t ≤ 99999, ?_, ?_⟩
    · refine ⟨_, rfl, _, rfl, _, _, rfl, rfl, a, _, _, _, rfl, rfl, hS, e3, .inl ⟨_, rfl, _, _, rfl, rfl, (show (0 : Int) < 9 by decide), rfl, _, rfl, ?_⟩⟩
      refine ite2 (fun _ => ?_) (fun _ => ⟨_, rfl, rfl, hb0, by omega⟩)
      exact ⟨_, rfl, _, rfl, _, _, rfl, rfl, a, _, _, _, rfl, rfl, hS, e2, _, _, rfl, rfl, .inr ⟨by decide, by decide⟩, n2 * 99, rfl, rfl, by omega, by omega⟩
    rintro σ2 H2 ⟨t, rfl, rfl, ht0, ht1⟩
    obtain ⟨kn, ek, _, hkn⟩ := at_str (ns := ks) (i := n0 % ks.length) (Int.emod_nonneg _ (by omega)) (Int.emod_lt_of_pos _ (by omega))
    obtain ⟨pn, ep, _, hpn⟩ := at_str (ns := ps) (i := n1 % ps.length) (Int.emod_nonneg _ (by omega)) (Int.emod_lt_of_pos _ (by omega))
    refine ⟨_, rfl, q, _, 2, _, rfl, rfl, SqL.of eq, rfl, _, rfl, _, rfl, a, _, _, _, rfl, rfl, hS, e0, .inl ⟨_, rfl, _, rfl, q, _, 2, _, rfl, rfl, SqL.of eq, rfl, ki, _, rfl, .inl (SqL.of eki), _, _, rfl, rfl, by rw [List.length_map]; omega, ki, _, _, _, rfl, rfl, SqL.of eki, by rw [List.length_map]; exact ek, ?_⟩⟩
    refine ⟨_, rfl, q, _, 1, _, rfl, rfl, SqL.of eq, rfl, _, rfl, _, rfl, _, _, rfl, rfl, a, _, _, _, rfl, rfl, hS, e1, .inl ⟨_, rfl, _, rfl, q, _, 1, _, rfl, rfl, SqL.of eq, rfl, pl, _, rfl, .inl (SqL.of epl), _, _, rfl, rfl, by rw [List.length_map]; omega, pl, _, _, _, rfl, rfl, SqL.of epl, by rw [List.length_map]; exact ep, ?_⟩⟩
    refine ⟨_, rfl, by show 3 ≤ sizeLine; decide, fun tp ntp => ?_⟩
    exact k _ tp kn pn t (Grew.new hP ntp) hkn hpn ht0 ht1 upd_same
end
end W

set_option Elab.async false
set_option linter.all false
set_option maxRecDepth 100000
set_option maxHeartbeats 1000000
namespace W
open PySem
/-! ### the law's rounds: what they find -/
/-- the arrivals by name, as they are told of the roads rs -/
structure LSol (d : Int) (kind : Str) (bs : List (Str × Str)) (rs : List RoadD) (start : Str) (moment : Int) (T : Str → Option Int) : Prop where
  dom : ∀ z t, T z = some t → (∃ r ∈ rs, r.name = z) ∧ moment ≤ t
  a : ∀ r ∈ rs, mayB kind bs start none r = true → ∃ t, T r.name = some t ∧ t ≤ ar d r moment
  b : ∀ p ∈ rs, ∀ tp, T p.name = some tp → ∀ r ∈ rs, mayB kind bs p.goal (some p.name) r = true → ∃ t, T r.name = some t ∧ t ≤ ar d r tp
  c : ∀ r ∈ rs, ∀ t, T r.name = some t → (mayB kind bs start none r = true ∧ t = ar d r moment) ∨ ∃ p ∈ rs, ∃ tp, T p.name = some tp ∧ tp < t ∧ mayB kind bs p.goal (some p.name) r = true ∧ t = ar d r tp
def leB (T : Str → Option Int) (z : Str) (r : RoadD) : Bool := match T r.name, T z with
  | some a, some b => decide (a ≤ b)
  | _, _ => false
def rk (T : Str → Option Int) (rs : List RoadD) (z : Str) : Nat := (rs.filter (leB T z)).length
theorem rk_lt {T : Str → Option Int} {rs : List RoadD} {p r : RoadD} {tp t : Int} (hr : r ∈ rs) (ep : T p.name = some tp) (er : T r.name = some t) (h : tp < t) : rk T rs p.name < rk T rs r.name := by
  refine filter_lt (x := r) (fun x hx => ?_) hr ?_ ?_
  · unfold leB at hx ⊢
    rw [ep] at hx
    rw [er]
    cases c : T x.name with
    | none => rw [c] at hx; cases hx
    | some a =>
      rw [c] at hx
      have := of_decide_eq_true hx
      exact decide_eq_true (by omega)
  · unfold leB
    rw [er]
    exact decide_eq_true (Int.le_refl _)
  · unfold leB
    rw [er, ep]
    exact decide_eq_false (by omega)
theorem rk_le (T : Str → Option Int) (rs : List RoadD) (z : Str) : rk T rs z ≤ rs.length := List.length_filter_le _ _
theorem rk_pos {T : Str → Option Int} {rs : List RoadD} {r : RoadD} {t : Int} (hr : r ∈ rs) (er : T r.name = some t) : 1 ≤ rk T rs r.name := by
  unfold rk
  refine List.length_pos_of_mem (a := r) (List.mem_filter.mpr ⟨hr, ?_⟩)
  unfold leB
  rw [er]
  exact decide_eq_true (Int.le_refl _)
/-- a value is there, and not above b -/
def Has (zs : List (Str × Int)) (z : Str) (b : Int) : Prop := ∃ v, (z, v) ∈ zs ∧ v ≤ b
structure BF (d : Int) (kind : Str) (bs : List (Str × Str)) (rs : List RoadD) (start : Str) (moment : Int) (T : Str → Option Int) (k : Nat) (zs : List (Str × Int)) : Prop where
  nd : (zs.map (·.1)).Nodup
  lo : ∀ q ∈ zs, ∃ t, T q.1 = some t ∧ t ≤ q.2
  up : ∀ z t, T z = some t → rk T rs z ≤ k → Has zs z t
section
variable {d : Int} {kind : Str} {bs : List (Str × Str)} {rs : List RoadD} {start : Str} {moment : Int} {T : Str → Option Int} {k : Nat} {zs : List (Str × Int)}
/-- a lower value is put in, or a new one -/
theorem Has.put {z y : Str} {a b : Int} (h : Has zs z b) (hlow : ∀ v, (y, v) ∈ zs → a ≤ v) : Has (zput zs y a) z b := by
  obtain ⟨v, hv, hb⟩ := h
  by_cases e : z = y
  · subst e
    exact ⟨a, zput_mem.mpr (.inl rfl), Int.le_trans (hlow v hv) hb⟩
  · exact ⟨v, zput_mem.mpr (.inr ⟨hv, e⟩), hb⟩
theorem BF.put (h : BF d kind bs rs start moment T k zs) {y : Str} {a t : Int} (ht : T y = some t) (hle : t ≤ a) (hlow : ∀ v, (y, v) ∈ zs → a ≤ v) : BF d kind bs rs start moment T k (zput zs y a) := by
  refine ⟨zput_nodup h.nd _ _, fun q hq => ?_, fun z t hz hk => (h.up z t hz hk).put hlow⟩
  rcases zput_mem.mp hq with e | ⟨hq, _⟩
  · rw [e]; exact ⟨t, ht, hle⟩
  · exact h.lo q hq
theorem BF.len (h : BF d kind bs rs start moment T k zs) (S : LSol d kind bs rs start moment T) : zs.length ≤ rs.length := by
  rw [← List.length_map (f := (·.1)), ← List.length_map (as := rs) (f := (·.name))]
  refine nodup_sub_len h.nd fun z hz => ?_
  obtain ⟨q, hq, rfl⟩ := List.mem_map.mp hz
  obtain ⟨t, e, _⟩ := h.lo q hq
  obtain ⟨⟨r, hr, en⟩, _⟩ := S.dom _ _ e
  exact List.mem_map.mpr ⟨r, hr, en⟩
/-- what the first roads have got at the start -/
def Ini (d : Int) (kind : Str) (bs : List (Str × Str)) (start : Str) (moment : Int) (l : List RoadD) (zs : List (Str × Int)) : Prop := ∀ r ∈ l, mayB kind bs start none r = true → Has zs r.name (ar d r moment)
theorem Ini.put {l : List RoadD} {y : Str} {a : Int} (h : Ini d kind bs start moment l zs) (hlow : ∀ v, (y, v) ∈ zs → a ≤ v) : Ini d kind bs start moment l (zput zs y a) := fun r hr c => (h r hr c).put hlow
/-- what has gone on in a round from the roads l -/
def Gone (d : Int) (kind : Str) (bs : List (Str × Str)) (rs : List RoadD) (T : Str → Option Int) (k : Nat) (l m : List RoadD) (zs : List (Str × Int)) : Prop :=
  ∀ p ∈ l, ∀ tp, T p.name = some tp → rk T rs p.name ≤ k → ∀ r ∈ m, mayB kind bs p.goal (some p.name) r = true → Has zs r.name (ar d r tp)
theorem Gone.put {l m : List RoadD} {y : Str} {a : Int} (h : Gone d kind bs rs T k l m zs) (hlow : ∀ v, (y, v) ∈ zs → a ≤ v) : Gone d kind bs rs T k l m (zput zs y a) := fun p hp tp e hk r hr c => (h p hp tp e hk r hr c).put hlow
theorem BF.next (S : LSol d kind bs rs start moment T) (h : BF d kind bs rs start moment T k zs) (hi : Ini d kind bs start moment rs zs) (hg : Gone d kind bs rs T k rs rs zs) : BF d kind bs rs start moment T (k + 1) zs := by
  refine ⟨h.nd, h.lo, fun z t hz hk => ?_⟩
  obtain ⟨⟨r, hr, rfl⟩, _⟩ := S.dom z t hz
  rcases S.c r hr t hz with ⟨c, e⟩ | ⟨p, hp, tp, ep, lt, c, e⟩
  · rw [e]; exact hi r hr c
  · rw [e]
    have := rk_lt hr ep hz lt
    exact hg p hp tp ep (by omega) r hr c
/-- after as many rounds as there are roads: just the arrivals -/
theorem BF.exact (S : LSol d kind bs rs start moment T) (h : BF d kind bs rs start moment T rs.length zs) : ∀ z t, (z, t) ∈ zs ↔ T z = some t := by
  have hu : ∀ z t, T z = some t → (z, t) ∈ zs := fun z t e => by
    obtain ⟨v, hv, hle⟩ := h.up z t e (rk_le T rs z)
    obtain ⟨t', e', hle'⟩ := h.lo _ hv
    have e'' : T z = some t' := e'
    rw [e] at e''
    have := Option.some.inj e''
    have hv2 : v = t := by
      have : t' ≤ v := hle'
      omega
    rw [← hv2]; exact hv
  refine fun z t => ⟨fun hz => ?_, hu z t⟩
  obtain ⟨t', e', hle'⟩ := h.lo _ hz
  have e'' : T z = some t' := e'
  have q := hu z t' e''
  have q1 := zget_some h.nd hz
  rw [zget_some h.nd q] at q1
  rw [← Option.some.inj q1]; exact e''
end
/-! ### the map's search, told by the law's roads -/
def tOf (es : List Ent) (z : Str) : Option Int := zget (labsOf es) z
theorem tOf_iff {d : Int} {kind : Str} {bs : List (Str × Str)} {rs : List RoadD} {start : Str} {moment : Int} {es : List Ent} (nd : (rs.map (·.name)).Nodup) (S : Sol d kind bs rs start moment es) {z : Str} {t : Int} : tOf es z = some t ↔ ∃ e ∈ es, ∃ r, e.n = some r ∧ r.name = z ∧ e.t = t := by
  constructor
  · intro h
    obtain ⟨e, he, r, hr, eq⟩ := labs_mem (zget_mem h)
    exact ⟨e, he, r, hr, (congrArg Prod.fst eq).symm, (congrArg Prod.snd eq).symm⟩
  · rintro ⟨e, he, r, hr, rfl, rfl⟩
    exact zget_some (labs_nodup nd S.nd S.mem) (mem_labs he hr)
theorem nx_iff {kind : Str} {bs : List (Str × Str)} {rs : List RoadD} {start : Str} {p : Node} {r : RoadD} : r ∈ nxN kind bs rs start p ↔ r ∈ rs ∧ (match p with | none => mayB kind bs start none r | some q => mayB kind bs q.goal (some q.name) r) = true := by
  cases p with
  | none => exact List.mem_filter
  | some q => exact List.mem_filter
theorem may_keptB {kind place : Str} {bs bs' : List (Str × Str)} {before : Option Str} {r r' : RoadD} (k : Kept r r') (hb : ∀ b, b ∈ bs' ↔ b ∈ bs) : mayB kind bs' place before r' = mayB kind bs place before r := by
  obtain ⟨k1, k2, k3, k4, k5, k6, _⟩ := k
  unfold mayB everB
  rw [k1, k2, k5]
  have e : decide (kind ∈ r'.users) = decide (kind ∈ r.users) := decide_eq_decide.mpr k6.mem_iff
  rw [e]
  cases before with
  | none => rfl
  | some b =>
    have e2 : decide ((b, r.name) ∈ bs') = decide ((b, r.name) ∈ bs) := decide_eq_decide.mpr (hb _)
    simp only [e2]
theorem ar_kept {d : Int} {r r' : RoadD} (k : Kept r r') (t : Int) : ar d r' t = ar d r t := by
  obtain ⟨k1, k2, k3, k4, k5, _⟩ := k
  unfold ar arriveD enterR
  rw [k4, k5]
theorem Sol.lsol {d : Int} {kind : Str} {bs bs' : List (Str × Str)} {rs rs' : List RoadD} {start : Str} {moment : Int} {es : List Ent} (G : SG d rs') (S : Sol d kind bs' rs' start moment es) (ndr : (rs.map (·.name)).Nodup) (kr : KeptAll rs rs') (hb : ∀ b, b ∈ bs' ↔ b ∈ bs) : LSol d kind bs rs start moment (tOf es) := by
  have out : ∀ {r'}, r' ∈ rs' → ∃ r ∈ rs, Kept r r' := fun {r'} h => by
    obtain ⟨l, pm, pr⟩ := kr
    obtain ⟨r, hr0, qq⟩ := Paired.mem pr (pm.mem_iff.mpr h)
    exact ⟨r, hr0, qq⟩
  have inn : ∀ {r}, r ∈ rs → ∃ r' ∈ rs', Kept r r' := fun {r} h => by
    obtain ⟨l, pm, pr⟩ := kr
    obtain ⟨r', hr0, qq⟩ := Paired.mem' pr h
    exact ⟨r', pm.mem_iff.mp hr0, qq⟩
  have iff := @tOf_iff d kind bs' rs' start moment es G.nd S
  refine ⟨fun z t h => ?_, fun r hr c => ?_, fun p hp tp ep r hr c => ?_, fun r hr t h => ?_⟩
  · obtain ⟨e, he, r', hr', rfl, rfl⟩ := iff.mp h
    obtain ⟨r, hr, k⟩ := out (S.mem e he r' hr')
    exact ⟨⟨r, hr, k.1.symm⟩, S.ge e he⟩
  · obtain ⟨r', hr', k⟩ := inn hr
    obtain ⟨e, he, en, le⟩ := S.cls _ S.root r' (nx_iff.mpr ⟨hr', by rw [may_keptB k hb]; exact c⟩)
    rw [ar_kept k] at le
    exact ⟨e.t, iff.mpr ⟨e, he, r', en, k.1, rfl⟩, le⟩
  · obtain ⟨q, hq, p', hp', en, rfl⟩ := iff.mp ep
    obtain ⟨p2, hp2, kp⟩ := inn hp
    have e1 := uniq_name G.nd (S.mem q hq p' hp') hp2 (en.trans kp.1.symm)
    subst e1
    obtain ⟨r', hr', k⟩ := inn hr
    obtain ⟨e, he, en2, le⟩ := S.cls q hq r' (by
      rw [hp']
      refine nx_iff.mpr ⟨hr', ?_⟩
      show mayB kind bs' p'.goal (some p'.name) r' = true
      rw [may_keptB k hb, kp.1, kp.2.2.1]
      exact c)
    rw [ar_kept k] at le
    exact ⟨e.t, iff.mpr ⟨e, he, r', en2, k.1, rfl⟩, le⟩
  · obtain ⟨e, he, r2, hr2, en, rfl⟩ := iff.mp h
    obtain ⟨r', hr', k⟩ := inn hr
    have e1 := uniq_name G.nd (S.mem e he r2 hr2) hr' (en.trans k.1.symm)
    subst e1
    obtain ⟨p, hp, _, hn, et⟩ := S.lnk e he r2 hr2
    obtain ⟨m1, m2⟩ := nx_mem hn
    obtain ⟨_, e0, _, ea, ele⟩ := ar_some G.d1 (G.ho r2 m1) (ever_hours m2) p.t
    have mi := G.mi r2 m1
    cases c : p.n with
    | none =>
      rw [c] at hn
      have q := (nx_iff.mp hn).2
      have q' : mayB kind bs' start none r2 = true := q
      rw [may_keptB k hb] at q'
      refine .inl ⟨q', ?_⟩
      rw [et, (S.rt p hp c).1, ar_kept k]
    | some q2 =>
      rw [c] at hn
      have q := (nx_iff.mp hn).2
      have q' : mayB kind bs' q2.goal (some q2.name) r2 = true := q
      obtain ⟨q1, hq1, kq⟩ := out (S.mem p hp q2 c)
      rw [may_keptB k hb, kq.1, kq.2.2.1] at q'
      refine .inr ⟨q1, hq1, p.t, iff.mpr ⟨p, hp, q2, c, kq.1, rfl⟩, by omega, q', ?_⟩
      rw [et, ar_kept k]
end W

set_option Elab.async false
set_option linter.all false
set_option maxRecDepth 100000
set_option maxHeartbeats 1000000
namespace W
open PySem PySem.Spec PyProof.Rows L2 GxR MyG MyS MyR
theorem goodC_lt {c : Nat} (h : goodC c = true) : c < 0x110000 := by
  unfold goodC at h
  rw [Bool.or_eq_true, decide_eq_true_eq, decide_eq_true_eq] at h
  have a : zLet.cps.toList.all (fun c => decide (c < 0x110000)) = true := by decide +kernel
  have b : zDig.cps.toList.all (fun c => decide (c < 0x110000)) = true := by decide +kernel
  rcases h with h | h
  · exact of_decide_eq_true (List.all_eq_true.mp a c h)
  · exact of_decide_eq_true (List.all_eq_true.mp b c h)
theorem isNm_ok {z : Str} (h : isNm z = true) : PyData.strOk z = true := by
  unfold isNm at h
  simp only [Bool.and_eq_true] at h
  have q := h.2
  unfold PyData.strOk
  rw [← Array.all_toList]
  exact List.all_eq_true.mpr fun c hc => decide_eq_true (goodC_lt (List.all_eq_true.mp q c hc))
theorem may_ever {kind place : Str} {bs : List (Str × Str)} {before : Option Str} {r : RoadD} (h : mayB kind bs place before r = true) : r.hours ≠ some [] := by
  unfold mayB at h
  simp only [Bool.and_eq_true] at h
  exact ever_hours h.2.1
theorem okB_of {d : Int} {ks ps : List Str} {rs : List RoadD} {bs : List (Str × Str)} (ok : PartsOk d ks ps rs bs) : OkB bs := fun b hb => by
  obtain ⟨r1, h1, r2, h2, e1, e2, _⟩ := ok.b.ok b hb
  have a := List.all_eq_true.mp ok.r.nm r1.name (List.mem_map.mpr ⟨r1, h1, rfl⟩)
  have c := List.all_eq_true.mp ok.r.nm r2.name (List.mem_map.mpr ⟨r2, h2, rfl⟩)
  rw [e1, e2]
  exact ⟨isNm_ok a, isNm_ok c⟩
theorem isNm_ne {z : Str} (h : isNm z = true) : z ≠ Str.empty := fun e => by
  rw [e] at h
  have : isNm Str.empty = false := by decide +kernel
  rw [this] at h
  cases h
end W

set_option Elab.async false
set_option linter.all false
set_option maxRecDepth 100000
set_option maxHeartbeats 400000
namespace W
open PySem PySem.Spec PyProof.Rows L2 GxR MyG MyS
/-! ### for k13: a drive along a PathTo arrives when its entry says -/
abbrev Stage := Str × Int × Int
def rideL (d : Int) (kind : Str) (bs : List (Str × Str)) : Str → Option Str → Int → List RoadD → List Stage × Bool
  | _, _, _, [] => ([], true)
  | place, before, t, r :: l => if mayB kind bs place before r = true then
      ((r.name, (enterR d r t).getD 0, (enterR d r t).getD 0 + r.minutes) :: (rideL d kind bs r.goal (some r.name) ((enterR d r t).getD 0 + r.minutes) l).1, (rideL d kind bs r.goal (some r.name) ((enterR d r t).getD 0 + r.minutes) l).2)
    else ([], false)
def endL (d : Int) : Str → Option Str → Int → List RoadD → Str × Option Str × Int
  | pl, bf, t, [] => (pl, bf, t)
  | _, _, t, r :: l => endL d r.goal (some r.name) ((enterR d r t).getD 0 + r.minutes) l
theorem endL_snoc {d : Int} {r : RoadD} : ∀ (l : List RoadD) (pl : Str) (bf : Option Str) (t : Int), endL d pl bf t (l ++ [r]) = (r.goal, some r.name, (enterR d r (endL d pl bf t l).2.2).getD 0 + r.minutes)
  | [], _, _, _ => rfl
  | a :: l, pl, bf, t => by
    show endL d a.goal (some a.name) _ (l ++ [r]) = _
    rw [endL_snoc l]
    rfl
theorem ride_snoc {d : Int} {kind : Str} {bs : List (Str × Str)} {r : RoadD} : ∀ (l : List RoadD) (pl : Str) (bf : Option Str) (t : Int), (rideL d kind bs pl bf t l).2 = true → mayB kind bs (endL d pl bf t l).1 (endL d pl bf t l).2.1 r = true →
    rideL d kind bs pl bf t (l ++ [r]) = ((rideL d kind bs pl bf t l).1 ++ [(r.name, (enterR d r (endL d pl bf t l).2.2).getD 0, (enterR d r (endL d pl bf t l).2.2).getD 0 + r.minutes)], true)
  | [], pl, bf, t, _, h => by
    have h' : mayB kind bs pl bf r = true := h
    show (if mayB kind bs pl bf r = true then _ else _) = _
    rw [if_pos h']
    rfl
  | a :: l, pl, bf, t, h1, h2 => by
    by_cases c : mayB kind bs pl bf a = true
    · have e : rideL d kind bs pl bf t (a :: l) = ((a.name, (enterR d a t).getD 0, (enterR d a t).getD 0 + a.minutes) :: (rideL d kind bs a.goal (some a.name) ((enterR d a t).getD 0 + a.minutes) l).1, (rideL d kind bs a.goal (some a.name) ((enterR d a t).getD 0 + a.minutes) l).2) := if_pos c
      have e2 : rideL d kind bs pl bf t (a :: (l ++ [r])) = ((a.name, (enterR d a t).getD 0, (enterR d a t).getD 0 + a.minutes) :: (rideL d kind bs a.goal (some a.name) ((enterR d a t).getD 0 + a.minutes) (l ++ [r])).1, (rideL d kind bs a.goal (some a.name) ((enterR d a t).getD 0 + a.minutes) (l ++ [r])).2) := if_pos c
      rw [e] at h1 ⊢
      have ih := ride_snoc l a.goal (some a.name) ((enterR d a t).getD 0 + a.minutes) h1 h2
      show rideL d kind bs pl bf t (a :: (l ++ [r])) = _
      rw [e2, ih]
      rfl
    · have e : rideL d kind bs pl bf t (a :: l) = ([], false) := if_neg c
      rw [e] at h1
      cases h1
theorem path_end {d : Int} {kind start : Str} {bs : List (Str × Str)} {rs : List RoadD} {moment : Int} {es : List Ent} (G : SG d rs) (S : Sol d kind bs rs start moment es) {n : Node} {l : List RoadD} (h : PathTo es n l) :
    ∀ e ∈ es, e.n = n → (rideL d kind bs start none moment l).2 = true ∧ endL d start none moment l = (plN start n, n.map (·.name), e.t) ∧ (n ≠ none → ∃ s, (rideL d kind bs start none moment l).1.getLast? = some s ∧ s.2.2 = e.t) := by
  induction h with
  | root => exact fun e he hn => ⟨rfl, by rw [(S.rt e he hn).1]; rfl, fun c => absurd rfl c⟩
  | step e' p r l he' hn' hp hv hpath ih =>
    intro e he hn
    obtain rfl := ent_ext S.nd he he' (hn.trans hn'.symm)
    obtain ⟨p', hp', epv, hnx, et⟩ := S.lnk e he r hn
    rw [hv] at epv
    obtain rfl := ent_ext S.nd hp hp' (Option.some.inj epv)
    obtain ⟨i1, i2, _⟩ := ih p hp rfl
    have hm : mayB kind bs (plN start p.n) (p.n.map (·.name)) r = true := by
      cases c : p.n with
      | none => rw [c] at hnx; exact (List.mem_filter.mp hnx).2
      | some r' => rw [c] at hnx; exact (List.mem_filter.mp hnx).2
    have hr1 := S.mem e he r hn
    obtain ⟨_, en, hen, ea, _⟩ := ar_some G.d1 (G.ho r hr1) (may_ever hm) p.t
    have ht : (enterR d r p.t).getD 0 + r.minutes = e.t := by rw [hen, et, ea]; rfl
    have rs' := ride_snoc (r := r) l start none moment i1 (by rw [i2]; exact hm)
    rw [i2] at rs'
    refine ⟨by rw [rs'], ?_, fun _ => ?_⟩
    · rw [endL_snoc, i2]
      show (r.goal, some r.name, (enterR d r p.t).getD 0 + r.minutes) = _
      rw [ht]
      rfl
    · rw [rs']
      refine ⟨(r.name, (enterR d r p.t).getD 0, (enterR d r p.t).getD 0 + r.minutes), by rw [List.getLast?_append]; rfl, ht⟩
end W

set_option Elab.async false
set_option linter.all false
set_option maxRecDepth 100000
set_option maxHeartbeats 800000
namespace W
open PySem PySem.Spec PyProof.Rows L2 GxR MyG MyS MyR
/-! ### _law_ride -/
abbrev sLRide : Stmt := top 73
def placeAt (start : Str) (ro : List RoadD) : Nat → Str
  | 0 => start
  | j + 1 => (ro[j]?.map (·.goal)).getD start
def beforeAt (ro : List RoadD) : Nat → Option Str
  | 0 => none
  | j + 1 => ro[j]?.map (·.name)
theorem placeAt_succ {start : Str} {ro : List RoadD} {i : Nat} {r : RoadD} (h : ro[i]? = some r) : placeAt start ro (i + 1) = r.goal := by
  show (ro[i]?.map (·.goal)).getD start = r.goal
  rw [h]; rfl
theorem beforeAt_succ {ro : List RoadD} {i : Nat} {r : RoadD} (h : ro[i]? = some r) : beforeAt ro (i + 1) = some r.name := by
  show ro[i]?.map (·.name) = some r.name
  rw [h]; rfl
theorem names_at {ro : List RoadD} {i : Nat} {r : RoadD} (h : ro[i]? = some r) : ((ro.map (·.name)).map V.str)[i]? = some (.str r.name) := by
  rw [List.getElem?_map, List.getElem?_map, h]; rfl
def StageAt (K : PySem.W.Frag) (H : Hp) (s : Stage) (v : V) : Prop := ∃ q, v = .ref q ∧ SqT K H q [.str s.1, .int s.2.1, .int s.2.2]
theorem StageAt.keep {K : PySem.W.Frag} {H H' : Hp} {s : Stage} {v : V} (k : KeepT K H H') (g : StageAt K H s v) : StageAt K H' s v := let ⟨q, e, h⟩ := g; ⟨q, e, k _ _ h⟩
def StagesAt (K : PySem.W.Frag) (H : Hp) (p : Addr) (ss : List Stage) : Prop := ∃ xs, H p = some (.lst xs) ∧ Paired (StageAt K H) ss xs
theorem RoadsOk.nm1 {d : Int} {ps ks : List Str} {rs : List RoadD} (h : RoadsOk d ps ks rs) {r : RoadD} (hr : r ∈ rs) : isNm r.name = true := List.all_eq_true.mp h.nm _ (List.mem_map.mpr ⟨r, hr, rfl⟩)
theorem PartsOk.okB {d : Int} {ks ps : List Str} {rs : List RoadD} {bs : List (Str × Str)} (h : PartsOk d ks ps rs bs) : OkB bs := fun b hb => by
  obtain ⟨_, _, c⟩ := h.b
  obtain ⟨r1, h1, r2, h2, e1, e2, _⟩ := c b hb
  exact ⟨by rw [e1]; exact isNm_ok (h.r.nm1 h1), by rw [e2]; exact isNm_ok (h.r.nm1 h2)⟩
theorem beforeAt_mem {ro : List RoadD} {z : Str} : ∀ {i : Nat}, beforeAt ro i = some z → ∃ r ∈ ro, r.name = z
  | 0, h => by cases h
  | i + 1, h => by
    have h' : ro[i]?.map (·.name) = some z := h
    obtain ⟨r, e, en⟩ := Option.map_eq_some_iff.mp h'
    exact ⟨r, List.mem_of_getElem? e, en⟩
def spLRide (K : PySem.W.Frag) (P : Addr) : Sp := fun vs H Q _ => ∃ (q L : Addr) (kind start : Str) (t d : Int) (ps ks : List Str) (rs : List RoadD) (bs : List (Str × Str)) (ro : List RoadD), vs = [.ref q, .str kind, .str start, .int t, .ref L] ∧ PartsAt K H q d ps ks rs bs ∧ PartsOk d ks ps rs bs ∧ rs.length ≤ 9 ∧
  SqL K H L ((ro.map (·.name)).map V.str) ∧ (∀ r ∈ ro, r ∈ rs) ∧ ro.length ≤ 1000 ∧ 0 ≤ t ∧ TabG H P ∧ ∀ H' tp p ss wh, Grew P H H' → rideL d kind bs start none t ro = (ss, wh) → H' tp = some (.tup [.ref p, .bl wh]) → StagesAt K H' p ss → Q (.ref tp) H'
section
variable {Pg : Program} {w : World} {K : PySem.W.Frag} {mg : Str → Option Value} {base : Heap} {C P : Addr}
abbrev nLRide : List Str := ["parts", "kind", "start", "moment", "route", "stages", "place", "before", "name", "road", "entered"]
theorem scLRide : FnScope nLRide ["parts", "kind", "start", "moment", "route"] (defScope sLRide) := ⟨rfl, rfl, rfl, by decide +kernel, rfl, by decide +kernel, by decide +kernel⟩
theorem ok_lride {f fR fM fS : Addr} {fd fdR fdM fdS : FuncData} (F : Fun K "_law_ride" "_law_ride" sLRide f fd)
    (GR : FnOk Pg w K mg base CX0 1 fR fdR ["parts", "name"] (spLRoad K P)) (gR : mg "_law_road" = some (.ref fR)) (kR : PySem.W.keepIn K (.ref fR) = true) (bR : Binds K fdR ["parts", "name"] [])
    (GM : FnOk Pg w K mg base CX0 1 fM fdM ["parts", "kind", "place", "before", "road"] (spLMay K P)) (gM : mg "_law_may" = some (.ref fM)) (kM : PySem.W.keepIn K (.ref fM) = true) (bM : Binds K fdM ["parts", "kind", "place", "before", "road"] [])
    (GS : FnOk Pg w K mg base CX0 1 fS fdS ["day", "hours", "moment"] (spLWhen K enterD)) (gS : mg "_law_soon" = some (.ref fS)) (kS : PySem.W.keepIn K (.ref fS) = true) (bS : Binds K fdS ["day", "hours", "moment"] []) :
    FnOk Pg w K mg base CX0 2 f fd ["parts", "kind", "start", "moment", "route"] (spLRide K P) := by
  refine F.ok scLRide (fun vs H Q E h => ?_) (fun cdv A outer s H vs Q E hr h => ?_)
  · obtain ⟨q, L, kind, start, t, d, ps, ks, rs, bs, ro, rfl, _⟩ := h
    rfl
  · obtain ⟨q, L, kind, start, t, d, ps, ks, rs, bs, ro, rfl, hq, ok, h9, hL, hro, hl, ht, hP, k⟩ := h
    refine ⟨_, pss_cons (ps_set (i := 5) scLRide.nd rfl (Or.inl rfl) (pe_lst pa_nil))
      (pss_cons (ps_set (i := 6) scLRide.nd rfl (Or.inl rfl) (pv 2))
      (pss_cons (ps_set (i := 7) scLRide.nd rfl (Or.inl rfl) pe_non)
      (pss_cons (ps_for PassesOwn.never rfl (pi_list (pv 4)) (pg_name (i := 8) scLRide.nd rfl (Or.inl rfl))
        (pss_cons (ps_set (i := 9) scLRide.nd rfl (Or.inl rfl) (pe_call GR hr (by rfl) gR kR bR .nil pass0 (pa_cons (pv 0) (pa_cons (pv 8) pa_nil))))
        (pss_cons (ps_if (pt_not (pt_val (pe_call GM hr (by rfl) gM kM bM .nil pass0 (pa_cons (pv 0) (pa_cons (pv 1) (pa_cons (pv 6) (pa_cons (pv 7) (pa_cons (pv 9) pa_nil)))))))) (pss_one (ps_ret (pe_tup (pa_cons (pv 5) (pa_cons pe_bl pa_nil))))) pss_nil)
        (pss_cons (ps_set (i := 10) scLRide.nd rfl (Or.inl rfl) (pe_call GS hr (by rfl) gS kS bS .nil pass0 (pa_cons (pe_ix ix_list (pv 0) pe_int (fun _ _ => rfl)) (pa_cons (pe_ix ix_tup (pv 9) pe_int (fun _ _ => rfl)) (pa_cons (pv 3) pa_nil)))))
        (pss_cons (ps_set (i := 3) scLRide.nd rfl (Or.inl rfl) (pe_op op_add (pv 10) (pe_ix ix_tup (pv 9) pe_int (fun _ _ => rfl))))
        (pss_cons (ps_expr (pe_bm PySem.F.plainAttrs_list PySem.F.slot_list_append PySem.F.type_list_append mt_append (pv 5) (pa_cons (pe_tup (pa_cons (pv 8) (pa_cons (pv 10) (pa_cons (pv 3) pa_nil)))) pa_nil)))
        (pss_cons (ps_set (i := 6) scLRide.nd rfl (Or.inl rfl) (pe_ix ix_tup (pv 9) pe_int (fun _ _ => rfl)))
        (pss_one (ps_set (i := 7) scLRide.nd rfl (Or.inl rfl) (pv 8))))))))))
      (pss_one (ps_ret (pe_tup (pa_cons (pv 5) (pa_cons pe_bl pa_nil)))))))), ?_⟩
    refine ⟨Nat.zero_le _, fun p np => ?_⟩
    have g1 := Grew.new hP (o := .lst []) np
    obtain ⟨ss, wh, eride⟩ : ∃ ss wh, rideL d kind bs start none t ro = (ss, wh) := ⟨_, _, rfl⟩
    refine ⟨_, rfl, _, rfl, L, rfl, ⟨_, g1.sqL hP hL⟩, for_list (K := K) (a := L) (xs := (ro.map (·.name)).map V.str) (fun i σ H' => ∃ v8 v9 v10, ∃ (acc : List Stage) (xs : List V) (t' : Int), σ = [some (.ref q), some (.str kind), some (.str start), some (.int t'), some (.ref L), some (.ref p), some (.str (placeAt start ro i)), some (optS (beforeAt ro i)), v8, v9, v10] ∧
        Grew P H H' ∧ H' p = some (.lst xs) ∧ Paired (StageAt K H') acc xs ∧ acc.length = i ∧ 0 ≤ t' ∧ rideL d kind bs start none t ro = (acc ++ (rideL d kind bs (placeAt start ro i) (beforeAt ro i) t' (ro.drop i)).1, (rideL d kind bs (placeAt start ro i) (beforeAt ro i) t' (ro.drop i)).2))
      ⟨none, none, none, [], [], t, rfl, g1, upd_same, .nil, rfl, ht, rfl⟩ (fun i σ H' _ ⟨_, _, _, _, _, _, _, g', _⟩ => g'.sqL hP hL) ?_ ?_⟩
    · rintro i y σ H' hi ⟨v8, v9, v10, acc, xs, t', rfl, g', hp, hacc, lacc, ht', er⟩
      have hi2 : i < ro.length := by
        have q := (List.getElem?_eq_some_iff.mp hi).1
        rw [List.length_map, List.length_map] at q
        exact q
      obtain ⟨r, er0⟩ : ∃ r, ro[i]? = some r := ⟨_, List.getElem?_eq_getElem hi2⟩
      have hrm := hro r (List.mem_of_getElem? er0)
      obtain rfl : y = .str r.name := by
        rw [names_at er0] at hi
        exact (Option.some.inj hi).symm
      have e0 : ro[i] = r := by
        rw [List.getElem?_eq_getElem hi2] at er0
        exact Option.some.inj er0
      have hd := List.drop_eq_getElem_cons hi2
      rw [e0] at hd
      -- road
      refine ⟨_, rfl, _, rfl, q, d, ps, ks, rs, bs, r, rfl, hq.grew g' hP, ok.r.nd, h9, hrm, g'.tab, fun H2 v g2 hv => ?_⟩
      have g02 := g'.trans g2
      -- may
      refine ⟨_, rfl, _, rfl, _, rfl, _, rfl, _, rfl, q, d, ps, ks, rs, bs, kind, placeAt start ro i, beforeAt ro i, r, v, rfl, hq.grew g02 hP, ok.okB, fun z hz => ?_, isNm_ok (ok.r.nm1 hrm), hv, g02.tab, fun H3 g3 => ⟨_, rfl, ?_⟩⟩
      · obtain ⟨r', h', e'⟩ := beforeAt_mem hz
        rw [← e']
        exact isNm_ok (ok.r.nm1 (hro r' h'))
      have g03 := g02.trans g3
      have g'3 := g2.trans g3
      cases cm : mayB kind bs (placeAt start ro i) (beforeAt ro i) r with
      | false =>
        have e3 : ss = acc ∧ wh = false := by
          rw [eride, hd] at er
          unfold rideL at er
          rw [cm, if_neg Bool.false_ne_true] at er
          injection er with u1 u2
          exact ⟨by rw [u1]; exact List.append_nil _, u2⟩
        refine iteT ⟨_, rfl, by show 2 ≤ sizeLine; decide, fun tp ntp => ?_⟩
        have g4 := Grew.new g03.tab (o := .tup [.ref p, .bl false]) ntp
        rw [e3.1, e3.2] at eride
        exact k _ tp p acc false (g03.trans g4) eride upd_same ⟨xs, (g'3.trans g4).lst g'.tab hp, Paired.map' hacc fun _ _ m => m.keep (KeepT.grew (g'3.trans g4) g'.tab)⟩
      | true =>
        refine iteF ?_
        have hne : r.hours ≠ some [] := fun e => by
          unfold mayB everB at cm
          rw [e] at cm
          simp at cm
        obtain ⟨ev, eev⟩ := enter_is (d := d) (t := t') hne
        have eev' : enterR d r t' = some ev := eev
        have okr := ok.r.ok r hrm
        have hge := enter_ge ok.d1 okr.h eev
        obtain ⟨pl, ki, ro2, ba, xs2, zs2, eq, _⟩ := hq.grew g03 hP
        obtain ⟨tt, u, hv', rfl, hT, hU, hH⟩ := hv.keep (KeepT.grew g3 g02.tab)
        refine ⟨_, rfl, q, _, 0, _, rfl, rfl, SqL.of eq, rfl, _, rfl, tt, _, 5, _, rfl, rfl, hT, rfl, _, rfl, d, t', r.hours, hv', rfl, ok.d1, ok.d2, ht', hH, okr.h, ?_⟩
        rw [eev]
        refine ⟨_, rfl, _, rfl, tt, _, 3, _, rfl, rfl, hT, rfl, _, _, rfl, rfl, ?_⟩
        refine ⟨_, rfl, .inl ⟨rfl, _, SqL.of (g'3.lst g'.tab hp)⟩, _, rfl, _, rfl, _, rfl, by show 3 ≤ sizeLine; decide, fun q5 nq5 => ?_⟩
        have gq := Grew.new g03.tab (o := .tup [.str r.name, .int ev, .int (ev + r.minutes)]) nq5
        have gall := g'3.trans gq
        have hp6 := gall.lst g'.tab hp
        have kt := KeepT.lst (K := K) (o := .lst (xs ++ [.ref q5])) hp6
        have lx := Paired.len hacc
        have hmn := okr.m1
        have hT6 := kt _ _ (gq.sqT g03.tab hT)
        refine ⟨p, _, _, rfl, rfl, hp6, by rw [sizeLine_eq]; omega, ?_⟩
        refine ⟨_, rfl, tt, _, 2, _, rfl, rfl, hT6, rfl, _, rfl, some (.str r.name), some (.ref tt), some (.int ev), acc ++ [(r.name, ev, ev + r.minutes)], xs ++ [.ref q5], ev + r.minutes, ?_, (g03.trans gq).write hp6 (fun _ z => by cases z) np, upd_same, ?_, ?_, by omega, ?_⟩
        · rw [placeAt_succ er0, beforeAt_succ er0]
          rfl
        · exact Paired.snoc (Paired.map' hacc fun s v m => (m.keep (KeepT.grew gall g'.tab)).keep kt) ⟨q5, rfl, kt _ _ (SqT.of upd_same)⟩
        · rw [List.length_append, lacc]; rfl
        · rw [er, hd, placeAt_succ er0, beforeAt_succ er0]
          conv => lhs; unfold rideL
          rw [cm, if_pos rfl, eev']
          simp only [Option.getD_some, List.append_assoc, List.singleton_append]
    · rintro σ H' ⟨v8, v9, v10, acc, xs, t', rfl, g', hp, hacc, lacc, ht', er⟩
      have e3 : ss = acc ∧ wh = true := by
        rw [eride, List.length_map, List.length_map, List.drop_length] at er
        unfold rideL at er
        injection er with u1 u2
        exact ⟨by rw [u1]; exact List.append_nil _, u2⟩
      refine ⟨_, rfl, by show 2 ≤ sizeLine; decide, fun tp ntp => ?_⟩
      have g4 := Grew.new g'.tab (o := .tup [.ref p, .bl true]) ntp
      rw [e3.1, e3.2] at eride
      exact k _ tp p acc true (g'.trans g4) eride upd_same ⟨xs, g4.lst g'.tab hp, Paired.map' hacc fun _ _ m => m.keep (KeepT.grew g4 g'.tab)⟩
end
end W

set_option Elab.async false
set_option linter.all false
set_option maxRecDepth 100000
set_option maxHeartbeats 1000000
namespace W
open PySem PySem.Spec PyProof.Rows L2 GxR MyG MyS MyR
/-! ### _law_walk -/
abbrev sLWalk : Stmt := top 74
def walkOk (kind : Str) (bs : List (Str × Str)) : Str → Option Str → List RoadD → Prop
  | _, _, [] => True
  | pl, bf, r :: l => mayB kind bs pl bf r = true ∧ walkOk kind bs r.goal (some r.name) l
def endP : Str → Option Str → List RoadD → Str × Option Str
  | pl, bf, [] => (pl, bf)
  | _, _, r :: l => endP r.goal (some r.name) l
theorem walk_snoc {kind : Str} {bs : List (Str × Str)} {r : RoadD} : ∀ {l : List RoadD} {pl : Str} {bf : Option Str}, walkOk kind bs pl bf l → mayB kind bs (endP pl bf l).1 (endP pl bf l).2 r = true → walkOk kind bs pl bf (l ++ [r]) ∧ endP pl bf (l ++ [r]) = (r.goal, some r.name)
  | [], _, _, _, h => ⟨⟨h, trivial⟩, rfl⟩
  | _ :: _, _, _, h1, h => ⟨⟨h1.1, (walk_snoc h1.2 h).1⟩, (walk_snoc h1.2 h).2⟩
def spLWalk (K : PySem.W.Frag) (P : Addr) : Sp := fun vs H Q _ => ∃ (q a : Addr) (kind start : Str) (at_ : Int) (many : Nat) (d : Int) (ps ks : List Str) (rs : List RoadD) (bs : List (Str × Str)) (ns : List Int), vs = [.ref q, .str kind, .str start, .ref a, .int at_, .int many] ∧ PartsAt K H q d ps ks rs bs ∧ PartsOk d ks ps rs bs ∧ rs.length ≤ 9 ∧
  SqL K H a (ns.map V.int) ∧ Sm ns ∧ 0 ≤ at_ ∧ at_ + many ≤ ns.length ∧ many ≤ 10 ∧ TabG H P ∧ ∀ H' p (ro : List RoadD), Grew P H H' → H p = none → H' p = some (.lst ((ro.map (·.name)).map V.str)) → (∀ r ∈ ro, r ∈ rs) → walkOk kind bs start none ro → ro.length ≤ many → Q (.ref p) H'
abbrev nLWalk : List Str := ["parts", "kind", "start", "numbers", "at", "many", "route", "place", "before", "k", "choices", "road"]
theorem scLWalk : FnScope nLWalk ["parts", "kind", "start", "numbers", "at", "many"] (defScope sLWalk) := ⟨rfl, rfl, rfl, by decide +kernel, rfl, by decide +kernel, by decide +kernel⟩
section
variable {Pg : Program} {w : World} {K : PySem.W.Frag} {mg : Str → Option Value} {base : Heap} {C P : Addr}
theorem ok_lwalk {f fM : Addr} {fd fdM : FuncData} (F : Fun K "_law_walk" "_law_walk" sLWalk f fd) (hi : mg "int" = none) (hl : mg "len" = none) (hr' : mg "range" = none)
    (GM : FnOk Pg w K mg base CX0 1 fM fdM ["parts", "kind", "place", "before", "road"] (spLMay K P)) (gM : mg "_law_may" = some (.ref fM)) (kM : PySem.W.keepIn K (.ref fM) = true) (bM : Binds K fdM ["parts", "kind", "place", "before", "road"] []) :
    FnOk Pg w K mg base CX0 2 f fd ["parts", "kind", "start", "numbers", "at", "many"] (spLWalk K P) := by
  refine F.ok scLWalk (fun vs H Q E h => ?_) (fun cdv A outer s H vs Q E hr h => ?_)
  · obtain ⟨q, a, kind, start, at_, many, d, ps, ks, rs, bs, ns, rfl, _⟩ := h
    rfl
  · obtain ⟨q, a, kind, start, at_, many, d, ps, ks, rs, bs, ns, rfl, hq, ok, h9, hS, hsm, h0, h1, h8, hP, k⟩ := h
    refine ⟨_, pss_cons (ps_set (i := 6) scLWalk.nd rfl (Or.inl rfl) (pe_lst pa_nil))
      (pss_cons (ps_set (i := 7) scLWalk.nd rfl (Or.inr rfl) (pv 2))
      (pss_cons (ps_set (i := 8) scLWalk.nd rfl (Or.inr rfl) pe_non)
      (pss_cons (ps_for PassesOwn.never rfl (pi_range1 rfl hr' (pa_cons (pv 5) pa_nil)) (pg_name (i := 9) scLWalk.nd rfl (Or.inl rfl))
        (pss_cons (ps_setLc (i := 10) (own := [("road", 11)]) (g := gName 11) (tt := _) rfl scLWalk.nd rfl rfl (sw_true rfl rfl rfl (by decide +kernel)) (pi_list (pe_ix ix_list (pv 0) pe_int (fun _ _ => rfl))) (blkOk_by (N := nLWalk) (sc := defScope sLWalk) (by decide +kernel))
          (fun _ _ _ _ _ => pg_name (i := 11) scLWalk.nd rfl (Or.inl rfl)) (fun _ _ _ _ _ => pts_one (pt_val (pe_call GM hr (by rfl) gM kM bM .nil pass0 (pa_cons (pv 0) (pa_cons (pv 1) (pa_cons (pv 7) (pa_cons (pv 8) (pa_cons (pv 11) pa_nil)))))))) (fun _ _ _ _ _ => pv 11))
        (pss_one (ps_if (pt_cmpR op_gt (pe_callB call_len_seq (by rfl) hl PySem.boot_len (pa_cons (pv 10) pa_nil)) pe_int (nomark _))
          (pss_cons (ps_set (i := 11) scLWalk.nd rfl (Or.inl rfl) (pe_ix ix_list (pv 10) (pe_op op_mod (pe_callTy call_int1 (by rfl) hi (by decide +kernel) (pa_cons (pe_ix ix_list (pv 3) (pe_op op_add (pv 4) (pv 9)) (fun _ _ => rfl)) pa_nil)) (pe_callB call_len_seq (by rfl) hl PySem.boot_len (pa_cons (pv 10) pa_nil))) (fun _ _ => rfl)))
          (pss_cons (ps_expr (pe_bm PySem.F.plainAttrs_list PySem.F.slot_list_append PySem.F.type_list_append mt_append (pv 6) (pa_cons (pe_ix ix_tup (pv 11) pe_int (fun _ _ => rfl)) pa_nil)))
          (pss_cons (ps_set (i := 7) scLWalk.nd rfl (Or.inr rfl) (pe_ix ix_tup (pv 11) pe_int (fun _ _ => rfl)))
          (pss_one (ps_set (i := 8) scLWalk.nd rfl (Or.inr rfl) (pe_ix ix_tup (pv 11) pe_int (fun _ _ => rfl))))))) pss_nil))))
      (pss_one (ps_ret (pv 6)))))), ?_⟩
    refine ⟨Nat.zero_le _, fun p np => ?_⟩
    have g1 := Grew.new hP (o := .lst []) np
    have okn : ∀ r ∈ rs, PyData.strOk r.name = true := fun r hr => isNm_ok (ok.r.nm1 hr)
    refine ⟨_, rfl, _, rfl, many, rfl, by omega, by omega, for_range (n := many) (fun i σ H' => ∃ v9 v10 v11, ∃ (place : Str) (before : Option Str) (ro : List RoadD), σ = [some (.ref q), some (.str kind), some (.str start), some (.ref a), some (.int at_), some (.int many), some (.ref p), some (.str place), some (optS before), v9, v10, v11] ∧
        Grew P H H' ∧ H' p = some (.lst ((ro.map (·.name)).map V.str)) ∧ (∀ r ∈ ro, r ∈ rs) ∧ (walkOk kind bs start none ro ∧ endP start none ro = (place, before)) ∧ ro.length ≤ i ∧ ∀ z, before = some z → PyData.strOk z = true)
      ⟨none, none, none, start, none, [], rfl, g1, upd_same, fun _ h => (by cases h), ⟨trivial, rfl⟩, Nat.zero_le _, fun _ h => (by cases h)⟩ ?_ ?_⟩
    · rintro i σ H' hi ⟨v9, v10, v11, place, before, ro, rfl, g', hp, hro, hwk, lro, hbe⟩
      obtain ⟨pl, ki, rl, ba, xs, zs2, eq, epl, eki, ero, hrs, eba, hbs⟩ := hq.grew g' hP
      have hq' := hq.grew g' hP
      refine ⟨_, rfl, q, _, 3, _, rfl, rfl, SqL.of eq, rfl, rl, rfl, ⟨_, SqL.of ero⟩, fun D nD => lc_list (K := K) (a := rl) (xs := xs) (fun j H1 => Grew P H' H1 ∧ ∃ (ys : List V) (sub : List RoadD), H1 D = some (.lst ys) ∧ Paired (GRoad K H1) sub ys ∧ (∀ r ∈ sub, r ∈ rs ∧ mayB kind bs place before r = true) ∧ sub.length ≤ j)
        ⟨Grew.new g'.tab nD, [], [], upd_same, .nil, fun _ h => (by cases h), Nat.zero_le _⟩ (fun j H1 _ pp => SqL.of (pp.1.lst g'.tab ero)) (fun j y H1 hj pp => ?_) (fun H1 pp => ?_)⟩
      · obtain ⟨g2, ys, sub, hD, hys, hsub, lsub⟩ := pp
        obtain ⟨r, hr0, hroad0⟩ := Paired.at hrs hj
        have hroad := hroad0.keep (KeepT.grew g2 g'.tab)
        have hrm := List.mem_of_getElem? hr0
        have hjl : j < rs.length := (List.getElem?_eq_some_iff.mp hr0).1
        refine ⟨rfl, _, rfl, _, rfl, _, rfl, _, rfl, _, rfl, q, d, ps, ks, rs, bs, kind, place, before, r, y, rfl, hq'.grew g2 g'.tab, ok.okB, hbe, okn r hrm, hroad, g2.tab, fun H2 g3 => ⟨_, rfl, ?_⟩⟩
        have g23 := g2.trans g3
        have hD2 := g3.lst g2.tab hD
        have hys2 : Paired (GRoad K H2) sub ys := Paired.map' hys fun _ _ m => m.keep (KeepT.grew g3 g2.tab)
        have ly := Paired.len hys
        have kt := KeepT.lst (K := K) (o := .lst (ys ++ [y])) hD2
        refine ite2 (fun c => ?_) (fun c => ?_)
        · refine ⟨_, rfl, ys, hD2, by rw [sizeLine_eq]; omega, g23.write hD2 (fun _ z => by cases z) nD, _, sub ++ [r], upd_same, Paired.snoc (Paired.map' hys2 fun _ _ m => m.keep kt) ((hroad.keep (KeepT.grew g3 g2.tab)).keep kt), fun r' h' => ?_, by rw [List.length_append, List.length_singleton]; omega⟩
          rcases List.mem_append.mp h' with h' | h'
          · exact hsub r' h'
          · rw [List.mem_singleton.mp h']; exact ⟨hrm, c⟩
        · exact ⟨g23, ys, sub, hD2, hys2, hsub, by omega⟩
      · obtain ⟨g2, ys, sub, hD, hys, hsub, lsub⟩ := pp
        have g02 := g'.trans g2
        have ly := Paired.len hys
        have hp2 := g2.lst g'.tab hp
        refine ⟨_, rfl, D, _, rfl, .inl (SqL.of hD), _, _, rfl, rfl, _, rfl, ?_⟩
        refine ite2 (fun c => ?_) (fun c => ?_)
        · have c' : (0 : Int) < ys.length := of_decide_eq_true c
          obtain ⟨n0, e0, l0, u0⟩ := at_num hsm (i := at_ + (0 + (i : Int))) (by omega) (by omega)
          have hb0 : 0 ≤ n0 % ys.length := Int.emod_nonneg _ (by omega)
          have hb1 : n0 % ys.length < ys.length := Int.emod_lt_of_pos _ c'
          obtain ⟨jx, hjx⟩ := Int.eq_ofNat_of_zero_le hb0
          have hjl : jx < ys.length := by omega
          obtain ⟨r, hr, t, u, hv, ey, hT, hU, hH⟩ := Paired.at hys (List.getElem?_eq_getElem hjl)
          have ey2 : ys[jx]? = some (.ref t) := by rw [List.getElem?_eq_getElem hjl, ey]
          have hrm := (hsub r (List.mem_of_getElem? hr)).1
          have hmy := (hsub r (List.mem_of_getElem? hr)).2
          have hw2 := walk_snoc (r := r) hwk.1 (by rw [hwk.2]; exact hmy)
          refine ⟨_, rfl, _, rfl, _, rfl, _, rfl, _, _, rfl, rfl, a, _, _, _, rfl, rfl, g02.sqL hP hS, e0, .inl ⟨_, rfl, _, rfl, D, _, rfl, .inl (SqL.of hD), _, _, rfl, rfl, c', D, _, _, _, rfl, rfl, SqL.of hD, by rw [hjx]; exact atI_nat ey2, ?_⟩⟩
          refine ⟨_, rfl, .inl ⟨rfl, _, SqL.of hp2⟩, _, rfl, t, _, 0, _, rfl, rfl, hT, rfl, p, _, _, rfl, rfl, hp2, by rw [List.length_map, List.length_map, sizeLine_eq]; omega, ?_⟩
          have kt := KeepT.lst (K := K) (o := .lst ((ro.map (·.name)).map V.str ++ [.str r.name])) hp2
          have hT2 := kt _ _ hT
          refine ⟨_, rfl, t, _, 2, _, rfl, rfl, hT2, rfl, _, rfl, t, _, 0, _, rfl, rfl, hT2, rfl, some (.int (0 + (i : Int))), some (.ref D), some (.ref t), r.goal, some r.name, ro ++ [r], rfl, g02.write hp2 (fun _ z => by cases z) np, ?_, fun r' h' => ?_, hw2, by rw [List.length_append, List.length_singleton]; omega, fun z hz => ?_⟩
          · rw [upd_same, List.map_append, List.map_append]; rfl
          · rcases List.mem_append.mp h' with h' | h'
            · exact hro r' h'
            · rw [List.mem_singleton.mp h']; exact hrm
          · cases hz
            exact okn r hrm
        · exact ⟨some (.int (0 + (i : Int))), some (.ref D), v11, place, before, ro, rfl, g02, hp2, hro, hwk, by omega, hbe⟩
    · rintro σ H' ⟨v9, v10, v11, place, before, ro, rfl, g', hp, hro, hwk, lro, hbe⟩
      exact ⟨_, rfl, k H' p ro g' np hp hro hwk.1 lro⟩
end
end W

set_option Elab.async false
set_option linter.all false
set_option maxRecDepth 100000
set_option maxHeartbeats 1000000
namespace W
open PySem PySem.Spec PyProof.Rows L2 GxR MyG MyS MyR
/-! ### a drive with waiting is no earlier than the entries -/
inductive Drv (d : Int) (kind : Str) (bs : List (Str × Str)) (rs : List RoadD) (start : Str) (moment : Int) : Node → Int → Prop
  | root : Drv d kind bs rs start moment none moment
  | step (p : Node) (t w : Int) (r : RoadD) (h : Drv d kind bs rs start moment p t) (hr : r ∈ rs) (hm : mayB kind bs (plN start p) (p.map (·.name)) r = true) (hw : t ≤ w) : Drv d kind bs rs start moment (some r) (ar d r w)
theorem Drv.ge {d : Int} {kind : Str} {bs bs' : List (Str × Str)} {rs rs' : List RoadD} {start : Str} {moment : Int} {es : List Ent} (G : SG d rs') (S : Sol d kind bs' rs' start moment es) (inn : ∀ r ∈ rs, ∃ r' ∈ rs', Kept r r') (memB : ∀ b, b ∈ bs' ↔ b ∈ bs) {p : Node} {t : Int} (h : Drv d kind bs rs start moment p t) :
    ∃ e ∈ es, e.t ≤ t ∧ plN start e.n = plN start p ∧ e.n.map (·.name) = p.map (·.name) := by
  induction h with
  | root => exact ⟨_, S.root, Int.le_refl _, rfl, rfl⟩
  | step p t w r h hr hm hw ih =>
    obtain ⟨e, he, het, h1, h2⟩ := ih
    obtain ⟨r', hr', k⟩ := inn r hr
    have hm' : mayB kind bs' (plN start e.n) (e.n.map (·.name)) r' = true := by rw [h1, h2, may_keptB k memB]; exact hm
    have hnx : r' ∈ nxN kind bs' rs' start e.n := nx_iff.mpr ⟨hr', by
      cases c : e.n with
      | none => rw [c] at hm'; exact hm'
      | some q => rw [c] at hm'; exact hm'⟩
    obtain ⟨f, hf, en, le⟩ := S.cls e he r' hnx
    have mono := ar_mono G.d1 (G.ho r' hr') (may_ever hm') (Int.le_trans het hw)
    rw [ar_kept k] at le mono
    rw [ar_kept k] at mono
    exact ⟨f, hf, Int.le_trans le mono, by rw [en]; exact k.2.2.1, by rw [en]; show some r'.name = some r.name; rw [k.1]⟩
/-- the place and the road behind which the walk is at number i -/
theorem walk_at {kind : Str} {bs : List (Str × Str)} : ∀ {ro : List RoadD} {pl : Str} {bf : Option Str} {i : Nat} {r : RoadD}, walkOk kind bs pl bf ro → ro[i]? = some r → mayB kind bs (endP pl bf (ro.take i)).1 (endP pl bf (ro.take i)).2 r = true
  | [], _, _, _, _, _, h => by simp at h
  | a :: l, pl, bf, 0, r, h, e => by
    have e' : a = r := Option.some.inj e
    rw [← e']
    exact h.1
  | a :: l, pl, bf, i + 1, r, h, e => by
    rw [List.getElem?_cons_succ] at e
    have q := walk_at (ro := l) (pl := a.goal) (bf := some a.name) h.2 e
    exact q
def nodeAt (ro : List RoadD) : Nat → Node
  | 0 => none
  | i + 1 => ro[i]?
theorem endP_node {start : Str} : ∀ {ro : List RoadD} {i : Nat}, i ≤ ro.length → endP start none (ro.take i) = (plN start (nodeAt ro i), (nodeAt ro i).map (·.name)) := by
  have snoc : ∀ (l : List RoadD) (pl : Str) (bf : Option Str) (r : RoadD), endP pl bf (l ++ [r]) = (r.goal, some r.name) := fun l => by
    induction l with
    | nil => intro _ _ _; rfl
    | cons a l ih => intro pl bf r; exact ih _ _ r
  intro ro i hi
  cases i with
  | zero => rfl
  | succ j =>
    have hj : j < ro.length := hi
    rw [List.take_succ, List.getElem?_eq_getElem hj]
    show endP start none (ro.take j ++ [ro[j]]) = _
    rw [snoc]
    show _ = (plN start ro[j]?, ro[j]?.map (·.name))
    rw [List.getElem?_eq_getElem hj]
    rfl
def DrvZ (d : Int) (kind : Str) (bs : List (Str × Str)) (rs : List RoadD) (start : Str) (moment : Int) (zs : List (Str × Int)) : Prop := ∀ p ∈ zs, ∃ n, Drv d kind bs rs start moment n p.2 ∧ plN start n = p.1
theorem uniq_names {rs : List RoadD} (nd : (rs.map (·.name)).Nodup) : ∀ {a b : List RoadD}, (∀ r ∈ a, r ∈ rs) → (∀ r ∈ b, r ∈ rs) → a.map (·.name) = b.map (·.name) → a = b
  | [], [], _, _, _ => rfl
  | [], _ :: _, _, _, e => by simp at e
  | _ :: _, [], _, _, e => by simp at e
  | x :: a, y :: b, h1, h2, e => by
    rw [List.map_cons, List.map_cons] at e
    injection e with e1 e2
    rw [uniq_name nd (h1 x List.mem_cons_self) (h2 y List.mem_cons_self) e1, uniq_names nd (fun r h => h1 r (List.mem_cons_of_mem _ h)) (fun r h => h2 r (List.mem_cons_of_mem _ h)) e2]
theorem zput_len (zs : List (Str × Int)) (z : Str) (t : Int) : (zput zs z t).length ≤ zs.length + 1 := by
  unfold zput
  split
  · rw [List.length_map]; omega
  · rw [List.length_append]; exact Nat.le_refl _
end W

set_option Elab.async false
set_option linter.all false
set_option maxRecDepth 100000
set_option maxHeartbeats 800000
namespace MyR
open PySem PySem.Spec PyProof.Rows L2
/-! ### repr of data or of None -/
def rRepN (K : PySem.W.Frag) : List V → Hp → VK → Prop := fun xs H Q => (xs = [.non] ∧ Q (.str "None") H) ∨ rRep K xs H Q
theorem call_repN {X : Cx} (hg : X.A.guards = some []) (hu : X.A.units + 64 < cLine) : CallR X (.builtin "repr") (rRepN X.K) := by
  intro pins s σ H xs us Q I r h
  rcases h with ⟨rfl, q⟩ | h
  · obtain ⟨u, rfl, r1⟩ := vals1 r
    obtain rfl : u = Value.none := r1
    exact PySem.P.repr_of_none ⟨.str _, H, I.tok _, ⟨_, rfl⟩, q⟩
  · exact call_repD hg hu pins s σ H xs us Q I r h
end MyR

set_option Elab.async false
set_option linter.all false
set_option maxRecDepth 100000
set_option maxHeartbeats 2000000
namespace W
open PySem PySem.Spec PyProof.Rows L2 GxR MyG MyS MyR
/-- nothing but tables has changed; the table Pr knows its code objects -/
structure Went1 (P Pr : Addr) (q : Str) (H H' : Hp) : Prop where
  old : ∀ b o, H b = some o → (∀ ps, o ≠ .tbl ps) → H' b = some o
  tab : TabG H' P
  tr : LamX.TabS H' Pr q
  free : ∀ b, H' b = none → H b = none
  oth : ∀ b ps, b ≠ P → b ≠ Pr → H b = some (HO.tbl ps) → H' b = some (HO.tbl ps)
theorem tabS_grew {P Pq : Addr} {q : Str} {H H' : Hp} (g : Grew P H H') (hP : TabG H P) (ne : Pq ≠ P) (t : LamX.TabS H Pq q) : LamX.TabS H' Pq q := by
  obtain ⟨ps, h1, h2, h3⟩ := t
  refine ⟨ps, g.old _ _ ne h1, h2, fun pos cv hc => ?_⟩
  obtain ⟨c, e1, e2⟩ := h3 pos cv hc
  exact ⟨c, e1, g.get hP e2 LamX.codeO_ne⟩
theorem tabS_step {P Pq : Addr} {q q' : Str} {H H' : Hp} (st : LamK.LamStep P q' H H') (ne : Pq ≠ P) (t : LamX.TabS H Pq q) : LamX.TabS H' Pq q := by
  obtain ⟨ps, h1, h2, h3⟩ := t
  refine ⟨ps, st.old h1 ne, h2, fun pos cv hc => ?_⟩
  obtain ⟨c, e1, e2⟩ := h3 pos cv hc
  exact ⟨c, e1, st.old' e2 LamX.codeO_ne⟩
theorem tabG_step {P Pq : Addr} {q' : Str} {H H' : Hp} (st : LamK.LamStep P q' H H') (ne : Pq ≠ P) (t : TabG H Pq) : TabG H' Pq := by
  obtain ⟨ps, h1, h2⟩ := t
  exact ⟨ps, st.old h1 ne, h2⟩
theorem MapAt.step {K : PySem.W.Frag} {H H' : Hp} {M x P : Addr} {q : Str} {d : Int} {ks ps : List Str} {rs : List RoadD} {bs : List (Str × Str)} (st : LamK.LamStep P q H H') (m : MapAt K H M x d ks ps rs bs) : MapAt K H' M x d ks ps rs bs := by
  have kt : KeepT K H H' := fun _ _ h => st.sqT h
  have kr : ∀ {r : RoadD} {v : V}, RoadAt K H r v → RoadAt K H' r v := fun {r v} ⟨p, q, hv, e, e1, e2, e3⟩ => ⟨p, q, hv, e, st.old' e1 fun _ z => (by cases z), st.old' e2 fun _ z => (by cases z), e3.keep kt⟩
  obtain ⟨dx, fs, kk, pp, rr, D, bb, D2, ys, zs, hx, F⟩ := m
  refine ⟨dx, fs, kk, pp, rr, D, bb, D2, ys, zs, st.old' hx fun _ z => (by cases z), ?_⟩
  obtain ⟨f0, f1, f2, f3, f4, f5, f6, f7, hk, hp, hr, hry, ⟨kvs, e, m1, m2⟩, hb, hbz, ⟨kvs2, e2, m3⟩⟩ := F
  exact ⟨f0, f1, f2, f3, f4, f5, f6, f7, st.old' hk (fun _ z => by cases z), st.old' hp (fun _ z => by cases z), st.old' hr (fun _ z => by cases z), Paired.map' hry (fun _ _ m => kr m), ⟨kvs, st.old' e (fun _ z => by cases z), fun r hr => let ⟨v, a, b⟩ := m1 r hr; ⟨v, a, kr b⟩, m2⟩, st.old' hb (fun _ z => by cases z), Paired.map' hbz (fun _ _ ⟨t, a, b⟩ => ⟨t, a, st.old' b fun _ z => (by cases z)⟩), ⟨kvs2, st.old' e2 (fun _ z => by cases z), m3⟩⟩
/-! ### nothing but tables has changed -/
section
variable {P Pr : Addr} {q : Str} {H H1 H2 : Hp}
theorem Went1.refl (h : TabG H P) (hr : LamX.TabS H Pr q) : Went1 P Pr q H H := ⟨fun _ _ e _ => e, h, hr, fun _ e => e, fun _ _ _ _ e => e⟩
theorem Went1.trans (a : Went1 P Pr q H H1) (b : Went1 P Pr q H1 H2) : Went1 P Pr q H H2 := ⟨fun c o e n => b.old c o (a.old c o e n) n, b.tab, b.tr, fun c e => a.free c (b.free c e), fun c o n1 n2 e => b.oth c o n1 n2 (a.oth c o n1 n2 e)⟩
theorem Went1.grew (h : TabG H P) (hr : LamX.TabS H Pr q) (ne : Pr ≠ P) (g : Grew P H H1) : Went1 P Pr q H H1 := ⟨fun b o e n => g.get h e n, g.tab, tabS_grew g h ne hr, fun b e => g.free e, fun b _ n1 _ e => g.old b _ n1 e⟩
theorem Went1.more (a : Went1 P Pr q H H1) (ne : Pr ≠ P) (g : Grew P H1 H2) : Went1 P Pr q H H2 := a.trans (Went1.grew a.tab a.tr ne g)
theorem Went1.write (a : Went1 P Pr q H H1) {L : Addr} {o u : HO} (e : H1 L = some u) (d : ∀ ps, u ≠ .tbl ps) (dc : ∀ f, u ≠ .ext f) (n : H L = none) : Went1 P Pr q H (L2.upd H1 L o) := by
  refine ⟨fun b o e n' => ?_, ?_, ?_, fun b e' => ?_, fun b ps n1 n2 e' => ?_⟩
  · by_cases eb : b = L
    · rw [eb, n] at e; cases e
    · rw [upd_ne eb]; exact a.old b o e n'
  · exact tabUpd a.tab (fun z => by obtain ⟨ts, e1, _⟩ := a.tab; rw [← z, e] at e1; cases e1; exact d _ rfl)
  · obtain ⟨ts, h1, h2, h3⟩ := a.tr
    refine ⟨ts, by rw [upd_ne (fun z => by rw [z, e] at h1; cases h1; exact d _ rfl)]; exact h1, h2, fun pos cv hc => ?_⟩
    obtain ⟨c, e1, e2⟩ := h3 pos cv hc
    exact ⟨c, e1, by rw [upd_ne (fun z => by rw [z, e] at e2; exact dc _ (Option.some.inj e2))]; exact e2⟩
  · by_cases eb : b = L
    · rw [eb, upd_same] at e'; cases e'
    · rw [upd_ne eb] at e'; exact a.free b e'
  · have q := a.oth b ps n1 n2 e'
    rw [upd_ne (fun z => by rw [z, n] at e'; cases e')]; exact q
theorem Went1.lam (h : TabG H P) (ne : Pr ≠ P) (st : LamK.LamStep Pr q H H1) : Went1 P Pr q H H1 := by
  refine ⟨fun b o e n => st.old' e n, tabG_step st (Ne.symm ne) h, st.1, fun b e => ?_, fun b ps _ n2 e => st.old e n2⟩
  rcases st.2 with rfl | ⟨ps, more, c', hP, hc, rfl⟩
  · exact e
  · by_cases h1 : b = c'
    · rw [h1]; exact hc
    · rw [upd_ne h1] at e
      by_cases h2 : b = Pr
      · rw [h2, upd_same] at e; cases e
      · rw [upd_ne h2] at e; exact e
theorem Went1.tabS {Px : Addr} {qx : Str} (a : Went1 P Pr q H H1) (n1 : Px ≠ P) (n2 : Px ≠ Pr) (t : LamX.TabS H Px qx) : LamX.TabS H1 Px qx := by
  obtain ⟨ps, h1, h2, h3⟩ := t
  refine ⟨ps, a.oth _ _ n1 n2 h1, h2, fun pos cv hc => ?_⟩
  obtain ⟨c, e1, e2⟩ := h3 pos cv hc
  exact ⟨c, e1, a.old _ _ e2 LamX.codeO_ne⟩
theorem Went1.lst (a : Went1 P Pr q H H1) {b : Addr} {xs : List V} (e : H b = some (.lst xs)) : H1 b = some (.lst xs) := a.old _ _ e fun _ z => by cases z
theorem Went1.tup (a : Went1 P Pr q H H1) {b : Addr} {xs : List V} (e : H b = some (.tup xs)) : H1 b = some (.tup xs) := a.old _ _ e fun _ z => by cases z
theorem Went1.sqT {K : PySem.W.Frag} (h : Went1 P Pr q H H1) {a : Addr} {xs : List V} (m : SqT K H a xs) : SqT K H1 a xs := by
  rcases m with (m | ⟨o, m⟩) | m
  · exact .inl (.inl (h.old _ _ m fun _ z => by cases z))
  · exact .inl (.inr ⟨o, h.old _ _ m fun _ z => by cases z⟩)
  · exact .inr m
theorem MapAt.went1 {K : PySem.W.Frag} {M x : Addr} {d : Int} {ks ps : List Str} {rs : List RoadD} {bs : List (Str × Str)} (st : Went1 P Pr q H H1) (m : MapAt K H M x d ks ps rs bs) : MapAt K H1 M x d ks ps rs bs := by
  have kt : KeepT K H H1 := fun _ _ h => st.sqT h
  have kr : ∀ {r : RoadD} {v : V}, RoadAt K H r v → RoadAt K H1 r v := fun {r v} ⟨p, q, hv, e, e1, e2, e3⟩ => ⟨p, q, hv, e, st.old _ _ e1 fun _ z => (by cases z), st.old _ _ e2 fun _ z => (by cases z), e3.keep kt⟩
  obtain ⟨dx, fs, kk, pp, rr, D, bb, D2, ys, zs, hx, F⟩ := m
  refine ⟨dx, fs, kk, pp, rr, D, bb, D2, ys, zs, st.old _ _ hx fun _ z => (by cases z), ?_⟩
  obtain ⟨f0, f1, f2, f3, f4, f5, f6, f7, hk, hp, hr, hry, ⟨kvs, e, m1, m2⟩, hb, hbz, ⟨kvs2, e2, m3⟩⟩ := F
  exact ⟨f0, f1, f2, f3, f4, f5, f6, f7, st.old _ _ hk (fun _ z => by cases z), st.old _ _ hp (fun _ z => by cases z), st.old _ _ hr (fun _ z => by cases z), Paired.map' hry (fun _ _ m => kr m), ⟨kvs, st.old _ _ e (fun _ z => by cases z), fun r hr => let ⟨v, a, b⟩ := m1 r hr; ⟨v, a, kr b⟩, m2⟩, st.old _ _ hb (fun _ z => by cases z), Paired.map' hbz (fun _ _ ⟨t, a, b⟩ => ⟨t, a, st.old _ _ b fun _ z => (by cases z)⟩), ⟨kvs2, st.old _ _ e2 (fun _ z => by cases z), m3⟩⟩
theorem MIn.went1 {K : PySem.W.Frag} {M x : Addr} {d : Int} {ks ps : List Str} {rs : List RoadD} {bs : List (Str × Str)} (st : Went1 P Pr q H H1) (m : MIn K H M P x d ks ps rs bs) : MIn K H1 M P x d ks ps rs bs := ⟨m.m.went1 st, st.tab, m.nd, m.nl, m.d1, m.ho⟩
end
/-! ### rows and their repr -/
def rowD (p : Str × Int) : PyData := .tuple [.str p.1, .int p.2]
theorem dp_rows {K : PySem.W.Frag} {H : Hp} : ∀ {ls : List (Str × Int)} {ys : List V}, Paired (RowAt H) ls ys → DpAll K H ys (ls.map rowD)
  | _, _, .nil => .nil
  | _, _, .cons h t => by
    obtain ⟨p, rfl, hp⟩ := h
    exact .cons (.tup (SqT.of hp) (.cons (.str _) (.cons (.int _) .nil))) (dp_rows t)
theorem nat_small {i : Int} (h0 : 0 ≤ i) (h1 : i ≤ 1000000) : i.natAbs < 2 ^ 20 := by
  have : (2 : Nat) ^ 20 = 1048576 := by decide
  omega
theorem log_small {i : Int} (h0 : 0 ≤ i) (h1 : i ≤ 1000000) : i.natAbs.log2 ≤ 20 := by
  by_cases z : i.natAbs = 0
  · rw [z]; decide
  · exact Nat.le_of_lt ((Nat.log2_lt z).mpr (nat_small h0 h1))
theorem int_w {i : Int} (h0 : 0 ≤ i) (h1 : i ≤ 1000000) : PyData.weight (.int i) ≤ 21 := by
  have := log_small h0 h1
  simp only [PyData.weight]
  split <;> omega
structure RepOk (d : PyData) : Prop where
  s : d.showable = true
  h : d.hasDict = false
  p : d.depth ≤ 8
  z : d.shown.length ≤ sizeLine
theorem rep_of {d : PyData} (c : d.canLay0 = true) (s : d.showable = true) (i : d.intsShort 13 = true) (p : d.depth ≤ 8) (w : d.weight ≤ 2 ^ 20) : RepOk d :=
  ⟨s, PyData.hasDict_of_canLay d c, p, PyData.shown_fits (B := 13) (by decide) (by decide) (PyData.leavesShort_of_canLay0 13 d c i) w⟩
def SmallR (e : Str × Int) : Prop := PyData.strOk e.1 = true ∧ e.1.cps.size ≤ 12 ∧ 0 ≤ e.2 ∧ e.2 ≤ 1000000
theorem row_all {e : Str × Int} (h : SmallR e) : (rowD e).canLay0 = true ∧ (rowD e).showable = true ∧ (rowD e).intsShort 13 = true ∧ (rowD e).depth ≤ 2 ∧ (rowD e).weight ≤ 50 := by
  obtain ⟨a1, a2, a3, a4⟩ := h
  have b1 : e.2.natAbs < 10 ^ 12 := by
    have : (10 : Nat) ^ 12 = 1000000000000 := by decide
    omega
  have l1 := log_small a3 a4
  have w1 := int_w a3 a4
  have s1 := PyData.shown_int_le b1
  have c1 : e.2.natAbs.log2 < 1920 := by omega
  refine ⟨?_, ?_, ?_, ?_, ?_⟩
  · simp [PyData.canLayAll0, PyData.canLay0, rowD, a1]
  · simp [PyData.showableAll, PyData.showable, rowD, c1]
  · simp [PyData.intsShortAll, PyData.intsShort, rowD, s1]
  · simp [PyData.depthAll, PyData.depth, rowD]
  · have e : PyData.weight (rowD e) = e.1.cps.size + 1 + (PyData.weight (.int e.2) + 1 + 0) := by simp only [rowD, PyData.weight, PyData.weightAll]
    omega
theorem rows_all : ∀ {ls : List (Str × Int)}, (∀ s ∈ ls, SmallR s) → PyData.canLayAll0 (ls.map rowD) = true ∧ PyData.showableAll (ls.map rowD) = true ∧ PyData.intsShortAll 13 (ls.map rowD) = true ∧ PyData.depthAll (ls.map rowD) ≤ 2 ∧ PyData.weightAll (ls.map rowD) ≤ 60 * ls.length
  | [], _ => by simp [PyData.canLayAll0, PyData.showableAll, PyData.intsShortAll, PyData.depthAll, PyData.weightAll]
  | s :: ls, h => by
    obtain ⟨i1, i2, i3, i4, i5⟩ := rows_all (ls := ls) fun x hx => h x (List.mem_cons_of_mem _ hx)
    obtain ⟨a1, a2, a3, a4, a5⟩ := row_all (h s List.mem_cons_self)
    refine ⟨?_, ?_, ?_, ?_, ?_⟩
    · simp only [List.map_cons, PyData.canLayAll0, a1, i1, Bool.and_self]
    · simp only [List.map_cons, PyData.showableAll, a2, i2, Bool.and_self]
    · simp only [List.map_cons, PyData.intsShortAll, a3, i3, Bool.and_self]
    · simp only [List.map_cons, PyData.depthAll]; omega
    · simp only [List.map_cons, PyData.weightAll, List.length_cons]; omega
theorem row_rep {e : Str × Int} (h : SmallR e) : RepOk (rowD e) := by
  obtain ⟨a1, a2, a3, a4, a5⟩ := row_all h
  exact rep_of a1 a2 a3 (by omega) (by rw [show (2 : Nat) ^ 20 = 1048576 by decide]; omega)
theorem rows_rep {ls : List (Str × Int)} (h : ∀ s ∈ ls, SmallR s) (hl : ls.length ≤ 1000) : RepOk (.list (ls.map rowD)) := by
  obtain ⟨i1, i2, i3, i4, i5⟩ := rows_all h
  refine rep_of ?_ ?_ ?_ ?_ ?_
  · simpa [PyData.canLay0] using i1
  · simpa [PyData.showable] using i2
  · simpa [PyData.intsShort] using i3
  · simp only [PyData.depth]; omega
  · have e : PyData.weight (.list (ls.map rowD)) = PyData.weightAll (ls.map rowD) := by simp only [PyData.weight]
    rw [e, show (2 : Nat) ^ 20 = 1048576 by decide]
    omega
/-! ### arrivals have a bound -/
theorem ar_le {d : Int} {r : RoadD} (hd : 1 ≤ d) (ho : HoursOk d r.hours) (hn : r.hours ≠ some []) (t : Int) : ar d r t ≤ t + 2 * d + r.minutes := by
  obtain ⟨_, e, he, ha, hle⟩ := ar_some hd ho hn t
  rw [ha]
  have key : e ≤ t + 2 * d := by
    unfold enterR at he
    obtain ⟨nm, st, go, mi, us, hs⟩ := r
    cases hs with
    | none =>
      obtain rfl := Option.some.inj he
      omega
    | some ps =>
      have q1 := enterD_first (t := t) hd ho.2
      have he' : enterD d (some ps) t = some e := he
      rw [he'] at q1
      obtain ⟨k, k0, k1, ev, _, kn⟩ := q1
      omega
  omega
theorem LSol.bound {d : Int} {kind : Str} {bs : List (Str × Str)} {rs : List RoadD} {start : Str} {moment : Int} {T : Str → Option Int} (d1 : 1 ≤ d) (d2 : d ≤ 1440) (ho : ∀ r ∈ rs, HoursOk d r.hours) (hm : ∀ r ∈ rs, r.minutes ≤ 1000) (A : LSol d kind bs rs start moment T) : ∀ z t, T z = some t → t ≤ moment + 4000 * (rs.length : Nat) := by
  have key : ∀ (n : Nat) (r : RoadD), r ∈ rs → ∀ t, T r.name = some t → rk T rs r.name ≤ n → t ≤ moment + 4000 * (n : Nat) := by
    intro n
    induction n with
    | zero =>
      intro r hr t ht hn
      exfalso
      have : 0 < rk T rs r.name := List.length_pos_of_mem (List.mem_filter.mpr ⟨hr, by unfold leB; rw [ht]; exact decide_eq_true (Int.le_refl _)⟩)
      omega
    | succ n ih =>
      intro r hr t ht hn
      have m := hm r hr
      rcases A.c r hr t ht with ⟨c, e⟩ | ⟨p, hp, tp, ep, lt, c, e⟩
      · have := ar_le d1 (ho r hr) (may_ever c) moment
        omega
      · have := ar_le d1 (ho r hr) (may_ever c) tp
        have q := rk_lt hr ep ht lt
        have := ih p hp tp ep (by omega)
        omega
  intro z t h
  obtain ⟨⟨r, hr, rfl⟩, _⟩ := A.dom z t h
  exact key rs.length r hr t h (List.length_filter_le _ _)
theorem names_asc {ls zs : List (Str × Int)} {ys : List Str} (hasc : AscF ls) (ndl : (ls.map (·.1)).Nodup) (ndz : (zs.map (·.1)).Nodup) (h : ∀ p, p ∈ ls ↔ p ∈ zs) (pm : ys.Perm (zs.map (·.1))) (ha : Asc ys) : ys = ls.map (·.1) := by
  have pz : (ls.map (·.1)).Perm (zs.map (·.1)) := (List.perm_ext_iff_of_nodup ndl ndz).mpr fun z => by
    constructor
    · intro k; obtain ⟨p, a, b⟩ := List.mem_map.mp k; exact List.mem_map.mpr ⟨p, (h p).mp a, b⟩
    · intro k; obtain ⟨p, a, b⟩ := List.mem_map.mp k; exact List.mem_map.mpr ⟨p, (h p).mpr a, b⟩
  refine List.Perm.eq_of_pairwise (le := fun a b => slt b a = false) (fun a b _ _ h1 h2 => slt_tri h2 h1) ha ?_ (pm.trans pz.symm)
  exact List.pairwise_map.mpr hasc
theorem nodup_fst {ls : List (Str × Int)} (h : (ls.map (·.1)).Nodup) : ls.Nodup := (List.pairwise_map.mp h).imp fun {a b} n e => n (by rw [e])
theorem rows_same {ls zs : List (Str × Int)} {ys : List Str} (hasc : AscF ls) (ndl : (ls.map (·.1)).Nodup) (ndz : (zs.map (·.1)).Nodup) (h : ∀ p, p ∈ ls ↔ p ∈ zs) (pm : ys.Perm (zs.map (·.1))) (ha : Asc ys) : (ys.map fun z => (z, (zget zs z).getD 0)) = ls := by
  rw [names_asc hasc ndl ndz h pm ha, List.map_map]
  have : ∀ e ∈ ls, ((fun z => (z, (zget zs z).getD 0)) ∘ fun e : Str × Int => e.1) e = e := fun e he => by
    show (e.1, (zget zs e.1).getD 0) = e
    rw [zget_some ndz ((h e).mp he)]
    rfl
  rw [List.map_congr_left this, List.map_id']
theorem canLay_strs : ∀ {zs : List Str}, (∀ z ∈ zs, PyData.strOk z = true) → PyData.canLayAll0 (zs.map .str) = true
  | [], _ => rfl
  | z :: zs, h => by
    simp [PyData.canLayAll0, PyData.canLay0, h z List.mem_cons_self, canLay_strs (zs := zs) fun x hx => h x (List.mem_cons_of_mem _ hx)]
theorem depth_strs : ∀ zs : List Str, PyData.depthAll (zs.map .str) ≤ 1
  | [] => by simp [PyData.depthAll]
  | z :: zs => by
    have i := depth_strs zs
    simp only [List.map_cons, PyData.depthAll, PyData.depth]
    omega
theorem dp_strs {K : PySem.W.Frag} {H : Hp} : ∀ zs : List Str, DpAll K H (zs.map V.str) (zs.map .str)
  | [] => .nil
  | z :: zs => .cons (.str z) (dp_strs zs)
theorem shaped_strsL {zs : List Str} (h : ∀ z ∈ zs, PyData.strOk z = true) : SeqAt.shaped (PyData.list (zs.map .str)) = true := by
  unfold SeqAt.shaped
  rw [Bool.and_eq_true]
  have := depth_strs zs
  refine ⟨by simpa [PyData.canLay0] using canLay_strs h, decide_eq_true ?_⟩
  simp only [PyData.depth]
  omega
theorem eqv_self {d : PyData} (h : SeqAt.shaped d = true) : PyData.eqv d d = true := by
  unfold SeqAt.shaped at h
  rw [Bool.and_eq_true] at h
  exact SeqAt.eqv_refl _ h.1
theorem zget_nin {zs : List (Str × Int)} {z : Str} : zget zs z = none ↔ z ∉ zs.map (·.1) := by
  constructor
  · intro h hm
    obtain ⟨e, he, en⟩ := List.mem_map.mp hm
    exact zget_none h e he en
  · intro h
    cases c : zget zs z with
    | none => rfl
    | some t => exact absurd (List.mem_map.mpr ⟨_, zget_mem c, rfl⟩) h
theorem shaped_rows {ls : List (Str × Int)} (h : ∀ p ∈ ls, PyData.strOk p.1 = true) : SeqAt.shaped (PyData.list (ls.map rowD)) = true := by
  have key : ∀ {ls : List (Str × Int)}, (∀ p ∈ ls, PyData.strOk p.1 = true) → PyData.canLayAll0 (ls.map rowD) = true ∧ PyData.depthAll (ls.map rowD) ≤ 3 := by
    intro ls
    induction ls with
    | nil => intro _; simp [PyData.canLayAll0, PyData.depthAll]
    | cons p ls ih =>
      intro h
      obtain ⟨a, b⟩ := ih fun q hq => h q (List.mem_cons_of_mem _ hq)
      have s := h p List.mem_cons_self
      constructor
      · simp [PyData.canLayAll0, rowD, PyData.canLay0, a, s]
      · simp only [List.map_cons, PyData.depthAll, rowD, PyData.depth]; omega
  obtain ⟨a, b⟩ := key h
  unfold SeqAt.shaped
  rw [Bool.and_eq_true]
  refine ⟨by simpa [PyData.canLay0] using a, decide_eq_true ?_⟩
  simp only [PyData.depth]
  omega
end W

set_option Elab.async false
set_option linter.all false
set_option maxRecDepth 100000
set_option maxHeartbeats 2000000
namespace W
open PySem PySem.Spec PyProof.Rows L2 GxR MyG MyS MyR
/-! ### _route_to, Meeting.__init__ -/
abbrev sRoTo : Stmt := top 61
abbrev sMtInit : Stmt := inClass (top 56) 0
/-- what _route_to tells of a trip -/
def WayAt (H : Hp) (Rt : Addr) (d : Int) (bs : List (Str × Str)) (rs : List RoadD) (goal : Str) (t : Trip) (v : V) : Prop := ∃ es, Sol d t.1 bs rs t.2.1 t.2.2 es ∧ FoundAt H Rt t.2.1 goal es v
theorem FoundAt.keep {H H' : Hp} {Rt : Addr} {start goal : Str} {es : List Ent} {v : V} (k : ∀ b o, H b = some o → (∀ ps, o ≠ .tbl ps) → H' b = some o) (h : FoundAt H Rt start goal es v) : FoundAt H' Rt start goal es v := by
  rcases h with h | ⟨e, he, h1, h2, y, l, h3, h4, dx, fs, q, k1, k2, k3, k4, k5⟩
  · exact .inl h
  · exact .inr ⟨e, he, h1, h2, y, l, h3, h4, dx, fs, q, k _ _ k1 (fun _ z => by cases z), k2, k3, k4, k _ _ k5 (fun _ z => by cases z)⟩
theorem WayAt.keep {H H' : Hp} {Rt : Addr} {d : Int} {bs : List (Str × Str)} {rs : List RoadD} {goal : Str} {t : Trip} {v : V} (k : ∀ b o, H b = some o → (∀ ps, o ≠ .tbl ps) → H' b = some o) (h : WayAt H Rt d bs rs goal t v) : WayAt H' Rt d bs rs goal t v := let ⟨es, a, b⟩ := h; ⟨es, a, b.keep k⟩
def spRoTo (K : PySem.W.Frag) (M Rt P : Addr) : Sp := fun vs H Q _ => ∃ (x : Addr) (v : V) (t : Trip) (goal : Str) (d : Int) (ks ps : List Str) (rs : List RoadD) (bs : List (Str × Str)), vs = [.ref x, v, .str goal] ∧ MIn K H M P x d ks ps rs bs ∧ RsIn ps rs ∧ (∀ r ∈ rs, 1 ≤ r.minutes) ∧ (∀ z ∈ ps, z.length ≤ 1000) ∧ (∀ r ∈ rs, PyData.strOk r.name = true) ∧
  TripAt H t v ∧ TripOk ks ps t ∧ goal ∈ ps ∧ ∀ H' u, Grew P H H' → WayAt H' Rt d bs rs goal t u → Q u H'
structure TxtMt (K : PySem.W.Frag) (Mt : Addr) : Prop where
  cl : Cls K Mt
  n1 : NoAttr K Mt "place"
  n2 : NoAttr K Mt "moment"
  n3 : NoAttr K Mt "routes"
def MeetAt (H : Hp) (Mt y : Addr) (z : Str) (t : Int) (xs : List V) : Prop := ∃ dx fs q, H y = some (.ins Mt dx fs) ∧ fs.lookup ("place" : Str) = some (V.str z) ∧ fs.lookup ("moment" : Str) = some (V.int t) ∧ fs.lookup ("routes" : Str) = some (V.ref q) ∧ H q = some (.tup xs)
def spMtInit (K : PySem.W.Frag) (Mt P : Addr) : Sp := fun vs H Q _ => ∃ (x dx L : Addr) (z : Str) (t : Int) (xs : List V) (H0 : Hp), vs = [.ref x, .str z, .int t, .ref L] ∧ Grew P H0 H ∧ TabG H0 P ∧ H0 x = none ∧ H x = some (.ins Mt dx []) ∧ SqL K H0 L xs ∧
  ∀ H', Grew P H0 H' → MeetAt H' Mt x z t xs → Q .non H'
section
variable {Pg : Program} {w : World} {K : PySem.W.Frag} {mg : Str → Option Value} {base : Heap} {C P : Addr}
abbrev nRoTo : List Str := ["chart", "trip", "place", "kind", "start", "moment"]
theorem scRoTo : FnScope nRoTo ["chart", "trip", "place"] (defScope sRoTo) := ⟨rfl, rfl, rfl, by decide +kernel, rfl, by decide +kernel, by decide +kernel⟩
theorem ok_roTo {f M U Rt fE : Addr} {fd fdE : FuncData} (F : Fun K "_route_to" "_route_to" sRoTo f fd)
    (GE : FnOk Pg w K mg base (L2.CX Pg w) 10 fE fdE ["chart", "kind", "start", "goal", "moment"] (spEarliest K M U Rt P)) (gE : mg "earliest" = some (.ref fE)) (kE : PySem.W.keepIn K (.ref fE) = true) (bE : Binds K fdE ["chart", "kind", "start", "goal", "moment"] []) :
    FnOk Pg w K mg base (L2.CX Pg w) 11 f fd ["chart", "trip", "place"] (spRoTo K M Rt P) := by
  refine F.okX scRoTo (fun vs H Q E h => ?_) (fun cdv A outer s H vs Q E hr h => ?_)
  · obtain ⟨x, v, t, goal, d, ks, ps, rs, bs, rfl, _⟩ := h
    rfl
  · obtain ⟨x, v, t, goal, d, ks, ps, rs, bs, rfl, hM, hin, hmi, hpl, hso, ⟨tp, rfl, htp⟩, ⟨t1, t2, t3, t4, t5⟩, hg, k⟩ := h
    refine ⟨_, pss_cons (ps_asg (pv 1) (pg_tup (by rfl) (pgs_cons (pg_name (i := 3) scRoTo.nd rfl (.inl rfl)) (pgs_cons (pg_name (i := 4) scRoTo.nd rfl (.inl rfl)) (pgs_cons (pg_name (i := 5) scRoTo.nd rfl (.inl rfl)) pgs_nil)))))
      (pss_one (ps_ret (pe_call (E := E0) GE hr (by rfl) gE kE bE .nil (passF rfl rfl) (pa_cons (pv 0) (pa_cons (pv 3) (pa_cons (pv 4) (pa_cons (pv 2) (pa_cons (pv 5) pa_nil)))))))), ?_⟩
    refine ⟨_, rfl, tp, _, rfl, SqT.of htp, rfl, _, _, rfl, _, _, rfl, _, _, rfl, rfl, ?_⟩
    refine ⟨_, rfl, _, rfl, _, rfl, _, rfl, _, rfl, x, t.1, t.2.1, goal, t.2.2, d, ks, ps, rs, bs, rfl, ⟨hM, hin, hmi, hpl, t3, t4, t5⟩, hpl goal hg, hso, .inr (.inr (.inr ⟨t1, fun z hz => ?_, fun z hz => absurd hz (by simp), fun H' es u g S F => k H' u g ⟨es, S, F⟩⟩))⟩
    rcases List.mem_cons.mp hz with e | e
    · rw [e]; exact t2
    · rw [List.mem_singleton.mp e]; exact hg
theorem scMtInit : FnScope ["self", "place", "moment", "routes"] ["self", "place", "moment", "routes"] (defScope sMtInit) := ⟨rfl, rfl, rfl, by decide +kernel, rfl, by decide +kernel, by decide +kernel⟩
theorem ok_mtInit {f Mt : Addr} {fd : FuncData} (F : Fun K "__init__" "Meeting.__init__" sMtInit f fd) (T : TxtMt K Mt) (ht : mg "tuple" = none) : FnOk Pg w K mg base CX0 1 f fd ["self", "place", "moment", "routes"] (spMtInit K Mt P) := by
  refine F.ok scMtInit (fun vs H Q E h => ?_) (fun cdv A outer s H vs Q E hr h => ?_)
  · obtain ⟨x, dx, L, z, t, xs, H0, rfl, _⟩ := h
    rfl
  · obtain ⟨x, dx, L, z, t, xs, H0, rfl, g0, hP0, nx, hx, hL, k⟩ := h
    refine ⟨_, pss_cons (ps_fld (pv 0) (pv 1) rfl) (pss_cons (ps_fld (pv 0) (pv 2) rfl)
      (pss_one (ps_fld (pv 0) (pe_callTy call_tuple_of (by rfl) ht (by decide +kernel) (pa_cons (pv 3) pa_nil)) rfl))), ?_⟩
    have nins : ∀ (fs : List (Str × V)) (q : Array Value), (HO.ins Mt dx fs) ≠ .tbl q := fun _ _ z => by cases z
    refine ⟨_, rfl, _, rfl, x, Mt, dx, [], rfl, hx, T.cl, T.n1, by decide, ?_⟩
    have ga := g0.write (o := .ins Mt dx (putF "place" (.str z) [])) hx (nins _) nx
    refine ⟨_, rfl, _, rfl, x, Mt, dx, _, rfl, upd_same, T.cl, T.n2, by have := length_putF ("place" : Str) (V.str z) []; rw [List.length_nil] at this; omega, ?_⟩
    have gb := ga.write (o := .ins Mt dx (putF "moment" (.int t) (putF "place" (.str z) []))) upd_same (nins _) nx
    have hxb : (L2.upd (L2.upd H x (.ins Mt dx (putF "place" (.str z) []))) x (.ins Mt dx (putF "moment" (.int t) (putF "place" (.str z) [])))) x = some (.ins Mt dx (putF "moment" (.int t) (putF "place" (.str z) []))) := upd_same
    refine ⟨_, rfl, L, _, rfl, .inl ⟨gb.sqL hP0 hL, fun q nq => ?_⟩⟩
    have gq := Grew.new gb.tab (o := .tup xs) nq
    have g1 := gb.trans gq
    have hx1 := gq.get gb.tab hxb (nins _)
    refine ⟨_, rfl, x, Mt, dx, _, rfl, hx1, T.cl, T.n3, by have := length_putF ("place" : Str) (V.str z) []; have := length_putF ("moment" : Str) (V.int t) (putF "place" (.str z) []); rw [List.length_nil] at *; omega, ?_⟩
    have nqx : q ≠ x := fun e => by rw [e, hxb] at nq; cases nq
    have gc := g1.write (o := .ins Mt dx (putF "routes" (.ref q) (putF "moment" (.int t) (putF "place" (.str z) [])))) hx1 (nins _) nx
    refine k _ gc ⟨dx, _, q, upd_same, ?_, ?_, ?_, ?_⟩
    · rw [lookup_putF, if_neg (by decide +kernel), lookup_putF, if_neg (by decide +kernel), lookup_putF, if_pos rfl]
    · rw [lookup_putF, if_neg (by decide +kernel), lookup_putF, if_pos rfl]
    · rw [lookup_putF, if_pos rfl]
    · rw [upd_ne nqx]; exact upd_same
end
end W

set_option Elab.async false
set_option linter.all false
set_option maxRecDepth 100000
set_option maxHeartbeats 4000000
/-! all(test for x in list of ints), where the test reads a name of the def that walks. -/
namespace MyG
open PySem PySem.Spec PyProof.Rows L2 GxR
/-- what the element's evaluation may lean on: what stood when the walk began, but the table; the scope's cells -/
def EltN (prog : Program) (w : World) (h0 : Heap) (P : Addr) (cl : List (Str × Addr)) (scope : Scope) (x : Str) (elt : Expr) (pb : Int → Bool) : Prop :=
  ∀ (ce : Env) (B : Around) (F : Value → Shared → Prop) (n : Int) (t : Tok) (z : Shared) (m : Str → Option Value),
    ce.scope = scope → ce.cells = cl → B.handled = none → (∀ b o, b ≠ P → h0.get? b = some o → z.heap.get? b = some o) →
    z.heap.Ns ce.locals m → m x = some (.int n t) → wpAny (model prog w) B (eval elt ce) (fun y z' => y = .bool (pb n) ∧ Keeps z z') F z
def trN (pb : Int → Bool) (l : List Int) (j : Nat) : Bool := match l[j]? with
  | some b => pb b
  | none => false
theorem trN_some {pb : Int → Bool} {l : List Int} {j : Nat} {b : Int} (h : l[j]? = some b) : trN pb l j = pb b := by
  unfold trN
  rw [h]
theorem all_trN (l : List Int) (pb : Int → Bool) : (List.range l.length).all (trN pb l) = l.all pb := by
  rw [Bool.eq_iff_iff, List.all_eq_true, List.all_eq_true]
  constructor
  · intro h b hb
    obtain ⟨j, hj, e⟩ := List.getElem_of_mem hb
    have q := h j (List.mem_range.mpr hj)
    rw [trN_some (List.getElem?_eq_getElem hj), e] at q
    exact q
  · intro h j hj
    have hj' := List.mem_range.mp hj
    rw [trN_some (List.getElem?_eq_getElem hj')]
    exact h _ (List.getElem_mem hj')
section
variable {X : Cx} {pins : List (Addr × Obj)} {σ : L2.St} {H : Hp} {s : Shared}
def ReadyN (X : Cx) (pins : List (Addr × Obj)) (σ : L2.St) (H1 : Hp) (P : Addr) (ns : List Int) (pb : Int → Bool) (g : Addr) (z : Shared) : Prop :=
  ∃ (fp wr : List Addr) (G : Array GenState → Array GenState → Prop) (F : Nat → Value → Prop) (St : Nat → Shared → Prop),
    WalksS X.prog X.w X.A.in1 g fp wr G ns.length F St ∧ St 0 z ∧ TruthOf X.prog X.w X.A.in1 F (trN pb ns) ∧ ∀ s', Moved wr G z s' → ∃ H2, Tabbed P H1 H2 ∧ Inv X pins σ H2 s'
theorem genN {c P : Addr} {elt iter : Expr} {x : Str} {px gpos : Pos} {scope : Scope} {te : TE} {k : Nat} {Q' : Value → Shared → Prop} {R : List Int → (Int → Bool) → Hp → Prop}
    (hr : Room k X.A) (TB : TabB X.base X.mg c P) (hcode : X.env.code = .ref c) (S : GenS X.env scope x) (hi : PE X iter te)
    (hel : ∀ ns pb H1 s1, Inv X pins σ H1 s1 → TabG H1 P → R ns pb H1 → EltN X.prog X.w s1.heap P (cloFrom X.env.cells scope.names []) scope x elt pb)
    (hs : ∀ v, genFold iter X.env v = pure v) (I : Inv X pins σ H s) (h : te σ H fun v H1 => ∃ (yl : Addr) (ns : List Int) (pb : Int → Bool), v = .ref yl ∧ SqL X.K H1 yl (ns.map V.int) ∧ TabG H1 P ∧ R ns pb H1)
    (hQ : ∀ ns pb H1 g z, R ns pb H1 → ReadyN X pins σ H1 P ns pb g z → Q' (.ref g) z) :
    wpAny (model X.prog X.w) X.A (eval (.GeneratorExp elt [⟨.Name x px, iter, [], 0⟩] scope gpos) X.env) Q' X.xe s := by
  refine wpAny_GeneratorExp_walksQ hr.hd S.co (closure_ok S.free) S.cell S.dot S.loc S.kind (by have := hr.dp; omega) ?_ hs
  refine thn (hi.run pins s σ H _ I h) fun xv s1 ⟨v, H1, I1, r1, q1⟩ => ?_
  obtain ⟨yl, ns, pb, rfl, hyl, tb, q1⟩ := q1
  have hel := hel ns pb H1 s1 I1 tb q1
  obtain ⟨ps, hP, ht⟩ := tb
  obtain rfl : xv = Value.ref yl := r1
  obtain ⟨its, rv, hl, hz⟩ := I1.list hyl
  have hIL := hl.isList
  have hlen : its.length = ns.length := by rw [← rv.length, List.length_map]
  have hat : ∀ (i : Nat) (v : Value), its.toArray[i]? = some v → ∃ (a : Int) (u : Tok), ns[i]? = some a ∧ v = .int a u := fun i v hv => by
    have hv2 : its[i]? = some v := by simpa using hv
    have hi2 : i < its.length := (List.getElem?_eq_some_iff.mp hv2).1
    obtain ⟨a, ha⟩ : ∃ a, ns[i]? = some a := ⟨ns[i]'(by omega), List.getElem?_eq_getElem _⟩
    have hb : (ns.map V.int)[i]? = some (V.int a) := by rw [List.getElem?_map, ha] <;> rfl
    obtain ⟨u, hu, ru⟩ := rv.get hb
    rw [hv2] at hu
    cases hu
    obtain ⟨t, e⟩ := (show ∃ t, v = Value.int a t from ru)
    exact ⟨a, t, ha, e⟩
  refine wpAny_pyIter_list hIL ?_
  generalize ho : ({ cls := .type "list_iterator", data := .fields #[.ref yl, .int 0 0] } : Obj) = o
  have hitr : (s1.heap.push o).IsListIter s1.heap.objs.size yl 0 := by
    subst ho
    exact ⟨_, Heap.get?_push_size _ rfl, rfl, rfl⟩
  have hylt : yl < s1.heap.objs.size := by
    obtain ⟨_, e, _⟩ := _root_.id hIL
    exact Heap.lt_size e
  have eP : s1.heap.get? P = some { cls := .none, data := .fields ps } := I1.hok P _ hP
  have ltP : P < s1.heap.objs.size := Heap.lt_size eP
  have eP2 := Heap.get?_push_of_some o eP
  have cd : PySem.W.CodeHd (s1.heap.push o) c P := TB.code.keeps fun b u e => Heap.get?_push_of_some _ (I1.bk b u e)
  have lim := I1.nolimit.push o
  have szp : (s1.heap.push o).objs.size = s1.heap.objs.size + 1 := Heap.size_push ..
  have stP : cStatics ≠ P := fun e => by
    obtain ⟨_, ⟨o', es, ep, ho, hd, _⟩, _⟩ := I1.nolimit
    rw [e, eP] at ho
    cases ho
    cases hd
  have stlt : cStatics < s1.heap.objs.size := let ⟨_, hns, _⟩ := I1.nolimit; hns.lt
  have hylP : yl ≠ P := fun z => by
    obtain ⟨_, e, hc1, _, hd1⟩ := _root_.id hIL
    rw [z, eP] at e
    cases e
    cases hd1
  have go : ∀ (code : Value) (h3 : Heap) (tk : Nat) (more : Array Value), Heap.ExtBut P (s1.heap.push o) h3 → (s1.heap.push o).objs.size ≤ h3.objs.size → h3.get? P = some { cls := .none, data := .fields (ps ++ more) } → TriplesOk (ps ++ more).toList →
      wpAny (model X.prog X.w) X.A (builtinsFor X.env.globals X.env.builtins) (fun bi s₄ =>
        ∃ Ia fp wr n₀ Pf St₀ pz F, Value.ref s1.heap.objs.size = .ref Ia ∧ (∀ A' : Around, A'.handled = none → Walks X.prog X.w A' Ia fp wr n₀ Pf St₀) ∧ St₀ 0 s₄.heap ∧ (∀ b ∈ fp, b < s₄.heap.objs.size) ∧ s₄.heap.NoLimit ∧ cStatics ∉ wr ∧
          (∀ href : Heap, (∀ b o, s₄.heap.get? b = some o → href.get? b = some o) →
            QuietGen X.prog X.w (genEnv scope (cloFrom X.env.cells scope.names []) s₄.heap.objs.size code bi X.env) x [] elt (List.range s₄.heap.objs.size) wr Pf pz F href) ∧
          (∀ a h₅ tk gs, gs.bare = true → s₄.heap.objs.size < a → h₅.objs.size = a + 1 → (∀ b o, s₄.heap.get? b = some o → h₅.get? b = some o) →
            WalksS X.prog X.w X.A.in4 a (a :: s₄.heap.objs.size :: List.range s₄.heap.objs.size) (s₄.heap.objs.size :: wr) (GenOnlyQ s₄.gens.size) (passing pz n₀ 0).length
              (fun j y => ∃ i, (passing pz n₀ 0)[j]? = some i ∧ F i y) (GenAt X.prog X.w X.A.in4 a s₄.gens.size s₄.heap.objs.size (List.range s₄.heap.objs.size) wr pz n₀ F) →
            GenAt X.prog X.w X.A.in4 a s₄.gens.size s₄.heap.objs.size (List.range s₄.heap.objs.size) wr pz n₀ F 0 { s₄ with gens := s₄.gens.push gs, toks := tk, heap := h₅ } →
            Q' (.ref a) { s₄ with gens := s₄.gens.push gs, toks := tk, heap := h₅ })) X.xe { s1 with heap := h3, toks := tk } := by
    intro code h3 tk more hx hsz e3 ht3
    obtain ⟨bm, ob, b1, b2, b3, b4, b5, b6, b7, b8⟩ := TB.bm
    have old : ∀ b u, b ≠ P → s1.heap.get? b = some u → h3.get? b = some u := fun b u hb e => hx b u hb (Heap.get?_push_of_some _ e)
    refine wpAny_builtinsFor (m := X.mg) (by rw [I1.ok.glob]; exact ((I1.mod.glob.keeps I1.bk).push o).extBut hx TB.gP) b1 b2 (old _ _ b4 (I1.bk _ _ b5)) b6 b7 b8 ?_
    have hIL3 : h3.IsList yl its.toArray := by
      obtain ⟨ob, e, r⟩ := _root_.id hIL
      exact ⟨ob, old _ _ hylP e, r⟩
    have hItr3 : h3.IsListIter s1.heap.objs.size yl 0 := hitr.at fun u e => hx _ u (Nat.ne_of_gt ltP) e
    refine ⟨s1.heap.objs.size, [s1.heap.objs.size, yl], [s1.heap.objs.size], its.toArray.size, (fun i v => its.toArray[i]? = some v), (fun i h => h.IsListIter s1.heap.objs.size yl i ∧ h.IsList yl its.toArray), (fun _ => true),
      (fun i y => ∃ a : Int, ns[i]? = some a ∧ y = .bool (pb a)), rfl, (fun A' hA => Walks.list hA _ _ (Nat.ne_of_lt hylt) _), ⟨hItr3, hIL3⟩, ?_, lim.extBut hx stP, ?_, ?_, ?_⟩
    · intro b hb
      rcases List.mem_cons.mp hb with z | z
      · rw [z]
        exact Nat.lt_of_lt_of_le (by rw [szp]; exact Nat.lt_succ_self _) hsz
      · rw [List.mem_singleton.mp z]
        exact Nat.lt_of_lt_of_le (Nat.lt_of_lt_of_le hylt (by rw [szp]; exact Nat.le_succ _)) hsz
    · intro z
      exact Nat.ne_of_lt stlt (List.mem_singleton.mp z)
    · intro href hk
      constructor
      · intro A' E' i v s₂ m₂ hA hPv hn hm hk2
        simp only [List.forIn_nil]
        exact wpAny_pure ⟨rfl, keeps_refl _⟩
      · intro A' E' i v s₂ m₂ hA hPv hp hn hm hk2
        obtain ⟨a, u, ha, rfl⟩ := hat i v hPv
        refine wpAny_mono (hel _ A' E' a u s₂ m₂ rfl rfl hA (fun b w' hb e1 => ?_) hn hm) (fun y s3 r => ⟨⟨a, ha, r.1⟩, r.2⟩) fun _ _ e => e
        have e2 := old b w' hb e1
        have l1 : b < s1.heap.objs.size := Heap.lt_size e1
        refine hk2 b (List.mem_range.mpr (Heap.lt_size e2)) (fun z => ?_) w' (hk b w' e2)
        exact Nat.ne_of_lt l1 (List.mem_singleton.mp z)
    · intro g h5 tk5 gs hgb hag hsz5 hk5 W5 hgat
      simp only [GxR.passing_true, List.length_range] at W5
      have hn5 : its.toArray.size = ns.length := by rw [List.size_toArray, hlen]
      rw [hn5] at W5 hgat
      refine hQ ns pb H1 g _ q1 ⟨_, _, _, _, _, W5.in4_1, hgat, ?_, fun s' hm => ?_⟩
      · intro j y sj Qj Ej hy hQj
        obtain ⟨i, hij, a, ha, rfl⟩ := hy
        obtain ⟨hj, ej⟩ := List.getElem?_eq_some_iff.mp hij
        rw [List.getElem_range] at ej
        subst ej
        have hQ2 : Qj (trN pb ns j) sj := hQj
        rw [trN_some ha] at hQ2
        exact wpAny_truthy_bool hQ2
      · have nwr : ∀ b u, s1.heap.get? b = some u → b ∉ h3.objs.size :: [s1.heap.objs.size] := fun b u e hb => by
          have hl := Heap.lt_size e
          rcases List.mem_cons.mp hb with z | z
          · exact Nat.ne_of_lt (Nat.lt_of_lt_of_le (Nat.lt_trans hl (Nat.lt_succ_self _)) (Nat.le_trans (Nat.le_of_eq szp.symm) hsz)) z
          · exact Nat.ne_of_lt hl (List.mem_singleton.mp z)
        have J := inv_tab (more := more) (h' := s'.heap) (g' := s'.gens) (d' := s'.drawn) (t' := s'.toks) I1 hP (fun b u hb e => hm.heap b u (nwr b u e) (hk5 b u (old b u hb e)))
          (hm.heap P _ (nwr P _ eP) (hk5 P _ e3)) (AllBare.movedS (I1.bare.push hgb) hm)
        rw [sh_eta s1 s' hm.os] at J
        exact ⟨upd H1 P (.tbl (ps ++ more)), ⟨⟨ps ++ more, upd_same, ht3⟩, fun b hb => upd_ne hb⟩, J⟩
  refine ⟨lim, ?_⟩
  cases hf : codeAmong gpos ps.toList with
  | none =>
    refine wpAny_genexprCodeX hcode (cd.code eP2 ht) (cd.tab eP2) hf fun c' h' tk hx hge hlt hco' _ htab' _ => ?_
    obtain ⟨o1, vs, f1, tf, fl, tg, inF, tx, tt, op, _, _, _, _, _, _, _, _, _, htr, _⟩ := hco'
    exact go _ h' tk _ hx (Nat.le_trans hge (Nat.le_of_lt hlt)) htab'.2 htr
  | some cv =>
    refine wpAny_genexprCode_hit hcode (cd.code eP2 ht) hf ?_
    refine go cv (s1.heap.push o) s1.toks #[] (Heap.ExtBut.refl _ _) (Nat.le_refl _) ?_ ?_
    · rw [Array.append_empty]; exact eP2
    · rw [Array.append_empty]; exact ht

theorem clo_last {x y : Str} {names : List (Str × NameKind)} (hnm : names = [((".0" : Str), NameKind.local), (x, NameKind.local), (y, NameKind.free)]) (cells : List (Str × Addr)) (c : Addr) (h : cells.lookup y = some c) : (cloFrom cells names []).lookup y = some c := by
  subst hnm
  show List.lookup y [(y, (cells.lookup y).getD 0)] = some c
  rw [h]
  simp
theorem free_one {x : Str} {names : List (Str × NameKind)} {cells : List (Str × Addr)} (h : names.all (fun y => y.2 != .free || y.1 == x) = true) (hc : ∃ c, cells.lookup x = some c) : ∀ y ∈ names, y.2 = .free → ∃ c, cells.lookup y.1 = some c := fun y hy e => by
  have q := List.all_eq_true.mp h y hy
  rw [e] at q
  have q2 : (y.1 == x) = true := by simpa using q
  rw [beq_iff_eq.mp q2]
  exact hc
/-- all(x >= y.f for x in te), y a name of the def (its slot i), te a list of ints -/
def tAllGe (K : PySem.W.Frag) (P : Addr) (i : Nat) (f : Str) (te : TE) : TE := fun σ H Q => te σ H fun v H1 => ∃ (yl : Addr) (ns : List Int) (y C dx : Addr) (fs : List (Str × V)) (a : Int), v = .ref yl ∧ SqL K H1 yl (ns.map V.int) ∧ TabG H1 P ∧
  σ[i]? = some (some (.ref y)) ∧ H1 y = some (.ins C dx fs) ∧ Cls K C ∧ NoAttr K C f ∧ fs.lookup f = some (.int a) ∧ ∀ H2, Tabbed P H1 H2 → Q (.bl (ns.all fun n => decide (a ≤ n))) H2
theorem elt_ge {x y f : Str} {i : Nat} {scope : Scope} {p1 p2 p3 p4 : Pos} {H1 : Hp} {s1 : Shared} {c P a dx C : Addr} {fs : List (Str × V)} {n0 : Int} (I : Inv X pins σ H1 s1) (hkf : scope.kind = .function) (hlx : scope.names.lookup x = some .local) (hly : scope.names.lookup y = some .free)
    (hcl : ∀ (cells : List (Str × Addr)) c, cells.lookup y = some c → (cloFrom cells scope.names []).lookup y = some c) (hN : X.N[i]? = some y) (hv : X.env.scope.names.lookup y = some .cell) (tb : TabG H1 P)
    (hσ : σ[i]? = some (some (.ref a))) (hy : H1 a = some (.ins C dx fs)) (cl : Cls X.K C) (na : NoAttr X.K C f) (hf : fs.lookup f = some (.int n0))
    (hb : ∀ env, attributeBase (.Name y p2) f env (eval (.Name y p2) env) = eval (.Name y p2) env) (hd : (x == ("__debug__" : Str)) = false := by decide) (hdy : (y == ("__debug__" : Str)) = false := by decide) (hcd : (y == ("__classdict__" : Str)) = false := by decide) :
    EltN X.prog X.w s1.heap P (cloFrom X.env.cells scope.names []) scope x (.Compare (.Name x p1) [.GtE] [.Attribute (.Name y p2) f p3] p4) (fun n => decide (n0 ≤ n)) := by
  obtain ⟨m1, hn1, hl1⟩ := I.loc
  obtain ⟨u, ru, lk⟩ := hl1 i y _ hN hσ (.inr (.inl hv))
  obtain rfl : u = Value.ref a := ru
  obtain ⟨ps, hP, _⟩ := tb
  intro ce B F n t z m hs hc hh hk hn hm
  obtain ⟨cy, hcy, hcell⟩ : ∃ c, X.env.cells.lookup y = some c ∧ s1.heap.IsCell c (some (.ref a)) := by
    rcases lk with ⟨e, _⟩ | ⟨_, q⟩
    · have e' : X.env.scope.names.lookup y = some .local := e
      rw [hv] at e'
      cases e'
    · exact q
  have ncP : cy ≠ P := fun e => by
    have := I.freeC y cy hcy
    rw [e, hP] at this
    cases this
  have hcell2 : z.heap.IsCell cy (some (.ref a)) := by
    obtain ⟨o, ho, hd'⟩ := hcell
    exact ⟨o, hk cy o ncP ho, hd'⟩
  obtain ⟨mA, O, r, wi, _, ho⟩ := ins_get I.hok hy
  have naP : a ≠ P := fun e => by
    rw [e, hP] at hy
    cases hy
  have ndP : dx ≠ P := fun e => by
    rw [e, hP] at ho
    cases ho
  have O2 : ObjM z.heap a dx C mA := by
    obtain ⟨o1, ⟨od, es, ep, e2, c2⟩, ne⟩ := O
    exact ⟨hk a _ naP o1, ⟨od, es, ep, hk dx _ ndP e2, c2⟩, ne⟩
  obtain ⟨v, hvf, rvf⟩ := RelO.some_of (v := V.int n0) (o := mA f) (by rw [← hf]; exact r f)
  have KI : X.K.In z.heap := I.mod.kin.keeps fun b o e => hk b o (fun q => by
    have := (I.bs b o e).2
    rw [q, hP] at this
    cases this) (I.bk b o e)
  refine wpAny_Compare1 ?_
  refine wpAny_Name (wpAny_loadName_local (by rw [hs]; exact hkf) (show ce.scope.names.lookup x = some .local by rw [hs]; exact hlx) hn hm ?_) hd
  refine attr_of (hb ce) ?_
  refine wpAny_Name (wpAny_loadName_free (by rw [hs]; exact hkf) (show ce.scope.names.lookup y = some .free by rw [hs]; exact hly) (by rw [hc]; exact hcl _ _ hcy) hcell2 ?_ hcd) hdy
  refine get_map KI O2 (cl.get f) cl.hd na hvf (handed_of rvf) ?_
  obtain ⟨t0, rfl⟩ := (show ∃ t, v = Value.int n0 t from rvf)
  exact ge_int ⟨rfl, keeps_tok _ _⟩
theorem pe_allGe {c P : Addr} {iter : Expr} {x y f : Str} {i : Nat} {px p p1 p2 p3 p4 pos gpos : Pos} {scope : Scope} {te : TE} {k : Nat}
    (hr : Room k X.A) (hg : Gl X "all") (hm : X.mg "all" = none) (TB : TabB X.base X.mg c P) (hcode : X.env.code = .ref c) (S : GenS X.env scope x) (hi : PE X iter te) (hkf : scope.kind = .function) (hlx : scope.names.lookup x = some .local) (hly : scope.names.lookup y = some .free)
    (hcl : ∀ (cells : List (Str × Addr)) c, cells.lookup y = some c → (cloFrom cells scope.names []).lookup y = some c) (hN : X.N[i]? = some y) (hv : X.env.scope.names.lookup y = some .cell)
    (hb : ∀ env, attributeBase (.Name y p2) f env (eval (.Name y p2) env) = eval (.Name y p2) env) (hs : ∀ v, genFold iter X.env v = pure v) (hd : (x == ("__debug__" : Str)) = false := by decide) (hdy : (y == ("__debug__" : Str)) = false := by decide) (hcd : (y == ("__classdict__" : Str)) = false := by decide)
    (he : starEach [.GeneratorExp (.Compare (.Name x p1) [.GtE] [.Attribute (.Name y p2) f p3] p4) [⟨.Name x px, iter, [], 0⟩] scope gpos] X.env = (false, eval (.GeneratorExp (.Compare (.Name x p1) [.GtE] [.Attribute (.Name y p2) f p3] p4) [⟨.Name x px, iter, [], 0⟩] scope gpos) X.env) :: starEach [] X.env := by rfl) :
    PE X (.Call (.Name "all" p) [.GeneratorExp (.Compare (.Name x p1) [.GtE] [.Attribute (.Name y p2) f p3] p4) [⟨.Name x px, iter, [], 0⟩] scope gpos] [] pos) (tAllGe X.K P i f te) := by
  refine ⟨fun pins s σ H Q I h => ?_⟩
  refine wpAny_Call_Name_kw (ld_blt I hg hm (by decide +kernel : bootBuiltins "all" = some (.builtin "all")) ?_)
  refine PyProof.Rows.callWith_builtin1 ?_ he (by rfl)
  rw [he]
  let R : List Int → (Int → Bool) → Hp → Prop := fun ns pb H1 => ∃ (a C dx : Addr) (fs : List (Str × V)) (n0 : Int), pb = (fun n => decide (n0 ≤ n)) ∧ σ[i]? = some (some (.ref a)) ∧ H1 a = some (.ins C dx fs) ∧ Cls X.K C ∧ NoAttr X.K C f ∧ fs.lookup f = some (.int n0) ∧ ∀ H2, Tabbed P H1 H2 → Q (.bl (ns.all pb)) H2
  refine Calls.spliced_cons (genN (R := R) hr TB hcode S hi (fun ns pb H1 s1 I1 tb hR => ?_) hs I ?_ fun ns pb H1 g z hR hG => Calls.spliced_nil ?_)
  · obtain ⟨a, C, dx, fs, n0, rfl, hσ, hy, cl, na, hf, _⟩ := hR
    exact elt_ge (c := c) I1 hkf hlx hly hcl hN hv tb hσ hy cl na hf hb hd hdy hcd
  · have mono : ∀ (v : V) (H1 : Hp), (∃ (yl : Addr) (ns : List Int) (y C dx : Addr) (fs : List (Str × V)) (a : Int), v = .ref yl ∧ SqL X.K H1 yl (ns.map V.int) ∧ TabG H1 P ∧
        σ[i]? = some (some (.ref y)) ∧ H1 y = some (.ins C dx fs) ∧ Cls X.K C ∧ NoAttr X.K C f ∧ fs.lookup f = some (.int a) ∧ ∀ H2, Tabbed P H1 H2 → Q (.bl (ns.all fun n => decide (a ≤ n))) H2) →
        ∃ (yl : Addr) (ns : List Int) (pb : Int → Bool), v = .ref yl ∧ SqL X.K H1 yl (ns.map V.int) ∧ TabG H1 P ∧ R ns pb H1 := fun v H1 ⟨yl, ns, y, C, dx, fs, a, e, h1, h2, h3, h4, h5, h6, h7, h8⟩ =>
      ⟨yl, ns, _, e, h1, h2, y, C, dx, fs, a, rfl, h3, h4, h5, h6, h7, h8⟩
    have e : (fun (v : V) (H1 : Hp) => ∃ (yl : Addr) (ns : List Int) (y C dx : Addr) (fs : List (Str × V)) (a : Int), v = .ref yl ∧ SqL X.K H1 yl (ns.map V.int) ∧ TabG H1 P ∧
        σ[i]? = some (some (.ref y)) ∧ H1 y = some (.ins C dx fs) ∧ Cls X.K C ∧ NoAttr X.K C f ∧ fs.lookup f = some (.int a) ∧ ∀ H2, Tabbed P H1 H2 → Q (.bl (ns.all fun n => decide (a ≤ n))) H2) =
        (fun (v : V) (H1 : Hp) => ∃ (yl : Addr) (ns : List Int) (pb : Int → Bool), v = .ref yl ∧ SqL X.K H1 yl (ns.map V.int) ∧ TabG H1 P ∧ R ns pb H1) := by
      funext v H1
      refine propext ⟨mono v H1, ?_⟩
      rintro ⟨yl, ns, pb, e, h1, h2, a, C, dx, fs, n0, rfl, h3, h4, h5, h6, h7, h8⟩
      exact ⟨yl, ns, a, C, dx, fs, n0, e, h1, h2, h3, h4, h5, h6, h7, h8⟩
    have h' : te σ H _ := h
    rw [e] at h'
    exact h'
  obtain ⟨fp, wr, G, F, St, W, hst, htr, hI⟩ := hG
  obtain ⟨a, C, dx, fs, n0, rfl, _, _, _, _, _, hR⟩ := hR
  refine call_all_walkS (W.self 0 _ _ _ hst ⟨g, fp, wr, G, _, F, St, _, rfl, W, hst, htr, fun s' hmv => ?_⟩)
  obtain ⟨H2, hT, J⟩ := hI s' hmv
  exact ⟨.bl _, H2, J, rfl, by rw [all_trN]; exact hR H2 hT⟩
end
end MyG
namespace L2
open PySem PySem.Spec PyProof.Rows
/-- as Fun.okX, where the def's code object is known -/
theorem Fun.okC {P : Program} {w : World} {K : PySem.W.Frag} {mg : Str → Option Value} {base : Heap} {x qual : Str} {st : Stmt} {f c : Addr} {fd : FuncData} {N ps : List Str} {k : Nat} {sp : Sp} (F : Fun K x qual st f fd) (hfc : fd.code = Value.ref c) (S : FnScope N ps (defScope st)) (len : ∀ vs H Q E, sp vs H Q E → vs.length = ps.length)
    (hbody : ∀ (A : Around) (outer : List Env) (s : Shared) (H : Hp) (vs : List V) (Q : VK) (E : XK), Room k (A.deeper (envOfC qual (defScope st) s.heap.objs.size f (Value.ref c))) → sp vs H Q E →
      ∃ t, PSs (cxOf (L2.CX P w) P w K mg base N qual (defScope st) f (Value.ref c) A outer s H E) (defBody st) t ∧ t { nx := fun _ H' => Q .non H', rt := Q } (start N vs) H) : FnOk P w K mg base (L2.CX P w) (k + 1) f fd ps sp := by
  obtain ⟨oc, od, kV, doc, pm, an, cdv, ct, osl, efd, lk, hcd⟩ := F.ex
  subst efd
  have ecd : cdv = Value.ref c := hfc
  subst ecd
  exact fn_of lk hcd S len fun A outer s H vs Q E hr hsp => hbody A outer s H vs Q E hr hsp
end L2

set_option Elab.async false
set_option linter.all false
set_option maxRecDepth 100000
set_option maxHeartbeats 2000000
namespace W
open PySem PySem.Spec PyProof.Rows L2 GxR MyG MyS MyR
/-! ### meeting, meeting_places -/
abbrev sMeet : Stmt := top 58
def qMeet : Str := ("meeting" ++ ".<locals>.") ++ "<lambda>"
/-- the first of the rows with the least moment -/
def LeastR (rows : List (Str × Int)) (e : Str × Int) : Prop := ∃ i : Nat, rows[i]? = some e ∧ (∀ m ∈ rows, ¬ m.2 < e.2) ∧ ∀ (j : Nat) (m : Str × Int), j < i → rows[j]? = some m → e.2 < m.2
def MetAt (H : Hp) (Mt Rt : Addr) (d : Int) (bs : List (Str × Str)) (rs : List RoadD) (trips : List Trip) (rows : List (Str × Int)) (v : V) : Prop := (rows = [] ∧ v = .non) ∨ ∃ e y xs, LeastR rows e ∧ v = .ref y ∧ MeetAt H Mt y e.1 e.2 xs ∧ Paired (WayAt H Rt d bs rs e.1) trips xs
def inR (bd : Int) (ls : List (Str × Int)) : List (Str × Int) := ls.filter fun e => decide (e.2 ≤ bd)
def AskT (K : PySem.W.Frag) (H : Hp) (M P x : Addr) (d : Int) (ks ps : List Str) (rs : List RoadD) (bs : List (Str × Str)) (L : Addr) (trips : List Trip) (xs : List V) : Prop := MIn K H M P x d ks ps rs bs ∧ RsIn ps rs ∧ (∀ r ∈ rs, 1 ≤ r.minutes) ∧ (∀ z ∈ ps, z.length ≤ 1000) ∧ ps.length ≤ 1000 ∧
  H L = some (.lst xs) ∧ Paired (TripAt H) trips xs ∧ (∀ t ∈ trips, TripOk ks ps t) ∧ trips.length ≤ 900
def spMeet (K : PySem.W.Frag) (M Mt Rt P Pm : Addr) : Sp := fun vs H Q _ => ∃ (x L : Addr) (trips : List Trip) (xs : List V) (d : Int) (ks ps : List Str) (rs : List RoadD) (bs : List (Str × Str)), vs = [.ref x, .ref L] ∧ AskT K H M P x d ks ps rs bs L trips xs ∧ (∀ r ∈ rs, PyData.strOk r.name = true) ∧ (∀ z ∈ ps, PyData.strOk z = true) ∧ LamX.TabS H Pm qMeet ∧ Pm ≠ P ∧
  ∀ H' fs v, Went1 P Pm qMeet H H' → Paired (PlF d bs rs) trips fs → MetAt H' Mt Rt d bs rs trips (comL fs ps) v → Q v H'
section
variable {Pg : Program} {w : World} {K : PySem.W.Frag} {mg : Str → Option Value} {base : Heap} {C P : Addr}
theorem comL_len {fs : List (Str → Option Int)} {ps : List Str} : (comL fs ps).length ≤ ps.length := List.length_filterMap_le _ _
theorem comL_in {fs : List (Str → Option Int)} {ps : List Str} {e : Str × Int} (h : e ∈ comL fs ps) : e.1 ∈ ps := by
  obtain ⟨p, hp, he⟩ := List.mem_filterMap.mp h
  unfold comP at he
  split at he
  · cases he; exact hp
  · cases he
abbrev nMeet : List Str := ["chart", "trips", "rows", "place", "moment", "trip"]
theorem scMeet : FnScope nMeet ["chart", "trips"] (defScope sMeet) := ⟨rfl, rfl, rfl, by decide +kernel, rfl, by decide +kernel, by decide +kernel⟩
theorem ok_meet {f M Mt Rt Pm c fC fR fI : Addr} {fd fdC fdR fdI : FuncData} (F : Fun K "meeting" "meeting" sMeet f fd) (hfc : fd.code = .ref c) (TB : LamX.TabB base mg c Pm) (hm : mg "min" = none)
    (GC : FnOk Pg w K mg base (L2.CX Pg w) 12 fC fdC ["chart", "trips"] (spCommon K M P)) (gC : mg "_common_places" = some (.ref fC)) (kC : PySem.W.keepIn K (.ref fC) = true) (bC : Binds K fdC ["chart", "trips"] [])
    (GR : FnOk Pg w K mg base (L2.CX Pg w) 11 fR fdR ["chart", "trip", "place"] (spRoTo K M Rt P)) (gR : mg "_route_to" = some (.ref fR)) (kR : PySem.W.keepIn K (.ref fR) = true) (bR : Binds K fdR ["chart", "trip", "place"] [])
    (Mk : L2.Mk K Mt fI) (gM : mg "Meeting" = some (.ref Mt)) (GI : FnOk Pg w K mg base CX0 1 fI fdI ["self", "place", "moment", "routes"] (spMtInit K Mt P)) (bI : Binds K fdI ["self", "place", "moment", "routes"] []) :
    FnOk Pg w K mg base (L2.CX Pg w) 13 f fd ["chart", "trips"] (spMeet K M Mt Rt P Pm) := by
  refine F.okC hfc scMeet (fun vs H Q E h => ?_) (fun A outer s H vs Q E hr h => ?_)
  · obtain ⟨x, L, trips, xs, d, ks, ps, rs, bs, rfl, _⟩ := h
    rfl
  · obtain ⟨x, L, trips, xs, d, ks, ps, rs, bs, rfl, ⟨hM, hin, hmi, hpl, lps, hL, hT, hok, lt⟩, hso, hsp, hTm, ne, k⟩ := h
    refine ⟨_, pss_cons (ps_set (i := 2) scMeet.nd rfl (Or.inl rfl) (pe_call (E := E0) GC (hr.mono (by decide)) (by rfl) gC kC bC .nil (passF rfl rfl) (pa_cons (pv 0) (pa_cons (pv 1) pa_nil))))
      (C8.pss_cut (ps_if (pt_cmpR (op_eqD hr.units) (pv 2) (pe_lst pa_nil) (nomark _)) (pss_one (ps_ret pe_non)) pss_nil)
      (pss_cons (ps_asg (LamK.pe_minKey1 (P := Pm) hr (by rfl) hm (pa_cons (pv 2) pa_nil) TB rfl rfl ⟨rfl, rfl, rfl, by decide +kernel, by decide +kernel, by rfl, fun _ _ _ _ _ _ _ => rfl⟩) (pg_tup (by rfl) (pgs_cons (pg_name (i := 3) scMeet.nd rfl (.inr rfl)) (pgs_cons (pg_name (i := 4) scMeet.nd rfl (.inl rfl)) pgs_nil))))
      (pss_one (ps_ret (pe_make Mk GI (hr.mono (by decide)) (by rfl) gM bI .nil pass0 (pa_cons (pv 3) (pa_cons (pv 4) (pa_cons (pe_lc (own := [("trip", 5)]) (g := gName 5) (tt := tYes) rfl scMeet.nd (pi_list (pv 1)) (blkOk_by (N := nMeet) (sc := defScope sMeet) (by decide +kernel)) (fun _ _ _ _ _ => pg_name (i := 5) scMeet.nd rfl (Or.inl rfl)) (fun _ _ _ _ _ => pts_nil)
          (fun _ _ _ _ _ => pe_call (E := E0) GR (hr.mono (by decide)) (by rfl) gR kR bR .nil (passF rfl rfl) (pa_cons (pv 0) (pa_cons (pv 5) (pa_cons (pv 3) pa_nil))))) pa_nil)))))))), ?_⟩
    have hP := hM.t
    refine ⟨_, rfl, _, rfl, x, L, trips, xs, d, ks, ps, rs, bs, rfl, hM, hin, hmi, hpl, lps, hL, hT, hok, lt, fun H1 R fs ys g1 nR hfs hR rows => ?_⟩
    have lls : (comL fs ps).length ≤ 1000 := Nat.le_trans comL_len lps
    have inp : ∀ e ∈ comL fs ps, e.1 ∈ ps := fun e he => comL_in he
    have k := fun H' v => k H' fs v
    generalize comL fs ps = ls at rows lls inp k
    have lr := Paired.len rows
    -- rows == []
    refine ⟨fun σ H' => σ = [some (.ref x), some (.ref L), some (.ref R), none, none, none] ∧ Grew P H1 H' ∧ ls ≠ [], ?_, ?_⟩
    · refine ⟨_, rfl, Nat.zero_le _, fun Z nZ => ?_⟩
      have gz := Grew.new g1.tab (o := .lst []) nZ
      have sh := shaped_rows (ls := ls) fun e he => hsp _ (inp e he)
      refine ⟨.list (ls.map rowD), .list ([].map rowD), .lst (SqL.of (gz.lst g1.tab hR)) (dp_rows (Paired.map' rows fun _ _ m => m.keep (fun _ _ e => gz.tup g1.tab e))), .lst (SqL.of upd_same) .nil, sh, shaped_rows (fun k hk => absurd hk (by simp)), _, rfl, ?_⟩
      cases ls with
      | nil => exact if_t (by rfl) (k _ .non (Went1.grew hP hTm ne (g1.trans gz)) hfs (.inl ⟨rfl, rfl⟩))
      | cons a l => exact if_f (by rfl) ⟨rfl, gz, fun z => by cases z⟩
    rintro σ H2 ⟨rfl, g2, hne⟩
    have g02 := g1.trans g2
    have hR2 := g2.lst g1.tab hR
    have rows2 : Paired (RowAt H2) ls ys := Paired.map' rows fun _ _ m => m.keep (fun _ _ e => g2.tup g1.tab e)
    have hT2 := tabS_grew g02 hP ne hTm
    refine ⟨_, rfl, R, ys, ls.map (fun e : Str × Int => e.2), rfl, hR2, ⟨by rw [List.length_map]; exact lr, fun i n v hn hx => ?_⟩, ?_, hT2, fun H3 st i n v hn hx h1 h2 => ?_⟩
    · obtain ⟨e, he, tq, rfl, htq⟩ := Paired.at rows2 hx
      rw [List.getElem?_map, he] at hn
      have : e.2 = n := Option.some.inj hn
      exact ⟨tq, _, rfl, SqT.of htq, by rw [← this]; rfl⟩
    · rw [← lr]; exact List.length_pos_iff.mpr hne
    · obtain ⟨e, he, tq, rfl, htq⟩ := Paired.at rows2 hx
      rw [List.getElem?_map, he] at hn
      have en : e.2 = n := Option.some.inj hn
      subst en
      have least : LeastR ls e := ⟨i, he, fun m hm => h1 _ (List.mem_map.mpr ⟨m, hm, rfl⟩), fun j m hj hm => h2 j _ hj (by rw [List.getElem?_map, hm]; rfl)⟩
      have hes := inp e (List.mem_of_getElem? he)
      have w3 : Went1 P Pm qMeet H H3 := (Went1.grew hP hTm ne g02).trans (Went1.lam g02.tab ne st)
      refine ⟨tq, _, rfl, SqT.of (st.old' htq fun _ z => (by cases z)), rfl, _, _, rfl, _, _, rfl, rfl, ?_⟩
      have hM3 := hM.went1 w3
      have hL3 := w3.lst hL
      have hT3 : Paired (TripAt H3) trips xs := Paired.map' hT fun t v ⟨p, a, b⟩ => ⟨p, a, w3.tup b⟩
      have lx := Paired.len hT
      refine ⟨_, rfl, _, rfl, _, rfl, L, rfl, ⟨_, SqL.of hL3⟩, fun D nD => lc_list (K := K) (a := L) (xs := xs) (fun j H4 => Grew P H3 H4 ∧ ∃ acc, H4 D = some (.lst acc) ∧ Paired (WayAt H4 Rt d bs rs e.1) (trips.take j) acc)
        ⟨Grew.new w3.tab nD, [], upd_same, .nil⟩ (fun j H4 _ h => SqL.of (h.1.lst w3.tab hL3)) (fun j v H4 hj h => ?_) (fun H4 h => ?_)⟩
      · obtain ⟨g, acc, hD, hacc⟩ := h
        obtain ⟨t, ht, tp, rfl, htp⟩ := Paired.at hT3 hj
        have hjl := (List.getElem?_eq_some_iff.mp ht).1
        have lac := Paired.len hacc
        rw [List.length_take] at lac
        refine ⟨rfl, _, rfl, _, rfl, _, rfl, x, .ref tp, t, e.1, d, ks, ps, rs, bs, rfl, hM3.grew g, hin, hmi, hpl, hso, ⟨tp, rfl, g.tup w3.tab htp⟩, hok t (List.mem_of_getElem? ht), hes, fun H5 u g5 hu => ?_⟩
        have hD5 := g5.lst g.tab hD
        refine ⟨acc, hD5, by rw [sizeLine_eq]; omega, (g.trans g5).write hD5 (fun _ z => by cases z) nD, acc ++ [u], upd_same, ?_⟩
        have kp : ∀ b o, H5 b = some o → (∀ ps, o ≠ .tbl ps) → o ≠ .lst acc → (L2.upd H5 D (.lst (acc ++ [u]))) b = some o := fun b o e1 _ n => by
          rw [upd_ne (fun z => by rw [z, hD5] at e1; exact n (Option.some.inj e1).symm)]; exact e1
        have kw : ∀ {t : Trip} {v : V}, WayAt H5 Rt d bs rs e.1 t v → WayAt (L2.upd H5 D (.lst (acc ++ [u]))) Rt d bs rs e.1 t v := fun {t v} ⟨es, S, hF⟩ => by
          refine ⟨es, S, ?_⟩
          rcases hF with h | ⟨e0, he0, q1, q2, y, l, q3, q4, dx, fs0, q, k1, k2, k3, k4, k5⟩
          · exact .inl h
          · exact .inr ⟨e0, he0, q1, q2, y, l, q3, q4, dx, fs0, q, kp _ _ k1 (fun _ z => by cases z) (fun z => by cases z), k2, k3, k4, kp _ _ k5 (fun _ z => by cases z) (fun z => by cases z)⟩
        have et : trips.take (j + 1) = trips.take j ++ [t] := by rw [List.take_succ, ht]; rfl
        rw [et]
        exact Paired.snoc (Paired.map' hacc fun t v m => kw (m.keep fun b o e n => g5.get g.tab e n)) (kw hu)
      · obtain ⟨g, acc, hD, hacc⟩ := h
        rw [← lx, List.take_length] at hacc
        intro y dx ny ndx nex
        have gx : Grew P H4 (L2.upd (L2.upd H4 dx (.own y)) y (.ins Mt dx [])) := (Grew.new g.tab ndx).put (by rw [upd_ne nex.symm]; exact ny)
        refine ⟨y, dx, D, e.1, e.2, acc, H4, rfl, gx, g.tab, ny, upd_same, SqL.of hD, fun H5 g5 hme => ⟨rfl, ?_⟩⟩
        exact k H5 (.ref y) (w3.more ne (g.trans g5)) hfs (.inr ⟨e, y, acc, least, rfl, hme, Paired.map' hacc fun t v m => m.keep fun b o e n => g5.get g.tab e n⟩)
end
end W

set_option Elab.async false
set_option linter.all false
set_option maxRecDepth 100000
set_option maxHeartbeats 2000000
namespace W
open PySem PySem.Spec PyProof.Rows L2 GxR MyG MyS MyR
/-! ### Relay, relay -/
abbrev sRlInit : Stmt := inClass (top 57) 0
abbrev sRelay : Stmt := top 59
structure TxtRl (K : PySem.W.Frag) (Rl : Addr) : Prop where
  cl : Cls K Rl
  n1 : NoAttr K Rl "place"
  n2 : NoAttr K Rl "handed"
  n3 : NoAttr K Rl "routes"
  n4 : NoAttr K Rl "arrival"
def RelayAt (H : Hp) (Rl y : Addr) (z : Str) (t a : Int) (xs : List V) : Prop := ∃ dx fs q, H y = some (.ins Rl dx fs) ∧ fs.lookup ("place" : Str) = some (V.str z) ∧ fs.lookup ("handed" : Str) = some (V.int t) ∧ fs.lookup ("routes" : Str) = some (V.ref q) ∧ fs.lookup ("arrival" : Str) = some (V.int a) ∧ H q = some (.tup xs)
def spRlInit (K : PySem.W.Frag) (Rl Rt P : Addr) : Sp := fun vs H Q _ => ∃ (x dx L yr : Addr) (z : Str) (t a : Int) (xs zs : List V) (H0 : Hp), vs = [.ref x, .str z, .int t, .ref L] ∧ Grew P H0 H ∧ TabG H0 P ∧ H0 x = none ∧ H x = some (.ins Rl dx []) ∧ SqL K H0 L xs ∧ xs.getLast? = some (.ref yr) ∧ RouteAt H0 Rt yr zs a ∧
  ∀ H', Grew P H0 H' → RelayAt H' Rl x z t a xs → Q .non H'
theorem atI_endV {xs : List V} {v : V} (h : xs.getLast? = some v) : atI xs (-1) = some v := by
  obtain ⟨a, rfl⟩ := List.getLast?_eq_some_iff.mp h
  exact L2.atI_last a v
theorem maxL_mem {ns : List Int} (h : ns ≠ []) : maxL ns ∈ ns := by
  cases ns with
  | nil => exact absurd rfl h
  | cons n ns' => exact (MyH.foldl_max ns' n).1
theorem PlF.pos {d : Int} {bs : List (Str × Str)} {rs : List RoadD} {t : Trip} {f : Str → Option Int} (h : PlF d bs rs t f) (t0 : 0 ≤ t.2.2) {z : Str} {u : Int} (e : f z = some u) : 0 ≤ u := by
  obtain ⟨es, ls, S, ⟨_, _, so, _⟩, rfl⟩ := h
  rcases so _ (zget_mem e) with ⟨_, b⟩ | ⟨e2, h2, r, hr, hg, ht⟩
  · have b' : u = t.2.2 := b
    omega
  · have g := S.ge e2 h2
    have ht' : e2.t = u := ht
    omega
theorem comL_pos {d : Int} {bs : List (Str × Str)} {rs : List RoadD} {trips : List Trip} {fs : List (Str → Option Int)} {ps : List Str} (hp : Paired (PlF d bs rs) trips fs) (t0 : ∀ t ∈ trips, 0 ≤ t.2.2) : ∀ e ∈ comL fs ps, 0 ≤ e.2 := fun e he => by
  obtain ⟨p, _, hc⟩ := List.mem_filterMap.mp he
  unfold comP at hc
  split at hc
  · rw [← Option.some.inj hc]
    show 0 ≤ maxL (fs.filterMap fun f => f p)
    by_cases c : (fs.filterMap fun f => f p) = []
    · rw [c]; exact Int.le_refl _
    · obtain ⟨f, hf, hu⟩ := List.mem_filterMap.mp (maxL_mem c)
      obtain ⟨t, htm, h1⟩ := Paired.mem hp hf
      exact h1.pos (t0 t htm) hu
  · cases hc
/-- the arrival that earliest tells -/
def GoalE (d : Int) (bs : List (Str × Str)) (rs : List RoadD) (t : Trip) (goal : Str) (o : Option Int) : Prop := ∃ es, Sol d t.1 bs rs t.2.1 t.2.2 es ∧ ((o = none ∧ ∀ e ∈ es, plN t.2.1 e.n ≠ goal) ∨ ∃ e ∈ es, plN t.2.1 e.n = goal ∧ (∀ f ∈ es, plN t.2.1 f.n = goal → e.t ≤ f.t) ∧ o = some e.t)
def stepB (acc : Option ((Str × Int) × Int)) (p : (Str × Int) × Option Int) : Option ((Str × Int) × Int) := match p.2 with
  | none => acc
  | some a => match acc with
    | none => some (p.1, a)
    | some b => if a < b.2 then some (p.1, a) else some b
def bestL (rows : List (Str × Int)) (gs : List (Option Int)) : Option ((Str × Int) × Int) := (rows.zip gs).foldl stepB none
theorem bestL_snoc {rows : List (Str × Int)} {gs : List (Option Int)} (h : rows.length = gs.length) (r : Str × Int) (o : Option Int) : bestL (rows ++ [r]) (gs ++ [o]) = stepB (bestL rows gs) (r, o) := by
  unfold bestL
  rw [List.zip_append h, List.foldl_append]
  rfl
def RelV (H : Hp) (Rl Rt : Addr) (d : Int) (bs : List (Str × Str)) (rs : List RoadD) (one other : Trip) (goal : Str) (best : Option ((Str × Int) × Int)) (v : V) : Prop := (best = none ∧ v = .non) ∨ ∃ r a y w1 w2 w3, best = some (r, a) ∧ v = .ref y ∧ RelayAt H Rl y r.1 r.2 a [w1, w2, w3] ∧ WayAt H Rt d bs rs r.1 one w1 ∧ WayAt H Rt d bs rs r.1 other w2 ∧ WayAt H Rt d bs rs goal (other.1, r.1, r.2) w3
theorem RelV.keep {H H' : Hp} {Rl Rt : Addr} {d : Int} {bs : List (Str × Str)} {rs : List RoadD} {one other : Trip} {goal : Str} {best : Option ((Str × Int) × Int)} {v : V} (k : ∀ b o, H b = some o → (∀ ps, o ≠ .tbl ps) → H' b = some o) (h : RelV H Rl Rt d bs rs one other goal best v) : RelV H' Rl Rt d bs rs one other goal best v := by
  rcases h with h | ⟨r, a, y, w1, w2, w3, e1, e2, ⟨dx, fs, q, k1, k2, k3, k4, k5, k6⟩, m1, m2, m3⟩
  · exact .inl h
  · exact .inr ⟨r, a, y, w1, w2, w3, e1, e2, ⟨dx, fs, q, k _ _ k1 (fun _ z => by cases z), k2, k3, k4, k5, k _ _ k6 (fun _ z => by cases z)⟩, m1.keep k, m2.keep k, m3.keep k⟩
def spRelay (K : PySem.W.Frag) (M Rl Rt P : Addr) : Sp := fun vs H Q _ => ∃ (x : Addr) (v1 v2 : V) (one other : Trip) (goal : Str) (d : Int) (ks ps : List Str) (rs : List RoadD) (bs : List (Str × Str)), vs = [.ref x, v1, v2, .str goal] ∧ MIn K H M P x d ks ps rs bs ∧ RsIn ps rs ∧ (∀ r ∈ rs, 1 ≤ r.minutes) ∧ (∀ z ∈ ps, z.length ≤ 1000) ∧ ps.length ≤ 1000 ∧ (∀ r ∈ rs, PyData.strOk r.name = true) ∧
  TripAt H one v1 ∧ TripAt H other v2 ∧ TripOk ks ps one ∧ TripOk ks ps other ∧ goal ∈ ps ∧
  ∀ H' fs gs v, Grew P H H' → Paired (PlF d bs rs) [one, other] fs → Paired (fun r o => GoalE d bs rs (other.1, r.1, r.2) goal o) (comL fs ps) gs → RelV H' Rl Rt d bs rs one other goal (bestL (comL fs ps) gs) v → Q v H'
section
variable {Pg : Program} {w : World} {K : PySem.W.Frag} {mg : Str → Option Value} {base : Heap} {C P : Addr}
theorem scRlInit : FnScope ["self", "place", "handed", "routes"] ["self", "place", "handed", "routes"] (defScope sRlInit) := ⟨rfl, rfl, rfl, by decide +kernel, rfl, by decide +kernel, by decide +kernel⟩
theorem ok_rlInit {f Rl Rt : Addr} {fd : FuncData} (F : Fun K "__init__" "Relay.__init__" sRlInit f fd) (T : TxtRl K Rl) (TR : TxtR K Rt) (ht : mg "tuple" = none) : FnOk Pg w K mg base CX0 1 f fd ["self", "place", "handed", "routes"] (spRlInit K Rl Rt P) := by
  refine F.ok scRlInit (fun vs H Q E h => ?_) (fun cdv A outer s H vs Q E hr h => ?_)
  · obtain ⟨x, dx, L, yr, z, t, a, xs, zs, H0, rfl, _⟩ := h
    rfl
  · obtain ⟨x, dx, L, yr, z, t, a, xs, zs, H0, rfl, g0, hP0, nx, hx, hL, hlast, hro, k⟩ := h
    refine ⟨_, pss_cons (ps_fld (pv 0) (pv 1) rfl) (pss_cons (ps_fld (pv 0) (pv 2) rfl)
      (pss_cons (ps_fld (pv 0) (pe_callTy call_tuple_of (by rfl) ht (by decide +kernel) (pa_cons (pv 3) pa_nil)) rfl)
      (pss_one (ps_fld (pv 0) (pe_fld (pe_ix ix_tup (pe_fld (pv 0) rfl) (pe_un un_neg pe_int) (fun _ _ => rfl)) rfl) rfl)))), ?_⟩
    have nins : ∀ (fs : List (Str × V)) (q : Array Value), (HO.ins Rl dx fs) ≠ .tbl q := fun _ _ z => by cases z
    have l0 : ∀ {f g : Str} {u : V} {fs : List (Str × V)}, fs.lookup f = none → f ≠ g → (putF g u fs).lookup f = none := fun {f g u fs} h n => by rw [lookup_putF, if_neg n]; exact h
    refine ⟨_, rfl, _, rfl, x, Rl, dx, [], rfl, hx, T.cl, T.n1, by decide, ?_⟩
    have ga := g0.write (o := .ins Rl dx (putF "place" (.str z) [])) hx (nins _) nx
    have c1 := length_putF ("place" : Str) (V.str z) []
    rw [List.length_nil] at c1
    refine ⟨_, rfl, _, rfl, x, Rl, dx, _, rfl, upd_same, T.cl, T.n2, by omega, ?_⟩
    have gb := ga.write (o := .ins Rl dx (putF "handed" (.int t) (putF "place" (.str z) []))) upd_same (nins _) nx
    have c2 := length_putF ("handed" : Str) (V.int t) (putF "place" (.str z) [])
    have hxb : (L2.upd (L2.upd H x (.ins Rl dx (putF "place" (.str z) []))) x (.ins Rl dx (putF "handed" (.int t) (putF "place" (.str z) [])))) x = some (.ins Rl dx (putF "handed" (.int t) (putF "place" (.str z) []))) := upd_same
    generalize L2.upd (L2.upd H x (.ins Rl dx (putF "place" (.str z) []))) x (.ins Rl dx (putF "handed" (.int t) (putF "place" (.str z) []))) = Hb at gb hxb
    refine ⟨_, rfl, L, _, rfl, .inl ⟨gb.sqL hP0 hL, fun q nq => ?_⟩⟩
    have gq := Grew.new gb.tab (o := .tup xs) nq
    have g1 := gb.trans gq
    have hx1 := gq.get gb.tab hxb (nins _)
    have hq1 : (L2.upd Hb q (.tup xs)) q = some (.tup xs) := upd_same
    generalize L2.upd Hb q (.tup xs) = Hc at gq g1 hx1 hq1
    refine ⟨_, rfl, x, Rl, dx, _, rfl, hx1, T.cl, T.n3, by omega, ?_⟩
    have nqx : q ≠ x := fun e => by rw [e, hx1] at hq1; cases hq1
    have gc := g1.write (o := .ins Rl dx (putF "routes" (.ref q) (putF "handed" (.int t) (putF "place" (.str z) [])))) hx1 (nins _) nx
    have c3 := length_putF ("routes" : Str) (V.ref q) (putF "handed" (.int t) (putF "place" (.str z) []))
    have hxd : (L2.upd Hc x (.ins Rl dx (putF "routes" (.ref q) (putF "handed" (.int t) (putF "place" (.str z) []))))) x = some (.ins Rl dx (putF "routes" (.ref q) (putF "handed" (.int t) (putF "place" (.str z) [])))) := upd_same
    have hqd : (L2.upd Hc x (.ins Rl dx (putF "routes" (.ref q) (putF "handed" (.int t) (putF "place" (.str z) []))))) q = some (.tup xs) := by rw [upd_ne nqx]; exact hq1
    generalize L2.upd Hc x (.ins Rl dx (putF "routes" (.ref q) (putF "handed" (.int t) (putF "place" (.str z) [])))) = Hd at gc hxd hqd
    obtain ⟨dr, fr, qr, k1, k2, k3, k4, k5⟩ := hro
    have hyr := gc.get hP0 k1 (fun _ z => by cases z)
    refine ⟨_, rfl, x, Rl, dx, _, .ref q, rfl, hxd, T.cl, T.n3, by rw [lookup_putF, if_pos rfl], 1, rfl, q, _, -1, .ref yr, rfl, rfl, SqT.of hqd, atI_endV hlast, yr, Rt, dr, fr, .int a, rfl, hyr, TR.cl, TR.n2, k3, _, rfl, x, Rl, dx, _, rfl, hxd, T.cl, T.n4, by omega, ?_⟩
    have ge := gc.write (o := .ins Rl dx (putF "arrival" (.int a) (putF "routes" (.ref q) (putF "handed" (.int t) (putF "place" (.str z) []))))) hxd (nins _) nx
    refine k _ ge ⟨dx, _, q, upd_same, ?_, ?_, ?_, ?_, ?_⟩
    · rw [lookup_putF, if_neg (by decide +kernel), lookup_putF, if_neg (by decide +kernel), lookup_putF, if_neg (by decide +kernel), lookup_putF, if_pos rfl]
    · rw [lookup_putF, if_neg (by decide +kernel), lookup_putF, if_neg (by decide +kernel), lookup_putF, if_pos rfl]
    · rw [lookup_putF, if_neg (by decide +kernel), lookup_putF, if_pos rfl]
    · rw [lookup_putF, if_pos rfl]
    · rw [upd_ne nqx]; exact hqd
abbrev nRelay : List Str := ["chart", "one", "other", "goal", "rows", "best", "place", "handed", "last"]
theorem scRelay : FnScope nRelay ["chart", "one", "other", "goal"] (defScope sRelay) := ⟨rfl, rfl, rfl, by decide +kernel, rfl, by decide +kernel, by decide +kernel⟩
theorem ok_relay {f M U Rl Rt fC fR fE fP fI : Addr} {fd fdC fdR fdE fdP fdI : FuncData} (F : Fun K "relay" "relay" sRelay f fd) (TM : TxtM K M) (TL : TxtRl K Rl) (TR : TxtR K Rt)
    (GC : FnOk Pg w K mg base (L2.CX Pg w) 12 fC fdC ["chart", "trips"] (spCommon K M P)) (gC : mg "_common_places" = some (.ref fC)) (kC : PySem.W.keepIn K (.ref fC) = true) (bC : Binds K fdC ["chart", "trips"] [])
    (GR : FnOk Pg w K mg base (L2.CX Pg w) 11 fR fdR ["chart", "trip", "place"] (spRoTo K M Rt P)) (gR : mg "_route_to" = some (.ref fR)) (kR : PySem.W.keepIn K (.ref fR) = true) (bR : Binds K fdR ["chart", "trip", "place"] [])
    (GE : FnOk Pg w K mg base (L2.CX Pg w) 10 fE fdE ["chart", "kind", "start", "goal", "moment"] (spEarliest K M U Rt P)) (gE : mg "earliest" = some (.ref fE)) (kE : PySem.W.keepIn K (.ref fE) = true) (bE : Binds K fdE ["chart", "kind", "start", "goal", "moment"] [])
    (mP : Meth K M "check_place" fP) (GP : FnOk Pg w K mg base (L2.CX Pg w) 3 fP fdP ["self", "place"] (spChkL K M U selP)) (bP : Binds K fdP ["self", "place"] [])
    (Mk : L2.Mk K Rl fI) (gM : mg "Relay" = some (.ref Rl)) (GI : FnOk Pg w K mg base CX0 1 fI fdI ["self", "place", "handed", "routes"] (spRlInit K Rl Rt P)) (bI : Binds K fdI ["self", "place", "handed", "routes"] []) :
    FnOk Pg w K mg base (L2.CX Pg w) 13 f fd ["chart", "one", "other", "goal"] (spRelay K M Rl Rt P) := by
  refine F.okX scRelay (fun vs H Q E h => ?_) (fun cdv A outer s H vs Q E hr h => ?_)
  · obtain ⟨x, v1, v2, one, other, goal, d, ks, ps, rs, bs, rfl, _⟩ := h
    rfl
  · obtain ⟨x, v1, v2, one, other, goal, d, ks, ps, rs, bs, rfl, hM, hin, hmi, hpl, lps, hso, hT1, hT2, ho1, ho2, hgo, k⟩ := h
    obtain ⟨tp1, rfl, htp1⟩ := hT1
    obtain ⟨tp2, rfl, htp2⟩ := hT2
    refine ⟨_, C8.pss_cut (ps_set (i := 4) scRelay.nd rfl (Or.inl rfl) (pe_call (E := E0) GC (hr.mono (by decide)) (by rfl) gC kC bC .nil (passF rfl rfl) (pa_cons (pv 0) (pa_cons (pe_lst (pa_cons (pv 1) (pa_cons (pv 2) pa_nil))) pa_nil))))
      (pss_cons (ps_expr (pe_meth (pv 0) TM.cl mP GP (hr.mono (by decide)) bP .nil (passF rfl rfl) (pa_cons (pv 3) pa_nil)))
      (pss_cons (ps_set (i := 5) scRelay.nd rfl (Or.inl rfl) pe_non)
      (pss_cons (ps_for (passes_of rfl) rfl (pi_list (pv 4)) (pg_tup (by rfl) (pgs_cons (pg_name (i := 6) scRelay.nd rfl (.inl rfl)) (pgs_cons (pg_name (i := 7) scRelay.nd rfl (.inl rfl)) pgs_nil)))
        (C8.pss_cut (ps_set (i := 8) scRelay.nd rfl (Or.inl rfl) (pe_call (E := E0) GE (hr.mono (by decide)) (by rfl) gE kE bE .nil (passF rfl rfl) (pa_cons (pv 0) (pa_cons (pe_ix ix_tup (pv 2) pe_int (fun _ _ => rfl)) (pa_cons (pv 6) (pa_cons (pv 3) (pa_cons (pv 7) pa_nil)))))))
        (pss_one (ps_if (PW.pt (pw_and (pt_cmp (pc_notN (pv 8))) (pw_and1 (PW.pt (pw_or (pt_cmp (pc_isN (pv 5))) (pw_or1 (pt_cmpR op_lt (pe_fld (pv 8) rfl) (pe_fld (pv 5) rfl) (nomark _))))))))
          (pss_one (ps_set (i := 5) scRelay.nd rfl (Or.inl rfl) (pe_make Mk GI (hr.mono (by decide)) (by rfl) gM bI .nil pass0 (pa_cons (pv 6) (pa_cons (pv 7) (pa_cons (pe_lst (pa_cons (pe_call (E := E0) GR (hr.mono (by decide)) (by rfl) gR kR bR .nil (passF rfl rfl) (pa_cons (pv 0) (pa_cons (pv 1) (pa_cons (pv 6) pa_nil)))) (pa_cons (pe_call (E := E0) GR (hr.mono (by decide)) (by rfl) gR kR bR .nil (passF rfl rfl) (pa_cons (pv 0) (pa_cons (pv 2) (pa_cons (pv 6) pa_nil)))) (pa_cons (pv 8) pa_nil)))) pa_nil)))))) pss_nil))))
      (pss_one (ps_ret (pv 5)))))), ?_⟩
    have hP := hM.t
    -- rows
    refine ⟨fun σ H' => ∃ (R : Addr) (fs : List (Str → Option Int)) (ys : List V), σ = [some (.ref x), some (.ref tp1), some (.ref tp2), some (.str goal), some (.ref R), none, none, none, none] ∧ Grew P H H' ∧ Paired (PlF d bs rs) [one, other] fs ∧ H' R = some (.lst ys) ∧ Paired (RowAt H') (comL fs ps) ys, ?_, ?_⟩
    · refine ⟨_, rfl, _, rfl, _, rfl, by show 2 ≤ sizeLine; decide, fun La nLa => ?_⟩
      have ga := Grew.new hP (o := .lst [.ref tp1, .ref tp2]) nLa
      refine ⟨x, La, [one, other], _, d, ks, ps, rs, bs, rfl, hM.grew ga, hin, hmi, hpl, lps, upd_same, .cons ⟨tp1, rfl, ga.tup hP htp1⟩ (.cons ⟨tp2, rfl, ga.tup hP htp2⟩ .nil), fun t ht => ?_, by show 2 ≤ 900; decide, fun H1 R fs ys g1 nR hfs hR rows => ⟨R, fs, ys, rfl, ga.trans g1, hfs, hR, rows⟩⟩
      rcases List.mem_cons.mp ht with e | e
      · rw [e]; exact ho1
      · rw [List.mem_singleton.mp e]; exact ho2
    rintro σ H1 ⟨R, fs, ys, rfl, g1, hfs, hR, rows⟩
    have pos : ∀ e ∈ comL fs ps, 0 ≤ e.2 := comL_pos hfs fun t ht => by
      rcases List.mem_cons.mp ht with e | e
      · rw [e]; exact ho1.2.2.2.2
      · rw [List.mem_singleton.mp e]; exact ho2.2.2.2.2
    have inp : ∀ e ∈ comL fs ps, e.1 ∈ ps := fun e he => comL_in he
    have k := fun H' => k H' fs
    generalize comL fs ps = ls at rows pos inp k
    have lry := Paired.len rows
    obtain ⟨dx, fs7, kk, pp, rr, D0, bb, D2, ys7, zs7, hx, F7⟩ := hM.m
    refine ⟨_, rfl, x, dx, fs7, rfl, g1.get hP hx (fun _ z => by cases z), F7.f0 _ (by decide +kernel), _, rfl, x, goal, d, ks, ps, rs, bs, rfl, hpl goal hgo, (hM.grew g1).m, fun _ => ?_, fun no => absurd hgo no⟩
    refine ⟨_, rfl, R, rfl, ⟨_, SqL.of hR⟩, for_list (K := K) (a := R) (xs := ys) (fun i σ H' => ∃ (v5 : V) (v6 v7 v8 : Option V) (gs : List (Option Int)), σ = [some (.ref x), some (.ref tp1), some (.ref tp2), some (.str goal), some (.ref R), some v5, v6, v7, v8] ∧ Grew P H1 H' ∧ Paired (fun r o => GoalE d bs rs (other.1, r.1, r.2) goal o) (ls.take i) gs ∧ RelV H' Rl Rt d bs rs one other goal (bestL (ls.take i) gs) v5)
      ⟨.non, none, none, none, [], rfl, Grew.refl g1.tab, .nil, .inl ⟨rfl, rfl⟩⟩ (fun i σ H' _ ⟨_, _, _, _, _, _, g, _⟩ => SqL.of (g.lst g1.tab hR)) ?_ ?_⟩
    · rintro i v σ H2 hv ⟨v5, v6, v7, v8, gs, rfl, g2, hgs, hrel⟩
      obtain ⟨r, hr0, tp, rfl, htp⟩ := Paired.at rows hv
      have hrm := List.mem_of_getElem? hr0
      have g12 := g1.trans g2
      have et : ls.take (i + 1) = ls.take i ++ [r] := by rw [List.take_succ, hr0]; rfl
      have hM2 := hM.grew g12
      have htp2' := g12.tup hP htp2
      have htp1' := g12.tup hP htp1
      refine ⟨tp, _, rfl, SqT.of (g2.tup g1.tab htp), rfl, _, _, rfl, _, _, rfl, rfl, ?_⟩
      -- last
      refine ⟨fun σ H' => ∃ (v8 : V), σ = [some (.ref x), some (.ref tp1), some (.ref tp2), some (.str goal), some (.ref R), some v5, some (.str r.1), some (.int r.2), some v8] ∧ Grew P H2 H' ∧ WayAt H' Rt d bs rs goal (other.1, r.1, r.2) v8, ?_, ?_⟩
      · refine ⟨_, rfl, _, rfl, tp2, _, 0, .str other.1, rfl, rfl, SqT.of htp2', rfl, _, rfl, _, rfl, _, rfl, x, other.1, r.1, goal, r.2, d, ks, ps, rs, bs, rfl, ⟨hM2, hin, hmi, hpl, ho2.2.2.1, hpl _ (inp r hrm), pos r hrm⟩, hpl goal hgo, hso, .inr (.inr (.inr ⟨ho2.1, fun z hz => ?_, fun z hz => absurd hz (by simp), fun H3 es v g3 S hF => ⟨v, rfl, g3, es, S, hF⟩⟩))⟩
        rcases List.mem_cons.mp hz with e | e
        · rw [e]; exact inp r hrm
        · rw [List.mem_singleton.mp e]; exact hgo
      rintro σ H3 ⟨v8, rfl, g3, es, S, hF⟩
      have g13 := g12.trans g3
      have hrel3 := hrel.keep (fun b o e n => g3.get g2.tab e n)
      have lg := Paired.len hgs
      rcases hF with ⟨hno, rfl⟩ | ⟨e, hes, hg, hmin, yv, l', rfl, hpath, hro⟩
      · refine ⟨_, rfl, _, rfl, iteF ⟨v5, _, _, _, gs ++ [none], rfl, g2.trans g3, ?_, ?_⟩⟩
        · rw [et]; exact Paired.snoc hgs ⟨es, S, .inl ⟨rfl, hno⟩⟩
        · rw [et, bestL_snoc lg]; exact hrel3
      · have hgs' : Paired (fun r o => GoalE d bs rs (other.1, r.1, r.2) goal o) (ls.take (i + 1)) (gs ++ [some e.t]) := by
          rw [et]; exact Paired.snoc hgs ⟨es, S, .inr ⟨e, hes, hg, hmin, rfl⟩⟩
        have hway3 : WayAt H3 Rt d bs rs goal (other.1, r.1, r.2) (.ref yv) := ⟨es, S, .inr ⟨e, hes, hg, hmin, yv, l', rfl, hpath, hro⟩⟩
        obtain ⟨dr, fr, qr, k1, k2, k3, k4, k5⟩ := hro
        refine ⟨_, rfl, _, rfl, iteT ?_⟩
        rcases hrel3 with ⟨hb, rfl⟩ | ⟨r1, a1, y1, u1, u2, u3, hb, rfl, hrl1, m1, m2, m3⟩
        · refine ⟨_, rfl, _, rfl, if_t rfl ?_⟩
          refine ⟨_, rfl, _, rfl, _, rfl, _, rfl, _, rfl, x, .ref tp1, one, r.1, d, ks, ps, rs, bs, rfl, hM.grew g13, hin, hmi, hpl, hso, ⟨tp1, rfl, g13.tup hP htp1⟩, ho1, inp r hrm, fun H4 w1 g4 hw1 => ?_⟩
          have g14 := g13.trans g4
          refine ⟨_, rfl, _, rfl, _, rfl, x, .ref tp2, other, r.1, d, ks, ps, rs, bs, rfl, hM.grew g14, hin, hmi, hpl, hso, ⟨tp2, rfl, g14.tup hP htp2⟩, ho2, inp r hrm, fun H5 w2 g5 hw2 => ?_⟩
          have g15 := g14.trans g5
          refine ⟨_, rfl, by show 3 ≤ sizeLine; decide, fun Lb nLb => ?_⟩
          have gL := Grew.new g15.tab (o := .lst [w1, w2, .ref yv]) nLb
          have g16 := g15.trans gL
          have hLb : (L2.upd H5 Lb (.lst [w1, w2, .ref yv])) Lb = some (.lst [w1, w2, .ref yv]) := upd_same
          generalize L2.upd H5 Lb (.lst [w1, w2, .ref yv]) = H6 at gL g16 hLb
          intro y dxn ny ndx nex
          have gx : Grew P H6 (L2.upd (L2.upd H6 dxn (.own y)) y (.ins Rl dxn [])) := (Grew.new g16.tab ndx).put (by rw [upd_ne nex.symm]; exact ny)
          have g36 : Grew P H3 H6 := (g4.trans g5).trans gL
          refine ⟨y, dxn, Lb, yv, r.1, r.2, e.t, [w1, w2, .ref yv], _, H6, rfl, gx, g16.tab, ny, upd_same, SqL.of hLb, rfl, ⟨dr, fr, qr, g36.get g13.tab k1 (fun _ z => by cases z), k2, k3, k4, g36.tup g13.tab k5⟩, fun H7 g7 hrl => ⟨rfl, ?_⟩⟩
          refine ⟨.ref y, _, _, _, gs ++ [some e.t], rfl, ((g2.trans g3).trans g36).trans g7, hgs', ?_⟩
          rw [et, bestL_snoc lg]
          have g37 := g36.trans g7
          have g47 := (g5.trans gL).trans g7
          have g57 := gL.trans g7
          refine .inr ⟨r, e.t, y, w1, w2, .ref yv, by rw [hb]; rfl, rfl, hrl, hw1.keep (fun b o e n => g47.get g14.tab e n), hw2.keep (fun b o e n => g57.get g15.tab e n), hway3.keep (fun b o e n => g37.get g13.tab e n)⟩
        · have hrl1' := hrl1
          obtain ⟨dx1, f1, q1, j1, j2, j3, j4, j5, j6⟩ := hrl1'
          refine ⟨_, rfl, _, rfl, if_f rfl ?_⟩
          refine ⟨_, rfl, yv, Rt, dr, fr, .int e.t, rfl, k1, TR.cl, TR.n2, k3, _, rfl, y1, Rl, dx1, f1, .int a1, rfl, j1, TL.cl, TL.n4, j5, _, _, rfl, rfl, _, rfl, ?_⟩
          refine iteC (fun c => ?_) (fun c => ?_)
          · refine ⟨_, rfl, _, rfl, _, rfl, _, rfl, _, rfl, x, .ref tp1, one, r.1, d, ks, ps, rs, bs, rfl, hM.grew g13, hin, hmi, hpl, hso, ⟨tp1, rfl, g13.tup hP htp1⟩, ho1, inp r hrm, fun H4 w1 g4 hw1 => ?_⟩
            have g14 := g13.trans g4
            refine ⟨_, rfl, _, rfl, _, rfl, x, .ref tp2, other, r.1, d, ks, ps, rs, bs, rfl, hM.grew g14, hin, hmi, hpl, hso, ⟨tp2, rfl, g14.tup hP htp2⟩, ho2, inp r hrm, fun H5 w2 g5 hw2 => ?_⟩
            have g15 := g14.trans g5
            refine ⟨_, rfl, by show 3 ≤ sizeLine; decide, fun Lb nLb => ?_⟩
            have gL := Grew.new g15.tab (o := .lst [w1, w2, .ref yv]) nLb
            have g16 := g15.trans gL
            have hLb : (L2.upd H5 Lb (.lst [w1, w2, .ref yv])) Lb = some (.lst [w1, w2, .ref yv]) := upd_same
            generalize L2.upd H5 Lb (.lst [w1, w2, .ref yv]) = H6 at gL g16 hLb
            intro y dxn ny ndx nex
            have gx : Grew P H6 (L2.upd (L2.upd H6 dxn (.own y)) y (.ins Rl dxn [])) := (Grew.new g16.tab ndx).put (by rw [upd_ne nex.symm]; exact ny)
            have g36 : Grew P H3 H6 := (g4.trans g5).trans gL
            refine ⟨y, dxn, Lb, yv, r.1, r.2, e.t, [w1, w2, .ref yv], _, H6, rfl, gx, g16.tab, ny, upd_same, SqL.of hLb, rfl, ⟨dr, fr, qr, g36.get g13.tab k1 (fun _ z => by cases z), k2, k3, k4, g36.tup g13.tab k5⟩, fun H7 g7 hrl => ⟨rfl, ?_⟩⟩
            refine ⟨.ref y, _, _, _, gs ++ [some e.t], rfl, ((g2.trans g3).trans g36).trans g7, hgs', ?_⟩
            rw [et, bestL_snoc lg]
            have g37 := g36.trans g7
            have g47 := (g5.trans gL).trans g7
            have g57 := gL.trans g7
            refine .inr ⟨r, e.t, y, w1, w2, .ref yv, by rw [hb]; exact if_pos c, rfl, hrl, hw1.keep (fun b o e n => g47.get g14.tab e n), hw2.keep (fun b o e n => g57.get g15.tab e n), hway3.keep (fun b o e n => g37.get g13.tab e n)⟩
          · refine ⟨_, _, _, _, gs ++ [some e.t], rfl, g2.trans g3, hgs', ?_⟩
            rw [et, bestL_snoc lg, hb]
            exact .inr ⟨r1, a1, y1, u1, u2, u3, if_neg c, rfl, hrl1, m1, m2, m3⟩
    · rintro σ H' ⟨v5, v6, v7, v8, gs, rfl, g, hgs, hrel⟩
      rw [← lry, List.take_length] at hgs hrel
      exact ⟨_, rfl, k H' gs v5 (g1.trans g) hfs hgs hrel⟩
end
end W

set_option Elab.async false
set_option linter.all false
set_option maxRecDepth 100000
set_option maxHeartbeats 2000000
namespace W
open PySem PySem.Spec PyProof.Rows L2 GxR MyG MyS MyR
/-! ### _law_trips, _law_places -/
abbrev sLTrips : Stmt := top 76
abbrev sLPlaces : Stmt := top 77
def TripIn (ks ps : List Str) (t : Trip) : Prop := t.1 ∈ ks ∧ t.2.1 ∈ ps ∧ 0 ≤ t.2.2 ∧ t.2.2 ≤ 99999
def spLTrips (K : PySem.W.Frag) (P : Addr) : Sp := fun vs H Q _ => ∃ (q a : Addr) (at_ many d : Int) (ps ks : List Str) (rs : List RoadD) (bs : List (Str × Str)) (ns : List Int), vs = [.ref q, .ref a, .int at_, .int many] ∧ PartsAt K H q d ps ks rs bs ∧ PartsOk d ks ps rs bs ∧ 1 ≤ rs.length ∧ SqL K H a (ns.map V.int) ∧ Sm ns ∧ 0 ≤ at_ ∧ 0 ≤ many ∧ many ≤ 100 ∧ at_ + 4 * many ≤ ns.length ∧ TabG H P ∧
  ∀ H' L trips xs, Grew P H H' → H L = none → H' L = some (.lst xs) → Paired (TripAt H') trips xs → trips.length = many.toNat → (∀ t ∈ trips, TripIn ks ps t) → Q (.ref L) H'
/-- the places of a drive, with the arrivals -/
def arrL (d : Int) : Int → List RoadD → List (Str × Int)
  | _, [] => []
  | t, r :: l => (r.goal, ar d r t) :: arrL d (ar d r t) l
def stgL (d : Int) : Int → List RoadD → List Stage
  | _, [] => []
  | t, r :: l => (r.name, (enterR d r t).getD 0, ar d r t) :: stgL d (ar d r t) l
def plcL (d : Int) (z : Str) (t : Int) (ro : List RoadD) : List (Str × Int) := (z, t) :: arrL d t ro
theorem arrL_len {d : Int} : ∀ (t : Int) (ro : List RoadD), (arrL d t ro).length = ro.length
  | _, [] => rfl
  | t, r :: l => by
    show (arrL d _ l).length + 1 = l.length + 1
    rw [arrL_len _ l]
theorem stgL_len {d : Int} : ∀ (t : Int) (ro : List RoadD), (stgL d t ro).length = ro.length
  | _, [] => rfl
  | t, r :: l => by
    show (stgL d _ l).length + 1 = l.length + 1
    rw [stgL_len _ l]
theorem stg_at {d : Int} : ∀ {t : Int} {ro : List RoadD} {i : Nat} {s : Stage}, (stgL d t ro)[i]? = some s → ∃ r, ro[i]? = some r ∧ s.1 = r.name ∧ (arrL d t ro)[i]? = some (r.goal, s.2.2)
  | _, [], _, _, h => by simp [stgL] at h
  | t, r :: l, 0, s, h => by
    have e : (r.name, (enterR d r t).getD 0, ar d r t) = s := Option.some.inj h
    subst e
    exact ⟨r, rfl, rfl, rfl⟩
  | t, r :: l, i + 1, s, h => by
    have h' : (stgL d (ar d r t) l)[i]? = some s := h
    obtain ⟨r', a, b, c⟩ := stg_at h'
    exact ⟨r', a, b, c⟩
theorem ride_walk {d : Int} {kind : Str} {bs : List (Str × Str)} (d1 : 1 ≤ d) : ∀ {ro : List RoadD} {pl : Str} {bf : Option Str} {t : Int}, (∀ r ∈ ro, HoursOk d r.hours) → walkOk kind bs pl bf ro → rideL d kind bs pl bf t ro = (stgL d t ro, true)
  | [], _, _, _, _, _ => rfl
  | r :: l, pl, bf, t, ho, h => by
    obtain ⟨_, e, he, ha, _⟩ := ar_some d1 (ho r List.mem_cons_self) (may_ever h.1) t
    have e1 : (enterR d r t).getD 0 + r.minutes = ar d r t := by rw [he, ha]; rfl
    have ih := ride_walk (kind := kind) (bs := bs) d1 (t := ar d r t) (fun r h => ho r (List.mem_cons_of_mem _ h)) h.2
    show (if mayB kind bs pl bf r = true then _ else _) = _
    rw [if_pos h.1, e1, ih]
    rfl
theorem may_none {kind : Str} {bs : List (Str × Str)} {pl : Str} {bf : Option Str} {r : RoadD} (h : mayB kind bs pl bf r = true) : mayB kind bs pl none r = true := by
  unfold mayB at h ⊢
  simp only [Bool.and_eq_true] at h ⊢
  exact ⟨h.1, h.2.1, trivial⟩
theorem walk_none {kind : Str} {bs : List (Str × Str)} {pl : Str} {bf : Option Str} {ro : List RoadD} (h : walkOk kind bs pl bf ro) : walkOk kind bs pl none ro := by
  cases ro with
  | nil => trivial
  | cons r l => exact ⟨may_none h.1, h.2⟩
theorem walk_drop {d : Int} {kind : Str} {bs : List (Str × Str)} : ∀ {ro : List RoadD} {pl : Str} {bf : Option Str} {t : Int} {j : Nat} {e : Str × Int}, walkOk kind bs pl bf ro → (plcL d pl t ro)[j]? = some e → walkOk kind bs e.1 none (ro.drop j)
  | ro, pl, bf, t, 0, e, h, he => by
    obtain rfl : (pl, t) = e := Option.some.inj he
    exact walk_none h
  | [], _, _, _, j + 1, e, h, he => by simp [plcL, arrL] at he
  | r :: l, pl, bf, t, j + 1, e, h, he => by
    have he' : (plcL d r.goal (ar d r t) l)[j]? = some e := he
    show walkOk kind bs e.1 none (l.drop j)
    exact walk_drop (ro := l) (pl := r.goal) (bf := some r.name) (t := ar d r t) (j := j) h.2 he'
theorem drv_arr {d : Int} {kind : Str} {bs : List (Str × Str)} {rs : List RoadD} {start : Str} {m : Int} : ∀ {ro : List RoadD} {p : Node} {t0 t : Int}, Drv d kind bs rs start m p t0 → t0 ≤ t → walkOk kind bs (plN start p) (p.map (·.name)) ro → (∀ r ∈ ro, r ∈ rs) → ∀ e ∈ arrL d t ro, ∃ n, Drv d kind bs rs start m n e.2 ∧ plN start n = e.1
  | [], _, _, _, _, _, _, _, e, he => by cases he
  | r :: l, p, t0, t, h, le, hw, hm, e, he => by
    have st : Drv d kind bs rs start m (some r) (ar d r t) := Drv.step p t0 t r h (hm r List.mem_cons_self) hw.1 le
    rcases List.mem_cons.mp he with h | h
    · rw [h]; exact ⟨some r, st, rfl⟩
    · exact drv_arr st (Int.le_refl _) hw.2 (fun r h => hm r (List.mem_cons_of_mem _ h)) e h
/-- every place of a drive: a drive that waits comes to it no later -/
theorem drv_plc {d : Int} {kind : Str} {bs : List (Str × Str)} {rs : List RoadD} {start : Str} {m t : Int} {ro : List RoadD} (le : m ≤ t) (hw : walkOk kind bs start none ro) (hm : ∀ r ∈ ro, r ∈ rs) : ∀ e ∈ plcL d start t ro, ∃ n u, Drv d kind bs rs start m n u ∧ plN start n = e.1 ∧ u ≤ e.2 := fun e he => by
  rcases List.mem_cons.mp he with h | h
  · rw [h]; exact ⟨none, m, Drv.root, rfl, le⟩
  · obtain ⟨n, h1, h2⟩ := drv_arr (start := start) Drv.root le hw hm e h
    exact ⟨n, e.2, h1, h2, Int.le_refl _⟩
theorem pl_in {d : Int} {ps : List Str} {rs : List RoadD} (hg : ∀ r ∈ rs, r.goal ∈ ps) : ∀ {ro : List RoadD} {t : Int}, (∀ r ∈ ro, r ∈ rs) → ∀ e ∈ arrL d t ro, e.1 ∈ ps
  | [], _, _, e, he => by cases he
  | r :: l, t, hm, e, he => by
    rcases List.mem_cons.mp he with h | h
    · rw [h]; exact hg r (hm r List.mem_cons_self)
    · exact pl_in hg (fun r h => hm r (List.mem_cons_of_mem _ h)) e h
theorem arr_small {d : Int} {rs : List RoadD} {kind : Str} {bs : List (Str × Str)} {start : Str} {m : Int} (d1 : 1 ≤ d) (ho : ∀ r ∈ rs, HoursOk d r.hours) (hmi : ∀ r ∈ rs, 1 ≤ r.minutes) {n : Node} {u : Int} (h : Drv d kind bs rs start m n u) : m ≤ u := by
  induction h with
  | root => exact Int.le_refl _
  | step p t w r h hr hm hw ih =>
    obtain ⟨_, e, _, ha, hle⟩ := ar_some d1 (ho r hr) (may_ever hm) w
    have := hmi r hr
    omega
theorem st_eq {σ σ' : L2.St} {F : L2.St → Hp → Prop} {H : Hp} (e : σ = σ') (h : F σ' H) : F σ H := by rw [e]; exact h
theorem made_in {K : PySem.W.Frag} {H : Hp} {M P x : Addr} {d : Int} {ks ps ks' ps' : List Str} {rs rs' : List RoadD} {bs bs' : List (Str × Str)} (hok : PartsOk d ks ps rs bs) (pp : ps'.Perm ps) (kr : KeptAll rs rs') (hM : MapAt K H M x d ks' ps' rs' bs') (t : TabG H P) :
    MIn K H M P x d ks' ps' rs' bs' ∧ RsIn ps' rs' ∧ (∀ r ∈ rs', 1 ≤ r.minutes) ∧ (∀ z ∈ ps', z.length ≤ 1000) ∧ ps'.length ≤ 1000 := by
  have ndn : (rs.map (·.name)).Nodup := hok.r.nd
  have ndn' := kr.nodup ndn
  have out : ∀ {r'}, r' ∈ rs' → ∃ r ∈ rs, Kept r r' := fun {r'} h => by
    obtain ⟨l, pm, pr⟩ := kr
    obtain ⟨r, hr0, qq⟩ := Paired.mem pr (pm.mem_iff.mpr h)
    exact ⟨r, hr0, qq⟩
  have nm' : ∀ r' ∈ rs', isNm r'.name = true := fun r' h => by
    obtain ⟨r, h1, h2⟩ := out h
    rw [h2.1]
    exact List.all_eq_true.mp hok.r.nm r.name (List.mem_map.mpr ⟨r, h1, rfl⟩)
  have lrs : rs'.length = rs.length := by
    obtain ⟨l, pm, pr⟩ := kr
    rw [← pm.length_eq, Paired.len pr]
  refine ⟨⟨hM, t, ndn', fun r' h => Nat.le_trans (isNm_len (nm' r' h)) (by decide), hok.d1, fun r' h => ?_⟩, ⟨by have := hok.r.len; omega, fun r' h => ?_, fun r' h => isNm_ne (nm' r' h)⟩, fun r' h => ?_, fun z h => Nat.le_trans (isNm_len (List.all_eq_true.mp hok.pn z (pp.mem_iff.mp h))) (by decide), by rw [pp.length_eq]; exact Nat.le_trans hok.p2 (by decide)⟩
  · obtain ⟨r, h1, h2⟩ := out h
    rw [h2.2.2.2.2.1]
    exact (hok.r.ok r h1).h
  · obtain ⟨r, h1, h2⟩ := out h
    rw [h2.2.2.1]
    exact pp.mem_iff.mpr (hok.r.ok r h1).g
  · obtain ⟨r, h1, h2⟩ := out h
    rw [h2.2.2.2.1]
    exact (hok.r.ok r h1).m1
theorem PartsAt.went1 {K : PySem.W.Frag} {P Pr : Addr} {qn : Str} {H H' : Hp} {q : Addr} {d : Int} {ps ks : List Str} {rs : List RoadD} {bs : List (Str × Str)} (w : Went1 P Pr qn H H') (m : PartsAt K H q d ps ks rs bs) : PartsAt K H' q d ps ks rs bs := by
  obtain ⟨pl, ki, ro, ba, xs, zs, e, epl, eki, ero, hrs, eba, hbs⟩ := m
  have kt : KeepT K H H' := fun _ _ h => w.sqT h
  exact ⟨pl, ki, ro, ba, xs, zs, w.lst e, w.lst epl, w.lst eki, w.lst ero, Paired.map' hrs (fun _ _ m => m.keep kt), w.lst eba, Paired.map' hbs (fun _ _ ⟨t, a, b⟩ => ⟨t, a, w.tup b⟩)⟩
theorem two_trips {H : Hp} {trips : List Trip} {xs : List V} (h : Paired (TripAt H) trips xs) (l : trips.length = 2) : ∃ one other t1 t2, trips = [one, other] ∧ xs = [.ref t1, .ref t2] ∧ H t1 = some (.tup [.str one.1, .str one.2.1, .int one.2.2]) ∧ H t2 = some (.tup [.str other.1, .str other.2.1, .int other.2.2]) := by
  cases h with
  | nil => cases l
  | cons h1 h =>
    cases h with
    | nil => cases l
    | cons h2 h =>
      cases h with
      | nil =>
        obtain ⟨p1, rfl, e1⟩ := h1
        obtain ⟨p2, rfl, e2⟩ := h2
        exact ⟨_, _, p1, p2, rfl, rfl, e1, e2⟩
      | cons _ _ => simp at l
theorem two_pairs {α β : Type} {F : α → β → Prop} {a b : α} {ys : List β} (h : Paired F [a, b] ys) : ∃ u v, ys = [u, v] ∧ F a u ∧ F b v := by
  cases h with
  | cons h1 h =>
    cases h with
    | cons h2 h =>
      cases h with
      | nil => exact ⟨_, _, rfl, h1, h2⟩
theorem bestL_le {rows : List (Str × Int)} {gs : List (Option Int)} {r : Str × Int} {a : Int} (h : (r, some a) ∈ rows.zip gs) : ∃ r' a', bestL rows gs = some (r', a') ∧ a' ≤ a := by
  unfold bestL
  have keep : ∀ (l : List ((Str × Int) × Option Int)) (r1 : Str × Int) (a1 : Int), a1 ≤ a → ∃ r' a', l.foldl stepB (some (r1, a1)) = some (r', a') ∧ a' ≤ a := by
    intro l
    induction l with
    | nil => intro r1 a1 h; exact ⟨r1, a1, rfl, h⟩
    | cons p l ih =>
      intro r1 a1 h
      rw [List.foldl_cons]
      obtain ⟨r2, o⟩ := p
      cases o with
      | none => exact ih r1 a1 h
      | some a2 =>
        show ∃ r' a', l.foldl stepB (if a2 < a1 then some (r2, a2) else some (r1, a1)) = some (r', a') ∧ a' ≤ a
        split
        · exact ih r2 a2 (by omega)
        · exact ih r1 a1 h
  have key : ∀ (l : List ((Str × Int) × Option Int)) (acc : Option ((Str × Int) × Int)), (r, some a) ∈ l → ∃ r' a', l.foldl stepB acc = some (r', a') ∧ a' ≤ a := by
    intro l
    induction l with
    | nil => intro acc h; cases h
    | cons p l ih =>
      intro acc h
      rw [List.foldl_cons]
      rcases List.mem_cons.mp h with e | e
      · subst e
        cases acc with
        | none => exact keep l r a (Int.le_refl _)
        | some b =>
          obtain ⟨rb, b2⟩ := b
          show ∃ r' a', l.foldl stepB (if a < b2 then some (r, a) else some (rb, b2)) = some (r', a') ∧ a' ≤ a
          split
          · exact keep l r a (Int.le_refl _)
          · exact keep l rb b2 (by omega)
      · exact ih _ e
  exact key _ _ h
section
variable {d : Int} {bs bs' : List (Str × Str)} {rs rs' : List RoadD}
/-- nobody drives to a place earlier than it is told -/
theorem drv_pl (G : SG d rs') (inn : ∀ r ∈ rs, ∃ r' ∈ rs', Kept r r') (mb : ∀ b, b ∈ bs' ↔ b ∈ bs) {t : Trip} {f : Str → Option Int} (h : PlF d bs' rs' t f) {n : Node} {u : Int} (D : Drv d t.1 bs rs t.2.1 t.2.2 n u) : ∃ v, f (plN t.2.1 n) = some v ∧ v ≤ u := by
  obtain ⟨es, ls, S, ⟨nd, st, so, le⟩, rfl⟩ := h
  obtain ⟨e, he, het, hpl, _⟩ := D.ge G S inn mb
  rw [← hpl]
  cases c : e.n with
  | none =>
    obtain ⟨t', a, b⟩ := st
    refine ⟨t', zget_some nd a, ?_⟩
    have := S.ge e he
    omega
  | some r =>
    obtain ⟨t', a, b⟩ := le e he r c
    exact ⟨t', zget_some nd a, by omega⟩
theorem drv_goal (G : SG d rs') (inn : ∀ r ∈ rs, ∃ r' ∈ rs', Kept r r') (mb : ∀ b, b ∈ bs' ↔ b ∈ bs) {t : Trip} {goal : Str} {o : Option Int} (h : GoalE d bs' rs' t goal o) {n : Node} {u : Int} (D : Drv d t.1 bs rs t.2.1 t.2.2 n u) (hg : plN t.2.1 n = goal) : ∃ a, o = some a ∧ a ≤ u := by
  obtain ⟨es, S, h⟩ := h
  obtain ⟨e, he, het, hpl, _⟩ := D.ge G S inn mb
  rcases h with ⟨_, hno⟩ | ⟨e2, he2, hg2, hmin, rfl⟩
  · exact absurd (hpl.trans hg) (hno e he)
  · have := hmin e he (hpl.trans hg)
    exact ⟨e2.t, rfl, by omega⟩
end
theorem Paired.zipAt {α β : Type} {F : α → β → Prop} : ∀ {l : List α} {m : List β} {a : α}, Paired F l m → a ∈ l → ∃ b, (a, b) ∈ l.zip m ∧ F a b
  | _, _, _, .nil, h => by cases h
  | _, _, a, .cons (a := x) (b := y) h t, hm => by
    rcases List.mem_cons.mp hm with e | e
    · rw [e]; exact ⟨y, by rw [List.zip_cons_cons]; exact List.mem_cons_self, h⟩
    · obtain ⟨b, k1, k2⟩ := Paired.zipAt t e
      exact ⟨b, by rw [List.zip_cons_cons]; exact List.mem_cons_of_mem _ k1, k2⟩
def spLPlaces (K : PySem.W.Frag) (P : Addr) : Sp := fun vs H Q _ => ∃ (q L : Addr) (v : V) (t : Trip) (d : Int) (ps ks : List Str) (rs : List RoadD) (bs : List (Str × Str)) (ro : List RoadD), vs = [.ref q, v, .ref L] ∧ TripAt H t v ∧ PartsAt K H q d ps ks rs bs ∧ PartsOk d ks ps rs bs ∧ rs.length ≤ 9 ∧ H L = some (.lst ((ro.map (·.name)).map V.str)) ∧ (∀ r ∈ ro, r ∈ rs) ∧ ro.length ≤ 100 ∧ walkOk t.1 bs t.2.1 none ro ∧ 0 ≤ t.2.2 ∧ TabG H P ∧
  ∀ H' R ys, Grew P H H' → H R = none → H' R = some (.lst ys) → Paired (RowAt H') (plcL d t.2.1 t.2.2 ro) ys → Q (.ref R) H'
section
variable {Pg : Program} {w : World} {K : PySem.W.Frag} {mg : Str → Option Value} {base : Heap} {C P : Addr}
abbrev nLTrips : List Str := ["parts", "numbers", "at", "many", "k"]
theorem scLTrips : FnScope nLTrips ["parts", "numbers", "at", "many"] (defScope sLTrips) := ⟨rfl, rfl, rfl, by decide +kernel, rfl, by decide +kernel, by decide +kernel⟩
theorem ok_ltrips {f fT : Addr} {fd fdT : FuncData} (F : Fun K "_law_trips" "_law_trips" sLTrips f fd) (hra : mg "range" = none)
    (GT : FnOk Pg w K mg base CX0 1 fT fdT ["parts", "numbers", "at"] (spLTrip K P)) (gT : mg "_law_trip" = some (.ref fT)) (kT : PySem.W.keepIn K (.ref fT) = true) (bT : Binds K fdT ["parts", "numbers", "at"] []) :
    FnOk Pg w K mg base CX0 2 f fd ["parts", "numbers", "at", "many"] (spLTrips K P) := by
  refine F.ok scLTrips (fun vs H Q E h => ?_) (fun cdv A outer s H vs Q E hr h => ?_)
  · obtain ⟨q, a, at_, many, d, ps, ks, rs, bs, ns, rfl, _⟩ := h
    rfl
  · obtain ⟨q, a, at_, many, d, ps, ks, rs, bs, ns, rfl, hq, ok, h1, ha, hsm, a0, m0, m1, la, hP, k⟩ := h
    refine ⟨_, pss_one (ps_ret (pe_lc (own := [("k", 4)]) (g := gName 4) (tt := tYes) rfl scLTrips.nd (pi_range1 rfl hra (pa_cons (pv 3) pa_nil)) (blkOk_by (N := nLTrips) (sc := defScope sLTrips) (by decide +kernel)) (fun _ _ _ _ _ => pg_name (i := 4) scLTrips.nd rfl (Or.inl rfl)) (fun _ _ _ _ _ => pts_nil)
      (fun _ _ _ _ _ => pe_call GT (hr.mono (by decide)) (by rfl) gT kT bT .nil pass0 (pa_cons (pv 0) (pa_cons (pv 1) (pa_cons (pe_op op_add (pv 2) (pe_op op_mul pe_int (pv 4))) pa_nil)))))), ?_⟩
    refine ⟨_, rfl, many, rfl, by omega, by omega, fun D nD => lc_range (n := many.toNat) (fun i H' => Grew P H H' ∧ ∃ acc trips, H' D = some (.lst acc) ∧ Paired (TripAt H') trips acc ∧ trips.length = i ∧ ∀ t ∈ trips, TripIn ks ps t)
      ⟨Grew.new hP nD, [], [], upd_same, .nil, rfl, fun t h => absurd h (by simp)⟩ (fun i H1 hi h => ?_) (fun H1 h => ?_)⟩
    · obtain ⟨g, acc, trips, hD, hacc, lt, hin⟩ := h
      have im : (i : Int) < many := by omega
      refine ⟨rfl, _, rfl, _, rfl, _, rfl, _, rfl, _, _, rfl, rfl, .inl ⟨by decide, by decide⟩, _, _, rfl, rfl, q, a, _, d, ps, ks, rs, bs, ns, rfl, hq.grew g hP, ok, h1, g.sqL hP ha, hsm, by omega, by omega, g.tab, fun H2 tp kind place t g2 hk hp t0 t1 htp => ?_⟩
      have hD2 := g2.lst g.tab hD
      have lac := Paired.len hacc
      refine ⟨acc, hD2, by rw [sizeLine_eq]; omega, (g.trans g2).write hD2 (fun _ z => by cases z) nD, acc ++ [.ref tp], trips ++ [(kind, place, t)], upd_same, ?_, by rw [List.length_append, List.length_singleton, lt], fun t h => ?_⟩
      · refine Paired.snoc (Paired.map' hacc fun t v ⟨p, e, hp⟩ => ⟨p, e, ?_⟩) ⟨tp, rfl, ?_⟩
        · rw [upd_ne (fun z => by rw [z, hD] at hp; cases hp)]; exact g2.tup g.tab hp
        · rw [upd_ne (fun z => by rw [z, hD2] at htp; cases htp)]; exact htp
      · rcases List.mem_append.mp h with h | h
        · exact hin t h
        · rw [List.mem_singleton.mp h]; exact ⟨hk, hp, t0, t1⟩
    · obtain ⟨g, acc, trips, hD, hacc, lt, hin⟩ := h
      exact k H1 D trips acc g nD hD hacc lt hin
abbrev nLPlaces : List Str := ["parts", "trip", "route", "stages", "whole", "found", "name", "entered", "arrival"]
theorem scLPlaces : FnScope nLPlaces ["parts", "trip", "route"] (defScope sLPlaces) := ⟨rfl, rfl, rfl, by decide +kernel, rfl, by decide +kernel, by decide +kernel⟩
theorem ok_lplaces {f fD fR : Addr} {fd fdD fdR : FuncData} (F : Fun K "_law_places" "_law_places" sLPlaces f fd)
    (GD : FnOk Pg w K mg base CX0 2 fD fdD ["parts", "kind", "start", "moment", "route"] (spLRide K P)) (gD : mg "_law_ride" = some (.ref fD)) (kD : PySem.W.keepIn K (.ref fD) = true) (bD : Binds K fdD ["parts", "kind", "start", "moment", "route"] [])
    (GR : FnOk Pg w K mg base CX0 1 fR fdR ["parts", "name"] (spLRoad K P)) (gR : mg "_law_road" = some (.ref fR)) (kR : PySem.W.keepIn K (.ref fR) = true) (bR : Binds K fdR ["parts", "name"] []) :
    FnOk Pg w K mg base CX0 3 f fd ["parts", "trip", "route"] (spLPlaces K P) := by
  refine F.ok scLPlaces (fun vs H Q E h => ?_) (fun cdv A outer s H vs Q E hr h => ?_)
  · obtain ⟨q, L, v, t, d, ps, ks, rs, bs, ro, rfl, _⟩ := h
    rfl
  · obtain ⟨q, L, v, t, d, ps, ks, rs, bs, ro, rfl, ⟨tp, rfl, htp⟩, hq, hok, l9, hL, hro, lro, hw, t0, hP, k⟩ := h
    refine ⟨_, pss_cons (ps_asg (pe_call GD (hr.mono (by decide)) (by rfl) gD kD bD .nil pass0 (pa_cons (pv 0) (pa_cons (pe_ix ix_tup (pv 1) pe_int (fun _ _ => rfl)) (pa_cons (pe_ix ix_tup (pv 1) pe_int (fun _ _ => rfl)) (pa_cons (pe_ix ix_tup (pv 1) pe_int (fun _ _ => rfl)) (pa_cons (pv 2) pa_nil)))))) (pg_tup (by rfl) (pgs_cons (pg_name (i := 3) scLPlaces.nd rfl (.inl rfl)) (pgs_cons (pg_name (i := 4) scLPlaces.nd rfl (.inl rfl)) pgs_nil))))
      (pss_cons (ps_set (i := 5) scLPlaces.nd rfl (Or.inl rfl) (pe_lst (pa_cons (pe_tup (pa_cons (pe_ix ix_tup (pv 1) pe_int (fun _ _ => rfl)) (pa_cons (pe_ix ix_tup (pv 1) pe_int (fun _ _ => rfl)) pa_nil))) pa_nil)))
      (pss_cons (ps_for PassesOwn.never rfl (pi_list (pv 3)) (pg_tup (by rfl) (pgs_cons (pg_name (i := 6) scLPlaces.nd rfl (.inl rfl)) (pgs_cons (pg_name (i := 7) scLPlaces.nd rfl (.inl rfl)) (pgs_cons (pg_name (i := 8) scLPlaces.nd rfl (.inl rfl)) pgs_nil))))
        (pss_one (ps_expr (pe_bm PySem.F.plainAttrs_list PySem.F.slot_list_append PySem.F.type_list_append mt_append (pv 5) (pa_cons (pe_tup (pa_cons (pe_ix ix_tup (pe_call GR (hr.mono (by decide)) (by rfl) gR kR bR .nil pass0 (pa_cons (pv 0) (pa_cons (pv 6) pa_nil))) pe_int (fun _ _ => rfl)) (pa_cons (pv 8) pa_nil))) pa_nil)))))
      (pss_one (ps_ret (pv 5))))), ?_⟩
    refine ⟨_, rfl, _, rfl, tp, _, 0, .str t.1, rfl, rfl, SqT.of htp, rfl, _, rfl, tp, _, 1, .str t.2.1, rfl, rfl, SqT.of htp, rfl, _, rfl, tp, _, 2, .int t.2.2, rfl, rfl, SqT.of htp, rfl, _, rfl, q, L, t.1, t.2.1, t.2.2, d, ps, ks, rs, bs, ro, rfl, hq, hok, l9, SqL.of hL, hro, by omega, t0, hP, fun H1 tw pS ss wh g1 er htw hS => ?_⟩
    rw [ride_walk hok.d1 (fun r h => (hok.r.ok r (hro r h)).h) hw] at er
    cases er
    obtain ⟨sx, hpS, hsx⟩ := hS
    refine ⟨tw, _, rfl, SqT.of htw, rfl, _, _, rfl, _, _, rfl, rfl, ?_⟩
    have htp1 := g1.tup hP htp
    refine ⟨_, rfl, tp, _, 1, .str t.2.1, rfl, rfl, SqT.of htp1, rfl, _, rfl, tp, _, 2, .int t.2.2, rfl, rfl, SqT.of htp1, rfl, by show 2 ≤ sizeLine; decide, fun t1 nt1 => ⟨by show 1 ≤ sizeLine; decide, fun R nR => ?_⟩⟩
    have ga := Grew.new g1.tab (o := .tup [.str t.2.1, .int t.2.2]) nt1
    have gb := Grew.new ga.tab (o := .lst [.ref t1]) nR
    have h1 : (L2.upd (L2.upd H1 t1 (.tup [.str t.2.1, .int t.2.2])) R (.lst [.ref t1])) t1 = some (.tup [.str t.2.1, .int t.2.2]) := gb.tup ga.tab upd_same
    have hR : (L2.upd (L2.upd H1 t1 (.tup [.str t.2.1, .int t.2.2])) R (.lst [.ref t1])) R = some (.lst [.ref t1]) := upd_same
    have nR1 : H1 R = none := ga.free nR
    have gab := ga.trans gb
    generalize L2.upd (L2.upd H1 t1 (.tup [.str t.2.1, .int t.2.2])) R (.lst [.ref t1]) = H2 at gab h1 hR
    have hpS2 := gab.lst g1.tab hpS
    have lss := stgL_len (d := d) t.2.2 ro
    have lsx := Paired.len hsx
    refine ⟨_, rfl, pS, rfl, ⟨_, SqL.of hpS2⟩, for_list (K := K) (a := pS) (xs := sx) (fun i σ H' => ∃ (v6 v7 v8 : Option V) (ys : List V), σ = [some (.ref q), some (.ref tp), some (.ref L), some (.ref pS), some (.bl true), some (.ref R), v6, v7, v8] ∧ Grew P H1 H' ∧ H' R = some (.lst ys) ∧ Paired (RowAt H') ((t.2.1, t.2.2) :: (arrL d t.2.2 ro).take i) ys)
      ⟨none, none, none, [.ref t1], rfl, gab, hR, .cons ⟨t1, rfl, h1⟩ .nil⟩ (fun i σ H' _ ⟨_, _, _, _, _, g, _⟩ => SqL.of (g.lst g1.tab hpS)) ?_ ?_⟩
    · rintro i v σ H3 hv ⟨v6, v7, v8, ys, rfl, g3, hR3, hys⟩
      obtain ⟨s1, hs1, sq, rfl, hsq⟩ := Paired.at hsx hv
      obtain ⟨r, hr0, hn, hp⟩ := stg_at hs1
      have hrm := hro r (List.mem_of_getElem? hr0)
      have hil := (List.getElem?_eq_some_iff.mp hr0).1
      have et : ((t.2.1, t.2.2) :: (arrL d t.2.2 ro).take (i + 1)) = ((t.2.1, t.2.2) :: (arrL d t.2.2 ro).take i) ++ [(r.goal, s1.2.2)] := by
        rw [List.take_succ, hp]; rfl
      have ly := Paired.len hys
      rw [List.length_cons, List.length_take] at ly
      refine ⟨sq, _, rfl, g3.sqT g1.tab hsq, rfl, _, _, rfl, _, _, rfl, _, _, rfl, rfl, ?_⟩
      rw [hn]
      have g13 := g1.trans g3
      refine ⟨_, rfl, .inl ⟨rfl, _, SqL.of hR3⟩, _, rfl, _, rfl, q, d, ps, ks, rs, bs, r, rfl, hq.grew g13 hP, hok.r.nd, l9, hrm, g13.tab, fun H4 vr g4 hvr => ?_⟩
      obtain ⟨tr, ur, hvr', rfl, hT, _, _⟩ := hvr
      refine ⟨tr, _, 2, .str r.goal, rfl, rfl, hT, rfl, _, rfl, by show 2 ≤ sizeLine; decide, fun t2 nt2 => ?_⟩
      have gt := Grew.new g4.tab (o := .tup [.str r.goal, .int s1.2.2]) nt2
      have hR4 := g4.lst g3.tab hR3
      have hR5 := gt.lst g4.tab hR4
      have n2 : t2 ≠ R := fun e => by rw [e, hR4] at nt2; cases nt2
      refine ⟨R, ys, _, rfl, rfl, hR5, by rw [sizeLine_eq]; omega, _, _, _, _, rfl, ((g3.trans g4).trans gt).write hR5 (fun _ z => by cases z) nR1, upd_same, ?_⟩
      rw [et]
      refine Paired.snoc (Paired.map' hys fun e v m => ?_) ⟨t2, rfl, by rw [upd_ne n2, upd_same]⟩
      exact m.keep fun a xs ea => by
        have ea4 := g4.tup g3.tab ea
        rw [upd_ne (fun h => by rw [h, hR4] at ea4; cases ea4), upd_ne (fun h => by rw [h, nt2] at ea4; cases ea4)]; exact ea4
    · rintro σ H3 ⟨v6, v7, v8, ys, rfl, g3, hR3, hys⟩
      rw [← lsx, lss, ← arrL_len (d := d) t.2.2 ro, List.take_length] at hys
      exact ⟨_, rfl, k H3 R ys (g1.trans g3) (g1.free nR1) hR3 hys⟩
end
end W

set_option Elab.async false
set_option linter.all false
set_option maxRecDepth 100000
set_option maxHeartbeats 4000000
namespace W
open PySem PySem.Spec PyProof.Rows L2 GxR MyG MyS MyR
/-! ### the law -/
def rLenK (K : PySem.W.Frag) : List V → Hp → VK → Prop := fun xs H Q => ∃ p ys, xs = [V.ref p] ∧ (SqL K H p ys ∨ SqT K H p ys) ∧ Q (V.int ys.length) H
def spLaw (K : PySem.W.Frag) (P Pm : Addr) : Sp := fun vs H Q _ => ∃ (a : Addr) (ns : List Int), vs = [.ref a] ∧ SqL K H a (ns.map V.int) ∧ ns.length ≤ 63 ∧ TabG H P ∧ H Pm = some (.tbl #[]) ∧ ∀ H', Q (.bl true) H'
theorem iteD {c : Bool} {A B : Prop} (h1 : A) (h2 : B) : if c = true then A else B := by cases c <;> assumption
theorem cut_drop (xs : List V) (n : Nat) : cutV xs (some (n : Int)) none = xs.drop n := by
  unfold cutV
  rw [HT.sIx_none, HT.sIx_nat]
  rcases Nat.le_total n xs.length with h | h
  · rw [Nat.min_eq_left h]
    exact List.take_of_length_le (by rw [List.length_drop]; omega)
  · rw [Nat.min_eq_right h, Nat.sub_self, List.take_zero, List.drop_eq_nil_of_le h]
/-- a place on both drives is in common, and not later than both -/
theorem com_two {d : Int} {bs bs' : List (Str × Str)} {rs rs' : List RoadD} (G : SG d rs') (inn : ∀ r ∈ rs, ∃ r' ∈ rs', Kept r r') (mb : ∀ b, b ∈ bs' ↔ b ∈ bs) {one other : Trip} {fs : List (Str → Option Int)} (hf : Paired (PlF d bs' rs') [one, other] fs) {n1 n2 : Node} {u1 u2 both : Int} {z : Str} {ps : List Str}
    (D1 : Drv d one.1 bs rs one.2.1 one.2.2 n1 u1) (e1 : plN one.2.1 n1 = z) (D2 : Drv d other.1 bs rs other.2.1 other.2.2 n2 u2) (e2 : plN other.2.1 n2 = z) (l1 : u1 ≤ both) (l2 : u2 ≤ both) (hz : z ∈ ps) : ∃ h, (z, h) ∈ comL fs ps ∧ h ≤ both := by
  obtain ⟨f1, f2, rfl, p1, p2⟩ := two_pairs hf
  obtain ⟨v1, a1, b1⟩ := drv_pl G inn mb p1 D1
  obtain ⟨v2, a2, b2⟩ := drv_pl G inn mb p2 D2
  rw [e1] at a1
  rw [e2] at a2
  refine ⟨max v1 v2, List.mem_filterMap.mpr ⟨z, hz, ?_⟩, by omega⟩
  have e : ([f1, f2].filterMap fun f => f z) = [v1, v2] := by simp [a1, a2]
  unfold comP
  rw [e]
  exact (if_pos (by rfl)).trans rfl
def RouteIn (H : Hp) (rs : List RoadD) (bs : List (Str × Str)) (t : Trip) (v : V) : Prop := ∃ L ro, v = .ref L ∧ H L = some (.lst ((ro.map (·.name)).map V.str)) ∧ (∀ r ∈ ro, r ∈ rs) ∧ walkOk t.1 bs t.2.1 none ro ∧ ro.length ≤ 10
section
variable {Pg : Program} {w : World} {K : PySem.W.Frag} {mg : Str → Option Value} {base : Heap} {C P : Addr}
abbrev nLaw : List Str := ["script", "numbers", "parts", "chart", "trips", "routes", "k", "first", "second", "told", "j", "place", "moment", "both", "stages", "whole", "goal", "arrival", "handed"]
theorem scLaw : FnScope nLaw ["script"] (defScope sLaw) := ⟨rfl, rfl, rfl, by decide +kernel, rfl, by decide +kernel, by decide +kernel⟩
theorem room13 {q : Str} {sc : Scope} {n : Nat} {f : Addr} {cd : Value} : Room 13 (callerA.deeper (envOfC q sc n f cd)) := ⟨rfl, by show 1 + claimMargin + 1 + 3 * 13 + 5 < _; decide, by show 4 + 3 + 16 * 13 + 200 < _; decide⟩
theorem ok_law {M Mt Rl Rt Pm f fN fM fC fT fK fP fE fY fD fRd : Addr} {fdN fdM fdC fdT fdK fdP fdE fdY fdD fdRd : FuncData} {dV kV doc pm cdv ct oc : Value} {an od : Option Addr} {osl : Array (Option Value)}
    (lk : K.lookup f = some ⟨oc, od, .func (PySem.W.fnOf "law" "law" (defArgs sLaw) (defBody sLaw) (defScope sLaw) dV kV doc pm an cdv ct), osl⟩) (hcd : PySem.W.codeIn K cdv "law" = true)
    (hb : ∀ (s : Shared) (u : Value), BindsTo s (PySem.W.fnOf "law" "law" (defArgs sLaw) (defBody sLaw) (defScope sLaw) dV kV doc pm an cdv ct) ⟨[u], []⟩ [("script", u)])
    (TM : TxtMt K Mt) (TL : TxtRl K Rl) (hi : mg "int" = none) (hl : mg "len" = none) (hra : mg "range" = none) (hls : mg "list" = none) (hmx : mg "max" = none) (nem : Pm ≠ P)
    (GN : FnOk Pg w K mg base CX0 2 fN fdN ["script", "many"] (spNumbers K P)) (gN : mg "_law_numbers" = some (.ref fN)) (kN : PySem.W.keepIn K (.ref fN) = true) (bN : Binds K fdN ["script", "many"] [])
    (GM : FnOk Pg w K mg base CX0 2 fM fdM ["numbers", "at"] (spLMap K P)) (gM : mg "_law_map" = some (.ref fM)) (kM : PySem.W.keepIn K (.ref fM) = true) (bM : Binds K fdM ["numbers", "at"] [])
    (GC : FnOk Pg w K mg base CX0 7 fC fdC ["parts"] (spLMade K M P)) (gC : mg "_law_made" = some (.ref fC)) (kC : PySem.W.keepIn K (.ref fC) = true) (bC : Binds K fdC ["parts"] [])
    (GT : FnOk Pg w K mg base CX0 2 fT fdT ["parts", "numbers", "at", "many"] (spLTrips K P)) (gT : mg "_law_trips" = some (.ref fT)) (kT : PySem.W.keepIn K (.ref fT) = true) (bT : Binds K fdT ["parts", "numbers", "at", "many"] [])
    (GK : FnOk Pg w K mg base CX0 2 fK fdK ["parts", "kind", "start", "numbers", "at", "many"] (spLWalk K P)) (gK : mg "_law_walk" = some (.ref fK)) (kK : PySem.W.keepIn K (.ref fK) = true) (bK : Binds K fdK ["parts", "kind", "start", "numbers", "at", "many"] [])
    (GP : FnOk Pg w K mg base CX0 3 fP fdP ["parts", "trip", "route"] (spLPlaces K P)) (gP : mg "_law_places" = some (.ref fP)) (kP : PySem.W.keepIn K (.ref fP) = true) (bP : Binds K fdP ["parts", "trip", "route"] [])
    (GE : FnOk Pg w K mg base (L2.CX Pg w) 13 fE fdE ["chart", "trips"] (spMeet K M Mt Rt P Pm)) (gE : mg "meeting" = some (.ref fE)) (kE : PySem.W.keepIn K (.ref fE) = true) (bE : Binds K fdE ["chart", "trips"] [])
    (GY : FnOk Pg w K mg base (L2.CX Pg w) 13 fY fdY ["chart", "one", "other", "goal"] (spRelay K M Rl Rt P)) (gY : mg "relay" = some (.ref fY)) (kY : PySem.W.keepIn K (.ref fY) = true) (bY : Binds K fdY ["chart", "one", "other", "goal"] [])
    (GD : FnOk Pg w K mg base CX0 2 fD fdD ["parts", "kind", "start", "moment", "route"] (spLRide K P)) (gD : mg "_law_ride" = some (.ref fD)) (kD : PySem.W.keepIn K (.ref fD) = true) (bD : Binds K fdD ["parts", "kind", "start", "moment", "route"] [])
    (GRd : FnOk Pg w K mg base CX0 1 fRd fdRd ["parts", "name"] (spLRoad K P)) (gRd : mg "_law_road" = some (.ref fRd)) (kRd : PySem.W.keepIn K (.ref fRd) = true) (bRd : Binds K fdRd ["parts", "name"] []) :
    RunG Pg w K mg base (L2.CX Pg w) f (spLaw K P Pm) := by
  refine runG_of lk hcd scLaw hb ⟨rfl, by decide, by decide⟩ fun s H a0 Q E h => ?_
  obtain ⟨a, zs, ea, hS, hz, hP, hTm, k⟩ := h
  cases ea
  have hr : Room 13 (callerA.deeper (envOfC "law" (defScope sLaw) s.heap.objs.size f cdv)) := room13
  have hr1 : Room 1 _ := hr.mono (by decide)
  have hr2 : Room 2 _ := hr.mono (by decide)
  have hr3 : Room 3 _ := hr.mono (by decide)
  have hr7 : Room 7 _ := hr.mono (by decide)
  have hu := u1 hr.units
  refine ⟨_, pss_cons (ps_set (i := 1) scLaw.nd rfl (Or.inl rfl) (pe_call GN hr2 (by rfl) gN kN bN .nil pass0 (pa_cons (pv 0) (pa_cons pe_int pa_nil))))
      (pss_cons (ps_set (i := 2) scLaw.nd rfl (Or.inl rfl) (pe_call GM hr2 (by rfl) gM kM bM .nil pass0 (pa_cons (pv 1) (pa_cons pe_int pa_nil))))
      (pss_cons (ps_set (i := 3) scLaw.nd rfl (Or.inl rfl) (pe_call GC hr7 (by rfl) gC kC bC .nil pass0 (pa_cons (pv 2) pa_nil)))
      (C8.pss_cut (ps_set (i := 4) scLaw.nd rfl (Or.inl rfl) (pe_call GT hr2 (by rfl) gT kT bT .nil pass0 (pa_cons (pv 2) (pa_cons (pv 1) (pa_cons pe_int (pa_cons pe_int pa_nil))))))
      (pss_cons (ps_set (i := 5) scLaw.nd rfl (Or.inl rfl) (pe_lst pa_nil))
      (C8.pss_cut (ps_for (passes_of rfl) rfl (pi_range1 rfl hra (pa_cons pe_int pa_nil)) (pg_name (i := 6) scLaw.nd rfl (Or.inl rfl))
      (pss_one (ps_expr (pe_bm PySem.F.plainAttrs_list PySem.F.slot_list_append PySem.F.type_list_append mt_append (pv 5) (pa_cons (pe_call GK hr2 (by rfl) gK kK bK .nil pass0 (pa_cons (pv 2) (pa_cons (pe_ix ix_tup (pe_ix (r := rIxL K) ix_list (pv 4) (pv 6) (fun _ _ => rfl)) pe_int (fun _ _ => rfl)) (pa_cons (pe_ix ix_tup (pe_ix (r := rIxL K) ix_list (pv 4) (pv 6) (fun _ _ => rfl)) pe_int (fun _ _ => rfl)) (pa_cons (pv 1) (pa_cons (pe_op op_add pe_int (pe_op op_mul pe_int (pv 6))) (pa_cons (pe_op op_mod (pe_callTy (r := rInt1) call_int1 (by rfl) hi (by decide +kernel) (pa_cons (pe_ix (r := rIxL K) ix_list (pv 1) (pe_op op_add pe_int (pv 6)) (fun _ _ => rfl)) pa_nil)) pe_int) pa_nil))))))) pa_nil)))))
      (C8.pss_cut (ps_set (i := 7) scLaw.nd rfl (Or.inl rfl) (pe_call GP hr3 (by rfl) gP kP bP .nil pass0 (pa_cons (pv 2) (pa_cons (pe_ix (r := rIxL K) ix_list (pv 4) pe_int (fun _ _ => rfl)) (pa_cons (pe_ix (r := rIxL K) ix_list (pv 5) pe_int (fun _ _ => rfl)) pa_nil)))))
      (C8.pss_cut (ps_set (i := 8) scLaw.nd rfl (Or.inl rfl) (pe_call GP hr3 (by rfl) gP kP bP .nil pass0 (pa_cons (pv 2) (pa_cons (pe_ix (r := rIxL K) ix_list (pv 4) pe_int (fun _ _ => rfl)) (pa_cons (pe_ix (r := rIxL K) ix_list (pv 5) pe_int (fun _ _ => rfl)) pa_nil)))))
      (C8.pss_cut (ps_set (i := 9) scLaw.nd rfl (Or.inl rfl) (pe_call (E := E0) GE hr (by rfl) gE kE bE .nil (passF rfl rfl) (pa_cons (pv 3) (pa_cons (pe_callTy call_list_of (by rfl) hls (by decide +kernel) (pa_cons (pv 4) pa_nil)) pa_nil))))
      (C8.pss_cut (ps_for (passes_of rfl) rfl (pi_range1 rfl hra (pa_cons (pe_callB (r := rLenK K) call_len_seq (by rfl) hl PySem.boot_len (pa_cons (pv 8) pa_nil)) pa_nil)) (pg_name (i := 10) scLaw.nd rfl (Or.inl rfl))
      (pss_one (ps_for (passes_of rfl) rfl (pi_list (pv 7)) (pg_tup (by rfl) (pgs_cons (pg_name (i := 11) scLaw.nd rfl (Or.inl rfl)) (pgs_cons (pg_name (i := 12) scLaw.nd rfl (Or.inl rfl)) pgs_nil)))
      (pss_one (ps_if (pt_cmpR op_eq (pv 11) (pe_ix ix_tup (pe_ix (r := rIxL K) ix_list (pv 8) (pv 10) (fun _ _ => rfl)) pe_int (fun _ _ => rfl)) (nomark _)) (C8.pss_cut (ps_set (i := 13) scLaw.nd rfl (Or.inl rfl) (pe_callB (call_max2 rfl) (by rfl) hmx (by decide +kernel) (pa_cons (pv 12) (pa_cons (pe_ix ix_tup (pe_ix (r := rIxL K) ix_list (pv 8) (pv 10) (fun _ _ => rfl)) pe_int (fun _ _ => rfl)) pa_nil))))
      (C8.pss_cut (ps_if (PW.pt (pw_or (pt_cmp (pc_isN (pv 9))) (pw_or1 (pt_cmpR op_gt (pe_fld (pv 9) rfl) (pv 13) (nomark _))))) (pss_one (ps_ret pe_bl)) pss_nil)
      (C8.pss_cut (ps_asg (pe_call GD hr2 (by rfl) gD kD bD .nil pass0 (pa_cons (pv 2) (pa_cons (pe_ix ix_tup (pe_ix (r := rIxL K) ix_list (pv 4) pe_int (fun _ _ => rfl)) pe_int (fun _ _ => rfl)) (pa_cons (pv 11) (pa_cons (pv 13) (pa_cons (pe_slice sl_list (pe_ix (r := rIxL K) ix_list (pv 5) pe_int (fun _ _ => rfl)) (po_some (pv 10)) po_none) pa_nil)))))) (pg_tup (by rfl) (pgs_cons (pg_name (i := 14) scLaw.nd rfl (Or.inl rfl)) (pgs_cons (pg_name (i := 15) scLaw.nd rfl (Or.inl rfl)) pgs_nil))))
      (pss_cons (ps_set (i := 16) scLaw.nd rfl (Or.inl rfl) (pv 11))
      (pss_cons (ps_set (i := 17) scLaw.nd rfl (Or.inl rfl) (pv 13))
      (C8.pss_cut (ps_if (pt_cmpR op_gt (pe_callB (r := rLenK K) call_len_seq (by rfl) hl PySem.boot_len (pa_cons (pv 14) pa_nil)) pe_int (nomark _)) (pss_cons (ps_set (i := 16) scLaw.nd rfl (Or.inl rfl) (pe_ix ix_tup (pe_call GRd hr1 (by rfl) gRd kRd bRd .nil pass0 (pa_cons (pv 2) (pa_cons (pe_ix ix_tup (pe_ix ix_list (pv 14) (pe_un un_neg pe_int) (fun _ _ => rfl)) pe_int (fun _ _ => rfl)) pa_nil))) pe_int (fun _ _ => rfl))) (pss_one (ps_set (i := 17) scLaw.nd rfl (Or.inl rfl) (pe_ix ix_tup (pe_ix ix_list (pv 14) (pe_un un_neg pe_int) (fun _ _ => rfl)) pe_int (fun _ _ => rfl))))) pss_nil)
      (pss_one (ps_if (pt_cmpR op_eq (pv 10) (pe_op op_mod (pe_callTy (r := rInt1) call_int1 (by rfl) hi (by decide +kernel) (pa_cons (pe_ix (r := rIxL K) ix_list (pv 1) pe_int (fun _ _ => rfl)) pa_nil)) (pe_callB (r := rLenK K) call_len_seq (by rfl) hl PySem.boot_len (pa_cons (pv 8) pa_nil))) (nomark _)) (pss_cons (ps_set (i := 18) scLaw.nd rfl (Or.inl rfl) (pe_call (E := E0) GY hr (by rfl) gY kY bY .nil (passF rfl rfl) (pa_cons (pv 3) (pa_cons (pe_ix (r := rIxL K) ix_list (pv 4) pe_int (fun _ _ => rfl)) (pa_cons (pe_ix (r := rIxL K) ix_list (pv 4) pe_int (fun _ _ => rfl)) (pa_cons (pv 16) pa_nil)))))) (pss_one (ps_if (PW.pt (pw_or (pt_cmp (pc_isN (pv 18))) (pw_or1 (pt_cmpR op_gt (pe_fld (pv 18) rfl) (pv 17) (nomark _))))) (pss_one (ps_ret pe_bl)) pss_nil))) pss_nil)))))))) pss_nil)))))
      (pss_one (ps_ret pe_bl))))))))))), ?_⟩
  refine ⟨_, rfl, a0, zs, 140, rfl, hS, hz, by decide, hP, fun H1 p ns g1 np hp hlen hsm => ?_⟩
  refine ⟨_, rfl, p, ns, 0, rfl, SqL.of hp, hsm, by decide, by omega, g1.tab, fun H2 q d ps ks rs bs g2 nq hq hok hr1' hr9' => ?_⟩
  have g12 := g1.trans g2
  refine ⟨_, rfl, q, d, ps, ks, rs, bs, rfl, hq, hok, g12.tab, fun H3 x ks' ps' rs' bs' gm nx pk ak pp ap kr ar pb ab hM => ?_⟩
  have g13 := g12.trans gm
  have hq3 := hq.grew gm g12.tab
  have hp3 := (g2.trans gm).lst g1.tab hp
  obtain ⟨min3, rsin, hmin', pl', p1000⟩ := made_in hok pp kr hM g13.tab
  have ndn : (rs.map (·.name)).Nodup := hok.r.nd
  have out : ∀ r' ∈ rs', ∃ r ∈ rs, Kept r r' := fun r' h => by
    obtain ⟨l, pm, pr⟩ := kr
    obtain ⟨r, hr0, qq⟩ := Paired.mem pr (pm.mem_iff.mpr h)
    exact ⟨r, hr0, qq⟩
  have inn : ∀ r ∈ rs, ∃ r' ∈ rs', Kept r r' := fun r h => by
    obtain ⟨l, pm, pr⟩ := kr
    obtain ⟨r', hr0, qq⟩ := Paired.mem' pr h
    exact ⟨r', pm.mem_iff.mp hr0, qq⟩
  have hso : ∀ r ∈ rs', PyData.strOk r.name = true := fun r' h => by
    obtain ⟨r, h1, h2⟩ := out r' h
    rw [h2.1]
    exact isNm_ok (List.all_eq_true.mp hok.r.nm r.name (List.mem_map.mpr ⟨r, h1, rfl⟩))
  have nmP : ∀ z ∈ ps', isNm z = true := fun z hz => List.all_eq_true.mp hok.pn z (pp.mem_iff.mp hz)
  have hsp : ∀ z ∈ ps', PyData.strOk z = true := fun z hz => isNm_ok (nmP z hz)
  have G0 := sgOf min3 rsin hmin'
  have mb : ∀ b, b ∈ bs' ↔ b ∈ bs := fun b => pb.mem_iff
  have l12 : ∀ {z : Str}, isNm z = true → z.length ≤ 1000 := fun h => Nat.le_trans (isNm_len h) (by decide)
  have tok : ∀ {t : Trip}, TripIn ks ps t → TripOk ks' ps' t := fun {t} ⟨a, b, c, _⟩ => ⟨pk.mem_iff.mpr a, pp.mem_iff.mpr b, l12 (List.all_eq_true.mp hok.kn _ a), l12 (List.all_eq_true.mp hok.pn _ b), c⟩
  have tst : ∀ {t : Trip}, TripIn ks ps t → PyData.strOk t.1 = true ∧ PyData.strOk t.2.1 = true := fun {t} ⟨a, b, _, _⟩ => ⟨isNm_ok (List.all_eq_true.mp hok.kn _ a), isNm_ok (List.all_eq_true.mp hok.pn _ b)⟩
  have num : ∀ i : Int, 0 ≤ i → i < 140 → ∃ v, atI (ns.map V.int) i = some (.int v) ∧ 0 ≤ v ∧ v < 1009 := fun i h0 h1 => by
    obtain ⟨c, e1, e2⟩ := at_some (l := ns.map V.int) h0 (by rw [List.length_map]; omega)
    rw [List.getElem?_map] at e2
    obtain ⟨v, e3, rfl⟩ := Option.map_eq_some_iff.mp e2
    exact ⟨v, e1, hsm v (List.mem_of_getElem? e3)⟩
  -- trips
  refine ⟨fun σ H' => ∃ (L t1 t2 : Addr) (one other : Trip), σ = [some (.ref a0), some (.ref p), some (.ref q), some (.ref x), some (.ref L), none, none, none, none, none, none, none, none, none, none, none, none, none, none] ∧ Grew P H3 H' ∧ H' L = some (.lst [.ref t1, .ref t2]) ∧ H' t1 = some (.tup [.str one.1, .str one.2.1, .int one.2.2]) ∧ H' t2 = some (.tup [.str other.1, .str other.2.1, .int other.2.2]) ∧ TripIn ks ps one ∧ TripIn ks ps other, ?_, ?_⟩
  · refine ⟨_, rfl, _, rfl, q, p, 92, 2, d, ps, ks, rs, bs, ns, rfl, hq3, hok, hr1', SqL.of hp3, hsm, by decide, by decide, by decide, by omega, g13.tab, fun H4 L trips xs g4 nL hL hT lt hin => ?_⟩
    obtain ⟨one, other, t1, t2, rfl, rfl, e1, e2⟩ := two_trips hT lt
    exact ⟨L, t1, t2, one, other, rfl, g4, hL, e1, e2, hin one List.mem_cons_self, hin other (List.mem_cons_of_mem _ (List.mem_singleton.mpr rfl))⟩
  rintro σ H4 ⟨L, t1, t2, one, other, rfl, g4, hL, ht1, ht2, i1, i2⟩
  have g14 := g13.trans g4
  have hq4 := hq3.grew g4 g13.tab
  have hp4 := g4.lst g13.tab hp3
  have hT4 : Paired (TripAt H4) [one, other] [.ref t1, .ref t2] := .cons ⟨t1, rfl, ht1⟩ (.cons ⟨t2, rfl, ht2⟩ .nil)
  -- routes
  refine ⟨by show 0 ≤ sizeLine; decide, fun Ro nRo => ?_⟩
  have gr := Grew.new g14.tab (o := .lst []) nRo
  have hRo0 : (L2.upd H4 Ro (.lst [])) Ro = some (.lst []) := upd_same
  generalize L2.upd H4 Ro (.lst []) = H5 at gr hRo0
  refine ⟨fun σ H' => ∃ (v6 : Option V) (rls : List V), σ = [some (.ref a0), some (.ref p), some (.ref q), some (.ref x), some (.ref L), some (.ref Ro), v6, none, none, none, none, none, none, none, none, none, none, none, none] ∧ Grew P H4 H' ∧ H' Ro = some (.lst rls) ∧ Paired (fun t v => RouteIn H' rs bs t v ∧ v ≠ .ref Ro) [one, other] rls, ?_, ?_⟩
  · refine ⟨(2 : Int), rfl, by decide, by decide, for_range (n := 2) (fun i σ H' => ∃ (v6 : Option V) (rls : List V), σ = [some (.ref a0), some (.ref p), some (.ref q), some (.ref x), some (.ref L), some (.ref Ro), v6, none, none, none, none, none, none, none, none, none, none, none, none] ∧ Grew P H4 H' ∧ H' Ro = some (.lst rls) ∧ Paired (fun t v => RouteIn H' rs bs t v ∧ v ≠ .ref Ro) ([one, other].take i) rls)
      ⟨none, [], rfl, gr, hRo0, .nil⟩ ?_ (fun σ H' h => h)⟩
    rintro i σ H' hi ⟨v6, rls, rfl, g6, hRo6, hrl⟩
    obtain ⟨t, ht, tp, hxt, htp⟩ : ∃ t, [one, other][i]? = some t ∧ ∃ tp, ([.ref t1, .ref t2] : List V)[i]? = some (.ref tp) ∧ H4 tp = some (.tup [.str t.1, .str t.2.1, .int t.2.2]) := by
      have hi2 : i = 0 ∨ i = 1 := by omega
      rcases hi2 with rfl | rfl
      · exact ⟨one, rfl, t1, rfl, ht1⟩
      · exact ⟨other, rfl, t2, rfl, ht2⟩
    have hti : TripIn ks ps t := by
      have hi2 : i = 0 ∨ i = 1 := by omega
      rcases hi2 with rfl | rfl
      · cases ht; exact i1
      · cases ht; exact i2
    have at1 : atI ([.ref t1, .ref t2] : List V) (0 + (i : Int)) = some (.ref tp) := by rw [Int.zero_add]; exact atI_nat hxt
    have g16 := g14.trans g6
    have htp6 := g6.tup g14.tab htp
    have hL6 := g6.lst g14.tab hL
    have hp6 := g6.lst g14.tab hp4
    obtain ⟨v, ev, v0, v9⟩ := num (100 + (0 + (i : Int))) (by omega) (by omega)
    have b0 := Int.emod_nonneg v (by decide : (9 : Int) ≠ 0)
    have b9 := Int.emod_lt_of_pos v (by decide : (0 : Int) < 9)
    obtain ⟨m, hm⟩ := Int.eq_ofNat_of_zero_le b0
    have et : [one, other].take (i + 1) = [one, other].take i ++ [t] := by rw [List.take_succ, ht]; rfl
    refine ⟨_, rfl, .inl ⟨rfl, _, SqL.of hRo6⟩, _, rfl, _, rfl, _, rfl, L, _, _, _, rfl, rfl, SqL.of hL6, at1, tp, _, 0, .str t.1, rfl, rfl, SqT.of htp6, rfl, _, rfl, _, rfl, L, _, _, _, rfl, rfl, SqL.of hL6, at1, tp, _, 1, .str t.2.1, rfl, rfl, SqT.of htp6, rfl, _, rfl, _, rfl, _, _, rfl, rfl, .inl ⟨by decide, by decide⟩, _, _, rfl, rfl, _, rfl, _, rfl, _, _, rfl, rfl, p, _, _, _, rfl, rfl, SqL.of hp6, ev, .inl ⟨_, rfl, _, 9, rfl, rfl, (by decide : (0 : Int) < 9), q, p, t.1, t.2.1, 102 + 10 * (0 + (i : Int)), m, d, ps, ks, rs, bs, ns, by show [V.ref q, V.str t.1, V.str t.2.1, V.ref p, V.int (102 + 10 * (0 + (i : Int))), V.int (v % 9)] = _; rw [hm], hq4.grew g6 g14.tab, hok, hr9', SqL.of hp6, hsm, by omega, by omega, by omega, g16.tab, fun H7 Lr ro g7 nLr hLr hro hw lro => ?_⟩⟩
    have hRo7 := g7.lst g16.tab hRo6
    have lrl := Paired.len hrl
    rw [List.length_take] at lrl
    have neL : Lr ≠ Ro := fun e => by rw [e, hRo6] at nLr; cases nLr
    refine ⟨Ro, rls, _, rfl, rfl, hRo7, by rw [sizeLine_eq]; omega, _, _, rfl, (g6.trans g7).write hRo7 (fun _ z => by cases z) nRo, upd_same, ?_⟩
    rw [et]
    refine Paired.snoc (Paired.map' hrl fun t v ⟨⟨L0, r0, e0, h0, h1, h2, h3⟩, n0⟩ => ⟨⟨L0, r0, e0, ?_, h1, h2, h3⟩, n0⟩) ⟨⟨Lr, ro, rfl, by rw [upd_ne neL]; exact hLr, hro, hw, by omega⟩, fun e => neL (by injection e)⟩
    rw [upd_ne (fun e => n0 (by rw [e0, e]))]
    exact g7.lst g16.tab h0
  rintro σ H6 ⟨v6, rls, rfl, g6, hRo, hrl⟩
  obtain ⟨w1, w2, rfl, ⟨⟨L1, ro1, rfl, hL1, hro1, hw1, lro1⟩, _⟩, ⟨⟨Lw2, ro2, rfl, hL2, hro2, hw2, lro2⟩, _⟩⟩ := two_pairs hrl
  have g16 := g14.trans g6
  have hL6 := g6.lst g14.tab hL
  have ht16 := g6.tup g14.tab ht1
  have ht26 := g6.tup g14.tab ht2
  have hq6 := hq4.grew g6 g14.tab
  -- first
  refine ⟨fun σ H' => ∃ (F1 : Addr) (ys1 : List V), σ = [some (.ref a0), some (.ref p), some (.ref q), some (.ref x), some (.ref L), some (.ref Ro), v6, some (.ref F1), none, none, none, none, none, none, none, none, none, none, none] ∧ Grew P H6 H' ∧ H' F1 = some (.lst ys1) ∧ Paired (RowAt H') (plcL d one.2.1 one.2.2 ro1) ys1, ?_, ?_⟩
  · exact ⟨_, rfl, _, rfl, L, _, _, _, rfl, rfl, SqL.of hL6, rfl, _, rfl, Ro, _, _, _, rfl, rfl, SqL.of hRo, rfl, q, L1, .ref t1, one, d, ps, ks, rs, bs, ro1, rfl, ⟨t1, rfl, ht16⟩, hq6, hok, hr9', hL1, hro1, by omega, hw1, i1.2.2.1, g16.tab, fun H7 F1 ys1 g7 nF hF rows => ⟨F1, ys1, rfl, g7, hF, rows⟩⟩
  rintro σ H7 ⟨F1, ys1, rfl, g7, hF1, rows1⟩
  have g17 := g16.trans g7
  have hL7 := g7.lst g16.tab hL6
  have hRo7 := g7.lst g16.tab hRo
  have ht27 := g7.tup g16.tab ht26
  have ht17 := g7.tup g16.tab ht16
  have hL27 := g7.lst g16.tab hL2
  have hq7 := hq6.grew g7 g16.tab
  -- second
  refine ⟨fun σ H' => ∃ (F2 : Addr) (ys2 : List V), σ = [some (.ref a0), some (.ref p), some (.ref q), some (.ref x), some (.ref L), some (.ref Ro), v6, some (.ref F1), some (.ref F2), none, none, none, none, none, none, none, none, none, none] ∧ Grew P H7 H' ∧ H' F2 = some (.lst ys2) ∧ Paired (RowAt H') (plcL d other.2.1 other.2.2 ro2) ys2, ?_, ?_⟩
  · exact ⟨_, rfl, _, rfl, L, _, _, _, rfl, rfl, SqL.of hL7, rfl, _, rfl, Ro, _, _, _, rfl, rfl, SqL.of hRo7, rfl, q, Lw2, .ref t2, other, d, ps, ks, rs, bs, ro2, rfl, ⟨t2, rfl, ht27⟩, hq7, hok, hr9', hL27, hro2, by omega, hw2, i2.2.2.1, g17.tab, fun H8 F2 ys2 g8 nF hF rows => ⟨F2, ys2, rfl, g8, hF, rows⟩⟩
  rintro σ H8 ⟨F2, ys2, rfl, g8, hF2, rows2⟩
  have g18 := g17.trans g8
  have hL8 := g8.lst g17.tab hL7
  have ht18 := g8.tup g17.tab ht17
  have ht28 := g8.tup g17.tab ht27
  have g38 := (((g4.trans g6).trans g7).trans g8)
  have tm8 : LamX.TabS H8 Pm qMeet := tabS_grew g18 hP nem (LamX.TabS.nil hTm)
  -- told
  refine ⟨fun σ H' => ∃ (v : V) (fs : List (Str → Option Int)), σ = [some (.ref a0), some (.ref p), some (.ref q), some (.ref x), some (.ref L), some (.ref Ro), v6, some (.ref F1), some (.ref F2), some v, none, none, none, none, none, none, none, none, none] ∧ Went1 P Pm qMeet H8 H' ∧ Paired (PlF d bs' rs') [one, other] fs ∧ MetAt H' Mt Rt d bs' rs' [one, other] (comL fs ps') v, ?_, ?_⟩
  · refine ⟨_, rfl, _, rfl, L, _, rfl, .inl (SqL.of hL8), fun hd nhd => ?_⟩
    have gh := Grew.new g18.tab (o := .lst [.ref t1, .ref t2]) nhd
    refine ⟨x, hd, [one, other], _, d, ks', ps', rs', bs', rfl, ⟨min3.grew (g38.trans gh), rsin, hmin', pl', p1000, upd_same, .cons ⟨t1, rfl, gh.tup g18.tab ht18⟩ (.cons ⟨t2, rfl, gh.tup g18.tab ht28⟩ .nil), fun t ht => ?_, by show 2 ≤ 900; decide⟩, hso, hsp, tabS_grew gh g18.tab nem tm8, nem, fun H9 fs v w9 hfs hm => ⟨v, fs, rfl, (Went1.grew g18.tab tm8 nem gh).trans w9, hfs, hm⟩⟩
    rcases List.mem_cons.mp ht with e | e
    · rw [e]; exact tok i1
    · rw [List.mem_singleton.mp e]; exact tok i2
  rintro σ H9 ⟨v, fs, rfl, w9, hfs, hmet⟩
  have hF19 := w9.lst (g8.lst g17.tab hF1)
  have hF29 := w9.lst hF2
  have rows19 : Paired (RowAt H9) (plcL d one.2.1 one.2.2 ro1) ys1 := Paired.map' rows1 fun _ _ m => m.keep (fun _ _ e => w9.tup (g8.tup g17.tab e))
  have rows29 : Paired (RowAt H9) (plcL d other.2.1 other.2.2 ro2) ys2 := Paired.map' rows2 fun _ _ m => m.keep (fun _ _ e => w9.tup e)
  have hq9 : PartsAt K H9 q d ps ks rs bs := (hq7.grew g8 g17.tab).went1 w9
  have hL9 := w9.lst hL8
  have hRo9 := w9.lst (g8.lst g17.tab hRo7)
  have hL29 := w9.lst (g8.lst g17.tab hL27)
  have ht19 := w9.tup ht18
  have ht29 := w9.tup ht28
  have hp9 := w9.lst (((g6.trans g7).trans g8).lst g14.tab hp4)
  have min9 := (min3.grew g38).went1 w9
  have ly2 := Paired.len rows29
  have l2 : ys2.length ≤ 11 := by
    rw [← ly2]
    show (arrL d other.2.2 ro2).length + 1 ≤ 11
    rw [arrL_len]; omega
  have ly2p : 0 < ys2.length := by rw [← ly2]; exact Nat.succ_pos _
  have gin : ∀ r ∈ rs, r.goal ∈ ps := fun r h => (hok.r.ok r h).g
  have hoR : ∀ r ∈ rs, HoursOk d r.hours := fun r h => (hok.r.ok r h).h
  have m1R : ∀ r ∈ rs, 1 ≤ r.minutes := fun r h => (hok.r.ok r h).m1
  -- the rounds
  refine ⟨fun σ H' => True, ?_, fun σ H' _ => k _⟩
  refine ⟨_, rfl, F2, ys2, rfl, .inl (SqL.of hF29), (ys2.length : Int), rfl, by omega, by omega, for_range (n := ys2.length) (fun i σ H' => ∃ (v10 v11 v12 v13 v14 v15 v16 v17 v18 : Option V), σ = [some (.ref a0), some (.ref p), some (.ref q), some (.ref x), some (.ref L), some (.ref Ro), v6, some (.ref F1), some (.ref F2), some v, v10, v11, v12, v13, v14, v15, v16, v17, v18] ∧ Grew P H9 H')
    ⟨none, none, none, none, none, none, none, none, none, rfl, Grew.refl w9.tab⟩ ?_ (fun _ _ _ => trivial)⟩
  rintro j σ H10 hj ⟨v10, v11, v12, v13, v14, v15, v16, v17, v18, rfl, g10⟩
  rw [Int.zero_add]
  have hxj : ys2[j]? = some (ys2[j]'hj) := List.getElem?_eq_getElem hj
  generalize ys2[j]'hj = xv at hxj
  obtain ⟨e2, he2, q2, rfl, hq2⟩ := Paired.at rows29 hxj
  have e2m := List.mem_of_getElem? he2
  have at2 : atI ys2 (j : Int) = some (.ref q2) := atI_nat hxj
  refine ⟨_, rfl, F1, rfl, ⟨_, SqL.of (g10.lst w9.tab hF19)⟩, for_list (K := K) (a := F1) (xs := ys1) (fun i σ H' => ∃ (v11 v12 v13 v14 v15 v16 v17 v18 : Option V), σ = [some (.ref a0), some (.ref p), some (.ref q), some (.ref x), some (.ref L), some (.ref Ro), v6, some (.ref F1), some (.ref F2), some v, some (.int (j : Int)), v11, v12, v13, v14, v15, v16, v17, v18] ∧ Grew P H9 H')
    ⟨v11, v12, v13, v14, v15, v16, v17, v18, rfl, g10⟩ (fun i σ H' _ ⟨_, _, _, _, _, _, _, _, _, g⟩ => SqL.of (g.lst w9.tab hF19)) ?_ (fun σ H' ⟨v11, v12, v13, v14, v15, v16, v17, v18, e, g⟩ => ⟨_, v11, v12, v13, v14, v15, v16, v17, v18, e, g⟩)⟩
  rintro i vx σ H11 hvx ⟨v11, v12, v13, v14, v15, v16, v17, v18, rfl, g11⟩
  obtain ⟨e1, he1, q1, rfl, hq1⟩ := Paired.at rows19 hvx
  have e1m := List.mem_of_getElem? he1
  refine ⟨q1, _, rfl, SqT.of (g11.tup w9.tab hq1), rfl, _, _, rfl, _, _, rfl, rfl, ?_⟩
  have w11t := g11.tab
  refine ⟨_, rfl, _, rfl, _, rfl, F2, _, _, _, rfl, rfl, SqL.of (g11.lst w9.tab hF29), at2, q2, _, 0, .str e2.1, rfl, rfl, SqT.of (g11.tup w9.tab hq2), rfl, rfl, _, rfl, ?_⟩
  by_cases c : e1.1 = e2.1
  case neg =>
    exact if_f (decide_eq_false fun e => c (by injection e)) ⟨_, _, _, _, _, _, _, _, rfl, g11⟩
  refine if_t (decide_eq_true (by rw [c])) ?_
  obtain ⟨n1, u1', D1, pn1, lu1⟩ := drv_plc (Int.le_refl _) hw1 hro1 e1 e1m
  obtain ⟨n2, u2', D2, pn2, lu2⟩ := drv_plc (Int.le_refl _) hw2 hro2 e2 e2m
  have z0 : 0 ≤ e1.2 := by
    have := arr_small hok.d1 hoR m1R D1
    have := i1.2.2.1
    omega
  have zin : e1.1 ∈ ps := by
    rcases List.mem_cons.mp e1m with h | h
    · rw [h]; exact i1.2.1
    · exact pl_in gin hro1 e1 h
  have zin' := pp.mem_iff.mpr zin
  -- both
  refine ⟨fun σ H' => ∃ both : Int, σ = [some (.ref a0), some (.ref p), some (.ref q), some (.ref x), some (.ref L), some (.ref Ro), v6, some (.ref F1), some (.ref F2), some v, some (.int (j : Int)), some (.str e1.1), some (.int e1.2), some (.int both), v14, v15, v16, v17, v18] ∧ Grew P H9 H' ∧ e1.2 ≤ both ∧ e2.2 ≤ both, ?_, ?_⟩
  · refine ⟨_, rfl, _, rfl, _, rfl, F2, _, _, _, rfl, rfl, SqL.of (g11.lst w9.tab hF29), at2, q2, _, 1, .int e2.2, rfl, rfl, SqT.of (g11.tup w9.tab hq2), rfl, _, _, rfl, _, rfl, g11, ?_, ?_⟩
    · split <;> omega
    · split <;> omega
  rintro σ H12 ⟨both, rfl, g12', lb1, lb2⟩
  have common : ∀ {fs' : List (Str → Option Int)}, Paired (PlF d bs' rs') [one, other] fs' → ∃ h, (e1.1, h) ∈ comL fs' ps' ∧ h ≤ both := fun hf => com_two G0 inn mb hf D1 pn1 D2 (pn2.trans c.symm) (by omega) (by omega) zin'
  obtain ⟨h0, hh0, lh0⟩ := common hfs
  rcases hmet with ⟨e0, _⟩ | ⟨em, y, rvs, ⟨im, him, hlow, _⟩, rfl, ⟨dx, fM, qr, hy, f1, f2, f3, hqr⟩, _⟩
  · rw [e0] at hh0; cases hh0
  have lm := hlow _ hh0
  have lm' : ¬ h0 < em.2 := lm
  -- told
  refine ⟨fun σ H' => σ = [some (.ref a0), some (.ref p), some (.ref q), some (.ref x), some (.ref L), some (.ref Ro), v6, some (.ref F1), some (.ref F2), some (.ref y), some (.int (j : Int)), some (.str e1.1), some (.int e1.2), some (.int both), v14, v15, v16, v17, v18] ∧ H12 = H', ?_, ?_⟩
  · exact ⟨_, rfl, _, rfl, if_f rfl ⟨_, rfl, y, Mt, dx, fM, .int em.2, rfl, g12'.get w9.tab hy (fun _ z => by cases z), TM.cl, TM.n2, f2, _, rfl, _, _, rfl, rfl, _, rfl, if_f (decide_eq_false (by omega)) ⟨rfl, rfl⟩⟩⟩
  rintro σ H' ⟨rfl, rfl⟩
  have hrest : walkOk other.1 bs e1.1 none (ro2.drop j) := by rw [c]; exact walk_drop hw2 he2
  have hsub : ∀ r ∈ ro2.drop j, r ∈ rs := fun r h => hro2 r (List.mem_of_mem_drop h)
  have lrest : (ro2.drop j).length ≤ 10 := by rw [List.length_drop]; omega
  generalize hrs : ro2.drop j = rest at hrest hsub lrest
  -- stages
  refine ⟨fun σ H' => ∃ (pS : Addr) (sx : List V), σ = [some (.ref a0), some (.ref p), some (.ref q), some (.ref x), some (.ref L), some (.ref Ro), v6, some (.ref F1), some (.ref F2), some (.ref y), some (.int (j : Int)), some (.str e1.1), some (.int e1.2), some (.int both), some (.ref pS), some (.bl true), v16, v17, v18] ∧ Grew P H9 H' ∧ H' pS = some (.lst sx) ∧ Paired (StageAt K H') (stgL d both rest) sx, ?_, ?_⟩
  · refine ⟨_, rfl, _, rfl, L, _, _, _, rfl, rfl, SqL.of (g12'.lst w9.tab hL9), rfl, t2, _, 0, .str other.1, rfl, rfl, SqT.of (g12'.tup w9.tab ht29), rfl, _, rfl, _, rfl, _, rfl, Ro, _, _, _, rfl, rfl, SqL.of (g12'.lst w9.tab hRo9), rfl, _, rfl, _, rfl, Lw2, _, rfl, SqL.of (g12'.lst w9.tab hL29), fun p1 np1 => ?_⟩
    have gp := Grew.new g12'.tab (o := .lst (cutV ((ro2.map (·.name)).map V.str) (some (j : Int)) none)) np1
    have hp1 : (L2.upd H12 p1 (.lst (cutV ((ro2.map (·.name)).map V.str) (some (j : Int)) none))) p1 = some (.lst ((rest.map (·.name)).map V.str)) := by rw [upd_same, cut_drop, ← hrs, List.map_drop, List.map_drop]
    generalize L2.upd H12 p1 (.lst (cutV ((ro2.map (·.name)).map V.str) (some (j : Int)) none)) = H13 at gp hp1
    have g13' := g12'.trans gp
    refine ⟨q, p1, other.1, e1.1, both, d, ps, ks, rs, bs, rest, rfl, PartsAt.grew g13' w9.tab hq9, hok, hr9', SqL.of hp1, hsub, by omega, by omega, g13'.tab, fun H14 tw pS ss wh g14' er htw hS => ?_⟩
    rw [ride_walk hok.d1 (fun r h => hoR r (hsub r h)) hrest] at er
    cases er
    obtain ⟨sx, hpS, hsx⟩ := hS
    exact ⟨tw, _, rfl, SqT.of htw, rfl, _, _, rfl, _, _, rfl, rfl, pS, sx, rfl, g13'.trans g14', hpS, hsx⟩
  rintro σ H14 ⟨pS, sx, rfl, g14', hpS, hsx⟩
  have lsx := Paired.len hsx
  have lst := stgL_len (d := d) both rest
  -- goal, arrival
  refine ⟨_, rfl, _, rfl, ?_⟩
  refine ⟨fun σ H' => ∃ (gl : Str) (av : Int), σ = [some (.ref a0), some (.ref p), some (.ref q), some (.ref x), some (.ref L), some (.ref Ro), v6, some (.ref F1), some (.ref F2), some (.ref y), some (.int (j : Int)), some (.str e1.1), some (.int e1.2), some (.int both), some (.ref pS), some (.bl true), some (.str gl), some (.int av), v18] ∧ Grew P H9 H' ∧ (gl, av) ∈ plcL d e1.1 both rest, ?_, ?_⟩
  · refine ⟨_, rfl, pS, sx, rfl, .inl (SqL.of hpS), _, _, rfl, rfl, _, rfl, ?_⟩
    by_cases cl : 0 < sx.length
    · have li : sx[sx.length - 1]? = some (sx[sx.length - 1]'(by omega)) := List.getElem?_eq_getElem _
      generalize sx[sx.length - 1]'(by omega) = sv at li
      obtain ⟨s1, hs1, sq, rfl, hsq⟩ := Paired.at hsx li
      obtain ⟨r, hr0, hn, hpr⟩ := stg_at hs1
      have hrm := hsub r (List.mem_of_getElem? hr0)
      have ate : atI sx (-1) = some (.ref sq) := atI_endV (by rw [List.getLast?_eq_getElem?]; exact li)
      refine if_t (decide_eq_true (by omega)) ?_
      refine ⟨_, rfl, _, rfl, 1, rfl, pS, _, -1, .ref sq, rfl, rfl, SqL.of hpS, ate, sq, _, 0, .str s1.1, rfl, rfl, hsq, rfl, ?_⟩
      rw [hn]
      refine ⟨q, d, ps, ks, rs, bs, r, rfl, PartsAt.grew g14' w9.tab hq9, hok.r.nd, hr9', hrm, g14'.tab, fun H15 vr g15' hvr => ?_⟩
      obtain ⟨tr, ur, hvr', rfl, hTr, _, _⟩ := hvr
      refine ⟨tr, _, 2, .str r.goal, rfl, rfl, hTr, rfl, ?_⟩
      exact ⟨_, rfl, 1, rfl, pS, _, -1, .ref sq, rfl, rfl, SqL.of (g15'.lst g14'.tab hpS), ate, sq, _, 2, .int s1.2.2, rfl, rfl, g15'.sqT g14'.tab hsq, rfl, r.goal, s1.2.2, rfl, g14'.trans g15', List.mem_cons_of_mem _ (List.mem_of_getElem? hpr)⟩
    · exact if_f (decide_eq_false (by omega)) ⟨e1.1, both, rfl, g14', List.mem_cons_self⟩
  rintro σ H15 ⟨gl, av, rfl, g15', hga⟩
  -- the relay
  obtain ⟨v, ev, vv0, vv9⟩ := num 125 (by decide) (by decide)
  refine ⟨_, rfl, _, rfl, p, _, _, _, rfl, rfl, SqL.of (g15'.lst w9.tab hp9), ev, .inl ⟨_, rfl, _, rfl, F2, _, rfl, .inl (SqL.of (g15'.lst w9.tab hF29)), _, _, rfl, rfl, (by omega : (0 : Int) < ((ys2.length : Nat) : Int)), rfl, _, rfl, ?_⟩⟩
  refine iteD ?_ ⟨_, _, _, _, _, _, _, _, rfl, g15'⟩
  have glin : gl ∈ ps := by
    rcases List.mem_cons.mp hga with h | h
    · have : gl = e1.1 := congrArg Prod.fst h
      rw [this]; exact zin
    · exact pl_in gin hsub _ h
  refine ⟨_, rfl, _, rfl, L, _, _, _, rfl, rfl, SqL.of (g15'.lst w9.tab hL9), rfl, _, rfl, L, _, _, _, rfl, rfl, SqL.of (g15'.lst w9.tab hL9), rfl, _, rfl, x, .ref t1, .ref t2, one, other, gl, d, ks', ps', rs', bs', rfl, min9.grew g15', rsin, hmin', pl', p1000, hso, ⟨t1, rfl, g15'.tup w9.tab ht19⟩, ⟨t2, rfl, g15'.tup w9.tab ht29⟩, tok i1, tok i2, pp.mem_iff.mpr glin, fun H16 fs6 gs6 v18' g16' hfs6 hgs6 hrel => ?_⟩
  obtain ⟨h6, hh6, lh6⟩ := common hfs6
  obtain ⟨o, hzo, hGo⟩ := Paired.zipAt hgs6 hh6
  obtain ⟨n3, u3, D3, pn3, lu3⟩ := drv_plc (d := d) (kind := other.1) (bs := bs) (rs := rs) lh6 hrest hsub (gl, av) hga
  obtain ⟨a3, rfl, la3⟩ := drv_goal (t := (other.1, e1.1, h6)) G0 inn mb hGo D3 pn3
  obtain ⟨r', a', hb, la'⟩ := bestL_le hzo
  rw [hb] at hrel
  rcases hrel with ⟨z, _⟩ | ⟨r1, a1, y1, w1, w2, w3, z, rfl, ⟨dx1, fL, qL, hyL, l1', l2', l3', l4', hqL⟩, _⟩
  · cases z
  cases z
  have lav : u3 ≤ av := lu3
  exact ⟨_, rfl, _, rfl, if_f rfl ⟨_, rfl, y1, Rl, dx1, fL, .int a', rfl, hyL, TL.cl, TL.n4, l4', _, rfl, _, _, rfl, rfl, _, rfl, if_f (decide_eq_false (by omega)) ⟨_, _, _, _, _, _, _, _, rfl, g15'.trans g16'⟩⟩⟩
end
end W

set_option Elab.async false
set_option linter.all false
set_option maxRecDepth 100000
set_option maxHeartbeats 2000000
namespace MyR
open PySem PySem.Spec PyProof.Rows L2
/-! ### the law's own call, where several defs hold a generator expression -/
section
variable {P : Program} {w : World} {K : PySem.W.Frag} {mg : Str → Option Value} {base : Heap}
def topL (K : PySem.W.Frag) (cs : List (Addr × Addr)) (a : Addr) (o : Obj) (xs : List V) : Hp := fun b => if b ∈ cs.map (·.2) then some (.tbl #[]) else if b = a ∧ K.lookup a = none then some (.frz o (.lst xs)) else none
theorem topL_cases {cs : List (Addr × Addr)} {a b : Addr} {o : Obj} {xs : List V} {u : HO} (h : topL K cs a o xs b = some u) : (b ∈ cs.map (·.2) ∧ u = .tbl #[]) ∨ (b ∉ cs.map (·.2) ∧ b = a ∧ K.lookup a = none ∧ u = .frz o (.lst xs)) := by
  unfold topL at h
  by_cases h1 : b ∈ cs.map (·.2)
  · rw [if_pos h1] at h
    exact .inl ⟨h1, (Option.some.inj h).symm⟩
  · rw [if_neg h1] at h
    by_cases h2 : b = a ∧ K.lookup a = none
    · rw [if_pos h2] at h
      exact .inr ⟨h1, h2.1, h2.2, (Option.some.inj h).symm⟩
    · rw [if_neg h2] at h
      cases h
theorem top_callL {mb : Str → Option Value} {CX : CXT} {f a : Addr} {cs : List (Addr × Addr)} {sp : Sp} {s : Shared} {vs : List Value} {ns : List Int} (KX : K.In s.heap) (G : s.heap.Ns mainGlobals mg) (B : s.heap.Ns builtinsNs mb) (hB : ∀ x : Str, x ≠ "__name__" → mb x = bootBuiltins x) (lim : s.heap.NoLimit) (ng : s.gens = #[])
    (hcs : ∀ p ∈ cs, s.heap.get? p.2 = some { cls := .none, data := .fields #[] } ∧ K.lookup p.2 = none ∧ PySem.W.CodeHd s.heap p.1 p.2)
    (hbm : ∃ (bm : Addr) (ob : Obj), mg "__builtins__" = some (.ref bm) ∧ bm ≠ builtinsNs ∧ s.heap.get? bm = some ob ∧ ob.cls = .type "module" ∧ ob.dict = some builtinsNs ∧ ob.data = .plain)
    (ea : s.heap.get? a = some { cls := .type "list", data := .seq vs.toArray }) (hi : IntsAre vs ns) (hl : ns.length ≤ sizeLine)
    (R : ∀ base : Heap, K.In base → base.Ns mainGlobals mg → (∀ p ∈ cs, LamX.TabB base mg p.1 p.2) → RunG P w K mg base CX f sp)
    (hsp : ∀ H : Hp, (∀ p ∈ cs, H p.2 = some (.tbl #[])) → SqL K H a (ns.map V.int) → sp [.ref a] H (fun v _ => v = .bl true) fun _ _ _ => False)
    (no : ∀ H e s', CX [] H s (fun _ _ _ => False) e s' → False) :
    codeAny (model P w) callerA (.call (.ref f) ⟨[.ref a], []⟩) (fun r s' => r = .ok (.ret (.bool true)) ∧ OldK s.heap s'.heap ∧ s'.os = s.os ∧ AllBare s'.gens) s := by
  have rv := vals_ints hi
  have mem : ∀ {b : Addr}, b ∈ cs.map (·.2) → ∃ c, (c, b) ∈ cs := fun {b} h => by
    obtain ⟨⟨c, b'⟩, hp, e⟩ := List.mem_map.mp h
    have e' : b' = b := e
    exact ⟨c, e' ▸ hp⟩
  have eT : ∀ {b : Addr}, b ∈ cs.map (·.2) → s.heap.get? b = some { cls := .none, data := .fields #[] } := fun h => let ⟨c, hp⟩ := mem h; (hcs _ hp).1
  have nT : ∀ {b : Addr}, b ∈ cs.map (·.2) → K.lookup b = none := fun h => let ⟨c, hp⟩ := mem h; (hcs _ hp).2.1
  have nz : a ∉ cs.map (·.2) := fun z => by
    rw [eT z] at ea
    cases ea
  obtain ⟨H, eH⟩ : ∃ H, H = topL K cs a { cls := .type "list", data := .seq vs.toArray } (ns.map V.int) := ⟨_, rfl⟩
  have tr : ∀ {b : Addr} {u : HO}, H b = some u → _ := fun {b u} h => topL_cases (by rw [eH] at h; exact h)
  have HT : ∀ p ∈ cs, H p.2 = some (.tbl #[]) := fun p hp => by
    rw [eH]
    exact if_pos (List.mem_map.mpr ⟨p, hp, rfl⟩)
  have hS : SqL K H a (ns.map V.int) := by
    cases q : K.lookup a with
    | none => exact .inl (.inr ⟨_, by rw [eH]; exact (if_neg nz).trans (if_pos ⟨rfl, q⟩)⟩)
    | some o =>
      have e := KX a o q
      rw [ea] at e
      cases e
      exact .inr ⟨_, vs.toArray, _, q, rfl, rfl, rfl, by rw [List.size_toArray, hi.length]; exact hl, by simpa using rv⟩
  have ok : HOk P w H s.heap := fun b u h => by
    rcases tr h with ⟨hb, rfl⟩ | ⟨_, rfl, _, rfl⟩
    · exact eT hb
    · exact ⟨ea, by rw [List.length_map]; exact hl, vs, _, rv, ea⟩
  have gone : ∀ {b : Addr} {o : Obj}, s.heap.get? b = some o → (∀ xs n, o.data ≠ .seq xs n) → o.data ≠ .fields #[] → H b = none := fun {b o} e d1 d2 => by
    cases h : H b with
    | none => rfl
    | some u =>
      rcases tr h with ⟨hb, _⟩ | ⟨_, rfl, _, _⟩
      · rw [eT hb] at e
        cases e
        exact (d2 rfl).elim
      · rw [ea] at e
        cases e
        exact (d1 _ _ rfl).elim
  have toB : ∀ {b : Addr} {m : Str → Option Value}, s.heap.Ns b m → (hidT s.heap H).Ns b m := fun {b m} ⟨o, es, ep, e, d, r⟩ =>
    ⟨o, es, ep, hidT_get e (gone e (fun xs n z => by rw [d] at z; cases z) (fun z => by rw [d] at z; cases z)), d, r⟩
  have KB : K.In (hidT s.heap H) := fun b o e => hidT_get (KX b o e) (by
    cases h : H b with
    | none => rfl
    | some u =>
      rcases tr h with ⟨hb, _⟩ | ⟨_, rfl, k, _⟩
      · rw [nT hb] at e; cases e
      · rw [k] at e; cases e)
  have TB : ∀ p ∈ cs, LamX.TabB (hidT s.heap H) mg p.1 p.2 := fun p hp => by
    obtain ⟨eT, nT, C⟩ := hcs p hp
    refine ⟨?_, ?_, fun z => ?_⟩
    · obtain ⟨o, us, file, tf, flags, tg, inF, text, tt, e1, r1, r2, r3, r⟩ := C
      exact ⟨o, us, file, tf, flags, tg, inF, text, tt, hidT_get e1 (gone e1 (fun xs n z => by rw [r2] at z; cases z) (fun z => by rw [r2] at z; cases z; simp at r3)), r1, r2, r3, r⟩
    · obtain ⟨bm, ob, b1, b2, b3, b4, b5, b6⟩ := hbm
      refine ⟨bm, ob, b1, b2, fun z => ?_, fun z => ?_, hidT_get b3 (gone b3 (fun xs n z => by rw [b6] at z; cases z) (fun z => by rw [b6] at z; cases z)), b4, b5, b6⟩
      · obtain ⟨o, es, ep, e, d, _⟩ := G
        rw [z, e] at b3
        cases b3
        rw [d] at b6
        cases b6
      · rw [z, eT] at b3
        cases b3
        cases b6
    · obtain ⟨o, es, ep, e, d, _⟩ := G
      rw [z, eT] at e
      cases e
      cases d
  have e0 : Env0 P w K mg (hidT s.heap H) callerA [] s H :=
    ⟨rfl, ⟨KB, toB G, ⟨mb, toB B, hB⟩, let ⟨mc, h1, h2⟩ := lim; ⟨mc, toB h1, h2⟩⟩, fun b o e => of_hidT e, Nat.le_of_eq (hidT_size _ _), trivial, fun b hb => absurd (show b ∈ ([] : List Addr) from hb) (by simp), ok, .of_eq ng⟩
  refine codeAny_mono (R _ KB (toB G) TB s H a _ _ e0 (hsp H HT hS)) fun r s' h => ?_
  match r, h with
  | .error e, h => exact (no H e s' h).elim
  | .ok .next, h => exact False.elim h
  | .ok .brk, h => exact False.elim h
  | .ok .cont, h => exact False.elim h
  | .ok (.ret u), ⟨v, H', os, bare, un, ok', r', q⟩ =>
    obtain rfl : v = .bl true := q
    obtain rfl : u = Value.bool true := r'
    have hm : ∀ p ∈ cs, ∃ more : Array Value, s'.heap.get? p.2 = some { cls := .none, data := .fields more } := fun p hp => by
      obtain ⟨more, z⟩ := un.tbls p.2 #[] (HT p hp)
      exact ⟨_, ok' p.2 _ z⟩
    have old : ∀ b o, b ∉ cs.map (·.2) → s.heap.get? b = some o → s'.heap.get? b = some o := fun b o ne e => by
      cases h : H b with
      | none => exact un.keep b o e h (fun z => absurd (show b ∈ ([] : List Addr) from z) (by simp)) (by simp)
      | some u =>
        rcases tr h with ⟨z, _⟩ | ⟨_, rfl, _, rfl⟩
        · exact absurd z ne
        · obtain ⟨e2, _⟩ := ok' b _ (un.frzs b _ _ h)
          rw [ea] at e
          cases e
          exact e2
    refine ⟨rfl, ⟨fun b o e => ?_, fun b o e => ?_⟩, os, bare⟩
    · by_cases hb : b ∈ cs.map (·.2)
      · obtain ⟨c, hp⟩ := mem hb
        obtain ⟨eT, _, C⟩ := hcs _ hp
        obtain ⟨more, hm⟩ := hm _ hp
        have eT' : s.heap.get? b = some { cls := .none, data := .fields #[] } := eT
        rw [eT'] at e
        cases e
        exact .inr (.inl ⟨(C.tab eT).isCodeTable, rfl, #[], more, rfl, by rw [Array.empty_append]; exact hm⟩)
      · exact .inl (old b o hb e)
    · by_cases hb : b ∈ cs.map (·.2)
      · obtain ⟨c, hp⟩ := mem hb
        obtain ⟨more, hm⟩ := hm _ hp
        exact ⟨_, hm⟩
      · exact ⟨o, old b o hb e⟩
end
/-- what the law's end asks: the tables of the code objects, and the promise sp -/
def LawL (l : PySem.W.OpenLaw) (w : World) (K : PySem.W.Frag) (CX : CXT) (n : Nat) (mg : Str → Option Value) (fa : Addr) (h : Heap) : Prop :=
  ∃ (cs : List (Addr × Addr)) (sp : Sp), (∀ p ∈ cs, h.get? p.2 = some { cls := .none, data := .fields #[] } ∧ K.lookup p.2 = none ∧ PySem.W.CodeHd h p.1 p.2) ∧
    (∀ (H : Hp) (a : Addr) (ns : List Int), ns.length ≤ n → (∀ p ∈ cs, H p.2 = some (.tbl #[])) → SqL K H a (ns.map V.int) → sp [.ref a] H (fun v _ => v = .bl true) fun _ _ _ => False) ∧
    ∀ base : Heap, K.In base → base.Ns mainGlobals mg → (∀ p ∈ cs, LamX.TabB base mg p.1 p.2) → RunG l.prog w K mg base CX fa sp
theorem walk_ofL {l : PySem.W.OpenLaw} {n : Nat} {q : Program} {loose : List Str} {XP : (Str → Option Value) → Heap → Prop} {YP : World → Heap → Prop} {d : DefRec} {K : Params → PySem.W.Frag} {CX : World → CXT} (names : List Str)
    (hn : l.most = some n) (hn2 : n ≤ sizeLine) (hdf : d.params.defaults = []) (hrec : names.all (fun y => (recsOf q).any fun e => e.name == y) = true) (hY : ∀ (w : World) (h : Heap), YP w h → (K w.params).In h)
    (F : ∀ (w : World) (mg : Str → Option Value) (fa : Addr) (h : Heap), YP w h → (K w.params).In h → h.Ns mainGlobals mg → mg d.name = some (.ref fa) → (∀ y ∈ names, ∀ f, mg y = some (.ref f) → LamX.OwnTab (K w.params) f h) → LawL l w (K w.params) (CX w) n mg fa h)
    (no : ∀ (w : World) (H : Hp) (s : Shared) (e : Value) (s' : Shared), CX w [] H s (fun _ _ _ => False) e s' → False) :
    PySem.W.WalkO q loose XP YP l.row.toRowW d [] (fun f vs => PySem.call f vs) := by
  refine Att.attach_callB hn hdf fun w s₀ s₁ mg mb fa o pm cd doc a vs ns G Y ho hd hcd hmg hobj hints hlen hbits hg => ?_
  have KX := hY w _ Y
  obtain ⟨cs, sp, hcs, hsp, R⟩ := F w mg fa _ Y KX G.T.g hmg (fun y hy f hf c P o1 fd1 e dd vs1 sl k1 k2 k3 k4 k5 => by
    obtain ⟨dL, hm, hn1⟩ := List.any_eq_true.mp (List.all_eq_true.mp hrec y hy)
    obtain ⟨a', o', fd', c', P', h1, h2, h3, h4, h5, h6⟩ := G.T.tab dL hm
    rw [beq_iff_eq.mp hn1, hf] at h1
    cases h1
    have g1 := KX _ _ k1
    rw [g1] at h2
    cases h2
    rw [k2] at h3
    cases h3
    rw [k3] at h4
    cases h4
    obtain ⟨⟨oc, vc, e1, _, e3, e4⟩, hP⟩ := h6
    have g2 := KX _ _ k4
    rw [g2] at e1
    cases e1
    cases e3
    rw [k5] at e4
    cases e4
    exact hP)
  exact top_callL KX G.T.g G.T.b G.T.builtins G.T.nolimit hg hcs G.T.bmain hobj hints (Nat.le_trans hlen hn2) R (fun H hH hS => hsp H a ns hlen hH hS) fun H e s' => no w H s₁ e s'
end MyR

set_option Elab.async false
set_option linter.all false
set_option maxRecDepth 100000
set_option maxHeartbeats 4000000
namespace W
open PySem PySem.Spec PyProof.Rows L2 GxR MyG MyS MyR
theorem exm_two {K : PySem.W.Frag} {A S : Addr} {b : Bool} (h1 : PySem.W.subIn K (.ref S) (.type "BaseException") = some true) (h2 : PySem.W.isClsIn K S = true) (h3 : PySem.W.typeIn K (.ref S) = some (.type "type")) (h4 : PySem.W.subIn K (.ref A) (.ref S) = some b) :
    PySem.W.exmOne K (.ref A) (.ref S) = some b := by
  have e1 : (PySem.W.subIn K (.ref S) (.type "BaseException") == some true) = true := by rw [h1]; rfl
  have e2 : ((PySem.W.clsIn K S).isSome && PySem.W.typeIn K (.ref S) == some (.type "type")) = true := by
    have q : (PySem.W.clsIn K S).isSome = true := h2
    rw [q, h3]; rfl
  show (if (PySem.W.subIn K (.ref S) (.type "BaseException") == some true) = true then (if ((PySem.W.clsIn K S).isSome && PySem.W.typeIn K (.ref S) == some (.type "type")) = true then PySem.W.subIn K (.ref A) (.ref S) else none) else none) = some b
  rw [if_pos e1, if_pos e2, h4]
theorem no_fly {P : Program} (w : World) (H : Hp) (s : Shared) (e : Value) (s' : Shared) (h : L2.CX P w [] H s (fun _ _ _ => False) e s') : False := by
  obtain ⟨_, _, _, _, _, _, _, _, _, _, _, _, q⟩ := h
  exact q
theorem all_mk {l : PySem.W.OpenLaw} {w : World} {K : PySem.W.Frag} {h : Heap} {mg : Str → Option Value} {fa fNm fDy fNa fDf fRs fRd fHr fBr fEn fAr fCn fEv fRb fTu fSe fPo fEo fRo fEa fLb fPf fCm fRq fMe fRy fRw fNu fLn fSo fLh fMp fMd fLt fSn fLx fLm fLi fWk fPl fTr fLw fRm fCk fCp fCi fRf fFo fMu fRn ppRn Rl Mt Rt fNj fMj fRj fI M U fXU cdaXU ccXU B P qN qMe PMe D0 T0 T1 T2 : Addr} (X : K.In h) (G : h.Ns mainGlobals mg) (hfa : mg "law" = some (.ref fa)) (own : ∀ y ∈ ([("is_name" : Str), ("meeting" : Str)] : List Str), ∀ f, mg y = some (.ref f) → LamX.OwnTab K f h)
    {odNm anNm : Option Addr} {slNm : Array (Option Value)} {ocNm kVNm dcNm pmNm ctNm : Value}
    {odDy anDy : Option Addr} {slDy : Array (Option Value)} {ocDy kVDy dcDy pmDy cdDy ctDy : Value}
    {odNa anNa : Option Addr} {slNa : Array (Option Value)} {ocNa kVNa dcNa pmNa cdNa ctNa : Value}
    {odDf anDf : Option Addr} {slDf : Array (Option Value)} {ocDf kVDf dcDf pmDf cdDf ctDf : Value}
    {odRs anRs : Option Addr} {slRs : Array (Option Value)} {ocRs kVRs dcRs pmRs cdRs ctRs : Value}
    {odRd anRd : Option Addr} {slRd : Array (Option Value)} {ocRd kVRd dcRd pmRd cdRd ctRd : Value}
    {odHr anHr : Option Addr} {slHr : Array (Option Value)} {ocHr kVHr dcHr pmHr cdHr ctHr : Value}
    {odBr anBr : Option Addr} {slBr : Array (Option Value)} {ocBr kVBr dcBr pmBr cdBr ctBr : Value}
    {odEn anEn : Option Addr} {slEn : Array (Option Value)} {ocEn kVEn dcEn pmEn cdEn ctEn : Value}
    {odAr anAr : Option Addr} {slAr : Array (Option Value)} {ocAr kVAr dcAr pmAr cdAr ctAr : Value}
    {odCn anCn : Option Addr} {slCn : Array (Option Value)} {ocCn kVCn dcCn pmCn cdCn ctCn : Value}
    {odEv anEv : Option Addr} {slEv : Array (Option Value)} {ocEv kVEv dcEv pmEv cdEv ctEv : Value}
    {odRb anRb : Option Addr} {slRb : Array (Option Value)} {ocRb kVRb dcRb pmRb cdRb ctRb : Value}
    {odTu anTu : Option Addr} {slTu : Array (Option Value)} {ocTu kVTu dcTu pmTu cdTu ctTu : Value}
    {odSe anSe : Option Addr} {slSe : Array (Option Value)} {ocSe kVSe dcSe pmSe cdSe ctSe : Value}
    {odPo anPo : Option Addr} {slPo : Array (Option Value)} {ocPo kVPo dcPo pmPo cdPo ctPo : Value}
    {odEo anEo : Option Addr} {slEo : Array (Option Value)} {ocEo kVEo dcEo pmEo cdEo ctEo : Value}
    {odRo anRo : Option Addr} {slRo : Array (Option Value)} {ocRo kVRo dcRo pmRo cdRo ctRo : Value}
    {odEa anEa : Option Addr} {slEa : Array (Option Value)} {ocEa kVEa dcEa pmEa cdEa ctEa : Value}
    {odLb anLb : Option Addr} {slLb : Array (Option Value)} {ocLb kVLb dcLb pmLb cdLb ctLb : Value}
    {odPf anPf : Option Addr} {slPf : Array (Option Value)} {ocPf kVPf dcPf pmPf cdPf ctPf : Value}
    {odCm anCm : Option Addr} {slCm : Array (Option Value)} {ocCm kVCm dcCm pmCm cdCm ctCm : Value}
    {odRq anRq : Option Addr} {slRq : Array (Option Value)} {ocRq kVRq dcRq pmRq cdRq ctRq : Value}
    {odMe anMe : Option Addr} {slMe : Array (Option Value)} {ocMe kVMe dcMe pmMe ctMe : Value}
    {odRy anRy : Option Addr} {slRy : Array (Option Value)} {ocRy kVRy dcRy pmRy cdRy ctRy : Value}
    {odRw anRw : Option Addr} {slRw : Array (Option Value)} {ocRw kVRw dcRw pmRw cdRw ctRw : Value}
    {odNu anNu : Option Addr} {slNu : Array (Option Value)} {ocNu kVNu dcNu pmNu cdNu ctNu : Value}
    {odLn anLn : Option Addr} {slLn : Array (Option Value)} {ocLn kVLn dcLn pmLn cdLn ctLn : Value}
    {odSo anSo : Option Addr} {slSo : Array (Option Value)} {ocSo kVSo dcSo pmSo cdSo ctSo : Value}
    {odLh anLh : Option Addr} {slLh : Array (Option Value)} {ocLh kVLh dcLh pmLh cdLh ctLh : Value}
    {odMp anMp : Option Addr} {slMp : Array (Option Value)} {ocMp kVMp dcMp pmMp cdMp ctMp : Value}
    {odMd anMd : Option Addr} {slMd : Array (Option Value)} {ocMd kVMd dcMd pmMd cdMd ctMd : Value}
    {odLt anLt : Option Addr} {slLt : Array (Option Value)} {ocLt kVLt dcLt pmLt cdLt ctLt : Value}
    {odSn anSn : Option Addr} {slSn : Array (Option Value)} {ocSn kVSn dcSn pmSn cdSn ctSn : Value}
    {odLx anLx : Option Addr} {slLx : Array (Option Value)} {ocLx kVLx dcLx pmLx cdLx ctLx : Value}
    {odLm anLm : Option Addr} {slLm : Array (Option Value)} {ocLm kVLm dcLm pmLm cdLm ctLm : Value}
    {odLi anLi : Option Addr} {slLi : Array (Option Value)} {ocLi kVLi dcLi pmLi cdLi ctLi : Value}
    {odWk anWk : Option Addr} {slWk : Array (Option Value)} {ocWk kVWk dcWk pmWk cdWk ctWk : Value}
    {odPl anPl : Option Addr} {slPl : Array (Option Value)} {ocPl kVPl dcPl pmPl cdPl ctPl : Value}
    {odTr anTr : Option Addr} {slTr : Array (Option Value)} {ocTr kVTr dcTr pmTr cdTr ctTr : Value}
    {odLw anLw : Option Addr} {slLw : Array (Option Value)} {ocLw kVLw dcLw pmLw cdLw ctLw : Value}
    {odRm anRm : Option Addr} {slRm : Array (Option Value)} {ocRm kVRm dcRm pmRm cdRm ctRm : Value}
    {odCk anCk : Option Addr} {slCk : Array (Option Value)} {ocCk kVCk dcCk pmCk cdCk ctCk : Value}
    {odCp anCp : Option Addr} {slCp : Array (Option Value)} {ocCp kVCp dcCp pmCp cdCp ctCp : Value}
    {odCi anCi : Option Addr} {slCi : Array (Option Value)} {ocCi kVCi dcCi pmCi cdCi ctCi : Value}
    {odRf anRf : Option Addr} {slRf : Array (Option Value)} {ocRf kVRf dcRf pmRf cdRf ctRf : Value}
    {odFo anFo : Option Addr} {slFo : Array (Option Value)} {ocFo kVFo dcFo pmFo cdFo ctFo : Value}
    {odMu anMu : Option Addr} {slMu : Array (Option Value)} {ocMu kVMu dcMu pmMu cdMu ctMu : Value}
    {odRn anRn : Option Addr} {slRn : Array (Option Value)} {ocRn kVRn dcRn pmRn cdRn ctRn : Value}
    {rsRn : List Value}
    {eN : Value} {dN : Option Addr} {vsN : Array Value} {slcN : Array (Option Value)}
    {eMe : Value} {dMe : Option Addr} {vsMe : Array Value} {slcMe : Array (Option Value)}
    {odI anI : Option Addr} {slI : Array (Option Value)} {ocI dcI pmI cdI ctI : Value}
    {nmU qU : Str} {NU : Addr} {bsU bmU : List Value} {snU : List Str} {subU : List Value} {abU : Bool} {colU : Option Bool} {ddU : Option Addr} {x0U x1U x2U x3U x5U : Option Value}
    {odXU anXU cddXU cldXU : Option Addr} {slXU ccsXU cslXU : Array (Option Value)} {ocXU kVXU dcXU pmXU ctXU cclXU clXU : Value} {vsXU : Array Value} {fileXU : Str} {tfXU : Tok}
    {odNj anNj : Option Addr} {slNj : Array (Option Value)} {ocNj kVNj dcNj pmNj cdNj ctNj : Value}
    {odMj anMj : Option Addr} {slMj : Array (Option Value)} {ocMj kVMj dcMj pmMj cdMj ctMj : Value}
    {odRj anRj : Option Addr} {slRj : Array (Option Value)} {ocRj kVRj dcRj pmRj cdRj ctRj : Value}
    {t_LONGEST_NAME t_LONGEST_DAY t_MOST_PLACES t_MOST_KINDS t_MOST_ROADS t_MOST_MINUTES t_MOST_PAIRS t_MOST_BARS t_NAME t_START t_END t_MINUTES t_KINDS t_HOURS t_PARTS t_ROAD t_PASSED t_ARRIVAL t_BEFORE t_LETTERS t_DIGITS t_NO_ROAD : Tok}
    (aM : PySem.W.nsIn K mainGlobals "Map" = some (some (.ref M)))
    (gU : PySem.W.nsIn K mainGlobals "UnknownName" = some (some (.ref U)))
    (gB : PySem.W.nsIn K mainGlobals "WaypapersError" = some (some (.ref B)))
    (aNm : PySem.W.nsIn K mainGlobals "is_name" = some (some (.ref fNm)))
    (lNm : K.lookup fNm = some ⟨ocNm, odNm, .func (PySem.W.fnOf "is_name" "is_name" (defArgs sIsName) (defBody sIsName) (defScope sIsName) .none kVNm dcNm pmNm anNm (.ref qN) ctNm), slNm⟩)
    (cNm : PySem.W.codeIn K (.ref qN) "is_name" = true)
    (kNm : PySem.W.keepIn K (.ref fNm) = true)
    (aDy : PySem.W.nsIn K mainGlobals "_checked_day" = some (some (.ref fDy)))
    (lDy : K.lookup fDy = some ⟨ocDy, odDy, .func (PySem.W.fnOf "_checked_day" "_checked_day" (defArgs sDay) (defBody sDay) (defScope sDay) .none kVDy dcDy pmDy anDy (cdDy) ctDy), slDy⟩)
    (cDy : PySem.W.codeIn K (cdDy) "_checked_day" = true)
    (kDy : PySem.W.keepIn K (.ref fDy) = true)
    (aNa : PySem.W.nsIn K mainGlobals "_checked_names" = some (some (.ref fNa)))
    (lNa : K.lookup fNa = some ⟨ocNa, odNa, .func (PySem.W.fnOf "_checked_names" "_checked_names" (defArgs sNames) (defBody sNames) (defScope sNames) .none kVNa dcNa pmNa anNa (cdNa) ctNa), slNa⟩)
    (cNa : PySem.W.codeIn K (cdNa) "_checked_names" = true)
    (kNa : PySem.W.keepIn K (.ref fNa) = true)
    (aDf : PySem.W.nsIn K mainGlobals "_check_different" = some (some (.ref fDf)))
    (lDf : K.lookup fDf = some ⟨ocDf, odDf, .func (PySem.W.fnOf "_check_different" "_check_different" (defArgs sDiff) (defBody sDiff) (defScope sDiff) .none kVDf dcDf pmDf anDf (cdDf) ctDf), slDf⟩)
    (cDf : PySem.W.codeIn K (cdDf) "_check_different" = true)
    (kDf : PySem.W.keepIn K (.ref fDf) = true)
    (aRs : PySem.W.nsIn K mainGlobals "_checked_roads" = some (some (.ref fRs)))
    (lRs : K.lookup fRs = some ⟨ocRs, odRs, .func (PySem.W.fnOf "_checked_roads" "_checked_roads" (defArgs sRoads) (defBody sRoads) (defScope sRoads) .none kVRs dcRs pmRs anRs (cdRs) ctRs), slRs⟩)
    (cRs : PySem.W.codeIn K (cdRs) "_checked_roads" = true)
    (kRs : PySem.W.keepIn K (.ref fRs) = true)
    (aRd : PySem.W.nsIn K mainGlobals "_checked_road" = some (some (.ref fRd)))
    (lRd : K.lookup fRd = some ⟨ocRd, odRd, .func (PySem.W.fnOf "_checked_road" "_checked_road" (defArgs sRoad) (defBody sRoad) (defScope sRoad) .none kVRd dcRd pmRd anRd (cdRd) ctRd), slRd⟩)
    (cRd : PySem.W.codeIn K (cdRd) "_checked_road" = true)
    (kRd : PySem.W.keepIn K (.ref fRd) = true)
    (aHr : PySem.W.nsIn K mainGlobals "_checked_hours" = some (some (.ref fHr)))
    (lHr : K.lookup fHr = some ⟨ocHr, odHr, .func (PySem.W.fnOf "_checked_hours" "_checked_hours" (defArgs sHours) (defBody sHours) (defScope sHours) .none kVHr dcHr pmHr anHr (cdHr) ctHr), slHr⟩)
    (cHr : PySem.W.codeIn K (cdHr) "_checked_hours" = true)
    (kHr : PySem.W.keepIn K (.ref fHr) = true)
    (aBr : PySem.W.nsIn K mainGlobals "_checked_bars" = some (some (.ref fBr)))
    (lBr : K.lookup fBr = some ⟨ocBr, odBr, .func (PySem.W.fnOf "_checked_bars" "_checked_bars" (defArgs sBars) (defBody sBars) (defScope sBars) .none kVBr dcBr pmBr anBr (cdBr) ctBr), slBr⟩)
    (cBr : PySem.W.codeIn K (cdBr) "_checked_bars" = true)
    (kBr : PySem.W.keepIn K (.ref fBr) = true)
    (aEn : PySem.W.nsIn K mainGlobals "enter" = some (some (.ref fEn)))
    (lEn : K.lookup fEn = some ⟨ocEn, odEn, .func (PySem.W.fnOf "enter" "enter" (defArgs sEnter) (defBody sEnter) (defScope sEnter) .none kVEn dcEn pmEn anEn (cdEn) ctEn), slEn⟩)
    (cEn : PySem.W.codeIn K (cdEn) "enter" = true)
    (kEn : PySem.W.keepIn K (.ref fEn) = true)
    (aAr : PySem.W.nsIn K mainGlobals "arrive" = some (some (.ref fAr)))
    (lAr : K.lookup fAr = some ⟨ocAr, odAr, .func (PySem.W.fnOf "arrive" "arrive" (defArgs sArrive) (defBody sArrive) (defScope sArrive) .none kVAr dcAr pmAr anAr (cdAr) ctAr), slAr⟩)
    (cAr : PySem.W.codeIn K (cdAr) "arrive" = true)
    (kAr : PySem.W.keepIn K (.ref fAr) = true)
    (aCn : PySem.W.nsIn K mainGlobals "check_names" = some (some (.ref fCn)))
    (lCn : K.lookup fCn = some ⟨ocCn, odCn, .func (PySem.W.fnOf "check_names" "check_names" (defArgs sNamesC) (defBody sNamesC) (defScope sNamesC) .none kVCn dcCn pmCn anCn (cdCn) ctCn), slCn⟩)
    (cCn : PySem.W.codeIn K (cdCn) "check_names" = true)
    (kCn : PySem.W.keepIn K (.ref fCn) = true)
    (aEv : PySem.W.nsIn K mainGlobals "can_ever_enter" = some (some (.ref fEv)))
    (lEv : K.lookup fEv = some ⟨ocEv, odEv, .func (PySem.W.fnOf "can_ever_enter" "can_ever_enter" (defArgs sCanEver) (defBody sCanEver) (defScope sCanEver) .none kVEv dcEv pmEv anEv (cdEv) ctEv), slEv⟩)
    (cEv : PySem.W.codeIn K (cdEv) "can_ever_enter" = true)
    (kEv : PySem.W.keepIn K (.ref fEv) = true)
    (aRb : PySem.W.nsIn K mainGlobals "road_turns" = some (some (.ref fRb)))
    (lRb : K.lookup fRb = some ⟨ocRb, odRb, .func (PySem.W.fnOf "road_turns" "road_turns" (defArgs sRTurns) (defBody sRTurns) (defScope sRTurns) .none kVRb dcRb pmRb anRb (cdRb) ctRb), slRb⟩)
    (cRb : PySem.W.codeIn K (cdRb) "road_turns" = true)
    (kRb : PySem.W.keepIn K (.ref fRb) = true)
    (aTu : PySem.W.nsIn K mainGlobals "turns" = some (some (.ref fTu)))
    (lTu : K.lookup fTu = some ⟨ocTu, odTu, .func (PySem.W.fnOf "turns" "turns" (defArgs sTurns) (defBody sTurns) (defScope sTurns) .none kVTu dcTu pmTu anTu (cdTu) ctTu), slTu⟩)
    (cTu : PySem.W.codeIn K (cdTu) "turns" = true)
    (kTu : PySem.W.keepIn K (.ref fTu) = true)
    (aSe : PySem.W.nsIn K mainGlobals "search" = some (some (.ref fSe)))
    (lSe : K.lookup fSe = some ⟨ocSe, odSe, .func (PySem.W.fnOf "search" "search" (defArgs sSearch) (defBody sSearch) (defScope sSearch) .none kVSe dcSe pmSe anSe (cdSe) ctSe), slSe⟩)
    (cSe : PySem.W.codeIn K (cdSe) "search" = true)
    (kSe : PySem.W.keepIn K (.ref fSe) = true)
    (aPo : PySem.W.nsIn K mainGlobals "place_of" = some (some (.ref fPo)))
    (lPo : K.lookup fPo = some ⟨ocPo, odPo, .func (PySem.W.fnOf "place_of" "place_of" (defArgs sPlaceOf) (defBody sPlaceOf) (defScope sPlaceOf) .none kVPo dcPo pmPo anPo (cdPo) ctPo), slPo⟩)
    (cPo : PySem.W.codeIn K (cdPo) "place_of" = true)
    (kPo : PySem.W.keepIn K (.ref fPo) = true)
    (aEo : PySem.W.nsIn K mainGlobals "earliest_of" = some (some (.ref fEo)))
    (lEo : K.lookup fEo = some ⟨ocEo, odEo, .func (PySem.W.fnOf "earliest_of" "earliest_of" (defArgs sEarlOf) (defBody sEarlOf) (defScope sEarlOf) .none kVEo dcEo pmEo anEo (cdEo) ctEo), slEo⟩)
    (cEo : PySem.W.codeIn K (cdEo) "earliest_of" = true)
    (kEo : PySem.W.keepIn K (.ref fEo) = true)
    (aRo : PySem.W.nsIn K mainGlobals "route_to" = some (some (.ref fRo)))
    (lRo : K.lookup fRo = some ⟨ocRo, odRo, .func (PySem.W.fnOf "route_to" "route_to" (defArgs sRouteTo) (defBody sRouteTo) (defScope sRouteTo) .none kVRo dcRo pmRo anRo (cdRo) ctRo), slRo⟩)
    (cRo : PySem.W.codeIn K (cdRo) "route_to" = true)
    (kRo : PySem.W.keepIn K (.ref fRo) = true)
    (aEa : PySem.W.nsIn K mainGlobals "earliest" = some (some (.ref fEa)))
    (lEa : K.lookup fEa = some ⟨ocEa, odEa, .func (PySem.W.fnOf "earliest" "earliest" (defArgs sEarliest) (defBody sEarliest) (defScope sEarliest) .none kVEa dcEa pmEa anEa (cdEa) ctEa), slEa⟩)
    (cEa : PySem.W.codeIn K (cdEa) "earliest" = true)
    (kEa : PySem.W.keepIn K (.ref fEa) = true)
    (aLb : PySem.W.nsIn K mainGlobals "labels" = some (some (.ref fLb)))
    (lLb : K.lookup fLb = some ⟨ocLb, odLb, .func (PySem.W.fnOf "labels" "labels" (defArgs sLabels) (defBody sLabels) (defScope sLabels) .none kVLb dcLb pmLb anLb (cdLb) ctLb), slLb⟩)
    (cLb : PySem.W.codeIn K (cdLb) "labels" = true)
    (kLb : PySem.W.keepIn K (.ref fLb) = true)
    (aPf : PySem.W.nsIn K mainGlobals "places_from" = some (some (.ref fPf)))
    (lPf : K.lookup fPf = some ⟨ocPf, odPf, .func (PySem.W.fnOf "places_from" "places_from" (defArgs sPlaces) (defBody sPlaces) (defScope sPlaces) .none kVPf dcPf pmPf anPf (cdPf) ctPf), slPf⟩)
    (cPf : PySem.W.codeIn K (cdPf) "places_from" = true)
    (kPf : PySem.W.keepIn K (.ref fPf) = true)
    (aCm : PySem.W.nsIn K mainGlobals "_common_places" = some (some (.ref fCm)))
    (lCm : K.lookup fCm = some ⟨ocCm, odCm, .func (PySem.W.fnOf "_common_places" "_common_places" (defArgs sCommon) (defBody sCommon) (defScope sCommon) .none kVCm dcCm pmCm anCm (cdCm) ctCm), slCm⟩)
    (cCm : PySem.W.codeIn K (cdCm) "_common_places" = true)
    (kCm : PySem.W.keepIn K (.ref fCm) = true)
    (aRq : PySem.W.nsIn K mainGlobals "_route_to" = some (some (.ref fRq)))
    (lRq : K.lookup fRq = some ⟨ocRq, odRq, .func (PySem.W.fnOf "_route_to" "_route_to" (defArgs sRoTo) (defBody sRoTo) (defScope sRoTo) .none kVRq dcRq pmRq anRq (cdRq) ctRq), slRq⟩)
    (cRq : PySem.W.codeIn K (cdRq) "_route_to" = true)
    (kRq : PySem.W.keepIn K (.ref fRq) = true)
    (aMe : PySem.W.nsIn K mainGlobals "meeting" = some (some (.ref fMe)))
    (lMe : K.lookup fMe = some ⟨ocMe, odMe, .func (PySem.W.fnOf "meeting" "meeting" (defArgs sMeet) (defBody sMeet) (defScope sMeet) .none kVMe dcMe pmMe anMe (.ref qMe) ctMe), slMe⟩)
    (cMe : PySem.W.codeIn K (.ref qMe) "meeting" = true)
    (kMe : PySem.W.keepIn K (.ref fMe) = true)
    (aRy : PySem.W.nsIn K mainGlobals "relay" = some (some (.ref fRy)))
    (lRy : K.lookup fRy = some ⟨ocRy, odRy, .func (PySem.W.fnOf "relay" "relay" (defArgs sRelay) (defBody sRelay) (defScope sRelay) .none kVRy dcRy pmRy anRy (cdRy) ctRy), slRy⟩)
    (cRy : PySem.W.codeIn K (cdRy) "relay" = true)
    (kRy : PySem.W.keepIn K (.ref fRy) = true)
    (aRw : PySem.W.nsIn K mainGlobals "_law_row" = some (some (.ref fRw)))
    (lRw : K.lookup fRw = some ⟨ocRw, odRw, .func (PySem.W.fnOf "_law_row" "_law_row" (defArgs sRow) (defBody sRow) (defScope sRow) .none kVRw dcRw pmRw anRw (cdRw) ctRw), slRw⟩)
    (cRw : PySem.W.codeIn K (cdRw) "_law_row" = true)
    (kRw : PySem.W.keepIn K (.ref fRw) = true)
    (aNu : PySem.W.nsIn K mainGlobals "_law_numbers" = some (some (.ref fNu)))
    (lNu : K.lookup fNu = some ⟨ocNu, odNu, .func (PySem.W.fnOf "_law_numbers" "_law_numbers" (defArgs sNumbers) (defBody sNumbers) (defScope sNumbers) .none kVNu dcNu pmNu anNu (cdNu) ctNu), slNu⟩)
    (cNu : PySem.W.codeIn K (cdNu) "_law_numbers" = true)
    (kNu : PySem.W.keepIn K (.ref fNu) = true)
    (aLn : PySem.W.nsIn K mainGlobals "_law_names" = some (some (.ref fLn)))
    (lLn : K.lookup fLn = some ⟨ocLn, odLn, .func (PySem.W.fnOf "_law_names" "_law_names" (defArgs sLNames) (defBody sLNames) (defScope sLNames) .none kVLn dcLn pmLn anLn (cdLn) ctLn), slLn⟩)
    (cLn : PySem.W.codeIn K (cdLn) "_law_names" = true)
    (kLn : PySem.W.keepIn K (.ref fLn) = true)
    (aSo : PySem.W.nsIn K mainGlobals "_law_some" = some (some (.ref fSo)))
    (lSo : K.lookup fSo = some ⟨ocSo, odSo, .func (PySem.W.fnOf "_law_some" "_law_some" (defArgs sLSome) (defBody sLSome) (defScope sLSome) .none kVSo dcSo pmSo anSo (cdSo) ctSo), slSo⟩)
    (cSo : PySem.W.codeIn K (cdSo) "_law_some" = true)
    (kSo : PySem.W.keepIn K (.ref fSo) = true)
    (aLh : PySem.W.nsIn K mainGlobals "_law_hours" = some (some (.ref fLh)))
    (lLh : K.lookup fLh = some ⟨ocLh, odLh, .func (PySem.W.fnOf "_law_hours" "_law_hours" (defArgs sLHours) (defBody sLHours) (defScope sLHours) .none kVLh dcLh pmLh anLh (cdLh) ctLh), slLh⟩)
    (cLh : PySem.W.codeIn K (cdLh) "_law_hours" = true)
    (kLh : PySem.W.keepIn K (.ref fLh) = true)
    (aMp : PySem.W.nsIn K mainGlobals "_law_map" = some (some (.ref fMp)))
    (lMp : K.lookup fMp = some ⟨ocMp, odMp, .func (PySem.W.fnOf "_law_map" "_law_map" (defArgs sLMap) (defBody sLMap) (defScope sLMap) .none kVMp dcMp pmMp anMp (cdMp) ctMp), slMp⟩)
    (cMp : PySem.W.codeIn K (cdMp) "_law_map" = true)
    (kMp : PySem.W.keepIn K (.ref fMp) = true)
    (aMd : PySem.W.nsIn K mainGlobals "_law_made" = some (some (.ref fMd)))
    (lMd : K.lookup fMd = some ⟨ocMd, odMd, .func (PySem.W.fnOf "_law_made" "_law_made" (defArgs sLMade) (defBody sLMade) (defScope sLMade) .none kVMd dcMd pmMd anMd (cdMd) ctMd), slMd⟩)
    (cMd : PySem.W.codeIn K (cdMd) "_law_made" = true)
    (kMd : PySem.W.keepIn K (.ref fMd) = true)
    (aLt : PySem.W.nsIn K mainGlobals "_law_trip" = some (some (.ref fLt)))
    (lLt : K.lookup fLt = some ⟨ocLt, odLt, .func (PySem.W.fnOf "_law_trip" "_law_trip" (defArgs sLTrip) (defBody sLTrip) (defScope sLTrip) .none kVLt dcLt pmLt anLt (cdLt) ctLt), slLt⟩)
    (cLt : PySem.W.codeIn K (cdLt) "_law_trip" = true)
    (kLt : PySem.W.keepIn K (.ref fLt) = true)
    (aSn : PySem.W.nsIn K mainGlobals "_law_soon" = some (some (.ref fSn)))
    (lSn : K.lookup fSn = some ⟨ocSn, odSn, .func (PySem.W.fnOf "_law_soon" "_law_soon" (defArgs sSoon) (defBody sSoon) (defScope sSoon) .none kVSn dcSn pmSn anSn (cdSn) ctSn), slSn⟩)
    (cSn : PySem.W.codeIn K (cdSn) "_law_soon" = true)
    (kSn : PySem.W.keepIn K (.ref fSn) = true)
    (aLx : PySem.W.nsIn K mainGlobals "_law_road" = some (some (.ref fLx)))
    (lLx : K.lookup fLx = some ⟨ocLx, odLx, .func (PySem.W.fnOf "_law_road" "_law_road" (defArgs sLRoad) (defBody sLRoad) (defScope sLRoad) .none kVLx dcLx pmLx anLx (cdLx) ctLx), slLx⟩)
    (cLx : PySem.W.codeIn K (cdLx) "_law_road" = true)
    (kLx : PySem.W.keepIn K (.ref fLx) = true)
    (aLm : PySem.W.nsIn K mainGlobals "_law_may" = some (some (.ref fLm)))
    (lLm : K.lookup fLm = some ⟨ocLm, odLm, .func (PySem.W.fnOf "_law_may" "_law_may" (defArgs sLMay) (defBody sLMay) (defScope sLMay) .none kVLm dcLm pmLm anLm (cdLm) ctLm), slLm⟩)
    (cLm : PySem.W.codeIn K (cdLm) "_law_may" = true)
    (kLm : PySem.W.keepIn K (.ref fLm) = true)
    (aLi : PySem.W.nsIn K mainGlobals "_law_ride" = some (some (.ref fLi)))
    (lLi : K.lookup fLi = some ⟨ocLi, odLi, .func (PySem.W.fnOf "_law_ride" "_law_ride" (defArgs sLRide) (defBody sLRide) (defScope sLRide) .none kVLi dcLi pmLi anLi (cdLi) ctLi), slLi⟩)
    (cLi : PySem.W.codeIn K (cdLi) "_law_ride" = true)
    (kLi : PySem.W.keepIn K (.ref fLi) = true)
    (aWk : PySem.W.nsIn K mainGlobals "_law_walk" = some (some (.ref fWk)))
    (lWk : K.lookup fWk = some ⟨ocWk, odWk, .func (PySem.W.fnOf "_law_walk" "_law_walk" (defArgs sLWalk) (defBody sLWalk) (defScope sLWalk) .none kVWk dcWk pmWk anWk (cdWk) ctWk), slWk⟩)
    (cWk : PySem.W.codeIn K (cdWk) "_law_walk" = true)
    (kWk : PySem.W.keepIn K (.ref fWk) = true)
    (aPl : PySem.W.nsIn K mainGlobals "_law_places" = some (some (.ref fPl)))
    (lPl : K.lookup fPl = some ⟨ocPl, odPl, .func (PySem.W.fnOf "_law_places" "_law_places" (defArgs sLPlaces) (defBody sLPlaces) (defScope sLPlaces) .none kVPl dcPl pmPl anPl (cdPl) ctPl), slPl⟩)
    (cPl : PySem.W.codeIn K (cdPl) "_law_places" = true)
    (kPl : PySem.W.keepIn K (.ref fPl) = true)
    (aTr : PySem.W.nsIn K mainGlobals "_law_trips" = some (some (.ref fTr)))
    (lTr : K.lookup fTr = some ⟨ocTr, odTr, .func (PySem.W.fnOf "_law_trips" "_law_trips" (defArgs sLTrips) (defBody sLTrips) (defScope sLTrips) .none kVTr dcTr pmTr anTr (cdTr) ctTr), slTr⟩)
    (cTr : PySem.W.codeIn K (cdTr) "_law_trips" = true)
    (kTr : PySem.W.keepIn K (.ref fTr) = true)
    (aLw : PySem.W.nsIn K mainGlobals "law" = some (some (.ref fLw)))
    (lLw : K.lookup fLw = some ⟨ocLw, odLw, .func (PySem.W.fnOf "law" "law" (defArgs sLaw) (defBody sLaw) (defScope sLaw) .none kVLw dcLw pmLw anLw (cdLw) ctLw), slLw⟩)
    (cLw : PySem.W.codeIn K (cdLw) "law" = true)
    (kLw : PySem.W.keepIn K (.ref fLw) = true)
    (aRm : PySem.W.findIn K (.ref M) "road" = some (some (.ref fRm)))
    (iRm : PySem.W.isFn K (.ref fRm) = true)
    (lRm : K.lookup fRm = some ⟨ocRm, odRm, .func (PySem.W.fnOf "road" "Map.road" (defArgs sRoadM) (defBody sRoadM) (defScope sRoadM) .none kVRm dcRm pmRm anRm (cdRm) ctRm), slRm⟩)
    (cRm : PySem.W.codeIn K (cdRm) "Map.road" = true)
    (kRm : PySem.W.keepIn K (.ref fRm) = true)
    (aCk : PySem.W.findIn K (.ref M) "check_road" = some (some (.ref fCk)))
    (iCk : PySem.W.isFn K (.ref fCk) = true)
    (lCk : K.lookup fCk = some ⟨ocCk, odCk, .func (PySem.W.fnOf "check_road" "Map.check_road" (defArgs sCheck) (defBody sCheck) (defScope sCheck) .none kVCk dcCk pmCk anCk (cdCk) ctCk), slCk⟩)
    (cCk : PySem.W.codeIn K (cdCk) "Map.check_road" = true)
    (kCk : PySem.W.keepIn K (.ref fCk) = true)
    (aCp : PySem.W.findIn K (.ref M) "check_place" = some (some (.ref fCp)))
    (iCp : PySem.W.isFn K (.ref fCp) = true)
    (lCp : K.lookup fCp = some ⟨ocCp, odCp, .func (PySem.W.fnOf "check_place" "Map.check_place" (defArgs sCheckP) (defBody sCheckP) (defScope sCheckP) .none kVCp dcCp pmCp anCp (cdCp) ctCp), slCp⟩)
    (cCp : PySem.W.codeIn K (cdCp) "Map.check_place" = true)
    (kCp : PySem.W.keepIn K (.ref fCp) = true)
    (aCi : PySem.W.findIn K (.ref M) "check_kind" = some (some (.ref fCi)))
    (iCi : PySem.W.isFn K (.ref fCi) = true)
    (lCi : K.lookup fCi = some ⟨ocCi, odCi, .func (PySem.W.fnOf "check_kind" "Map.check_kind" (defArgs sCheckK) (defBody sCheckK) (defScope sCheckK) .none kVCi dcCi pmCi anCi (cdCi) ctCi), slCi⟩)
    (cCi : PySem.W.codeIn K (cdCi) "Map.check_kind" = true)
    (kCi : PySem.W.keepIn K (.ref fCi) = true)
    (aRf : PySem.W.findIn K (.ref M) "roads_from" = some (some (.ref fRf)))
    (iRf : PySem.W.isFn K (.ref fRf) = true)
    (lRf : K.lookup fRf = some ⟨ocRf, odRf, .func (PySem.W.fnOf "roads_from" "Map.roads_from" (defArgs sRFrom) (defBody sRFrom) (defScope sRFrom) .none kVRf dcRf pmRf anRf (cdRf) ctRf), slRf⟩)
    (cRf : PySem.W.codeIn K (cdRf) "Map.roads_from" = true)
    (kRf : PySem.W.keepIn K (.ref fRf) = true)
    (aFo : PySem.W.findIn K (.ref M) "followers" = some (some (.ref fFo)))
    (iFo : PySem.W.isFn K (.ref fFo) = true)
    (lFo : K.lookup fFo = some ⟨ocFo, odFo, .func (PySem.W.fnOf "followers" "Map.followers" (defArgs sFoll) (defBody sFoll) (defScope sFoll) .none kVFo dcFo pmFo anFo (cdFo) ctFo), slFo⟩)
    (cFo : PySem.W.codeIn K (cdFo) "Map.followers" = true)
    (kFo : PySem.W.keepIn K (.ref fFo) = true)
    (aMu : PySem.W.findIn K (.ref M) "may_use" = some (some (.ref fMu)))
    (iMu : PySem.W.isFn K (.ref fMu) = true)
    (lMu : K.lookup fMu = some ⟨ocMu, odMu, .func (PySem.W.fnOf "may_use" "Map.may_use" (defArgs sMayU) (defBody sMayU) (defScope sMayU) .none kVMu dcMu pmMu anMu (cdMu) ctMu), slMu⟩)
    (cMu : PySem.W.codeIn K (cdMu) "Map.may_use" = true)
    (kMu : PySem.W.keepIn K (.ref fMu) = true)
    (aRn : PySem.W.findIn K (.ref M) "road_names" = some (some (.ref ppRn)))
    (pgRn : PySem.W.specialIn K (.ref ppRn) "__get__" = some (some (.builtin "property.__get__")))
    (tkRn : PySem.W.takesIn K (.ref ppRn) = some true)
    (rcRn : PySem.W.recIn K ppRn "property" = some (.ref fRn :: rsRn))
    (lRn : K.lookup fRn = some ⟨ocRn, odRn, .func (PySem.W.fnOf "road_names" "Map.road_names" (defArgs sRNames) (defBody sRNames) (defScope sRNames) .none kVRn dcRn pmRn anRn (cdRn) ctRn), slRn⟩)
    (cRn : PySem.W.codeIn K (cdRn) "Map.road_names" = true)
    (kRn : PySem.W.keepIn K (.ref fRn) = true)
    (lcN : K.lookup qN = some ⟨eN, dN, .fields vsN, slcN⟩)
    (v11 : vsN[11]? = some (.ref P))
    (hcN : PySem.W.codeHdIn K qN P = true)
    (nP : K.lookup P = none)
    (lcMe : K.lookup qMe = some ⟨eMe, dMe, .fields vsMe, slcMe⟩)
    (v11Me : vsMe[11]? = some (.ref PMe))
    (hcMe : PySem.W.codeHdIn K qMe PMe = true)
    (nPMe : K.lookup PMe = none)
    (ne_Me_Nm : PMe ≠ P)
    (aI : PySem.W.findIn K (.ref M) "__init__" = some (some (.ref fI)))
    (iI : PySem.W.isFn K (.ref fI) = true)
    (lI : K.lookup fI = some ⟨ocI, odI, .func (PySem.W.fnOf "__init__" "Map.__init__" (defArgs sInit) (defBody sInit) (defScope sInit) .none (.ref D0) dcI pmI anI cdI ctI), slI⟩)
    (cI : PySem.W.codeIn K cdI "Map.__init__" = true)
    (kI : PySem.W.keepIn K (.ref fI) = true)
    (d_places : PySem.W.nsIn K D0 "places" = some (some (.ref T1)))
    (d_roads : PySem.W.nsIn K D0 "roads" = some (some (.ref T2)))
    (d_bars : PySem.W.nsIn K D0 "bars" = some (some (.ref T0)))
    (pg : PySem.W.plainGet K M Str.empty = true)
    (hd : PySem.W.hasDictIn K M = true)
    (po : PySem.W.plainOver K M = true)
    (sa : PySem.W.findIn K (.ref M) "__setattr__" = some (some (.builtin "object.__setattr__")))
    (mk : PySem.W.makesIn K M = true)
    (kM : PySem.W.keepIn K (.ref M) = true)
    (n_day : PySem.W.findIn K (.ref M) "day" = some none)
    (n_kinds : PySem.W.findIn K (.ref M) "kinds" = some none)
    (n_places : PySem.W.findIn K (.ref M) "places" = some none)
    (n_roads : PySem.W.findIn K (.ref M) "roads" = some none)
    (n__roads_by_name : PySem.W.findIn K (.ref M) "_roads_by_name" = some none)
    (n_bars : PySem.W.findIn K (.ref M) "bars" = some none)
    (n__barred : PySem.W.findIn K (.ref M) "_barred" = some none)
    (snU1 : PySem.W.specialIn K (.builtin "object.__class__") "__get__" = some (some (.builtin "getset_descriptor.__get__")))
    (tkU : PySem.W.takesIn K (.builtin "object.__class__") = some true)
    (opU : PySem.W.nsIn K cStatics "thirdparty.any" = some none)
    (toX : (l.prog.main.scope.names.lookup ("super" : Str)).isSome = false)
    (lU : K.lookup U = some (excClassObj nmU qU U NU bsU bmU true snU subU abU colU ddU x0U x1U x2U x3U x5U "ValueError.__new__"))
    (rvU : PySem.HandSPX.refsVE bmU = true)
    (saU : PySem.W.findIn K (.ref U) "__setattr__" = some (some (.builtin "object.__setattr__")))
    (bU : PySem.W.subIn K (.ref U) (.type "BaseException") = some true)
    (tU : PySem.W.typeIn K (.ref U) = some (.type "type"))
    (kU : PySem.W.keepIn K (.ref U) = true)
    (iU : PySem.W.isClsIn K U = true)
    (sU : PySem.W.subIn K (.ref U) (.ref U) = some true)
    (xU : xfB K U = true)
    (clU : (PySem.W.clsIn K U).isSome = true)
    (gaU : PySem.W.findIn K (.ref U) "__getattribute__" = some (some (.builtin "BaseException.__getattribute__")))
    (ggU : PySem.W.findIn K (.ref U) "__getattr__" = some none)
    (ccU : PySem.W.findIn K (.ref U) "__class__" = some (some (.builtin "object.__class__")))
    (moU : PySem.W.mroIn K U (.type "object") = some true)
    (muU : PySem.W.mroIn K U (.ref U) = some true)
    (suU : PySem.W.ks_superIn K U U "__init__" = some (some (.builtin "ValueError.__init__")))
    (svU : PySem.W.subIn K (.ref U) (.type "ValueError") = some true)
    (nnU : PySem.W.findIn K (.ref U) "name" = some none)
    (aXU : PySem.W.findIn K (.ref U) "__init__" = some (some (.ref fXU)))
    (tXU : PySem.W.typeIn K (.ref fXU) = some (.type "function"))
    (lXU : K.lookup fXU = some ⟨ocXU, odXU, .func (fdU .none kVXU dcXU pmXU anXU cdaXU ctXU ccXU), slXU⟩)
    (cXU : PySem.W.codeIn K (.ref cdaXU) "UnknownName.__init__" = true)
    (coXU : K.lookup cdaXU = some ⟨cclXU, cddXU, .fields vsXU, ccsXU⟩)
    (v2XU : vsXU[2]? = some (.str fileXU tfXU))
    (fiXU : ((l.prog.main.file : Str) == fileXU) = true)
    (ceXU : K.lookup ccXU = some ⟨clXU, cldXU, .cell (some (.ref U)), cslXU⟩)
    (aRl : PySem.W.nsIn K mainGlobals "Relay" = some (some (.ref Rl)))
    (aNj : PySem.W.findIn K (.ref Rl) "__init__" = some (some (.ref fNj)))
    (iNj : PySem.W.isFn K (.ref fNj) = true)
    (lNj : K.lookup fNj = some ⟨ocNj, odNj, .func (PySem.W.fnOf "__init__" "Relay.__init__" (defArgs sRlInit) (defBody sRlInit) (defScope sRlInit) .none kVNj dcNj pmNj anNj (cdNj) ctNj), slNj⟩)
    (cNj : PySem.W.codeIn K (cdNj) "Relay.__init__" = true)
    (kNj : PySem.W.keepIn K (.ref fNj) = true)
    (pgRl : PySem.W.plainGet K Rl Str.empty = true)
    (hdRl : PySem.W.hasDictIn K Rl = true)
    (poRl : PySem.W.plainOver K Rl = true)
    (saRl : PySem.W.findIn K (.ref Rl) "__setattr__" = some (some (.builtin "object.__setattr__")))
    (mkRl : PySem.W.makesIn K Rl = true)
    (kpRl : PySem.W.keepIn K (.ref Rl) = true)
    (nRl_place : PySem.W.findIn K (.ref Rl) "place" = some none)
    (nRl_handed : PySem.W.findIn K (.ref Rl) "handed" = some none)
    (nRl_routes : PySem.W.findIn K (.ref Rl) "routes" = some none)
    (nRl_arrival : PySem.W.findIn K (.ref Rl) "arrival" = some none)
    (aMt : PySem.W.nsIn K mainGlobals "Meeting" = some (some (.ref Mt)))
    (aMj : PySem.W.findIn K (.ref Mt) "__init__" = some (some (.ref fMj)))
    (iMj : PySem.W.isFn K (.ref fMj) = true)
    (lMj : K.lookup fMj = some ⟨ocMj, odMj, .func (PySem.W.fnOf "__init__" "Meeting.__init__" (defArgs sMtInit) (defBody sMtInit) (defScope sMtInit) .none kVMj dcMj pmMj anMj (cdMj) ctMj), slMj⟩)
    (cMj : PySem.W.codeIn K (cdMj) "Meeting.__init__" = true)
    (kMj : PySem.W.keepIn K (.ref fMj) = true)
    (pgMt : PySem.W.plainGet K Mt Str.empty = true)
    (hdMt : PySem.W.hasDictIn K Mt = true)
    (poMt : PySem.W.plainOver K Mt = true)
    (saMt : PySem.W.findIn K (.ref Mt) "__setattr__" = some (some (.builtin "object.__setattr__")))
    (mkMt : PySem.W.makesIn K Mt = true)
    (kpMt : PySem.W.keepIn K (.ref Mt) = true)
    (nMt_place : PySem.W.findIn K (.ref Mt) "place" = some none)
    (nMt_moment : PySem.W.findIn K (.ref Mt) "moment" = some none)
    (nMt_routes : PySem.W.findIn K (.ref Mt) "routes" = some none)
    (aRt : PySem.W.nsIn K mainGlobals "Route" = some (some (.ref Rt)))
    (aRj : PySem.W.findIn K (.ref Rt) "__init__" = some (some (.ref fRj)))
    (iRj : PySem.W.isFn K (.ref fRj) = true)
    (lRj : K.lookup fRj = some ⟨ocRj, odRj, .func (PySem.W.fnOf "__init__" "Route.__init__" (defArgs sRInit) (defBody sRInit) (defScope sRInit) .none kVRj dcRj pmRj anRj (cdRj) ctRj), slRj⟩)
    (cRj : PySem.W.codeIn K (cdRj) "Route.__init__" = true)
    (kRj : PySem.W.keepIn K (.ref fRj) = true)
    (pgRt : PySem.W.plainGet K Rt Str.empty = true)
    (hdRt : PySem.W.hasDictIn K Rt = true)
    (poRt : PySem.W.plainOver K Rt = true)
    (saRt : PySem.W.findIn K (.ref Rt) "__setattr__" = some (some (.builtin "object.__setattr__")))
    (mkRt : PySem.W.makesIn K Rt = true)
    (kpRt : PySem.W.keepIn K (.ref Rt) = true)
    (nRt_roads : PySem.W.findIn K (.ref Rt) "roads" = some none)
    (nRt_arrival : PySem.W.findIn K (.ref Rt) "arrival" = some none)
    (g_LONGEST_NAME : PySem.W.nsIn K mainGlobals "LONGEST_NAME" = some (some (.int 12 t_LONGEST_NAME)))
    (g_LONGEST_DAY : PySem.W.nsIn K mainGlobals "LONGEST_DAY" = some (some (.int 1440 t_LONGEST_DAY)))
    (g_MOST_PLACES : PySem.W.nsIn K mainGlobals "MOST_PLACES" = some (some (.int 30 t_MOST_PLACES)))
    (g_MOST_KINDS : PySem.W.nsIn K mainGlobals "MOST_KINDS" = some (some (.int 4 t_MOST_KINDS)))
    (g_MOST_ROADS : PySem.W.nsIn K mainGlobals "MOST_ROADS" = some (some (.int 60 t_MOST_ROADS)))
    (g_MOST_MINUTES : PySem.W.nsIn K mainGlobals "MOST_MINUTES" = some (some (.int 1000 t_MOST_MINUTES)))
    (g_MOST_PAIRS : PySem.W.nsIn K mainGlobals "MOST_PAIRS" = some (some (.int 4 t_MOST_PAIRS)))
    (g_MOST_BARS : PySem.W.nsIn K mainGlobals "MOST_BARS" = some (some (.int 40 t_MOST_BARS)))
    (g_NAME : PySem.W.nsIn K mainGlobals "NAME" = some (some (.int 0 t_NAME)))
    (g_START : PySem.W.nsIn K mainGlobals "START" = some (some (.int 1 t_START)))
    (g_END : PySem.W.nsIn K mainGlobals "END" = some (some (.int 2 t_END)))
    (g_MINUTES : PySem.W.nsIn K mainGlobals "MINUTES" = some (some (.int 3 t_MINUTES)))
    (g_KINDS : PySem.W.nsIn K mainGlobals "KINDS" = some (some (.int 4 t_KINDS)))
    (g_HOURS : PySem.W.nsIn K mainGlobals "HOURS" = some (some (.int 5 t_HOURS)))
    (g_PARTS : PySem.W.nsIn K mainGlobals "PARTS" = some (some (.int 6 t_PARTS)))
    (g_ROAD : PySem.W.nsIn K mainGlobals "ROAD" = some (some (.int 0 t_ROAD)))
    (g_PASSED : PySem.W.nsIn K mainGlobals "PASSED" = some (some (.int 1 t_PASSED)))
    (g_ARRIVAL : PySem.W.nsIn K mainGlobals "ARRIVAL" = some (some (.int 0 t_ARRIVAL)))
    (g_BEFORE : PySem.W.nsIn K mainGlobals "BEFORE" = some (some (.int 1 t_BEFORE)))
    (g_LETTERS : PySem.W.nsIn K mainGlobals "LETTERS" = some (some (.str zLet t_LETTERS)))
    (g_DIGITS : PySem.W.nsIn K mainGlobals "DIGITS" = some (some (.str zDig t_DIGITS)))
    (g_NO_ROAD : PySem.W.nsIn K mainGlobals "NO_ROAD" = some (some (.str Str.empty t_NO_ROAD)))
    (g_heappop : PySem.W.nsIn K mainGlobals "heappop" = some (some (.builtin "_heapq.heappop")))
    (g_heappush : PySem.W.nsIn K mainGlobals "heappush" = some (some (.builtin "_heapq.heappush")))
    (z_len : PySem.W.nsIn K mainGlobals "len" = some none)
    (z_all : PySem.W.nsIn K mainGlobals "all" = some none)
    (z_set : PySem.W.nsIn K mainGlobals "set" = some none)
    (z_tuple : PySem.W.nsIn K mainGlobals "tuple" = some none)
    (z_sorted : PySem.W.nsIn K mainGlobals "sorted" = some none)
    (z_abs : PySem.W.nsIn K mainGlobals "abs" = some none)
    (z_int : PySem.W.nsIn K mainGlobals "int" = some none)
    (z_range : PySem.W.nsIn K mainGlobals "range" = some none)
    (z_max : PySem.W.nsIn K mainGlobals "max" = some none)
    (z_min : PySem.W.nsIn K mainGlobals "min" = some none)
    (z_list : PySem.W.nsIn K mainGlobals "list" = some none)
    (z_super : PySem.W.nsIn K mainGlobals "super" = some none)
    (z_dict : PySem.W.nsIn K mainGlobals "dict" = some none) :
    LawL l w K (L2.CX l.prog w) 63 mg fa h := by
  have e := hfa.symm.trans (PySem.W.mg_of X G aLw)
  cases e
  have FNm := fun_mk (st := sIsName) lNm cNm kNm
  have bNm := FNm.binds (ps := ["text"]) fun _ _ _ _ _ _ us hl => match us, hl with | [_], _ => rfl
  have mNm := PySem.W.mg_of X G aNm
  have FDy := fun_mk (st := sDay) lDy cDy kDy
  have bDy := FDy.binds (ps := ["day"]) fun _ _ _ _ _ _ us hl => match us, hl with | [_], _ => rfl
  have mDy := PySem.W.mg_of X G aDy
  have FNa := fun_mk (st := sNames) lNa cNa kNa
  have bNa := FNa.binds (ps := ["names", "least", "most"]) fun _ _ _ _ _ _ us hl => match us, hl with | [_, _, _], _ => rfl
  have mNa := PySem.W.mg_of X G aNa
  have FDf := fun_mk (st := sDiff) lDf cDf kDf
  have bDf := FDf.binds (ps := ["parts"]) fun _ _ _ _ _ _ us hl => match us, hl with | [_], _ => rfl
  have mDf := PySem.W.mg_of X G aDf
  have FRs := fun_mk (st := sRoads) lRs cRs kRs
  have bRs := FRs.binds (ps := ["roads", "day", "places", "kinds"]) fun _ _ _ _ _ _ us hl => match us, hl with | [_, _, _, _], _ => rfl
  have mRs := PySem.W.mg_of X G aRs
  have FRd := fun_mk (st := sRoad) lRd cRd kRd
  have bRd := FRd.binds (ps := ["road", "day", "places", "kinds"]) fun _ _ _ _ _ _ us hl => match us, hl with | [_, _, _, _], _ => rfl
  have mRd := PySem.W.mg_of X G aRd
  have FHr := fun_mk (st := sHours) lHr cHr kHr
  have bHr := FHr.binds (ps := ["hours", "day"]) fun _ _ _ _ _ _ us hl => match us, hl with | [_, _], _ => rfl
  have mHr := PySem.W.mg_of X G aHr
  have FBr := fun_mk (st := sBars) lBr cBr kBr
  have bBr := FBr.binds (ps := ["bars", "roads_by_name"]) fun _ _ _ _ _ _ us hl => match us, hl with | [_, _], _ => rfl
  have mBr := PySem.W.mg_of X G aBr
  have FEn := fun_mk (st := sEnter) lEn cEn kEn
  have bEn := FEn.binds (ps := ["chart", "name", "moment"]) fun _ _ _ _ _ _ us hl => match us, hl with | [_, _, _], _ => rfl
  have mEn := PySem.W.mg_of X G aEn
  have FAr := fun_mk (st := sArrive) lAr cAr kAr
  have bAr := FAr.binds (ps := ["chart", "name", "moment"]) fun _ _ _ _ _ _ us hl => match us, hl with | [_, _, _], _ => rfl
  have mAr := PySem.W.mg_of X G aAr
  have FCn := fun_mk (st := sNamesC) lCn cCn kCn
  have bCn := FCn.binds (ps := ["chart", "kind", "places", "roads"]) fun _ _ _ _ _ _ us hl => match us, hl with | [_, _, _, _], _ => rfl
  have mCn := PySem.W.mg_of X G aCn
  have FEv := fun_mk (st := sCanEver) lEv cEv kEv
  have bEv := FEv.binds (ps := ["chart", "kind", "name"]) fun _ _ _ _ _ _ us hl => match us, hl with | [_, _, _], _ => rfl
  have mEv := PySem.W.mg_of X G aEv
  have FRb := fun_mk (st := sRTurns) lRb cRb kRb
  have bRb := FRb.binds (ps := ["chart", "kind"]) fun _ _ _ _ _ _ us hl => match us, hl with | [_, _], _ => rfl
  have mRb := PySem.W.mg_of X G aRb
  have FTu := fun_mk (st := sTurns) lTu cTu kTu
  have bTu := FTu.binds (ps := ["chart", "kind", "start"]) fun _ _ _ _ _ _ us hl => match us, hl with | [_, _, _], _ => rfl
  have mTu := PySem.W.mg_of X G aTu
  have FSe := fun_mk (st := sSearch) lSe cSe kSe
  have bSe := FSe.binds (ps := ["chart", "kind", "start", "moment", "marks"]) fun _ _ _ _ _ _ us hl => match us, hl with | [_, _, _, _, _], _ => rfl
  have mSe := PySem.W.mg_of X G aSe
  have FPo := fun_mk (st := sPlaceOf) lPo cPo kPo
  have bPo := FPo.binds (ps := ["chart", "start", "state"]) fun _ _ _ _ _ _ us hl => match us, hl with | [_, _, _], _ => rfl
  have mPo := PySem.W.mg_of X G aPo
  have FEo := fun_mk (st := sEarlOf) lEo cEo kEo
  have bEo := FEo.binds (ps := ["came", "states"]) fun _ _ _ _ _ _ us hl => match us, hl with | [_, _], _ => rfl
  have mEo := PySem.W.mg_of X G aEo
  have FRo := fun_mk (st := sRouteTo) lRo cRo kRo
  have bRo := FRo.binds (ps := ["came", "state"]) fun _ _ _ _ _ _ us hl => match us, hl with | [_, _], _ => rfl
  have mRo := PySem.W.mg_of X G aRo
  have FEa := fun_mk (st := sEarliest) lEa cEa kEa
  have bEa := FEa.binds (ps := ["chart", "kind", "start", "goal", "moment"]) fun _ _ _ _ _ _ us hl => match us, hl with | [_, _, _, _, _], _ => rfl
  have mEa := PySem.W.mg_of X G aEa
  have FLb := fun_mk (st := sLabels) lLb cLb kLb
  have bLb := FLb.binds (ps := ["chart", "kind", "start", "moment"]) fun _ _ _ _ _ _ us hl => match us, hl with | [_, _, _, _], _ => rfl
  have mLb := PySem.W.mg_of X G aLb
  have FPf := fun_mk (st := sPlaces) lPf cPf kPf
  have bPf := FPf.binds (ps := ["chart", "kind", "start", "moment"]) fun _ _ _ _ _ _ us hl => match us, hl with | [_, _, _, _], _ => rfl
  have mPf := PySem.W.mg_of X G aPf
  have FCm := fun_mk (st := sCommon) lCm cCm kCm
  have bCm := FCm.binds (ps := ["chart", "trips"]) fun _ _ _ _ _ _ us hl => match us, hl with | [_, _], _ => rfl
  have mCm := PySem.W.mg_of X G aCm
  have FRq := fun_mk (st := sRoTo) lRq cRq kRq
  have bRq := FRq.binds (ps := ["chart", "trip", "place"]) fun _ _ _ _ _ _ us hl => match us, hl with | [_, _, _], _ => rfl
  have mRq := PySem.W.mg_of X G aRq
  have FMe := fun_mk (st := sMeet) lMe cMe kMe
  have bMe := FMe.binds (ps := ["chart", "trips"]) fun _ _ _ _ _ _ us hl => match us, hl with | [_, _], _ => rfl
  have mMe := PySem.W.mg_of X G aMe
  have FRy := fun_mk (st := sRelay) lRy cRy kRy
  have bRy := FRy.binds (ps := ["chart", "one", "other", "goal"]) fun _ _ _ _ _ _ us hl => match us, hl with | [_, _, _, _], _ => rfl
  have mRy := PySem.W.mg_of X G aRy
  have FRw := fun_mk (st := sRow) lRw cRw kRw
  have bRw := FRw.binds (ps := ["cell", "many"]) fun _ _ _ _ _ _ us hl => match us, hl with | [_, _], _ => rfl
  have mRw := PySem.W.mg_of X G aRw
  have FNu := fun_mk (st := sNumbers) lNu cNu kNu
  have bNu := FNu.binds (ps := ["script", "many"]) fun _ _ _ _ _ _ us hl => match us, hl with | [_, _], _ => rfl
  have mNu := PySem.W.mg_of X G aNu
  have FLn := fun_mk (st := sLNames) lLn cLn kLn
  have bLn := FLn.binds (ps := ["number", "many"]) fun _ _ _ _ _ _ us hl => match us, hl with | [_, _], _ => rfl
  have mLn := PySem.W.mg_of X G aLn
  have FSo := fun_mk (st := sLSome) lSo cSo kSo
  have bSo := FSo.binds (ps := ["number", "rights"]) fun _ _ _ _ _ _ us hl => match us, hl with | [_, _], _ => rfl
  have mSo := PySem.W.mg_of X G aSo
  have FLh := fun_mk (st := sLHours) lLh cLh kLh
  have bLh := FLh.binds (ps := ["numbers", "at", "day"]) fun _ _ _ _ _ _ us hl => match us, hl with | [_, _, _], _ => rfl
  have mLh := PySem.W.mg_of X G aLh
  have FMp := fun_mk (st := sLMap) lMp cMp kMp
  have bMp := FMp.binds (ps := ["numbers", "at"]) fun _ _ _ _ _ _ us hl => match us, hl with | [_, _], _ => rfl
  have mMp := PySem.W.mg_of X G aMp
  have FMd := fun_mk (st := sLMade) lMd cMd kMd
  have bMd := FMd.binds (ps := ["parts"]) fun _ _ _ _ _ _ us hl => match us, hl with | [_], _ => rfl
  have mMd := PySem.W.mg_of X G aMd
  have FLt := fun_mk (st := sLTrip) lLt cLt kLt
  have bLt := FLt.binds (ps := ["parts", "numbers", "at"]) fun _ _ _ _ _ _ us hl => match us, hl with | [_, _, _], _ => rfl
  have mLt := PySem.W.mg_of X G aLt
  have FSn := fun_mk (st := sSoon) lSn cSn kSn
  have bSn := FSn.binds (ps := ["day", "hours", "moment"]) fun _ _ _ _ _ _ us hl => match us, hl with | [_, _, _], _ => rfl
  have mSn := PySem.W.mg_of X G aSn
  have FLx := fun_mk (st := sLRoad) lLx cLx kLx
  have bLx := FLx.binds (ps := ["parts", "name"]) fun _ _ _ _ _ _ us hl => match us, hl with | [_, _], _ => rfl
  have mLx := PySem.W.mg_of X G aLx
  have FLm := fun_mk (st := sLMay) lLm cLm kLm
  have bLm := FLm.binds (ps := ["parts", "kind", "place", "before", "road"]) fun _ _ _ _ _ _ us hl => match us, hl with | [_, _, _, _, _], _ => rfl
  have mLm := PySem.W.mg_of X G aLm
  have FLi := fun_mk (st := sLRide) lLi cLi kLi
  have bLi := FLi.binds (ps := ["parts", "kind", "start", "moment", "route"]) fun _ _ _ _ _ _ us hl => match us, hl with | [_, _, _, _, _], _ => rfl
  have mLi := PySem.W.mg_of X G aLi
  have FWk := fun_mk (st := sLWalk) lWk cWk kWk
  have bWk := FWk.binds (ps := ["parts", "kind", "start", "numbers", "at", "many"]) fun _ _ _ _ _ _ us hl => match us, hl with | [_, _, _, _, _, _], _ => rfl
  have mWk := PySem.W.mg_of X G aWk
  have FPl := fun_mk (st := sLPlaces) lPl cPl kPl
  have bPl := FPl.binds (ps := ["parts", "trip", "route"]) fun _ _ _ _ _ _ us hl => match us, hl with | [_, _, _], _ => rfl
  have mPl := PySem.W.mg_of X G aPl
  have FTr := fun_mk (st := sLTrips) lTr cTr kTr
  have bTr := FTr.binds (ps := ["parts", "numbers", "at", "many"]) fun _ _ _ _ _ _ us hl => match us, hl with | [_, _, _, _], _ => rfl
  have mTr := PySem.W.mg_of X G aTr
  have FLw := fun_mk (st := sLaw) lLw cLw kLw
  have bLw := FLw.binds (ps := ["script"]) fun _ _ _ _ _ _ us hl => match us, hl with | [_], _ => rfl
  have mLw := PySem.W.mg_of X G aLw
  have FRm := fun_mk (st := sRoadM) lRm cRm kRm
  have bRm := FRm.binds (ps := ["self", "name"]) fun _ _ _ _ _ _ us hl => match us, hl with | [_, _], _ => rfl
  have FCk := fun_mk (st := sCheck) lCk cCk kCk
  have bCk := FCk.binds (ps := ["self", "name"]) fun _ _ _ _ _ _ us hl => match us, hl with | [_, _], _ => rfl
  have FCp := fun_mk (st := sCheckP) lCp cCp kCp
  have bCp := FCp.binds (ps := ["self", "place"]) fun _ _ _ _ _ _ us hl => match us, hl with | [_, _], _ => rfl
  have FCi := fun_mk (st := sCheckK) lCi cCi kCi
  have bCi := FCi.binds (ps := ["self", "kind"]) fun _ _ _ _ _ _ us hl => match us, hl with | [_, _], _ => rfl
  have FRf := fun_mk (st := sRFrom) lRf cRf kRf
  have bRf := FRf.binds (ps := ["self", "place"]) fun _ _ _ _ _ _ us hl => match us, hl with | [_, _], _ => rfl
  have FFo := fun_mk (st := sFoll) lFo cFo kFo
  have bFo := FFo.binds (ps := ["self", "name"]) fun _ _ _ _ _ _ us hl => match us, hl with | [_, _], _ => rfl
  have FMu := fun_mk (st := sMayU) lMu cMu kMu
  have bMu := FMu.binds (ps := ["self", "kind", "name"]) fun _ _ _ _ _ _ us hl => match us, hl with | [_, _, _], _ => rfl
  have FRn := fun_mk (st := sRNames) lRn cRn kRn
  have bRn := FRn.binds (ps := ["self"]) fun _ _ _ _ _ _ us hl => match us, hl with | [_], _ => rfl
  have e_len := PySem.W.mg_none_of X G z_len
  have e_all := PySem.W.mg_none_of X G z_all
  have e_set := PySem.W.mg_none_of X G z_set
  have e_tuple := PySem.W.mg_none_of X G z_tuple
  have e_sorted := PySem.W.mg_none_of X G z_sorted
  have e_abs := PySem.W.mg_none_of X G z_abs
  have e_int := PySem.W.mg_none_of X G z_int
  have e_range := PySem.W.mg_none_of X G z_range
  have e_max := PySem.W.mg_none_of X G z_max
  have e_min := PySem.W.mg_none_of X G z_min
  have e_list := PySem.W.mg_none_of X G z_list
  have e_super := PySem.W.mg_none_of X G z_super
  have e_dict := PySem.W.mg_none_of X G z_dict
  have i_LONGEST_NAME := PySem.W.mg_of X G g_LONGEST_NAME
  have i_LONGEST_DAY := PySem.W.mg_of X G g_LONGEST_DAY
  have i_MOST_PLACES := PySem.W.mg_of X G g_MOST_PLACES
  have i_MOST_KINDS := PySem.W.mg_of X G g_MOST_KINDS
  have i_MOST_ROADS := PySem.W.mg_of X G g_MOST_ROADS
  have i_MOST_MINUTES := PySem.W.mg_of X G g_MOST_MINUTES
  have i_MOST_PAIRS := PySem.W.mg_of X G g_MOST_PAIRS
  have i_MOST_BARS := PySem.W.mg_of X G g_MOST_BARS
  have i_NAME := PySem.W.mg_of X G g_NAME
  have i_START := PySem.W.mg_of X G g_START
  have i_END := PySem.W.mg_of X G g_END
  have i_MINUTES := PySem.W.mg_of X G g_MINUTES
  have i_KINDS := PySem.W.mg_of X G g_KINDS
  have i_HOURS := PySem.W.mg_of X G g_HOURS
  have i_PARTS := PySem.W.mg_of X G g_PARTS
  have i_ROAD := PySem.W.mg_of X G g_ROAD
  have i_PASSED := PySem.W.mg_of X G g_PASSED
  have i_ARRIVAL := PySem.W.mg_of X G g_ARRIVAL
  have i_BEFORE := PySem.W.mg_of X G g_BEFORE
  have i_LETTERS := PySem.W.mg_of X G g_LETTERS
  have i_DIGITS := PySem.W.mg_of X G g_DIGITS
  have i_NO_ROAD := PySem.W.mg_of X G g_NO_ROAD
  have i_heappop := PySem.W.mg_of X G g_heappop
  have i_heappush := PySem.W.mg_of X G g_heappush
  have FNj := fun_mk (st := sRlInit) lNj cNj kNj
  have bNj := FNj.binds (ps := ["self", "place", "handed", "routes"]) fun _ _ _ _ _ _ us hl => match us, hl with | [_, _, _, _], _ => rfl
  have mRl := PySem.W.mg_of X G aRl
  have FMj := fun_mk (st := sMtInit) lMj cMj kMj
  have bMj := FMj.binds (ps := ["self", "place", "moment", "routes"]) fun _ _ _ _ _ _ us hl => match us, hl with | [_, _, _, _], _ => rfl
  have mMt := PySem.W.mg_of X G aMt
  have FRj := fun_mk (st := sRInit) lRj cRj kRj
  have bRj := FRj.binds (ps := ["self", "roads", "arrival"]) fun _ _ _ _ _ _ us hl => match us, hl with | [_, _, _], _ => rfl
  have mRt := PySem.W.mg_of X G aRt
  have eU := exm_two bU iU tU sU
  have TU : OexC K U := ⟨⟨_, _, _, _, _, _, _, _, _, _, _, _, _, _, _, lU, rvU⟩, saU, bU, tU, kU⟩
  have DU : ExcD K U := ⟨clU, gaU, ggU, bU, ccU, snU1, tkU, moU⟩
  have bXU : L2.Binds K (fdU .none kVXU dcXU pmXU anXU cdaXU ctXU ccXU) ["self", "name"] [] := .all fun us hl => match us, hl with | [_, _], _ => rfl
  have mU := PySem.W.mg_of X G gU
  have yU : XfC K U := xfB_ok xU
  have mB := PySem.W.mg_of X G gB
  have TM : TxtM K M := ⟨⟨pg, hd, po, sa⟩, n_day, n_kinds, n_places, n_roads, n__roads_by_name, n_bars, n__barred⟩
  have TN : Txt K mg M P := ⟨⟨_, i_LETTERS⟩, ⟨_, i_DIGITS⟩, ⟨_, i_LONGEST_NAME⟩, e_len, e_all⟩
  have FI : FunD K "__init__" "Map.__init__" (defArgs sInit) (defBody sInit) (defScope sInit) [] [("places", V.ref T1), ("roads", V.ref T2), ("bars", V.ref T0)] fI (PySem.W.fnOf "__init__" "Map.__init__" (defArgs sInit) (defBody sInit) (defScope sInit) .none (.ref D0) dcI pmI anI cdI ctI) :=
    ⟨⟨_, _, _, _, _, _, _, _, _, _, rfl, lI, cI, .inl ⟨rfl, rfl⟩, .inr ⟨D0, rfl, fun q hq => by
      simp only [List.mem_cons, List.not_mem_nil, or_false] at hq
      rcases hq with e | e | e <;> rw [e]
      · exact ⟨_, d_places, rfl⟩
      · exact ⟨_, d_roads, rfl⟩
      · exact ⟨_, d_bars, rfl⟩⟩⟩, kI⟩
  obtain ⟨mv, kb⟩ := map_binds FI
  have tabP : h.get? P = some { cls := .none, data := .fields #[] } := own _ (by decide +kernel) _ mNm qN P _ _ _ _ _ _ lNm rfl rfl lcN v11
  have tabPMe : h.get? PMe = some { cls := .none, data := .fields #[] } := own _ (by decide +kernel) _ mMe qMe PMe _ _ _ _ _ _ lMe rfl rfl lcMe v11Me
  have hcs : ∀ p ∈ ([(qN, P), (qMe, PMe)] : List (Addr × Addr)), h.get? p.2 = some { cls := .none, data := .fields #[] } ∧ K.lookup p.2 = none ∧ PySem.W.CodeHd h p.1 p.2 := fun p hp => by
    simp only [List.mem_cons, List.not_mem_nil, or_false] at hp
    rcases hp with e | e <;> rw [e]
    · exact ⟨tabP, nP, PySem.W.codeHd_of_K X hcN⟩
    · exact ⟨tabPMe, nPMe, PySem.W.codeHd_of_K X hcMe⟩
  refine ⟨[(qN, P), (qMe, PMe)], spLaw K P PMe, hcs, fun H a ns hl hT hS => ⟨a, ns, rfl, hS, hl, ⟨#[], hT (qN, P) (by simp), by first | trivial | exact True.intro | decide⟩, hT (qMe, PMe) (by simp), fun _ => rfl⟩, fun base KB NB TBL => ?_⟩
  have TBN : TabB base mg qN P := ⟨(TBL (qN, P) (by simp)).code, (TBL (qN, P) (by simp)).bm, (TBL (qN, P) (by simp)).gP⟩
  have TBMe : LamX.TabB base mg qMe PMe := TBL (qMe, PMe) (by simp)
  have GNm : FnOk l.prog w K mg base CX0 2 fNm _ ["text"] (spIsName P) := ok_isName FNm TN TBN rfl NB
  have GDy : FnOk l.prog w K mg base CX0 1 fDy _ ["day"] spDay := ok_day FDy i_LONGEST_DAY
  have GDf : FnOk l.prog w K mg base CX0 1 fDf _ ["parts"] (spDiff K) := ok_diff FDf e_len e_set
  have GHr : FnOk l.prog w K mg base CX0 1 fHr _ ["hours", "day"] (spHours K P) := ok_hours FHr e_len e_tuple i_MOST_PAIRS
  have GNa := ok_names FNa e_len e_tuple e_sorted GNm mNm kNm bNm GDf mDf kDf bDf
  have GRd := ok_road FRd e_tuple e_sorted i_MOST_MINUTES GDf mDf kDf bDf GHr mHr kHr bHr
  have GRs := ok_roads FRs e_len e_tuple e_sorted i_PARTS i_NAME i_MOST_ROADS GNa mNa kNa bNa GRd mRd kRd bRd
  have GBr : FnOk l.prog w K mg base CX0 2 fBr _ ["bars", "roads_by_name"] (spBars K P) := ok_bars FBr e_len e_tuple e_sorted i_MOST_BARS i_END i_START GDf mDf kDf bDf
  have GI := ok_init FI TM i_NAME i_MOST_KINDS i_MOST_PLACES GDy mDy kDy bDy GNa mNa kNa bNa GRs mRs kRs bRs GBr mBr kBr bBr
  have GX : FnOk l.prog w K mg base CX0 1 fXU _ ["self", "name"] (spUInit K U) := ok_uinit lXU cXU coXU v2XU fiXU ceXU e_super toX TU muU opU suU svU nnU
  have GCk := ok_check FCk TM mU TU aXU tXU GX bXU
  have GCp := ok_checkP FCp TM mU TU aXU tXU GX bXU
  have GCi := ok_checkK FCi TM mU TU aXU tXU GX bXU
  have GRm := ok_roadM FRm TM ⟨aCk, iCk, kCk⟩ GCk bCk
  have GMu := ok_mayU (P := P) FMu TM ⟨aRm, iRm, kRm⟩ ⟨aCi, iCi, kCi⟩ i_KINDS GRm bRm GCi bCi
  have GEv := ok_ever FEv TM ⟨aRm, iRm, kRm⟩ ⟨aMu, iMu, kMu⟩ i_HOURS GRm bRm GMu bMu
  have GEn := ok_enter (P := P) FEn TM ⟨aRm, iRm, kRm⟩ i_HOURS e_max GRm bRm
  have GAr := ok_arrive FAr TM ⟨aRm, iRm, kRm⟩ i_MINUTES GRm bRm GEn mEn kEn bEn
  have GCn := ok_chkN (P := P) FCn TM ⟨aCi, iCi, kCi⟩ ⟨aCp, iCp, kCp⟩ ⟨aCk, iCk, kCk⟩ GCi bCi GCp bCp GCk bCk
  have GRn : FnOk l.prog w K mg base CX0 1 fRn _ ["self"] (spRNames K M P) := ok_rnames FRn TM e_tuple i_NAME
  have GRf := ok_rfrom (P := P) FRf TM i_NAME i_START ⟨aCp, iCp, kCp⟩ GCp bCp
  have GFo := ok_foll FFo TM i_END ⟨aRm, iRm, kRm⟩ ⟨aRf, iRf, kRf⟩ GRm bRm GRf bRf
  have GRb := ok_rturns (U := U) FRb TM ⟨aRn, pgRn, tkRn, ⟨_, rcRn⟩⟩ ⟨aFo, iFo, kFo⟩ GRn bRn GFo bFo GEv mEv kEv bEv
  have GTu := ok_turns (U := U) FTu TM i_NO_ROAD ⟨aRf, iRf, kRf⟩ GRb mRb kRb bRb GRf bRf GEv mEv kEv bEv
  have GSe := ok_search FSe TM i_NO_ROAD i_ROAD i_PASSED i_END i_heappop i_heappush ⟨aRm, iRm, kRm⟩ GTu mTu kTu bTu GRm bRm GAr mAr kAr bAr
  have GRw : FnOk l.prog w K mg base CX0 1 fRw _ ["cell", "many"] (spRow P) := ok_row FRw e_abs e_int e_range
  have GNu := ok_numbers FNu e_len e_max GRw mRw kRw bRw
  have GLn : FnOk l.prog w K mg base CX0 1 fLn _ ["number", "many"] (spLNames P) := ok_lnames FLn e_int e_range e_len e_min
  have GSo : FnOk l.prog w K mg base CX0 1 fSo _ ["number", "rights"] (spLSome K P) := ok_lsome FSo e_int e_tuple
  have GLh : FnOk l.prog w K mg base CX0 1 fLh _ ["numbers", "at", "day"] (spLHours K P) := ok_lhours FLh e_int e_tuple e_range
  have GMp := ok_lmap FMp e_int e_tuple e_range e_len GLn mLn kLn bLn GSo mSo kSo bSo GLh mLh kLh bLh
  have GMd := ok_lmade FMd TM e_list ⟨mk, aI, iI, kM⟩ (PySem.W.mg_of X G aM) GI kb
  have GLt : FnOk l.prog w K mg base CX0 1 fLt _ ["parts", "numbers", "at"] (spLTrip K P) := ok_ltrip FLt e_int e_len
  have TR : TxtR K Rt := ⟨⟨pgRt, hdRt, poRt, saRt⟩, nRt_roads, nRt_arrival⟩
  have MkR : L2.Mk K Rt fRj := ⟨mkRt, aRj, iRj, kpRt⟩
  have GRj : FnOk l.prog w K mg base CX0 1 fRj _ ["self", "roads", "arrival"] (spRoInit K Rt P) := ok_roInit FRj TR e_tuple
  have GPo := ok_placeOf (P := P) FPo TM i_NO_ROAD i_ROAD i_END ⟨aRm, iRm, kRm⟩ GRm bRm
  have GEo : FnOk l.prog w K mg base CX0 1 fEo _ ["came", "states"] (spEarlOf K P) := ok_earlOf FEo e_min i_ARRIVAL
  have GRo : FnOk l.prog w K mg base CX0 1 fRo _ ["came", "state"] (spRouteTo K P) := ok_routeTo FRo i_NO_ROAD i_ROAD i_BEFORE
  have GEa := ok_earliest (t2 := t_ARRIVAL) FEa i_ARRIVAL GCn mCn kCn bCn GSe mSe kSe bSe GPo mPo kPo bPo GEo mEo kEo bEo GRo mRo kRo bRo MkR mRt GRj bRj
  have GSn : FnOk l.prog w K mg base CX0 1 fSn _ ["day", "hours", "moment"] (spLWhen K enterD) := ok_soon FSn e_int e_max
  have GLx : FnOk l.prog w K mg base CX0 1 fLx _ ["parts", "name"] (spLRoad K P) := ok_lroad FLx
  have GLm : FnOk l.prog w K mg base CX0 1 fLm _ ["parts", "kind", "place", "before", "road"] (spLMay K P) := ok_lmay FLm
  have GLi := ok_lride FLi GLx mLx kLx bLx GLm mLm kLm bLm GSn mSn kSn bSn
  have TT : TxtMt K Mt := ⟨⟨pgMt, hdMt, poMt, saMt⟩, nMt_place, nMt_moment, nMt_routes⟩
  have MkT : L2.Mk K Mt fMj := ⟨mkMt, aMj, iMj, kpMt⟩
  have GMj : FnOk l.prog w K mg base CX0 1 fMj _ ["self", "place", "moment", "routes"] (spMtInit K Mt P) := ok_mtInit FMj TT e_tuple
  have GLb := ok_labels FLb e_sorted i_NO_ROAD i_ROAD i_ARRIVAL GCn mCn kCn bCn GSe mSe kSe bSe
  have GPf := ok_places FPf TM e_sorted e_min i_END ⟨aRm, iRm, kRm⟩ GRm bRm GLb mLb kLb bLb
  have GCm := ok_common FCm TM e_dict e_len e_max GPf mPf kPf bPf
  have GRq := ok_roTo FRq GEa mEa kEa bEa
  have GMe := ok_meet FMe rfl TBMe e_min GCm mCm kCm bCm GRq mRq kRq bRq MkT mMt GMj bMj
  have GTr := ok_ltrips FTr e_range GLt mLt kLt bLt
  have TL : TxtRl K Rl := ⟨⟨pgRl, hdRl, poRl, saRl⟩, nRl_place, nRl_handed, nRl_routes, nRl_arrival⟩
  have MkL : L2.Mk K Rl fNj := ⟨mkRl, aNj, iNj, kpRl⟩
  have GNj : FnOk l.prog w K mg base CX0 1 fNj _ ["self", "place", "handed", "routes"] (spRlInit K Rl Rt P) := ok_rlInit FNj TL TR e_tuple
  have GRy := ok_relay FRy TM TL TR GCm mCm kCm bCm GRq mRq kRq bRq GEa mEa kEa bEa ⟨aCp, iCp, kCp⟩ GCp bCp MkL mRl GNj bNj
  have GWk := ok_lwalk FWk e_int e_len e_range GLm mLm kLm bLm
  have GPl := ok_lplaces FPl GLi mLi kLi bLi GLx mLx kLx bLx
  exact ok_law lLw cLw (fun s v => .of_eq rfl) TT TL e_int e_len e_range e_list e_max ne_Me_Nm GNu mNu kNu bNu GMp mMp kMp bMp GMd mMd kMd bMd GTr mTr kTr bTr GWk mWk kWk bWk GPl mPl kPl bPl GMe mMe kMe bMe GRy mRy kRy bRy GLi mLi kLi bLi GLx mLx kLx bLx
end W

set_option Elab.async false
open PySem PySem.W PyProof.Rows in
set_option maxRecDepth 100000 in
set_option maxHeartbeats 0 in
theorem PySem.Challenge.cw_waypapers_k78_whole_nobody_meets_earlier_holds : PySem.Challenge.rw_waypapers_k78_whole_nobody_meets_earlier.Holds := by
  w_on; o_law; k_head; (case hw => w_witness2)
  k_fill
  refine MyR.walk_ofL (l := PySem.Challenge.rw_waypapers_k78_whole_nobody_meets_earlier) (n := 63) (CX := fun w => L2.CX (PySem.Challenge.rw_waypapers_k78_whole_nobody_meets_earlier).prog w) ["is_name", "meeting"] rfl (by decide) rfl (by decide +kernel) (fun w h Y => PySem.W.km_in_of Y) ?F (fun w H s e s' h => W.no_fly w H s e s' h)
  case F =>
    intro w mg fa h Y KX G hmg own
    refine' W.all_mk KX G hmg own ?aM ?gU ?gB ?aNm ?lNm ?cNm ?kNm ?aDy ?lDy ?cDy ?kDy ?aNa ?lNa ?cNa ?kNa ?aDf ?lDf ?cDf ?kDf ?aRs ?lRs ?cRs ?kRs ?aRd ?lRd ?cRd ?kRd ?aHr ?lHr ?cHr ?kHr ?aBr ?lBr ?cBr ?kBr ?aEn ?lEn ?cEn ?kEn ?aAr ?lAr ?cAr ?kAr ?aCn ?lCn ?cCn ?kCn ?aEv ?lEv ?cEv ?kEv ?aRb ?lRb ?cRb ?kRb ?aTu ?lTu ?cTu ?kTu ?aSe ?lSe ?cSe ?kSe ?aPo ?lPo ?cPo ?kPo ?aEo ?lEo ?cEo ?kEo ?aRo ?lRo ?cRo ?kRo ?aEa ?lEa ?cEa ?kEa ?aLb ?lLb ?cLb ?kLb ?aPf ?lPf ?cPf ?kPf ?aCm ?lCm ?cCm ?kCm ?aRq ?lRq ?cRq ?kRq ?aMe ?lMe ?cMe ?kMe ?aRy ?lRy ?cRy ?kRy ?aRw ?lRw ?cRw ?kRw ?aNu ?lNu ?cNu ?kNu ?aLn ?lLn ?cLn ?kLn ?aSo ?lSo ?cSo ?kSo ?aLh ?lLh ?cLh ?kLh ?aMp ?lMp ?cMp ?kMp ?aMd ?lMd ?cMd ?kMd ?aLt ?lLt ?cLt ?kLt ?aSn ?lSn ?cSn ?kSn ?aLx ?lLx ?cLx ?kLx ?aLm ?lLm ?cLm ?kLm ?aLi ?lLi ?cLi ?kLi ?aWk ?lWk ?cWk ?kWk ?aPl ?lPl ?cPl ?kPl ?aTr ?lTr ?cTr ?kTr ?aLw ?lLw ?cLw ?kLw ?aRm ?iRm ?lRm ?cRm ?kRm ?aCk ?iCk ?lCk ?cCk ?kCk ?aCp ?iCp ?lCp ?cCp ?kCp ?aCi ?iCi ?lCi ?cCi ?kCi ?aRf ?iRf ?lRf ?cRf ?kRf ?aFo ?iFo ?lFo ?cFo ?kFo ?aMu ?iMu ?lMu ?cMu ?kMu ?aRn ?pgRn ?tkRn ?rcRn ?lRn ?cRn ?kRn ?lcN ?v11 ?hcN ?nP ?lcMe ?v11Me ?hcMe ?nPMe ?ne_Me_Nm ?aI ?iI ?lI ?cI ?kI ?d_places ?d_roads ?d_bars ?pg ?hd ?po ?sa ?mk ?kM ?n_day ?n_kinds ?n_places ?n_roads ?n__roads_by_name ?n_bars ?n__barred ?snU1 ?tkU ?opU ?toX ?lU ?rvU ?saU ?bU ?tU ?kU ?iU ?sU ?xU ?clU ?gaU ?ggU ?ccU ?moU ?muU ?suU ?svU ?nnU ?aXU ?tXU ?lXU ?cXU ?coXU ?v2XU ?fiXU ?ceXU ?aRl ?aNj ?iNj ?lNj ?cNj ?kNj ?pgRl ?hdRl ?poRl ?saRl ?mkRl ?kpRl ?nRl_place ?nRl_handed ?nRl_routes ?nRl_arrival ?aMt ?aMj ?iMj ?lMj ?cMj ?kMj ?pgMt ?hdMt ?poMt ?saMt ?mkMt ?kpMt ?nMt_place ?nMt_moment ?nMt_routes ?aRt ?aRj ?iRj ?lRj ?cRj ?kRj ?pgRt ?hdRt ?poRt ?saRt ?mkRt ?kpRt ?nRt_roads ?nRt_arrival ?g_LONGEST_NAME ?g_LONGEST_DAY ?g_MOST_PLACES ?g_MOST_KINDS ?g_MOST_ROADS ?g_MOST_MINUTES ?g_MOST_PAIRS ?g_MOST_BARS ?g_NAME ?g_START ?g_END ?g_MINUTES ?g_KINDS ?g_HOURS ?g_PARTS ?g_ROAD ?g_PASSED ?g_ARRIVAL ?g_BEFORE ?g_LETTERS ?g_DIGITS ?g_NO_ROAD ?g_heappop ?g_heappush ?z_len ?z_all ?z_set ?z_tuple ?z_sorted ?z_abs ?z_int ?z_range ?z_max ?z_min ?z_list ?z_super ?z_dict
    (case aM => k_is)
    (case gU => k_is)
    (case gB => k_is)
    (case aNm => k_is)
    (case lNm => k_is)
    (case cNm => k_is)
    (case kNm => k_is)
    (case aDy => k_is)
    (case lDy => k_is)
    (case cDy => k_is)
    (case kDy => k_is)
    (case aNa => k_is)
    (case lNa => k_is)
    (case cNa => k_is)
    (case kNa => k_is)
    (case aDf => k_is)
    (case lDf => k_is)
    (case cDf => k_is)
    (case kDf => k_is)
    (case aRs => k_is)
    (case lRs => k_is)
    (case cRs => k_is)
    (case kRs => k_is)
    (case aRd => k_is)
    (case lRd => k_is)
    (case cRd => k_is)
    (case kRd => k_is)
    (case aHr => k_is)
    (case lHr => k_is)
    (case cHr => k_is)
    (case kHr => k_is)
    (case aBr => k_is)
    (case lBr => k_is)
    (case cBr => k_is)
    (case kBr => k_is)
    (case aEn => k_is)
    (case lEn => k_is)
    (case cEn => k_is)
    (case kEn => k_is)
    (case aAr => k_is)
    (case lAr => k_is)
    (case cAr => k_is)
    (case kAr => k_is)
    (case aCn => k_is)
    (case lCn => k_is)
    (case cCn => k_is)
    (case kCn => k_is)
    (case aEv => k_is)
    (case lEv => k_is)
    (case cEv => k_is)
    (case kEv => k_is)
    (case aRb => k_is)
    (case lRb => k_is)
    (case cRb => k_is)
    (case kRb => k_is)
    (case aTu => k_is)
    (case lTu => k_is)
    (case cTu => k_is)
    (case kTu => k_is)
    (case aSe => k_is)
    (case lSe => k_is)
    (case cSe => k_is)
    (case kSe => k_is)
    (case aPo => k_is)
    (case lPo => k_is)
    (case cPo => k_is)
    (case kPo => k_is)
    (case aEo => k_is)
    (case lEo => k_is)
    (case cEo => k_is)
    (case kEo => k_is)
    (case aRo => k_is)
    (case lRo => k_is)
    (case cRo => k_is)
    (case kRo => k_is)
    (case aEa => k_is)
    (case lEa => k_is)
    (case cEa => k_is)
    (case kEa => k_is)
    (case aLb => k_is)
    (case lLb => k_is)
    (case cLb => k_is)
    (case kLb => k_is)
    (case aPf => k_is)
    (case lPf => k_is)
    (case cPf => k_is)
    (case kPf => k_is)
    (case aCm => k_is)
    (case lCm => k_is)
    (case cCm => k_is)
    (case kCm => k_is)
    (case aRq => k_is)
    (case lRq => k_is)
    (case cRq => k_is)
    (case kRq => k_is)
    (case aMe => k_is)
    (case lMe => k_is)
    (case cMe => k_is)
    (case kMe => k_is)
    (case aRy => k_is)
    (case lRy => k_is)
    (case cRy => k_is)
    (case kRy => k_is)
    (case aRw => k_is)
    (case lRw => k_is)
    (case cRw => k_is)
    (case kRw => k_is)
    (case aNu => k_is)
    (case lNu => k_is)
    (case cNu => k_is)
    (case kNu => k_is)
    (case aLn => k_is)
    (case lLn => k_is)
    (case cLn => k_is)
    (case kLn => k_is)
    (case aSo => k_is)
    (case lSo => k_is)
    (case cSo => k_is)
    (case kSo => k_is)
    (case aLh => k_is)
    (case lLh => k_is)
    (case cLh => k_is)
    (case kLh => k_is)
    (case aMp => k_is)
    (case lMp => k_is)
    (case cMp => k_is)
    (case kMp => k_is)
    (case aMd => k_is)
    (case lMd => k_is)
    (case cMd => k_is)
    (case kMd => k_is)
    (case aLt => k_is)
    (case lLt => k_is)
    (case cLt => k_is)
    (case kLt => k_is)
    (case aSn => k_is)
    (case lSn => k_is)
    (case cSn => k_is)
    (case kSn => k_is)
    (case aLx => k_is)
    (case lLx => k_is)
    (case cLx => k_is)
    (case kLx => k_is)
    (case aLm => k_is)
    (case lLm => k_is)
    (case cLm => k_is)
    (case kLm => k_is)
    (case aLi => k_is)
    (case lLi => k_is)
    (case cLi => k_is)
    (case kLi => k_is)
    (case aWk => k_is)
    (case lWk => k_is)
    (case cWk => k_is)
    (case kWk => k_is)
    (case aPl => k_is)
    (case lPl => k_is)
    (case cPl => k_is)
    (case kPl => k_is)
    (case aTr => k_is)
    (case lTr => k_is)
    (case cTr => k_is)
    (case kTr => k_is)
    (case aLw => k_is)
    (case lLw => k_is)
    (case cLw => k_is)
    (case kLw => k_is)
    (case aRm => k_is)
    (case iRm => k_is)
    (case lRm => k_is)
    (case cRm => k_is)
    (case kRm => k_is)
    (case aCk => k_is)
    (case iCk => k_is)
    (case lCk => k_is)
    (case cCk => k_is)
    (case kCk => k_is)
    (case aCp => k_is)
    (case iCp => k_is)
    (case lCp => k_is)
    (case cCp => k_is)
    (case kCp => k_is)
    (case aCi => k_is)
    (case iCi => k_is)
    (case lCi => k_is)
    (case cCi => k_is)
    (case kCi => k_is)
    (case aRf => k_is)
    (case iRf => k_is)
    (case lRf => k_is)
    (case cRf => k_is)
    (case kRf => k_is)
    (case aFo => k_is)
    (case iFo => k_is)
    (case lFo => k_is)
    (case cFo => k_is)
    (case kFo => k_is)
    (case aMu => k_is)
    (case iMu => k_is)
    (case lMu => k_is)
    (case cMu => k_is)
    (case kMu => k_is)
    (case aRn => k_is)
    (case pgRn => k_is)
    (case tkRn => k_is)
    (case rcRn => first | k_is | rfl | kernel_rfl)
    (case lRn => k_is)
    (case cRn => k_is)
    (case kRn => k_is)
    (case lcN => k_is)
    (case v11 => rfl)
    (case hcN => kernel_rfl)
    (case nP => kernel_rfl)
    (case lcMe => k_is)
    (case v11Me => rfl)
    (case hcMe => kernel_rfl)
    (case nPMe => kernel_rfl)
    (case ne_Me_Nm => decide)
    (case aI => k_is)
    (case iI => k_is)
    (case lI => k_is)
    (case cI => k_is)
    (case kI => k_is)
    (case d_places => k_is)
    (case d_roads => k_is)
    (case d_bars => k_is)
    (case pg => k_is)
    (case hd => k_is)
    (case po => k_is)
    (case sa => k_is)
    (case mk => k_is)
    (case kM => k_is)
    (case n_day => k_is)
    (case n_kinds => k_is)
    (case n_places => k_is)
    (case n_roads => k_is)
    (case n__roads_by_name => k_is)
    (case n_bars => k_is)
    (case n__barred => k_is)
    (case snU1 => k_is)
    (case tkU => k_is)
    (case opU => k_is)
    (case toX => first | rfl | decide +kernel | kernel_rfl)
    (case lU => k_is)
    (case rvU => rfl)
    (case saU => k_is)
    (case bU => k_is)
    (case tU => k_is)
    (case kU => k_is)
    (case iU => k_is)
    (case sU => first | rfl | k_is)
    (case xU => first | kernel_rfl | k_is)
    (case clU => first | kernel_rfl | k_is)
    (case gaU => k_is)
    (case ggU => k_is)
    (case ccU => k_is)
    (case moU => k_is)
    (case muU => k_is)
    (case suU => first | kernel_rfl | k_is)
    (case svU => k_is)
    (case nnU => k_is)
    (case aXU => k_is)
    (case tXU => k_is)
    (case lXU => k_is)
    (case cXU => k_is)
    (case coXU => k_is)
    (case v2XU => rfl)
    (case fiXU => first | rfl | decide +kernel | kernel_rfl)
    (case ceXU => k_is)
    (case aRl => k_is)
    (case aNj => k_is)
    (case iNj => k_is)
    (case lNj => k_is)
    (case cNj => k_is)
    (case kNj => k_is)
    (case pgRl => k_is)
    (case hdRl => k_is)
    (case poRl => k_is)
    (case saRl => k_is)
    (case mkRl => k_is)
    (case kpRl => k_is)
    (case nRl_place => k_is)
    (case nRl_handed => k_is)
    (case nRl_routes => k_is)
    (case nRl_arrival => k_is)
    (case aMt => k_is)
    (case aMj => k_is)
    (case iMj => k_is)
    (case lMj => k_is)
    (case cMj => k_is)
    (case kMj => k_is)
    (case pgMt => k_is)
    (case hdMt => k_is)
    (case poMt => k_is)
    (case saMt => k_is)
    (case mkMt => k_is)
    (case kpMt => k_is)
    (case nMt_place => k_is)
    (case nMt_moment => k_is)
    (case nMt_routes => k_is)
    (case aRt => k_is)
    (case aRj => k_is)
    (case iRj => k_is)
    (case lRj => k_is)
    (case cRj => k_is)
    (case kRj => k_is)
    (case pgRt => k_is)
    (case hdRt => k_is)
    (case poRt => k_is)
    (case saRt => k_is)
    (case mkRt => k_is)
    (case kpRt => k_is)
    (case nRt_roads => k_is)
    (case nRt_arrival => k_is)
    (case g_LONGEST_NAME => k_is)
    (case g_LONGEST_DAY => k_is)
    (case g_MOST_PLACES => k_is)
    (case g_MOST_KINDS => k_is)
    (case g_MOST_ROADS => k_is)
    (case g_MOST_MINUTES => k_is)
    (case g_MOST_PAIRS => k_is)
    (case g_MOST_BARS => k_is)
    (case g_NAME => k_is)
    (case g_START => k_is)
    (case g_END => k_is)
    (case g_MINUTES => k_is)
    (case g_KINDS => k_is)
    (case g_HOURS => k_is)
    (case g_PARTS => k_is)
    (case g_ROAD => k_is)
    (case g_PASSED => k_is)
    (case g_ARRIVAL => k_is)
    (case g_BEFORE => k_is)
    (case g_LETTERS => k_is)
    (case g_DIGITS => k_is)
    (case g_NO_ROAD => k_is)
    (case g_heappop => k_is)
    (case g_heappush => k_is)
    (case z_len => k_is)
    (case z_all => k_is)
    (case z_set => k_is)
    (case z_tuple => k_is)
    (case z_sorted => k_is)
    (case z_abs => k_is)
    (case z_int => k_is)
    (case z_range => k_is)
    (case z_max => k_is)
    (case z_min => k_is)
    (case z_list => k_is)
    (case z_super => k_is)
    (case z_dict => k_is)

