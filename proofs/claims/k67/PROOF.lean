import PyProof.Rows.All
import Wide.All
import OpenK.AllK
import Wide.FinOn
import HandS.ForMost
import HandS.ForExc
import HandS.AnyAll
import HandS.TupSets
import HandS.Strs
import HandS.Sort
import HandS.SortOrd
import HandS.SortRule
import KE.KSortTup
import PyProof.EqAt
import PyProof.EqKinds
import HandS.DictComp
import HandS.FStr
import HandS.RaiseMore
import HandS.MakeKwOnly
import HandS.EndTab
import KE.KNestM
import HandS.Defaults
import HandS.Codes
import HandS.Text
import HandS.Star
import PyProof.ReprRoads
import PyProof.ReprLen
import HandS.EndOwn
import HandS.IsInst
import PySem.Challenge.RW_waypapers_k67_paper_texts
set_option Elab.async false
set_option linter.all false
set_option maxRecDepth 100000
set_option maxHeartbeats 4000000
/-! all(test for x in text), where the test reads constants of the module: the walked element knows the base heap and the def's globals. -/
namespace MyG
open PySem PySem.Spec PyProof.Rows L2 GxR
/-- what the element's evaluation may lean on: the base heap stands, the globals are the module's, no exception is handled -/
def EltB (prog : Program) (w : World) (base : Heap) (scope : Scope) (x : Str) (elt : Expr) (pb : Nat → Bool) : Prop :=
  ∀ (ce : Env) (B : Around) (F : Value → Shared → Prop) (c : Nat) (t : Tok) (z : Shared) (m : Str → Option Value),
    ce.scope = scope → ce.globals = mainGlobals → B.handled = none → (∀ b o, base.get? b = some o → z.heap.get? b = some o) →
    z.heap.Ns ce.locals m → m x = some (.str ⟨#[c]⟩ t) → wpAny (model prog w) B (eval elt ce) (fun y z' => y = .bool (pb c) ∧ Keeps z z') F z
section
variable {X : Cx} {pins : List (Addr × Obj)} {σ : L2.St} {H : Hp} {s : Shared}
theorem genB {c P : Addr} {elt iter : Expr} {x : Str} {px gpos : Pos} {scope : Scope} {pb : Nat → Bool} {te : TE} {k : Nat} {Q' : Value → Shared → Prop} {R : Str → Hp → Prop}
    (hr : Room k X.A) (TB : TabB X.base X.mg c P) (hcode : X.env.code = .ref c) (S : GenS X.env scope x) (hi : PE X iter te) (hel : EltB X.prog X.w X.base scope x elt pb)
    (hs : ∀ v, genFold iter X.env v = pure v) (I : Inv X pins σ H s) (h : te σ H fun v H1 => ∃ a : Str, v = .str a ∧ TabG H1 P ∧ R a H1)
    (hQ : ∀ a H1 g z, R a H1 → Ready X pins σ H1 P a pb g z → Q' (.ref g) z) :
    wpAny (model X.prog X.w) X.A (eval (.GeneratorExp elt [⟨.Name x px, iter, [], 0⟩] scope gpos) X.env) Q' X.xe s := by
  refine wpAny_GeneratorExp_walksQ hr.hd S.co (closure_ok S.free) S.cell S.dot S.loc S.kind (by have := hr.dp; omega) ?_ hs
  refine thn (hi.run pins s σ H _ I h) fun xv s1 ⟨v, H1, I1, r1, a, ev, tb, q1⟩ => ?_
  subst ev
  obtain ⟨t, rfl⟩ := _root_.id r1
  obtain ⟨ps, hP, ht⟩ := tb
  refine wpAny_pyIter_str fun o St W hst => ?_
  have eP : s1.heap.get? P = some { cls := .none, data := .fields ps } := I1.hok P _ hP
  have ltP : P < s1.heap.objs.size := Heap.lt_size eP
  have eP2 := Heap.get?_push_of_some o eP
  have cd : PySem.W.CodeHd (s1.heap.push o) c P := TB.code.keeps fun b u e => Heap.get?_push_of_some _ (I1.bk b u e)
  have lim := I1.nolimit.push o
  have szp : (s1.heap.push o).objs.size = s1.heap.objs.size + 1 := Heap.size_push ..
  -- the base is not the table
  have nbP : ∀ b u, X.base.get? b = some u → b ≠ P := fun b u e z => by
    have q := (I1.bs b u e).2
    rw [z, hP] at q
    cases q
  have stP : cStatics ≠ P := fun e => by
    obtain ⟨_, ⟨o', es, ep, ho, hd, _⟩, _⟩ := I1.nolimit
    rw [e, eP] at ho
    cases ho
    cases hd
  have stlt : cStatics < s1.heap.objs.size := let ⟨_, hns, _⟩ := I1.nolimit; hns.lt
  -- behind the code object (made or found): h3, the table ps'
  have go : ∀ (code : Value) (h3 : Heap) (tk : Nat) (more : Array Value), Heap.ExtBut P (s1.heap.push o) h3 → (s1.heap.push o).objs.size ≤ h3.objs.size → h3.get? P = some { cls := .none, data := .fields (ps ++ more) } → TriplesOk (ps ++ more).toList →
      wpAny (model X.prog X.w) X.A (builtinsFor X.env.globals X.env.builtins) (fun bi s₄ =>
        ∃ Ia fp wr n₀ Pf St₀ pz F, Value.ref s1.heap.objs.size = .ref Ia ∧ (∀ A' : Around, A'.handled = none → Walks X.prog X.w A' Ia fp wr n₀ Pf St₀) ∧ St₀ 0 s₄.heap ∧ (∀ b ∈ fp, b < s₄.heap.objs.size) ∧ s₄.heap.NoLimit ∧ cStatics ∉ wr ∧
          (∀ href : Heap, (∀ b o, s₄.heap.get? b = some o → href.get? b = some o) →
            QuietGen X.prog X.w (genEnv scope (cloFrom X.env.cells scope.names []) s₄.heap.objs.size code bi X.env) x [] elt (List.range s₄.heap.objs.size) wr Pf pz F href) ∧
          (∀ a h₅ tk gs, gs.bare = true → s₄.heap.objs.size < a → h₅.objs.size = a + 1 → (∀ b o, s₄.heap.get? b = some o → h₅.get? b = some o) →
            WalksS X.prog X.w X.A.in4 a (a :: s₄.heap.objs.size :: List.range s₄.heap.objs.size) (s₄.heap.objs.size :: wr) (GenOnlyQ s₄.gens.size) (passing pz n₀ 0).length
              (fun j y => ∃ i, (passing pz n₀ 0)[j]? = some i ∧ F i y) (GenAt X.prog X.w X.A.in4 a s₄.gens.size s₄.heap.objs.size (List.range s₄.heap.objs.size) wr pz n₀ F) →
            GenAt X.prog X.w X.A.in4 a s₄.gens.size s₄.heap.objs.size (List.range s₄.heap.objs.size) wr pz n₀ F 0 { s₄ with gens := s₄.gens.push gs, toks := tk, heap := h₅ } →
            Q' (.ref a) { s₄ with gens := s₄.gens.push gs, toks := tk, heap := h₅ })) X.xe { s1 with heap := h3, toks := tk } := by
    intro code h3 tk more hx hsz e3 ht3
    obtain ⟨bm, ob, b1, b2, b3, b4, b5, b6, b7, b8⟩ := TB.bm
    have old : ∀ b u, b ≠ P → s1.heap.get? b = some u → h3.get? b = some u := fun b u hb e => hx b u hb (Heap.get?_push_of_some _ e)
    refine wpAny_builtinsFor (m := X.mg) (by rw [I1.ok.glob]; exact ((I1.mod.glob.keeps I1.bk).push o).extBut hx TB.gP) b1 b2 (old _ _ b4 (I1.bk _ _ b5)) b6 b7 b8 ?_
    refine ⟨s1.heap.objs.size, [s1.heap.objs.size], [s1.heap.objs.size], a.cps.size, SignAt a, St, (fun _ => true), (fun i y => ∃ cc, a.cps[i]? = some cc ∧ y = .bool (pb cc)), rfl, W, ?_, ?_, lim.extBut hx stP, ?_, ?_, ?_⟩
    · refine (W X.A hr.hd).frame _ _ _ hst fun b hb u e => hx b u (fun z => ?_) e
      have hb' : b = s1.heap.objs.size := List.mem_singleton.mp hb
      exact Nat.ne_of_lt ltP (z.symm.trans hb')
    · intro b hb
      have hb' : b = s1.heap.objs.size := List.mem_singleton.mp hb
      rw [hb']
      exact Nat.lt_of_lt_of_le (by rw [szp]; exact Nat.lt_succ_self _) hsz
    · intro z
      exact Nat.ne_of_lt stlt (List.mem_singleton.mp z)
    · intro href hk
      constructor
      · intro A' E' i v s₂ m₂ hA hPv hn hm hk2
        simp only [List.forIn_nil]
        exact wpAny_pure ⟨rfl, keeps_refl _⟩
      · intro A' E' i v s₂ m₂ hA hPv hp hn hm hk2
        obtain ⟨cc, u, hcc, rfl⟩ := hPv
        refine wpAny_mono (hel _ A' E' cc u s₂ m₂ rfl I1.ok.glob hA (fun b w' e => ?_) hn hm) (fun y s3 r => ⟨⟨cc, hcc, r.1⟩, r.2⟩) fun _ _ e => e
        have e1 := I1.bk b w' e
        have e2 := old b w' (nbP b w' e) e1
        have l1 : b < s1.heap.objs.size := Heap.lt_size e1
        refine hk2 b (List.mem_range.mpr (Heap.lt_size e2)) (fun z => ?_) w' (hk b w' e2)
        exact Nat.ne_of_lt l1 (List.mem_singleton.mp z)
    · intro g h5 tk5 gs hgb hag hsz5 hk5 W5 hat
      simp only [GxR.passing_true, List.length_range] at W5
      refine hQ a H1 g _ q1 ⟨_, _, _, _, _, W5.in4_1, hat, ?_, fun s' hm => ?_⟩
      · intro j y sj Qj Ej hy hQj
        obtain ⟨i, hij, cc, hcc, rfl⟩ := hy
        obtain ⟨hj, ej⟩ := List.getElem?_eq_some_iff.mp hij
        rw [List.getElem_range] at ej
        subst ej
        have e9 : a.cps.toList[j]? = some cc := by rw [Array.getElem?_toList]; exact hcc
        have hQ2 : Qj (trF pb a.cps.toList j) sj := hQj
        rw [trF_some e9] at hQ2
        exact wpAny_truthy_bool hQ2
      · have nwr : ∀ b u, s1.heap.get? b = some u → b ∉ h3.objs.size :: [s1.heap.objs.size] := fun b u e hb => by
          have hl := Heap.lt_size e
          rcases List.mem_cons.mp hb with z | z
          · exact Nat.ne_of_lt (Nat.lt_of_lt_of_le (Nat.lt_trans hl (Nat.lt_succ_self _)) (Nat.le_trans (Nat.le_of_eq szp.symm) hsz)) z
          · exact Nat.ne_of_lt hl (List.mem_singleton.mp z)
        have J := inv_tab (more := more) (h' := s'.heap) (g' := s'.gens) (d' := s'.drawn) (t' := s'.toks) I1 hP (fun b u hb e => hm.heap b u (nwr b u e) (hk5 b u (old b u hb e)))
          (hm.heap P _ (nwr P _ eP) (hk5 P _ e3)) (AllBare.movedS (I1.bare.push hgb) hm)
        rw [sh_eta s1 s' hm.os] at J
        exact ⟨upd H1 P (.tbl (ps ++ more)), ⟨⟨ps ++ more, upd_same, ht3⟩, fun b hb => upd_ne hb⟩, J⟩
  refine ⟨lim, ?_⟩
  cases hf : codeAmong gpos ps.toList with
  | none =>
    refine wpAny_genexprCodeX hcode (cd.code eP2 ht) (cd.tab eP2) hf fun c' h' tk hx hge hlt hco' _ htab' _ => ?_
    obtain ⟨o1, vs, f1, tf, fl, tg, inF, tx, tt, op, _, _, _, _, _, _, _, _, _, htr, _⟩ := hco'
    exact go _ h' tk _ hx (Nat.le_trans hge (Nat.le_of_lt hlt)) htab'.2 htr
  | some cv =>
    refine wpAny_genexprCode_hit hcode (cd.code eP2 ht) hf ?_
    refine go cv (s1.heap.push o) s1.toks #[] (Heap.ExtBut.refl _ _) (Nat.le_refl _) ?_ ?_
    · rw [Array.append_empty]; exact eP2
    · rw [Array.append_empty]; exact ht

/-- all(test for x in e), e a text -/
theorem pe_allB {c P : Addr} {elt iter : Expr} {x : Str} {px p pos gpos : Pos} {scope : Scope} {pb : Nat → Bool} {te : TE} {k : Nat}
    (hr : Room k X.A) (hg : Gl X "all") (hm : X.mg "all" = none) (TB : TabB X.base X.mg c P) (hcode : X.env.code = .ref c) (S : GenS X.env scope x) (hi : PE X iter te) (hel : EltB X.prog X.w X.base scope x elt pb)
    (hs : ∀ v, genFold iter X.env v = pure v)
    (he : starEach [.GeneratorExp elt [⟨.Name x px, iter, [], 0⟩] scope gpos] X.env = (false, eval (.GeneratorExp elt [⟨.Name x px, iter, [], 0⟩] scope gpos) X.env) :: starEach [] X.env := by rfl) :
    PE X (.Call (.Name "all" p) [.GeneratorExp elt [⟨.Name x px, iter, [], 0⟩] scope gpos] [] pos) (tAllS P pb te) := by
  refine ⟨fun pins s σ H Q I h => ?_⟩
  refine wpAny_Call_Name_kw (ld_blt I hg hm (by decide +kernel : bootBuiltins "all" = some (.builtin "all")) ?_)
  refine PyProof.Rows.callWith_builtin1 ?_ he (by rfl)
  rw [he]
  refine Calls.spliced_cons (genB (R := fun a H1 => ∀ H2, Tabbed P H1 H2 → Q (.bl (a.cps.toList.all pb)) H2) hr TB hcode S hi hel hs I h fun a H1 g z hR hG => Calls.spliced_nil ?_)
  obtain ⟨fp, wr, G, F, St, W, hst, htr, hI⟩ := hG
  refine call_all_walkS (W.self 0 _ _ _ hst ⟨g, fp, wr, G, _, F, St, _, rfl, W, hst, htr, fun s' hmv => ?_⟩)
  obtain ⟨H2, hT, J⟩ := hI s' hmv
  exact ⟨.bl _, H2, J, rfl, by rw [all_signs a pb]; exact hR H2 hT⟩
end
end MyG

set_option Elab.async false
set_option linter.all false
set_option maxRecDepth 100000
set_option maxHeartbeats 4000000
/-! set(xs) of a list or a tuple, by what one adding does: J i h says what the set at S holds of the first i items in the heap h. -/
namespace MyS
open PySem PySem.Spec PyProof.Rows L2
section
variable {P : Program} {w : World} {A : Around} {E : Value → Shared → Prop} {s : Shared}
/-- one adding -/
def Adds (P : Program) (w : World) (A : Around) (S : Addr) (h0 : Heap) (J : Nat → Heap → Prop) (i : Nat) (v : Value) : Prop :=
  ∀ (z : Shared) (Q : Bool → Shared → Prop) (E : Value → Shared → Prop), J i z.heap → (∀ b o, h0.get? b = some o → z.heap.get? b = some o) →
    (∀ b h' tk, z.toks ≤ tk → Heap.SameBut S z.heap h' → J (i + 1) h' → Q b { z with heap := h', toks := tk }) → wpAny (model P w) A (setAdd S v) Q E z
def KeepsJ (S : Addr) (h0 : Heap) (J : Nat → Heap → Prop) : Prop := ∀ i h h', J i h → (∀ o, h.get? S = some o → h'.get? S = some o) → (∀ b o, h0.get? b = some o → h'.get? b = some o) → J i h'
theorem loopJ {I : Addr} {fp wr : List Addr} {G : Array GenState → Array GenState → Prop} {n : Nat} {Pv : Nat → Value → Prop} {St : Nat → Shared → Prop} {R : Result → Shared → Prop} {J : Nat → Heap → Prop} {S : Addr} {h0 : Heap}
    (W : WalksS P w A.in1 I fp wr G n Pv St) (hSf : S ∉ fp) (hS0 : h0.get? S = none) (hw0 : ∀ b ∈ wr, h0.get? b = none) (kj : KeepsJ S h0 J) (step : ∀ i v, i < n → Pv i v → Adds P w A.in1 S h0 J i v) :
    ∀ (k i : Nat) (z : Shared), n - i = k → i ≤ n → St i z → (∀ b o, h0.get? b = some o → z.heap.get? b = some o) → J i z.heap →
      (∀ z', Moved (S :: wr) G z z' → J n z'.heap → (∀ b o, h0.get? b = some o → z'.heap.get? b = some o) → R (.ok (.ret .none)) z') →
      codeAny (model P w) A (.builtin "set.update.loop" ⟨[.ref S, .ref I], []⟩) R z := by
  have Sw : S ∉ wr := fun h => hSf (W.sub _ h)
  have up : ∀ b ∈ wr, b ∈ S :: wr := fun b hb => List.mem_cons_of_mem _ hb
  have old : ∀ {z z' : Shared}, Moved wr G z z' → (∀ b o, h0.get? b = some o → z.heap.get? b = some o) → ∀ b o, h0.get? b = some o → z'.heap.get? b = some o := fun m k b o e =>
    m.heap b o (fun hb => by rw [hw0 b hb] at e; cases e) (k b o e)
  intro k
  induction k with
  | zero =>
    intro i z hk hi hst hkp hJ hR
    obtain rfl : i = n := by omega
    refine codeAny_builtin F.entry_set_update_loop ?_
    rw [Around.under_plainId F.plain_set_update_loop _]
    show wpAny _ A.in1 (pyNext (.ref I) >>= _) _ _ z
    refine wpAny_bind (W.done z _ _ hst fun z' m => ?_)
    show wpAny _ A.in1 (ret Value.none) _ _ z'
    have o' := old m hkp
    exact wpAny_pure (hR z' (m.mono up) (kj _ _ _ hJ (fun o e => m.heap S o Sw e) o') o')
  | succ k ih =>
    intro i z hk hi hst hkp hJ hR
    have lt : i < n := by omega
    refine codeAny_builtin F.entry_set_update_loop ?_
    rw [Around.under_plainId F.plain_set_update_loop _]
    show wpAny _ A.in1 (pyNext (.ref I) >>= _) _ _ z
    refine wpAny_bind (W.item i z _ _ lt hst fun v z' hP hst' m => ?_)
    have o' := old m hkp
    show wpAny _ A.in1 (holding [v] (setAdd S v) >>= _) _ _ z'
    refine wpAny_bind (wpAny_holding (step i v lt hP z' _ _ (kj _ _ _ hJ (fun o e => m.heap S o Sw e) o') o' fun b h' tk ht sb hJ2 => ?_))
    have nS : ∀ {b : Addr}, b ≠ S → ∀ o, z'.heap.get? b = some o → h'.get? b = some o := fun hb o e => (sb.2 _ hb).trans e
    have o2 : ∀ b o, h0.get? b = some o → h'.get? b = some o := fun b o e => nS (fun q => by rw [q, hS0] at e; cases e) o (o' b o e)
    refine wpAny_pure ⟨plainId_quiet F.plain_set_update_loop _, ih (i + 1) _ (by omega) lt (W.frame _ z' _ _ hst' ht fun b hb o e => nS (fun q => hSf (by rw [← q]; exact hb)) o e) o2 hJ2 fun z2 m2 hJ3 o3 => ?_⟩
    exact hR z2 (Moved.trans W.gtrans ((m.mono up).then_heap ht fun b o hb e => nS (fun q => hb (by rw [q]; exact List.mem_cons_self)) o e) m2) hJ3 o3

abbrev freshSet (w : World) : Obj := { cls := .type "set", dict := none, data := .set #[] 0 (.fresh 0 0 (!w.params.followText "set-order")) }
theorem gone_of {h : Heap} {b : Addr} (hb : h.objs.size ≤ b) : h.get? b = none := by
  cases q : h.get? b with
  | none => rfl
  | some o => exact absurd (Nat.lt_of_lt_of_le (Heap.lt_size q) hb) (Nat.lt_irrefl _)
theorem code_new (a : Value) {Q₁ : Value → Shared → Prop} (h : Q₁ (.ref s.heap.objs.size) { s with heap := s.heap.push (freshSet w) }) :
    codeAny (model P w) A (.call (.builtin "set.__new__") ⟨[.type "set", a], []⟩) (wants Q₁ E) s := code_set_led1 a h
set_option maxHeartbeats 3200000 in
/-- set(l), l a list or a tuple of n items -/
theorem call_setJ {l : Addr} {items : Array Value} {J : Nat → Heap → Prop} {Q : Value → Shared → Prop} (hh : A.handled = none) (hl : s.heap.IsList l items ∨ s.heap.IsTuple l items) (hJ0 : ∀ h, h.get? s.heap.objs.size = some (freshSet w) → J 0 h)
    (kj : KeepsJ s.heap.objs.size s.heap J) (hex : ∀ h, J items.size h → ∃ o, h.get? s.heap.objs.size = some o) (step : ∀ (A' : Around), A'.units ≤ A.units + 4 → ∀ i v, items[i]? = some v → Adds P w A' s.heap.objs.size s.heap J i v)
    (h : ∀ (h' : Heap) (tk : Nat), J items.size h' → (∀ b o, s.heap.get? b = some o → h'.get? b = some o) → (∃ o, h'.get? s.heap.objs.size = some o) → Q (.ref s.heap.objs.size) { s with heap := h', toks := tk }) :
    wpAny (model P w) A (call (.type "set") [.ref l]) Q E s := by
  obtain ⟨c, tl, hmro⟩ := F.called_set.mro
  have hmade := F.called_set.made
  have hsub := F.called_set.sub
  refine wpAny_call (codeAny_of_tree ?_)
  show wpAny _ _ (callAny (.type "set") _) _ _ _
  refine wpAny_pure ⟨Code.quiet_builtin _ (by decide +kernel), codeAny_builtin F.entry_type_call ?_⟩
  rw [Around.under_plain (weight_type_call_type "set" [.ref l] []) rfl]
  have h1 := F.called_set.notType
  have h2 := F.called_set.canCreate
  have hct := F.typeCall_set_1 (.ref l)
  repeat (any_goals (first | assumption | wp_step))

  refine codeAny_mono (code_new (.ref l) (E := E) (Q₁ := fun obj z => obj = .ref s.heap.objs.size ∧ z = { s with heap := s.heap.push (freshSet w) }) ⟨rfl, rfl⟩) fun r z hr => ?_
  cases r with
  | error e => exact hr
  | ok fl =>
    cases fl with
    | ret obj =>
      obtain ⟨rfl, rfl⟩ := hr
      have hS : (s.heap.push (freshSet w)).get? s.heap.objs.size = some (freshSet w) := Heap.get?_push_size _ rfl
      have hT : Shared.TypeIs { s with heap := s.heap.push (freshSet w) } (.ref s.heap.objs.size) "set" := ⟨_, hS, rfl⟩
      have hli := F.called_set.init.lookup
      have hbi := F.called_set.init.bind (.ref s.heap.objs.size)
      repeat (any_goals (first | assumption | wp_step))

      refine codeAny_mono (codeAny_call_builtin (R := wants (fun r z => r = .none ∧ ∃ h' tk, z = { s with heap := h', toks := tk } ∧ J items.size h' ∧ (∀ b o, s.heap.get? b = some o → h'.get? b = some o) ∧ ∃ o, h'.get? s.heap.objs.size = some o) E) F.called_set.init.plain F.entry_set_init (check_set_init_1 hT ?_)) fun r₂ z₂ hr₂ => ?_
      · have hneS : ∀ b o, s.heap.get? b = some o → b ≠ s.heap.objs.size := fun b o e z => Nat.lt_irrefl _ (z ▸ Heap.lt_size e)
        have szp : (s.heap.push (freshSet w)).objs.size = s.heap.objs.size + 1 := Heap.size_push ..
        have hu3 : (A.in1.in1.in1).units ≤ A.units + 4 := by have e : (A.in1.in1.in1).units = A.units + 3 := rfl; omega
        rcases hl with hl | hl
        · obtain ⟨ol, hol, hcl, nl, hdl⟩ := hl
          obtain ⟨ocls, odict, odata, oslots⟩ := ol
          simp only at hcl hdl
          subst hcl; subst hdl
          have hol' : (s.heap.push (freshSet w)).get? l = some { cls := .type "list", dict := odict, data := .seq items nl, slots := oslots } := Heap.get?_push_of_some _ hol
          have hsls := F.sub_list_set
          have hslf := F.sub_list_frozenset
          have hne : (Value.type "list" == Value.type "dict") = false := by decide
          have hl1 : (s.heap.push (freshSet w)).IsList l items := ⟨_, hol', rfl, nl, rfl⟩
          unfold Builtin.«set.__init__» noKeywords Builtin.Frozenset.updateFrom
          generalize hPI : pyIter = PI
          wp_walk
          subst hPI

          refine wpAny_pyIter_list hl1 ?_
          refine wpAny_bind (wpAny_runValue ?_)
          have hlS : l < s.heap.objs.size := Heap.lt_size hol
          have hneI : l ≠ (s.heap.push (freshSet w)).objs.size := by
            rw [szp]; exact Nat.ne_of_lt (Nat.lt_succ_of_lt hlS)
          have hSf : s.heap.objs.size ∉ [(s.heap.push (freshSet w)).objs.size, l] := fun z => by
            rw [szp] at z
            rcases List.mem_cons.mp z with z | z
            · exact Nat.ne_of_lt (Nat.lt_succ_self _) z
            · exact Nat.ne_of_gt hlS (List.mem_singleton.mp z)
          refine loopJ (S := s.heap.objs.size) (h0 := s.heap) (J := J) ((Walks.list (show A.in1.in1.in1.handled = none by simp [hh]) _ l hneI items).toS) hSf (gone_of (Nat.le_refl _)) (fun b hb => gone_of (by
              rw [List.mem_singleton.mp hb, szp]
              exact Nat.le_succ _)) kj (fun i v _ hv => step _ hu3 i v hv) (items.size - 0) 0 _ (by omega) (Nat.zero_le _)
            ⟨⟨_, Heap.get?_push_size _ rfl, rfl, rfl⟩, (hl1.push _)⟩ (fun b o e => Heap.get?_push_of_some _ (Heap.get?_push_of_some _ e)) (hJ0 _ (Heap.get?_push_of_some _ hS)) ?_
          intro z' m hJ o'
          have hso : ∃ o, z'.heap.get? s.heap.objs.size = some o := hex _ hJ
          obtain ⟨h', g2, d', tk', os'⟩ := z'
          have eg : g2 = s.gens := m.gens
          have ed : d' = s.drawn := m.drawn
          have eo : os' = s.os := m.os
          subst eg; subst ed; subst eo
          show wpAny _ _ _ _ _ _
          refine wpAny_pure ?_
          show wpAny _ _ (ret Value.none) _ _ _
          exact wpAny_pure ⟨rfl, h', tk', rfl, hJ, o', hso⟩
        · obtain ⟨ol, hol, hcl, nl, hdl⟩ := hl
          obtain ⟨ocls, odict, odata, oslots⟩ := ol
          simp only at hcl hdl
          subst hcl; subst hdl
          have hol' : (s.heap.push (freshSet w)).get? l = some { cls := .type "tuple", dict := odict, data := .seq items nl, slots := oslots } := Heap.get?_push_of_some _ hol
          have hsls := F.sub_tuple_set
          have hslf := F.sub_tuple_frozenset
          have hne : (Value.type "tuple" == Value.type "dict") = false := by decide
          have hl1 : (s.heap.push (freshSet w)).IsTuple l items := ⟨_, hol', rfl, nl, rfl⟩
          unfold Builtin.«set.__init__» noKeywords Builtin.Frozenset.updateFrom
          generalize hPI : pyIter = PI
          wp_walk
          subst hPI

          refine wpAny_pyIter_tuple hl1 ?_
          refine wpAny_bind (wpAny_runValue ?_)
          have hlS : l < s.heap.objs.size := Heap.lt_size hol
          have hneI : l ≠ (s.heap.push (freshSet w)).objs.size := by
            rw [szp]; exact Nat.ne_of_lt (Nat.lt_succ_of_lt hlS)
          have hSf : s.heap.objs.size ∉ [(s.heap.push (freshSet w)).objs.size, l] := fun z => by
            rw [szp] at z
            rcases List.mem_cons.mp z with z | z
            · exact Nat.ne_of_lt (Nat.lt_succ_self _) z
            · exact Nat.ne_of_gt hlS (List.mem_singleton.mp z)
          refine loopJ (S := s.heap.objs.size) (h0 := s.heap) (J := J) ((Walks.tuple (show A.in1.in1.in1.handled = none by simp [hh]) _ l hneI items).toS) hSf (gone_of (Nat.le_refl _)) (fun b hb => gone_of (by
              rw [List.mem_singleton.mp hb, szp]
              exact Nat.le_succ _)) kj (fun i v _ hv => step _ hu3 i v hv) (items.size - 0) 0 _ (by omega) (Nat.zero_le _)
            ⟨⟨_, Heap.get?_push_size _ rfl, rfl, rfl⟩, (hl1.push _)⟩ (fun b o e => Heap.get?_push_of_some _ (Heap.get?_push_of_some _ e)) (hJ0 _ (Heap.get?_push_of_some _ hS)) ?_
          intro z' m hJ o'
          have hso : ∃ o, z'.heap.get? s.heap.objs.size = some o := hex _ hJ
          obtain ⟨h', g2, d', tk', os'⟩ := z'
          have eg : g2 = s.gens := m.gens
          have ed : d' = s.drawn := m.drawn
          have eo : os' = s.os := m.os
          subst eg; subst ed; subst eo
          show wpAny _ _ _ _ _ _
          refine wpAny_pure ?_
          show wpAny _ _ (ret Value.none) _ _ _
          exact wpAny_pure ⟨rfl, h', tk', rfl, hJ, o', hso⟩
      · cases r₂ with
        | error e => exact hr₂
        | ok fl₂ =>
          cases fl₂ with
          | ret r =>
            obtain ⟨rfl, h', tk, rfl, hJ, hk', ho⟩ := hr₂
            repeat (any_goals (first | assumption | wp_step))
            exact h _ _ hJ hk' ho
          | _ => exact hr₂.elim
    | _ => exact hr.elim
end
end MyS

set_option Elab.async false
set_option linter.all false
set_option maxRecDepth 100000
set_option maxHeartbeats 4000000
/-! len(set(xs)) of a list or a tuple of texts: as many as there are different ones. -/
namespace MyS
open PySem PySem.Spec PyProof.Rows L2
theorem nodup_snoc {α : Type} {l : List α} {x : α} : (l ++ [x]).Nodup ↔ l.Nodup ∧ x ∉ l := by
  rw [List.nodup_append]
  constructor
  · rintro ⟨h1, _, h3⟩
    exact ⟨h1, fun h => h3 x h x (List.mem_singleton.mpr rfl) rfl⟩
  · rintro ⟨h1, h2⟩
    refine ⟨h1, by simp, fun a ha b hb e => ?_⟩
    rw [List.mem_singleton.mp hb] at e
    exact h2 (e ▸ ha)
/-- how many different ones the first i items are: n, whole exactly if they all differ -/
structure Cnt {α : Type} (l : List α) (n : Nat) : Prop where
  le : n ≤ l.length
  eq : n = l.length ↔ l.Nodup
theorem Cnt.nil {α : Type} : Cnt ([] : List α) 0 := ⟨Nat.le_refl _, ⟨fun _ => List.nodup_nil, fun _ => rfl⟩⟩
theorem Cnt.old {α : Type} {l : List α} {n : Nat} {x : α} (c : Cnt l n) (h : x ∈ l) : Cnt (l ++ [x]) n := by
  have h1 := c.le
  refine ⟨by rw [List.length_append]; exact Nat.le_succ_of_le h1, ?_⟩
  rw [List.length_append, List.length_singleton]
  exact ⟨fun e => absurd e (by omega), fun e => absurd h (nodup_snoc.mp e).2⟩
theorem Cnt.new {α : Type} {l : List α} {n : Nat} {x : α} (c : Cnt l n) (h : x ∉ l) : Cnt (l ++ [x]) (n + 1) := by
  have h1 := c.le
  refine ⟨by rw [List.length_append, List.length_singleton]; omega, ?_⟩
  rw [List.length_append, List.length_singleton, nodup_snoc, ← c.eq]
  constructor
  · intro e; exact ⟨by omega, h⟩
  · rintro ⟨e, _⟩; omega
section
variable {P : Program} {w : World} {A : Around} {E : Value → Shared → Prop} {s : Shared}
/-- the set at S behind the first i texts -/
def JT (P : Program) (w : World) (S : Addr) (xs : List Str) (i : Nat) (h : Heap) : Prop := ∃ n M, h.SetOf (PySem.strKind P w) S M n ∧ (∀ k, M k = true ↔ k ∈ xs.take i) ∧ Cnt (xs.take i) n
theorem take_snoc {α : Type} {l : List α} {i : Nat} {x : α} (h : l[i]? = some x) : l.take (i + 1) = l.take i ++ [x] := by rw [List.take_succ, h]; rfl
theorem JT.adds {S : Addr} {xs : List Str} {h0 : Heap} {i : Nat} {x : Str} {t : Tok} (hx : xs[i]? = some x) (hb : xs.length + 1 < scanBound) : Adds P w A S h0 (JT P w S xs) i (.str x t) := by
  intro z Q E hJ hk hQ
  obtain ⟨n, M, hS, hM, hc⟩ := hJ
  have hi : i < xs.length := (List.getElem?_eq_some_iff.mp hx).1
  have hn := hc.le
  rw [List.length_take] at hn
  unfold setAdd
  refine wpAny_holding ?_
  refine wpAny_bind ((PySem.strKind P w).pyHash (k := x) (strKind_is _ _ _ _) ?_)
  refine wpAny_setAddHashed_of (knd := PySem.strKind P w) (s := { z with toks := z.toks + 1 }) (strKind_is _ _ _ _) rfl hS (by omega) fun h' sb hS2 => ?_
  refine hQ _ h' _ (Nat.le_succ _) sb ⟨_, _, hS2, fun k => ?_, ?_⟩
  · rw [take_snoc hx, Bool.or_eq_true, hM k, decide_eq_true_eq, List.mem_append, List.mem_singleton]
  · rw [take_snoc hx]
    by_cases q : M x = true
    · rw [if_pos q]
      exact hc.old ((hM x).mp q)
    · rw [if_neg q]
      exact hc.new fun m => q ((hM x).mpr m)
theorem JT.keeps {S : Addr} {xs : List Str} {h0 : Heap} : KeepsJ S h0 (JT P w S xs) := by
  rintro i h h' ⟨n, M, ⟨o, es, ep, t, ho, r⟩, hM, hc⟩ k1 _
  exact ⟨n, M, ⟨o, es, ep, t, k1 o ho, r⟩, hM, hc⟩
theorem JT.zero {S : Addr} {xs : List Str} {h : Heap} (ho : h.get? S = some (freshSet w)) : JT P w S xs 0 h := by
  refine ⟨0, fun _ => false, ⟨_, #[], 0, _, ho, ⟨rfl, rfl, rfl⟩, rfl, (fun e he => by simp at he), (fun k => by simp), by decide, rfl, rfl⟩, fun k => by simp, Cnt.nil⟩
end
section
variable {X : Cx}
/-- len(set(xs)) -/
def tLenSetS (K : PySem.W.Frag) (ta : TE) : TE := fun σ H Q => ta σ H fun x H1 => ∃ (l : Addr) (xs : List Str), x = .ref l ∧ (SqL K H1 l (xs.map V.str) ∨ SqT K H1 l (xs.map V.str)) ∧ xs.length ≤ 4000 ∧ ∀ n, Cnt xs n → Q (.int (n : Nat)) H1
theorem strs_get {ys : List Str} {us : List Value} (r : Vals (ys.map V.str) us) {i : Nat} {v : Value} (h : us[i]? = some v) : ∃ x t, ys[i]? = some x ∧ v = .str x t := by
  have hl : i < ys.length := by
    have q := (List.getElem?_eq_some_iff.mp h).1
    have e := r.length
    rw [List.length_map] at e
    omega
  obtain ⟨u, e1, e2⟩ := Vals.get r (i := i) (x := V.str ys[i]) (by rw [List.getElem?_map, List.getElem?_eq_getElem hl]; rfl)
  rw [h] at e1
  cases e1
  obtain ⟨t, e⟩ := e2
  exact ⟨ys[i], t, List.getElem?_eq_getElem hl, e⟩
theorem pe_lenSetS {a : Expr} {ta : TE} {p p2 q pos : Pos} (hc : X.calm = true) (hm : X.mg "len" = none) (hm2 : X.mg "set" = none) (ha : PE X a ta) (hg : Gl X "len" := by rfl) (hg2 : Gl X "set" := by rfl)
    (na : starEach [a] X.env = (false, eval a X.env) :: starEach [] X.env := by rfl) : PE X (.Call (.Name "len" p) [.Call (.Name "set" p2) [a] [] q] [] pos) (tLenSetS X.K ta) := by
  refine ⟨fun pins s σ H Q I h => ?_⟩
  refine Call_ (ld_blt I hg hm boot_len ?_)
  refine PyProof.Rows.callWith_builtin1 (PyProof.Rows.args_cons ?_ rfl) rfl rfl
  refine Call_ (ld_blt I hg2 hm2 boot_set ?_)
  refine PyProof.Rows.callWith_type1 (PyProof.Rows.args_cons (thn (ha.run pins s σ H _ I h) fun v s1 ⟨x, H1, I1, r1, q1⟩ => PyProof.Rows.args_nil ?_) na) na rfl
  obtain ⟨l, xs, rfl, hq, h1, q1⟩ := q1
  cases r1
  have go : ∀ (its : List Value), Vals (xs.map V.str) its → (s1.heap.IsList l its.toArray ∨ s1.heap.IsTuple l its.toArray) → wpAny (model X.prog X.w) X.A (call (.type "set") [.ref l])
      (fun v s₂ => wpAny (model X.prog X.w) X.A (spliced (backTo pos (starEach [] X.env))) (fun vs s₃ => wpAny (model X.prog X.w) X.A (call (.builtin "len") (v :: vs)) (EP X pins σ Q) X.xe s₃) X.xe s₂) X.xe s1 := fun its r hl => by
    have hsz : its.toArray.size = xs.length := by rw [List.size_toArray, ← r.length, List.length_map]
    have hbd : xs.length + 1 < scanBound := by unfold scanBound; omega
    refine call_setJ (J := JT X.prog X.w s1.heap.objs.size xs) (I1.ok.hd hc) hl (fun h ho => JT.zero ho) JT.keeps (fun h hJ => ?_) (fun A' _ i v hv => ?_) fun h' tk hJ hk _ => ?_
    · obtain ⟨n, M, ⟨o, es, ep, t, ho, _⟩, _⟩ := hJ
      exact ⟨o, ho⟩
    · obtain ⟨x, t, hx, rfl⟩ := strs_get r (i := i) (v := v) (by simpa using hv)
      exact JT.adds hx hbd
    · rw [hsz] at hJ
      obtain ⟨n, M, ⟨o, es, ep, t, ho, hex, hd, _, _, _, hf, hn⟩, hM, hcn⟩ := hJ
      rw [List.take_length] at hcn
      have I2 : Inv X pins σ H1 { s1 with heap := h', toks := tk } := I1.kept fun b o e => hk b o e
      refine PyProof.Rows.args_nil ?_
      have hle := hcn.le
      refine call_len_set ho hex hd hf (by rw [hn]; omega) ⟨.int (n : Nat), H1, I2.tok _, ⟨_, by rw [hn]⟩, q1 n hcn⟩
  rcases hq with hq | hq
  · obtain ⟨its, r, pl, hz⟩ := I1.list hq
    exact go its r (.inl pl.isList)
  · obtain ⟨its, r, pl, hz⟩ := I1.tuple hq
    exact go its r (.inr (by first | exact pl | exact pl.isTuple))
end
end MyS

set_option Elab.async false
set_option linter.all false
set_option maxRecDepth 100000
set_option maxHeartbeats 4000000
/-! len(set(xs)) of a list of tuples of texts, fewer than 64: over the library's table of a set (TabOk, go_spec, relaid_ok). -/
namespace MyS
open PySem PySem.Spec PyProof.Rows L2
section
variable {P : Program} {w : World} {A : Around} {E : Value → Shared → Prop} {s : Shared}
/-- the tuple at b has the texts k; its hash -/
abbrev IsP (P : Program) (w : World) (h : Heap) (k : List Str) (b : Addr) : Prop := IsTupleKey (PySem.strKind P w) h k b
abbrev hashP (P : Program) (w : World) (k : List Str) : Int := tupleKeyHash (PySem.strKind P w) k
theorem IsP.keep {h h' : Heap} {k : List Str} {b : Addr} (x : IsP P w h k b) (hk : ∀ o, h.get? b = some o → h'.get? b = some o) : IsP P w h' k b :=
  let ⟨o, items, n, ho, r⟩ := x; ⟨o, items, n, hk o ho, r⟩
theorem strs_of {k : List Str} {vs : List Value} (h : ItemsAre (PySem.strKind P w) k vs) : ∀ v ∈ vs, ∃ x t, v = Value.str x t := by
  induction h with
  | nil => intro v hv; cases hv
  | @cons k0 v' ks vs h1 _ ih =>
    intro v hv
    rcases List.mem_cons.mp hv with e | hv
    · obtain ⟨t, e2⟩ := Value.isStrOf_shape h1
      exact ⟨k0, t, e.trans e2⟩
    · exact ih v hv
/-- a text is of no class statement -/
theorem noClass_str (n : Nat) (x : Str) (t : Tok) : ofAClassStatement n (.str x t) = pure false := by cases n <;> rfl
theorem hashBy_str (n : Nat) (x : Str) (t : Tok) : hashByValue n (.str x t) = pure false := by cases n <;> rfl
theorem noClass {k : List Str} {b : Addr} {Q : Bool → Shared → Prop} (hk : IsP P w s.heap k b) (h : Q false s) : wpAny (model P w) A (ofAClassStatement 8 (.ref b)) Q E s := by
  have hT := hk.typeIs
  obtain ⟨o, items, n, ho, _, hd, hi⟩ := hk
  unfold ofAClassStatement
  refine wpAny_bind (wpAny_typeOf hT ?_)
  have e : (("tuple" : String) == "tuple") = true := by decide
  simp only [e, if_true, Bool.not_true, Bool.false_eq_true, if_false]
  try refine wpAny_bind (wpAny_pure ?_)
  try simp only [Bool.not_true, Bool.false_eq_true, if_false]
  show wpAny _ _ (seqItems? (.ref b) >>= _) _ _ s
  refine wpAny_bind (wpAny_seqItems ho hd ?_)
  refine wpAny_bind ?_
  show wpAny _ _ (forIn items _ _) _ _ s
  rw [← Array.forIn_toList]
  refine wpAny_forIn_list _ (fun rest r z => r.1 = none ∧ z = s ∧ ∀ v ∈ rest, ∃ x t, v = Value.str x t) _ ?_ ?_ _ _ ⟨rfl, rfl, strs_of hi⟩
  · rintro v rest r z ⟨hr, rfl, hall⟩
    obtain ⟨x, t, rfl⟩ := hall v List.mem_cons_self
    rw [noClass_str]
    refine wpAny_bind (wpAny_pure ?_)
    simp only [Bool.false_eq_true, if_false]
    exact wpAny_pure ⟨rfl, rfl, fun u hu => hall u (List.mem_cons_of_mem _ hu)⟩
  · rintro ⟨r1, r2⟩ z ⟨hr, rfl, _⟩
    simp only at hr
    subst hr
    exact wpAny_pure h
/-- whether the hash is by value: either answer will do -/
theorem hashBy {k : List Str} {b : Addr} {Q : Bool → Shared → Prop} (hk : IsP P w s.heap k b) (h : ∀ r, Q r s) : wpAny (model P w) A (hashByValue 8 (.ref b)) Q E s := by
  have hT := hk.typeIs
  obtain ⟨o, items, n, ho, _, hd, hi⟩ := hk
  unfold hashByValue
  refine wpAny_bind (wpAny_specialOf hT F.slot_tuple_hash.lookup ?_)
  show wpAny _ _ (seqItems? (.ref b) >>= _) _ _ s
  refine wpAny_bind (wpAny_seqItems ho hd ?_)
  refine wpAny_bind ?_
  show wpAny _ _ (forIn items _ _) _ _ s
  rw [← Array.forIn_toList]
  refine wpAny_forIn_list _ (fun rest r z => r.1 = none ∧ z = s ∧ ∀ v ∈ rest, ∃ x t, v = Value.str x t) _ ?_ ?_ _ _ ⟨rfl, rfl, strs_of hi⟩
  · rintro v rest r z ⟨hr, rfl, hall⟩
    obtain ⟨x, t, rfl⟩ := hall v List.mem_cons_self
    rw [hashBy_str]
    refine wpAny_bind (wpAny_pure ?_)
    simp only [Bool.not_false, if_true]
    exact wpAny_pure (wpAny_pure (h _))
  · rintro ⟨r1, r2⟩ z ⟨hr, rfl, _⟩
    simp only at hr
    subst hr
    exact wpAny_pure (h _)
/-- a search among such tuples shows nothing -/
theorem unseen {k : List Str} {b : Addr} {Q : Bool → Shared → Prop} (hk : IsP P w s.heap k b) {ys : List Value} (hy : ∀ y ∈ ys, ∃ k' c, y = Value.ref c ∧ IsP P w s.heap k' c) (h : Q false s) :
    wpAny (model P w) A (searchCouldBeSeen (.ref b) ys) Q E s := by
  unfold searchCouldBeSeen
  refine wpAny_bind ?_
  refine wpAny_forIn_list _ (fun rest r z => r.1 = none ∧ z = s ∧ ∀ y ∈ rest, ∃ k' c, y = Value.ref c ∧ IsP P w s.heap k' c) _ ?_ ?_ _ _ ⟨rfl, rfl, hy⟩
  · rintro v rest r z ⟨hr, rfl, hall⟩
    obtain ⟨k', c, rfl, hc⟩ := hall v List.mem_cons_self
    have more : ∀ y ∈ rest, ∃ k' c, y = Value.ref c ∧ IsP P w z.heap k' c := fun u hu => hall u (List.mem_cons_of_mem _ hu)
    by_cases hv : (b == c || (carriedByValue (.ref b) && carriedByValue (.ref c))) = true
    · refine wp_if_pos hv ?_
      exact wpAny_pure ⟨rfl, rfl, more⟩
    · refine wp_if_neg hv ?_
      refine wpAny_bind (wpAny_eqIsQuiet_tuple hk ?_)
      simp only [Bool.not_true, Bool.false_eq_true, if_false]
      refine wpAny_bind (wpAny_eqIsQuiet_tuple hc ?_)
      simp only [Bool.not_true, Bool.false_eq_true, if_false]
      refine wpAny_bind (noClass hk ?_)
      simp only [Bool.false_eq_true, if_false]
      refine wpAny_bind (noClass hc ?_)
      simp only [Bool.false_eq_true, if_false]
      exact wpAny_pure ⟨rfl, rfl, more⟩
  · rintro ⟨r1, r2⟩ z ⟨hr, rfl, _⟩
    simp only at hr
    subst hr
    exact wpAny_pure h

/-! ### the set at a, its tuples in the table's order -/
def rowP (P : Program) (w : World) (p : Addr × List Str) : Int × Value := (hashP P w p.2, .ref p.1)
structure PSet (P : Program) (w : World) (h : Heap) (a : Addr) (L : List (Addr × List Str)) (es : Array (Int × Value)) (ep : Nat) (t : SetTable) : Prop where
  ob : ∃ o, h.get? a = some o ∧ o.ExactSet ∧ o.data = .set es ep t
  rows : es.toList = L.map (rowP P w)
  tab : TabOk t (L.map fun p => hashP P w p.2)
  nd : (L.map (·.2)).Nodup
  tup : ∀ p ∈ L, IsP P w h p.2 p.1
  room : L.length * 5 < t.mask * 3
  few : L.length < 64
variable {a : Addr} {L : List (Addr × List Str)} {es : Array (Int × Value)} {ep : Nat} {t : SetTable}
theorem PSet.size (R : PSet P w s.heap a L es ep t) : es.size = L.length := by
  have h := congrArg List.length R.rows
  rwa [Array.length_toList, List.length_map] at h
theorem PSet.fits (R : PSet P w s.heap a L es ep t) : t.fits es.size = true := by
  have h1 := R.tab.sz
  rw [List.length_map] at h1
  have h2 := R.size
  have h3 := R.room
  unfold SetTable.fits SetTable.fill
  rw [R.tab.dm, Bool.and_eq_true, beq_iff_eq, decide_eq_true_eq]
  show t.place.size = es.size ∧ t.place.size + 0 ≤ t.mask
  omega
theorem PSet.entry (R : PSet P w s.heap a L es ep t) {i : Nat} {p : Addr × List Str} (h : L[i]? = some p) : es[i]? = some (rowP P w p) := by
  rw [← Array.getElem?_toList, R.rows, List.getElem?_map, h]
  rfl
/-- the way of the hash g through the table: the probe behind k steps -/
abbrev stepP (m : Nat) (g : Int) (k : Nat) : SetTable.Probe := nth m (runAt m (SetTable.bits g % (m + 1)) (SetTable.bits g)) k
theorem stepP_add (m : Nat) (g : Int) (c q : Nat) : nth m (stepP m g c) q = stepP m g (c + q) := (nth_add m c _ q).symm
theorem stepP_clean (m : Nat) (g : Int) (c : Nat) : (stepP m g c).dummy = none := by
  have key : ∀ (n : Nat) (p : SetTable.Probe), p.dummy = none → (nth m p n).dummy = none := by
    intro n
    induction n with
    | zero => intro p h; exact h
    | succ n ih =>
      intro p h
      refine ih (adv m p) ?_
      unfold adv
      split <;> exact h
  exact key c _ rfl
/-- what is asked of the search for k among L: found, or the first free slot of the way -/
structure Seek (P : Program) (w : World) (t : SetTable) (L : List (Addr × List Str)) (k : List Str) (K : Nat) (Q : SetFound → Shared → Prop) (z : Shared) : Prop where
  few : K < 10 * SetTable.turns t.mask
  free : way t.mask (hashP P w k) K ∉ t.place.toList
  full : ∀ c, c < K → way t.mask (hashP P w k) c ∈ t.place.toList
  hit : k ∈ L.map (·.2) → Q (.there none) z
  miss : k ∉ L.map (·.2) → Q (.free (way t.mask (hashP P w k) K) false) z
theorem seek {x : Addr} {k : List Str} {K : Nat} {Q : SetFound → Shared → Prop} (R : PSet P w s.heap a L es ep t) (hx : IsP P w s.heap k x) (hu : A.units < cLine) (B : Seek P w t L k K Q s) :
    ∀ (f c : Nat) (stand : Option SetTable.Probe), stand.getD (t.probeStart (hashP P w k)) = stepP t.mask (hashP P w k) c → c ≤ K → K - c < f →
      (∀ (i : Nat) p, L[i]? = some p → p.2 = k → ∃ c', c ≤ c' ∧ c' < K ∧ t.place.toList[i]? = some (way t.mask (hashP P w k) c')) →
      wpAny (model P w) A (setSearchFrom a (.ref x) (hashP P w k) true f stand) Q E s
  | 0, c, stand, _, _, hf, _ => absurd hf (Nat.not_lt_zero _)
  | f + 1, c, stand, hst, hc, hf, hre => by
    obtain ⟨o, ho, hex, hd⟩ := R.ob
    rw [setSearchFrom_succ]
    refine wpAny_bind (wpAny_setState_of ho hd R.fits ?_)
    dsimp only
    refine wp_if_neg (by unfold SetTable.gaveWay; rw [mask_odd R.tab.mok]; decide) ?_
    try refine wpAny_bind (wpAny_pure ?_)
    have at_ : ∀ q, (nth t.mask (stepP t.mask (hashP P w k) c) q).j = way t.mask (hashP P w k) (c + q) := fun q => congrArg SetTable.Probe.j (stepP_add _ _ _ _)
    have hashAt : ∀ (i : Nat) p, L[i]? = some p → (fun i => (es[i]?.map (·.1)).getD 0) i = hashP P w p.2 := fun i p hp => by
      show (es[i]?.map (·.1)).getD 0 = _
      rw [R.entry hp]
      rfl
    rcases go_spec t R.tab.ris R.tab.dm (fun i => (es[i]?.map (·.1)).getD 0) (hashP P w k) (10 * SetTable.turns t.mask) (K - c) _ (stepP_clean t.mask (hashP P w k) c) (by have := B.few; omega)
      (fun q hq => by rw [at_]; exact B.full (c + q) (by omega)) (by rw [at_, show c + (K - c) = K by omega]; exact B.free) with ⟨q, i, hq, hi, hh, hno, hpr⟩ | ⟨hno, hpr⟩
    · -- a candidate: the entry i at the slot of the step c + q
      have hpr' : t.probe (fun i => (es[i]?.map (·.1)).getD 0) (hashP P w k) (stand.getD (t.probeStart (hashP P w k))) = some (.candidate (way t.mask (hashP P w k) (c + q)) i (stepP t.mask (hashP P w k) (c + (q + 1)))) := by
        rw [hst, ← at_, ← stepP_add]
        exact hpr
      rw [hpr']
      dsimp only
      rw [at_] at hi
      have hil : i < L.length := by
        have h1 : i < t.place.toList.length := (List.getElem?_eq_some_iff.mp hi).1
        have h2 := R.tab.sz
        rw [List.length_map] at h2
        rw [Array.length_toList] at h1
        omega
      obtain ⟨p, hp⟩ : ∃ p, L[i]? = some p := ⟨_, List.getElem?_eq_getElem hil⟩
      have pm : p ∈ L := List.mem_of_getElem? hp
      have rest : wpAny (model P w) A (searchRest a (.ref x) (hashP P w k) true f es t (way t.mask (hashP P w k) (c + q)) i (stepP t.mask (hashP P w k) (c + (q + 1)))) Q E s := by
        unfold searchRest
        rw [R.entry hp]
        dsimp only [rowP]
        refine wpAny_bind (wpAny_holding (wpAny_eqBool_tuple hu (R.tup p pm) hx ?_))
        refine wpAny_bind (wpAny_setState_of ho hd R.fits ?_)
        dsimp only
        by_cases hkk : p.2 = k
        · refine wp_if_pos (by simp [hkk]) ?_
          exact wpAny_pure (B.hit (List.mem_map.mpr ⟨p, pm, hkk⟩))
        · refine wp_if_neg (by simp [hkk]) ?_
          try refine wpAny_bind (wpAny_pure ?_)
          rw [sameMem]
          dsimp only
          have hsl : t.slot (way t.mask (hashP P w k) (c + q)) = .live i := slot_live R.tab.ris hi
          simp only [if_true, hsl, R.entry hp, rowP]
          refine wpAny_bind (wpAny_isSame_ref_self (wpAny_bind (wpAny_pure ?_)))
          simp only [if_true]
          refine wp_if_neg (by simp [hkk]) ?_
          refine seek R hx hu B f (c + (q + 1)) _ rfl (by omega) (by omega) fun i0 p0 h0 hk0 => ?_
          obtain ⟨c', a1, a2, a3⟩ := hre i0 p0 h0 hk0
          refine ⟨c', ?_, a2, a3⟩
          -- what has k is not behind us
          rcases Nat.lt_trichotomy c' (c + q) with y | y | y
          · exact absurd ((hashAt i0 p0 h0).trans (congrArg (hashP P w) hk0)) (hno (c' - c) i0 (by omega) (by rw [at_, show c + (c' - c) = c' by omega]; exact a3))
          · rw [y] at a3
            have s0 := (slot_live R.tab.ris a3).symm.trans hsl
            injection s0 with s0
            rw [s0, hp] at h0
            cases h0
            exact absurd hk0 hkk
          · omega
      by_cases hl : t.led = true
      · refine wp_if_neg (by simp [hl]) ?_
        try refine wpAny_bind (wpAny_pure ?_)
        exact rest
      · refine wp_if_pos (by simp [hl]) ?_
        refine wpAny_bind (unseen hx (fun y hy => ?_) ?_)
        · obtain ⟨e, he, ee⟩ := List.mem_map.mp hy
          have he1 : e ∈ es ∧ e.1 = hashP P w k := by simpa using he
          have he2 : e ∈ es.toList := by simpa using he1.1
          rw [R.rows] at he2
          obtain ⟨p2, hp2, e2⟩ := List.mem_map.mp he2
          exact ⟨p2.2, p2.1, by rw [← ee, ← e2]; rfl, R.tup p2 hp2⟩
        · refine wp_if_neg (by decide) ?_
          try refine wpAny_bind (wpAny_pure ?_)
          exact rest
    · -- the way's first free slot
      have hpr' : t.probe (fun i => (es[i]?.map (·.1)).getD 0) (hashP P w k) (stand.getD (t.probeStart (hashP P w k))) = some (.empty (way t.mask (hashP P w k) K) none) := by
        have e2 : way t.mask (hashP P w k) K = (nth t.mask (stepP t.mask (hashP P w k) c) (K - c)).j := by rw [at_, show c + (K - c) = K by omega]
        rw [hst, e2]
        exact hpr
      rw [hpr']
      dsimp only
      refine wpAny_pure (B.miss fun hm => ?_)
      obtain ⟨p0, h0, hk0⟩ := List.mem_map.mp hm
      obtain ⟨i0, hi0, e0⟩ := List.getElem_of_mem h0
      have h00 : L[i0]? = some p0 := by rw [List.getElem?_eq_getElem hi0, e0]
      obtain ⟨c', a1, a2, a3⟩ := hre i0 p0 h00 hk0
      exact hno (c' - c) i0 (by omega) (by rw [at_, show c + (c' - c) = c' by omega]; exact a3) ((hashAt i0 p0 h00).trans (congrArg (hashP P w) hk0))
/-- the search as adding asks for it -/
theorem seek_all {x : Addr} {k : List Str} {Q : SetFound → Shared → Prop} (R : PSet P w s.heap a L es ep t) (hx : IsP P w s.heap k x) (hu : A.units < cLine) (hit : k ∈ L.map (·.2) → Q (.there none) s)
    (miss : ∀ K, k ∉ L.map (·.2) → way t.mask (hashP P w k) K ∉ t.place.toList → (∀ c, c < K → way t.mask (hashP P w k) c ∈ t.place.toList) → Q (.free (way t.mask (hashP P w k) K) false) s) :
    wpAny (model P w) A (setSearch a (.ref x) (hashP P w k) true) Q E s := by
  have hroom := R.room
  obtain ⟨K, f1, f2, f3⟩ := R.tab.first (by rw [List.length_map]; omega) (hashP P w k)
  have big : K < 100000 := by
    have : 10 * SetTable.turns t.mask ≤ 1420 := by
      unfold SetTable.turns
      rcases R.tab.mok with e | e | e <;> omega
    omega
  unfold setSearch
  refine seek R hx hu ⟨f1, f2, f3, hit, fun hn => miss K hn f2 f3⟩ 100000 0 none rfl (Nat.zero_le _) (by omega) fun i p hp hk => ?_
  have hi : (L.map fun p => hashP P w p.2)[i]? = some (hashP P w k) := by rw [List.getElem?_map, hp, ← hk]; rfl
  have hil : i < t.place.toList.length := by
    have h1 : i < L.length := (List.getElem?_eq_some_iff.mp hp).1
    have h2 := R.tab.sz
    rw [List.length_map] at h2
    rw [Array.length_toList]
    omega
  obtain ⟨c, hc, e⟩ := R.tab.before f2 hi (List.getElem?_eq_getElem hil)
  exact ⟨c, Nat.zero_le _, hc, by rw [List.getElem?_eq_getElem hil, e]⟩
/-- the entries in another order -/
theorem reorder {α : Type} (row : α → Int × Value) (L : List α) (es : Array (Int × Value)) (order : Array Nat) (hr : es.toList = L.map row) (hp : order.toList.Perm (List.range L.length)) :
    ∃ L2 : List α, (order.filterMap (es[·]?)).toList = L2.map row ∧ L2.Perm L ∧ (L2.map fun p => (row p).1) = order.toList.map fun i => (es.map (·.1)).getD i 0 := by
  have at_ : ∀ i, es[i]? = (L[i]?).map row := fun i => by rw [← Array.getElem?_toList, hr, List.getElem?_map]
  have all : (List.range L.length).filterMap (fun i => L[i]?) = L := by
    have key : ∀ n, n ≤ L.length → (List.range n).filterMap (fun i => L[i]?) = L.take n := by
      intro n
      induction n with
      | zero => intro _; rfl
      | succ n ih =>
        intro hn
        have hlt : n < L.length := hn
        rw [List.range_succ, List.filterMap_append, ih (Nat.le_of_lt hlt), List.take_succ, List.getElem?_eq_getElem hlt]
        simp [List.getElem?_eq_getElem hlt]
    rw [key L.length (Nat.le_refl _), List.take_length]
  refine ⟨order.toList.filterMap (fun i => L[i]?), ?_, ?_, ?_⟩
  · rw [Array.toList_filterMap, List.map_filterMap]
    congr 1
    funext i
    exact at_ i
  · have h := hp.filterMap (fun i => L[i]?)
    rwa [all] at h
  · have hlt : ∀ i ∈ order.toList, i < L.length := fun i hi => List.mem_range.mp (hp.mem_iff.mp hi)
    generalize order.toList = l at hlt
    induction l with
    | nil => rfl
    | cons i l ih =>
      have hi := hlt i List.mem_cons_self
      rw [List.filterMap_cons_some (List.getElem?_eq_getElem hi), List.map_cons, List.map_cons, ih fun j hj => hlt j (List.mem_cons_of_mem _ hj)]
      have e5 : (es.map (·.1))[i]? = some (row L[i]).1 := by rw [Array.getElem?_map, at_, List.getElem?_eq_getElem hi]; rfl
      simp [Array.getD_eq_getD_getElem?, e5]
end
end MyS

set_option Elab.async false
set_option linter.all false
set_option maxRecDepth 100000
set_option maxHeartbeats 4000000
/-! A tuple of texts is added to a set; len(set(xs)) of a list of such. -/
namespace MyS
open PySem PySem.Spec PyProof.Rows L2
section
variable {P : Program} {w : World} {A : Around} {E : Value → Shared → Prop} {s : Shared}
variable {a : Addr} {L : List (Addr × List Str)} {es : Array (Int × Value)} {ep : Nat} {t : SetTable}
theorem IsP.other {h h' : Heap} {k : List Str} {a b : Addr} {o : Obj} {es : Array (Int × Value)} {ep : Nat} {t : SetTable} (hb : IsP P w h k b) (ho : h.get? a = some o) (hd : o.data = .set es ep t) (hs : Heap.SameBut a h h') : IsP P w h' k b := by
  obtain ⟨o', items, n, ho', r⟩ := hb
  have hne : b ≠ a := fun z => by
    rw [z, ho] at ho'
    cases ho'
    rw [hd] at r
    exact nomatch r.2.1
  exact ⟨o', items, n, (hs.2 b hne).trans ho', r⟩
/-- TabOk looks at the places, the dummies and the mask alone -/
theorem tabOk_congr {t u : SetTable} {hs : List Int} (T : TabOk t hs) (e1 : u.place = t.place) (e2 : u.dummies = t.dummies) (e3 : u.mask = t.mask) : TabOk u hs := by
  obtain ⟨h1, h2, h3, h4, h5, h6⟩ := T
  constructor
  · rw [e1]; exact h1
  · rw [e2]; exact h2
  · rw [e1]; exact h3
  · rw [e3]; exact h4
  · intro x hx; rw [e3]; rw [e1] at hx; exact h5 x hx
  · intro i g j hi hj
    rw [e1] at hj
    obtain ⟨k, c1, c2⟩ := h6 i g j hi hj
    exact ⟨k, by rw [e3]; exact c1, fun k' hk' => by rw [e3, e1]; exact c2 k' hk'⟩
/-- the table laid anew, larger -/
theorem relayP {o : Obj} (ho : s.heap.get? a = some o) (hex : o.ExactSet) (hd : o.data = .set es ep t) (rows : es.toList = L.map (rowP P w)) (T : TabOk t (L.map fun p => hashP P w p.2)) (hfl : L.length ≤ t.mask)
    (nd : (L.map (·.2)).Nodup) (tup : ∀ p ∈ L, IsP P w s.heap p.2 p.1) (few : L.length < 64) {wanted M : Nat}
    (hw : SetTable.sizeAbove wanted - 1 = M) (hM : MaskOk M) (hw2 : SetTable.sizeAbove wanted ≤ 128) (hn : L.length * 5 < M * 3) {Q : Unit → Shared → Prop}
    (hQ : ∀ h' L' es' ep' t', Heap.SameBut a s.heap h' → PSet P w h' a L' es' ep' t' → L'.Perm L → Q () { s with heap := h' }) : wpAny (model P w) A (setRelay a wanted) Q E s := by
  have hsl : es.size = L.length := by
    have h := congrArg List.length rows
    rwa [Array.length_toList, List.length_map] at h
  have hsz := T.sz
  rw [List.length_map] at hsz
  have hfits : t.fits es.size = true := by
    unfold SetTable.fits SetTable.fill
    rw [T.dm, Bool.and_eq_true, beq_iff_eq, decide_eq_true_eq]
    show t.place.size = es.size ∧ t.place.size + 0 ≤ t.mask
    omega
  obtain ⟨t', order, e, hp, T', em, el, epl, ed⟩ := relaid_ok t (hs := es.map (·.1)) (wanted := wanted) hw hM (by rw [Array.size_map, hsl]; omega)
  rw [Array.size_map, hsl] at hp
  obtain ⟨L2, r1, r2, r3⟩ := reorder (rowP P w) L es order rows hp
  rw [← r3] at T'
  have hs2 : (order.filterMap (es[·]?)).size = es.size := by
    have h := congrArg List.length r1
    rw [Array.length_toList, List.length_map, r2.length_eq] at h
    rw [h, hsl]
  rw [setRelay_eq]
  refine wpAny_bind (wpAny_setState_of ho hd hfits ?_)
  dsimp only
  refine wp_if_neg (by rw [sizeLine_eq]; omega) ?_
  try refine wpAny_bind (wpAny_pure ?_)
  rw [e]
  dsimp only
  refine wpAny_bind ?_
  refine wp_if_neg (by rw [hs2]; simp) ?_
  try refine wpAny_bind (wpAny_pure ?_)
  refine wpAny_pure ?_
  dsimp only
  refine wpAny_storeSet_of ho hd ?_ (by rw [hs2, hsl, sizeLine_eq]; omega)
  have sb : Heap.SameBut a s.heap (s.heap.update a (Obj.putSet (order.filterMap (es[·]?)) t')) := Heap.SameBut.update ..
  refine hQ _ L2 (order.filterMap (es[·]?)) (ep + 1) t' sb ⟨⟨_, store_at ho hd, ⟨hex.1, hex.2.1, hex.2.2⟩, rfl⟩, r1, T', (r2.map (·.2)).nodup_iff.mpr nd, fun p hpm => (tup p (r2.mem_iff.mp hpm)).other ho hd sb, ?_, by rw [r2.length_eq]; exact few⟩ r2
  rw [r2.length_eq, em]
  exact hn
theorem put_perm' {α : Type} (L : List α) (p : Nat) (x : α) : (L.take p ++ x :: L.drop p).Perm (x :: L) := L2.put_perm L p x
/-- the tail of an adding: the new tuple is laid down, and the table grows where it is too full -/
theorem tailP {o : Obj} (ho : s.heap.get? a = some o) (hex : o.ExactSet) (hd : o.data = .set es ep t) {L1 : List (Addr × List Str)} {es1 : Array (Int × Value)} {u : SetTable} (hsl : es.size = L.length) (hmok : MaskOk t.mask) (hroom : L.length * 5 < t.mask * 3)
    (hin : es1.toList = L1.map (rowP P w)) (T : TabOk u (L1.map fun p => hashP P w p.2)) (hmask : u.mask = t.mask) (hps : u.place.size = L.length + 1) (hlen : L1.length = L.length + 1) (nd1 : (L1.map (·.2)).Nodup) (tup1 : ∀ h', Heap.SameBut a s.heap h' → ∀ p ∈ L1, IsP P w h' p.2 p.1) (hfew : L.length + 1 < 64) {Q : Bool → Shared → Prop}
    (hQ : ∀ h' L' es' ep' t', Heap.SameBut a s.heap h' → PSet P w h' a L' es' ep' t' → L'.Perm L1 → Q true { s with heap := h' }) :
    wpAny (model P w) A (do
      storeSet a es1 u
      if !false && u.tooFull then setRelay a (SetTable.grown (es.size + 1))
      return true) Q E s := by
  have hes : es1.size = L.length + 1 := by
    have h := congrArg List.length hin
    rw [Array.length_toList, List.length_map, hlen] at h
    exact h
  refine wpAny_bind (wpAny_storeSet_of ho hd ?_ (by rw [hes, sizeLine_eq]; omega))
  have sb : Heap.SameBut a s.heap (s.heap.update a (Obj.putSet es1 u)) := Heap.SameBut.update ..
  have ho1 := store_at (es' := es1) (t' := u) ho hd
  have tup2 := tup1 _ sb
  generalize s.heap.update a (Obj.putSet es1 u) = h1 at sb ho1 tup2 ⊢
  have hfill : u.tooFull = true ↔ (L.length + 1) * 5 ≥ u.mask * 3 := by
    unfold SetTable.tooFull SetTable.fill
    rw [decide_eq_true_eq, T.dm]
    show (u.place.size + 0) * 5 ≥ u.mask * 3 ↔ _
    rw [hps]
  by_cases hf : u.tooFull = true
  · first
      | (refine wpAny_bind ?_; refine wp_if_pos (by simp [hf]) ?_)
      | (refine wp_if_pos (by simp [hf]) ?_; refine wpAny_bind ?_)
    have hfull := hfill.mp hf
    rw [hmask] at hfull
    rw [hsl]
    have cases2 : (t.mask = 7 ∧ L.length = 4) ∨ (t.mask = 31 ∧ L.length = 18) := by
      rcases hmok with e | e | e
      · left; rw [e] at hfull hroom; exact ⟨e, by omega⟩
      · right; rw [e] at hfull hroom; exact ⟨e, by omega⟩
      · exfalso; rw [e] at hfull; omega
    have go : ∀ M, SetTable.sizeAbove (SetTable.grown (L.length + 1)) - 1 = M → MaskOk M → SetTable.sizeAbove (SetTable.grown (L.length + 1)) ≤ 128 → (L.length + 1) * 5 < M * 3 →
        wpAny (model P w) A (setRelay a (SetTable.grown (L.length + 1))) (fun _ s' => wpAny (model P w) A (pure true) Q E s') E { s with heap := h1 } := fun M h1' h2' h3' h4' => by
      refine relayP (s := { s with heap := h1 }) ho1 ⟨hex.1, hex.2.1, hex.2.2⟩ rfl hin T (by rw [hlen, hmask]; rcases cases2 with ⟨e, e2⟩ | ⟨e, e2⟩ <;> omega) nd1 tup2 (by rw [hlen]; exact hfew) h1' h2' h3' (by rw [hlen]; exact h4') ?_
      intro h2 L2 es2 ep2 t2 sb2 R2 pm2
      exact wpAny_pure (hQ h2 L2 es2 ep2 t2 (sb.trans sb2) R2 pm2)
    rcases cases2 with ⟨_, e2⟩ | ⟨_, e2⟩
    · refine go 31 (by rw [e2, size_20]) (.inr (.inl rfl)) (by rw [e2, size_20]; decide) (by omega)
    · refine go 127 (by rw [e2, size_76]) (.inr (.inr rfl)) (by rw [e2, size_76]; decide) (by omega)
  · first
      | refine wp_if_neg (by simp [hf]) ?_
      | (refine wpAny_bind ?_; refine wp_if_neg (by simp [hf]) ?_; refine wpAny_pure ?_)
    refine wpAny_pure (hQ h1 L1 es1 (ep + 1) u sb ⟨⟨_, ho1, ⟨hex.1, hex.2.1, hex.2.2⟩, rfl⟩, hin, T, nd1, tup2, ?_, by rw [hlen]; exact hfew⟩ (List.Perm.refl _))
    have h := mt hfill.mpr hf
    rw [hlen]
    omega
/-- ADDING: what is there stays as it is; what isn't comes to it -/
theorem addP (R : PSet P w s.heap a L es ep t) {x : Addr} {k : List Str} (hx : IsP P w s.heap k x) (hu : A.units < cLine) (hfew : L.length + 1 < 64) {Q : Bool → Shared → Prop}
    (hQ : ∀ b h' L' es' ep' t', Heap.SameBut a s.heap h' → PSet P w h' a L' es' ep' t' → (k ∈ L.map (·.2) → L' = L) → (k ∉ L.map (·.2) → L'.Perm ((x, k) :: L)) → Q b { s with heap := h' }) :
    wpAny (model P w) A (setAddHashed a (.ref x) (hashP P w k)) Q E s := by
  obtain ⟨o, ho, hex, hd⟩ := R.ob
  have hsl := R.size
  have hroom := R.room
  unfold setAddHashed
  refine wpAny_holding ?_
  rw [show (100000 : Nat) = 99999 + 1 from rfl, setAddHashedIn_succ]
  refine wpAny_bind (wpAny_setState_of ho hd R.fits ?_)
  dsimp only
  refine wp_if_neg (by simp [byScan, Value.scannable]) ?_
  try refine wpAny_bind (wpAny_pure ?_)
  refine wpAny_bind (seek_all R hx hu (fun hm => ?_) fun K hm hK hb => ?_)
  · exact wpAny_pure (hQ false s.heap L es ep t (Heap.SameBut.refl a s.heap) R (fun _ => rfl) fun z => absurd hm z)
  · dsimp only
    refine wpAny_bind (wpAny_setState_of ho hd R.fits ?_)
    dsimp only
    obtain ⟨q1, q2, q3, q4, q5, q6, q7, q8, q9⟩ := R.tab.put hK hb
    have hin : (SetTable.insertAt es (SetTable.below t.place (way t.mask (hashP P w k) K)) (hashP P w k, Value.ref x)).toList = (L.take (SetTable.below t.place (way t.mask (hashP P w k) K)) ++ (x, k) :: L.drop (SetTable.below t.place (way t.mask (hashP P w k) K))).map (rowP P w) := by
      rw [SetTable.toList_insertAt, R.rows, List.map_append, List.map_cons, List.map_take, List.map_drop]
      rfl
    have pm := put_perm' L (SetTable.below t.place (way t.mask (hashP P w k) K)) (x, k)
    have hhs : (L.take (SetTable.below t.place (way t.mask (hashP P w k) K)) ++ (x, k) :: L.drop (SetTable.below t.place (way t.mask (hashP P w k) K))).map (fun p => hashP P w p.2) = (L.map fun p => hashP P w p.2).take (SetTable.below t.place (way t.mask (hashP P w k) K)) ++ hashP P w k :: (L.map fun p => hashP P w p.2).drop (SetTable.below t.place (way t.mask (hashP P w k) K)) := by
      rw [List.map_append, List.map_cons, List.map_take, List.map_drop]
    generalize hpt : t.put (way t.mask (hashP P w k) K) = pt at q1 q3 q4 q5 q6 q7 q8 q9 ⊢
    obtain ⟨t1, p⟩ := pt
    dsimp only at q1 q3 q4 q5 q6 q7 q8 q9 ⊢
    subst q1
    generalize hpp : SetTable.below t.place (way t.mask (hashP P w k) K) = p at q2 q3 hin pm hhs ⊢
    have hlen : (L.take p ++ (x, k) :: L.drop p).length = L.length + 1 := pm.length_eq
    rw [← hhs] at q3
    have nd1 : ((L.take p ++ (x, k) :: L.drop p).map (·.2)).Nodup := by
      refine (pm.map (·.2)).nodup_iff.mpr ?_
      rw [List.map_cons]
      exact List.nodup_cons.mpr ⟨hm, R.nd⟩
    generalize SetTable.insertAt es p (hashP P w k, Value.ref x) = es1 at hin ⊢
    generalize L.take p ++ (x, k) :: L.drop p = L1 at pm hlen q3 nd1 hin
    have tup1 : ∀ h1, Heap.SameBut a s.heap h1 → ∀ p ∈ L1, IsP P w h1 p.2 p.1 := fun h1 sb p hp => by
      rcases List.mem_cons.mp (pm.mem_iff.mp hp) with e | hp
      · rw [e]; exact IsP.other hx ho hd sb
      · exact IsP.other (R.tup p hp) ho hd sb
    have hps : t1.place.size = L.length + 1 := by
      have h := q3.sz
      rw [List.length_map, hlen] at h
      exact h
    have fin : ∀ u : SetTable, u.place = t1.place → u.dummies = t1.dummies → u.mask = t1.mask → wpAny (model P w) A (do
        storeSet a es1 u
        if !false && u.tooFull then setRelay a (SetTable.grown (es.size + 1))
        return true) Q E s := fun u e1 e2 e3 =>
      tailP ho hex hd hsl R.tab.mok hroom hin (tabOk_congr q3 e1 e2 e3) (e3.trans q4) (by rw [e1]; exact hps) hlen nd1 tup1 hfew fun h' L' es' ep' t' sb R' pm' => hQ true h' L' es' ep' t' sb R' (fun z => absurd z hm) fun _ => pm'.trans pm
    have both : ∀ r : Bool, wpAny (model P w) A (do
        storeSet a es1 (if r then t1 else { t1 with plain := false })
        if !false && (if r then t1 else { t1 with plain := false }).tooFull then setRelay a (SetTable.grown (es.size + 1))
        return true) Q E s := fun r => by
      cases r
      · exact fin _ rfl rfl rfl
      · exact fin _ rfl rfl rfl
    by_cases hp1 : t1.plain = true
    · first
        | (refine wpAny_bind ?_; refine wp_if_pos hp1 ?_; refine hashBy hx fun r => ?_)
        | refine wp_if_pos hp1 (wpAny_bind (hashBy hx fun r => ?_))
      exact both r
    · first
        | (refine wpAny_bind ?_; refine wp_if_neg hp1 ?_; refine wpAny_pure ?_)
        | refine wp_if_neg hp1 (wpAny_bind (wpAny_pure ?_))
        | refine wp_if_neg hp1 ?_
      exact both true
end
end MyS

set_option Elab.async false
set_option linter.all false
set_option maxRecDepth 100000
set_option maxHeartbeats 4000000
/-! len(set(xs)) of a list or a tuple of tuples of texts, fewer than 64. -/
namespace MyS
open PySem PySem.Spec PyProof.Rows L2
section
variable {P : Program} {w : World} {A : Around} {E : Value → Shared → Prop} {s : Shared}
/-- the set at S behind the first i tuples -/
def JP (P : Program) (w : World) (h0 : Heap) (S : Addr) (ks : List (List Str)) (i : Nat) (h : Heap) : Prop :=
  ∃ L es ep t, PSet P w h S L es ep t ∧ (∀ p ∈ L, IsP P w h0 p.2 p.1) ∧ (∀ k, k ∈ L.map (·.2) ↔ k ∈ ks.take i) ∧ Cnt (ks.take i) L.length
theorem JP.adds {S : Addr} {ks : List (List Str)} {h0 : Heap} {i : Nat} {k : List Str} {x : Addr} (hx : ks[i]? = some k) (hb : ks.length < 64) (ht : IsP P w h0 k x) (hu : A.units < cLine) : Adds P w A S h0 (JP P w h0 S ks) i (.ref x) := by
  intro z Q E hJ hk hQ
  obtain ⟨L, es, ep, t, R, h0t, hM, hc⟩ := hJ
  have hi : i < ks.length := (List.getElem?_eq_some_iff.mp hx).1
  have hn := hc.le
  rw [List.length_take] at hn
  have hz : IsP P w z.heap k x := ht.keep fun o e => hk x o e
  unfold setAdd
  refine wpAny_holding ?_
  refine wpAny_bind (wpAny_pyHash_tuple hu hz ?_)
  refine addP (s := { z with toks := z.toks + (k.length + 1) }) R hz hu (by omega) fun b h' L' es' ep' t' sb R' c1 c2 => ?_
  refine hQ _ h' _ (Nat.le_add_right _ _) sb ⟨L', es', ep', t', R', ?_⟩
  rw [take_snoc hx]
  by_cases c : k ∈ L.map (·.2)
  · have e := c1 c
    subst e
    refine ⟨h0t, fun q => ?_, hc.old ((hM k).mp c)⟩
    rw [List.mem_append, List.mem_singleton, hM q]
    exact ⟨.inl, fun h => h.elim id fun e => e ▸ (hM k).mp c⟩
  · have pm := c2 c
    refine ⟨fun p hp => ?_, fun q => ?_, ?_⟩
    · rcases List.mem_cons.mp (pm.mem_iff.mp hp) with e | hp
      · rw [e]; exact ht
      · exact h0t p hp
    · rw [(pm.map (·.2)).mem_iff, List.map_cons, List.mem_cons, List.mem_append, List.mem_singleton, hM q]
      exact ⟨fun h => h.elim .inr .inl, fun h => h.elim .inr .inl⟩
    · rw [pm.length_eq, List.length_cons]
      exact hc.new fun m => c ((hM k).mpr m)
theorem JP.keeps {S : Addr} {ks : List (List Str)} {h0 : Heap} : KeepsJ S h0 (JP P w h0 S ks) := by
  rintro i h h' ⟨L, es, ep, t, R, h0t, r⟩ k1 k2
  obtain ⟨o, ho, r1⟩ := R.ob
  exact ⟨L, es, ep, t, ⟨⟨o, k1 o ho, r1⟩, R.rows, R.tab, R.nd, fun p hp => (h0t p hp).keep fun o e => k2 p.1 o e, R.room, R.few⟩, h0t, r⟩
theorem JP.zero {S : Addr} {ks : List (List Str)} {h h0 : Heap} (ho : h.get? S = some (freshSet w)) : JP P w h0 S ks 0 h := by
  refine ⟨[], #[], 0, _, ⟨⟨_, ho, ⟨rfl, rfl, rfl⟩, rfl⟩, rfl, ⟨List.Pairwise.nil, rfl, rfl, .inl rfl, fun x hx => (by cases hx), fun i h j hi => (by simp at hi)⟩, List.nodup_nil, fun p hp => (by cases hp), (by show 0 * 5 < 7 * 3; decide), (by show 0 < 64; decide)⟩, fun p hp => (by cases hp), fun k => by simp, ?_⟩
  rw [List.take_zero]
  exact Cnt.nil
end
theorem strItems_of_vals (P : Program) (w : World) : ∀ {k : List Str} {us : List Value}, Vals (k.map V.str) us → ItemsAre (PySem.strKind P w) k us
  | [], _, .nil => .nil
  | n :: k, _, .cons r t => by
    obtain ⟨tk, rfl⟩ := r
    exact .cons (strKind_is P w n tk) (strItems_of_vals P w t)
section
variable {X : Cx}
theorem Inv_isP {pins : List (Addr × Obj)} {σ : L2.St} {H : Hp} {s : Shared} {b : Addr} {k : List Str} (I : Inv X pins σ H s) (h : SqT X.K H b (k.map V.str)) : IsP X.prog X.w s.heap k b := by
  obtain ⟨its, r, ⟨o, ho, hc, n, hd⟩, _⟩ := I.tuple h
  exact ⟨o, its.toArray, n, ho, hc, hd, by simpa using strItems_of_vals _ _ r⟩
/-- len(set(xs)), xs tuples of texts -/
def tLenSetP (K : PySem.W.Frag) (ta : TE) : TE := fun σ H Q => ta σ H fun x H1 => ∃ (l : Addr) (ks : List (Addr × List Str)), x = .ref l ∧ (SqL K H1 l (ks.map fun p => V.ref p.1) ∨ SqT K H1 l (ks.map fun p => V.ref p.1)) ∧ (∀ p ∈ ks, SqT K H1 p.1 (p.2.map V.str)) ∧ ks.length < 64 ∧ ∀ n, Cnt (ks.map (·.2)) n → Q (.int (n : Nat)) H1
theorem refsP : ∀ {ks : List (Addr × List Str)} {us : List Value}, Vals (ks.map fun p => V.ref p.1) us → us = ks.map fun p => Value.ref p.1
  | [], _, .nil => rfl
  | p :: ks, _, .cons r t => by
    cases r
    rw [refsP t] <;> rfl
theorem pe_lenSetP {a : Expr} {ta : TE} {p p2 q pos : Pos} (hc : X.calm = true) (hu : X.A.units + 64 < cLine) (hm : X.mg "len" = none) (hm2 : X.mg "set" = none) (ha : PE X a ta) (hg : Gl X "len" := by rfl) (hg2 : Gl X "set" := by rfl)
    (na : starEach [a] X.env = (false, eval a X.env) :: starEach [] X.env := by rfl) : PE X (.Call (.Name "len" p) [.Call (.Name "set" p2) [a] [] q] [] pos) (tLenSetP X.K ta) := by
  refine ⟨fun pins s σ H Q I h => ?_⟩
  refine Call_ (ld_blt I hg hm boot_len ?_)
  refine PyProof.Rows.callWith_builtin1 (PyProof.Rows.args_cons ?_ rfl) rfl rfl
  refine Call_ (ld_blt I hg2 hm2 boot_set ?_)
  refine PyProof.Rows.callWith_type1 (PyProof.Rows.args_cons (thn (ha.run pins s σ H _ I h) fun v s1 ⟨x, H1, I1, r1, q1⟩ => PyProof.Rows.args_nil ?_) na) na rfl
  obtain ⟨l, ks, rfl, hq, ht, h1, q1⟩ := q1
  cases r1
  have go : ∀ (its : List Value), Vals (ks.map fun p => V.ref p.1) its → (s1.heap.IsList l its.toArray ∨ s1.heap.IsTuple l its.toArray) → wpAny (model X.prog X.w) X.A (call (.type "set") [.ref l])
      (fun v s₂ => wpAny (model X.prog X.w) X.A (spliced (backTo pos (starEach [] X.env))) (fun vs s₃ => wpAny (model X.prog X.w) X.A (call (.builtin "len") (v :: vs)) (EP X pins σ Q) X.xe s₃) X.xe s₂) X.xe s1 := fun its r hl => by
    have hits := refsP r
    have hsz : its.toArray.size = ks.length := by rw [List.size_toArray, hits, List.length_map]
    refine call_setJ (J := JP X.prog X.w s1.heap s1.heap.objs.size (ks.map (·.2))) (I1.ok.hd hc) hl (fun h ho => JP.zero ho) JP.keeps (fun h hJ => ?_) (fun A' hA i v hv => ?_) fun h' tk hJ hk _ => ?_
    · obtain ⟨L, es, ep, t, R, _⟩ := hJ
      obtain ⟨o, ho, _⟩ := R.ob
      exact ⟨o, ho⟩
    · have e1 : (ks.map fun p => Value.ref p.1)[i]? = some v := by rw [← hits]; simpa using hv
      rw [List.getElem?_map] at e1
      obtain ⟨p, hp, rfl⟩ := Option.map_eq_some_iff.mp e1
      exact JP.adds (k := p.2) (by rw [List.getElem?_map, hp]; rfl) (by rw [List.length_map]; exact h1) (Inv_isP I1 (ht p (List.mem_of_getElem? hp))) (by omega)
    · rw [hsz] at hJ
      obtain ⟨L, es, ep, t, R, _, hM, hcn⟩ := hJ
      rw [show ks.length = (ks.map (·.2)).length by rw [List.length_map], List.take_length] at hcn
      have I2 : Inv X pins σ H1 { s1 with heap := h', toks := tk } := I1.kept fun b o e => hk b o e
      refine PyProof.Rows.args_nil ?_
      have hle := hcn.le
      obtain ⟨o, ho, hex, hd⟩ := R.ob
      have hfew := R.few
      refine call_len_set ho hex hd (R.fits (s := { s1 with heap := h', toks := tk })) (by rw [R.size (s := { s1 with heap := h', toks := tk })]; omega) ⟨.int (L.length : Nat), H1, I2.tok _, ⟨_, by rw [R.size (s := { s1 with heap := h', toks := tk })]⟩, q1 L.length hcn⟩
  rcases hq with hq | hq
  · obtain ⟨its, r, pl, hz⟩ := I1.list hq
    exact go its r (.inl pl.isList)
  · obtain ⟨its, r, pl, hz⟩ := I1.tuple hq
    exact go its r (.inr (by first | exact pl | exact pl.isTuple))
end
end MyS

set_option Elab.async false
set_option linter.all false
set_option maxRecDepth 100000
set_option maxHeartbeats 4000000
/-! sorted(xs) of a list or a tuple: of texts, of pairs of texts, of tuples told apart by their first text. -/
namespace MyS
open PySem PySem.Spec PyProof.Rows L2
open SrtO hiding Str
/-! ### the order of texts -/
def slt (a b : Str) : Bool := decide (a.cps.toList < b.cps.toList)
theorem str_ext {a b : Str} (h : a.cps.toList = b.cps.toList) : a = b := by
  obtain ⟨x⟩ := a
  obtain ⟨y⟩ := b
  exact congrArg PySem.Str.mk (Array.toList_inj.mp h)
theorem slt_iff {a b : Str} : slt a b = true ↔ a.cps.toList < b.cps.toList := decide_eq_true_iff
theorem slt_no {a b : Str} : slt a b = false ↔ ¬ a.cps.toList < b.cps.toList := decide_eq_false_iff_not
theorem slt_irr (a : Str) : slt a a = false := slt_no.mpr (List.lt_irrefl _)
theorem slt_asym {a b : Str} (h : slt a b = true) : slt b a = false := slt_no.mpr fun k => List.lt_irrefl _ (List.lt_trans (slt_iff.mp h) k)
theorem slt_tri {a b : Str} (h1 : slt a b = false) (h2 : slt b a = false) : a = b :=
  str_ext (List.le_antisymm (List.not_lt.mp (slt_no.mp h2)) (List.not_lt.mp (slt_no.mp h1)))
theorem slt_ntr {x y z : Str} (h1 : slt y x = false) (h2 : slt z y = false) : slt z x = false :=
  slt_no.mpr (List.not_lt.mpr (List.le_trans (List.not_lt.mp (slt_no.mp h1)) (List.not_lt.mp (slt_no.mp h2))))
theorem slt_trans {x y z : Str} (h1 : slt x y = true) (h2 : slt y z = true) : slt x z = true := slt_iff.mpr (List.lt_trans (slt_iff.mp h1) (slt_iff.mp h2))
/-- pairs: the first, then the second -/
def slt2 (p q : Str × Str) : Bool := if p.1 = q.1 then slt p.2 q.2 else slt p.1 q.1
theorem swo_s : Swo slt := ⟨fun x y h => slt_asym h, fun x y z h1 h2 => slt_ntr h1 h2⟩
theorem slt2_eq {p q : Str × Str} (h : p.1 = q.1) : slt2 p q = slt p.2 q.2 := if_pos h
theorem slt2_ne {p q : Str × Str} (h : ¬ p.1 = q.1) : slt2 p q = slt p.1 q.1 := if_neg h
theorem swo_s2 : Swo slt2 := by
  refine ⟨fun x y h => ?_, fun x y z h1 h2 => ?_⟩
  · by_cases e : x.1 = y.1
    · rw [slt2_eq e] at h
      rw [slt2_eq e.symm]
      exact slt_asym h
    · rw [slt2_ne e] at h
      rw [slt2_ne (fun c => e c.symm)]
      exact slt_asym h
  · by_cases e : z.1 = x.1
    · rw [slt2_eq e]
      by_cases e1 : y.1 = x.1
      · rw [slt2_eq e1] at h1
        rw [slt2_eq (e.trans e1.symm)] at h2
        exact slt_ntr h1 h2
      · rw [slt2_ne e1] at h1
        rw [slt2_ne (fun c => e1 (c.symm.trans e)), e] at h2
        exact absurd (slt_tri h1 h2) e1
    · rw [slt2_ne e]
      by_cases e1 : y.1 = x.1
      · rw [slt2_ne (fun c => e (c.trans e1)), e1] at h2
        exact h2
      · rw [slt2_ne e1] at h1
        by_cases e2 : z.1 = y.1
        · rw [e2]; exact h1
        · rw [slt2_ne e2] at h2
          exact slt_ntr h1 h2
theorem swo_of {α β : Type} {lt : β → β → Bool} (O : Swo lt) (f : α → β) : Swo fun x y => lt (f x) (f y) := ⟨fun x y => O.asym (f x) (f y), fun x y z => O.tr (f x) (f y) (f z)⟩
section
variable {prog : Program} {w : World} {A : Around} {E : Value → Shared → Prop} {s : Shared}
/-- collecting a tuple -/
theorem collect_tup {l : Addr} {vs : List Value} {Q : List Value → Shared → Prop} (hl : s.heap.IsTuple l vs.toArray)
    (h : Q vs { s with heap := (s.heap.push (seqObj "list" #[] 0)).update s.heap.objs.size (Obj.mapSeq (· ++ vs.toArray)) }) (hsz : vs.length ≤ sizeLine) :
    wpAny (model prog w) A (collect (.ref l)) Q E s := by
  obtain ⟨o, ho, hc, n, hd⟩ := id hl
  unfold collect
  refine wpAny_bind (wpAny_runValue (codeAny_builtin entry_proto_collect' ?_))
  show wpAny _ _ (do again (.builtin "list.__iadd__" ⟨[← newList [], .ref l], []⟩)) _ _ s
  refine wpAny_bind (wpAny_newList (wpAny_pure ⟨Code.quiet_builtin _ (by decide +kernel), codeAny_builtin entry_list_iadd' ?_⟩))
  show wpAny _ _ (Builtin.List.listExtendWith (.ref s.heap.objs.size) (.ref l) (.ref s.heap.objs.size)) _ _ { s with heap := s.heap.push (seqObj "list" #[] 0) }
  unfold Builtin.List.listExtendWith
  have ho' : (s.heap.push (seqObj "list" #[] 0)).get? l = some o := Heap.get?_push_of_some _ ho
  refine wpAny_bind (wpAny_typeOf (T := "tuple") ⟨o, ho', hc⟩ ?_)
  have ht : (Value.type "tuple" == Value.type "tuple") = true := by rfl
  rw [if_pos (by rw [ht]; simp)]
  refine wpAny_bind (listItems_at ho' hd ?_)
  refine wpAny_bind (listItems_at (xs := #[]) (n := 0) (Heap.get?_push_size _ rfl) rfl ?_)
  rw [if_neg (by simp)]
  refine wpAny_bind (listUpdate_at (xs := #[]) (n := 0) (Heap.get?_push_size _ rfl) rfl ?_ (Nat.zero_le _) (by show (#[] ++ vs.toArray).size ≤ sizeLine + 1; simp only [Array.size_append, List.size_toArray, List.length_nil]; omega))
  refine wpAny_pure ?_
  show wpAny (model prog w) A (do
      let o ← load s.heap.objs.size
      match o.data with
      | .seq xs _ => pure xs.toList
      | _ => unsupported "internal:collect") Q E { s with heap := (s.heap.push (seqObj "list" #[] 0)).update s.heap.objs.size (Obj.mapSeq (· ++ vs.toArray)) }
  refine wpAny_bind (wpAny_load (get?_update_seq (Heap.get?_push_size _ rfl) _) ?_)
  show wpAny _ _ (pure ((#[] : Array Value) ++ vs.toArray).toList) Q E _
  rw [show ((#[] : Array Value) ++ vs.toArray).toList = vs by simp]
  exact wpAny_pure h
/-- sorted(l), l a list or a tuple -/
theorem sorted_seq {l : Addr} {vs : List Value} {ltv : Value → Value → Bool} {Q : Value → Shared → Prop} (O : Swo ltv) (hl : s.heap.IsList l vs.toArray ∨ s.heap.IsTuple l vs.toArray) (hz : vs.length ≤ sizeLine)
    (hS : 2 ≤ vs.length → ∀ (h₁ : Heap) (a : Addr), h₁.get? a = some (seqObj "list" vs.toArray 0) → (∀ b o, s.heap.get? b = some o → b ≠ a ∧ h₁.get? b = some o) → SortableO prog w A.in1.in1 { s with heap := h₁ } a vs ltv)
    (h : ∀ out : List Value, Srtd ltv out → Stb ltv out vs → Q (.ref (s.heap.objs.size + 1)) { s with heap := sortedAll s.heap vs out.toArray }) :
    wpAny (model prog w) A (call (.builtin "sorted") [.ref l]) Q E s := by
  rcases hl with hl | hl
  · exact sorted_ord O hl hz hS h
  refine Calls.call_function_entry kind_sorted plain_sorted entry_sorted (args_sorted1 _) ?_
  unfold Builtin.«sorted»
  refine wpAny_bind (m := checkCount "sorted" 1 1 _) (wpAny_pure ?_)
  refine wpAny_bind (collect_tup hl ?_ hz)
  refine wpAny_bind (wpAny_newList ?_ hz)
  have hsz : ((s.heap.push (seqObj "list" #[] 0)).update s.heap.objs.size (Obj.mapSeq (· ++ vs.toArray))).objs.size = s.heap.objs.size + 1 := by
    rw [Heap.size_update, size_push']
  have hoL : (((s.heap.push (seqObj "list" #[] 0)).update s.heap.objs.size (Obj.mapSeq (· ++ vs.toArray))).push (seqObj "list" vs.toArray 0)).get? (s.heap.objs.size + 1) = some (seqObj "list" vs.toArray 0) := by
    rw [← hsz]; exact Heap.get?_push_size _ rfl
  have keep : ∀ b o, s.heap.get? b = some o → b ≠ s.heap.objs.size + 1 ∧ (((s.heap.push (seqObj "list" #[] 0)).update s.heap.objs.size (Obj.mapSeq (· ++ vs.toArray))).push (seqObj "list" vs.toArray 0)).get? b = some o := fun b o q => by
    have hlt : b < s.heap.objs.size := Heap.lt_size q
    refine ⟨Nat.ne_of_lt (Nat.lt_succ_of_lt hlt), Heap.get?_push_of_some _ ?_⟩
    rw [Heap.get?_update_ne _ _ _ _ (Nat.ne_of_lt hlt)]
    exact Heap.get?_push_of_some _ q
  show wpAny _ _ _ _ _ { s with heap := ((s.heap.push (seqObj "list" #[] 0)).update s.heap.objs.size (Obj.mapSeq (· ++ vs.toArray))).push (seqObj "list" vs.toArray 0) }
  rw [hsz]
  refine wpAny_bind (wpAny_holding (wpAny_call_entry slot_list_sort ⟨_, hoL, rfl⟩ entry_list_sort (list_sort_ord O hoL hz (fun h2 => hS h2 _ _ hoL keep) fun out hs hb => ⟨_, rfl, ?_⟩) (args_list_sort _)))
  exact wpAny_pure ⟨_, rfl, h out hs hb⟩
/-! ### texts -/
def sv : Value → Str
  | .str x _ => x
  | _ => ⟨#[]⟩
theorem strs_cmp {vs : List Value} (hI : ∀ v ∈ vs, ∃ x t, v = Value.str x t) : Cmp prog w A s oneType' (fun p => p.1 ∈ vs) (lt2 fun v u => slt (sv v) (sv u)) := by
  intro p q hm hm'
  obtain ⟨a, t, e⟩ := hI _ hm
  obtain ⟨b, u, e'⟩ := hI _ hm'
  show wpAny (model prog w) A (keyLt' oneType' p.1 q.1) (fun r s' => s' = s ∧ r = slt (sv p.1) (sv q.1)) (fun _ _ => False) s
  rw [e, e', keyLt'_oneType]
  exact oneLt_str ⟨rfl, rfl⟩
theorem strs_sortable {a : Addr} {vs : List Value} {ss : List Str} (hI : StrsAre vs ss) (h2 : 2 ≤ vs.length) : SortableO prog w A s a vs fun v u => slt (sv v) (sv u) := by
  intro h' _
  refine ⟨oneType', fun Q E hq => ?_, strs_cmp hI.all⟩
  match vs, hI, h2 with
  | v1 :: v2 :: rest, hI, _ =>
    rw [keyKind_strs hI]
    exact wpAny_pure hq
  | [], _, h => exact absurd h (by decide)
  | [v], _, h => exact absurd h (by simp)
theorem sv_strs : ∀ {vs : List Value} {ss : List Str}, StrsAre vs ss → vs.map sv = ss
  | _, _, .nil => rfl
  | _, _, .cons n t r => congrArg (n :: ·) (sv_strs r)
theorem strs_sv : ∀ {vs : List Value}, (∀ v ∈ vs, ∃ x t, v = Value.str x t) → StrsAre vs (vs.map sv)
  | [], _ => .nil
  | v :: vs, h => by
    obtain ⟨i, t, e⟩ := h v List.mem_cons_self
    subst e
    exact .cons i t (strs_sv fun u hu => h u (List.mem_cons_of_mem _ hu))
end
/-- ascending -/
def Asc (ys : List Str) : Prop := ys.Pairwise fun a b => slt b a = false
section
variable {X : Cx}
/-- sorted(xs), texts, a list or a tuple of them -/
def rSortSQ (K : PySem.W.Frag) : List V → Hp → VK → Prop := fun vs H Q => ∃ (a : Addr) (xs : List Str), vs = [V.ref a] ∧ (SqL K H a (xs.map V.str) ∨ SqT K H a (xs.map V.str)) ∧
  ∀ (ys : List Str) (p : Addr), ys.Perm xs → Asc ys → H p = none → Q (.ref p) (upd H p (.lst (ys.map V.str)))
theorem cr_sortSQ : CallR X (.builtin "sorted") (rSortSQ X.K) := by
  intro pins s σ H vs us Q I r h
  obtain ⟨a, xs, rfl, hs, q⟩ := h
  rw [Vals.ref1 r]
  have go : ∀ (its : List Value), Vals (xs.map V.str) its → (s.heap.IsList a its.toArray ∨ s.heap.IsTuple a its.toArray) → (xs.map V.str).length ≤ sizeLine → wpAny (model X.prog X.w) X.A (call (.builtin "sorted") [.ref a]) (EP X pins σ Q) X.xe s := fun its rv hl hz => by
    have hi := rv.strs
    refine sorted_seq (swo_of swo_s sv) hl (by rw [← rv.length]; exact hz) (fun h2 h₁ a' _ _ => strs_sortable hi h2) fun out h1 h2 => ?_
    have ho : ∀ v ∈ out, ∃ x t, v = Value.str x t := fun v hv => hi.all v (h2.perm.mem_iff.mp hv)
    have pm : (out.map sv).Perm xs := by
      have q := h2.perm.map sv
      rw [sv_strs hi] at q
      exact q
    obtain ⟨ep, he'⟩ := PyProof.Rows.sortedAll_at s.heap its out.toArray
    have hlen : ((out.map sv).map V.str).length ≤ sizeLine := by
      rw [List.length_map, pm.length_eq]
      rw [List.length_map] at hz
      exact hz
    exact ⟨.ref _, upd H (s.heap.objs.size + 1) (.lst ((out.map sv).map V.str)), I.laid (t' := s.toks) (fun _ _ => PyProof.Rows.sortedAll_old) (Nat.le_succ _) ⟨hlen, out, ep, vals_of_strs (strs_sv ho), he'⟩, rfl, q _ _ pm (List.pairwise_map.mpr h1) (I.hok.fresh (Nat.le_succ _))⟩
  rcases hs with hs | hs
  · obtain ⟨its, rv, pl, hz⟩ := I.list hs
    exact go its rv (.inl pl.isList) (by first | exact hz | (rw [rv.length]; exact hz))
  · obtain ⟨its, rv, pl, hz⟩ := I.tuple hs
    exact go its rv (.inr (by first | exact pl | exact pl.isTuple)) (by first | exact hz | (rw [rv.length]; exact hz))
end
end MyS

set_option Elab.async false
set_option linter.all false
set_option maxRecDepth 100000
set_option maxHeartbeats 4000000
/-! sorted(xs), xs a list of tuples: pairs of texts, or tuples told apart by their first text. -/
namespace MyS
open PySem PySem.Spec PyProof.Rows L2
open SrtO hiding Str
section
variable {prog : Program} {w : World} {A : Around} {E : Value → Shared → Prop} {s : Shared}
/-- v is a tuple with these items -/
def IsTp (h : Heap) (v : Value) (a : Str) (r : List Value) : Prop := ∃ (b : Addr) (o : Obj) (xs : Array Value) (n : Nat) (t : Tok), v = .ref b ∧ h.get? b = some o ∧ o.cls = .type "tuple" ∧ o.data = .seq xs n ∧ xs.toList = .str a t :: r
theorem IsTp.keeps {h h' : Heap} {v : Value} {a : Str} {r : List Value} (x : IsTp h v a r) (k : ∀ b o, h.get? b = some o → o.cls = .type "tuple" → h'.get? b = some o) : IsTp h' v a r := by
  obtain ⟨b, o, xs, n, t, e, ho, hc, q⟩ := x
  exact ⟨b, o, xs, n, t, e, k b o ho hc, hc, q⟩
theorem firstsS {h : Heap} : ∀ {vs : List Value}, (∀ v ∈ vs, ∃ a r, IsTp h v a r) → ∃ fs : List Value, PySem.W.KatTups h vs fs ∧ fs.length = vs.length ∧ ∀ f ∈ fs, ∃ x t, f = Value.str x t
  | [], _ => ⟨[], PySem.W.KatTups.nil, rfl, fun _ hm => by simp at hm⟩
  | v :: vs, hp => by
    obtain ⟨fs, h1, h2, h3⟩ := firstsS (vs := vs) fun v' hm => hp v' (List.mem_cons_of_mem _ hm)
    obtain ⟨a, r, b, o, xs, n, t, e, ho, hc, hd, hx⟩ := hp v (List.mem_cons_self ..)
    subst e
    refine ⟨.str a t :: fs, PySem.W.KatTups.cons ho hc hd (by rw [← Array.getElem?_toList, hx]; rfl) h1, by rw [List.length_cons, List.length_cons, h2], fun f hm => ?_⟩
    rcases List.mem_cons.mp hm with rfl | hm
    · exact ⟨a, t, rfl⟩
    · exact h3 f hm
theorem kat_self {b fin : Bool} {Q : Bool → Shared → Prop} : ∀ (r : List Value) (i : Nat), Q fin s → PySem.W.KatLex prog w A b fin Q (r.zip r) i s
  | [], _, h => PySem.W.kat_nil h
  | v :: r, i, h => PySem.W.kat_cons (SeqAt.EqAt.same v prog w _ _ (PySem.W.kat_yes (kat_self r (i + 1) h)))
theorem slt_eqF {a b : Str} (h : a = b) : slt a b = false := by rw [h]; exact slt_irr b
/-- tuples told apart by their first text -/
theorem first_cmp {vs : List Value} {k : Value → Str} (hp : ∀ v ∈ vs, ∃ r, IsTp s.heap v (k v) r) (ne : ∀ v ∈ vs, ∀ u ∈ vs, k v = k u → v = u) : Cmp prog w A s (tuples' true) (fun p => p.1 ∈ vs) (lt2 fun v u => slt (k v) (k u)) := by
  intro p q hm hm'
  obtain ⟨r, b, o, xs, n, t, e, ho, hc, hd, hx⟩ := hp _ hm
  obtain ⟨r', b', o', xs', n', t', e', ho', hc', hd', hx'⟩ := hp _ hm'
  have hne := ne _ hm _ hm'
  show wpAny (model prog w) A (keyLt' (tuples' true) p.1 q.1) (fun r s' => s' = s ∧ r = slt (k p.1) (k q.1)) (fun _ _ => False) s
  generalize k p.1 = x at *
  generalize k q.1 = y at *
  rw [e, e'] at hne ⊢
  refine PySem.W.kat_lt ho hd ho' hd' ?_
  rw [hx, hx']
  show PySem.W.KatLex prog w A true (decide (xs.size < xs'.size)) _ ((.str x t, .str y t') :: r.zip r') 0 s
  refine PySem.W.kat_cons (SeqAt.EqAt.str_str x t y t' prog w _ _ ?_)
  refine PySem.W.kat_go (fun e1 => ?_) (fun e1 => ?_)
  · have ex : x = y := by simpa using e1
    have eb : Value.ref b = Value.ref b' := hne ex
    injection eb with eb
    subst eb
    obtain rfl : o = o' := Option.some.inj (ho.symm.trans ho')
    have e2 : PySem.Data.seq xs n = PySem.Data.seq xs' n' := hd.symm.trans hd'
    injection e2 with e2 e3
    subst e2
    have e4 := (List.cons.inj (hx.symm.trans hx')).2
    subst e4
    refine PySem.W.kat_yes (kat_self r 1 ⟨rfl, ?_⟩)
    rw [slt_eqF ex]
    exact decide_eq_false (Nat.lt_irrefl _)
  · exact PySem.W.kat_no (oneLt_str ⟨rfl, rfl⟩)
/-- pairs of texts -/
theorem pairs_cmp {vs : List Value} {k : Value → Str × Str} (hp : ∀ v ∈ vs, ∃ t, IsTp s.heap v (k v).1 [.str (k v).2 t]) : Cmp prog w A s (tuples' true) (fun p => p.1 ∈ vs) (lt2 fun v u => slt2 (k v) (k u)) := by
  intro p q hm hm'
  obtain ⟨t2, b, o, xs, n, t, e, ho, hc, hd, hx⟩ := hp _ hm
  obtain ⟨t2', b', o', xs', n', t', e', ho', hc', hd', hx'⟩ := hp _ hm'
  show wpAny (model prog w) A (keyLt' (tuples' true) p.1 q.1) (fun r s' => s' = s ∧ r = slt2 (k p.1) (k q.1)) (fun _ _ => False) s
  generalize k p.1 = x at *
  generalize k q.1 = y at *
  rw [e, e']
  have sz : xs.size = 2 := by rw [← Array.length_toList, hx]; rfl
  have sz' : xs'.size = 2 := by rw [← Array.length_toList, hx']; rfl
  refine PySem.W.kat_lt ho hd ho' hd' ?_
  rw [hx, hx', sz, sz']
  show PySem.W.KatLex prog w A true (decide (2 < 2)) _ [(.str x.1 t, .str y.1 t'), (.str x.2 t2, .str y.2 t2')] 0 s
  refine PySem.W.kat_cons (SeqAt.EqAt.str_str x.1 t y.1 t' prog w _ _ ?_)
  refine PySem.W.kat_go (fun e1 => ?_) (fun e1 => ?_)
  · have ex : x.1 = y.1 := by simpa using e1
    refine PySem.W.kat_yes (PySem.W.kat_cons (SeqAt.EqAt.str_str x.2 t2 y.2 t2' prog w _ _ ?_))
    refine PySem.W.kat_go (fun e2 => ?_) (fun e2 => ?_)
    · have ey : x.2 = y.2 := by simpa using e2
      refine PySem.W.kat_yes (PySem.W.kat_nil ⟨rfl, ?_⟩)
      rw [slt2_eq ex, slt_eqF ey]
      rfl
    · refine PySem.W.kat_no (PySem.W.kat_one _ _ ?_)
      refine PyProof.Rows.lt_str ?_
      exact ⟨rfl, (slt2_eq ex).symm⟩
  · have ex : ¬ x.1 = y.1 := by simpa using e1
    exact PySem.W.kat_no (oneLt_str ⟨rfl, (slt2_ne ex).symm⟩)
theorem tps_kind {vs : List Value} (h0 : 0 < vs.length) (hp : ∀ v ∈ vs, ∃ a r, IsTp s.heap v a r) {Q : SortKind → Shared → Prop} (hq : Q (tuples' true) s) : wpAny (model prog w) A (keyKind' vs.toArray) Q E s := by
  obtain ⟨fs, h1, h2, h3⟩ := firstsS hp
  refine PySem.W.kat_kind (T := .type "str") h1 (by omega) (fun f hm => ?_) (by rfl) ?_
  · obtain ⟨x, t, rfl⟩ := h3 f hm
    exact PySem.W.Looks.now
  · have e : (Value.type "str" != Value.type "tuple") = true := by first | decide +kernel | rfl | decide
    rw [e]
    exact hq
theorem first_sortable {a : Addr} {vs : List Value} {k : Value → Str} (h0 : 0 < vs.length) (hp : ∀ v ∈ vs, ∃ r, IsTp s.heap v (k v) r) (ne : ∀ v ∈ vs, ∀ u ∈ vs, k v = k u → v = u) (ha : ∀ o, s.heap.get? a = some o → o.cls ≠ .type "tuple") : SortableO prog w A s a vs fun v u => slt (k v) (k u) := by
  intro h' keep
  have hp' : ∀ v ∈ vs, ∃ r, IsTp h' v (k v) r := fun v hm => let ⟨r, z⟩ := hp v hm; ⟨r, z.keeps fun b o e c => keep b o (fun z => by subst z; exact ha o e c) e⟩
  exact ⟨tuples' true, fun Q E hq => tps_kind h0 (fun v hm => let ⟨r, z⟩ := hp' v hm; ⟨_, r, z⟩) hq, first_cmp hp' ne⟩
theorem pairs_sortable {a : Addr} {vs : List Value} {k : Value → Str × Str} (h0 : 0 < vs.length) (hp : ∀ v ∈ vs, ∃ t, IsTp s.heap v (k v).1 [.str (k v).2 t]) (ha : ∀ o, s.heap.get? a = some o → o.cls ≠ .type "tuple") : SortableO prog w A s a vs fun v u => slt2 (k v) (k u) := by
  intro h' keep
  have hp' : ∀ v ∈ vs, ∃ t, IsTp h' v (k v).1 [.str (k v).2 t] := fun v hm => let ⟨r, z⟩ := hp v hm; ⟨r, z.keeps fun b o e c => keep b o (fun z => by subst z; exact ha o e c) e⟩
  exact ⟨tuples' true, fun Q E hq => tps_kind h0 (fun v hm => let ⟨r, z⟩ := hp' v hm; ⟨_, _, z⟩) hq, pairs_cmp hp'⟩
end
section
variable {X : Cx}
theorem noTup {h : Heap} {a : Addr} {vs : List Value} (ha : h.get? a = some (seqObj "list" vs.toArray 0)) : ∀ o, h.get? a = some o → o.cls ≠ .type "tuple" := fun o e c => by
  have e' : some o = some (seqObj "list" vs.toArray 0) := e.symm.trans ha
  cases e'
  exact absurd (Value.type.inj c) (by decide)
/-- sorted(xs), xs a list of tuples told apart by their first text -/
def rSortR (K : PySem.W.Frag) : List V → Hp → VK → Prop := fun vs H Q => ∃ (a : Addr) (xs : List V) (k : V → Str), vs = [V.ref a] ∧ SqL K H a xs ∧ (∀ x ∈ xs, ∃ t r, x = V.ref t ∧ SqT K H t (.str (k x) :: r)) ∧ (∀ x ∈ xs, ∀ y ∈ xs, k x = k y → x = y) ∧
  ∀ ys p, ys.Perm xs → ys.Pairwise (fun x y => slt (k y) (k x) = false) → H p = none → Q (.ref p) (upd H p (.lst ys))
theorem cr_sortR : CallR X (.builtin "sorted") (rSortR X.K) := by
  intro pins s σ H vs us Q I r h
  obtain ⟨a, xs, k, rfl, hs, hx, ne, q⟩ := h
  obtain ⟨its, rv, hl, hz⟩ := I.list hs
  rw [Vals.ref1 r]
  obtain ⟨e1, e2⟩ := refs_back rv fun x m => by
    obtain ⟨t, r, e, _⟩ := hx x m
    exact ⟨t, e⟩
  have hp : ∀ v ∈ its, ∃ r, IsTp s.heap v (k (backV v)) r := fun v hv => by
    obtain ⟨t, rfl⟩ := e2 v hv
    have hm : V.ref t ∈ xs := by rw [e1]; exact List.mem_map.mpr ⟨_, hv, rfl⟩
    obtain ⟨t', r, e, ht⟩ := hx _ hm
    cases e
    obtain ⟨its2, r2, ⟨o, ho, hc, n, hd⟩, _⟩ := I.tuple ht
    cases r2 with
    | cons r0 r3 =>
      obtain ⟨tk, rfl⟩ := r0
      exact ⟨_, t, o, _, n, tk, rfl, ho, hc, hd, rfl⟩
  have ne' : ∀ v ∈ its, ∀ u ∈ its, k (backV v) = k (backV u) → v = u := fun v hv u hu e => by
    obtain ⟨t, rfl⟩ := e2 v hv
    obtain ⟨t', rfl⟩ := e2 u hu
    have q := ne (.ref t) (by rw [e1]; exact List.mem_map.mpr ⟨_, hv, rfl⟩) (.ref t') (by rw [e1]; exact List.mem_map.mpr ⟨_, hu, rfl⟩) e
    injection q with q
    rw [q]
  refine sorted_seq (swo_of swo_s fun u => k (backV u)) (.inl hl.isList) (by rw [← rv.length]; exact hz) (fun h2 h₁ a' ha' kk => first_sortable (by omega) (fun v hv => let ⟨r, z⟩ := hp v hv; ⟨r, z.keeps fun b o e _ => (kk b o e).2⟩) ne' (noTup ha')) fun out h1 h2 => ?_
  have h3 : ∀ u ∈ out, ∃ a, u = Value.ref a := fun u hu => e2 u (h2.perm.mem_iff.mp hu)
  obtain ⟨ep, he'⟩ := PyProof.Rows.sortedAll_at s.heap its out.toArray
  have pm : (out.map backV).Perm xs := by
    rw [e1]
    exact h2.perm.map backV
  refine ⟨.ref _, upd H (s.heap.objs.size + 1) (.lst (out.map backV)), I.laid (t' := s.toks) (fun _ _ => PyProof.Rows.sortedAll_old) (Nat.le_succ _) ⟨by rw [pm.length_eq]; exact hz, out, ep, vals_back h3, he'⟩, rfl, q _ _ pm (List.pairwise_map.mpr h1) (I.hok.fresh (Nat.le_succ _))⟩
/-- sorted(xs), xs a list of pairs of texts -/
def rSortB (K : PySem.W.Frag) : List V → Hp → VK → Prop := fun vs H Q => ∃ (a : Addr) (xs : List V) (k : V → Str × Str), vs = [V.ref a] ∧ SqL K H a xs ∧ (∀ x ∈ xs, ∃ t, x = V.ref t ∧ SqT K H t [.str (k x).1, .str (k x).2]) ∧
  ∀ ys p, ys.Perm xs → ys.Pairwise (fun x y => slt2 (k y) (k x) = false) → H p = none → Q (.ref p) (upd H p (.lst ys))
theorem cr_sortB : CallR X (.builtin "sorted") (rSortB X.K) := by
  intro pins s σ H vs us Q I r h
  obtain ⟨a, xs, k, rfl, hs, hx, q⟩ := h
  obtain ⟨its, rv, hl, hz⟩ := I.list hs
  rw [Vals.ref1 r]
  obtain ⟨e1, e2⟩ := refs_back rv fun x m => by
    obtain ⟨t, e, _⟩ := hx x m
    exact ⟨t, e⟩
  have hp : ∀ v ∈ its, ∃ t, IsTp s.heap v (k (backV v)).1 [.str (k (backV v)).2 t] := fun v hv => by
    obtain ⟨t, rfl⟩ := e2 v hv
    have hm : V.ref t ∈ xs := by rw [e1]; exact List.mem_map.mpr ⟨_, hv, rfl⟩
    obtain ⟨t', e, ht⟩ := hx _ hm
    cases e
    obtain ⟨its2, r2, ⟨o, ho, hc, n, hd⟩, _⟩ := I.tuple ht
    obtain ⟨u1, u2, rfl, ri, rj⟩ := vals2 r2
    obtain ⟨t1, rfl⟩ := ri
    obtain ⟨t2, rfl⟩ := rj
    exact ⟨t2, t, o, _, n, t1, rfl, ho, hc, hd, rfl⟩
  refine sorted_seq (swo_of swo_s2 fun u => k (backV u)) (.inl hl.isList) (by rw [← rv.length]; exact hz) (fun h2 h₁ a' ha' kk => pairs_sortable (by omega) (fun v hv => let ⟨r, z⟩ := hp v hv; ⟨r, z.keeps fun b o e _ => (kk b o e).2⟩) (noTup ha')) fun out h1 h2 => ?_
  have h3 : ∀ u ∈ out, ∃ a, u = Value.ref a := fun u hu => e2 u (h2.perm.mem_iff.mp hu)
  obtain ⟨ep, he'⟩ := PyProof.Rows.sortedAll_at s.heap its out.toArray
  have pm : (out.map backV).Perm xs := by
    rw [e1]
    exact h2.perm.map backV
  refine ⟨.ref _, upd H (s.heap.objs.size + 1) (.lst (out.map backV)), I.laid (t' := s.toks) (fun _ _ => PyProof.Rows.sortedAll_old) (Nat.le_succ _) ⟨by rw [pm.length_eq]; exact hz, out, ep, vals_back h3, he'⟩, rfl, q _ _ pm (List.pairwise_map.mpr h1) (I.hok.fresh (Nat.le_succ _))⟩
end
end MyS

set_option Elab.async false
set_option linter.all false
set_option maxRecDepth 100000
set_option maxHeartbeats 4000000
/-! {k: v for x in xs} with tuples as keys (the library's HandS.DictComp is for ints and texts; the steps are its steps, the store is another). -/
namespace MyS
open PySem PySem.Spec PyProof.Rows L2
section
variable {X : Cx}
theorem d_dictSetT {pins : List (Addr × Obj)} {σ : L2.St} {H : Hp} {s : Shared} {E : Value → Shared → Prop} {D b : Addr} {kvs : List (List Key × V)} {k : List Key} {v : V} {u r : Value} {Q : Unit → Shared → Prop} (hu : X.A.units + 1 < cLine) (I : Inv X pins σ H s) (hD : H D = some (.dT kvs)) (hz : kvs.length < sizeLine)
    (eb : H b = some (.tup (k.map kV))) (ry : RelV (.ref b) u) (rv : RelV v r) (h : ∀ s', Inv X pins σ (upd H D (.dT (putK kvs k v))) s' → Q () s') : wpAny (model X.prog X.w) X.A (dictSet D u r) Q E s := by
  cases (show u = Value.ref b from ry)
  obtain ⟨z, hd, xs, rel, dd⟩ := dt_of I.hok hD
  have hxs : xs.length ≤ sizeLine := by rw [← Paired.length rel]; exact z
  have hl : (putK kvs k v).length ≤ sizeLine := by have := length_putK kvs k v; omega
  refine wpAny_dictSet_heap (hsz := hxs) (show X.A.units < cLine from Nat.lt_of_succ_lt hu) (key_of I.hok eb) dd fun h' dd' hs => h _ ?_
  obtain ⟨q, es, ep, hq, h2, h3, h4, _, h5⟩ := dd'
  refine d_write I (by rw [hD]; exact True.intro) hs ⟨q, hq⟩ ⟨hl, hd, _, (rel.put k eb rv).keeps fun c ys ec => ?_, q, es, ep, hq, h2, h3, h4, h5⟩
  rw [upd_ne (ne_of ec hD (fun z => nomatch z))]
  exact ec
/-- {k: v for x in xs}: the tuple keys' own dict D; the loop by W as in a list comprehension -/
def tDcT (wi : TI) (g : TG) (tt : TT) (tk tv : TE) (vs : List Nat) : TE := fun σ H Q => wi σ H fun J H1 => ∀ D, H1 D = none → ∃ W : Nat → Nat → Hp → Prop, (∃ m, W 0 m (upd H1 D (.dT []))) ∧ ∀ i m H, W i m H →
  (J.stop i H ∧ Q (.ref D) H) ∨ (J.go i H ∧ ∃ Nx : Hp → Prop, (∀ H', Nx H' → ∃ m', m' < m ∧ W (i + 1) m' H') ∧ ∀ x H', J.yld i H x H' → g x (wipe σ vs) H' fun σ2 H2 => wipe σ2 vs = wipe σ vs ∧ tt σ2 H2 fun b H3 =>
    if b = true then tk σ2 H3 fun y H4 => tv σ2 H4 fun z H5 => ∃ kvs k c, y = .ref c ∧ H5 c = some (.tup (k.map kV)) ∧ H5 D = some (.dT kvs) ∧ kvs.length < sizeLine ∧ Nx (upd H5 D (.dT (putK kvs k z))) else Nx H3)
theorem pe_dcT {kx vx tg iter : Expr} {ifs : List Expr} {scope : Scope} {own : List (PySem.Str × Nat)} {pos : Pos} {wi : TI} {g : TG} {tt : TT} {tk tv : TE} (hu : X.A.units + 1 < cLine) (hc : X.calm = true) (hN : X.N.Nodup) (hi : PI X tg iter wi) (ok : BlkOk X.N X.env.scope scope own)
    (hg : ∀ (s : Shared) (H : Hp) (C : Addr) (cl : List (PySem.Str × Addr)) (fp : List Addr), PG (X.blk s H scope (compEnvC scope cl C X.env) fp) tg g) (ht : ∀ (s : Shared) (H : Hp) (C : Addr) (cl : List (PySem.Str × Addr)) (fp : List Addr), PTs (X.blk s H scope (compEnvC scope cl C X.env) fp) ifs tt)
    (hk : ∀ (s : Shared) (H : Hp) (C : Addr) (cl : List (PySem.Str × Addr)) (fp : List Addr), PE (X.blk s H scope (compEnvC scope cl C X.env) fp) kx tk)
    (he : ∀ (s : Shared) (H : Hp) (C : Addr) (cl : List (PySem.Str × Addr)) (fp : List Addr), PE (X.blk s H scope (compEnvC scope cl C X.env) fp) vx tv) (hs : ∀ x, foldedSetIterable iter X.env x = pure x := by intro _; rfl) :
    PE X (.DictComp kx vx [⟨tg, iter, ifs, 0⟩] scope pos) (tDcT wi g tt tk tv (own.map (·.2))) := by
  refine ⟨fun pins s σ H Q I h => ?_⟩
  rw [arm_eval_DictComp]
  have hfree : ∀ y ∈ scope.names, y.2 = .free → ∃ c, X.env.cells.lookup y.1 = some c := fun y hy e =>
    (ok.free y hy e).elim (fun k => I.ok.has _ (.inl k)) fun k => I.ok.has _ (.inr k)
  refine wpAny_comprehension_free (use := none) rfl hs (closure_ok hfree) ok.kind (fun y hy e => by rw [ok.uniq y hy, e]) (thn (hi.run pins s σ H _ I h) fun xv s1 hx => thn hx fun itv s2 h2 => ?_)
  obtain ⟨it, fp, tn, J, H2, rfl, I2, T, st2, f2, q⟩ := h2
  refine wpAny_newObj_type (newEnv_comp ?_)
  obtain ⟨W, ⟨m0, w0⟩, turn⟩ := q s2.heap.objs.size (I2.hok.fresh (Nat.le_refl _))
  -- the new dict
  have I3 : Inv X pins σ (upd H2 s2.heap.objs.size (.dT [])) { s2 with heap := s2.heap.push { cls := .type "dict", data := .dict #[] } } :=
    I2.laid (t' := s2.toks) (fun b o e => Heap.get?_push_of_some _ e) (Nat.le_refl _) (dt_empty s2.heap I2.big)
  have below : ∀ b ∈ fp, b < s2.heap.objs.size := fun b hb => let ⟨o, e, _⟩ := T.obj _ _ st2 b hb; Heap.lt_size e
  generalize hs3 : ({ s2 with heap := s2.heap.push { cls := .type "dict", data := .dict #[] } } : Shared) = s3 at I3
  have h3 : s3.heap = s2.heap.push { cls := .type "dict", data := .dict #[] } := by rw [← hs3]
  generalize hD : s2.heap.objs.size = D at I3 w0 turn below ⊢
  have f3 : ∀ b ∈ fp, FpOk X pins (upd H2 D (.dT [])) b ∧ b < s3.heap.objs.size := fun b hb =>
    ⟨⟨by rw [upd_ne (Nat.ne_of_lt (below b hb))]; exact (f2 b hb).1, (f2 b hb).2⟩, by rw [h3, Heap.size_push, hD]; exact Nat.lt_succ_of_lt (below b hb)⟩
  have st3 : tn 0 s3.heap := T.keep _ _ _ st2 fun b _ o e => by rw [h3]; exact Heap.get?_push_of_some _ e
  have I4 := block_start I3 ok hN f3
  generalize hC : cellsFrom (s3.heap.objs.size + 1) scope.names (cloFrom X.env.cells scope.names []) = cl at I4
  have pg := hg s3 (upd H2 D (.dT [])) s3.heap.objs.size cl fp
  have pt := ht s3 (upd H2 D (.dT [])) s3.heap.objs.size cl fp
  have pk := hk s3 (upd H2 D (.dT [])) s3.heap.objs.size cl fp
  have pe := he s3 (upd H2 D (.dT [])) s3.heap.objs.size cl fp
  have goal : codeAny (model X.prog X.w) X.A (.compStart (.DictComp kx vx [⟨tg, iter, ifs, 0⟩] scope pos) 0 (.ref it) (.ref D) (compEnvC scope cl s3.heap.objs.size X.env)) (compPost (model X.prog X.w) X.A X.xe none (EP X pins σ Q) (.ref D) s3.heap.objs.size) { s3 with heap := pushCells (s3.heap.push { cls := .type "dict", data := .dict #[] }) scope.names } := by
    have cL : (compEnvC scope cl s3.heap.objs.size X.env).locals = s3.heap.objs.size := rfl
    generalize compEnvC scope cl s3.heap.objs.size X.env = ce at I4 pg pt pk pe cL ⊢
    generalize hH3 : upd H2 D (.dT []) = H3 at I3 I4 pg pt pk pe w0 f3
    generalize hs4 : ({ s3 with heap := pushCells (s3.heap.push { cls := .type "dict", data := .dict #[] }) scope.names } : Shared) = s4 at I4 ⊢
    have st4 : tn 0 s4.heap := T.keep _ _ _ st3 fun b _ o e => by rw [← hs4]; exact pushCells_keeps _ _ _ _ (Heap.get?_push_of_some _ e)
    have stat : ∀ {σ' : L2.St} {H' : Hp} {s' : Shared}, Inv (X.blk s3 H3 scope ce fp) [] σ' H' s' → (∀ b ∈ fp, H' b = none) → ∀ b ∈ fp, FpOk (X.blk s3 H3 scope ce fp) [] H' b := fun {σ' H' s'} I' hn b hb =>
      ⟨hn b hb, (I'.ok.exf b hb).1, I'.ok.exfs b hb, .inl hb, fun x c e => (I'.ok.exf b hb).2 x c e, fun p hp => absurd (show p ∈ ([] : List (Addr × Obj)) ++ [] from hp) (by simp)⟩
    refine codeAny_compStart_dict ?lp (T.self X.A 0 _ _ _ st4 ?lp)
    refine compLoop_anyD (fun n s' => ∃ i H', Inv (X.blk s3 H3 scope ce fp) [] (wipe σ (own.map (·.2))) H' s' ∧ tn i s'.heap ∧ (∀ b ∈ fp, H' b = none) ∧ W i n H') ?_ m0 ⟨0, H3, I4, st4, fun b hb => (f3 b hb).1.1, w0⟩
    rintro n s5 ⟨i, H5, I5, st5, n5, w5⟩
    rcases turn i n H5 w5 with ⟨stop, qq⟩ | ⟨go, Nx, hNx, step⟩
    · refine thnF (T.done (X.blk s3 H3 scope ce fp) rfl rfl rfl hc i [] s5 _ H5 (fun _ _ => False) I5 (stat I5 n5) st5 stop) fun r s6 ⟨hr, I6⟩ => ?_
      subst hr
      have I7 : Inv X pins σ H5 s6 := I3.call' (ch := fp) I6.os I6.base I6.hok I6.bare fun b hb => ⟨(f3 b hb).1.2.2.2.1, (f3 b hb).1.2.1, (f3 b hb).1.2.2.2.2.1, (f3 b hb).1.2.2.2.2.2⟩
      have nC : H5 s3.heap.objs.size = none := by
        have z : H5 ce.locals = none := I6.free
        rw [cL] at z
        exact z
      obtain ⟨m, hn, _⟩ := I6.loc
      have hn : s6.heap.Ns ce.locals m := hn
      rw [cL] at hn
      obtain ⟨f0, f1, f2, f3, f4, f5⟩ := I3.fpOk (Nat.le_refl _) nC
      exact ⟨m, hn, fun h'' sb => ⟨.ref D, H5, I7.turned (t' := s6.toks) (fun b o hb e => (sb.2 b hb).trans e) f0 f1 f3 f4 f5, rfl, qq⟩⟩
    · refine thnF (T.item (X.blk s3 H3 scope ce fp) rfl rfl rfl hc i [] s5 _ H5 (fun _ _ => False) I5 (stat I5 n5) st5 go) fun r s6 ⟨u, hr, h6⟩ => ?_
      subst hr
      refine thnF h6 fun _ s7 ⟨x, H7, I7, r7, y7, st7, n7⟩ => ?_
      refine thnF (pg.run _ s7 _ H7 x u _ (I7.pinned (stat I7 n7) (T.obj _ _ st7)) r7 (step x H7 y7)) fun _ s8 ⟨σ8, H8, I8, hw8, q8⟩ => ?_
      refine thnF (pt.run _ s8 σ8 H8 _ I8 q8) fun b s9 ⟨H9, I9, q9⟩ => ?_
      have fin : ∀ {s' : Shared} {H' : Hp}, Inv (X.blk s3 H3 scope ce fp) ([] ++ pinsAt fp s7.heap) σ8 H' s' → Nx H' → ∃ m, m < n ∧ ∃ i H', Inv (X.blk s3 H3 scope ce fp) [] (wipe σ (own.map (·.2))) H' s' ∧ tn i s'.heap ∧ (∀ b ∈ fp, H' b = none) ∧ W i m H' := fun {s' H'} I' nx => by
        obtain ⟨m', hm, w'⟩ := hNx H' nx
        have pin' : ∀ b ∈ fp, ∀ o, s7.heap.get? b = some o → s'.heap.get? b = some o ∧ H' b = none := fun b hb o e =>
          have z := I'.pin (b, o) (List.mem_append_right _ (List.mem_append_right _ (mem_pinsAt hb e)))
          ⟨z.1, z.2.1⟩
        have hl : (wipe σ (own.map (·.2))).length = σ8.length := by rw [← hw8, wipe_length]
        refine ⟨m', hm, i + 1, H', (I'.unpinned (pins := [])).weak hl (fun j v e => ?_), T.keep _ _ _ st7 fun b hb o e => (pin' b hb o e).1, fun b hb => ?_, w'⟩
        · rw [← hw8] at e
          exact (wipe_some e).1
        · obtain ⟨o, e, _⟩ := T.obj _ _ st7 b hb
          exact (pin' b hb o e).2
      cases b with
      | false =>
        simp only [Bool.false_eq_true, if_false] at q9 ⊢
        exact fin I9 q9
      | true =>
        simp only [if_true] at q9 ⊢
        refine thnF (pk.run _ s9 σ8 H9 _ I9 q9) fun z s10 ⟨yk, H10, I10, r10, q10⟩ => ?_
        refine thnF (pe.run _ s10 σ8 H10 _ I10 q10) fun z2 s11 ⟨yv, H11, I11, r11, kvs, k, c, ek, ec, hD11, hz11, nx⟩ => ?_
        subst ek
        exact d_dictSetT (X := X.blk s3 H3 scope ce fp) hu I11 hD11 hz11 ec r10 r11 fun s12 I12 => fin I12 nx
  subst hD
  exact goal
/-- over a tuple that stays -/
theorem dcT_tup {K : PySem.W.Frag} {a : Addr} {xs : List V} {g : TG} {tt : TT} {tk tv : TE} {vs : List Nat} {σ : L2.St} {H1 : Hp} {D : Addr} {Qd : Hp → Prop} (Pv : Nat → Hp → Prop) (h0 : Pv 0 (upd H1 D (.dT []))) (hl : ∀ i H, i ≤ xs.length → Pv i H → SqT K H a xs)
    (hs : ∀ i x H, xs[i]? = some x → Pv i H → g x (wipe σ vs) H fun σ2 H2 => wipe σ2 vs = wipe σ vs ∧ tt σ2 H2 fun b H3 =>
      if b = true then tk σ2 H3 fun y H4 => tv σ2 H4 fun z H5 => ∃ kvs k c, y = .ref c ∧ H5 c = some (.tup (k.map kV)) ∧ H5 D = some (.dT kvs) ∧ kvs.length < sizeLine ∧ Pv (i + 1) (upd H5 D (.dT (putK kvs k z))) else Pv (i + 1) H3) (hd : ∀ H, Pv xs.length H → Qd H) :
    ∃ W : Nat → Nat → Hp → Prop, (∃ m, W 0 m (upd H1 D (.dT []))) ∧ ∀ i m H, W i m H →
      ((Itt K a).stop i H ∧ Qd H) ∨ ((Itt K a).go i H ∧ ∃ Nx : Hp → Prop, (∀ H', Nx H' → ∃ m', m' < m ∧ W (i + 1) m' H') ∧ ∀ x H', (Itt K a).yld i H x H' → g x (wipe σ vs) H' fun σ2 H2 => wipe σ2 vs = wipe σ vs ∧ tt σ2 H2 fun b H3 =>
        if b = true then tk σ2 H3 fun y H4 => tv σ2 H4 fun z H5 => ∃ kvs k c, y = .ref c ∧ H5 c = some (.tup (k.map kV)) ∧ H5 D = some (.dT kvs) ∧ kvs.length < sizeLine ∧ Nx (upd H5 D (.dT (putK kvs k z))) else Nx H3) := by
  refine ⟨fun i m H => m = xs.length - i ∧ i ≤ xs.length ∧ Pv i H, ⟨xs.length, by simp, Nat.zero_le _, h0⟩, ?_⟩
  rintro i m H ⟨rfl, hi, p⟩
  have q := hl i H hi p
  rcases Nat.lt_or_ge i xs.length with lt | ge
  · refine .inr ⟨⟨xs, xs[i], q, by simp [lt]⟩, Pv (i + 1), fun H' p' => ⟨xs.length - (i + 1), by omega, rfl, lt, p'⟩, fun x H' y => ?_⟩
    obtain ⟨rfl, y⟩ := y
    exact hs i x _ (y xs q) p
  · obtain rfl : i = xs.length := by omega
    exact .inl ⟨⟨xs, q, Nat.le_refl _⟩, hd H p⟩
end
end MyS

set_option Elab.async false
set_option linter.all false
set_option maxRecDepth 100000
set_option maxHeartbeats 4000000
namespace W
open PySem PySem.Spec PyProof.Rows L2 GxR MyG
/-! ### the text by places -/
def top (i : Nat) : Stmt := PySem.Challenge.pw_waypapers_k67_paper_texts.main.body.getD i (.Pass ⟨0, 0, 0, 0⟩)
abbrev sIsName : Stmt := top 7

/-! ### names -/
def zLet : Str := "abcdefghijklmnopqrstuvwxyz"
def zDig : Str := "0123456789"
def goodC (c : Nat) : Bool := decide (c ∈ zLet.cps.toList) || decide (c ∈ zDig.cps.toList)
def isNm (z : Str) : Bool := decide (1 ≤ z.length) && decide (z.length ≤ 12) && (match z.cps.toList with | [] => false | c :: _ => decide (c ∈ zLet.cps.toList)) && z.cps.toList.all goodC
/-- the element of the generator: x in A or x in B -/
theorem elt_two {prog : Program} {w : World} {base : Heap} {mg : Str → Option Value} {scope : Scope} {x A B : Str} {a b : Str} {ta tb : Tok} {p1 p2 p3 p4 p5 p6 p7 : Pos} (hk : scope.kind = .function) (hl : scope.names.lookup x = some .local)
    (hA : scope.names.lookup A = some .globalImplicit) (hB : scope.names.lookup B = some .globalImplicit) (hns : base.Ns mainGlobals mg) (eA : mg A = some (.str a ta)) (eB : mg B = some (.str b tb))
    (hd : (x == ("__debug__" : Str)) = false := by decide) (hdA : (A == ("__debug__" : Str)) = false := by decide) (hdB : (B == ("__debug__" : Str)) = false := by decide) :
    EltB prog w base scope x (.BoolOp .Or [.Compare (.Name x p1) [.In] [.Name A p2] p3, .Compare (.Name x p4) [.In] [.Name B p5] p6] p7) (fun c => decide (c ∈ a.cps.toList) || decide (c ∈ b.cps.toList)) := by
  intro ce B' F c t z m hs hg hh hb hn hm
  have kf : ce.scope.kind = .function := by rw [hs]; exact hk
  have kx : ce.kindOf x = some .local := by show ce.scope.names.lookup x = _; rw [hs]; exact hl
  have nsz : ∀ (z' : Shared), Keeps z z' → z'.heap.Ns ce.globals mg := fun z' k => by
    rw [hg]
    obtain ⟨h', tk, rfl, kk⟩ := k
    exact (hns.keeps hb).keeps kk
  have one : ∀ (G : Str) (g : Str) (tg : Tok) (q1 q2 q3 : Pos) (Q : Value → Shared → Prop), (G == ("__debug__" : Str)) = false → scope.names.lookup G = some .globalImplicit → mg G = some (.str g tg) → Q (.bool (decide (c ∈ g.cps.toList))) z →
      wpAny (model prog w) B' (eval (.Compare (.Name x q1) [.In] [.Name G q2] q3) ce) Q F z := by
    intro G g tg q1 q2 q3 Q hdG hG eG hQ
    refine wpAny_Compare1 ?_
    refine wpAny_Name (wpAny_loadName_local kf kx hn hm ?_) hd
    refine Calls.Name_function_global kf (by show ce.scope.names.lookup G = _; rw [hs]; exact hG) (Calls.loadGlobal_global (nsz z (keeps_refl z)) eG ?_) hdG
    refine PyProof.Rows.in_str ?_
    rw [PySem.StrLaws.found_one g c]
    exact hQ
  refine BoolOp_or (one A a ta _ _ _ _ hdA hA eA ?_)
  refine wpAny_truthy_bool ?_
  by_cases ca : c ∈ a.cps.toList
  · have ea : decide (c ∈ a.cps.toList) = true := decide_eq_true ca
    rw [if_pos ea]
    refine ⟨?_, keeps_refl z⟩
    show Value.bool (decide (c ∈ a.cps.toList)) = Value.bool (decide (c ∈ a.cps.toList) || decide (c ∈ b.cps.toList))
    rw [ea]; rfl
  · have ea : decide (c ∈ a.cps.toList) = false := decide_eq_false ca
    rw [if_neg (by rw [ea]; exact Bool.false_ne_true)]
    refine BoolOp_one (one B b tb _ _ _ _ hdB hB eB ?_)
    refine ⟨?_, keeps_refl z⟩
    show Value.bool (decide (c ∈ b.cps.toList)) = Value.bool (decide (c ∈ a.cps.toList) || decide (c ∈ b.cps.toList))
    rw [ea]; rfl

theorem pe_gI {X : Cx} {x : Str} {i : Int} {t : Tok} {pos : Pos} (hm : X.mg x = some (.int i t)) (hg : Gl X x := by rfl) (hd : (x == ("__debug__" : Str)) = false := by decide) : PE X (.Name x pos) (tC (.int i)) := pe_glob hg hm ⟨_, rfl⟩ hd
theorem pe_gS {X : Cx} {x z : Str} {t : Tok} {pos : Pos} (hm : X.mg x = some (.str z t)) (hg : Gl X x := by rfl) (hd : (x == ("__debug__" : Str)) = false := by decide) : PE X (.Name x pos) (tC (.str z)) := pe_glob hg hm ⟨_, rfl⟩ hd
theorem nofree {names : List (Str × NameKind)} {Q : Str × NameKind → Prop} (h : names.all (fun y => y.2 != .free) = true) : ∀ y ∈ names, y.2 = .free → Q y := fun y hy e => by
  have q := List.all_eq_true.mp h y hy
  rw [e] at q
  exact absurd q (by decide)
theorem if_t {c : Bool} {A B : Prop} (hc : c = true) (h : A) : if c = true then A else B := by
  rw [if_pos hc]
  exact h
theorem if_f {c : Bool} {A B : Prop} (hc : c = false) (h : B) : if c = true then A else B := by
  rw [hc, if_neg Bool.false_ne_true]
  exact h
/-! ### what the top has written -/
structure Txt (K : PySem.W.Frag) (mg : Str → Option Value) (C P : Addr) : Prop where
  let_ : ∃ t, mg "LETTERS" = some (.str zLet t)
  dig : ∃ t, mg "DIGITS" = some (.str zDig t)
  ln : ∃ t, mg "LONGEST_NAME" = some (.int 12 t)
  len : mg "len" = none
  all : mg "all" = none

def spIsName (P : Addr) : Sp := fun vs H Q _ => ∃ z : Str, vs = [.str z] ∧ z.length ≤ sizeLine ∧ TabG H P ∧ ∀ H', Tabbed P H H' → Q (.bl (isNm z)) H'
section
variable {Pg : Program} {w : World} {K : PySem.W.Frag} {mg : Str → Option Value} {base : Heap} {C P : Addr}
theorem scIsName : FnScope ["text"] ["text"] (defScope sIsName) := ⟨rfl, rfl, rfl, by decide +kernel, rfl, by decide +kernel, by decide +kernel⟩
theorem str_len0 {z : Str} (h : ¬ 1 ≤ z.length) : isNm z = false := by
  unfold isNm
  simp [h]
theorem ok_isName {f c : Addr} {fd : FuncData} (F : Fun K "is_name" "is_name" sIsName f fd) (T : Txt K mg C P) (TB : TabB base mg c P) (hfc : fd.code = .ref c) (hns : base.Ns mainGlobals mg) : FnOk Pg w K mg base CX0 2 f fd ["text"] (spIsName P) := by
  obtain ⟨oc, od, kV, doc, pm, an, cdv, ct, osl, efd, lk, hcd⟩ := F.ex
  subst efd
  have ecd : cdv = .ref c := hfc
  subst ecd
  refine fn_of lk hcd scIsName (fun vs H Q E h => ?_) (fun A outer s H vs Q E hr h => ?_)
  · obtain ⟨z, rfl, _⟩ := h
    rfl
  · obtain ⟨z, rfl, hz, hP, k⟩ := h
    obtain ⟨tl, el⟩ := T.let_
    obtain ⟨td, ed⟩ := T.dig
    obtain ⟨tn, en⟩ := T.ln
    refine ⟨_, PSs.nox (pss_cons (ps_if (PW.pt (pw_or (pt_not (pt_chain op_le op_le pe_int (pe_callB call_len_str (by rfl) T.len PySem.boot_len (pa_cons (pv 0) pa_nil)) (pe_gI en)))
        (pw_or1 (pt_cmpR op_notIn_sign (pe_ix ix_str (pv 0) pe_int (fun _ _ => rfl)) (pe_gS el) (by rfl)))))
        (pss_one (ps_ret pe_bl)) pss_nil)
      (pss_one (ps_ret (pe_allB (scope := _) (P := P) hr rfl T.all TB rfl ⟨rfl, rfl, by decide +kernel, by decide +kernel, by decide +kernel, nofree (by decide +kernel)⟩ (pv 0) (elt_two rfl (by decide +kernel) (by decide +kernel) (by decide +kernel) hns el ed) (fun _ => rfl))))), ?_⟩
    have zl : z.length = z.cps.toList.length := by simp [Str.length]
    refine ⟨_, rfl, z, rfl, hz, 1, _, rfl, rfl, _, rfl, ?_⟩
    by_cases h1 : (1 : Int) ≤ (z.length : Int)
    · refine if_t (decide_eq_true h1) ⟨_, _, rfl, rfl, _, rfl, ?_⟩
      by_cases h2 : (z.length : Int) ≤ 12
      · rw [decide_eq_true h2]
        refine iteF ?_
        have hp : 0 < z.cps.toList.length := by omega
        have e0 : atI z.cps.toList 0 = some (z.cps.toList[0]'hp) := atI_nat (j := 0) (List.getElem?_eq_getElem hp)
        refine ⟨_, rfl, z, 0, _, rfl, rfl, hz, e0, _, _, rfl, rfl, _, rfl, ?_⟩
        by_cases h3 : z.cps.toList[0]'hp ∈ zLet.cps.toList
        · rw [decide_eq_true h3]
          refine iteF ⟨_, rfl, z, rfl, hP, fun H2 hH => ?_⟩
          have e := k H2 hH
          have en : isNm z = z.cps.toList.all goodC := by
            unfold isNm
            cases q : z.cps.toList with
            | nil => rw [q] at hp; exact absurd hp (by decide)
            | cons c r =>
              have h3' : c ∈ zLet.cps.toList := by
                have : z.cps.toList[0]'hp = c := by simp [q]
                rw [← this]; exact h3
              have a1 : 1 ≤ z.length := by omega
              have a2 : z.length ≤ 12 := by omega
              simp [a1, a2, h3']
          rw [en] at e
          exact e
        · rw [decide_eq_false h3]
          refine iteT ?_
          have en : isNm z = false := by
            unfold isNm
            cases q : z.cps.toList with
            | nil => simp
            | cons c r =>
              have h3' : c ∉ zLet.cps.toList := by
                have : z.cps.toList[0]'hp = c := by simp [q]
                rw [← this]; exact h3
              simp [h3']
          have e := k H ⟨hP, fun _ _ => rfl⟩
          rw [en] at e
          exact e
      · rw [decide_eq_false h2]
        refine iteT ?_
        have en : isNm z = false := by
          unfold isNm
          have a2 : ¬ z.length ≤ 12 := by omega
          simp [a2]
        have e := k H ⟨hP, fun _ _ => rfl⟩
        rw [en] at e
        exact e
    · refine if_f (decide_eq_false h1) ⟨_, rfl, ?_⟩
      refine iteT ?_
      have en : isNm z = false := by
        unfold isNm
        have a2 : ¬ 1 ≤ z.length := by omega
        simp [a2]
      have e := k H ⟨hP, fun _ _ => rfl⟩
      rw [en] at e
      exact e
end
end W

set_option Elab.async false
set_option linter.all false
set_option maxRecDepth 100000
set_option maxHeartbeats 400000
namespace W
open PySem PySem.Spec PyProof.Rows L2 GxR MyG MyS
/-! ### heaps that have grown: what stood (but the table at P) stands -/
structure Grew (P : Addr) (H H' : Hp) : Prop where
  tab : TabG H' P
  old : ∀ b o, b ≠ P → (∀ ps, o ≠ .tbl ps) → H b = some o → H' b = some o
  tabs : ∀ b, TabG H b → TabG H' b
  there : ∀ b, H b ≠ none → H' b ≠ none
section
variable {P : Addr} {H H1 H2 H' : Hp} {K : PySem.W.Frag}
theorem Grew.refl (h : TabG H P) : Grew P H H := ⟨h, fun _ _ _ _ e => e, fun _ q => q, fun _ q => q⟩
theorem Grew.trans (a : Grew P H H1) (b : Grew P H1 H2) : Grew P H H2 := ⟨b.tab, fun c o n d e => b.old c o n d (a.old c o n d e), fun c q => b.tabs c (a.tabs c q), fun c q => b.there c (a.there c q)⟩
theorem Grew.of (t : Tabbed P H H') : Grew P H H' := ⟨t.1, fun b o n _ e => by rw [t.2 b n]; exact e, fun b q => by
  by_cases n : b = P
  · rw [n]; exact t.1
  · obtain ⟨ps, e, r⟩ := q
    exact ⟨ps, by rw [t.2 b n]; exact e, r⟩, fun b q => by
  by_cases n : b = P
  · rw [n]
    obtain ⟨ps, e, r⟩ := t.1
    rw [e]
    exact fun z => by cases z
  · rw [t.2 b n]; exact q⟩
/-- another def's table has grown -/
theorem Grew.of2 {P2 : Addr} (h1 : TabG H P) (h2 : TabG H P2) (t : Tabbed P2 H H') : Grew P H H' := by
  have g := Grew.of t
  refine ⟨g.tabs P h1, fun b o n d e => g.old b o (fun z => ?_) d e, g.tabs, g.there⟩
  obtain ⟨ps, q, _⟩ := h2
  rw [z, q] at e
  exact d ps (Option.some.inj e).symm
theorem tabNe (h : TabG H P) {a : Addr} (n : H a = none) : a ≠ P := fun e => by
  obtain ⟨ps, q, _⟩ := h
  rw [e, q] at n
  cases n
theorem tabNe' (h : TabG H P) {a : Addr} {o : HO} (e : H a = some o) (d : ∀ ps, o ≠ .tbl ps) : a ≠ P := fun z => by
  obtain ⟨ps, q, _⟩ := h
  rw [z, q] at e
  exact d ps (Option.some.inj e).symm
theorem tabUpd (h : TabG H P) {a : Addr} {o : HO} (n : a ≠ P) : TabG (upd H a o) P := by
  obtain ⟨ps, q, t⟩ := h
  exact ⟨ps, by rw [upd_ne (Ne.symm n)]; exact q, t⟩
/-- a new object -/
theorem Grew.new (h : TabG H P) {a : Addr} {o : HO} (n : H a = none) : Grew P H (upd H a o) := ⟨tabUpd h (tabNe h n), fun b u _ _ e => by rw [upd_ne (ne_of_none e n)]; exact e, fun b q => by
  obtain ⟨ps, e, r⟩ := q
  exact ⟨ps, by rw [upd_ne (ne_of_none e n)]; exact e, r⟩, fun b q => by
  by_cases z : b = a
  · rw [z, upd_same]; exact fun z => by cases z
  · rw [upd_ne z]; exact q⟩
theorem Grew.put (g : Grew P H H1) {a : Addr} {o : HO} (n : H1 a = none) : Grew P H (L2.upd H1 a o) := g.trans (Grew.new g.tab n)
theorem Grew.get (g : Grew P H H') (h : TabG H P) {b : Addr} {o : HO} (e : H b = some o) (d : ∀ ps, o ≠ .tbl ps) : H' b = some o := g.old b o (tabNe' h e d) d e
theorem Grew.lst (g : Grew P H H') (h : TabG H P) {b : Addr} {xs : List V} (e : H b = some (.lst xs)) : H' b = some (.lst xs) := g.get h e (fun _ z => by cases z)
theorem Grew.tup (g : Grew P H H') (h : TabG H P) {b : Addr} {xs : List V} (e : H b = some (.tup xs)) : H' b = some (.tup xs) := g.get h e (fun _ z => by cases z)
theorem Grew.free (g : Grew P H H') {b : Addr} (n : H' b = none) : H b = none := by
  cases q : H b with
  | none => rfl
  | some o => exact absurd n (g.there b (by rw [q]; exact fun z => by cases z))
theorem Grew.sqL (g : Grew P H H') (h : TabG H P) {a : Addr} {xs : List V} (q : SqL K H a xs) : SqL K H' a xs := by
  rcases q with (q | ⟨o, q⟩) | q
  · exact .inl (.inl (g.lst h q))
  · exact .inl (.inr ⟨o, g.get h q (fun _ z => by cases z)⟩)
  · exact .inr q
theorem Grew.sqT (g : Grew P H H') (h : TabG H P) {a : Addr} {xs : List V} (q : SqT K H a xs) : SqT K H' a xs := by
  rcases q with (q | ⟨o, q⟩) | q
  · exact .inl (.inl (g.tup h q))
  · exact .inl (.inr ⟨o, g.get h q (fun _ z => by cases z)⟩)
  · exact .inr q
/-- an own object that was not there at H may be written -/
theorem Grew.write (g : Grew P H H1) {a : Addr} {o u : HO} (e : H1 a = some u) (d : ∀ ps, u ≠ .tbl ps) (n : H a = none) : Grew P H (L2.upd H1 a o) :=
  ⟨tabUpd g.tab (tabNe' g.tab e d), fun b v hb dv q => by rw [upd_ne (ne_of_none q n)]; exact g.old b v hb dv q, fun b q => by
    have q2 := g.tabs b q
    obtain ⟨ps, eb, _⟩ := q
    exact tabUpd q2 (ne_of_none eb n).symm, fun b q => by
    by_cases z : b = a
    · rw [z, upd_same]; exact fun z => by cases z
    · rw [upd_ne z]; exact g.there b q⟩
end

/-! ### what stands in tuples goes on standing -/
def KeepT (K : PySem.W.Frag) (H H' : Hp) : Prop := ∀ a xs, SqT K H a xs → SqT K H' a xs
theorem KeepT.refl {K : PySem.W.Frag} {H : Hp} : KeepT K H H := fun _ _ h => h
theorem KeepT.trans {K : PySem.W.Frag} {H H1 H2 : Hp} (x : KeepT K H H1) (y : KeepT K H1 H2) : KeepT K H H2 := fun a xs h => y a xs (x a xs h)
theorem KeepT.grew {K : PySem.W.Frag} {P : Addr} {H H' : Hp} (g : Grew P H H') (h : TabG H P) : KeepT K H H' := fun _ _ q => g.sqT h q
theorem KeepT.upd {K : PySem.W.Frag} {H : Hp} {D : Addr} {o : HO} (h1 : ∀ xs, H D ≠ some (.tup xs)) (h2 : ∀ xs u, H D ≠ some (.frz u (.tup xs))) : KeepT K H (L2.upd H D o) := fun a xs q => by
  rcases q with (q | ⟨u, q⟩) | q
  · have ne : a ≠ D := fun e => by subst e; exact h1 xs q
    exact .inl (.inl (by rw [upd_ne ne]; exact q))
  · have ne : a ≠ D := fun e => by subst e; exact h2 xs u q
    exact .inl (.inr ⟨u, by rw [upd_ne ne]; exact q⟩)
  · exact .inr q
theorem KeepT.lst {K : PySem.W.Frag} {H : Hp} {D : Addr} {o : HO} {l : List V} (e : H D = some (.lst l)) : KeepT K H (L2.upd H D o) := .upd (fun xs q => by rw [e] at q; cases q) (fun xs u q => by rw [e] at q; cases q)
theorem KeepT.ins {K : PySem.W.Frag} {H : Hp} {D C dx : Addr} {o : HO} {fs : List (Str × V)} (e : H D = some (.ins C dx fs)) : KeepT K H (L2.upd H D o) := .upd (fun xs q => by rw [e] at q; cases q) (fun xs u q => by rw [e] at q; cases q)
theorem KeepT.dK {K : PySem.W.Frag} {H : Hp} {D : Addr} {o : HO} {l : List (Key × V)} (e : H D = some (.dK l)) : KeepT K H (L2.upd H D o) := .upd (fun xs q => by rw [e] at q; cases q) (fun xs u q => by rw [e] at q; cases q)
theorem KeepT.dT {K : PySem.W.Frag} {H : Hp} {D : Addr} {o : HO} {l : List (List Key × V)} (e : H D = some (.dT l)) : KeepT K H (L2.upd H D o) := .upd (fun xs q => by rw [e] at q; cases q) (fun xs u q => by rw [e] at q; cases q)
theorem KeepT.new {K : PySem.W.Frag} {H : Hp} {D : Addr} {o : HO} (e : H D = none) : KeepT K H (L2.upd H D o) := .upd (fun xs q => by rw [e] at q; cases q) (fun xs u q => by rw [e] at q; cases q)
end W

set_option Elab.async false
set_option linter.all false
set_option maxRecDepth 100000
set_option maxHeartbeats 400000
namespace W
open PySem PySem.Spec PyProof.Rows L2 GxR MyG
abbrev sRow : Stmt := top 21
abbrev sNumbers : Stmt := top 22
/-- the drawn numbers are small -/
def Sm (ns : List Int) : Prop := ∀ n ∈ ns, 0 ≤ n ∧ n < 1009
theorem Sm.snoc {ns : List Int} {n : Int} (h : Sm ns) (h1 : 0 ≤ n) (h2 : n < 1009) : Sm (ns ++ [n]) := fun z hz => by
  rcases List.mem_append.mp hz with hz | hz
  · exact h z hz
  · rw [List.mem_singleton.mp hz]; exact ⟨h1, h2⟩
theorem mod1009 (a : Int) : 0 ≤ a % 1009 ∧ a % 1009 < 1009 := by omega
def spRow (P : Addr) : Sp := fun vs H Q _ => ∃ (c : Int) (m : Nat), vs = [.int c, .int m] ∧ m ≤ 1000 ∧ TabG H P ∧ ∀ H' p ns, Grew P H H' → H p = none → H' p = some (.lst (ns.map V.int)) → ns.length = m → Sm ns → Q (.ref p) H'
def spNumbers (K : PySem.W.Frag) (P : Addr) : Sp := fun vs H Q _ => ∃ (a : Addr) (zs : List Int) (m : Nat), vs = [.ref a, .int m] ∧ SqL K H a (zs.map V.int) ∧ zs.length ≤ 63 ∧ m ≤ 900 ∧ TabG H P ∧
  ∀ H' p ns, Grew P H H' → H p = none → H' p = some (.lst (ns.map V.int)) → ns.length = m → Sm ns → Q (.ref p) H'
section
variable {Pg : Program} {w : World} {K : PySem.W.Frag} {mg : Str → Option Value} {base : Heap} {C P : Addr}
abbrev nRow : List Str := ["cell", "many", "row", "rest", "mixed", "k"]
theorem scRow : FnScope nRow ["cell", "many"] (defScope sRow) := ⟨rfl, rfl, rfl, by decide +kernel, rfl, by decide +kernel, by decide +kernel⟩
theorem ok_row {f : Addr} {fd : FuncData} (F : Fun K "_law_row" "_law_row" sRow f fd) (ha : mg "abs" = none) (hi : mg "int" = none) (hr' : mg "range" = none) : FnOk Pg w K mg base CX0 1 f fd ["cell", "many"] (spRow P) := by
  refine F.ok scRow (fun vs H Q E h => ?_) (fun cdv A outer s H vs Q E hr h => ?_)
  · obtain ⟨c, m, rfl, _⟩ := h
    rfl
  · obtain ⟨c, m, rfl, hm, hP, k⟩ := h
    refine ⟨_, pss_cons (ps_set (i := 2) scRow.nd rfl (Or.inl rfl) (pe_lst pa_nil))
      (pss_cons (ps_set (i := 3) scRow.nd rfl (Or.inl rfl) (pe_callB call_abs (by rfl) ha (by decide +kernel) (pa_cons (pv 0) pa_nil)))
      (pss_cons (ps_set (i := 4) scRow.nd rfl (Or.inl rfl) (pe_op op_mod (pe_callTy call_int1 (by rfl) hi (by decide +kernel) (pa_cons (pe_op op_add (pe_op op_mul (pv 3) pe_int) pe_int) pa_nil)) pe_int))
      (pss_cons (ps_for PassesOwn.never rfl (pi_range1 rfl hr' (pa_cons (pv 1) pa_nil)) (pg_name (i := 5) scRow.nd rfl (Or.inl rfl))
        (pss_cons (ps_set (i := 4) scRow.nd rfl (Or.inl rfl) (pe_op op_mod (pe_callTy call_int1 (by rfl) hi (by decide +kernel) (pa_cons (pe_op op_add (pe_op op_mul (pv 4) pe_int) (pe_op op_mul pe_int (pe_op op_add (pv 5) pe_int))) pa_nil)) pe_int))
        (pss_one (ps_if (pt_cmpR op_ge (pe_callB call_abs (by rfl) ha (by decide +kernel) (pa_cons (pv 0) pa_nil)) (pe_op op_pow pe_int pe_int) (nomark _))
          (pss_cons (ps_expr (pe_bm PySem.F.plainAttrs_list PySem.F.slot_list_append PySem.F.type_list_append mt_append (pv 2) (pa_cons (pe_op op_mod (pe_callTy call_int1 (by rfl) hi (by decide +kernel) (pa_cons (pv 3) pa_nil)) pe_int) pa_nil)))
            (pss_one (ps_set (i := 3) scRow.nd rfl (Or.inl rfl) (pe_op op_fdiv (pv 3) pe_int))))
          (pss_one (ps_expr (pe_bm PySem.F.plainAttrs_list PySem.F.slot_list_append PySem.F.type_list_append mt_append (pv 2) (pa_cons (pe_op op_mod (pe_callTy call_int1 (by rfl) hi (by decide +kernel) (pa_cons (pe_op op_fdiv (pv 4) pe_int) pa_nil)) pe_int) pa_nil))))))))
      (pss_one (ps_ret (pv 2)))))), ?_⟩
    refine ⟨Nat.zero_le _, fun p np => ?_⟩
    refine ⟨_, rfl, _, rfl, ?_⟩
    refine ⟨_, rfl, _, _, rfl, rfl, .inr ⟨by decide, by decide⟩, _, _, rfl, rfl, .inl ⟨_, rfl, _, _, rfl, rfl, (show (0 : Int) < 2147483647 by decide), ?_⟩⟩
    refine ⟨_, rfl, m, rfl, by omega, by omega, for_range (n := m) (fun i σ H' => ∃ r mx kv, ∃ ns : List Int, σ = [some (.int c), some (.int m), some (.ref p), some (.int r), some (.int mx), kv] ∧ Grew P H H' ∧ H' p = some (.lst (ns.map V.int)) ∧ ns.length = i ∧ Sm ns)
      ⟨_, _, none, [], rfl, Grew.new hP np, upd_same, rfl, fun n hn => by cases hn⟩ ?_ ?_⟩
    · rintro i σ H' hi ⟨r, mx, kv, ns, rfl, g, hp, hl, hsm⟩
      refine ⟨_, rfl, _, _, rfl, rfl, .inr ⟨by decide, by decide⟩, _, rfl, _, _, rfl, rfl, _, _, rfl, rfl, .inl ⟨by decide, by decide⟩, _, _, rfl, rfl, .inl ⟨_, rfl, _, _, rfl, rfl, (show (0 : Int) < 2147483629 by decide), ?_⟩⟩
      refine ⟨_, rfl, _, rfl, _, _, rfl, rfl, ⟨by decide, by decide, by decide⟩, _, _, rfl, rfl, _, rfl, ?_⟩
      have hlen : (ns.map V.int).length < sizeLine := by rw [List.length_map, hl, sizeLine_eq]; omega
      refine ite2 (fun _ => ?_) (fun _ => ?_)
      · refine ⟨_, rfl, .inl ⟨rfl, _, SqL.of hp⟩, _, rfl, .inl ⟨_, rfl, _, _, rfl, rfl, (show (0 : Int) < 1009 by decide), p, _, _, rfl, rfl, hp, hlen, ?_⟩⟩
        refine ⟨_, rfl, _, _, rfl, rfl, ⟨by decide, by decide⟩, _, _, _, ns ++ [_], rfl, g.write hp (fun _ z => by cases z) np, by rw [upd_same, List.map_append]; rfl, by rw [List.length_append, hl]; rfl, hsm.snoc (mod1009 _).1 (mod1009 _).2⟩
      · refine ⟨_, rfl, .inl ⟨rfl, _, SqL.of hp⟩, _, rfl, _, _, rfl, rfl, ⟨by decide, by decide⟩, .inl ⟨_, rfl, _, _, rfl, rfl, (show (0 : Int) < 1009 by decide), p, _, _, rfl, rfl, hp, hlen, ?_⟩⟩
        refine ⟨_, _, _, ns ++ [_], rfl, g.write hp (fun _ z => by cases z) np, by rw [upd_same, List.map_append]; rfl, by rw [List.length_append, hl]; rfl, hsm.snoc (mod1009 _).1 (mod1009 _).2⟩
    · rintro σ H' ⟨r, mx, kv, ns, rfl, g, hp, hl, hsm⟩
      exact ⟨_, rfl, k H' p ns g np hp hl hsm⟩
end
end W

set_option Elab.async false
set_option linter.all false
set_option maxRecDepth 100000
set_option maxHeartbeats 400000
namespace W
open PySem PySem.Spec PyProof.Rows L2 GxR MyG
theorem cutV_pre (xs : List V) (n : Nat) : cutV xs none (some (n : Int)) = xs.take n := by
  unfold cutV
  rw [HT.sIx_none, HT.sIx_nat, List.drop_zero, Nat.sub_zero]
  rcases Nat.le_total n xs.length with h | h
  · rw [Nat.min_eq_left h]
  · rw [Nat.min_eq_right h, List.take_length, List.take_of_length_le h]
theorem Sm.take {ns : List Int} (h : Sm ns) (k : Nat) : Sm (ns.take k) := fun z hz => h z (List.mem_of_mem_take hz)
theorem Sm.app {ns ms : List Int} (h : Sm ns) (h2 : Sm ms) : Sm (ns ++ ms) := fun z hz => by
  rcases List.mem_append.mp hz with hz | hz
  · exact h z hz
  · exact h2 z hz
section
variable {Pg : Program} {w : World} {K : PySem.W.Frag} {mg : Str → Option Value} {base : Heap} {C P : Addr}
abbrev nNumbers : List Str := ["script", "many", "cells", "each", "numbers", "cell", "number"]
theorem scNumbers : FnScope nNumbers ["script", "many"] (defScope sNumbers) := ⟨rfl, rfl, rfl, by decide +kernel, rfl, by decide +kernel, by decide +kernel⟩
theorem ok_numbers {f fR : Addr} {fd fdR : FuncData} (F : Fun K "_law_numbers" "_law_numbers" sNumbers f fd) (hl : mg "len" = none) (hx : mg "max" = none)
    (GR : FnOk Pg w K mg base CX0 1 fR fdR ["cell", "many"] (spRow P)) (gR : mg "_law_row" = some (.ref fR)) (kR : PySem.W.keepIn K (.ref fR) = true) (bR : Binds K fdR ["cell", "many"] []) :
    FnOk Pg w K mg base CX0 2 f fd ["script", "many"] (spNumbers K P) := by
  refine F.ok scNumbers (fun vs H Q E h => ?_) (fun cdv A outer s H vs Q E hr h => ?_)
  · obtain ⟨a, zs, m, rfl, _⟩ := h
    rfl
  · obtain ⟨a, zs, m, rfl, hS, hz, hm, hP, k⟩ := h
    refine ⟨_, pss_cons (ps_set (i := 2) scNumbers.nd rfl (Or.inl rfl) (pe_slice sl_list (pv 0) po_none (po_some pe_int)))
      (pss_cons (ps_set (i := 3) scNumbers.nd rfl (Or.inl rfl) (pe_op op_add pe_int (pe_op op_fdiv (pv 1) (pe_callB (call_max2 rfl) (by rfl) hx (by decide +kernel) (pa_cons pe_int (pa_cons (pe_callB call_len_seq (by rfl) hl PySem.boot_len (pa_cons (pv 2) pa_nil)) pa_nil))))))
      (pss_cons (ps_set (i := 4) scNumbers.nd rfl (Or.inl rfl) (pe_lst pa_nil))
      (pss_cons (ps_for PassesOwn.never rfl (pi_list (pv 2)) (pg_name (i := 5) scNumbers.nd rfl (Or.inl rfl))
        (pss_one (ps_for PassesOwn.never rfl (pi_list (pe_call GR hr (by rfl) gR kR bR .nil pass0 (pa_cons (pv 5) (pa_cons (pv 3) pa_nil)))) (pg_name (i := 6) scNumbers.nd rfl (Or.inl rfl))
          (pss_one (ps_expr (pe_bm PySem.F.plainAttrs_list PySem.F.slot_list_append PySem.F.type_list_append mt_append (pv 4) (pa_cons (pv 6) pa_nil)))))))
      (pss_cons (ps_while PassesOwn.never (pt_cmpR op_lt (pe_callB call_len_seq (by rfl) hl PySem.boot_len (pa_cons (pv 4) pa_nil)) (pv 1) (nomark _))
          (pss_one (ps_expr (pe_bm PySem.F.plainAttrs_list PySem.F.slot_list_append PySem.F.type_list_append mt_append (pv 4) (pa_cons pe_int pa_nil)))))
      (pss_one (ps_ret (pe_slice sl_list (pv 4) po_none (po_some (pv 1))))))))), ?_⟩
    -- cells
    refine ⟨_, rfl, _, rfl, a, _, rfl, hS, fun c nc => ?_⟩
    have ec : cutV (zs.map V.int) none (some 63) = zs.map V.int := by
      have q := cutV_pre (zs.map V.int) 63
      rw [List.take_of_length_le (by rw [List.length_map]; exact hz)] at q
      exact q
    rw [ec]
    have g1 := Grew.new hP (o := .lst (zs.map V.int)) nc
    -- each
    refine ⟨_, rfl, _, rfl, c, _, rfl, .inl (SqL.of upd_same), 1, _, rfl, _, _, rfl, rfl, ?_, _, _, rfl, rfl, ?_⟩
    · rw [List.length_map]
      constructor
      · split <;> omega
      · split <;> omega
    rw [List.length_map]
    generalize hdv : (if ((zs.length : Nat) : Int) > 1 then ((zs.length : Nat) : Int) else 1) = dv
    have hdp : 0 < dv := by rw [← hdv]; split <;> omega
    obtain ⟨e, he, he2⟩ : ∃ e : Nat, 1 + (m : Int) / dv = (e : Int) ∧ e ≤ 1000 := by
      have h1 : 0 ≤ (m : Int) / dv := Int.ediv_nonneg (by omega) (by omega)
      have h2 : (m : Int) / dv ≤ m := Int.ediv_le_self _ (by omega)
      exact ⟨(1 + (m : Int) / dv).toNat, by omega, by omega⟩
    refine ⟨Nat.zero_le _, fun p np => ?_⟩
    have g2 := g1.put (o := .lst []) np
    have hc : L2.upd (L2.upd H c (.lst (zs.map V.int))) p (.lst []) c = some (.lst (zs.map V.int)) := (Grew.new g1.tab np).lst g1.tab upd_same
    have ncp : c ≠ p := ne_of_none upd_same np
    refine ⟨_, rfl, c, rfl, ⟨_, SqL.of hc⟩, for_list (K := K) (a := c) (xs := zs.map V.int) (fun i σ H' => ∃ v5 v6, ∃ ns : List Int, σ = [some (.ref a), some (.int m), some (.ref c), some (.int (1 + (m : Int) / dv)), some (.ref p), v5, v6] ∧ Grew P H H' ∧ H' c = some (.lst (zs.map V.int)) ∧ H' p = some (.lst (ns.map V.int)) ∧ ns.length ≤ 1000 * i ∧ Sm ns)
      ⟨none, none, [], rfl, g2, hc, upd_same, Nat.zero_le _, fun n hn => by cases hn⟩ (fun i σ H' _ ⟨_, _, _, _, _, h, _⟩ => SqL.of h) ?_ ?_⟩
    · rintro i y σ H' hi ⟨v5, v6, ns, rfl, g, hcc, hp, hln, hsm⟩
      obtain ⟨z, rfl⟩ : ∃ z, y = V.int z := by
        rw [List.getElem?_map] at hi
        cases q : zs[i]? with
        | none => rw [q] at hi; cases hi
        | some z => rw [q] at hi; exact ⟨z, (Option.some.inj hi).symm⟩
      have hi63 : i < 63 := by
        have q := (List.getElem?_eq_some_iff.mp hi).1
        rw [List.length_map] at q
        omega
      refine ⟨_, rfl, _, rfl, z, e, by rw [he]; rfl, he2, g.tab, fun H2 q rs gr nq eq hrl hrs => ?_⟩
      have np2 : p ≠ q := ne_of_none hp nq
      have np0 : H p = none := (Grew.new hP nc).free np
      refine ⟨q, rfl, ⟨_, SqL.of eq⟩, for_list (K := K) (a := q) (xs := rs.map V.int) (fun j σ H' => ∃ v5 v6, σ = [some (.ref a), some (.int m), some (.ref c), some (.int (1 + (m : Int) / dv)), some (.ref p), v5, v6] ∧ Grew P H H' ∧ H' c = some (.lst (zs.map V.int)) ∧ H' q = some (.lst (rs.map V.int)) ∧ H' p = some (.lst ((ns ++ rs.take j).map V.int)))
        ⟨_, _, rfl, g.trans gr, gr.lst g.tab hcc, eq, by rw [List.take_zero, List.append_nil]; exact gr.lst g.tab hp⟩ (fun j σ H' _ ⟨_, _, _, _, _, h, _⟩ => SqL.of h) ?_ ?_⟩
      · rintro j y σ H3 hj ⟨w5, w6, rfl, g3, hc3, hq3, hp3⟩
        obtain ⟨z2, hz2, rfl⟩ : ∃ z, rs[j]? = some z ∧ y = V.int z := by
          rw [List.getElem?_map] at hj
          cases q : rs[j]? with
          | none => rw [q] at hj; cases hj
          | some z => rw [q] at hj; exact ⟨z, rfl, (Option.some.inj hj).symm⟩
        refine ⟨_, rfl, .inl ⟨rfl, _, SqL.of hp3⟩, _, rfl, p, _, _, rfl, rfl, hp3, ?_, _, _, rfl, g3.write hp3 (fun _ z => by cases z) np0, ?_, ?_, ?_⟩
        · rw [List.length_map, List.length_append, List.length_take, sizeLine_eq]; omega
        · rw [upd_ne ncp]; exact hc3
        · rw [upd_ne np2.symm]; exact hq3
        · rw [upd_same, List.take_succ, hz2]; simp
      · rintro σ H3 ⟨w5, w6, rfl, g3, hc3, hq3, hp3⟩
        rw [List.length_map, List.take_length] at hp3
        exact ⟨_, _, ns ++ rs, rfl, g3, hc3, hp3, by rw [List.length_append]; omega, hsm.app hrs⟩
    · rintro σ H' ⟨v5, v6, ns, rfl, g, hcc, hp, hln, hsm⟩
      rw [List.length_map] at hln
      have np0 : H p = none := (Grew.new hP nc).free np
      refine ⟨fun n σ H' => ∃ ns : List Int, σ = [some (.ref a), some (.int m), some (.ref c), some (.int (1 + (m : Int) / dv)), some (.ref p), v5, v6] ∧ Grew P H H' ∧ H' p = some (.lst (ns.map V.int)) ∧ ns.length ≤ 70000 ∧ Sm ns ∧ n = m - ns.length,
        ⟨_, ns, rfl, g, hp, by omega, hsm, rfl⟩, ?_⟩
      rintro n σ H3 ⟨ms, rfl, g3, hp3, hl3, hs3, rfl⟩
      refine ⟨_, rfl, p, _, rfl, .inl (SqL.of hp3), _, rfl, _, _, rfl, rfl, _, rfl, ?_⟩
      rw [List.length_map]
      refine ite2 (fun hlt => ?_) (fun hge => ?_)
      · have hlt' : (ms.length : Int) < m := of_decide_eq_true hlt
        refine ⟨_, fun _ _ h => h, _, rfl, .inl ⟨rfl, _, SqL.of hp3⟩, p, _, _, rfl, rfl, hp3, ?_, m - (ms.length + 1), by omega, ms ++ [0], rfl, g3.write hp3 (fun _ z => by cases z) np0, ?_, ?_, hs3.snoc (by decide) (by decide), ?_⟩
        · rw [List.length_map, sizeLine_eq]; omega
        · rw [upd_same, List.map_append]; rfl
        · rw [List.length_append, List.length_singleton]; omega
        · rw [List.length_append, List.length_singleton]
      · have hge' : ¬ (ms.length : Int) < m := fun z => hge (decide_eq_true z)
        refine ⟨_, rfl, _, rfl, _, rfl, p, _, rfl, SqL.of hp3, fun r nr => ?_⟩
        have ec2 := cutV_pre (ms.map V.int) m
        rw [ec2, ← List.map_take]
        exact k _ r (ms.take m) (g3.put nr) (g3.free nr) upd_same (by rw [List.length_take]; omega) (hs3.take m)
end
end W

set_option Elab.async false
set_option linter.all false
set_option maxRecDepth 100000
set_option maxHeartbeats 2000000
/-! a text times an int -/
namespace MyG
open PySem PySem.Spec PyProof.Rows L2
/-- n times the sign c -/
def sgns (c : Nat) (n : Nat) : Str := ⟨(List.replicate n c).toArray⟩
def rMulS (c : Nat) : R2 := fun x y H Q => ∃ n : Int, x = .str ⟨#[c]⟩ ∧ y = .int n ∧ 0 ≤ n ∧ n ≤ 1000 ∧ Q (.str (sgns c n.toNat)) H
theorem foldl_one (c : Nat) : ∀ (m : Nat) (a : Array Nat), (List.replicate m #[c]).foldl (· ++ ·) a = a ++ (List.replicate m c).toArray
  | 0, a => by simp
  | m + 1, a => by
    rw [List.replicate_succ, List.foldl_cons, foldl_one c m, List.replicate_succ]
    apply Array.toList_inj.mp
    simp
theorem mul_one {c : Nat} {n : Int} (h : 0 ≤ n) : Txt.mul ⟨#[c]⟩ n = sgns c n.toNat := by
  unfold Txt.mul sgns
  by_cases h1 : n < 1
  · rw [if_pos h1]
    have : n = 0 := by omega
    subst this
    rfl
  · rw [if_neg h1]
    by_cases h2 : n = 1
    · subst h2
      rfl
    · have e : (n == 1 || (⟨#[c]⟩ : Str).length == 0) = false := by
        have : (n == 1) = false := by simp [h2]
        rw [this]
        rfl
      rw [e, if_neg Bool.false_ne_true, foldl_one]
      simp
theorem op_mulS {X : Cx} {c : Nat} : OpR X (binaryOp .Mult) (rMulS c) := by
  intro pins s σ H x y v u Q I rx ry h
  obtain ⟨n, rfl, rfl, h0, h1, q⟩ := h
  obtain ⟨t, rfl⟩ := rx
  obtain ⟨t2, rfl⟩ := ry
  have hl : (⟨#[c]⟩ : Str).length = 1 := rfl
  refine SB.mul ⟨?_, fun h2 _ => ?_, fun h2 _ => ?_⟩ fun t' k => ⟨.str (sgns c n.toNat), H, I.tok k, ⟨t', by rw [mul_one h0]⟩, q⟩
  · have a1 : ¬ n < -(2 ^ 63 : Int) := by omega
    have a2 : ¬ n ≥ 2 ^ 63 := by omega
    rw [decide_eq_false a1, decide_eq_false a2]
    rfl
  · rw [hl]
    have : (1 : Int) ≤ (2 ^ 63 - 1) / n := by
      rw [Int.le_ediv_iff_mul_le (by omega)]
      omega
    omega
  · rw [hl, Nat.one_mul]
    unfold Builtin.Str.tooLong
    exact decide_eq_false (by have := sizeLine_eq; omega)
end MyG

set_option Elab.async false
set_option linter.all false
set_option maxRecDepth 100000
set_option maxHeartbeats 4000000
namespace W
open PySem PySem.Spec PyProof.Rows L2 GxR MyG
abbrev sIsNr : Stmt := top 11
def digC (c : Nat) : Bool := decide (c ∈ zDig.cps.toList)
def z0 : Str := "0"
def isNr (lim : Nat) (z : Str) : Bool := decide (1 ≤ z.length) && decide (z.length ≤ lim) && z.cps.toList.all digC && (decide (z = z0) || !decide (z.cps.toList.head? = some 48))
/-- the element of the generator: x in A -/
theorem elt_one {prog : Program} {w : World} {base : Heap} {mg : Str → Option Value} {scope : Scope} {x A : Str} {a : Str} {ta : Tok} {p1 p2 p3 : Pos} (hk : scope.kind = .function) (hl : scope.names.lookup x = some .local)
    (hA : scope.names.lookup A = some .globalImplicit) (hns : base.Ns mainGlobals mg) (eA : mg A = some (.str a ta))
    (hd : (x == ("__debug__" : Str)) = false := by decide) (hdA : (A == ("__debug__" : Str)) = false := by decide) :
    EltB prog w base scope x (.Compare (.Name x p1) [.In] [.Name A p2] p3) (fun c => decide (c ∈ a.cps.toList)) := by
  intro ce B' F c t z m hs hg hh hb hn hm
  have kf : ce.scope.kind = .function := by rw [hs]; exact hk
  have kx : ce.kindOf x = some .local := by show ce.scope.names.lookup x = _; rw [hs]; exact hl
  have nsz : ∀ (z' : Shared), Keeps z z' → z'.heap.Ns ce.globals mg := fun z' k => by
    rw [hg]
    obtain ⟨h', tk, rfl, kk⟩ := k
    exact (hns.keeps hb).keeps kk
  refine wpAny_Compare1 ?_
  refine wpAny_Name (wpAny_loadName_local kf kx hn hm ?_) hd
  refine Calls.Name_function_global kf (by show ce.scope.names.lookup A = _; rw [hs]; exact hA) (Calls.loadGlobal_global (nsz z (keeps_refl z)) eA ?_) hdA
  refine PyProof.Rows.in_str ?_
  rw [PySem.StrLaws.found_one a c]
  exact ⟨rfl, keeps_refl z⟩
def spIsNr (P : Addr) : Sp := fun vs H Q _ => ∃ (z : Str) (lim : Nat), vs = [.str z, .int (lim : Int)] ∧ z.length ≤ sizeLine ∧ TabG H P ∧ ∀ H', Tabbed P H H' → Q (.bl (isNr lim z)) H'
section
variable {Pg : Program} {w : World} {K : PySem.W.Frag} {mg : Str → Option Value} {base : Heap} {C P : Addr}
theorem scIsNr : FnScope ["word", "longest"] ["word", "longest"] (defScope sIsNr) := ⟨rfl, rfl, rfl, by decide +kernel, rfl, by decide +kernel, by decide +kernel⟩
theorem ok_isNr {f c : Addr} {fd : FuncData} {td : Tok} (F : FunD K "is_number" "is_number" (defArgs sIsNr) (defBody sIsNr) (defScope sIsNr) [.int 6] [] f fd) (hlen : mg "len" = none) (hall : mg "all" = none) (ed : mg "DIGITS" = some (.str zDig td)) (TB : TabB base mg c P) (hfc : fd.code = .ref c) (hns : base.Ns mainGlobals mg) :
    FnOk Pg w K mg base CX0 2 f fd ["word", "longest"] (spIsNr P) := by
  obtain ⟨oc, od, dV, kV, doc, pm, an, cdv, ct, osl, efd, lk, hcd, _, _⟩ := F.ex
  subst efd
  have ecd : cdv = .ref c := hfc
  subst ecd
  refine fn_of lk hcd scIsNr (fun vs H Q E h => ?_) (fun A outer s H vs Q E hr h => ?_)
  · obtain ⟨z, lim, rfl, _⟩ := h
    rfl
  · obtain ⟨z, lim, rfl, hz, hP, k⟩ := h
    refine ⟨_, PSs.nox (pss_cons (ps_if (pt_not (pt_chain op_le op_le pe_int (pe_callB call_len_str (by rfl) hlen PySem.boot_len (pa_cons (pv 0) pa_nil)) (pv 1)))
        (pss_one (ps_ret pe_bl)) pss_nil)
      (pss_one (ps_ret (pe_and (pe_allB (scope := _) (P := P) hr rfl hall TB rfl ⟨rfl, rfl, by decide +kernel, by decide +kernel, by decide +kernel, nofree (by decide +kernel)⟩ (pv 0) (elt_one rfl (by decide +kernel) (by decide +kernel) hns ed) (fun _ => rfl))
        (pe_one (pe_or (pe_cmpR op_eq (pv 0) pe_str (nomark _)) (pe_one (pe_cmpR op_ne (pe_ix ix_str (pv 0) pe_int (fun _ _ => rfl)) pe_str (nomark _))))))))), ?_⟩
    have zl : z.length = z.cps.toList.length := by simp [Str.length]
    refine ⟨_, rfl, z, rfl, hz, 1, _, rfl, rfl, _, rfl, ?_⟩
    have off : isNr lim z = false → Q (.bl false) H := fun e => by
      have := k H ⟨hP, fun _ _ => rfl⟩
      rw [e] at this
      exact this
    by_cases h1 : (1 : Int) ≤ (z.length : Int)
    · refine if_t (decide_eq_true h1) ⟨_, rfl, _, _, rfl, rfl, _, rfl, ?_⟩
      by_cases h2 : (z.length : Int) ≤ (lim : Int)
      · rw [decide_eq_true h2]
        refine iteF ?_
        have hp : 0 < z.cps.toList.length := by omega
        have e0 : atI z.cps.toList 0 = some (z.cps.toList[0]'hp) := atI_nat (j := 0) (List.getElem?_eq_getElem hp)
        refine ⟨_, rfl, z, rfl, hP, fun H2 hH => ⟨_, rfl, ?_⟩⟩
        have e := k H2 hH
        have b1 : decide (1 ≤ z.length) = true := decide_eq_true (by omega)
        have b2 : decide (z.length ≤ lim) = true := decide_eq_true (by omega)
        have ez : isNr lim z = (z.cps.toList.all digC && (decide (z = z0) || !decide (z.cps.toList.head? = some 48))) := by
          unfold isNr
          rw [b1, b2, Bool.true_and, Bool.true_and]
        rw [ez] at e
        refine ite2 (fun ha => ?_) (fun ha => ?_)
        · have ha' : z.cps.toList.all digC = true := ha
          rw [ha', Bool.true_and] at e
          refine ⟨_, rfl, rfl, _, rfl, ?_⟩
          by_cases h3 : z = z0
          · rw [decide_eq_true h3] at e
            have q : decide (V.str z = V.str z0) = true := decide_eq_true (congrArg V.str h3)
            exact if_t q e
          · rw [decide_eq_false h3, Bool.false_or] at e
            have q : decide (V.str z = V.str z0) = false := decide_eq_false fun e2 => h3 (by injection e2)
            refine if_f q ⟨_, rfl, z, 0, _, rfl, rfl, hz, e0, rfl, ?_⟩
            have q2 : (!decide (V.str ⟨#[z.cps.toList[0]'hp]⟩ = V.str z0)) = !decide (z.cps.toList.head? = some 48) := by
              refine congrArg Bool.not (decide_eq_decide.mpr ?_)
              rw [List.head?_eq_getElem?, List.getElem?_eq_getElem hp]
              constructor
              · intro e3
                injection e3 with e4
                have e5 : (#[z.cps.toList[0]'hp] : Array Nat) = #[48] := congrArg Str.cps e4
                have e6 := congrArg Array.toList e5
                injection e6 with e7
                rw [e7]
              · intro e3
                injection e3 with e4
                rw [e4]
                rfl
            exact q2.symm ▸ e
        · have ha' : z.cps.toList.all digC = false := Bool.eq_false_iff.mpr ha
          rw [ha', Bool.false_and] at e
          exact e
      · rw [decide_eq_false h2]
        refine iteT (off ?_)
        unfold isNr
        have : ¬ z.length ≤ lim := by omega
        simp [this]
    · refine if_f (decide_eq_false h1) ⟨_, rfl, ?_⟩
      refine iteT (off ?_)
      unfold isNr
      have : ¬ 1 ≤ z.length := by omega
      simp [this]
end
end W

set_option Elab.async false
set_option linter.all false
set_option maxRecDepth 100000
set_option maxHeartbeats 400000
namespace W
open PySem PySem.Spec PyProof.Rows L2 GxR MyG
/-! ### numbers as they are written -/
def numS (n : Nat) : Str := Str.ofString (toString ((n : Nat) : Int))
theorem numS_tl (n : Nat) : TL.tl (numS n) = TL.numL n := TL.tl_num n
theorem str_len (z : Str) : z.length = z.cps.toList.length := by simp [Str.length]
theorem numS_len (n : Nat) : (numS n).length = (TL.numL n).length := by
  rw [str_len]
  exact congrArg List.length (numS_tl n)
theorem dig_iff (c : Nat) : c ∈ zDig.cps.toList ↔ 48 ≤ c ∧ c ≤ 57 := by
  have e : zDig.cps.toList = [48, 49, 50, 51, 52, 53, 54, 55, 56, 57] := by decide +kernel
  rw [e]
  simp only [List.mem_cons, List.not_mem_nil, or_false]
  omega
theorem numL_head : ∀ (n : Nat), 0 < n → (TL.numL n).head? ≠ some 48 := by
  intro n
  induction n using Nat.strongRecOn with
  | _ n ih =>
    intro hn h
    by_cases c : n < 10
    · rw [TL.numL_lt c] at h
      simp at h
      omega
    · rw [TL.numL_step (by omega)] at h
      have hne := TL.numL_ne (n / 10)
      have h2 : (TL.numL (n / 10)).head? = some 48 := by
        cases q : TL.numL (n / 10) with
        | nil => exact absurd q hne
        | cons a r => rw [q] at h; exact h
      exact ih (n / 10) (by omega) (by omega) h2
theorem numS_nr {n : Nat} (h : n ≤ 999999999) : isNr 9 (numS n) = true := by
  unfold isNr
  have e := numS_tl n
  have e1 : (numS n).cps.toList = TL.numL n := e
  have hl := TL.numL_len (n := n) (k := 9) (by decide) (by omega)
  have hp : 1 ≤ (TL.numL n).length := List.length_pos_iff.mpr (TL.numL_ne n)
  rw [numS_len, e1]
  have a1 : (TL.numL n).all digC = true := List.all_eq_true.mpr fun c hc => by
    have hd := TL.numL_digits n c hc
    unfold digC
    exact decide_eq_true ((dig_iff c).mpr (by first | exact hd | (simpa using hd)))
  rw [decide_eq_true hp, decide_eq_true hl, a1]
  by_cases c : n = 0
  · subst c
    have : numS 0 = z0 := by decide +kernel
    rw [decide_eq_true this]
    rfl
  · have := numL_head n (by omega)
    rw [decide_eq_false this]
    simp
end W

set_option Elab.async false
set_option linter.all false
set_option maxRecDepth 100000
set_option maxHeartbeats 2000000
namespace W
open PySem PySem.Spec PyProof.Rows L2 GxR MyG
abbrev sRows : Stmt := top 10
abbrev sMom : Stmt := top 19
abbrev sCan : Stmt := top 18
def zSp : Str := " "
def zNl : Str := "\n"
theorem inV_dec (z : Str) (xs : List Str) : inV (.str z) (xs.map V.str) = decide (z ∈ xs) := by
  unfold inV
  rw [List.any_map, Bool.eq_iff_iff, List.any_eq_true, decide_eq_true_eq]
  constructor
  · rintro ⟨y, hy, e⟩
    have q : y = z := by simpa [eqV] using e
    exact q ▸ hy
  · intro h
    exact ⟨z, h, by simp [eqV]⟩
theorem flat_strs (xs : List Str) : (xs.map V.str).all flatV = true := by
  rw [List.all_map]
  exact List.all_eq_true.mpr fun _ _ => rfl
/-! ### lists of texts compared -/
theorem dpAll_strs {K : PySem.W.Frag} {H : Hp} : ∀ ns : List Str, DpAll K H (ns.map V.str) (ns.map PyData.str)
  | [] => .nil
  | n :: ns => .cons (.str n) (dpAll_strs ns)
theorem lay_strs : ∀ {ls : List Str}, (∀ s ∈ ls, PyData.strOk s = true) → PyData.canLayAll0 (ls.map .str) = true ∧ PyData.depthAll (ls.map .str) ≤ 1
  | [], _ => by simp [PyData.canLayAll0, PyData.depthAll]
  | s :: ls, h => by
    obtain ⟨i1, i2⟩ := lay_strs (ls := ls) fun x hx => h x (List.mem_cons_of_mem _ hx)
    have a1 := h s List.mem_cons_self
    refine ⟨?_, ?_⟩
    · simp only [List.map_cons, PyData.canLayAll0, PyData.canLay0, a1, i1, Bool.and_self]
    · simp only [List.map_cons, PyData.depthAll, PyData.depth]; omega
theorem shaped_strs {ls : List Str} (h : ∀ s ∈ ls, PyData.strOk s = true) : SeqAt.shaped (PyData.list (ls.map .str)) = true := by
  obtain ⟨i1, i4⟩ := lay_strs h
  unfold SeqAt.shaped
  rw [Bool.and_eq_true]
  refine ⟨by simpa [PyData.canLay0] using i1, decide_eq_true ?_⟩
  simp only [PyData.depth]
  omega
theorem eqvAll_strs : ∀ (xs ys : List Str), PyData.eqvAll (xs.map .str) (ys.map .str) = decide (xs = ys)
  | [], [] => by simp [PyData.eqvAll]
  | [], y :: ys => by simp [PyData.eqvAll]
  | x :: xs, [] => by simp [PyData.eqvAll]
  | x :: xs, y :: ys => by
    rw [List.map_cons, List.map_cons, PyData.eqvAll, eqvAll_strs xs ys]
    have e : PyData.eqv (.str x) (.str y) = decide (x = y) := by
      rw [PyData.eqv]
      exact Bool.beq_eq_decide_eq ..
    rw [e, Bool.eq_iff_iff, Bool.and_eq_true, decide_eq_true_eq, decide_eq_true_eq, decide_eq_true_eq, List.cons.injEq]
theorem eqv_lists (xs ys : List Str) : PyData.eqv (.list (xs.map .str)) (.list (ys.map .str)) = decide (xs = ys) := by
  rw [PyData.eqv]
  exact eqvAll_strs xs ys
/-! ### rows -/
theorem Paired.snoc {α β : Type} {F : α → β → Prop} {a : α} {b : β} : ∀ {l : List α} {m : List β}, Paired F l m → F a b → Paired F (l ++ [a]) (m ++ [b])
  | _, _, .nil, h => .cons h .nil
  | _, _, .cons r t, h => .cons r (Paired.snoc t h)
theorem Paired.len {α β : Type} {F : α → β → Prop} : ∀ {l : List α} {m : List β}, Paired F l m → l.length = m.length
  | _, _, .nil => rfl
  | _, _, .cons _ t => congrArg Nat.succ (Paired.len t)
theorem Paired.at {α β : Type} {F : α → β → Prop} : ∀ {l : List α} {m : List β} {i : Nat} {b : β}, Paired F l m → m[i]? = some b → ∃ a, l[i]? = some a ∧ F a b
  | _, _, _, _, .nil, e => by simp at e
  | _, _, 0, _, .cons r _, e => ⟨_, rfl, by simp at e; subst e; exact r⟩
  | _, _, i + 1, _, .cons _ t, e => by
    obtain ⟨a, h1, h2⟩ := Paired.at (i := i) t (by simpa using e)
    exact ⟨a, by simpa using h1, h2⟩
theorem Paired.to {α β : Type} {F : α → β → Prop} : ∀ {l : List α} {m : List β} {i : Nat} {a : α}, Paired F l m → l[i]? = some a → ∃ b, m[i]? = some b ∧ F a b
  | _, _, _, _, .nil, e => by simp at e
  | _, _, 0, _, .cons r _, e => ⟨_, rfl, by simp at e; subst e; exact r⟩
  | _, _, i + 1, _, .cons _ t, e => by
    obtain ⟨a, h1, h2⟩ := Paired.to (i := i) t (by simpa using e)
    exact ⟨a, by simpa using h1, h2⟩
theorem Paired.map' {α β : Type} {F G : α → β → Prop} : ∀ {l : List α} {m : List β}, Paired F l m → (∀ a b, F a b → G a b) → Paired G l m
  | _, _, .nil, _ => .nil
  | _, _, .cons r t, f => .cons (f _ _ r) (Paired.map' t f)
/-- a row as it lies: a list of its words -/
def RowL (H : Hp) (ws : List Str) (v : V) : Prop := ∃ a, v = .ref a ∧ H a = some (.lst (ws.map V.str))
theorem RowL.grew {P : Addr} {H H' : Hp} {ws : List Str} {v : V} (g : Grew P H H') (hP : TabG H P) (h : RowL H ws v) : RowL H' ws v := let ⟨a, e, q⟩ := h; ⟨a, e, g.lst hP q⟩
def RowD (D : Addr) (H : Hp) (ws : List Str) (v : V) : Prop := ∃ a, v = .ref a ∧ a ≠ D ∧ H a = some (.lst (ws.map V.str))
def spRows (P : Addr) : Sp := fun vs H Q _ => ∃ (z : Str) (ls : List Str), vs = [.str z] ∧ Txt.split z zNl = ls ∧ z.length ≤ 10000 ∧ ls.length ≤ 1000 ∧ (∀ l ∈ ls, l.length ≤ 1000) ∧ TabG H P ∧
  ∀ (H' : Hp) (p : Addr) (rs : List V), Grew P H H' → H p = none → H' p = some (.lst rs) → Paired (RowL H') (ls.map fun l => Txt.split l zSp) rs → Q (.ref p) H'
def spMom (P : Addr) : Sp := fun vs H Q _ => ∃ z : Str, vs = [.str z] ∧ z.length ≤ 1000 ∧ TabG H P ∧ ∀ H', Tabbed P H H' → Q (.bl (isNr 9 z)) H'
section
variable {Pg : Program} {w : World} {K : PySem.W.Frag} {mg : Str → Option Value} {base : Heap} {C P Pn : Addr}
abbrev nRows : List Str := ["text", "line"]
theorem scRows : FnScope nRows ["text"] (defScope sRows) := ⟨rfl, rfl, rfl, by decide +kernel, rfl, by decide +kernel, by decide +kernel⟩
theorem ok_rows {f : Addr} {fd : FuncData} (F : Fun K "rows_of" "rows_of" sRows f fd) : FnOk Pg w K mg base CX0 1 f fd ["text"] (spRows P) := by
  refine F.ok scRows (fun vs H Q E h => ?_) (fun cdv A outer s H vs Q E hr h => ?_)
  · obtain ⟨z, ls, rfl, _⟩ := h
    rfl
  · obtain ⟨z, ls, rfl, els, hz, ll, hlen, hP, k⟩ := h
    refine ⟨_, pss_one (ps_ret (pe_lc (own := [("line", 1)]) (g := gName 1) (tt := tYes) rfl scRows.nd (pi_list (pe_split (pv 0) pe_str)) (blkOk_by (N := nRows) (sc := defScope sRows) (by decide +kernel)) (fun _ _ _ _ _ => pg_name (i := 1) scRows.nd rfl (Or.inl rfl))
        (fun _ _ _ _ _ => pts_nil) (fun _ _ _ _ _ => pe_split (pv 1) pe_str))), ?_⟩
    refine ⟨_, rfl, ⟨_, rfl⟩, _, _, rfl, rfl, rfl, by rw [sizeLine_eq]; omega, fun l nl => ?_⟩
    have el : Txt.split z (Str.ofString "\n") = ls := els
    rw [el]
    have g1 := Grew.new hP (o := .lst (ls.map V.str)) nl
    refine ⟨l, rfl, ⟨_, SqL.of upd_same⟩, fun D nD => lc_list (K := K) (a := l) (xs := ls.map V.str) (fun i H' => Grew P H H' ∧ D ≠ l ∧ H l = none ∧ H' l = some (.lst (ls.map V.str)) ∧ H D = none ∧ ∃ acc, H' D = some (.lst acc) ∧ Paired (RowD D H') ((ls.map fun l => Txt.split l zSp).take i) acc)
      ⟨g1.put nD, fun e => (by rw [e, upd_same] at nD; cases nD), nl, by rw [upd_ne (ne_of_none upd_same nD)]; exact upd_same, g1.free nD, [], upd_same, .nil⟩ (fun i H' _ h => SqL.of h.2.2.2.1) (fun i v H1 hv h => ?_) (fun H1 h => ?_)⟩
    · obtain ⟨g, nDl, n1, hl, nD', acc, hD, hacc⟩ := h
      rw [List.getElem?_map] at hv
      cases q : ls[i]? with
      | none => rw [q] at hv; cases hv
      | some x =>
        rw [q] at hv
        obtain rfl := Option.some.inj hv
        have hx := hlen x (List.mem_of_getElem? q)
        have hil := (List.getElem?_eq_some_iff.mp q).1
        have la := Paired.len hacc
        rw [List.length_take, List.length_map] at la
        have et : (ls.map fun l => Txt.split l zSp).take (i + 1) = (ls.map fun l => Txt.split l zSp).take i ++ [Txt.split x zSp] := by rw [List.take_succ, List.getElem?_map, q]; rfl
        refine ⟨rfl, _, rfl, ⟨_, rfl⟩, _, _, rfl, rfl, rfl, by rw [sizeLine_eq]; omega, fun r nr => ?_⟩
        have gr := Grew.new g.tab (o := .lst ((Txt.split x zSp).map V.str)) nr
        have hD2 := gr.lst g.tab hD
        have hl2 := gr.lst g.tab hl
        have nrD : r ≠ D := fun e => by rw [e, hD] at nr; cases nr
        have gw := (g.trans gr).write (o := .lst (acc ++ [.ref r])) hD2 (fun _ z => by cases z) nD'
        refine ⟨_, hD2, by rw [sizeLine_eq]; omega, gw, nDl, n1, by rw [upd_ne (Ne.symm nDl)]; exact hl2, nD', acc ++ [.ref r], upd_same, ?_⟩
        rw [et]
        refine Paired.snoc (Paired.map' hacc fun ws v hw => ?_) ⟨r, rfl, nrD, by rw [upd_ne nrD]; exact upd_same⟩
        obtain ⟨a, e, na, qa⟩ := hw
        exact ⟨a, e, na, by rw [upd_ne na]; exact gr.lst g.tab qa⟩
    · obtain ⟨g, nDl, n1, hl, nD', acc, hD, hacc⟩ := h
      have et : (ls.map fun l => Txt.split l zSp).take (ls.map V.str).length = ls.map fun l => Txt.split l zSp := List.take_of_length_le (by simp)
      rw [et] at hacc
      exact k H1 D acc g nD' hD (Paired.map' hacc fun _ _ hw => let ⟨a, e, _, qa⟩ := hw; ⟨a, e, qa⟩)
theorem scMom : FnScope ["word"] ["word"] (defScope sMom) := ⟨rfl, rfl, rfl, by decide +kernel, rfl, by decide +kernel, by decide +kernel⟩
theorem ok_mom {f fN : Addr} {fd fdN : FuncData} {t9 : Tok} (F : Fun K "_is_moment" "_is_moment" sMom f fd) (h9 : mg "LONGEST_NUMBER_texts" = some (.int 9 t9))
    (GN : FnOk Pg w K mg base CX0 2 fN fdN ["word", "longest"] (spIsNr Pn)) (gN : mg "is_number" = some (.ref fN)) (kN : PySem.W.keepIn K (.ref fN) = true) (bN : Binds K fdN ["word", "longest"] []) :
    FnOk Pg w K mg base CX0 3 f fd ["word"] (spMom Pn) := by
  refine F.ok scMom (fun vs H Q E h => ?_) (fun cdv A outer s H vs Q E hr h => ?_)
  · obtain ⟨z, rfl, _⟩ := h
    rfl
  · obtain ⟨z, rfl, hz, hP, k⟩ := h
    refine ⟨_, pss_one (ps_ret (pe_call GN hr (by rfl) gN kN bN .nil pass0 (pa_cons (pv 0) (pa_cons (pe_gI h9) pa_nil)))), ?_⟩
    exact ⟨_, rfl, z, 9, rfl, by rw [sizeLine_eq]; omega, hP, k⟩
end
end W

set_option Elab.async false
set_option linter.all false
set_option maxRecDepth 100000
set_option maxHeartbeats 2000000
namespace W
open PySem PySem.Spec PyProof.Rows L2 GxR MyG
def zNone : Str := "none"
def zArr : Str := "arrives"
def zBy : Str := "by"
def zLow : Str := "low"
/-- the row at i can stand there -/
def canStand (rss : List (List Str)) (i : Nat) : Bool :=
  let ws := rss.getD i []
  if i = 0 then decide (ws = [zNone]) || (decide (ws.length = 2) && (decide (ws.getD 0 Str.empty = zArr) && isNr 9 (ws.getD 1 Str.empty)))
  else if ws.getD 0 Str.empty = zBy then decide ((rss.getD (i - 1) []).getD 0 Str.empty ∈ [zArr, zBy]) && (decide (ws.length = 2) && isNm (ws.getD 1 Str.empty))
  else decide (ws.length = 3) && (decide (ws.getD 0 Str.empty = zLow) && (isNm (ws.getD 1 Str.empty) && isNr 9 (ws.getD 2 Str.empty)))
structure RowsIn (H : Hp) (p : Addr) (rss : List (List Str)) : Prop where
  ex : ∃ rs : List V, H p = some (.lst rs) ∧ Paired (RowL H) rss rs
  ne : ∀ ws ∈ rss, ws ≠ []
  ok : ∀ ws ∈ rss, ∀ z ∈ ws, PyData.strOk z = true ∧ z.length ≤ 1000
theorem RowsIn.grew {P : Addr} {H H' : Hp} {p : Addr} {rss : List (List Str)} (g : Grew P H H') (hP : TabG H P) (h : RowsIn H p rss) : RowsIn H' p rss := by
  obtain ⟨rs, e, q⟩ := h.ex
  exact ⟨⟨rs, g.lst hP e, Paired.map' q fun _ _ r => r.grew g hP⟩, h.ne, h.ok⟩
theorem RowsIn.at {H : Hp} {p : Addr} {rss : List (List Str)} (h : RowsIn H p rss) {i : Nat} (hi : i < rss.length) : ∃ (rs : List V) (a : Addr) (w : Str) (r : List Str), H p = some (.lst rs) ∧ atI rs (i : Int) = some (.ref a) ∧ rss.getD i [] = w :: r ∧ H a = some (.lst ((w :: r).map V.str)) ∧ (∀ z ∈ w :: r, PyData.strOk z = true ∧ z.length ≤ 1000) := by
  obtain ⟨rs, e, q⟩ := h.ex
  have ei := List.getElem?_eq_getElem hi
  have hm : rss[i] ∈ rss := List.getElem_mem hi
  have hne := h.ne _ hm
  have hok := h.ok _ hm
  have eg : rss.getD i [] = rss[i] := by rw [List.getD_eq_getElem?_getD, ei]; rfl
  obtain ⟨v, ev, a, rfl, ha⟩ := Paired.to q ei
  cases c : rss[i] with
  | nil => exact absurd c hne
  | cons w r =>
    rw [c] at hok ha
    exact ⟨rs, a, w, r, e, atI_nat ev, eg.trans c, ha, hok⟩
def spCan (P Pn : Addr) : Sp := fun vs H Q _ => ∃ (p : Addr) (rss : List (List Str)) (i : Nat), vs = [.ref p, .int (i : Int)] ∧ RowsIn H p rss ∧ i < rss.length ∧ TabG H P ∧ TabG H Pn ∧ ∀ H', Grew P H H' → Q (.bl (canStand rss i)) H'
theorem at_cons {xs : List Str} {i : Nat} (h : i < xs.length) : atI (xs.map V.str) (i : Int) = some (.str (xs.getD i Str.empty)) := atI_nat (by rw [List.getElem?_map, List.getD_eq_getElem?_getD, List.getElem?_eq_getElem h]; rfl)
section
variable {Pg : Program} {w : World} {K : PySem.W.Frag} {mg : Str → Option Value} {base : Heap} {C P Pn : Addr}
abbrev nCan : List Str := ["rows", "at", "words"]
theorem scCan : FnScope nCan ["rows", "at"] (defScope sCan) := ⟨rfl, rfl, rfl, by decide +kernel, rfl, by decide +kernel, by decide +kernel⟩
theorem ok_can {f fN fM : Addr} {fd fdN fdM : FuncData} (F : Fun K "_can_stand" "_can_stand" sCan f fd) (hl : mg "len" = none)
    (GN : FnOk Pg w K mg base CX0 2 fN fdN ["text"] (spIsName P)) (gN : mg "is_name" = some (.ref fN)) (kN : PySem.W.keepIn K (.ref fN) = true) (bN : Binds K fdN ["text"] [])
    (GM : FnOk Pg w K mg base CX0 3 fM fdM ["word"] (spMom Pn)) (gM : mg "_is_moment" = some (.ref fM)) (kM : PySem.W.keepIn K (.ref fM) = true) (bM : Binds K fdM ["word"] []) :
    FnOk Pg w K mg base CX0 4 f fd ["rows", "at"] (spCan P Pn) := by
  refine F.ok scCan (fun vs H Q E h => ?_) (fun cdv A outer s H vs Q E hr h => ?_)
  · obtain ⟨p, rss, i, rfl, _⟩ := h
    rfl
  · obtain ⟨p, rss, i, rfl, hR, hi, hP, hPn, k⟩ := h
    refine ⟨_, pss_cons (ps_set (i := 2) scCan.nd rfl (Or.inl rfl) (pe_ix (r := rIxL K) ix_list (pv 0) (pv 1) (fun _ _ => rfl)))
      (pss_cons (ps_if (pt_cmpR op_eq (pv 1) pe_int (nomark _)) (pss_one (ps_ret (pe_or (pe_cmpR (r := rEqD K) (op_eqD hr.units) (pv 2) (pe_lst (pa_cons pe_str pa_nil)) (nomark _))
          (pe_one (pe_and (pe_cmpR op_eq (pe_callB call_len_seq (by rfl) hl PySem.boot_len (pa_cons (pv 2) pa_nil)) pe_int (nomark _)) (pe_and (pe_cmpR op_eq (pe_ix (r := rIxL K) ix_list (pv 2) pe_int (fun _ _ => rfl)) pe_str (nomark _))
            (pe_one (pe_call GM (hr.mono (by decide)) (by rfl) gM kM bM .nil pass0 (pa_cons (pe_ix (r := rIxL K) ix_list (pv 2) pe_int (fun _ _ => rfl)) pa_nil))))))))) pss_nil)
      (pss_cons (ps_if (pt_cmpR op_eq (pe_ix (r := rIxL K) ix_list (pv 2) pe_int (fun _ _ => rfl)) pe_str (nomark _)) (pss_one (ps_ret (pe_and (pe_cmpR (r := rIn K false) op_in_seq (pe_ix (r := rIxL K) ix_list (pe_ix (r := rIxL K) ix_list (pv 0) (pe_op op_sub (pv 1) pe_int) (fun _ _ => rfl)) pe_int (fun _ _ => rfl)) (pe_tup (pa_cons pe_str (pa_cons pe_str pa_nil))) (by rfl))
          (pe_and (pe_cmpR op_eq (pe_callB call_len_seq (by rfl) hl PySem.boot_len (pa_cons (pv 2) pa_nil)) pe_int (nomark _)) (pe_one (pe_call GN (hr.mono (by decide)) (by rfl) gN kN bN .nil pass0 (pa_cons (pe_ix (r := rIxL K) ix_list (pv 2) pe_int (fun _ _ => rfl)) pa_nil))))))) pss_nil)
      (pss_one (ps_ret (pe_and (pe_cmpR op_eq (pe_callB call_len_seq (by rfl) hl PySem.boot_len (pa_cons (pv 2) pa_nil)) pe_int (nomark _)) (pe_and (pe_cmpR op_eq (pe_ix (r := rIxL K) ix_list (pv 2) pe_int (fun _ _ => rfl)) pe_str (nomark _))
          (pe_and (pe_call GN (hr.mono (by decide)) (by rfl) gN kN bN .nil pass0 (pa_cons (pe_ix (r := rIxL K) ix_list (pv 2) pe_int (fun _ _ => rfl)) pa_nil)) (pe_one (pe_call GM (hr.mono (by decide)) (by rfl) gM kM bM .nil pass0 (pa_cons (pe_ix (r := rIxL K) ix_list (pv 2) pe_int (fun _ _ => rfl)) pa_nil)))))))))), ?_⟩
    obtain ⟨rs, a, w0, r, hp, hat, ews, ha, hok⟩ := hR.at hi
    have lm : ((w0 :: r).map V.str).length = (w0 :: r).length := List.length_map ..
    have gr := Grew.refl hP
    have a0 : atI ((w0 :: r).map V.str) 0 = some (.str w0) := at_cons (xs := w0 :: r) (i := 0) (by simp)
    have cs : canStand rss i = (if i = 0 then decide (w0 :: r = [zNone]) || (decide ((w0 :: r).length = 2) && (decide (w0 = zArr) && isNr 9 ((w0 :: r).getD 1 Str.empty)))
      else if w0 = zBy then decide ((rss.getD (i - 1) []).getD 0 Str.empty ∈ [zArr, zBy]) && (decide ((w0 :: r).length = 2) && isNm ((w0 :: r).getD 1 Str.empty))
      else decide ((w0 :: r).length = 3) && (decide (w0 = zLow) && (isNm ((w0 :: r).getD 1 Str.empty) && isNr 9 ((w0 :: r).getD 2 Str.empty)))) := by
      unfold canStand
      rw [ews]
      rfl
    rw [cs] at k
    have one : (w0 :: r).length = 2 ∨ (w0 :: r).length = 3 → atI ((w0 :: r).map V.str) 1 = some (.str ((w0 :: r).getD 1 Str.empty)) ∧ ((w0 :: r).getD 1 Str.empty).length ≤ 1000 := fun h => by
      have h1 : 1 < (w0 :: r).length := by omega
      refine ⟨at_cons h1, ?_⟩
      rw [List.getD_eq_getElem?_getD, List.getElem?_eq_getElem h1]
      exact (hok _ (List.getElem_mem h1)).2
    have decs : ∀ (x y : Str), decide (V.str x = V.str y) = decide (x = y) := fun x y => by rw [decide_eq_decide]; exact ⟨fun e => by injection e, fun e => by rw [e]⟩
    have d2 : ∀ x : Nat, decide (V.int (x : Int) = V.int 2) = decide (x = 2) := fun x => by rw [decide_eq_decide]; exact ⟨fun e => by injection e; omega, fun e => by rw [e]; rfl⟩
    have d3 : ∀ x : Nat, decide (V.int (x : Int) = V.int 3) = decide (x = 3) := fun x => by rw [decide_eq_decide]; exact ⟨fun e => by injection e; omega, fun e => by rw [e]; rfl⟩
    refine ⟨_, rfl, _, rfl, p, _, _, _, rfl, rfl, SqL.of hp, hat, _, rfl, rfl, _, rfl, ?_⟩
    by_cases c : i = 0
    · subst c
      rw [if_pos rfl] at k
      refine if_t rfl ?_
      refine ⟨_, rfl, by decide, fun N nN => ?_⟩
      have gN := Grew.new hP (o := .lst [.str zNone]) nN
      have haN := gN.lst hP ha
      have hN : (L2.upd H N (.lst [.str zNone])) N = some (.lst (([zNone] : List Str).map V.str)) := upd_same
      refine ⟨_, _, .lst (SqL.of haN) (dpAll_strs _), .lst (SqL.of hN) (dpAll_strs _), shaped_strs fun z hz => (hok z hz).1, shaped_strs (by decide +kernel), _, rfl, ?_⟩
      rw [eqv_lists]
      by_cases c1 : w0 :: r = [zNone]
      · rw [decide_eq_true c1] at k ⊢
        exact iteT (k _ gN)
      · rw [decide_eq_false c1] at k ⊢
        refine iteF ⟨_, rfl, a, _, rfl, .inl (SqL.of haN), rfl, _, rfl, ?_⟩
        rw [lm, d2]
        by_cases c2 : (w0 :: r).length = 2
        · rw [decide_eq_true c2] at k ⊢
          obtain ⟨a1, l1⟩ := one (.inl c2)
          refine iteT ⟨_, rfl, a, _, 0, _, rfl, rfl, SqL.of haN, a0, rfl, _, rfl, ?_⟩
          show if (decide (V.str w0 = V.str zArr)) = true then _ else _
          rw [decs]
          by_cases c3 : w0 = zArr
          · rw [decide_eq_true c3] at k ⊢
            exact iteT ⟨_, rfl, a, _, 1, _, rfl, rfl, SqL.of haN, a1, _, rfl, l1, gN.tabs _ hPn, fun H' t => k H' (gN.trans (Grew.of2 gN.tab (gN.tabs _ hPn) t))⟩
          · rw [decide_eq_false c3] at k ⊢
            exact iteF (k _ gN)
        · rw [decide_eq_false c2] at k ⊢
          exact iteF (k _ gN)
    · rw [if_neg c] at k
      refine if_f ?_ ?_
      · exact decide_eq_false fun e => c (by injection e; omega)
      refine ⟨_, rfl, a, _, 0, _, rfl, rfl, SqL.of ha, a0, rfl, _, rfl, ?_⟩
      by_cases cb : w0 = zBy
      · rw [if_pos cb] at k
        refine if_t (decide_eq_true (congrArg V.str cb)) ?_
        have hi1 : i - 1 < rss.length := by omega
        obtain ⟨rs1, a', w1, r1, hp1, hat1, ews1, ha1, _⟩ := hR.at hi1
        rw [ews1] at k
        have ers : rs1 = rs := by rw [hp] at hp1; injection hp1 with e; injection e with e; exact e.symm
        rw [ers] at hat1
        have ei : ((i - 1 : Nat) : Int) = (i : Int) - 1 := by omega
        rw [ei] at hat1
        have a01 : atI ((w1 :: r1).map V.str) 0 = some (.str w1) := at_cons (xs := w1 :: r1) (i := 0) (by simp)
        have e1 : (w1 :: r1).getD 0 Str.empty = w1 := rfl
        rw [e1] at k
        refine ⟨_, rfl, _, rfl, _, _, rfl, rfl, p, _, _, _, rfl, rfl, SqL.of hp, hat1, a', _, 0, _, rfl, rfl, SqL.of ha1, a01, by decide, fun T nT => ?_⟩
        have gT := Grew.new hP (o := .tup (([zArr, zBy] : List Str).map V.str)) nT
        have hT : (L2.upd H T (.tup (([zArr, zBy] : List Str).map V.str))) T = some (.tup (([zArr, zBy] : List Str).map V.str)) := upd_same
        have haT := gT.lst hP ha
        refine ⟨T, _, rfl, .inr (SqT.of hT), rfl, flat_strs [zArr, zBy], _, rfl, ?_⟩
        rw [if_neg (by decide : ¬ false = true), show inV (V.str w1) (([zArr, zBy] : List Str).map V.str) = decide (w1 ∈ [zArr, zBy]) from inV_dec w1 [zArr, zBy]]
        by_cases c1 : w1 ∈ [zArr, zBy]
        · rw [decide_eq_true c1] at k ⊢
          refine iteT ⟨_, rfl, a, _, rfl, .inl (SqL.of haT), rfl, _, rfl, ?_⟩
          rw [lm, d2]
          by_cases c2 : (w0 :: r).length = 2
          · rw [decide_eq_true c2] at k ⊢
            obtain ⟨a1, l1⟩ := one (.inl c2)
            exact iteT ⟨_, rfl, a, _, 1, _, rfl, rfl, SqL.of haT, a1, _, rfl, by rw [sizeLine_eq]; omega, gT.tab, fun H' t => k H' (gT.trans (Grew.of t))⟩
          · rw [decide_eq_false c2] at k ⊢
            exact iteF (k _ gT)
        · rw [decide_eq_false c1] at k ⊢
          exact iteF (k _ gT)
      · rw [if_neg cb] at k
        refine if_f (decide_eq_false fun e => cb (by injection e)) ?_
        refine ⟨_, rfl, a, _, rfl, .inl (SqL.of ha), rfl, _, rfl, ?_⟩
        rw [lm, d3]
        by_cases c2 : (w0 :: r).length = 3
        · rw [decide_eq_true c2] at k ⊢
          obtain ⟨a1, l1⟩ := one (.inr c2)
          have h2 : 2 < (w0 :: r).length := by omega
          have a2 : atI ((w0 :: r).map V.str) 2 = some (.str ((w0 :: r).getD 2 Str.empty)) := at_cons h2
          have l2 : ((w0 :: r).getD 2 Str.empty).length ≤ 1000 := by
            rw [List.getD_eq_getElem?_getD, List.getElem?_eq_getElem h2]
            exact (hok _ (List.getElem_mem h2)).2
          refine iteT ⟨_, rfl, a, _, 0, _, rfl, rfl, SqL.of ha, a0, rfl, _, rfl, ?_⟩
          show if (decide (V.str w0 = V.str zLow)) = true then _ else _
          rw [decs]
          by_cases c3 : w0 = zLow
          · rw [decide_eq_true c3] at k ⊢
            refine iteT ⟨_, rfl, a, _, 1, _, rfl, rfl, SqL.of ha, a1, _, rfl, by rw [sizeLine_eq]; omega, hP, fun H1 t1 => ⟨_, rfl, ?_⟩⟩
            have g1 := Grew.of t1
            have ha1 := g1.lst hP ha
            cases cn : isNm ((w0 :: r).getD 1 Str.empty) with
            | true =>
              rw [cn] at k
              exact iteT ⟨_, rfl, a, _, 2, _, rfl, rfl, SqL.of ha1, a2, _, rfl, l2, g1.tabs _ hPn, fun H' t => k H' (g1.trans (Grew.of2 g1.tab (g1.tabs _ hPn) t))⟩
            | false =>
              rw [cn] at k
              exact iteF (k _ g1)
          · rw [decide_eq_false c3] at k ⊢
            exact iteF (k _ gr)
        · rw [decide_eq_false c2] at k ⊢
          exact iteF (k _ gr)
end
end W

set_option Elab.async false
set_option linter.all false
set_option maxRecDepth 100000
set_option maxHeartbeats 1000000
namespace W
open PySem PySem.Spec PyProof.Rows L2 GxR MyG
abbrev sPaInit : Stmt := inClass (top 13) 0
def rTupOf (K : PySem.W.Frag) : List V → Hp → VK → Prop := fun xs H Q => ∃ p ys, xs = [.ref p] ∧ ((SqL K H p ys ∧ ∀ l, H l = none → Q (.ref l) (upd H l (.tup ys))) ∨ (SqT K H p ys ∧ Q (.ref p) H))
def optV : Option Int → V
  | none => .non
  | some i => .int i
def RowAt (H : Hp) (e : Str × Int) (v : V) : Prop := ∃ p, v = .ref p ∧ H p = some (.tup [.str e.1, .int e.2])
theorem RowAt.grew {H H' : Hp} {e : Str × Int} {v : V} (g : Grew P H H') (hP : TabG H P) (h : RowAt H e v) : RowAt H' e v := let ⟨p, a, b⟩ := h; ⟨p, a, g.tup hP b⟩
structure TxtA (K : PySem.W.Frag) (Pa : Addr) : Prop where
  cl : Cls K Pa
  n0 : NoAttr K Pa "roads"
  n1 : NoAttr K Pa "arrival"
  n2 : NoAttr K Pa "lows"
theorem scPaInit : FnScope ["self", "roads", "arrival", "lows", "label"] ["self", "roads", "arrival", "lows"] (defScope sPaInit) := ⟨rfl, rfl, rfl, by decide +kernel, rfl, by decide +kernel, by decide +kernel⟩
def ToldAt (H : Hp) (Pa y : Addr) (ro : Option (List Str)) (ao : Option Int) (ls : List (Str × Int)) : Prop := ∃ dx fs L ys rv, H y = some (.ins Pa dx fs) ∧ fs.lookup ("roads" : Str) = some rv ∧ fs.lookup ("arrival" : Str) = some (optV ao) ∧ fs.lookup ("lows" : Str) = some (V.ref L) ∧ H L = some (.lst ys) ∧ Paired (RowAt H) ls ys ∧
  ((ro = none ∧ rv = .non) ∨ ∃ q rl, ro = some rl ∧ rv = .ref q ∧ H q = some (.tup (rl.map V.str)))
def RowAny (H : Hp) (e : Str × Int) (v : V) : Prop := ∃ p, v = .ref p ∧ (H p = some (.tup [.str e.1, .int e.2]) ∨ H p = some (.lst [.str e.1, .int e.2]))
theorem RowAny.grew {P : Addr} {H H' : Hp} {e : Str × Int} {v : V} (g : Grew P H H') (hP : TabG H P) (h : RowAny H e v) : RowAny H' e v := let ⟨p, a, b⟩ := h; ⟨p, a, b.imp (fun h => g.tup hP h) fun h => g.lst hP h⟩
def RoadsAny (K : PySem.W.Frag) (H : Hp) (rv : V) (ro : Option (List Str)) : Prop := (ro = none ∧ rv = .non) ∨ ∃ q rl, ro = some rl ∧ rv = .ref q ∧ (H q = some (.tup (rl.map V.str)) ∨ H q = some (.lst (rl.map V.str)))
def spPaInit2 (K : PySem.W.Frag) (Pa P : Addr) : Sp := fun vs H Q _ => ∃ (x dx L : Addr) (rv : V) (ro : Option (List Str)) (ao : Option Int) (ys : List V) (ls : List (Str × Int)) (H0 : Hp), vs = [.ref x, rv, optV ao, .ref L] ∧ Grew P H0 H ∧ TabG H0 P ∧ H0 x = none ∧ H x = some (.ins Pa dx []) ∧ RoadsAny K H0 rv ro ∧ H0 L = some (.lst ys) ∧ Paired (RowAny H0) ls ys ∧ ls.length ≤ 1000 ∧
  ∀ H', Grew P H0 H' → ToldAt H' Pa x ro ao ls → Q .non H'
section
variable {Pg : Program} {w : World} {K : PySem.W.Frag} {mg : Str → Option Value} {base : Heap} {C P : Addr}
theorem ok_paInit2 {f Pa : Addr} {fd : FuncData} (F : Fun K "__init__" "Paper.__init__" sPaInit f fd) (T : TxtA K Pa) (ht : mg "tuple" = none) : FnOk Pg w K mg base CX0 1 f fd ["self", "roads", "arrival", "lows"] (spPaInit2 K Pa P) := by
  refine F.ok scPaInit (fun vs H Q E h => ?_) (fun cdv A outer s H vs Q E hr h => ?_)
  · obtain ⟨x, dx, L, rv, ro, ao, ys, ls, H0, rfl, _⟩ := h
    rfl
  · obtain ⟨x, dx, L, rv, ro, ao, ys, ls, H0, rfl, g0, hP0, nx, hx, hrv, hL, hrows, hll, k⟩ := h
    refine ⟨_, C8.pss_cut (ps_fld (pv 0) (pe_ifExp (pt_cmp (pc_isN (pv 1))) pe_non (pe_callTy call_tuple_of (by rfl) ht (by decide +kernel) (pa_cons (pv 1) pa_nil))) rfl)
      (pss_cons (ps_fld (pv 0) (pv 2) rfl)
      (pss_one (ps_fld (pv 0) (pe_lc (own := [("label", 4)]) (g := gName 4) (tt := tYes) rfl scPaInit.nd (pi_list (pv 3)) (blkOk_by (N := ["self", "roads", "arrival", "lows", "label"]) (sc := defScope sPaInit) (by decide +kernel)) (fun _ _ _ _ _ => pg_name (i := 4) scPaInit.nd rfl (Or.inl rfl)) (fun _ _ _ _ _ => pts_nil)
          (fun _ _ _ _ _ => pe_callTy (T := "tuple") (r := rTupOf K) call_tuple_of (by rfl) ht (by decide +kernel) (pa_cons (pv 4) pa_nil))) rfl))), ?_⟩
    have nins : ∀ (fs : List (Str × V)) (q : Array Value), (HO.ins Pa dx fs) ≠ .tbl q := fun _ _ z => by cases z
    refine ⟨fun σ2 H2 => ∃ rv', σ2 = [some (.ref x), some rv, some (optV ao), some (.ref L), none] ∧ Grew P H0 H2 ∧ H2 x = some (.ins Pa dx (putF "roads" rv' [])) ∧ ((ro = none ∧ rv' = .non) ∨ ∃ q rl, ro = some rl ∧ rv' = .ref q ∧ H2 q = some (.tup (rl.map V.str))), ?_, ?_⟩
    · refine ⟨_, rfl, _, rfl, ?_⟩
      rcases hrv with ⟨e1, rfl⟩ | ⟨q, rl, e1, rfl, hq⟩
      · refine if_t rfl ?_
        exact ⟨_, rfl, x, Pa, dx, [], rfl, hx, T.cl, T.n0, by decide, .non, rfl, g0.write hx (nins _) nx, upd_same, .inl ⟨e1, rfl⟩⟩
      · refine if_f rfl ?_
        have nq : q ≠ x := fun e => by
          rw [e, nx] at hq
          rcases hq with h | h <;> cases h
        rcases hq with hq | hq
        · refine ⟨_, rfl, q, _, rfl, .inr ⟨SqT.of (g0.tup hP0 hq), ?_⟩⟩
          exact ⟨_, rfl, x, Pa, dx, [], rfl, hx, T.cl, T.n0, by decide, .ref q, rfl, g0.write hx (nins _) nx, upd_same, .inr ⟨q, rl, e1, rfl, by rw [upd_ne nq]; exact g0.tup hP0 hq⟩⟩
        · refine ⟨_, rfl, q, _, rfl, .inl ⟨SqL.of (g0.lst hP0 hq), fun l nl => ?_⟩⟩
          have nlx : l ≠ x := fun e => by rw [e, hx] at nl; cases nl
          have hx2 : L2.upd H l (.tup (rl.map V.str)) x = some (.ins Pa dx []) := by rw [upd_ne nlx.symm]; exact hx
          exact ⟨_, rfl, x, Pa, dx, [], rfl, hx2, T.cl, T.n0, by decide, .ref l, rfl, (g0.put nl).write hx2 (nins _) nx, upd_same, .inr ⟨l, rl, e1, rfl, by rw [upd_ne nlx]; exact upd_same⟩⟩
    rintro σ2 H2 ⟨rv', rfl, ga, hxa, hro⟩
    have l1 := length_putF ("roads" : Str) rv' []
    have l2 := length_putF ("arrival" : Str) (optV ao) (putF "roads" rv' [])
    rw [List.length_nil] at l1
    refine ⟨_, rfl, _, rfl, x, Pa, dx, _, rfl, hxa, T.cl, T.n1, by omega, ?_⟩
    have gb := ga.write (o := .ins Pa dx (putF "arrival" (optV ao) (putF "roads" rv' []))) hxa (nins _) nx
    have eb : L2.upd H2 x (.ins Pa dx (putF "arrival" (optV ao) (putF "roads" rv' []))) x = some (.ins Pa dx (putF "arrival" (optV ao) (putF "roads" rv' []))) := upd_same
    have hro2 : (ro = none ∧ rv' = .non) ∨ ∃ q rl, ro = some rl ∧ rv' = .ref q ∧ L2.upd H2 x (.ins Pa dx (putF "arrival" (optV ao) (putF "roads" rv' []))) q = some (.tup (rl.map V.str)) := by
      rcases hro with h | ⟨q, rl, a, b, hq⟩
      · exact .inl h
      · exact .inr ⟨q, rl, a, b, by rw [upd_ne (fun e => by rw [e, hxa] at hq; cases hq)]; exact hq⟩
    generalize L2.upd H2 x (.ins Pa dx (putF "arrival" (optV ao) (putF "roads" rv' []))) = Hb at gb eb hro2 ⊢
    refine ⟨_, rfl, L, rfl, ⟨_, SqL.of (gb.lst hP0 hL)⟩, fun N nN => lc_list (K := K) (a := L) (xs := ys) (fun j H1 => Grew P Hb H1 ∧ ∃ acc, H1 N = some (.lst acc) ∧ Paired (RowAt H1) (ls.take j) acc)
      ⟨Grew.new gb.tab nN, [], upd_same, .nil⟩ (fun j H1 _ p => SqL.of (p.1.lst gb.tab (gb.lst hP0 hL))) (fun j y H1 hj p => ?_) (fun H1 p => ?_)⟩
    · obtain ⟨g, acc, hN, hacc⟩ := p
      obtain ⟨e, he, tp, rfl, htp⟩ := Paired.at hrows hj
      have hjl := (List.getElem?_eq_some_iff.mp hj).1
      have la := Paired.len hacc
      have lb : acc.length < sizeLine := by
        rw [List.length_take] at la
        rw [sizeLine_eq]; omega
      have et : ls.take (j + 1) = ls.take j ++ [e] := by rw [List.take_succ, he]; rfl
      refine ⟨rfl, _, rfl, tp, [.str e.1, .int e.2], rfl, ?_⟩
      rcases htp with htp | htp
      · have htp1 := (gb.trans g).tup hP0 htp
        refine .inr ⟨SqT.of htp1, ?_⟩
        refine ⟨_, hN, lb, g.write hN (fun _ z => by cases z) nN, _, upd_same, ?_⟩
        rw [et]
        have kk : ∀ {e' : Str × Int} {v : V}, RowAt H1 e' v → RowAt (L2.upd H1 N (.lst (acc ++ [.ref tp]))) e' v := fun {e' v} ⟨p, a, b⟩ => ⟨p, a, by rw [upd_ne (fun z => by rw [z, hN] at b; cases b)]; exact b⟩
        exact Paired.snoc (Paired.map' hacc fun _ _ m => kk m) (kk ⟨tp, rfl, htp1⟩)
      · have htp1 := (gb.trans g).lst hP0 htp
        refine .inl ⟨SqL.of htp1, fun l nl => ?_⟩
        have nlN : l ≠ N := fun e => by rw [e, hN] at nl; cases nl
        have hN2 : L2.upd H1 l (.tup [.str e.1, .int e.2]) N = some (.lst acc) := by rw [upd_ne nlN.symm]; exact hN
        refine ⟨_, hN2, lb, (g.put nl).write hN2 (fun _ z => by cases z) nN, _, upd_same, ?_⟩
        rw [et]
        have kk : ∀ {e' : Str × Int} {v : V}, RowAt H1 e' v → RowAt (L2.upd (L2.upd H1 l (.tup [.str e.1, .int e.2])) N (.lst (acc ++ [.ref l]))) e' v := fun {e' v} ⟨p, a, b⟩ => ⟨p, a, by
          rw [upd_ne (fun z => by rw [z, hN] at b; cases b), upd_ne (fun z => by rw [z, nl] at b; cases b)]; exact b⟩
        exact Paired.snoc (Paired.map' hacc fun _ _ m => kk m) ⟨l, rfl, by rw [upd_ne nlN]; exact upd_same⟩
    · obtain ⟨g, acc, hN, hacc⟩ := p
      rw [← Paired.len hrows, List.take_length] at hacc
      have hx1 := g.get gb.tab eb (nins _)
      refine ⟨_, rfl, x, Pa, dx, _, rfl, hx1, T.cl, T.n2, by omega, ?_⟩
      have nN0 : N ≠ x := fun z => by rw [z, hx1] at hN; cases hN
      have gc := (gb.trans g).write (o := .ins Pa dx (putF "lows" (.ref N) (putF "arrival" (optV ao) (putF "roads" rv' [])))) hx1 (nins _) nx
      have kx : ∀ {b : Addr} {o : HO}, H1 b = some o → b ≠ x → L2.upd H1 x (.ins Pa dx (putF "lows" (.ref N) (putF "arrival" (optV ao) (putF "roads" rv' [])))) b = some o := fun h n => by rw [upd_ne n]; exact h
      refine k _ gc ⟨dx, _, N, acc, rv', upd_same, ?_, ?_, ?_, kx hN nN0, Paired.map' hacc fun _ _ ⟨p, a, b⟩ => ⟨p, a, kx b (fun z => by rw [z, hx1] at b; cases b)⟩, ?_⟩
      · rw [lookup_putF, if_neg (by decide +kernel), lookup_putF, if_neg (by decide +kernel), lookup_putF, if_pos rfl]
      · rw [lookup_putF, if_neg (by decide +kernel), lookup_putF, if_pos rfl]
      · rw [lookup_putF, if_pos rfl]
      · rcases hro2 with h | ⟨q, rl, a, b, hq⟩
        · exact .inl h
        · have hq1 := g.tup gb.tab hq
          exact .inr ⟨q, rl, a, b, kx hq1 (fun z => by rw [z, hx1] at hq1; cases hq1)⟩
end
end W

set_option Elab.async false
set_option linter.all false
set_option maxRecDepth 100000
set_option maxHeartbeats 400000
namespace W
open PySem PySem.Spec PyProof.Rows L2 GxR MyG
/-! ### the written form of a paper -/
def zArrS : Str := "arrives "
def zByS : Str := "by "
def zLowS : Str := "low "
def arrS (a : Nat) : Str := zArrS ++ numS a
def byS (n : Str) : Str := zByS ++ n
def lowS (e : Str × Nat) : Str := ((zLowS ++ e.1) ++ zSp) ++ numS e.2
/-- the lines; the route with its arrival, or none -/
def linesP (ro : Option (List Str × Nat)) (ls : List (Str × Nat)) : List Str := (match ro with
  | none => [zNone]
  | some p => arrS p.2 :: p.1.map byS) ++ ls.map lowS
def textP (ro : Option (List Str × Nat)) (ls : List (Str × Nat)) : Str := Txt.join zNl (linesP ro ls)
/-- the words of the lines -/
def rowsP (ro : Option (List Str × Nat)) (ls : List (Str × Nat)) : List (List Str) := (match ro with
  | none => [[zNone]]
  | some p => [zArr, numS p.2] :: p.1.map fun n => [zBy, n]) ++ ls.map fun e => [zLow, e.1, numS e.2]
/-- of a size that is told -/
structure PapOk (ro : Option (List Str × Nat)) (ls : List (Str × Nat)) : Prop where
  rn : ∀ p, ro = some p → (∀ z ∈ p.1, isNm z = true) ∧ p.1.length ≤ 10 ∧ p.2 ≤ 999999999
  ln : ∀ e ∈ ls, isNm e.1 = true ∧ e.2 ≤ 999999999
  ll : ls.length ≤ 10
/-- signs of names and of numbers -/
def plainC (c : Nat) : Bool := goodC c
theorem nm_plain {z : Str} (h : isNm z = true) : ∀ c ∈ TL.tl z, goodC c = true := by
  unfold isNm at h
  simp only [Bool.and_eq_true] at h
  exact fun c hc => List.all_eq_true.mp h.2 c hc
theorem nm_len {z : Str} (h : isNm z = true) : z.length ≤ 12 := by
  unfold isNm at h
  simp only [Bool.and_eq_true, decide_eq_true_eq] at h
  exact h.1.1.2
theorem num_plain (n : Nat) : ∀ c ∈ TL.tl (numS n), goodC c = true := fun c hc => by
  rw [numS_tl] at hc
  have hd := TL.numL_digits n c hc
  unfold goodC
  rw [Bool.or_eq_true]
  exact .inr (decide_eq_true ((dig_iff c).mpr (by first | exact hd | (simpa using hd))))
theorem good_range {c : Nat} (h : goodC c = true) : 48 ≤ c ∧ c ≤ 122 := by
  unfold goodC at h
  rw [Bool.or_eq_true, decide_eq_true_eq, decide_eq_true_eq] at h
  rcases h with h | h
  · have a1 : ∀ c ∈ zLet.cps.toList, 48 ≤ c ∧ c ≤ 122 := by decide +kernel
    exact a1 c h
  · have := (dig_iff c).mp h
    omega
theorem num_len {n : Nat} (h : n ≤ 999999999) : (numS n).length ≤ 9 := by
  rw [numS_len]
  exact TL.numL_len (by decide) (by omega)
theorem tl_lowS (e : Str × Nat) : TL.tl (lowS e) = [108, 111, 119, 32] ++ TL.tl e.1 ++ [32] ++ TL.tl (numS e.2) := by
  unfold lowS
  rw [TL.tl_append, TL.tl_append, TL.tl_append]
  rfl
theorem tl_byS (n : Str) : TL.tl (byS n) = [98, 121, 32] ++ TL.tl n := by
  unfold byS
  rw [TL.tl_append]
  rfl
theorem tl_arrS (a : Nat) : TL.tl (arrS a) = [97, 114, 114, 105, 118, 101, 115, 32] ++ TL.tl (numS a) := by
  unfold arrS
  rw [TL.tl_append]
  rfl
theorem lows_join (e : Str × Nat) : lowS e = Txt.join zSp [zLow, e.1, numS e.2] := by
  refine TL.ext_tl ?_
  rw [tl_lowS, TL.join_eq, TL.tl_join]
  show _ = TL.tl zLow ++ (TL.tl zSp ++ (TL.tl e.1 ++ (TL.tl zSp ++ TL.tl (numS e.2))))
  simp only [List.append_assoc]
  rfl
theorem bys_join (n : Str) : byS n = Txt.join zSp [zBy, n] := by
  refine TL.ext_tl ?_
  rw [tl_byS, TL.join_eq, TL.tl_join]
  rfl
theorem arrs_join (a : Nat) : arrS a = Txt.join zSp [zArr, numS a] := by
  refine TL.ext_tl ?_
  rw [tl_arrS, TL.join_eq, TL.tl_join]
  rfl
theorem no32 {l : List Nat} (h : ∀ c ∈ l, goodC c = true) : 32 ∉ l := fun m => by
  have := good_range (h 32 m)
  omega
theorem no10 {l : List Nat} (h : ∀ c ∈ l, goodC c = true) : 10 ∉ l := fun m => by
  have := good_range (h 10 m)
  omega
theorem split_low {e : Str × Nat} (h : isNm e.1 = true) : Txt.split (lowS e) zSp = [zLow, e.1, numS e.2] := by
  rw [lows_join]
  refine TL.split_join (s := 32) (S := []) rfl (by decide +kernel) (by simp) fun p hp => ?_
  simp only [List.mem_cons, List.not_mem_nil, or_false] at hp
  rcases hp with rfl | rfl | rfl
  · decide +kernel
  · exact no32 (nm_plain h)
  · exact no32 (num_plain _)
theorem split_by {n : Str} (h : isNm n = true) : Txt.split (byS n) zSp = [zBy, n] := by
  rw [bys_join]
  refine TL.split_join (s := 32) (S := []) rfl (by decide +kernel) (by simp) fun p hp => ?_
  simp only [List.mem_cons, List.not_mem_nil, or_false] at hp
  rcases hp with rfl | rfl
  · decide +kernel
  · exact no32 (nm_plain h)
theorem split_arr (a : Nat) : Txt.split (arrS a) zSp = [zArr, numS a] := by
  rw [arrs_join]
  refine TL.split_join (s := 32) (S := []) rfl (by decide +kernel) (by simp) fun p hp => ?_
  simp only [List.mem_cons, List.not_mem_nil, or_false] at hp
  rcases hp with rfl | rfl
  · decide +kernel
  · exact no32 (num_plain _)
theorem split_none : Txt.split zNone zSp = [zNone] := by
  have e : zNone = Txt.join zSp [zNone] := rfl
  have h := TL.split_join (y := zSp) (s := 32) (S := []) rfl (by decide +kernel) (parts := [zNone]) (by simp) (fun p hp => by
    rw [List.mem_singleton.mp hp]
    decide +kernel)
  rw [← e] at h
  exact h
theorem lines_ne (ro : Option (List Str × Nat)) (ls : List (Str × Nat)) : linesP ro ls ≠ [] := by
  unfold linesP
  cases ro <;> simp
theorem lines_of {ro : Option (List Str × Nat)} {ls : List (Str × Nat)} (h : PapOk ro ls) : Txt.split (textP ro ls) zNl = linesP ro ls := by
  unfold textP
  refine TL.split_join (s := 10) (S := []) rfl (by decide +kernel) (lines_ne ro ls) fun p hp => ?_
  unfold linesP at hp
  rcases List.mem_append.mp hp with hp | hp
  · cases ro with
    | none =>
      rw [List.mem_singleton.mp hp]
      decide +kernel
    | some q =>
      obtain ⟨h1, _, _⟩ := h.rn q rfl
      rcases List.mem_cons.mp hp with hp | hp
      · rw [hp, tl_arrS]
        intro hm
        rcases List.mem_append.mp hm with hm | hm
        · exact absurd hm (by decide)
        · exact no10 (num_plain _) hm
      · obtain ⟨n, hn, rfl⟩ := List.mem_map.mp hp
        rw [tl_byS]
        intro hm
        rcases List.mem_append.mp hm with hm | hm
        · exact absurd hm (by decide)
        · exact no10 (nm_plain (h1 n hn)) hm
  · obtain ⟨e, he, rfl⟩ := List.mem_map.mp hp
    have h1 := (h.ln e he).1
    rw [tl_lowS]
    intro hm
    rcases List.mem_append.mp hm with hm | hm
    · rcases List.mem_append.mp hm with hm | hm
      · rcases List.mem_append.mp hm with hm | hm
        · exact absurd hm (by decide)
        · exact no10 (nm_plain h1) hm
      · exact absurd hm (by decide)
    · exact no10 (num_plain _) hm
theorem rows_of_lines {ro : Option (List Str × Nat)} {ls : List (Str × Nat)} (h : PapOk ro ls) : ((linesP ro ls).map fun l => Txt.split l zSp) = rowsP ro ls := by
  unfold linesP rowsP
  rw [List.map_append, List.map_map]
  have e2 : ls.map ((fun l => Txt.split l zSp) ∘ lowS) = ls.map fun e => [zLow, e.1, numS e.2] := List.map_congr_left fun e he => split_low (h.ln e he).1
  rw [e2]
  congr 1
  cases ro with
  | none =>
    show [Txt.split zNone zSp] = _
    rw [split_none]
  | some q =>
    obtain ⟨h1, _, _⟩ := h.rn q rfl
    show Txt.split (arrS q.2) zSp :: (q.1.map byS).map (fun l => Txt.split l zSp) = _
    rw [split_arr, List.map_map]
    congr 1
    exact List.map_congr_left fun n hn => split_by (h1 n hn)
end W

set_option Elab.async false
set_option linter.all false
set_option maxRecDepth 100000
set_option maxHeartbeats 400000
namespace W
open PySem PySem.Spec PyProof.Rows L2 GxR MyG
theorem getD_at {α : Type} {l : List α} {i : Nat} {d v : α} (h : l[i]? = some v) : l.getD i d = v := by rw [List.getD_eq_getElem?_getD, h]; rfl
theorem can_low {e : Str × Nat} (h1 : isNm e.1 = true) (h2 : e.2 ≤ 999999999) {rss : List (List Str)} {i : Nat} (hi : i ≠ 0) (hr : rss.getD i [] = [zLow, e.1, numS e.2]) : canStand rss i = true := by
  unfold canStand
  rw [hr]
  show (if i = 0 then _ else if zLow = zBy then _ else decide (3 = 3) && (decide (zLow = zLow) && (isNm e.1 && isNr 9 (numS e.2)))) = true
  rw [if_neg hi, if_neg (by decide +kernel), h1, numS_nr h2]
  simp
theorem can_by {n : Str} (h1 : isNm n = true) {rss : List (List Str)} {i : Nat} (hi : i ≠ 0) (hr : rss.getD i [] = [zBy, n]) (hp : (rss.getD (i - 1) []).getD 0 Str.empty ∈ [zArr, zBy]) : canStand rss i = true := by
  unfold canStand
  rw [hr]
  show (if i = 0 then _ else if zBy = zBy then decide ((rss.getD (i - 1) []).getD 0 Str.empty ∈ [zArr, zBy]) && (decide (2 = 2) && isNm n) else _) = true
  rw [if_neg hi, if_pos rfl, h1, decide_eq_true hp]
  simp
theorem can_all {ro : Option (List Str × Nat)} {ls : List (Str × Nat)} (h : PapOk ro ls) {i : Nat} (hi : i < (rowsP ro ls).length) : canStand (rowsP ro ls) i = true := by
  cases ro with
  | none =>
    have er : rowsP none ls = [zNone] :: ls.map fun e => [zLow, e.1, numS e.2] := rfl
    rw [er] at hi ⊢
    cases i with
    | zero =>
      unfold canStand
      show (if 0 = 0 then decide ([zNone] = [zNone]) || _ else _) = true
      rw [if_pos rfl, decide_eq_true rfl, Bool.true_or]
    | succ j =>
      rw [List.length_cons, List.length_map] at hi
      have hj : j < ls.length := by omega
      have e := List.getElem?_eq_getElem hj
      have hm : ls[j] ∈ ls := List.getElem_mem hj
      generalize ls[j] = x at e hm
      exact can_low (h.ln x hm).1 (h.ln x hm).2 (by omega) (getD_at (by rw [List.getElem?_cons_succ, List.getElem?_map, e]; rfl))
  | some p =>
    obtain ⟨h1, _, h3⟩ := h.rn p rfl
    have er : rowsP (some p) ls = [zArr, numS p.2] :: ((p.1.map fun n => [zBy, n]) ++ ls.map fun e => [zLow, e.1, numS e.2]) := rfl
    rw [er] at hi ⊢
    cases i with
    | zero =>
      unfold canStand
      show (if 0 = 0 then decide ([zArr, numS p.2] = [zNone]) || (decide (2 = 2) && (decide (zArr = zArr) && isNr 9 (numS p.2))) else _) = true
      rw [if_pos rfl, numS_nr h3, Bool.or_eq_true]
      exact .inr (by simp)
    | succ j =>
      rw [List.length_cons, List.length_append, List.length_map, List.length_map] at hi
      by_cases hj : j < p.1.length
      · have e := List.getElem?_eq_getElem hj
        have hm : p.1[j] ∈ p.1 := List.getElem_mem hj
        generalize p.1[j] = x at e hm
        refine can_by (h1 x hm) (by omega) (getD_at (v := [zBy, x]) ?_) ?_
        · rw [List.getElem?_cons_succ, List.getElem?_append_left (by rw [List.length_map]; exact hj), List.getElem?_map, e]
          rfl
        · show ((([zArr, numS p.2] :: ((p.1.map fun n => [zBy, n]) ++ ls.map fun e => [zLow, e.1, numS e.2])) : List (List Str)).getD j []).getD 0 Str.empty ∈ [zArr, zBy]
          cases j with
          | zero => exact List.mem_cons_self ..
          | succ k =>
            have hk : k < p.1.length := by omega
            have e2 := List.getElem?_eq_getElem hk
            generalize p.1[k] = y at e2
            rw [getD_at (v := [zBy, y]) (by rw [List.getElem?_cons_succ, List.getElem?_append_left (by rw [List.length_map]; exact hk), List.getElem?_map, e2]; rfl)]
            exact List.mem_cons_of_mem _ (List.mem_cons_self ..)
      · have hj2 : j - p.1.length < ls.length := by omega
        have e := List.getElem?_eq_getElem hj2
        have hm : ls[j - p.1.length] ∈ ls := List.getElem_mem hj2
        generalize ls[j - p.1.length] = x at e hm
        refine can_low (h.ln x hm).1 (h.ln x hm).2 (by omega) (getD_at ?_)
        rw [List.getElem?_cons_succ, List.getElem?_append_right (by rw [List.length_map]; omega), List.length_map, List.getElem?_map, e]
        rfl
theorem good_ok {z : Str} (h : ∀ c ∈ TL.tl z, goodC c = true) : PyData.strOk z = true := by
  unfold PyData.strOk
  rw [← Array.all_toList]
  refine List.all_eq_true.mpr fun c hc => ?_
  have := good_range (h c hc)
  exact decide_eq_true (by omega)
theorem rows_words {ro : Option (List Str × Nat)} {ls : List (Str × Nat)} (h : PapOk ro ls) : ∀ ws ∈ rowsP ro ls, ws ≠ [] ∧ ∀ z ∈ ws, PyData.strOk z = true ∧ z.length ≤ 1000 := by
  intro ws hws
  unfold rowsP at hws
  have lit : PyData.strOk zNone = true ∧ zNone.length ≤ 1000 := by decide +kernel
  have lit2 : PyData.strOk zArr = true ∧ zArr.length ≤ 1000 := by decide +kernel
  have lit3 : PyData.strOk zBy = true ∧ zBy.length ≤ 1000 := by decide +kernel
  have lit4 : PyData.strOk zLow = true ∧ zLow.length ≤ 1000 := by decide +kernel
  rcases List.mem_append.mp hws with hp | hp
  · cases ro with
    | none =>
      rw [List.mem_singleton.mp hp]
      exact ⟨by simp, fun z hz => by rw [List.mem_singleton.mp hz]; exact lit⟩
    | some q =>
      obtain ⟨h1, _, h3⟩ := h.rn q rfl
      rcases List.mem_cons.mp hp with hp | hp
      · rw [hp]
        refine ⟨by simp, fun z hz => ?_⟩
        simp only [List.mem_cons, List.not_mem_nil, or_false] at hz
        rcases hz with rfl | rfl
        · exact lit2
        · exact ⟨good_ok (num_plain _), by have := num_len h3; omega⟩
      · obtain ⟨n, hn, rfl⟩ := List.mem_map.mp hp
        refine ⟨by simp, fun z hz => ?_⟩
        simp only [List.mem_cons, List.not_mem_nil, or_false] at hz
        rcases hz with rfl | rfl
        · exact lit3
        · exact ⟨good_ok (nm_plain (h1 _ hn)), by have := nm_len (h1 _ hn); omega⟩
  · obtain ⟨e, he, rfl⟩ := List.mem_map.mp hp
    obtain ⟨a1, a2⟩ := h.ln e he
    refine ⟨by simp, fun z hz => ?_⟩
    simp only [List.mem_cons, List.not_mem_nil, or_false] at hz
    rcases hz with rfl | rfl | rfl
    · exact lit4
    · exact ⟨good_ok (nm_plain a1), by have := nm_len a1; omega⟩
    · exact ⟨good_ok (num_plain _), by have := num_len a2; omega⟩
/-- no line is long -/
theorem line_len {ro : Option (List Str × Nat)} {ls : List (Str × Nat)} (h : PapOk ro ls) : ∀ l ∈ linesP ro ls, l.length ≤ 40 := by
  intro l hl
  unfold linesP at hl
  rcases List.mem_append.mp hl with hp | hp
  · cases ro with
    | none =>
      rw [List.mem_singleton.mp hp]
      decide +kernel
    | some q =>
      obtain ⟨h1, _, h3⟩ := h.rn q rfl
      rcases List.mem_cons.mp hp with hp | hp
      · rw [hp]
        have e : (arrS q.2).length = 8 + (numS q.2).length := PySem.Str.length_append ..
        have := num_len h3
        omega
      · obtain ⟨n, hn, rfl⟩ := List.mem_map.mp hp
        have e : (byS n).length = 3 + n.length := PySem.Str.length_append ..
        have := nm_len (h1 n hn)
        omega
  · obtain ⟨e, he, rfl⟩ := List.mem_map.mp hp
    obtain ⟨a1, a2⟩ := h.ln e he
    have e1 : (lowS e).length = (((zLowS ++ e.1) ++ zSp).length + (numS e.2).length) := PySem.Str.length_append ..
    have e2 : ((zLowS ++ e.1) ++ zSp).length = (zLowS ++ e.1).length + 1 := PySem.Str.length_append ..
    have e3 : (zLowS ++ e.1).length = 4 + e.1.length := PySem.Str.length_append ..
    have := num_len a2
    have := nm_len a1
    omega
theorem lines_count {ro : Option (List Str × Nat)} {ls : List (Str × Nat)} (h : PapOk ro ls) : (linesP ro ls).length ≤ 21 := by
  have hl := h.ll
  unfold linesP
  rw [List.length_append, List.length_map]
  cases ro with
  | none =>
    show 1 + ls.length ≤ 21
    omega
  | some q =>
    obtain ⟨_, h2, _⟩ := h.rn q rfl
    show (arrS q.2 :: q.1.map byS).length + ls.length ≤ 21
    rw [List.length_cons, List.length_map]
    omega
theorem sum_len {b : Nat} : ∀ {l : List Str}, (∀ x ∈ l, x.length ≤ b) → (l.map (·.length)).sum ≤ b * l.length
  | [], _ => by simp
  | x :: l, h => by
    rw [List.map_cons, List.sum_cons, List.length_cons, Nat.mul_succ]
    have := h x List.mem_cons_self
    have := sum_len (l := l) fun y hy => h y (List.mem_cons_of_mem _ hy)
    omega
theorem text_len {ro : Option (List Str × Nat)} {ls : List (Str × Nat)} (h : PapOk ro ls) : (textP ro ls).length ≤ 2000 := by
  have e := size_glued zNl (linesP ro ls)
  have e1 : zNl.length = 1 := by decide +kernel
  have s1 := sum_len (line_len h)
  have c1 := lines_count h
  have e2 : (textP ro ls).length = _ := e
  rw [e2, e1]
  omega
end W

set_option Elab.async false
set_option linter.all false
set_option maxRecDepth 100000
set_option maxHeartbeats 2000000
namespace W
open PySem PySem.Spec PyProof.Rows L2 GxR MyG
abbrev sParse : Stmt := top 17
def firstR : Option (List Str × Nat) → List Str
  | none => [zNone]
  | some p => [zArr, numS p.2]
def fl : Option (List Str × Nat) → Nat
  | none => 1
  | some p => p.1.length + 1
def numI (e : Str × Nat) : Str × Int := (e.1, (e.2 : Int))
theorem row_kind {ro : Option (List Str × Nat)} {ls : List (Str × Nat)} {i : Nat} (hi : i < (rowsP ro ls).length) :
    (i = 0 ∧ (rowsP ro ls)[i]? = some (firstR ro)) ∨ (∃ p n, ro = some p ∧ 1 ≤ i ∧ i ≤ p.1.length ∧ p.1[i - 1]? = some n ∧ (rowsP ro ls)[i]? = some [zBy, n]) ∨
      ∃ e, fl ro ≤ i ∧ ls[i - fl ro]? = some e ∧ (rowsP ro ls)[i]? = some [zLow, e.1, numS e.2] := by
  cases ro with
  | none =>
    have er : rowsP none ls = [zNone] :: ls.map fun e => [zLow, e.1, numS e.2] := rfl
    rw [er] at hi ⊢
    cases i with
    | zero => exact .inl ⟨rfl, rfl⟩
    | succ j =>
      rw [List.length_cons, List.length_map] at hi
      have hj : j < ls.length := by omega
      exact .inr (.inr ⟨ls[j], Nat.succ_le_succ (Nat.zero_le _), List.getElem?_eq_getElem hj, by rw [List.getElem?_cons_succ, List.getElem?_map, List.getElem?_eq_getElem hj]; rfl⟩)
  | some p =>
    have er : rowsP (some p) ls = [zArr, numS p.2] :: ((p.1.map fun n => [zBy, n]) ++ ls.map fun e => [zLow, e.1, numS e.2]) := rfl
    rw [er] at hi ⊢
    cases i with
    | zero => exact .inl ⟨rfl, rfl⟩
    | succ j =>
      rw [List.length_cons, List.length_append, List.length_map, List.length_map] at hi
      by_cases hj : j < p.1.length
      · exact .inr (.inl ⟨p, p.1[j], rfl, Nat.succ_le_succ (Nat.zero_le _), hj, List.getElem?_eq_getElem hj, by rw [List.getElem?_cons_succ, List.getElem?_append_left (by rw [List.length_map]; exact hj), List.getElem?_map, List.getElem?_eq_getElem hj]; rfl⟩)
      · have hj2 : j - p.1.length < ls.length := by omega
        have ef : j + 1 - fl (some p) = j - p.1.length := by
          show j + 1 - (p.1.length + 1) = _
          omega
        refine .inr (.inr ⟨ls[j - p.1.length], ?_, ?_, ?_⟩)
        · show p.1.length + 1 ≤ j + 1
          omega
        · rw [ef]
          exact List.getElem?_eq_getElem hj2
        · rw [List.getElem?_cons_succ, List.getElem?_append_right (by rw [List.length_map]; omega), List.length_map, List.getElem?_map, List.getElem?_eq_getElem hj2]
          rfl
theorem rows_count {ro : Option (List Str × Nat)} {ls : List (Str × Nat)} : (rowsP ro ls).length = fl ro + ls.length := by
  unfold rowsP
  rw [List.length_append, List.length_map]
  cases ro with
  | none => rfl
  | some p =>
    show ([zArr, numS p.2] :: p.1.map fun n => [zBy, n]).length + ls.length = p.1.length + 1 + ls.length
    rw [List.length_cons, List.length_map]
def spParse (Pa P Pn : Addr) : Sp := fun vs H Q _ => ∃ (ro : Option (List Str × Nat)) (ls : List (Str × Nat)), vs = [.str (textP ro ls)] ∧ PapOk ro ls ∧ TabG H P ∧ TabG H Pn ∧
  ∀ H' y, Grew P H H' → ToldAt H' Pa y (ro.map (·.1)) (ro.map fun p => (p.2 : Int)) (ls.map numI) → Q (.ref y) H'
section
variable {Pg : Program} {w : World} {K : PySem.W.Frag} {mg : Str → Option Value} {base : Heap} {C P Pn : Addr}
abbrev nPar : List Str := ["text", "rows", "at", "words", "lows"]
theorem scPar : FnScope nPar ["text"] (defScope sParse) := ⟨rfl, rfl, rfl, by decide +kernel, rfl, by decide +kernel, by decide +kernel⟩
theorem ok_parse {f fR fC fI Pa : Addr} {fd fdR fdC fdI : FuncData} (F : Fun K "parse_paper" "parse_paper" sParse f fd) (hl : mg "len" = none) (hi : mg "int" = none) (hrg : mg "range" = none)
    (GR : FnOk Pg w K mg base CX0 1 fR fdR ["text"] (spRows P)) (gR : mg "rows_of" = some (.ref fR)) (kR : PySem.W.keepIn K (.ref fR) = true) (bR : Binds K fdR ["text"] [])
    (GC : FnOk Pg w K mg base CX0 4 fC fdC ["rows", "at"] (spCan P Pn)) (gC : mg "_can_stand" = some (.ref fC)) (kC : PySem.W.keepIn K (.ref fC) = true) (bC : Binds K fdC ["rows", "at"] [])
    (Mk : L2.Mk K Pa fI) (GI : FnOk Pg w K mg base CX0 1 fI fdI ["self", "roads", "arrival", "lows"] (spPaInit2 K Pa P)) (gP : mg "Paper" = some (.ref Pa)) (bI : Binds K fdI ["self", "roads", "arrival", "lows"] []) :
    FnOk Pg w K mg base CX0 5 f fd ["text"] (spParse Pa P Pn) := by
  refine F.ok scPar (fun vs H Q E h => ?_) (fun cdv A outer s H vs Q E hr h => ?_)
  · obtain ⟨ro, ls, rfl, _⟩ := h
    rfl
  · obtain ⟨ro, ls, rfl, hok, hP, hPn, k⟩ := h
    refine ⟨_, pss_cons (ps_set (i := 1) scPar.nd rfl (Or.inl rfl) (pe_call GR (hr.mono (by decide)) (by rfl) gR kR bR .nil pass0 (pa_cons (pv 0) pa_nil)))
      (C8.pss_cut (ps_for PassesOwn.never rfl (pi_range1 rfl hrg (pa_cons (pe_callB call_len_seq (by rfl) hl PySem.boot_len (pa_cons (pv 1) pa_nil)) pa_nil)) (pg_name (i := 2) scPar.nd rfl (Or.inl rfl))
        (pss_one (ps_if (pt_not (pt_val (pe_call GC (hr.mono (by decide)) (by rfl) gC kC bC .nil pass0 (pa_cons (pv 1) (pa_cons (pv 2) pa_nil))))) (pss_one ps_never) pss_nil)))
      (C8.pss_cut (ps_setLc (i := 4) (own := [("words", 3)]) (g := gName 3) rfl scPar.nd rfl rfl (sw_true rfl rfl rfl (by decide +kernel)) (pi_list (pv 1)) (blkOk_by (N := nPar) (sc := defScope sParse) (by decide +kernel)) (fun _ _ _ _ _ => pg_name (i := 3) scPar.nd rfl (Or.inl rfl))
          (fun _ _ _ _ _ => pts_one (pt_cmpR (r := rEq) op_eq (pe_ix (r := rIxL K) ix_list (pv 3) pe_int (fun _ _ => rfl)) pe_str (nomark _)))
          (fun _ _ _ _ _ => pe_tup (pa_cons (pe_ix (r := rIxL K) ix_list (pv 3) pe_int (fun _ _ => rfl)) (pa_cons (pe_callTy (T := "int") call_int_str (by rfl) hi (by decide +kernel) (pa_cons (pe_ix (r := rIxL K) ix_list (pv 3) pe_int (fun _ _ => rfl)) pa_nil)) pa_nil))))
      (pss_cons (ps_if (pt_cmpR (r := rEqD K) (op_eqD hr.units) (pe_ix (r := rIxL K) ix_list (pv 1) pe_int (fun _ _ => rfl)) (pe_lst (pa_cons pe_str pa_nil)) (nomark _))
        (pss_one (ps_ret (pe_make Mk GI (hr.mono (by decide)) (by rfl) gP bI .nil pass0 (pa_cons pe_non (pa_cons pe_non (pa_cons (pv 4) pa_nil)))))) pss_nil)
      (pss_one (ps_ret (pe_make Mk GI (hr.mono (by decide)) (by rfl) gP bI .nil pass0 (pa_cons (pe_lc (own := [("words", 3)]) (g := gName 3) rfl scPar.nd (pi_list (pv 1)) (blkOk_by (N := nPar) (sc := defScope sParse) (by decide +kernel)) (fun _ _ _ _ _ => pg_name (i := 3) scPar.nd rfl (Or.inl rfl))
          (fun _ _ _ _ _ => pts_one (pt_cmpR (r := rEq) op_eq (pe_ix (r := rIxL K) ix_list (pv 3) pe_int (fun _ _ => rfl)) pe_str (nomark _)))
          (fun _ _ _ _ _ => pe_ix (r := rIxL K) ix_list (pv 3) pe_int (fun _ _ => rfl)))
          (pa_cons (pe_callTy call_int_str (by rfl) hi (by decide +kernel) (pa_cons (pe_ix (r := rIxL K) ix_list (pe_ix (r := rIxL K) ix_list (pv 1) pe_int (fun _ _ => rfl)) pe_int (fun _ _ => rfl)) pa_nil)) (pa_cons (pv 4) pa_nil))))))))), ?_⟩
    have h21 := lines_count hok
    refine ⟨_, rfl, textP ro ls, linesP ro ls, rfl, lines_of hok, by have := text_len hok; omega, by omega, fun l hl => by have := line_len hok l hl; omega, hP, fun H1 p rs g1 np hp hrs => ?_⟩
    rw [rows_of_lines hok] at hrs
    have hw := rows_words hok
    have R1 : RowsIn H1 p (rowsP ro ls) := ⟨⟨rs, hp, hrs⟩, fun ws h => (hw ws h).1, fun ws h => (hw ws h).2⟩
    have hlr := Paired.len hrs
    have hrc := rows_count (ro := ro) (ls := ls)
    have f1 : 1 ≤ fl ro := by cases ro <;> exact Nat.succ_le_succ (Nat.zero_le _)
    have l10 := hok.ll
    have rl21 : rs.length ≤ 21 := by
      have e := congrArg List.length (rows_of_lines hok)
      rw [List.length_map] at e
      omega
    refine ⟨fun σ H' => ∃ kv : Option V, σ = [some (.str (textP ro ls)), some (.ref p), kv, none, none] ∧ Grew P H H' ∧ RowsIn H' p (rowsP ro ls), ?_, ?_⟩
    · refine ⟨_, rfl, p, _, rfl, .inl (SqL.of hp), _, rfl, by omega, by omega, for_range (n := rs.length) (fun i σ H' => ∃ kv : Option V, σ = [some (.str (textP ro ls)), some (.ref p), kv, none, none] ∧ Grew P H H' ∧ RowsIn H' p (rowsP ro ls)) ⟨none, rfl, g1, R1⟩ ?_ ?_⟩
      · rintro i σ H2 hi ⟨kv, rfl, g2, R2⟩
        have hi2 : i < (rowsP ro ls).length := by omega
        refine ⟨_, rfl, _, rfl, p, rowsP ro ls, i, by rw [Int.zero_add]; rfl, R2, hi2, g2.tab, g2.tabs _ hPn, fun H3 g3 => ⟨_, rfl, ?_⟩⟩
        rw [can_all hok hi2]
        exact iteF ⟨_, rfl, g2.trans g3, R2.grew g3 g2.tab⟩
      · rintro σ H2 ⟨kv, rfl, g2, R2⟩
        exact ⟨kv, rfl, g2, R2⟩
    rintro σ H2 ⟨kv, rfl, g2, R2⟩
    refine ⟨fun σ H' => ∃ (L : Addr) (ys : List V), σ = [some (.str (textP ro ls)), some (.ref p), kv, none, some (.ref L)] ∧ Grew P H H' ∧ RowsIn H' p (rowsP ro ls) ∧ H' L = some (.lst ys) ∧ Paired (RowAt H') (ls.map numI) ys, ?_, ?_⟩
    · obtain ⟨rs2, hp2, hrs2⟩ := R2.ex
      have hlr2 := Paired.len hrs2
      refine ⟨_, rfl, p, rfl, ⟨_, SqL.of hp2⟩, fun D nD => lc_list (K := K) (a := p) (xs := rs2) (fun i H' => Grew P H2 H' ∧ ∃ acc, H' D = some (.lst acc) ∧ Paired (RowAt H') ((ls.map numI).take (i - fl ro)) acc)
        ⟨Grew.new g2.tab nD, [], upd_same, by rw [Nat.zero_sub, List.take_zero]; exact .nil⟩ (fun i H' _ h => SqL.of (h.1.lst g2.tab hp2)) (fun i v H3 hv h => ?_) (fun H3 h => ?_)⟩
      · obtain ⟨g, acc, hD, hacc⟩ := h
        obtain ⟨ws, hws, hrow⟩ := Paired.at hrs2 hv
        have hi := (List.getElem?_eq_some_iff.mp hws).1
        obtain ⟨a, rfl, ha⟩ := hrow
        have ha3 := g.lst g2.tab ha
        have la := Paired.len hacc
        rw [List.length_take, List.length_map] at la
        rcases row_kind hi with ⟨e0, er⟩ | ⟨q, n, eq, h1, h2, en, er⟩ | ⟨e, h1, en, er⟩
        · rw [hws] at er
          have ew := Option.some.inj er
          obtain ⟨w0, rr, ew0, nw⟩ : ∃ w0 rr, ws = w0 :: rr ∧ w0 ≠ zLow := by
            cases ro with
            | none => exact ⟨_, _, ew, by decide +kernel⟩
            | some q => exact ⟨_, _, ew, by decide +kernel⟩
          have a0 : atI (ws.map V.str) 0 = some (.str w0) := by rw [ew0]; exact at_cons (xs := w0 :: rr) (i := 0) (by simp)
          refine ⟨rfl, _, rfl, a, _, 0, _, rfl, rfl, SqL.of ha3, a0, rfl, _, rfl, ?_⟩
          refine if_f (decide_eq_false fun e => nw (by injection e)) ⟨g, acc, hD, ?_⟩
          have z1 : i + 1 - fl ro = i - fl ro := by omega
          rw [z1]
          exact hacc
        · rw [hws] at er
          have ew := Option.some.inj er
          obtain ⟨w0, rr, ew0, nw⟩ : ∃ w0 rr, ws = w0 :: rr ∧ w0 ≠ zLow := ⟨_, _, ew, by decide +kernel⟩
          have a0 : atI (ws.map V.str) 0 = some (.str w0) := by rw [ew0]; exact at_cons (xs := w0 :: rr) (i := 0) (by simp)
          refine ⟨rfl, _, rfl, a, _, 0, _, rfl, rfl, SqL.of ha3, a0, rfl, _, rfl, ?_⟩
          refine if_f (decide_eq_false fun e => nw (by injection e)) ⟨g, acc, hD, ?_⟩
          have z1 : i + 1 - fl ro = i - fl ro := by 
            have ef : fl ro = q.1.length + 1 := by rw [eq]; rfl
            omega
          rw [z1]
          exact hacc
        · rw [hws] at er
          have ew := Option.some.inj er
          subst ew
          obtain ⟨b1, b2⟩ := hok.ln e (List.mem_of_getElem? en)
          have nl := num_len b2
          have a0 : atI (([zLow, e.1, numS e.2] : List Str).map V.str) 0 = some (.str zLow) := rfl
          have a1 : atI (([zLow, e.1, numS e.2] : List Str).map V.str) 1 = some (.str e.1) := rfl
          have a2 : atI (([zLow, e.1, numS e.2] : List Str).map V.str) 2 = some (.str (numS e.2)) := rfl
          have nl2 : (TL.numL e.2).length ≤ 4300 := by have := numS_len e.2; omega
          refine ⟨rfl, _, rfl, a, _, 0, _, rfl, rfl, SqL.of ha3, a0, rfl, _, rfl, ?_⟩
          refine if_t (decide_eq_true rfl) ⟨_, rfl, a, _, 1, _, rfl, rfl, SqL.of ha3, a1, _, rfl, a, _, 2, _, rfl, rfl, SqL.of ha3, a2, numS e.2, (e.2 : Int), rfl, TL.int_num nl2, by omega, (show 2 ≤ sizeLine by decide), fun t nt => ?_⟩
          have gt := Grew.new g.tab (o := .tup [.str e.1, .int (e.2 : Int)]) nt
          have hD2 := gt.lst g.tab hD
          have ntD : t ≠ D := fun z => by rw [z, hD] at nt; cases nt
          have et : (ls.map numI).take (i + 1 - fl ro) = (ls.map numI).take (i - fl ro) ++ [numI e] := by
            have z1 : i + 1 - fl ro = (i - fl ro) + 1 := by omega
            rw [z1, List.take_succ, List.getElem?_map, en]
            rfl
          refine ⟨_, hD2, by rw [sizeLine_eq]; omega, (g.trans gt).write hD2 (fun _ z => by cases z) nD, acc ++ [.ref t], upd_same, ?_⟩
          rw [et]
          refine Paired.snoc (Paired.map' hacc fun x v hx => ?_) ⟨t, rfl, by rw [upd_ne ntD]; exact upd_same⟩
          obtain ⟨y, e1, e2⟩ := hx
          exact ⟨y, e1, by rw [upd_ne (fun z => by rw [z, hD] at e2; cases e2)]; exact gt.tup g.tab e2⟩
      · obtain ⟨g, acc, hD, hacc⟩ := h
        have et : (ls.map numI).take (rs2.length - fl ro) = ls.map numI := List.take_of_length_le (by rw [List.length_map]; omega)
        rw [et] at hacc
        exact ⟨D, acc, rfl, g2.trans g, R2.grew g g2.tab, hD, hacc⟩
    rintro σ H3 ⟨L, ys, rfl, g3, R3, hL, hys⟩
    have hpos : 0 < (rowsP ro ls).length := by rw [hrc]; omega
    obtain ⟨rs3, a, w0, r0, hp3, hat, ews, ha, _⟩ := R3.at hpos
    have hat0 : atI rs3 0 = some (.ref a) := hat
    refine ⟨_, rfl, p, _, 0, _, rfl, rfl, SqL.of hp3, hat0, (show 1 ≤ sizeLine by decide), fun N nN => ?_⟩
    have g4 := Grew.new g3.tab (o := .lst [V.str (Str.ofString "none")]) nN
    have ha4 := g4.lst g3.tab ha
    have hL4 := g4.lst g3.tab hL
    have hys4 : Paired (RowAt (L2.upd H3 N (.lst [V.str (Str.ofString "none")]))) (ls.map numI) ys := Paired.map' hys fun _ _ m => m.grew g4 g3.tab
    have R4 := R3.grew g4 g3.tab
    have hN4 : (L2.upd H3 N (.lst [V.str (Str.ofString "none")])) N = some (.lst (([zNone] : List Str).map V.str)) := upd_same
    have g04 := g3.trans g4
    have okw : ∀ z ∈ w0 :: r0, PyData.strOk z = true := fun z hz => by
      have hm : w0 :: r0 ∈ rowsP ro ls := by
        rw [← ews, getD_at (List.getElem?_eq_getElem hpos)]
        exact List.getElem_mem hpos
      exact ((hw _ hm).2 z hz).1
    refine ⟨_, _, .lst (SqL.of ha4) (dpAll_strs _), .lst (SqL.of hN4) (dpAll_strs _), shaped_strs okw, shaped_strs (by decide +kernel), _, rfl, ?_⟩
    rw [eqv_lists]
    have lls : (ls.map numI).length ≤ 1000 := by rw [List.length_map]; omega
    generalize L2.upd H3 N (.lst [V.str (Str.ofString "none")]) = H4 at g4 ha4 hL4 hys4 R4 hN4 g04 ⊢
    have many : ∀ {H' : Hp}, Grew P H4 H' → Paired (RowAny H') (ls.map numI) ys := fun {H'} g => Paired.map' hys4 fun _ _ m => let ⟨q, e1, e2⟩ := m.grew g g04.tab; ⟨q, e1, .inl e2⟩
    cases ro with
    | none =>
      have e0 : w0 :: r0 = [zNone] := by rw [← ews]; rfl
      rw [decide_eq_true e0]
      refine iteT ⟨_, rfl, ?_⟩
      intro z dx nz ndx nex
      have gx : Grew P H4 (L2.upd (L2.upd H4 dx (.own z)) z (.ins Pa dx [])) := (Grew.new g04.tab ndx).put (by rw [upd_ne nex.symm]; exact nz)
      refine ⟨z, dx, L, .non, none, none, ys, ls.map numI, H4, rfl, gx, g04.tab, nz, upd_same, .inl ⟨rfl, rfl⟩, hL4, many (Grew.refl g04.tab), lls, fun H5 g5 ht => ⟨rfl, ?_⟩⟩
      exact k H5 z (g04.trans g5) ht
    | some q =>
      have e0 : w0 :: r0 = [zArr, numS q.2] := by rw [← ews]; rfl
      have ne0 : ¬ w0 :: r0 = [zNone] := by
        rw [e0]
        intro e
        have := congrArg List.length e
        exact absurd this (by simp)
      rw [decide_eq_false ne0]
      obtain ⟨h1, h2, h3⟩ := hok.rn q rfl
      obtain ⟨rs4, hp4, hrs4⟩ := R4.ex
      have hlr4 := Paired.len hrs4
      have efl : fl (some q) = q.1.length + 1 := rfl
      refine iteF ⟨_, rfl, p, rfl, ⟨_, SqL.of hp4⟩, fun D nD => lc_list (K := K) (a := p) (xs := rs4) (fun i H' => Grew P H4 H' ∧ H' D = some (.lst ((q.1.take (i - 1)).map V.str)))
        ⟨Grew.new g04.tab nD, upd_same⟩ (fun i H' _ h => SqL.of (h.1.lst g04.tab hp4)) (fun i v H5 hv h => ?_) (fun H5 h => ?_)⟩
      · obtain ⟨g, hD⟩ := h
        obtain ⟨ws, hws, hrow⟩ := Paired.at hrs4 hv
        have hi := (List.getElem?_eq_some_iff.mp hws).1
        obtain ⟨b, rfl, hb⟩ := hrow
        have hb5 := g.lst g04.tab hb
        have ltk := List.length_take (i := i - 1) (l := q.1)
        rcases row_kind hi with ⟨e0, er⟩ | ⟨q', n, eq, h1', h2', en, er⟩ | ⟨e, h1', en, er⟩
        · rw [hws] at er
          have ew := Option.some.inj er
          subst ew
          have a0 : atI ((firstR (some q)).map V.str) 0 = some (.str zArr) := rfl
          refine ⟨rfl, _, rfl, b, _, 0, _, rfl, rfl, SqL.of hb5, a0, rfl, _, rfl, ?_⟩
          refine if_f (by decide +kernel) ⟨g, ?_⟩
          have z1 : i + 1 - 1 = i - 1 := by omega
          rw [z1]
          exact hD
        · rw [hws] at er
          have ew := Option.some.inj er
          subst ew
          obtain rfl := Option.some.inj eq
          have a0 : atI (([zBy, n] : List Str).map V.str) 0 = some (.str zBy) := rfl
          have a1 : atI (([zBy, n] : List Str).map V.str) 1 = some (.str n) := rfl
          refine ⟨rfl, _, rfl, b, _, 0, _, rfl, rfl, SqL.of hb5, a0, rfl, _, rfl, ?_⟩
          have et : q.1.take (i + 1 - 1) = q.1.take (i - 1) ++ [n] := by
            have z1 : i + 1 - 1 = (i - 1) + 1 := by omega
            rw [z1, List.take_succ, en]
            rfl
          refine if_t (decide_eq_true rfl) ⟨_, rfl, b, _, 1, _, rfl, rfl, SqL.of hb5, a1, _, hD, by rw [List.length_map, ltk, sizeLine_eq]; omega, g.write hD (fun _ z => by cases z) nD, ?_⟩
          rw [upd_same, et, List.map_append]
          rfl
        · rw [hws] at er
          have ew := Option.some.inj er
          subst ew
          have a0 : atI (([zLow, e.1, numS e.2] : List Str).map V.str) 0 = some (.str zLow) := rfl
          refine ⟨rfl, _, rfl, b, _, 0, _, rfl, rfl, SqL.of hb5, a0, rfl, _, rfl, ?_⟩
          refine if_f (by decide +kernel) ⟨g, ?_⟩
          rw [List.take_of_length_le (by omega)]
          rw [List.take_of_length_le (by omega)] at hD
          exact hD
      · obtain ⟨g, hD⟩ := h
        have et : q.1.take (rs4.length - 1) = q.1 := List.take_of_length_le (by omega)
        rw [et] at hD
        have R5 := R4.grew g g04.tab
        obtain ⟨rs5, a5, w5, r5, hp5, hat5, ews5, ha5, _⟩ := R5.at hpos
        have e5 : w5 :: r5 = [zArr, numS q.2] := by rw [← ews5]; rfl
        rw [e5] at ha5
        have hat50 : atI rs5 0 = some (.ref a5) := hat5
        have a1 : atI (([zArr, numS q.2] : List Str).map V.str) 1 = some (.str (numS q.2)) := rfl
        have nl := num_len h3
        have nl2 : (TL.numL q.2).length ≤ 4300 := by have := numS_len q.2; omega
        have g05 := g04.trans g
        refine ⟨_, rfl, p, _, 0, _, rfl, rfl, SqL.of hp5, hat50, a5, _, 1, _, rfl, rfl, SqL.of ha5, a1, numS q.2, (q.2 : Int), rfl, TL.int_num nl2, by omega, _, rfl, ?_⟩
        intro z dx nz ndx nex
        have gx : Grew P H5 (L2.upd (L2.upd H5 dx (.own z)) z (.ins Pa dx [])) := (Grew.new g05.tab ndx).put (by rw [upd_ne nex.symm]; exact nz)
        refine ⟨z, dx, L, .ref D, some q.1, some (q.2 : Int), ys, ls.map numI, H5, rfl, gx, g05.tab, nz, upd_same, .inr ⟨D, q.1, rfl, rfl, .inr hD⟩, g.lst g04.tab hL4, many g, lls, fun H6 g6 ht => ⟨rfl, ?_⟩⟩
        exact k H6 z (g05.trans g6) ht
end
end W

set_option Elab.async false
set_option linter.all false
set_option maxRecDepth 100000
set_option maxHeartbeats 2000000
set_option exponentiation.threshold 2000
namespace W
open PySem PySem.Spec PyProof.Rows L2 GxR MyG
abbrev sPText : Stmt := top 16
theorem empty_app (x : Str) : Str.empty ++ x = x := TL.ext_tl (by rw [TL.tl_append]; rfl)
theorem log_small {n : Nat} (h : n ≤ 999999999) : n.log2 < 1920 := by
  by_cases c : n = 0
  · subst c
    decide
  · refine (Nat.log2_lt c).mpr ?_
    have : (999999999 : Nat) < 2 ^ 1920 := by decide
    omega
def spPText (Pa P : Addr) : Sp := fun vs H Q _ => ∃ (y : Addr) (ro : Option (List Str × Nat)) (ls : List (Str × Nat)), vs = [.ref y] ∧ ToldAt H Pa y (ro.map (·.1)) (ro.map fun p => (p.2 : Int)) (ls.map numI) ∧ PapOk ro ls ∧ TabG H P ∧
  ∀ H', Grew P H H' → Q (.str (textP ro ls)) H'
def headL (ro : Option (List Str × Nat)) : List Str := match ro with
  | none => [zNone]
  | some p => arrS p.2 :: p.1.map byS
section
variable {Pg : Program} {w : World} {K : PySem.W.Frag} {mg : Str → Option Value} {base : Heap} {C P Pn : Addr}
abbrev nPT : List Str := ["told", "lines", "name", "number"]
theorem scPT : FnScope nPT ["told"] (defScope sPText) := ⟨rfl, rfl, rfl, by decide +kernel, rfl, by decide +kernel, by decide +kernel⟩
theorem ok_ptext {f Pa : Addr} {fd : FuncData} (F : Fun K "paper_text" "paper_text" sPText f fd) (TA : TxtA K Pa) : FnOk Pg w K mg base CX0 1 f fd ["told"] (spPText Pa P) := by
  refine F.ok scPT (fun vs H Q E h => ?_) (fun cdv A outer s H vs Q E hr h => ?_)
  · obtain ⟨y, ro, ls, rfl, _⟩ := h
    rfl
  · obtain ⟨y, ro, ls, rfl, ⟨dx, fs, L, ys, rv, hy, hf1, hf2, hf3, hL, hrows, hrv⟩, hok, hP, k⟩ := h
    refine ⟨_, pss_cons (ps_set (i := 1) scPT.nd rfl (Or.inl rfl) (pe_lst (pa_cons pe_str pa_nil)))
      (C8.pss_cut (ps_if (pt_cmp (pc_notN (pe_fld (pv 0) rfl))) (pss_one (ps_set (i := 1) scPT.nd rfl (Or.inl rfl) (pe_lst (pa_cons (pe_joined (.cons pe_str (.cons (pe_fmt (pe_fld (pv 0) rfl)) .nil)))
          (StX.pa_star (pe_lc (own := [("name", 2)]) (g := gName 2) (tt := tYes) rfl scPT.nd (pi_tup (pe_fld (pv 0) rfl)) (blkOk_by (N := nPT) (sc := defScope sPText) (by decide +kernel)) (fun _ _ _ _ _ => pg_name (i := 2) scPT.nd rfl (Or.inl rfl)) (fun _ _ _ _ _ => pts_nil)
            (fun _ _ _ _ _ => pe_joined (.cons pe_str (.cons (pe_fmt (pv 2)) .nil)))) pa_nil))))) pss_nil)
      (C8.pss_cut (ps_expr (pe_bm PySem.F.plainAttrs_list PySem.F.slot_list_extend PySem.F.type_list_extend mt_extend (pv 1) (pa_cons (pe_lc (own := [("name", 2), ("number", 3)]) (g := gTup K 2 (gCons (gName 2) (gCons (gName 3) gNil))) (tt := tYes) rfl scPT.nd (pi_list (pe_fld (pv 0) rfl)) (blkOk_by (N := nPT) (sc := defScope sPText) (by decide +kernel))
          (fun _ _ _ _ _ => pg_tup rfl (pgs_cons (pg_name (i := 2) scPT.nd rfl (Or.inl rfl)) (pgs_cons (pg_name (i := 3) scPT.nd rfl (Or.inl rfl)) pgs_nil))) (fun _ _ _ _ _ => pts_nil)
          (fun _ _ _ _ _ => pe_joined (.cons pe_str (.cons (pe_fmt (pv 2)) (.cons pe_str (.cons (pe_fmt (pv 3)) .nil)))))) pa_nil)))
      (pss_one (ps_ret (pe_join pe_str (pv 1)))))), ?_⟩
    have h21 := lines_count hok
    have tl := text_len hok
    refine ⟨(show 1 ≤ sizeLine by decide), fun N nN => ?_⟩
    have g1 := Grew.new hP (o := .lst [V.str (Str.ofString "none")]) nN
    have hN : (L2.upd H N (.lst [V.str (Str.ofString "none")])) N = some (.lst (([zNone] : List Str).map V.str)) := upd_same
    generalize L2.upd H N (.lst [V.str (Str.ofString "none")]) = H1 at g1 hN ⊢
    have hy1 := g1.get hP hy (fun _ z => by cases z)
    refine ⟨fun σ H' => ∃ M : Addr, σ = [some (.ref y), some (.ref M), none, none] ∧ Grew P H H' ∧ H M = none ∧ H' M = some (.lst ((headL ro).map V.str)), ?_, ?_⟩
    · refine ⟨_, rfl, y, Pa, dx, fs, rv, rfl, hy1, TA.cl, TA.n0, hf1, _, rfl, ?_⟩
      cases ro with
      | none =>
        rcases hrv with ⟨_, rfl⟩ | ⟨q, rl, e, _, _⟩
        · exact if_f rfl ⟨N, rfl, g1, nN, hN⟩
        · cases e
      | some p =>
        obtain ⟨h1, h2, h3⟩ := hok.rn p rfl
        rcases hrv with ⟨e, _⟩ | ⟨q, rl, e, rfl, hq⟩
        · cases e
        · obtain rfl := Option.some.inj e
          have hq1 := g1.tup hP hq
          have l8 : (Str.empty ++ zArrS).length = 8 := by decide +kernel
          have la : ((Str.empty ++ zArrS) ++ numS p.2).length = 8 + (numS p.2).length := by rw [PySem.Str.length_append, l8]
          have nl := num_len h3
          refine if_t rfl ⟨_, rfl, by decide, _, rfl, y, Pa, dx, fs, .int (p.2 : Int), rfl, hy1, TA.cl, TA.n1, hf2, .inr ⟨(p.2 : Int), rfl, log_small h3, _, rfl, ?_, ?_⟩⟩
          · show ((Str.empty ++ zArrS) ++ numS p.2).length ≤ sizeLine
            rw [la, sizeLine_eq]
            omega
          · have ea : (Str.empty ++ Str.ofString "arrives " ++ Str.ofString (toString ((p.2 : Nat) : Int)) : Str) = arrS p.2 := congrArg (· ++ numS p.2) (empty_app zArrS)
            rw [ea]
            refine ⟨_, rfl, y, Pa, dx, fs, .ref q, rfl, hy1, TA.cl, TA.n0, hf1, q, rfl, ⟨_, SqT.of hq1⟩, fun D nD => lc_tup (K := K) (te := fun σ H Q => tJs [tC (V.str (Str.ofString "by ")), tFmt (tVar 2)] Str.empty σ H fun out H1 => Q (V.str out) H1) (g := gName 2) (tt := tYes) (a := q) (xs := p.1.map V.str) (fun i H' => Grew P H1 H' ∧ H' D = some (.lst (((p.1.map byS).take i).map V.str)))
              ⟨Grew.new g1.tab nD, upd_same⟩ (fun i H' _ h => SqT.of (h.1.tup g1.tab hq1)) (fun i v H3 hv h => ?_) (fun H3 h => ?_)⟩
            · obtain ⟨g, hD⟩ := h
              rw [List.getElem?_map] at hv
              cases qz : p.1[i]? with
              | none => rw [qz] at hv; cases hv
              | some n =>
                rw [qz] at hv
                obtain rfl := Option.some.inj hv
                have hn := nm_len (h1 n (List.mem_of_getElem? qz))
                have hil := (List.getElem?_eq_some_iff.mp qz).1
                have l3 : (Str.empty ++ zByS).length = 3 := by decide +kernel
                have lb : ((Str.empty ++ zByS) ++ n).length = 3 + n.length := by rw [PySem.Str.length_append, l3]
                have eb : ((Str.empty ++ zByS) ++ n : Str) = byS n := congrArg (· ++ n) (empty_app zByS)
                have et : (p.1.map byS).take (i + 1) = (p.1.map byS).take i ++ [byS n] := by rw [List.take_succ, List.getElem?_map, qz]; rfl
                refine ⟨rfl, _, rfl, by decide, _, rfl, .inl ⟨n, rfl, by rw [sizeLine_eq]; omega, n, rfl, ?_, ?_⟩⟩
                · show ((Str.empty ++ zByS) ++ n).length ≤ sizeLine
                  rw [lb, sizeLine_eq]
                  omega
                · refine ⟨_, hD, by rw [List.length_map, List.length_take, sizeLine_eq]; omega, g.write hD (fun _ z => by cases z) nD, ?_⟩
                  rw [upd_same, et, List.map_append]
                  show some (HO.lst (_ ++ [V.str ((Str.empty ++ zByS) ++ n)])) = _
                  rw [eb]
                  rfl
            · obtain ⟨g, hD⟩ := h
              have et : (p.1.map byS).take (p.1.map V.str).length = p.1.map byS := List.take_of_length_le (by simp)
              rw [et] at hD
              refine ⟨D, _, rfl, .inr (SqL.of hD), by simp; rw [sizeLine_eq]; omega, fun M nM => ?_⟩
              have g13 := g1.trans g
              exact ⟨M, rfl, g13.put nM, g13.free nM, by rw [upd_same, List.append_nil]; rfl⟩
    rintro σ H2 ⟨M, rfl, g2, nM, hM⟩
    have hy2 := g2.get hP hy (fun _ z => by cases z)
    have hL2 := g2.lst hP hL
    have hrows2 : Paired (RowAt H2) (ls.map numI) ys := Paired.map' hrows fun _ _ m => m.grew g2 hP
    have l10 := hok.ll
    have ly := Paired.len hrows2
    rw [List.length_map] at ly
    have lh : (headL ro).length + ls.length ≤ 21 := by
      have e : (linesP ro ls).length = (headL ro).length + ls.length := by
        unfold linesP
        rw [List.length_append, List.length_map]
        cases ro <;> rfl
      omega
    refine ⟨fun σ H' => ∃ M : Addr, σ = [some (.ref y), some (.ref M), none, none] ∧ Grew P H H' ∧ H' M = some (.lst ((linesP ro ls).map V.str)), ?_, ?_⟩
    · refine ⟨_, rfl, .inl ⟨rfl, _, SqL.of hM⟩, _, rfl, y, Pa, dx, fs, .ref L, rfl, hy2, TA.cl, TA.n2, hf3, L, rfl, ⟨_, SqL.of hL2⟩, fun D nD => lc_list (K := K) (te := fun σ H Q => tJs [tC (V.str (Str.ofString "low ")), tFmt (tVar 2), tC (V.str (Str.ofString " ")), tFmt (tVar 3)] Str.empty σ H fun out H1 => Q (V.str out) H1) (g := gTup K 2 (gCons (gName 2) (gCons (gName 3) gNil))) (tt := tYes) (a := L) (xs := ys) (fun i H' => Grew P H2 H' ∧ H' D = some (.lst (((ls.map lowS).take i).map V.str)))
        ⟨Grew.new g2.tab nD, upd_same⟩ (fun i H' _ h => SqL.of (h.1.lst g2.tab hL2)) (fun i v H3 hv h => ?_) (fun H3 h => ?_)⟩
      · obtain ⟨g, hD⟩ := h
        obtain ⟨e', he', hrow⟩ := Paired.at hrows2 hv
        rw [List.getElem?_map] at he'
        cases qz : ls[i]? with
        | none => rw [qz] at he'; cases he'
        | some e =>
          rw [qz] at he'
          obtain rfl := Option.some.inj he'
          obtain ⟨t, rfl, ht⟩ := hrow
          obtain ⟨b1, b2⟩ := hok.ln e (List.mem_of_getElem? qz)
          have hn := nm_len b1
          have nl := num_len b2
          have hil := (List.getElem?_eq_some_iff.mp qz).1
          have ht3 := g.tup g2.tab ht
          have l4 : (Str.empty ++ zLowS).length = 4 := by decide +kernel
          have k1 : ((Str.empty ++ zLowS) ++ e.1).length = 4 + e.1.length := by rw [PySem.Str.length_append, l4]
          have k2 : (((Str.empty ++ zLowS) ++ e.1) ++ zSp).length = 4 + e.1.length + 1 := by rw [PySem.Str.length_append, k1]; rfl
          have k3 : ((((Str.empty ++ zLowS) ++ e.1) ++ zSp) ++ numS e.2).length = 4 + e.1.length + 1 + (numS e.2).length := by rw [PySem.Str.length_append, k2]
          have eb : ((((Str.empty ++ zLowS) ++ e.1) ++ zSp) ++ numS e.2 : Str) = lowS e := congrArg (fun z => ((z ++ e.1) ++ zSp) ++ numS e.2) (empty_app zLowS)
          have et : (ls.map lowS).take (i + 1) = (ls.map lowS).take i ++ [lowS e] := by rw [List.take_succ, List.getElem?_map, qz]; rfl
          refine ⟨t, _, rfl, SqT.of ht3, rfl, _, _, rfl, _, _, rfl, rfl, rfl, _, rfl, by decide, _, rfl, .inl ⟨e.1, rfl, by rw [sizeLine_eq]; omega, e.1, rfl, ?_, _, rfl, ?_, _, rfl, .inr ⟨(e.2 : Int), rfl, log_small b2, _, rfl, ?_, ?_⟩⟩⟩
          · show ((Str.empty ++ zLowS) ++ e.1).length ≤ sizeLine
            rw [k1, sizeLine_eq]
            omega
          · show (((Str.empty ++ zLowS) ++ e.1) ++ zSp).length ≤ sizeLine
            rw [k2, sizeLine_eq]
            omega
          · show ((((Str.empty ++ zLowS) ++ e.1) ++ zSp) ++ numS e.2).length ≤ sizeLine
            rw [k3, sizeLine_eq]
            omega
          · refine ⟨_, hD, by rw [List.length_map, List.length_take, sizeLine_eq]; omega, g.write hD (fun _ z => by cases z) nD, ?_⟩
            rw [upd_same, et, List.map_append]
            show some (HO.lst (_ ++ [V.str ((((Str.empty ++ zLowS) ++ e.1) ++ zSp) ++ numS e.2)])) = _
            rw [eb]
            rfl
      · obtain ⟨g, hD⟩ := h
        have et : (ls.map lowS).take ys.length = ls.map lowS := List.take_of_length_le (by simp; omega)
        rw [et] at hD
        have hM3 := g.lst g2.tab hM
        refine ⟨M, D, _, _, rfl, rfl, hM3, hD, by rw [List.length_map, List.length_map, List.length_map, sizeLine_eq]; omega, ?_⟩
        refine ⟨M, rfl, (g2.trans g).write hM3 (fun _ z => by cases z) nM, ?_⟩
        rw [upd_same, ← List.map_append]
        cases ro <;> rfl
    rintro σ H3 ⟨M, rfl, g3, hM⟩
    have e0 : zNl.length = 1 := by decide +kernel
    have s1 := sum_len (line_len hok)
    refine ⟨⟨_, rfl⟩, _, rfl, _, M, linesP ro ls, rfl, rfl, .inl (SqL.of hM), ?_, k H3 g3⟩
    show ((linesP ro ls).map (·.length)).sum + (linesP ro ls).length * zNl.length ≤ 16777216
    rw [e0]
    omega
end
end W

set_option Elab.async false
set_option linter.all false
set_option maxRecDepth 100000
set_option maxHeartbeats 400000
namespace W
open PySem PySem.Spec PyProof.Rows L2 GxR MyG
abbrev sLNames : Stmt := top 23
def zGood : Str := "abcdefghijklmnopqrstuvwxyz0123456789"
/-! ### drawn names -/
/-- of the signs of names alone -/
def Gd (z : Str) : Prop := ∀ c ∈ z.cps.toList, goodC c = true
theorem good_all : ∀ c ∈ zGood.cps.toList, goodC c = true := by decide +kernel
theorem good_len : zGood.cps.toList.length = 36 := by decide +kernel
theorem good_nodup : zGood.cps.toList.Nodup := by decide +kernel
theorem good_let : ∀ c ∈ zGood.cps.toList.take 26, c ∈ zLet.cps.toList := by decide +kernel
theorem Gd.one {c : Nat} (h : c ∈ zGood.cps.toList) : Gd ⟨#[c]⟩ := fun x hx => by
  have e : x = c := by simpa using hx
  rw [e]; exact good_all c h
theorem app_cps (a b : Str) : (a ++ b).cps.toList = a.cps.toList ++ b.cps.toList := by
  show (a.cps ++ b.cps).toList = _
  exact Array.toList_append
theorem Gd.app {a b : Str} (h : Gd a) (k : Gd b) : Gd (a ++ b) := fun c hc => by
  rw [app_cps] at hc
  rcases List.mem_append.mp hc with hc | hc
  · exact h c hc
  · exact k c hc
theorem cutS_sub {z : Str} {lo hi : Option Int} {c : Nat} (h : c ∈ (cutS z lo hi).cps.toList) : c ∈ z.cps.toList := by
  unfold cutS at h
  have h2 : c ∈ (z.cps.toList.drop (HT.sIx z.length 0 lo)).take (HT.sIx z.length z.length hi - HT.sIx z.length 0 lo) := by simpa using h
  exact List.mem_of_mem_drop (List.mem_of_mem_take h2)
theorem Gd.cut {z : Str} (h : Gd z) (lo hi : Option Int) : Gd (cutS z lo hi) := fun c hc => h c (cutS_sub hc)
theorem fold_mem {sep : Str} {c : Nat} : ∀ (rest : List Str) (acc : Array Nat), c ∈ (rest.foldl (fun acc p => acc ++ sep.cps ++ p.cps) acc).toList → c ∈ acc.toList ∨ c ∈ sep.cps.toList ∨ ∃ p ∈ rest, c ∈ p.cps.toList
  | [], _, h => .inl h
  | p :: rest, acc, h => by
    rcases fold_mem rest _ h with h | h | ⟨q, hq, h⟩
    · rw [Array.toList_append, Array.toList_append] at h
      rcases List.mem_append.mp h with h | h
      · rcases List.mem_append.mp h with h | h
        · exact .inl h
        · exact .inr (.inl h)
      · exact .inr (.inr ⟨p, List.mem_cons_self, h⟩)
    · exact .inr (.inl h)
    · exact .inr (.inr ⟨q, List.mem_cons_of_mem _ hq, h⟩)
theorem Gd.join {ys : List Str} (h : ∀ y ∈ ys, Gd y) : Gd (Txt.join (Str.ofString "") ys) := fun c hc => by
  have hc2 : c ∈ ((ys.drop 1).foldl (fun acc p => acc ++ (Str.ofString "").cps ++ p.cps) (ys.headD Str.empty).cps).toList := hc
  rcases fold_mem _ _ hc2 with q | q | ⟨p, hp, q⟩
  · cases ys with
    | nil =>
      have e : (([] : List Str).headD Str.empty).cps.toList = [] := by decide +kernel
      rw [e] at q
      cases q
    | cons y ys => exact h y List.mem_cons_self c q
  · have e : (Str.ofString "").cps.toList = [] := by decide +kernel
    rw [e] at q
    cases q
  · exact h p (List.mem_of_mem_drop hp) c q
theorem join_len (ys : List Str) : (Txt.join (Str.ofString "") ys).length = (ys.map (·.length)).sum := by
  have e := size_glued (Str.ofString "") ys
  have e0 : (Str.ofString "").length = 0 := by decide +kernel
  rw [e0, Nat.mul_zero, Nat.add_zero] at e
  exact e
theorem cut_pre {z : Str} {k : Nat} (h : k ≤ z.length) : (cutS z none (some (k : Int))).cps.toList = z.cps.toList.take k := by
  unfold cutS
  rw [HT.sIx_none, HT.sIx_nat, List.drop_zero, Nat.sub_zero, Nat.min_eq_left h]
theorem cut_suf {z : Str} {k : Nat} (h : k ≤ z.length) : (cutS z (some (k : Int)) none).cps.toList = z.cps.toList.drop k := by
  unfold cutS
  rw [HT.sIx_none, HT.sIx_nat, Nat.min_eq_left h]
  show (z.cps.toList.drop k).take (z.length - k) = z.cps.toList.drop k
  refine List.take_of_length_le ?_
  rw [List.length_drop, str_len]
  exact Nat.le_refl _
theorem at_some {α : Type} {l : List α} {i : Int} (h0 : 0 ≤ i) (h1 : i < l.length) : ∃ c, atI l i = some c ∧ l[i.toNat]? = some c := by
  obtain ⟨n, rfl⟩ := Int.eq_ofNat_of_zero_le h0
  have hn : n < l.length := by omega
  exact ⟨l[n], atI_nat (List.getElem?_eq_getElem hn), List.getElem?_eq_getElem hn⟩
/-- a drawn name: the letter, a part, a sign, the rest -/
def nameOf (c : Nat) (z : Str) (k : Nat) (e : Nat) : Str := (((⟨#[c]⟩ : Str) ++ cutS z none (some (k : Int))) ++ (⟨#[e]⟩ : Str)) ++ cutS z (some (k : Int)) none
theorem nameOf_cps {c : Nat} {z : Str} {k e : Nat} (h : k ≤ z.length) : (nameOf c z k e).cps.toList = c :: (z.cps.toList.take k ++ e :: z.cps.toList.drop k) := by
  unfold nameOf
  rw [app_cps, app_cps, app_cps, cut_pre h, cut_suf h]
  simp
theorem nameOf_ok {c : Nat} {z : Str} {k e : Nat} (h : k ≤ z.length) (h10 : z.length ≤ 10) (hz : Gd z) (hc : c ∈ zLet.cps.toList) (he : e ∈ zGood.cps.toList) : isNm (nameOf c z k e) = true := by
  have q := nameOf_cps (c := c) (e := e) h
  have hl : (nameOf c z k e).length = z.length + 2 := by
    rw [str_len, q, List.length_cons, List.length_append, List.length_take, List.length_cons, List.length_drop, ← str_len]
    omega
  unfold isNm
  rw [q]
  simp only [Bool.and_eq_true, decide_eq_true_eq]
  refine ⟨⟨⟨by omega, by omega⟩, hc⟩, List.all_eq_true.mpr fun x hx => ?_⟩
  rcases List.mem_cons.mp hx with e1 | hx
  · subst e1
    unfold goodC
    rw [decide_eq_true hc]; rfl
  · rcases List.mem_append.mp hx with hx | hx
    · exact hz x (List.mem_of_mem_take hx)
    · rcases List.mem_cons.mp hx with e2 | hx
      · subst e2; exact good_all _ he
      · exact hz x (List.mem_of_mem_drop hx)
def spLNames (P : Addr) : Sp := fun vs H Q _ => ∃ (n : Int) (m : Nat), vs = [.int n, .int m] ∧ 0 ≤ n ∧ m ≤ 9 ∧ TabG H P ∧ ∀ H' p (ns : List Str), Grew P H H' → H p = none → H' p = some (.lst (ns.map V.str)) → ns.length = m → ns.all isNm = true → Q (.ref p) H'
abbrev nLNames : List Str := ["number", "many", "letters", "size", "k", "rest", "place", "names", "own", "spot", "step"]
def rInt1 : List V → Hp → VK → Prop := fun xs H Q => (∃ i, xs = [.int i] ∧ Q (.int i) H) ∨ ∃ k, xs = [.bl k] ∧ Q (.int (if k then 1 else 0)) H
section
variable {Pg : Program} {w : World} {K : PySem.W.Frag} {mg : Str → Option Value} {base : Heap} {C P : Addr}
theorem scLNames : FnScope nLNames ["number", "many"] (defScope sLNames) := ⟨rfl, rfl, rfl, by decide +kernel, rfl, by decide +kernel, by decide +kernel⟩
theorem ok_lnames {f : Addr} {fd : FuncData} (F : Fun K "_law_names" "_law_names" sLNames f fd) (hi : mg "int" = none) (hr' : mg "range" = none) (hl : mg "len" = none) (hm : mg "min" = none) : FnOk Pg w K mg base CX0 1 f fd ["number", "many"] (spLNames P) := by
  refine F.ok scLNames (fun vs H Q E h => ?_) (fun cdv A outer s H vs Q E hr h => ?_)
  · obtain ⟨n, m, rfl, _⟩ := h
    rfl
  · obtain ⟨n, m, rfl, hn, hm9, hP, k⟩ := h
    refine ⟨_, pss_cons (ps_set (i := 2) scLNames.nd rfl (Or.inr rfl) pe_str)
      (pss_cons (ps_set (i := 3) scLNames.nd rfl (Or.inl rfl) (pe_op op_mod (pe_callTy call_int1 (by rfl) hi (by decide +kernel) (pa_cons (pv 0) pa_nil)) pe_int))
      (pss_cons (ps_set (i := 5) scLNames.nd rfl (Or.inl rfl) (pe_join pe_str (pe_lc (own := [("k", 4)]) (g := gName 4) (tt := tYes) rfl scLNames.nd (pi_range1 rfl hr' (pa_cons (pv 3) pa_nil)) (blkOk_by (N := nLNames) (sc := defScope sLNames) (by decide +kernel)) (fun _ _ _ _ _ => pg_name (i := 4) scLNames.nd rfl (Or.inl rfl)) (fun _ _ _ _ _ => pts_nil)
          (fun _ _ _ _ _ => pe_ix (r := rIxS) ix_str (pv 2) (pe_op op_mod (pe_callTy (r := rInt1) call_int1 (by rfl) hi (by decide +kernel) (pa_cons (pe_op op_add (pv 0) (pe_op op_mul (pe_op op_mul pe_int (pv 4)) (pv 4))) pa_nil)) pe_int) (fun _ _ => rfl)))))
      (pss_cons (ps_set (i := 6) scLNames.nd rfl (Or.inl rfl) (pe_op op_mod (pe_op op_fdiv (pv 0) pe_int) (pe_op op_add (pv 3) pe_int)))
      (pss_cons (ps_set (i := 7) scLNames.nd rfl (Or.inl rfl) (pe_lst pa_nil))
      (pss_cons (ps_for PassesOwn.never rfl (pi_range1 rfl hr' (pa_cons (pv 1) pa_nil)) (pg_name (i := 4) scLNames.nd rfl (Or.inl rfl))
        (pss_cons (ps_set (i := 8) scLNames.nd rfl (Or.inl rfl) (pv 5))
        (C8.pss_cut (ps_if (pt_cmpR op_eq (pe_op op_mod (pe_callTy call_int1 (by rfl) hi (by decide +kernel) (pa_cons (pe_op op_add (pe_op op_fdiv (pv 0) pe_int) (pv 4)) pa_nil)) pe_int) pe_int (nomark _))
          (pss_one (ps_set (i := 8) scLNames.nd rfl (Or.inl rfl) (pe_slice sl_str (pv 5) (po_some pe_int) po_none))) pss_nil)
        (pss_cons (ps_set (i := 9) scLNames.nd rfl (Or.inl rfl) (pe_callB (call_min2 rfl) (by rfl) hm (by decide +kernel) (pa_cons (pv 6) (pa_cons (pe_callB call_len_str (by rfl) hl PySem.boot_len (pa_cons (pv 8) pa_nil)) pa_nil))))
        (pss_cons (ps_set (i := 10) scLNames.nd rfl (Or.inl rfl) pe_int)
        (C8.pss_cut (ps_if (pt_cmpR op_eq (pe_op op_mod (pe_op op_fdiv (pv 0) pe_int) pe_int) pe_int (nomark _))
          (pss_one (ps_set (i := 10) scLNames.nd rfl (Or.inl rfl) pe_int)) pss_nil)
        (pss_one (ps_expr (pe_bm PySem.F.plainAttrs_list PySem.F.slot_list_append PySem.F.type_list_append mt_append (pv 7) (pa_cons
          (pe_op op_add_str (pe_op op_add_str (pe_op op_add_str (pe_ix ix_str (pv 2) (pe_op op_mod (pe_callTy call_int1 (by rfl) hi (by decide +kernel) (pa_cons (pe_op op_add (pv 0) (pe_op op_mul pe_int (pv 4))) pa_nil)) pe_int) (fun _ _ => rfl)) (pe_slice sl_str (pv 8) po_none (po_some (pv 9)))) (pe_ix ix_str (pv 2) (pe_op op_mod (pe_callTy call_int1 (by rfl) hi (by decide +kernel) (pa_cons (pe_op op_add (pv 0) (pe_op op_mul (pv 10) (pv 4))) pa_nil)) pe_int) (fun _ _ => rfl))) (pe_slice sl_str (pv 8) (po_some (pv 9)) po_none)) pa_nil))))))))))
      (pss_one (ps_ret (pv 7)))))))), ?_⟩
    have sG : zGood.length ≤ sizeLine := by rw [str_len, good_len, sizeLine_eq]; decide
    refine ⟨_, rfl, .inl ⟨_, rfl, _, _, rfl, rfl, (show (0 : Int) < 11 by decide), ?_⟩⟩
    have hsz : 0 ≤ n % 11 ∧ n % 11 < 11 := by omega
    refine ⟨⟨_, rfl⟩, _, rfl, n % 11, rfl, by omega, by omega, fun D nD => lc_range (n := (n % 11).toNat) (fun i H1 => Grew P H H1 ∧ ∃ ys : List Str, H1 D = some (.lst (ys.map V.str)) ∧ ys.length = i ∧ ∀ y ∈ ys, Gd y ∧ y.length = 1)
      ⟨Grew.new hP nD, [], upd_same, rfl, fun y hy => by cases hy⟩ (fun i H1 hi p => ?_) (fun H1 p => ?_)⟩
    · obtain ⟨g, ys, hD, hl1, hy⟩ := p
      have hb : 0 ≤ (n + 7 * (0 + (i : Int)) * (0 + (i : Int))) % 36 ∧ (n + 7 * (0 + (i : Int)) * (0 + (i : Int))) % 36 < 36 := by omega
      obtain ⟨c, ec, ec2⟩ := at_some (l := zGood.cps.toList) hb.1 (by rw [good_len]; exact hb.2)
      refine ⟨rfl, _, rfl, _, rfl, _, rfl, _, _, rfl, rfl, .inl ⟨by decide, by decide⟩, _, rfl, _, _, rfl, rfl, .inr ⟨by omega, by omega⟩, _, _, rfl, rfl, .inl ⟨_, rfl, _, _, rfl, rfl, (show (0 : Int) < 36 by decide), _, _, c, rfl, rfl, sG, ec, _, hD, ?_, g.write hD (fun _ z => by cases z) nD, ys ++ [⟨#[c]⟩], ?_, ?_, ?_⟩⟩
      · rw [List.length_map, hl1, sizeLine_eq]; omega
      · rw [upd_same, List.map_append]; rfl
      · rw [List.length_append, hl1]; rfl
      · intro y hy2
        rcases List.mem_append.mp hy2 with hy2 | hy2
        · exact hy y hy2
        · rw [List.mem_singleton.mp hy2]
          exact ⟨Gd.one (List.mem_of_getElem? ec2), rfl⟩
    · obtain ⟨g, ys, hD, hl1, hy⟩ := p
      have hsum : ∀ ys : List Str, (∀ y ∈ ys, y.length = 1) → (ys.map (·.length)).sum = ys.length := by
        intro ys
        induction ys with
        | nil => intro _; rfl
        | cons y ys ih =>
          intro h
          rw [List.map_cons, List.sum_cons, ih fun z hz => h z (List.mem_cons_of_mem _ hz), h y List.mem_cons_self, List.length_cons]
          omega
      have hs1 := hsum ys fun y h => (hy y h).2
      have e0 : (Str.ofString "").length = 0 := by decide +kernel
      refine ⟨_, D, ys, rfl, rfl, .inl (SqL.of hD), by rw [hs1, e0]; omega, ?_⟩
      have hjl := join_len ys
      have hjg := Gd.join fun y h => (hy y h).1
      rw [hs1] at hjl
      generalize Txt.join (Str.ofString "") ys = rest at hjl hjg ⊢
      have hr10 : rest.length ≤ 10 := by omega
      refine ⟨_, rfl, _, _, rfl, rfl, ⟨by decide, by decide⟩, _, rfl, _, _, rfl, rfl, _, _, rfl, rfl, (show (0 : Int) < n % 11 + 1 by omega), ?_⟩
      have hpl : 0 ≤ n / 11 % (n % 11 + 1) := Int.emod_nonneg _ (by omega)
      refine ⟨Nat.zero_le _, fun p np => ?_⟩
      refine ⟨_, rfl, m, rfl, by omega, by omega, for_range (n := m) (fun i σ H' => ∃ kv ov sv tv, ∃ ns : List Str, σ = [some (.int n), some (.int m), some (.str zGood), some (.int (n % 11)), kv, some (.str rest), some (.int (n / 11 % (n % 11 + 1))), some (.ref p), ov, sv, tv] ∧ Grew P H H' ∧ H' p = some (.lst (ns.map V.str)) ∧ ns.length = i ∧ ns.all isNm = true)
        ⟨none, none, none, none, [], rfl, g.put np, upd_same, rfl, rfl⟩ ?_ ?_⟩
      · rintro i σ H' hi ⟨kv, ov, sv, tv, ns, rfl, g1, hp, hln, hall⟩
        refine ⟨_, rfl, ?_⟩
        -- own
        refine ⟨fun σ2 H2 => ∃ own : Str, σ2 = [some (.int n), some (.int m), some (.str zGood), some (.int (n % 11)), some (.int (0 + (i : Int))), some (.str rest), some (.int (n / 11 % (n % 11 + 1))), some (.ref p), some (.str own), sv, tv] ∧ own.length ≤ 10 ∧ Gd own ∧ H2 = H', ?_, ?_⟩
        · refine ⟨_, rfl, _, _, rfl, rfl, ⟨by decide, by decide⟩, _, rfl, _, _, rfl, rfl, .inl ⟨_, rfl, _, _, rfl, rfl, (show (0 : Int) < 3 by decide), rfl, _, rfl, ?_⟩⟩
          refine ite2 (fun _ => ?_) (fun _ => ?_)
          · have hc : (cutS rest (some 1) none).length ≤ 10 := by
              rw [str_len]
              have q : (cutS rest (some 1) none).cps.toList.length ≤ rest.cps.toList.length := by
                unfold cutS
                show ((rest.cps.toList.drop _).take _).toArray.toList.length ≤ _
                rw [List.toList_toArray, List.length_take, List.length_drop]
                omega
              rw [← str_len rest] at q
              omega
            exact ⟨_, rfl, 1, rfl, rest, rfl, by rw [sizeLine_eq]; omega, _, rfl, hc, hjg.cut _ _, rfl⟩
          · exact ⟨rest, rfl, hr10, hjg, rfl⟩
        rintro σ2 H2 ⟨own, rfl, ho10, hog, rfl⟩
        -- spot
        refine ⟨_, rfl, _, rfl, own, rfl, by rw [sizeLine_eq]; omega, _, _, rfl, ?_⟩
        obtain ⟨sp, hsp, hsp2⟩ : ∃ sp : Nat, (if ((own.length : Nat) : Int) < n / 11 % (n % 11 + 1) then ((own.length : Nat) : Int) else n / 11 % (n % 11 + 1)) = (sp : Int) ∧ sp ≤ own.length := by
          by_cases c : ((own.length : Nat) : Int) < n / 11 % (n % 11 + 1)
          · exact ⟨own.length, if_pos c, Nat.le_refl _⟩
          · refine ⟨(n / 11 % (n % 11 + 1)).toNat, ?_, by omega⟩
            rw [if_neg c]
            omega
        rw [hsp]
        -- step
        refine ⟨fun σ2 H3 => ∃ st : Int, σ2 = [some (.int n), some (.int m), some (.str zGood), some (.int (n % 11)), some (.int (0 + (i : Int))), some (.str rest), some (.int (n / 11 % (n % 11 + 1))), some (.ref p), some (.str own), some (.int sp), some (.int st)] ∧ 0 ≤ st ∧ st ≤ 31 ∧ H3 = H2, ?_, ?_⟩
        · refine ⟨_, rfl, _, _, rfl, rfl, ⟨by decide, by decide⟩, _, _, rfl, rfl, (show (0 : Int) < 2 by decide), rfl, _, rfl, ?_⟩
          refine ite2 (fun _ => ?_) (fun _ => ?_)
          · exact ⟨31, rfl, by decide, by decide, rfl⟩
          · exact ⟨5, rfl, by decide, by decide, rfl⟩
        rintro σ2 H3 ⟨st, rfl, hst1, hst2, rfl⟩
        have b1 : 0 ≤ (n + 3 * (0 + (i : Int))) % 26 ∧ (n + 3 * (0 + (i : Int))) % 26 < 26 := by omega
        have b2 : 0 ≤ (n + st * (0 + (i : Int))) % 36 ∧ (n + st * (0 + (i : Int))) % 36 < 36 := by omega
        obtain ⟨c, ec, ec'⟩ := at_some (l := zGood.cps.toList) b1.1 (by rw [good_len]; omega)
        obtain ⟨e, ee, ee'⟩ := at_some (l := zGood.cps.toList) b2.1 (by rw [good_len]; exact b2.2)
        have l1 : (cutS own none (some (sp : Int))).length = sp := by
          rw [str_len, cut_pre hsp2, List.length_take, ← str_len]; omega
        have l2 : (cutS own (some (sp : Int)) none).length = own.length - sp := by
          rw [str_len, cut_suf hsp2, List.length_drop, ← str_len]
        have lo : ∀ c : Nat, (⟨#[c]⟩ : Str).length = 1 := fun _ => rfl
        have s1 : ((⟨#[c]⟩ : Str) ++ cutS own none (some (sp : Int))).length = 1 + sp := by rw [PySem.Str.length_append, l1, lo]
        have s2 : ((⟨#[c]⟩ : Str) ++ cutS own none (some (sp : Int)) ++ (⟨#[e]⟩ : Str)).length = 1 + sp + 1 := by rw [PySem.Str.length_append, s1, lo]
        refine ⟨_, rfl, .inl ⟨rfl, _, SqL.of hp⟩, _, rfl, _, rfl, _, rfl, _, _, rfl, rfl, .inl ⟨by decide, by decide⟩, _, _, rfl, rfl, .inl ⟨_, rfl, _, _, rfl, rfl, (show (0 : Int) < 26 by decide), _, _, c, rfl, rfl, sG, ec, _, rfl, _, rfl, _, rfl, own, rfl, by rw [sizeLine_eq]; omega, _, _, rfl, rfl, by rw [l1, lo, sizeLine_eq]; omega,
          _, rfl, _, rfl, _, rfl, _, rfl, _, _, rfl, rfl, .inl ⟨by omega, by omega⟩, _, _, rfl, rfl, .inl ⟨_, rfl, _, _, rfl, rfl, (show (0 : Int) < 36 by decide), _, _, e, rfl, rfl, sG, ee, _, _, rfl, rfl, by rw [s1, lo, sizeLine_eq]; omega,
          _, rfl, _, rfl, _, rfl, own, rfl, by rw [sizeLine_eq]; omega, _, _, rfl, rfl, by rw [s2, l2, sizeLine_eq]; omega, p, _, _, rfl, rfl, hp, by rw [List.length_map, hln, sizeLine_eq]; omega, ?_⟩⟩⟩
        have hok : isNm (nameOf c own sp e) = true := nameOf_ok hsp2 ho10 hog (good_let c ?_) (List.mem_of_getElem? ee')
        · refine ⟨_, _, _, _, ns ++ [nameOf c own sp e], rfl, g1.write hp (fun _ z => by cases z) (g.free np), ?_, ?_, ?_⟩
          · rw [upd_same, List.map_append]; rfl
          · rw [List.length_append, hln]; rfl
          · rw [List.all_append, hall, List.all_cons, hok]; rfl
        · exact List.mem_of_getElem? (i := ((n + 3 * (0 + (i : Int))) % 26).toNat) (by rw [List.getElem?_take_of_lt (by omega)]; exact ec')
      · rintro σ H' ⟨kv, ov, sv, tv, ns, rfl, g1, hp, hln, hall⟩
        exact ⟨_, rfl, k H' p ns g1 (g.free np) hp hln hall⟩
end
end W

set_option Elab.async false
set_option linter.all false
set_option maxRecDepth 100000
set_option maxHeartbeats 2000000
namespace W
open PySem PySem.Spec PyProof.Rows L2 GxR MyG
abbrev sLPaper : Stmt := top 24
theorem num_at {ns : List Int} (hl : ns.length = 50) (hs : Sm ns) (i : Nat) (h : i < 50) : ∃ x, atI (ns.map V.int) (i : Int) = some (.int x) ∧ 0 ≤ x ∧ x < 1009 := by
  have h2 : i < ns.length := by omega
  exact ⟨ns[i], atI_nat (by rw [List.getElem?_map, List.getElem?_eq_getElem h2]; rfl), hs _ (List.getElem_mem h2)⟩
/-- roads as they are given: none, or a list -/
def GivR (H : Hp) (rv av : V) (ro : Option (List Str × Nat)) : Prop := (ro = none ∧ rv = .non ∧ av = .non) ∨ ∃ p q, ro = some p ∧ rv = .ref q ∧ av = .int (p.2 : Int) ∧ H q = some (.lst (p.1.map V.str))
theorem GivR.grew {P : Addr} {H H' : Hp} {rv av : V} {ro : Option (List Str × Nat)} (g : Grew P H H') (hP : TabG H P) (h : GivR H rv av ro) : GivR H' rv av ro := by
  rcases h with h | ⟨p, q, a, b, c, d⟩
  · exact .inl h
  · exact .inr ⟨p, q, a, b, c, g.lst hP d⟩
def GivL (H : Hp) (L : Addr) (ls : List (Str × Nat)) : Prop := ∃ ys, H L = some (.lst ys) ∧ Paired (RowAt H) (ls.map numI) ys
theorem GivL.grew {P : Addr} {H H' : Hp} {L : Addr} {ls : List (Str × Nat)} (g : Grew P H H') (hP : TabG H P) (h : GivL H L ls) : GivL H' L ls := let ⟨ys, a, b⟩ := h; ⟨ys, g.lst hP a, Paired.map' b fun _ _ m => m.grew g hP⟩
theorem papA (x : Int) (h0 : 0 ≤ x) (h1 : x < 1009) (j : Int) (j0 : 0 ≤ j) (j4 : j < 4) (c : Int) (c0 : 0 ≤ c) (c1 : c ≤ 991) : ∃ n : Nat, atI [V.int 0, V.int 999999999, V.int x, V.int (x * c)] j = some (.int (n : Int)) ∧ n ≤ 999999999 := by
  have hm : 0 ≤ x * c := Int.mul_nonneg h0 c0
  have hm2 : x * c ≤ 1008 * 991 := by
    have a : x * c ≤ 1008 * c := Int.mul_le_mul_of_nonneg_right (by omega) c0
    omega
  have : j = 0 ∨ j = 1 ∨ j = 2 ∨ j = 3 := by omega
  rcases this with rfl | rfl | rfl | rfl
  · exact ⟨0, rfl, by omega⟩
  · exact ⟨999999999, rfl, Nat.le_refl _⟩
  · exact ⟨x.toNat, by rw [Int.toNat_of_nonneg h0]; rfl, by omega⟩
  · exact ⟨(x * c).toNat, by rw [Int.toNat_of_nonneg hm]; rfl, by omega⟩
def spLPaper (K : PySem.W.Frag) (P : Addr) : Sp := fun vs H Q _ => ∃ (a : Addr) (ns : List Int), vs = [.ref a] ∧ SqL K H a (ns.map V.int) ∧ Sm ns ∧ ns.length = 50 ∧ TabG H P ∧
  ∀ (H' : Hp) (t L : Addr) (rv av : V) (ro : Option (List Str × Nat)) (ls : List (Str × Nat)), Grew P H H' → H' t = some (.tup [rv, av, .ref L]) → PapOk ro ls → GivR H' rv av ro → GivL H' L ls → Q (.ref t) H'
section
variable {Pg : Program} {w : World} {K : PySem.W.Frag} {mg : Str → Option Value} {base : Heap} {C P Pn : Addr}
abbrev nLP : List Str := ["numbers", "names", "roads", "arrival", "k", "lows"]
theorem scLP : FnScope nLP ["numbers"] (defScope sLPaper) := ⟨rfl, rfl, rfl, by decide +kernel, rfl, by decide +kernel, by decide +kernel⟩
theorem ok_lpaper {f fN : Addr} {fd fdN : FuncData} (F : Fun K "_law_paper" "_law_paper" sLPaper f fd) (hi : mg "int" = none) (hrg : mg "range" = none)
    (GN : FnOk Pg w K mg base CX0 1 fN fdN ["number", "many"] (spLNames P)) (gN : mg "_law_names" = some (.ref fN)) (kN : PySem.W.keepIn K (.ref fN) = true) (bN : Binds K fdN ["number", "many"] []) :
    FnOk Pg w K mg base CX0 2 f fd ["numbers"] (spLPaper K P) := by
  refine F.ok scLP (fun vs H Q E h => ?_) (fun cdv A outer s H vs Q E hr h => ?_)
  · obtain ⟨a, ns, rfl, _⟩ := h
    rfl
  · obtain ⟨a, ns, rfl, hA, hsm, hlen, hP, k⟩ := h
    refine ⟨_, C8.pss_cut (ps_set (i := 1) scLP.nd rfl (Or.inr rfl) (pe_op op_cat (pe_call GN hr (by rfl) gN kN bN .nil pass0 (pa_cons (pe_ix (r := rIxL K) ix_list (pv 0) pe_int (fun _ _ => rfl)) (pa_cons pe_int pa_nil))) (pe_lst (pa_cons pe_str (pa_cons pe_str pa_nil)))))
      (pss_cons (ps_set (i := 2) scLP.nd rfl (Or.inl rfl) pe_non)
      (pss_cons (ps_set (i := 3) scLP.nd rfl (Or.inl rfl) pe_non)
      (C8.pss_cut (ps_if (pt_cmpR op_gt (pe_op op_mod (pe_callTy call_int1 (by rfl) hi (by decide +kernel) (pa_cons (pe_ix (r := rIxL K) ix_list (pv 0) pe_int (fun _ _ => rfl)) pa_nil)) pe_int) pe_int (nomark _))
        (pss_cons (ps_setLc (i := 2) (own := [("k", 4)]) (g := gName 4) (tt := tYes) rfl scLP.nd rfl rfl (sw_true rfl rfl rfl (by decide +kernel)) (pi_range1 rfl hrg (pa_cons (pe_op op_mod (pe_callTy call_int1 (by rfl) hi (by decide +kernel) (pa_cons (pe_ix (r := rIxL K) ix_list (pv 0) pe_int (fun _ _ => rfl)) pa_nil)) pe_int) pa_nil)) (blkOk_by (N := nLP) (sc := defScope sLPaper) (by decide +kernel)) (fun _ _ _ _ _ => pg_name (i := 4) scLP.nd rfl (Or.inl rfl)) (fun _ _ _ _ _ => pts_nil)
            (fun _ _ _ _ _ => pe_ix (r := rIxL K) ix_list (pv 1) (pe_op op_mod (pe_callTy (r := rInt1) call_int1 (by rfl) hi (by decide +kernel) (pa_cons (pe_ix (r := rIxL K) ix_list (pv 0) (pe_op op_add pe_int (pv 4)) (fun _ _ => rfl)) pa_nil)) pe_int) (fun _ _ => rfl)))
        (pss_one (ps_set (i := 3) scLP.nd rfl (Or.inl rfl) (pe_ix (r := rIxL K) ix_list (pe_lst (pa_cons pe_int (pa_cons pe_int (pa_cons (pe_callTy call_int1 (by rfl) hi (by decide +kernel) (pa_cons (pe_ix (r := rIxL K) ix_list (pv 0) pe_int (fun _ _ => rfl)) pa_nil)) (pa_cons (pe_op op_mul (pe_callTy call_int1 (by rfl) hi (by decide +kernel) (pa_cons (pe_ix (r := rIxL K) ix_list (pv 0) pe_int (fun _ _ => rfl)) pa_nil)) pe_int) pa_nil)))))
            (pe_op op_mod (pe_callTy call_int1 (by rfl) hi (by decide +kernel) (pa_cons (pe_ix (r := rIxL K) ix_list (pv 0) pe_int (fun _ _ => rfl)) pa_nil)) pe_int) (fun _ _ => rfl))))) pss_nil)
      (pss_cons (ps_set (i := 5) scLP.nd rfl (Or.inl rfl) (pe_lst pa_nil))
      (C8.pss_cut (ps_for PassesOwn.never rfl (pi_range1 rfl hrg (pa_cons (pe_op op_mod (pe_callTy call_int1 (by rfl) hi (by decide +kernel) (pa_cons (pe_ix (r := rIxL K) ix_list (pv 0) pe_int (fun _ _ => rfl)) pa_nil)) pe_int) pa_nil)) (pg_name (i := 4) scLP.nd rfl (Or.inl rfl))
        (pss_one (ps_expr (pe_bm PySem.F.plainAttrs_list PySem.F.slot_list_append PySem.F.type_list_append mt_append (pv 5) (pa_cons (pe_tup (pa_cons
          (pe_ix (r := rIxL K) ix_list (pv 1) (pe_op op_mod (pe_callTy call_int1 (by rfl) hi (by decide +kernel) (pa_cons (pe_ix (r := rIxL K) ix_list (pv 0) (pe_op op_add pe_int (pv 4)) (fun _ _ => rfl)) pa_nil)) pe_int) (fun _ _ => rfl)) (pa_cons
          (pe_ix (r := rIxL K) ix_list (pe_lst (pa_cons pe_int (pa_cons pe_int (pa_cons (pe_callTy call_int1 (by rfl) hi (by decide +kernel) (pa_cons (pe_ix (r := rIxL K) ix_list (pv 0) (pe_op op_add pe_int (pv 4)) (fun _ _ => rfl)) pa_nil)) (pa_cons (pe_op op_mul (pe_callTy call_int1 (by rfl) hi (by decide +kernel) (pa_cons (pe_ix (r := rIxL K) ix_list (pv 0) (pe_op op_add pe_int (pv 4)) (fun _ _ => rfl)) pa_nil)) pe_int) pa_nil)))))
            (pe_op op_mod (pe_callTy call_int1 (by rfl) hi (by decide +kernel) (pa_cons (pe_ix (r := rIxL K) ix_list (pv 0) (pe_op op_add pe_int (pv 4)) (fun _ _ => rfl)) pa_nil)) pe_int) (fun _ _ => rfl)) pa_nil))) pa_nil)))))
      (pss_one (ps_ret (pe_tup (pa_cons (pv 2) (pa_cons (pv 3) (pa_cons (pv 5) pa_nil))))))))))), ?_⟩
    have num := fun i h => num_at hlen hsm i h
    refine ⟨fun σ H' => ∃ (N : Addr) (zs : List Str), σ = [some (.ref a), some (.ref N), none, none, none, none] ∧ Grew P H H' ∧ H' N = some (.lst (zs.map V.str)) ∧ zs.length = 9 ∧ ∀ z ∈ zs, isNm z = true, ?_, ?_⟩
    · obtain ⟨x, e0, x0, x1⟩ := num 0 (by decide)
      refine ⟨_, rfl, a, _, 0, _, rfl, rfl, hA, e0, x, 7, rfl, x0, by decide, hP, fun H1 p zs g1 np hp hl7 hall => ?_⟩
      refine ⟨(show 2 ≤ sizeLine by decide), fun q nq => ?_⟩
      have gq := Grew.new g1.tab (o := .lst (([("z" : Str), ("a1" : Str)] : List Str).map V.str)) nq
      have hp2 := gq.lst g1.tab hp
      have hq2 : (L2.upd H1 q (.lst (([("z" : Str), ("a1" : Str)] : List Str).map V.str))) q = some (.lst (([("z" : Str), ("a1" : Str)] : List Str).map V.str)) := upd_same
      refine ⟨p, q, _, _, rfl, rfl, hp2, hq2, by rw [List.length_map, hl7, sizeLine_eq]; decide, fun N nN => ?_⟩
      refine ⟨N, zs ++ ([("z" : Str), ("a1" : Str)] : List Str), rfl, (g1.trans gq).put nN, by rw [upd_same, List.map_append], by rw [List.length_append, hl7]; rfl, fun z hz => ?_⟩
      rcases List.mem_append.mp hz with hz | hz
      · exact List.all_eq_true.mp hall z hz
      · have al : ∀ z ∈ ([("z" : Str), ("a1" : Str)] : List Str), isNm z = true := by decide +kernel
        exact al z hz
    rintro σ H1 ⟨N, zs, rfl, g1, hN, l9, hnm⟩
    have zat : ∀ x : Int, ∃ z, atI (zs.map V.str) (x % 9) = some (.str z) ∧ isNm z = true := fun x => by
      obtain ⟨v, ev, ev2⟩ := at_some (l := zs.map V.str) (i := x % 9) (by omega) (by rw [List.length_map, l9]; omega)
      rw [List.getElem?_map] at ev2
      cases qz : zs[(x % 9).toNat]? with
      | none => rw [qz] at ev2; cases ev2
      | some z =>
        rw [qz] at ev2
        obtain rfl := Option.some.inj ev2
        exact ⟨z, ev, hnm z (List.mem_of_getElem? qz)⟩
    have hA1 := g1.sqL hP hA
    refine ⟨fun σ H' => ∃ (rv av : V) (ro : Option (List Str × Nat)), σ = [some (.ref a), some (.ref N), some rv, some av, none, none] ∧ Grew P H H' ∧ H' N = some (.lst (zs.map V.str)) ∧ GivR H' rv av ro ∧ ∀ p, ro = some p → (∀ z ∈ p.1, isNm z = true) ∧ p.1.length ≤ 10 ∧ p.2 ≤ 999999999, ?_, ?_⟩
    · obtain ⟨x1, e1, _, _⟩ := num 1 (by decide)
      refine ⟨_, rfl, a, _, 1, _, rfl, rfl, hA1, e1, .inl ⟨_, rfl, _, _, rfl, rfl, (show (0 : Int) < 4 by decide), _, _, rfl, rfl, _, rfl, ?_⟩⟩
      refine ite2 (fun _ => ?_) (fun _ => ?_)
      · obtain ⟨x2, e2, _, _⟩ := num 2 (by decide)
        refine ⟨_, rfl, a, _, 2, _, rfl, rfl, hA1, e2, .inl ⟨_, rfl, _, _, rfl, rfl, (show (0 : Int) < 7 by decide), x2 % 7, rfl, by omega, by omega, fun D nD => lc_range (n := (x2 % 7).toNat) (fun i H2 => Grew P H1 H2 ∧ ∃ rl : List Str, H2 D = some (.lst (rl.map V.str)) ∧ rl.length = i ∧ ∀ z ∈ rl, isNm z = true)
          ⟨Grew.new g1.tab nD, [], upd_same, rfl, fun y hy => by cases hy⟩ (fun i H2 hi p => ?_) (fun H2 p => ?_)⟩⟩
        · obtain ⟨g, rl, hD, hl1, hr1⟩ := p
          obtain ⟨y, ey, _, _⟩ := num (10 + i) (by omega)
          have ey' : atI (ns.map V.int) (10 + (0 + (i : Int))) = some (.int y) := by
            have : (10 : Int) + (0 + (i : Int)) = ((10 + i : Nat) : Int) := by omega
            rw [this]; exact ey
          obtain ⟨z, ez, hz⟩ := zat y
          have hA2 := g.sqL g1.tab hA1
          have hN2 := g.lst g1.tab hN
          refine ⟨rfl, _, rfl, _, rfl, _, rfl, _, _, rfl, rfl, a, _, _, _, rfl, rfl, hA2, ey', .inl ⟨_, rfl, _, _, rfl, rfl, (show (0 : Int) < 9 by decide), N, _, _, _, rfl, rfl, SqL.of hN2, ez, _, hD, by rw [List.length_map, hl1, sizeLine_eq]; omega, g.write hD (fun _ z => by cases z) nD, rl ++ [z], by rw [upd_same, List.map_append]; rfl, by rw [List.length_append, hl1]; rfl, fun w hw => ?_⟩⟩
          rcases List.mem_append.mp hw with hw | hw
          · exact hr1 w hw
          · rw [List.mem_singleton.mp hw]
            exact hz
        · obtain ⟨g, rl, hD, hl1, hr1⟩ := p
          have hA2 := g.sqL g1.tab hA1
          have hN2 := g.lst g1.tab hN
          obtain ⟨x3, e3, a3, b3⟩ := num 3 (by decide)
          obtain ⟨x4, e4, _, _⟩ := num 4 (by decide)
          obtain ⟨n, en, hn⟩ := papA x3 a3 b3 (x4 % 4) (by omega) (by omega) 991 (by decide) (by decide)
          refine ⟨_, rfl, a, _, 3, _, rfl, rfl, hA2, e3, .inl ⟨_, rfl, _, rfl, a, _, 3, _, rfl, rfl, hA2, e3, .inl ⟨_, rfl, _, _, rfl, rfl, .inr ⟨by decide, by decide⟩, (show 4 ≤ sizeLine by decide), fun M nM => ?_⟩⟩⟩
          have gM := Grew.new g.tab (o := .lst [.int 0, .int 999999999, .int x3, .int (x3 * 991)]) nM
          have hA3 := gM.sqL g.tab hA2
          refine ⟨_, rfl, a, _, 4, _, rfl, rfl, hA3, e4, .inl ⟨_, rfl, _, _, rfl, rfl, (show (0 : Int) < 4 by decide), M, _, _, _, rfl, rfl, SqL.of upd_same, en, ?_⟩⟩
          refine ⟨.ref D, .int (n : Int), some (rl, n), rfl, (g1.trans g).trans gM, gM.lst g.tab hN2, .inr ⟨(rl, n), D, rfl, rfl, rfl, gM.lst g.tab hD⟩, fun p hp => ?_⟩
          obtain rfl := Option.some.inj hp
          exact ⟨hr1, by show rl.length ≤ 10; omega, hn⟩
      · exact ⟨.non, .non, none, rfl, g1, hN, .inl ⟨rfl, rfl, rfl⟩, fun p hp => by cases hp⟩
    rintro σ H2 ⟨rv, av, ro, rfl, g2, hN2, hgr, hro⟩
    refine ⟨Nat.zero_le _, fun L nL => ?_⟩
    have g3 := g2.put (o := .lst []) nL
    have gu := Grew.new g2.tab (o := .lst []) nL
    have nL0 := g2.free nL
    have hqL : ∀ q, rv = .ref q → q ≠ L := fun q eq e => by
      rcases hgr with ⟨_, h, _⟩ | ⟨p, q', _, h, _, h2⟩
      · rw [h] at eq
        cases eq
      · rw [h] at eq
        injection eq with eq
        rw [eq, e, nL] at h2
        cases h2
    refine ⟨fun σ H' => ∃ (kv : Option V) (ls : List (Str × Nat)), σ = [some (.ref a), some (.ref N), some rv, some av, kv, some (.ref L)] ∧ Grew P H H' ∧ GivR H' rv av ro ∧ GivL H' L ls ∧ ls.length ≤ 8 ∧ ∀ e ∈ ls, isNm e.1 = true ∧ e.2 ≤ 999999999, ?_, ?_⟩
    · obtain ⟨x5, e5, _, _⟩ := num 5 (by decide)
      have hA3 := g3.sqL hP hA
      refine ⟨_, rfl, a, _, 5, _, rfl, rfl, hA3, e5, .inl ⟨_, rfl, _, _, rfl, rfl, (show (0 : Int) < 9 by decide), x5 % 9, rfl, by omega, by omega, for_range (n := (x5 % 9).toNat) (fun i σ H' => ∃ (kv : Option V) (ls : List (Str × Nat)), σ = [some (.ref a), some (.ref N), some rv, some av, kv, some (.ref L)] ∧ L ≠ N ∧ GivR H' rv av ro ∧ GivL H' L ls ∧ H' N = some (.lst (zs.map V.str)) ∧ Grew P H H' ∧ ls.length = i ∧ ∀ e ∈ ls, isNm e.1 = true ∧ e.2 ≤ 999999999)
        ⟨none, [], rfl, fun e => (by rw [e, hN2] at nL; cases nL), hgr.grew gu g2.tab, ⟨[], upd_same, .nil⟩, gu.lst g2.tab hN2, g3, rfl, fun e he => by cases he⟩ ?_ ?_⟩⟩
      · rintro i σ H3 hi ⟨kv, ls, rfl, LN, hgr3, ⟨ys, hL, hys⟩, hN3, gh, hll, hls⟩
        obtain ⟨y1, f1, _, _⟩ := num (20 + i) (by omega)
        obtain ⟨y2, f2, c2, d2⟩ := num (30 + i) (by omega)
        obtain ⟨y3, f3, _, _⟩ := num (40 + i) (by omega)
        have f1' : atI (ns.map V.int) (20 + (0 + (i : Int))) = some (.int y1) := by
          have : (20 : Int) + (0 + (i : Int)) = ((20 + i : Nat) : Int) := by omega
          rw [this]; exact f1
        have f2' : atI (ns.map V.int) (30 + (0 + (i : Int))) = some (.int y2) := by
          have : (30 : Int) + (0 + (i : Int)) = ((30 + i : Nat) : Int) := by omega
          rw [this]; exact f2
        have f3' : atI (ns.map V.int) (40 + (0 + (i : Int))) = some (.int y3) := by
          have : (40 : Int) + (0 + (i : Int)) = ((40 + i : Nat) : Int) := by omega
          rw [this]; exact f3
        obtain ⟨z, ez, hz⟩ := zat y1
        obtain ⟨n, en, hn⟩ := papA y2 c2 d2 (y3 % 4) (by omega) (by omega) 977 (by decide) (by decide)
        have hA4 := gh.sqL hP hA
        refine ⟨_, rfl, .inl ⟨rfl, _, SqL.of hL⟩, _, rfl, _, rfl, _, rfl, _, _, rfl, rfl, a, _, _, _, rfl, rfl, hA4, f1', .inl ⟨_, rfl, _, _, rfl, rfl, (show (0 : Int) < 9 by decide), N, _, _, _, rfl, rfl, SqL.of hN3, ez, ?_⟩⟩
        refine ⟨_, rfl, _, rfl, _, _, rfl, rfl, a, _, _, _, rfl, rfl, hA4, f2', .inl ⟨_, rfl, _, rfl, _, rfl, _, _, rfl, rfl, a, _, _, _, rfl, rfl, hA4, f2', .inl ⟨_, rfl, _, _, rfl, rfl, .inr ⟨by decide, by decide⟩, (show 4 ≤ sizeLine by decide), fun M nM => ?_⟩⟩⟩
        have gM := Grew.new gh.tab (o := .lst [.int 0, .int 999999999, .int y2, .int (y2 * 977)]) nM
        have hA5 := gM.sqL gh.tab hA4
        have hM : (L2.upd H3 M (.lst [.int 0, .int 999999999, .int y2, .int (y2 * 977)])) M = some (.lst [.int 0, .int 999999999, .int y2, .int (y2 * 977)]) := upd_same
        refine ⟨_, rfl, _, rfl, _, _, rfl, rfl, a, _, _, _, rfl, rfl, hA5, f3', .inl ⟨_, rfl, _, _, rfl, rfl, (show (0 : Int) < 4 by decide), M, _, _, _, rfl, rfl, SqL.of hM, en, (show 2 ≤ sizeLine by decide), fun T nT => ?_⟩⟩
        have gT := gM.put (o := .tup [.str z, .int (n : Int)]) nT
        have hL5 := gT.lst gh.tab hL
        have hys5 : Paired (RowAt _) (ls.map numI) ys := Paired.map' hys fun _ _ m => m.grew gT gh.tab
        have hT : (L2.upd (L2.upd H3 M (.lst [.int 0, .int 999999999, .int y2, .int (y2 * 977)])) T (.tup [.str z, .int (n : Int)])) T = some (.tup [.str z, .int (n : Int)]) := upd_same
        have hgr5 := hgr3.grew gT gh.tab
        have hN5 := gT.lst gh.tab hN3
        have gh5 := gh.trans gT
        generalize L2.upd (L2.upd H3 M (.lst [.int 0, .int 999999999, .int y2, .int (y2 * 977)])) T (.tup [.str z, .int (n : Int)]) = H5 at gT hL5 hys5 hT hgr5 hN5 gh5 ⊢
        have lys := Paired.len hys
        rw [List.length_map] at lys
        refine ⟨L, _, _, rfl, rfl, hL5, by rw [sizeLine_eq]; omega, ?_⟩
        have kk : ∀ {e : Str × Int} {v : V}, RowAt H5 e v → RowAt (L2.upd H5 L (.lst (ys ++ [.ref T]))) e v := fun {e v} ⟨p, e1, e2⟩ => ⟨p, e1, by rw [upd_ne (fun q => by rw [q, hL5] at e2; cases e2)]; exact e2⟩
        refine ⟨_, ls ++ [(z, n)], rfl, LN, ?_, ⟨ys ++ [.ref T], upd_same, ?_⟩, by rw [upd_ne (Ne.symm LN)]; exact hN5, gh5.write hL5 (fun _ z => by cases z) nL0, by rw [List.length_append, hll]; rfl, fun e he => ?_⟩
        · rcases hgr5 with hh | ⟨p, q, a1, a2, a3, a4⟩
          · exact .inl hh
          · refine .inr ⟨p, q, a1, a2, a3, ?_⟩
            rw [upd_ne (hqL q a2)]
            exact a4
        · rw [List.map_append]
          exact Paired.snoc (Paired.map' hys5 fun _ _ m => kk m) (kk ⟨T, rfl, hT⟩)
        · rcases List.mem_append.mp he with he | he
          · exact hls e he
          · rw [List.mem_singleton.mp he]
            exact ⟨hz, hn⟩
      · rintro σ H3 ⟨kv, ls, rfl, LN, hgr3, hgl, hN3, gh, hll, hls⟩
        exact ⟨kv, ls, rfl, gh, hgr3, hgl, by omega, hls⟩
    rintro σ H3 ⟨kv, ls, rfl, g4, hgr4, hgl4, l8, hls⟩
    refine ⟨_, rfl, _, rfl, _, rfl, (show 3 ≤ sizeLine by decide), fun t nt => ?_⟩
    have gt := Grew.new g4.tab (o := .tup [rv, av, .ref L]) nt
    exact k _ t L rv av ro ls (g4.trans gt) upd_same ⟨hro, hls, by omega⟩ (hgr4.grew gt g4.tab) (hgl4.grew gt g4.tab)
end
end W

set_option Elab.async false
set_option linter.all false
set_option maxRecDepth 100000
set_option maxHeartbeats 2000000
namespace W
open PySem PySem.Spec PyProof.Rows L2 GxR MyG
abbrev sLText : Stmt := top 25
def spLText (K : PySem.W.Frag) (P : Addr) : Sp := fun vs H Q _ => ∃ (rv av : V) (L : Addr) (ro : Option (List Str × Nat)) (ls : List (Str × Nat)), vs = [rv, av, .ref L] ∧ GivR H rv av ro ∧ GivL H L ls ∧ PapOk ro ls ∧ TabG H P ∧
  ∀ H', Grew P H H' → Q (.str (textP ro ls)) H'
section
variable {Pg : Program} {w : World} {K : PySem.W.Frag} {mg : Str → Option Value} {base : Heap} {C P Pn : Addr}
abbrev nLT : List Str := ["roads", "arrival", "lows", "lines", "name", "low"]
theorem scLT : FnScope nLT ["roads", "arrival", "lows"] (defScope sLText) := ⟨rfl, rfl, rfl, by decide +kernel, rfl, by decide +kernel, by decide +kernel⟩
theorem ok_ltext {f : Addr} {fd : FuncData} (F : Fun K "_law_text" "_law_text" sLText f fd) (hst : mg "str" = none) : FnOk Pg w K mg base CX0 1 f fd ["roads", "arrival", "lows"] (spLText K P) := by
  refine F.ok scLT (fun vs H Q E h => ?_) (fun cdv A outer s H vs Q E hr h => ?_)
  · obtain ⟨rv, av, L, ro, ls, rfl, _⟩ := h
    rfl
  · obtain ⟨rv, av, L, ro, ls, rfl, hgr, ⟨ys, hL, hys⟩, hok, hP, k⟩ := h
    refine ⟨_, pss_cons (ps_set (i := 3) scLT.nd rfl (Or.inl rfl) (pe_lst (pa_cons pe_str pa_nil)))
      (C8.pss_cut (ps_if (pt_cmp (pc_notN (pv 0))) (pss_one (ps_set (i := 3) scLT.nd rfl (Or.inl rfl) (pe_op op_cat (pe_lst (pa_cons (pe_op op_add_str pe_str (pe_callTy (T := "str") call_str_int (by rfl) hst (by decide +kernel) (pa_cons (pv 1) pa_nil))) pa_nil))
          (pe_lc (own := [("name", 4)]) (g := gName 4) (tt := tYes) rfl scLT.nd (pi_list (pv 0)) (blkOk_by (N := nLT) (sc := defScope sLText) (by decide +kernel)) (fun _ _ _ _ _ => pg_name (i := 4) scLT.nd rfl (Or.inl rfl)) (fun _ _ _ _ _ => pts_nil)
            (fun _ _ _ _ _ => pe_op op_add_str pe_str (pv 4)))))) pss_nil)
      (pss_one (ps_ret (pe_join pe_str (pe_op op_cat (pv 3) (pe_lc (own := [("low", 5)]) (g := gName 5) (tt := tYes) rfl scLT.nd (pi_list (pv 2)) (blkOk_by (N := nLT) (sc := defScope sLText) (by decide +kernel)) (fun _ _ _ _ _ => pg_name (i := 5) scLT.nd rfl (Or.inl rfl)) (fun _ _ _ _ _ => pts_nil)
            (fun _ _ _ _ _ => pe_op op_add_str (pe_op op_add_str (pe_op op_add_str pe_str (pe_ix (r := rIxT K) ix_tup (pv 5) pe_int (fun _ _ => rfl))) pe_str) (pe_callTy (T := "str") call_str_int (by rfl) hst (by decide +kernel) (pa_cons (pe_ix (r := rIxT K) ix_tup (pv 5) pe_int (fun _ _ => rfl)) pa_nil))))))))), ?_⟩
    have h21 := lines_count hok
    refine ⟨(show 1 ≤ sizeLine by decide), fun N nN => ?_⟩
    have g1 := Grew.new hP (o := .lst [V.str (Str.ofString "none")]) nN
    have hN : (L2.upd H N (.lst [V.str (Str.ofString "none")])) N = some (.lst (([zNone] : List Str).map V.str)) := upd_same
    generalize L2.upd H N (.lst [V.str (Str.ofString "none")]) = H1 at g1 hN ⊢
    refine ⟨fun σ H' => ∃ M : Addr, σ = [some rv, some av, some (.ref L), some (.ref M), none, none] ∧ Grew P H H' ∧ H' M = some (.lst ((headL ro).map V.str)), ?_, ?_⟩
    · rcases hgr with ⟨rfl, rfl, rfl⟩ | ⟨p, q, rfl, rfl, rfl, hq⟩
      · refine ⟨_, rfl, _, rfl, ?_⟩
        exact if_f rfl ⟨N, rfl, g1, hN⟩
      · obtain ⟨h1, h2, h3⟩ := hok.rn p rfl
        have nl := num_len h3
        have hq1 := g1.lst hP hq
        have la : (arrS p.2).length = 8 + (numS p.2).length := PySem.Str.length_append ..
        refine ⟨_, rfl, _, rfl, ?_⟩
        refine if_t rfl ⟨_, rfl, (p.2 : Int), rfl, log_small h3, zArrS, numS p.2, rfl, rfl, ?_, (show 1 ≤ sizeLine by decide), fun A nA => ?_⟩
        · have : zArrS.length + (numS p.2).length ≤ 20 := by
            have e : zArrS.length = 8 := by decide +kernel
            omega
          rw [sizeLine_eq]
          omega
        have gA := Grew.new g1.tab (o := .lst [.str (arrS p.2)]) nA
        have hq2 := gA.lst g1.tab hq1
        have hA : (L2.upd H1 A (.lst [.str (arrS p.2)])) A = some (.lst (([arrS p.2] : List Str).map V.str)) := upd_same
        have gA' := g1.trans gA
        have goalEq : L2.upd H1 A (.lst [.str (zArrS ++ numS p.2)]) = L2.upd H1 A (.lst [.str (arrS p.2)]) := rfl
        rw [goalEq]
        generalize L2.upd H1 A (.lst [.str (arrS p.2)]) = H3 at gA hq2 hA gA' ⊢
        refine ⟨_, rfl, q, rfl, ⟨_, SqL.of hq2⟩, fun D nD => lc_list (K := K) (a := q) (xs := p.1.map V.str) (fun i H' => Grew P H3 H' ∧ H' D = some (.lst (((p.1.map byS).take i).map V.str)))
          ⟨Grew.new gA.tab nD, upd_same⟩ (fun i H' _ h => SqL.of (h.1.lst gA.tab hq2)) (fun i v H4 hv h => ?_) (fun H4 h => ?_)⟩
        · obtain ⟨g, hD⟩ := h
          rw [List.getElem?_map] at hv
          cases qz : p.1[i]? with
          | none => rw [qz] at hv; cases hv
          | some n =>
            rw [qz] at hv
            obtain rfl := Option.some.inj hv
            have hn := nm_len (h1 n (List.mem_of_getElem? qz))
            have hil := (List.getElem?_eq_some_iff.mp qz).1
            have et : (p.1.map byS).take (i + 1) = (p.1.map byS).take i ++ [byS n] := by rw [List.take_succ, List.getElem?_map, qz]; rfl
            have e3 : zByS.length = 3 := by decide +kernel
            refine ⟨rfl, _, rfl, zByS, n, rfl, rfl, by rw [e3, sizeLine_eq]; omega, _, hD, by rw [List.length_map, List.length_take, sizeLine_eq]; omega, g.write hD (fun _ z => by cases z) nD, ?_⟩
            rw [upd_same, et, List.map_append]
            rfl
        · obtain ⟨g, hD⟩ := h
          have et : (p.1.map byS).take (p.1.map V.str).length = p.1.map byS := List.take_of_length_le (by simp)
          rw [et] at hD
          refine ⟨A, D, _, _, rfl, rfl, g.lst gA.tab hA, hD, by rw [List.length_map, List.length_map, List.length_map, sizeLine_eq]; simp; omega, fun M nM => ?_⟩
          exact ⟨M, rfl, (gA'.trans g).put nM, upd_same⟩
    rintro σ H2 ⟨M, rfl, g2, hM⟩
    have hL2 := g2.lst hP hL
    have hys2 : Paired (RowAt H2) (ls.map numI) ys := Paired.map' hys fun _ _ m => m.grew g2 hP
    have l10 := hok.ll
    have ly := Paired.len hys2
    rw [List.length_map] at ly
    have lh : (headL ro).length + ls.length ≤ 21 := by
      have e : (linesP ro ls).length = (headL ro).length + ls.length := by
        unfold linesP
        rw [List.length_append, List.length_map]
        cases ro <;> rfl
      omega
    have e0 : zNl.length = 1 := by decide +kernel
    have s1 := sum_len (line_len hok)
    refine ⟨⟨_, rfl⟩, _, rfl, _, rfl, L, rfl, ⟨_, SqL.of hL2⟩, fun D nD => lc_list (K := K) (a := L) (xs := ys) (fun i H' => Grew P H2 H' ∧ H' D = some (.lst (((ls.map lowS).take i).map V.str)))
      ⟨Grew.new g2.tab nD, upd_same⟩ (fun i H' _ h => SqL.of (h.1.lst g2.tab hL2)) (fun i v H3 hv h => ?_) (fun H3 h => ?_)⟩
    · obtain ⟨g, hD⟩ := h
      obtain ⟨e', he', hrow⟩ := Paired.at hys2 hv
      rw [List.getElem?_map] at he'
      cases qz : ls[i]? with
      | none => rw [qz] at he'; cases he'
      | some e =>
        rw [qz] at he'
        obtain rfl := Option.some.inj he'
        obtain ⟨t, rfl, ht⟩ := hrow
        obtain ⟨b1, b2⟩ := hok.ln e (List.mem_of_getElem? qz)
        have hn := nm_len b1
        have nl := num_len b2
        have hil := (List.getElem?_eq_some_iff.mp qz).1
        have ht3 := g.tup g2.tab ht
        have l4 : zLowS.length = 4 := by decide +kernel
        have ls1 : zSp.length = 1 := by decide +kernel
        have k1 : (zLowS ++ e.1).length = 4 + e.1.length := by rw [PySem.Str.length_append, l4]
        have k2 : ((zLowS ++ e.1) ++ zSp).length = 4 + e.1.length + 1 := by rw [PySem.Str.length_append, k1, ls1]
        have et : (ls.map lowS).take (i + 1) = (ls.map lowS).take i ++ [lowS e] := by rw [List.take_succ, List.getElem?_map, qz]; rfl
        refine ⟨rfl, _, rfl, t, _, 0, _, rfl, rfl, SqT.of ht3, rfl, zLowS, e.1, rfl, rfl, by rw [l4, sizeLine_eq]; omega, _, zSp, rfl, rfl, by rw [k1, ls1, sizeLine_eq]; omega, _, rfl, t, _, 1, _, rfl, rfl, SqT.of ht3, rfl, (e.2 : Int), rfl, log_small b2, _, numS e.2, rfl, rfl, by rw [k2, sizeLine_eq]; omega, ?_⟩
        refine ⟨_, hD, by rw [List.length_map, List.length_take, sizeLine_eq]; omega, g.write hD (fun _ z => by cases z) nD, ?_⟩
        rw [upd_same, et, List.map_append]
        rfl
    · obtain ⟨g, hD⟩ := h
      have et : (ls.map lowS).take ys.length = ls.map lowS := List.take_of_length_le (by simp; omega)
      rw [et] at hD
      refine ⟨M, D, _, _, rfl, rfl, g.lst g2.tab hM, hD, by rw [List.length_map, List.length_map, List.length_map, sizeLine_eq]; omega, fun T nT => ?_⟩
      have eT : (headL ro).map V.str ++ (ls.map lowS).map V.str = (linesP ro ls).map V.str := by
        rw [← List.map_append]
        cases ro <;> rfl
      rw [eT]
      refine ⟨_, T, linesP ro ls, rfl, rfl, .inl (SqL.of upd_same), ?_, k _ ((g2.trans g).put nT)⟩
      show ((linesP ro ls).map (·.length)).sum + (linesP ro ls).length * zNl.length ≤ 16777216
      rw [e0]
      omega
end
end W

set_option Elab.async false
set_option linter.all false
set_option maxRecDepth 100000
set_option maxHeartbeats 800000
namespace MyR
open PySem PySem.Spec PyProof.Rows L2
/-! ### repr of data, where no repr is under way -/
def rRep (K : PySem.W.Frag) : List V → Hp → VK → Prop := fun xs H Q => ∃ (a : Addr) (d : PyData), xs = [.ref a] ∧ Dp K H (.ref a) d ∧ d.showable = true ∧ d.hasDict = false ∧ d.depth ≤ 8 ∧ d.shown.length ≤ sizeLine ∧ Q (.str d.shown) H
theorem call_repD {X : Cx} (hg : X.A.guards = some []) (hu : X.A.units + 64 < cLine) : CallR X (.builtin "repr") (rRep X.K) := by
  intro pins s σ H xs us Q I r h
  obtain ⟨a, d, rfl, hd, hs, hn, hp, hz, q⟩ := h
  obtain ⟨u, rfl, r1⟩ := vals1 r
  obtain rfl : u = Value.ref a := r1
  obtain ⟨as, rd⟩ := Dp.reads I d _ _ hd rfl
  exact repr_of_reads' rd hs (fun e => by rw [hn] at e; cases e) hg (by omega) (fun _ _ e => e) (fun h' u tk k => ⟨.str _, H, I.kept k, ⟨u, rfl⟩, q⟩) hz
end MyR

set_option Elab.async false
set_option linter.all false
set_option maxRecDepth 100000
set_option maxHeartbeats 2000000
namespace MyR
open PySem PySem.Spec PyProof.Rows L2
/-! ### the law's own call: here, and only here, it is known that no repr is under way -/
/-- f called by the caller of the law keeps sp -/
def RunG (P : Program) (w : World) (K : PySem.W.Frag) (mg : Str → Option Value) (base : Heap) (CX : CXT) (f : Addr) (sp : Sp) : Prop :=
  ∀ (s : Shared) (H : Hp) (a : Addr) (Q : VK) (E : XK), Env0 P w K mg base callerA [] s H → sp [.ref a] H Q E → codeAny (model P w) callerA (.call (.ref f) ⟨[.ref a], []⟩) (CR CX [] P w H s Q E) s
section
variable {P : Program} {w : World} {K : PySem.W.Frag} {mg : Str → Option Value} {base : Heap}
theorem runG_of {CX : CXT} {f : Addr} {name qual x : Str} {params : Arguments} {body : List Stmt} {scope : Scope} {dV kV doc pm cdv ct oc : Value} {an od : Option Addr} {osl : Array (Option Value)} {N : List Str} {sp : Sp}
    (lk : K.lookup f = some ⟨oc, od, .func (PySem.W.fnOf name qual params body scope dV kV doc pm an cdv ct), osl⟩) (hcd : PySem.W.codeIn K cdv qual = true) (S : FnScope N [x] scope)
    (hb : ∀ (s : Shared) (u : Value), BindsTo s (PySem.W.fnOf name qual params body scope dV kV doc pm an cdv ct) ⟨[u], []⟩ [(x, u)]) (hr : Room 8 callerA)
    (hbody : ∀ (s : Shared) (H : Hp) (a : Addr) (Q : VK) (E : XK), sp [.ref a] H Q E → ∃ t, PSs (cxOf CX P w K mg base N qual scope f cdv callerA [] s H E) body t ∧ t { nx := fun _ H' => Q .non H', rt := Q } (start N [.ref a]) H) :
    RunG P w K mg base CX f sp := fun s H a Q E e0 hsp => by
  have up : ∀ b o, base.get? b = some o → s.heap.get? b = some o := fun b o e => (e0.bs b o e).1
  have KX : K.In s.heap := e0.mod.kin.keeps up
  have hx : scope.names.lookup x = some .local ∨ (scope.names.lookup x = some .cell ∧ ((cellsFrom (s.heap.objs.size + 1) scope.names []).lookup x).isSome = true) :=
    (S.par x (List.mem_singleton.mpr rfl)).imp id fun q => ⟨q, PySem.W.cellsFrom_some _ _ _ (.inl q)⟩
  refine codeAny_call_function hr.depth (KX _ _ lk) rfl S.co S.gen rfl (PySem.W.codeRec_of KX hcd) (hb s (.ref a) _ _ _ _ ?_)
  refine wpAny_newFunctionEnv_cells S.kind (fun y hy => by rw [List.mem_singleton.mp hy]; exact hx) fun env he s1 st => ?_
  subst he
  refine ⟨(e0.mod.nolimit.keeps up).keeps st.toInCall.keep, codeAny_func ?_⟩
  obtain ⟨t, ht, hq⟩ := hbody s H a Q E hsp
  have I : Inv (cxOf CX P w K mg base N qual scope f cdv callerA [] s H E) [] (start N [.ref a]) H s1 := inv_start S hr.hd e0 rfl (.cons rfl .nil) st
  have out : ∀ {σ2 : L2.St} {H2 : Hp} {s2 : Shared} {v : V} {u : Value}, Inv (cxOf CX P w K mg base N qual scope f cdv callerA [] s H E) [] σ2 H2 s2 → RelV v u → Q v H2 → CE [] P w H s Q u s2 :=
    fun {σ2 H2 s2 v u} J rv q => ⟨v, H2, J.os, J.bare, J.base, J.hok, rv, q⟩
  refine wpAny_mono (ht.run [] s1 _ H _ I hq) (fun fl s2 hs => ?_) fun _ _ z => z
  match fl, hs with
  | .ret u, ⟨v, σ2, H2, J, rv, q⟩ => exact out J rv q
  | .next, ⟨σ2, H2, J, q⟩ => exact out (v := V.non) (u := Value.none) J rfl q
  | .brk, ⟨_, _, _, z⟩ => exact z.elim
  | .cont, ⟨_, _, _, z⟩ => exact z.elim
/-- what is tracked at the top: the one table, and the script where it is not written down -/
def topH (K : PySem.W.Frag) (T a : Addr) (o : Obj) (xs : List V) : Hp := fun b => if b = T then some (.tbl #[]) else if b = a ∧ K.lookup a = none then some (.frz o (.lst xs)) else none
theorem topH_cases {T a b : Addr} {o : Obj} {xs : List V} {u : HO} (h : topH K T a o xs b = some u) : (b = T ∧ u = .tbl #[]) ∨ (b ≠ T ∧ b = a ∧ K.lookup a = none ∧ u = .frz o (.lst xs)) := by
  unfold topH at h
  by_cases h1 : b = T
  · rw [if_pos h1] at h
    exact .inl ⟨h1, (Option.some.inj h).symm⟩
  · rw [if_neg h1] at h
    by_cases h2 : b = a ∧ K.lookup a = none
    · rw [if_pos h2] at h
      exact .inr ⟨h1, h2.1, h2.2, (Option.some.inj h).symm⟩
    · rw [if_neg h2] at h
      cases h
theorem top_call {mb : Str → Option Value} {CX : CXT} {f a c T : Addr} {sp : Sp} {s : Shared} {vs : List Value} {ns : List Int} (KX : K.In s.heap) (G : s.heap.Ns mainGlobals mg) (B : s.heap.Ns builtinsNs mb) (hB : ∀ x : Str, x ≠ "__name__" → mb x = bootBuiltins x) (lim : s.heap.NoLimit) (ng : s.gens = #[])
    (eT : s.heap.get? T = some { cls := .none, data := .fields #[] }) (nT : K.lookup T = none) (C : PySem.W.CodeHd s.heap c T)
    (hbm : ∃ (bm : Addr) (ob : Obj), mg "__builtins__" = some (.ref bm) ∧ bm ≠ builtinsNs ∧ s.heap.get? bm = some ob ∧ ob.cls = .type "module" ∧ ob.dict = some builtinsNs ∧ ob.data = .plain)
    (ea : s.heap.get? a = some { cls := .type "list", data := .seq vs.toArray }) (hi : IntsAre vs ns) (hl : ns.length ≤ sizeLine)
    (R : ∀ base : Heap, K.In base → base.Ns mainGlobals mg → LamX.TabB base mg c T → RunG P w K mg base CX f sp)
    (hsp : ∀ H : Hp, H T = some (.tbl #[]) → SqL K H a (ns.map V.int) → sp [.ref a] H (fun v _ => v = .bl true) fun _ _ _ => False)
    (no : ∀ H e s', CX [] H s (fun _ _ _ => False) e s' → False) :
    codeAny (model P w) callerA (.call (.ref f) ⟨[.ref a], []⟩) (fun r s' => r = .ok (.ret (.bool true)) ∧ OldK s.heap s'.heap ∧ s'.os = s.os ∧ AllBare s'.gens) s := by
  have rv := vals_ints hi
  have nz : a ≠ T := fun z => by
    rw [z, eT] at ea
    cases ea
  obtain ⟨H, eH⟩ : ∃ H, H = topH K T a { cls := .type "list", data := .seq vs.toArray } (ns.map V.int) := ⟨_, rfl⟩
  have tr : ∀ {b : Addr} {u : HO}, H b = some u → _ := fun {b u} h => topH_cases (by rw [eH] at h; exact h)
  have HT : H T = some (.tbl #[]) := by
    rw [eH]
    exact if_pos rfl
  have hS : SqL K H a (ns.map V.int) := by
    cases q : K.lookup a with
    | none => exact .inl (.inr ⟨_, by rw [eH]; exact (if_neg nz).trans (if_pos ⟨rfl, q⟩)⟩)
    | some o =>
      have e := KX a o q
      rw [ea] at e
      cases e
      exact .inr ⟨_, vs.toArray, _, q, rfl, rfl, rfl, by rw [List.size_toArray, hi.length]; exact hl, by simpa using rv⟩
  have ok : HOk P w H s.heap := fun b u h => by
    rcases tr h with ⟨rfl, rfl⟩ | ⟨_, rfl, _, rfl⟩
    · exact eT
    · exact ⟨ea, by rw [List.length_map]; exact hl, vs, _, rv, ea⟩
  have gone : ∀ {b : Addr} {o : Obj}, s.heap.get? b = some o → (∀ xs n, o.data ≠ .seq xs n) → o.data ≠ .fields #[] → H b = none := fun {b o} e d1 d2 => by
    cases h : H b with
    | none => rfl
    | some u =>
      rcases tr h with ⟨rfl, _⟩ | ⟨_, rfl, _, _⟩
      · rw [eT] at e
        cases e
        exact (d2 rfl).elim
      · rw [ea] at e
        cases e
        exact (d1 _ _ rfl).elim
  have toB : ∀ {b : Addr} {m : Str → Option Value}, s.heap.Ns b m → (hidT s.heap H).Ns b m := fun {b m} ⟨o, es, ep, e, d, r⟩ =>
    ⟨o, es, ep, hidT_get e (gone e (fun xs n z => by rw [d] at z; cases z) (fun z => by rw [d] at z; cases z)), d, r⟩
  have KB : K.In (hidT s.heap H) := fun b o e => hidT_get (KX b o e) (by
    cases h : H b with
    | none => rfl
    | some u =>
      rcases tr h with ⟨rfl, _⟩ | ⟨_, rfl, k, _⟩
      · rw [nT] at e; cases e
      · rw [k] at e; cases e)
  have TB : LamX.TabB (hidT s.heap H) mg c T := by
    refine ⟨?_, ?_, fun z => ?_⟩
    · obtain ⟨o, us, file, tf, flags, tg, inF, text, tt, e1, r1, r2, r3, r⟩ := C
      exact ⟨o, us, file, tf, flags, tg, inF, text, tt, hidT_get e1 (gone e1 (fun xs n z => by rw [r2] at z; cases z) (fun z => by rw [r2] at z; cases z; simp at r3)), r1, r2, r3, r⟩
    · obtain ⟨bm, ob, b1, b2, b3, b4, b5, b6⟩ := hbm
      refine ⟨bm, ob, b1, b2, fun z => ?_, fun z => ?_, hidT_get b3 (gone b3 (fun xs n z => by rw [b6] at z; cases z) (fun z => by rw [b6] at z; cases z)), b4, b5, b6⟩
      · obtain ⟨o, es, ep, e, d, _⟩ := G
        rw [z, e] at b3
        cases b3
        rw [d] at b6
        cases b6
      · rw [z, eT] at b3
        cases b3
        cases b6
    · obtain ⟨o, es, ep, e, d, _⟩ := G
      rw [z, eT] at e
      cases e
      cases d
  have e0 : Env0 P w K mg (hidT s.heap H) callerA [] s H :=
    ⟨rfl, ⟨KB, toB G, ⟨mb, toB B, hB⟩, let ⟨mc, h1, h2⟩ := lim; ⟨mc, toB h1, h2⟩⟩, fun b o e => of_hidT e, Nat.le_of_eq (hidT_size _ _), trivial, fun b hb => absurd (show b ∈ ([] : List Addr) from hb) (by simp), ok, .of_eq ng⟩
  refine codeAny_mono (R _ KB (toB G) TB s H a _ _ e0 (hsp H HT hS)) fun r s' h => ?_
  match r, h with
  | .error e, h => exact (no H e s' h).elim
  | .ok .next, h => exact False.elim h
  | .ok .brk, h => exact False.elim h
  | .ok .cont, h => exact False.elim h
  | .ok (.ret u), ⟨v, H', os, bare, un, ok', r', q⟩ =>
    obtain rfl : v = .bl true := q
    obtain rfl : u = Value.bool true := r'
    obtain ⟨more, hm⟩ : ∃ more : Array Value, s'.heap.get? T = some { cls := .none, data := .fields more } := by
      obtain ⟨more, z⟩ := un.tbls T #[] HT
      exact ⟨_, ok' T _ z⟩
    have old : ∀ b o, b ≠ T → s.heap.get? b = some o → s'.heap.get? b = some o := fun b o ne e => by
      cases h : H b with
      | none => exact un.keep b o e h (fun z => absurd (show b ∈ ([] : List Addr) from z) (by simp)) (by simp)
      | some u =>
        rcases tr h with ⟨z, _⟩ | ⟨_, rfl, _, rfl⟩
        · exact absurd z ne
        · obtain ⟨e2, _⟩ := ok' b _ (un.frzs b _ _ h)
          rw [ea] at e
          cases e
          exact e2
    refine ⟨rfl, ⟨fun b o e => ?_, fun b o e => ?_⟩, os, bare⟩
    · by_cases hb : b = T
      · subst hb
        rw [eT] at e
        cases e
        exact .inr (.inl ⟨(C.tab eT).isCodeTable, rfl, #[], more, rfl, by rw [Array.empty_append]; exact hm⟩)
      · exact .inl (old b o hb e)
    · by_cases hb : b = T
      · rw [hb]
        exact ⟨_, hm⟩
      · exact ⟨o, old b o hb e⟩
end

/-- what the law's end asks: the table T of the code object c, and the promise sp -/
def LawG (l : PySem.W.OpenLaw) (w : World) (K : PySem.W.Frag) (CX : CXT) (n : Nat) (mg : Str → Option Value) (fa : Addr) (h : Heap) : Prop :=
  ∃ (c T : Addr) (sp : Sp), h.get? T = some { cls := .none, data := .fields #[] } ∧ K.lookup T = none ∧ PySem.W.CodeHd h c T ∧
    (∀ (H : Hp) (a : Addr) (ns : List Int), ns.length ≤ n → H T = some (.tbl #[]) → SqL K H a (ns.map V.int) → sp [.ref a] H (fun v _ => v = .bl true) fun _ _ _ => False) ∧
    ∀ base : Heap, K.In base → base.Ns mainGlobals mg → LamX.TabB base mg c T → RunG l.prog w K mg base CX fa sp
theorem walk_ofG {l : PySem.W.OpenLaw} {n : Nat} {q : Program} {loose : List Str} {XP : (Str → Option Value) → Heap → Prop} {YP : World → Heap → Prop} {d : DefRec} {K : Params → PySem.W.Frag} {CX : World → CXT} (names : List Str)
    (hn : l.most = some n) (hn2 : n ≤ sizeLine) (hdf : d.params.defaults = []) (hrec : names.all (fun y => (recsOf q).any fun e => e.name == y) = true) (hY : ∀ (w : World) (h : Heap), YP w h → (K w.params).In h)
    (F : ∀ (w : World) (mg : Str → Option Value) (fa : Addr) (h : Heap), YP w h → (K w.params).In h → h.Ns mainGlobals mg → mg d.name = some (.ref fa) → (∀ y ∈ names, ∀ f, mg y = some (.ref f) → LamX.OwnTab (K w.params) f h) → LawG l w (K w.params) (CX w) n mg fa h)
    (no : ∀ (w : World) (H : Hp) (s : Shared) (e : Value) (s' : Shared), CX w [] H s (fun _ _ _ => False) e s' → False) :
    PySem.W.WalkO q loose XP YP l.row.toRowW d [] (fun f vs => PySem.call f vs) := by
  refine Att.attach_callB hn hdf fun w s₀ s₁ mg mb fa o pm cd doc a vs ns G Y ho hd hcd hmg hobj hints hlen hbits hg => ?_
  have KX := hY w _ Y
  obtain ⟨c, T, sp, eT, nT, C, hsp, R⟩ := F w mg fa _ Y KX G.T.g hmg (fun y hy f hf c P o1 fd1 e dd vs1 sl k1 k2 k3 k4 k5 => by
    obtain ⟨dL, hm, hn1⟩ := List.any_eq_true.mp (List.all_eq_true.mp hrec y hy)
    obtain ⟨a', o', fd', c', P', h1, h2, h3, h4, h5, h6⟩ := G.T.tab dL hm
    rw [beq_iff_eq.mp hn1, hf] at h1
    cases h1
    have g1 := KX _ _ k1
    rw [g1] at h2
    cases h2
    rw [k2] at h3
    cases h3
    rw [k3] at h4
    cases h4
    obtain ⟨⟨oc, vc, e1, _, e3, e4⟩, hP⟩ := h6
    have g2 := KX _ _ k4
    rw [g2] at e1
    cases e1
    cases e3
    rw [k5] at e4
    cases e4
    exact hP)
  exact top_call KX G.T.g G.T.b G.T.builtins G.T.nolimit hg eT nT C G.T.bmain hobj hints (Nat.le_trans hlen hn2) R (fun H hH hS => hsp H a ns hlen hH hS) fun H e s' => no w H s₁ e s'
end MyR

set_option Elab.async false
set_option linter.all false
set_option maxRecDepth 100000
set_option maxHeartbeats 4000000
namespace W
open PySem PySem.Spec PyProof.Rows L2 GxR MyG MyR
abbrev sLaw : Stmt := top 26
def rowD (e : Str × Int) : PyData := .tuple [.str e.1, .int e.2]
theorem dp_rows {K : PySem.W.Frag} {H : Hp} : ∀ {ls : List (Str × Int)} {ys : List V}, Paired (RowAt H) ls ys → DpAll K H ys (ls.map rowD)
  | _, _, .nil => .nil
  | _, _, .cons ⟨p, e, q⟩ r => by
    rw [e]
    exact .cons (.tup (SqT.of q) (.cons (.str _) (.cons (.int _) .nil))) (dp_rows r)
theorem lay_rows : ∀ {ls : List (Str × Int)}, (∀ e ∈ ls, PyData.strOk e.1 = true) → PyData.canLayAll0 (ls.map rowD) = true ∧ PyData.depthAll (ls.map rowD) ≤ 2
  | [], _ => by simp [PyData.canLayAll0, PyData.depthAll]
  | s :: ls, h => by
    obtain ⟨i1, i2⟩ := lay_rows (ls := ls) fun x hx => h x (List.mem_cons_of_mem _ hx)
    have a1 := h s List.mem_cons_self
    refine ⟨?_, ?_⟩
    · simp only [List.map_cons, rowD, PyData.canLayAll0, PyData.canLay0, a1, i1, Bool.and_self]
    · have e : rowD s = .tuple [.str s.1, .int s.2] := rfl
      rw [List.map_cons, e]
      simp only [PyData.depthAll, PyData.depth]
      omega
theorem shaped_rows {ls : List (Str × Int)} (h : ∀ e ∈ ls, PyData.strOk e.1 = true) : SeqAt.shaped (PyData.list (ls.map rowD)) = true := by
  obtain ⟨i1, i4⟩ := lay_rows h
  unfold SeqAt.shaped
  rw [Bool.and_eq_true]
  refine ⟨by simpa [PyData.canLay0] using i1, decide_eq_true ?_⟩
  simp only [PyData.depth]
  omega
theorem shaped_tup {ls : List Str} (h : ∀ s ∈ ls, PyData.strOk s = true) : SeqAt.shaped (PyData.tuple (ls.map .str)) = true := by
  obtain ⟨i1, i4⟩ := lay_strs h
  unfold SeqAt.shaped
  rw [Bool.and_eq_true]
  refine ⟨by simpa [PyData.canLay0] using i1, decide_eq_true ?_⟩
  simp only [PyData.depth]
  omega
theorem eqv_same {d : PyData} (h : SeqAt.shaped d = true) : PyData.eqv d d = true := by
  unfold SeqAt.shaped at h
  rw [Bool.and_eq_true] at h
  exact SeqAt.eqv_refl _ h.1
theorem text_none : textP none [] = Str.ofString "none" := by decide +kernel
def spLaw (K : PySem.W.Frag) (P Pn : Addr) : Sp := fun vs H Q _ => ∃ (a : Addr) (ns : List Int), vs = [.ref a] ∧ SqL K H a (ns.map V.int) ∧ ns.length ≤ 63 ∧ TabG H P ∧ TabG H Pn ∧ ∀ H', Q (.bl true) H'
theorem ToldAt.grew {P : Addr} {H H' : Hp} {Pa y : Addr} {ro : Option (List Str)} {ao : Option Int} {ls : List (Str × Int)} (g : Grew P H H') (hP : TabG H P) (h : ToldAt H Pa y ro ao ls) : ToldAt H' Pa y ro ao ls := by
  obtain ⟨dx, fs, L, ys, rv, hy, hf1, hf2, hf3, hL, hrows, hrv⟩ := h
  refine ⟨dx, fs, L, ys, rv, g.get hP hy (fun _ z => by cases z), hf1, hf2, hf3, g.lst hP hL, Paired.map' hrows fun _ _ m => m.grew g hP, ?_⟩
  rcases hrv with h | ⟨q, rl, a, b, c⟩
  · exact .inl h
  · exact .inr ⟨q, rl, a, b, g.tup hP c⟩
/-- what goes on standing -/
structure LSt (P Pa : Addr) (H H' : Hp) (rv av : V) (L x : Addr) (ro : Option (List Str × Nat)) (ls : List (Str × Nat)) : Prop where
  g : Grew P H H'
  gr : GivR H' rv av ro
  gl : GivL H' L ls
  told : ToldAt H' Pa x (ro.map (·.1)) (ro.map fun p => (p.2 : Int)) (ls.map numI)
theorem LSt.on {P Pa : Addr} {H H1 H2 : Hp} {rv av : V} {L x : Addr} {ro : Option (List Str × Nat)} {ls : List (Str × Nat)} (s : LSt P Pa H H1 rv av L x ro ls) (g : Grew P H1 H2) : LSt P Pa H H2 rv av L x ro ls := ⟨s.g.trans g, s.gr.grew g s.g.tab, s.gl.grew g s.g.tab, s.told.grew g s.g.tab⟩
/-- due -/
def DueAt (H : Hp) (dv : V) (ro : Option (List Str × Nat)) : Prop := (ro = none ∧ dv = .non) ∨ ∃ p T, ro = some p ∧ dv = .ref T ∧ H T = some (.tup (p.1.map V.str))
section
variable {Pg : Program} {w : World} {K : PySem.W.Frag} {mg : Str → Option Value} {base : Heap} {C P Pn : Addr}
abbrev nLaw : List Str := ["script", "numbers", "roads", "arrival", "lows", "text", "told", "actual", "read", "due", "small"]
theorem scLaw : FnScope nLaw ["script"] (defScope sLaw) := ⟨rfl, rfl, rfl, by decide +kernel, rfl, by decide +kernel, by decide +kernel⟩
theorem room6 {q : Str} {sc : Scope} {n : Nat} {f : Addr} {cd : Value} : Room 6 (callerA.deeper (envOfC q sc n f cd)) := ⟨rfl, by show 1 + claimMargin + 1 + 3 * 6 + 5 < _; decide, by show 4 + 3 + 16 * 6 + 200 < _; decide⟩
theorem ok_law {f fNu fLp fLt fPt fPa fI Pa : Addr} {fdNu fdLp fdLt fdPt fdPa fdI : FuncData} {dV kV doc pm cdv ct oc : Value} {an od : Option Addr} {osl : Array (Option Value)}
    (lk : K.lookup f = some ⟨oc, od, .func (PySem.W.fnOf "law" "law" (defArgs sLaw) (defBody sLaw) (defScope sLaw) dV kV doc pm an cdv ct), osl⟩) (hcd : PySem.W.codeIn K cdv "law" = true)
    (hb : ∀ (s : Shared) (u : Value), BindsTo s (PySem.W.fnOf "law" "law" (defArgs sLaw) (defBody sLaw) (defScope sLaw) dV kV doc pm an cdv ct) ⟨[u], []⟩ [("script", u)])
    (his : mg "isinstance" = none) (h_str : mg "str" = none) (h_bool : mg "bool" = none) (h_list : mg "list" = none) (h_tup : mg "tuple" = none)
    (TA : TxtA K Pa) (c1 : PySem.W.findIn K (.ref Pa) "__class__" = some (some (.builtin "object.__class__"))) (c2 : PySem.W.specialIn K (.builtin "object.__class__") "__get__" = some (some (.builtin "getset_descriptor.__get__"))) (c3 : PySem.W.takesIn K (.builtin "object.__class__") = some true)
    (c4 : PySem.W.mroIn K Pa (.type "object") = some true) (c5 : PySem.W.kitOne K (.ref Pa) (.ref Pa) = some true)
    (GNu : FnOk Pg w K mg base CX0 2 fNu fdNu ["script", "many"] (spNumbers K P)) (gNu : mg "_law_numbers" = some (.ref fNu)) (kNu : PySem.W.keepIn K (.ref fNu) = true) (bNu : Binds K fdNu ["script", "many"] [])
    (GLp : FnOk Pg w K mg base CX0 2 fLp fdLp ["numbers"] (spLPaper K P)) (gLp : mg "_law_paper" = some (.ref fLp)) (kLp : PySem.W.keepIn K (.ref fLp) = true) (bLp : Binds K fdLp ["numbers"] [])
    (GLt : FnOk Pg w K mg base CX0 1 fLt fdLt ["roads", "arrival", "lows"] (spLText K P)) (gLt : mg "_law_text" = some (.ref fLt)) (kLt : PySem.W.keepIn K (.ref fLt) = true) (bLt : Binds K fdLt ["roads", "arrival", "lows"] [])
    (GPt : FnOk Pg w K mg base CX0 1 fPt fdPt ["told"] (spPText Pa P)) (gPt : mg "paper_text" = some (.ref fPt)) (kPt : PySem.W.keepIn K (.ref fPt) = true) (bPt : Binds K fdPt ["told"] [])
    (GPa : FnOk Pg w K mg base CX0 5 fPa fdPa ["text"] (spParse Pa P Pn)) (gPa : mg "parse_paper" = some (.ref fPa)) (kPa : PySem.W.keepIn K (.ref fPa) = true) (bPa : Binds K fdPa ["text"] [])
    (Mk : L2.Mk K Pa fI) (GI : FnOk Pg w K mg base CX0 1 fI fdI ["self", "roads", "arrival", "lows"] (spPaInit2 K Pa P)) (gP : mg "Paper" = some (.ref Pa)) (bI : Binds K fdI ["self", "roads", "arrival", "lows"] []) :
    RunG Pg w K mg base (L2.CX Pg w) f (spLaw K P Pn) := by
  refine runG_of lk hcd scLaw hb ⟨rfl, by decide, by decide⟩ fun s H a Q E h => ?_
  obtain ⟨a1, zs, ea, hS, hz, hP, hPn, k⟩ := h
  cases ea
  have hr : Room 6 (callerA.deeper (envOfC "law" (defScope sLaw) s.heap.objs.size f cdv)) := room6
  refine ⟨_, pss_cons (ps_set (i := 1) scLaw.nd rfl (Or.inl rfl) (pe_call GNu (hr.mono (by decide)) (by rfl) gNu kNu bNu .nil pass0 (pa_cons (pv 0) (pa_cons pe_int pa_nil))))
    (pss_cons (ps_asg (pe_call GLp (hr.mono (by decide)) (by rfl) gLp kLp bLp .nil pass0 (pa_cons (pv 1) pa_nil)) (pg_tup rfl (pgs_cons (pg_name (i := 2) scLaw.nd rfl (.inl rfl)) (pgs_cons (pg_name (i := 3) scLaw.nd rfl (.inl rfl)) (pgs_cons (pg_name (i := 4) scLaw.nd rfl (.inl rfl)) pgs_nil)))))
    (pss_cons (ps_set (i := 5) scLaw.nd rfl (Or.inl rfl) (pe_call GLt (hr.mono (by decide)) (by rfl) gLt kLt bLt .nil pass0 (pa_cons (pv 2) (pa_cons (pv 3) (pa_cons (pv 4) pa_nil)))))
    (C8.pss_cut (ps_set (i := 6) scLaw.nd rfl (Or.inl rfl) (pe_make Mk GI (hr.mono (by decide)) (by rfl) gP bI .nil pass0 (pa_cons (pv 2) (pa_cons (pv 3) (pa_cons (pv 4) pa_nil)))))
    (pss_cons (ps_set (i := 7) scLaw.nd rfl (Or.inl rfl) (pe_call GPt (hr.mono (by decide)) (by rfl) gPt kPt bPt .nil pass0 (pa_cons (pv 6) pa_nil)))
    (C8.pss_cut (ps_if (PW.pt (pw_or (pt_not (pt_val (pe_callB call_isi (by rfl) his (by decide +kernel) (pa_cons (pv 7) (pa_cons (pe_bltn (v := .ty "str") (by rfl) h_str (by decide +kernel) rfl) pa_nil))))) (pw_or1 (pt_cmpR op_ne (pv 7) (pv 5) (nomark _))))) (pss_one (ps_ret pe_bl)) pss_nil)
    (pss_cons (ps_set (i := 8) scLaw.nd rfl (Or.inl rfl) (pe_call GPa (hr.mono (by decide)) (by rfl) gPa kPa bPa .nil pass0 (pa_cons (pv 5) pa_nil)))
    (pss_cons (ps_set (i := 9) scLaw.nd rfl (Or.inl rfl) pe_non)
    (C8.pss_cut (ps_if (pt_cmp (pc_notN (pv 2))) (pss_one (ps_set (i := 9) scLaw.nd rfl (Or.inl rfl) (pe_callTy (T := "tuple") (r := rTupOf K) call_tuple_of (by rfl) h_tup (by decide +kernel) (pa_cons (pv 2) pa_nil)))) pss_nil)
    (C8.pss_cut (ps_if (PW.pt (pw_or (pt_cmpR (r := rNeD K) (op_neD hr.units) (pe_fld (pv 8) rfl) (pv 9) (nomark _)) (pw_or (pt_cmpR (r := rNeD K) (op_neD hr.units) (pe_fld (pv 8) rfl) (pv 3) (nomark _))
        (pw_or (pt_val (pe_callB call_isi (by rfl) his (by decide +kernel) (pa_cons (pe_fld (pv 8) rfl) (pa_cons (pe_bltn (v := .ty "bool") (by rfl) h_bool (by decide +kernel) rfl) pa_nil))))
        (pw_or1 (pt_cmpR (r := rNeD K) (op_neD hr.units) (pe_callTy call_list_of (by rfl) h_list (by decide +kernel) (pa_cons (pe_fld (pv 8) rfl) pa_nil)) (pv 4) (nomark _))))))) (pss_one (ps_ret pe_bl)) pss_nil)
    (pss_cons (ps_set (i := 10) scLaw.nd rfl (Or.inl rfl) (pe_call GPa (hr.mono (by decide)) (by rfl) gPa kPa bPa .nil pass0 (pa_cons pe_str pa_nil)))
    (C8.pss_cut (ps_if (PW.pt (pw_or (pt_cmp (pc_notN (pe_fld (pv 10) rfl))) (pw_or (pt_cmp (pc_notN (pe_fld (pv 10) rfl)))
        (pw_or1 (pt_cmpR (r := rNeD K) (op_neD hr.units) (pe_callTy call_list_of (by rfl) h_list (by decide +kernel) (pa_cons (pe_fld (pv 10) rfl) pa_nil)) (pe_lst pa_nil) (nomark _)))))) (pss_one (ps_ret pe_bl)) pss_nil)
    (pss_one (ps_ret (pe_and (pe_callB call_isi (by rfl) his (by decide +kernel) (pa_cons (pv 8) (pa_cons (pe_glob (v := .ref Pa) (by rfl) gP rfl) pa_nil)))
        (pe_and (pe_cmpR op_eq (pe_call GPt (hr.mono (by decide)) (by rfl) gPt kPt bPt .nil pass0 (pa_cons (pv 8) pa_nil)) (pv 5) (nomark _))
        (pe_one (pe_cmpR op_eq (pe_call GPt (hr.mono (by decide)) (by rfl) gPt kPt bPt .nil pass0 (pa_cons (pv 6) pa_nil)) (pv 5) (nomark _)))))))))))))))))), ?_⟩
  refine ⟨_, rfl, a, zs, 50, rfl, hS, hz, by decide, hP, fun H1 N ns g1 nN hN hlen hsm => ?_⟩
  refine ⟨_, rfl, N, ns, rfl, SqL.of hN, hsm, hlen, g1.tab, fun H2 t L rv av ro ls g2 ht hok hgr hgl => ?_⟩
  refine ⟨t, _, rfl, SqT.of ht, rfl, _, _, rfl, _, _, rfl, _, _, rfl, rfl, ?_⟩
  have g02 := g1.trans g2
  refine ⟨_, rfl, _, rfl, _, rfl, rv, av, L, ro, ls, rfl, hgr, hgl, hok, g2.tab, fun H3 g3 => ?_⟩
  have g03 := g02.trans g3
  have hgr3 := hgr.grew g3 g2.tab
  have hgl3 := hgl.grew g3 g2.tab
  have e_lows : ∀ e ∈ ls.map numI, PyData.strOk e.1 = true := fun e he => by
    obtain ⟨e', he', rfl⟩ := List.mem_map.mp he
    exact good_ok (nm_plain (hok.ln e' he').1)
  have lls : (ls.map numI).length ≤ 1000 := by rw [List.length_map]; have := hok.ll; omega
  refine ⟨fun σ H' => ∃ x, σ = [some (.ref a), some (.ref N), some rv, some av, some (.ref L), some (.str (textP ro ls)), some (.ref x), none, none, none, none] ∧ LSt P Pa H H' rv av L x ro ls, ?_, ?_⟩
  · refine ⟨_, rfl, _, rfl, _, rfl, ?_⟩
    intro z dx nz ndx nex
    have gx : Grew P H3 (L2.upd (L2.upd H3 dx (.own z)) z (.ins Pa dx [])) := (Grew.new g03.tab ndx).put (by rw [upd_ne nex.symm]; exact nz)
    obtain ⟨ys, hL, hys⟩ := hgl3
    have many : Paired (RowAny H3) (ls.map numI) ys := Paired.map' hys fun _ _ ⟨q, e1, e2⟩ => ⟨q, e1, .inl e2⟩
    have fin : ∀ H4, Grew P H3 H4 → ToldAt H4 Pa z (ro.map (·.1)) (ro.map fun p => (p.2 : Int)) (ls.map numI) → LSt P Pa H H4 rv av L z ro ls := fun H4 g4 ht => ⟨g03.trans g4, hgr3.grew g4 g03.tab, GivL.grew g4 g03.tab ⟨ys, hL, hys⟩, ht⟩
    rcases hgr3 with ⟨rfl, rfl, rfl⟩ | ⟨p, q, rfl, rfl, rfl, hq⟩
    · exact ⟨z, dx, L, .non, none, none, ys, ls.map numI, H3, rfl, gx, g03.tab, nz, upd_same, .inl ⟨rfl, rfl⟩, hL, many, lls, fun H4 g4 ht => ⟨rfl, z, rfl, fin H4 g4 ht⟩⟩
    · exact ⟨z, dx, L, .ref q, some p.1, some (p.2 : Int), ys, ls.map numI, H3, rfl, gx, g03.tab, nz, upd_same, .inr ⟨q, p.1, rfl, rfl, .inr hq⟩, hL, many, lls, fun H4 g4 ht => ⟨rfl, z, rfl, fin H4 g4 ht⟩⟩
  rintro σ H4 ⟨x, rfl, s4⟩
  refine ⟨_, rfl, x, ro, ls, rfl, s4.told, hok, s4.g.tab, fun H5 g5 => ?_⟩
  have s5 := s4.on g5
  refine ⟨fun σ H' => σ = [some (.ref a), some (.ref N), some rv, some av, some (.ref L), some (.str (textP ro ls)), some (.ref x), some (.str (textP ro ls)), none, none, none] ∧ LSt P Pa H H' rv av L x ro ls, ?_, ?_⟩
  · refine ⟨_, rfl, _, _, _, _, true, rfl, .ty "str", .base (.str _), rfl, _, rfl, ?_⟩
    refine iteF ⟨_, rfl, _, rfl, rfl, _, rfl, ?_⟩
    refine if_f ?_ ⟨rfl, s5⟩
    rw [decide_eq_true rfl]
    rfl
  rintro σ H6 ⟨rfl, s6⟩
  refine ⟨_, rfl, ro, ls, rfl, hok, s6.g.tab, s6.g.tabs _ hPn, fun H7 y g7 ht7 => ?_⟩
  have s7 := s6.on g7
  refine ⟨fun σ H' => ∃ dv, σ = [some (.ref a), some (.ref N), some rv, some av, some (.ref L), some (.str (textP ro ls)), some (.ref x), some (.str (textP ro ls)), some (.ref y), some dv, none] ∧ LSt P Pa H H' rv av L x ro ls ∧ ToldAt H' Pa y (ro.map (·.1)) (ro.map fun p => (p.2 : Int)) (ls.map numI) ∧ DueAt H' dv ro, ?_, ?_⟩
  · refine ⟨_, rfl, _, rfl, ?_⟩
    rcases id s7.gr with ⟨rfl, rfl, rfl⟩ | ⟨p, q, rfl, rfl, rfl, hq⟩
    · exact if_f rfl ⟨.non, rfl, s7, ht7, .inl ⟨rfl, rfl⟩⟩
    · refine if_t rfl ⟨_, rfl, q, _, rfl, .inl ⟨SqL.of hq, fun T nT => ?_⟩⟩
      have gT := Grew.new s7.g.tab (o := .tup (p.1.map V.str)) nT
      exact ⟨.ref T, rfl, s7.on gT, ht7.grew gT s7.g.tab, .inr ⟨p, T, rfl, rfl, upd_same⟩⟩
  rintro σ H8 ⟨dv, rfl, s8, ht8, hdv⟩
  refine ⟨fun σ H' => σ = [some (.ref a), some (.ref N), some rv, some av, some (.ref L), some (.str (textP ro ls)), some (.ref x), some (.str (textP ro ls)), some (.ref y), some dv, none] ∧ LSt P Pa H H' rv av L x ro ls ∧ ToldAt H' Pa y (ro.map (·.1)) (ro.map fun p => (p.2 : Int)) (ls.map numI), ?_, ?_⟩
  · obtain ⟨dx, fs, L2', ys2, rv2, hy, hf1, hf2, hf3, hL2, hrows2, hrv2⟩ := id ht8
    obtain ⟨ys1, hL1, hrows1⟩ := s8.gl
    obtain ⟨D, A1, A2, sD⟩ : ∃ D, Dp K H8 rv2 D ∧ Dp K H8 dv D ∧ SeqAt.shaped D = true := by
      cases ro with
      | none =>
        rcases hrv2 with ⟨_, rfl⟩ | ⟨q, rl, e, _, _⟩
        · rcases hdv with ⟨_, rfl⟩ | ⟨p, T, e, _, _⟩
          · exact ⟨.none, .non, .non, rfl⟩
          · cases e
        · cases e
      | some p =>
        obtain ⟨h1, _, _⟩ := hok.rn p rfl
        rcases hrv2 with ⟨e, _⟩ | ⟨q, rl, e, rfl, hq⟩
        · cases e
        · obtain rfl := Option.some.inj e
          rcases hdv with ⟨e, _⟩ | ⟨p', T, e2, rfl, hT⟩
          · cases e
          · obtain rfl := Option.some.inj e2
            exact ⟨.tuple (p.1.map .str), .tup (SqT.of hq) (dpAll_strs _), .tup (SqT.of hT) (dpAll_strs _), shaped_tup fun z hz => good_ok (nm_plain (h1 z hz))⟩
    obtain ⟨D2, B1, B2, sB, ty, hty, hkit⟩ : ∃ D2, Dp K H8 (optV (ro.map fun p => (p.2 : Int))) D2 ∧ Dp K H8 av D2 ∧ SeqAt.shaped D2 = true ∧ ∃ t, TyX K H8 (optV (ro.map fun p => (p.2 : Int))) t ∧ PySem.W.kitOne K t (.type "bool") = some false := by
      rcases s8.gr with ⟨rfl, _, rfl⟩ | ⟨p, q, rfl, _, rfl, _⟩
      · exact ⟨.none, .non, .non, rfl, _, .base .non, rfl⟩
      · exact ⟨.int (p.2 : Int), .int _, .int _, rfl, _, .base (.int _), rfl⟩
    refine ⟨_, rfl, y, Pa, dx, fs, rv2, rfl, hy, TA.cl, TA.n0, hf1, _, rfl, D, D, A1, A2, sD, sD, _, rfl, ?_⟩
    rw [eqv_same sD]
    refine iteF ⟨_, rfl, y, Pa, dx, fs, _, rfl, hy, TA.cl, TA.n1, hf2, _, rfl, D2, D2, B1, B2, sB, sB, _, rfl, ?_⟩
    rw [eqv_same sB]
    refine iteF ⟨_, rfl, y, Pa, dx, fs, _, rfl, hy, TA.cl, TA.n1, hf2, _, _, _, _, false, rfl, .ty "bool", hty, hkit, _, rfl, ?_⟩
    refine iteF ⟨_, rfl, y, Pa, dx, fs, .ref L2', rfl, hy, TA.cl, TA.n2, hf3, L2', _, rfl, .inl (SqL.of hL2), fun M nM => ?_⟩
    have gM := Grew.new s8.g.tab (o := .lst ys2) nM
    have hM : (L2.upd H8 M (.lst ys2)) M = some (.lst ys2) := upd_same
    have hL1M := gM.lst s8.g.tab hL1
    have r2 : Paired (RowAt (L2.upd H8 M (.lst ys2))) (ls.map numI) ys2 := Paired.map' hrows2 fun _ _ m => m.grew gM s8.g.tab
    have r1 : Paired (RowAt (L2.upd H8 M (.lst ys2))) (ls.map numI) ys1 := Paired.map' hrows1 fun _ _ m => m.grew gM s8.g.tab
    have s8' := s8.on gM
    have ht8' := ht8.grew gM s8.g.tab
    refine ⟨_, rfl, _, _, .lst (SqL.of hM) (dp_rows r2), .lst (SqL.of hL1M) (dp_rows r1), shaped_rows e_lows, shaped_rows e_lows, _, rfl, ?_⟩
    rw [eqv_same (shaped_rows e_lows)]
    exact iteF ⟨rfl, s8', ht8'⟩
  rintro σ H9 ⟨rfl, s9, ht9⟩
  refine ⟨none, [], (by rw [text_none]; rfl), ⟨fun p hp => (by cases hp), fun e he => (by cases he), Nat.zero_le _⟩, s9.g.tab, s9.g.tabs _ hPn, fun H10 m g10 hm10 => ?_⟩
  have s10 := s9.on g10
  have ht10 := ht9.grew g10 s9.g.tab
  refine ⟨fun σ H' => σ = [some (.ref a), some (.ref N), some rv, some av, some (.ref L), some (.str (textP ro ls)), some (.ref x), some (.str (textP ro ls)), some (.ref y), some dv, some (.ref m)] ∧ LSt P Pa H H' rv av L x ro ls ∧ ToldAt H' Pa y (ro.map (·.1)) (ro.map fun p => (p.2 : Int)) (ls.map numI), ?_, ?_⟩
  · obtain ⟨dx, fs, Lm, ysm, rvm, hy, hf1, hf2, hf3, hLm, hrows, hrv⟩ := hm10
    obtain rfl : rvm = .non := by
      rcases hrv with ⟨_, h⟩ | ⟨q, rl, e, _, _⟩
      · exact h
      · cases e
    obtain rfl : ysm = [] := by
      cases hrows
      rfl
    refine ⟨_, rfl, m, Pa, dx, fs, .non, rfl, hy, TA.cl, TA.n0, hf1, _, rfl, ?_⟩
    refine if_f rfl ⟨_, rfl, m, Pa, dx, fs, .non, rfl, hy, TA.cl, TA.n1, hf2, _, rfl, ?_⟩
    refine if_f rfl ⟨_, rfl, m, Pa, dx, fs, .ref Lm, rfl, hy, TA.cl, TA.n2, hf3, Lm, _, rfl, .inl (SqL.of hLm), fun M nM => ⟨Nat.zero_le _, fun E2 nE => ?_⟩⟩
    have gM := Grew.new s10.g.tab (o := .lst []) nM
    have gE := Grew.new gM.tab (o := .lst []) nE
    have hM : (L2.upd H10 M (.lst [])) M = some (.lst []) := upd_same
    have hM2 := gE.lst gM.tab hM
    refine ⟨_, _, .lst (SqL.of hM2) .nil, .lst (SqL.of upd_same) .nil, rfl, rfl, _, rfl, ?_⟩
    have gg := gM.trans gE
    exact iteF ⟨rfl, s10.on gg, ht10.grew gg s10.g.tab⟩
  rintro σ H11 ⟨rfl, s11, ht11⟩
  obtain ⟨dx, fs, L3, ys3, rv3, hy, _⟩ := id ht11
  refine ⟨_, rfl, _, _, _, _, true, rfl, .own Pa, .base (.ins hy TA.cl c1 c2 c3 c4), c5, _, rfl, ?_⟩
  refine iteT ⟨_, rfl, y, ro, ls, rfl, ht11, hok, s11.g.tab, fun H12 g12 => ⟨_, rfl, rfl, _, rfl, ?_⟩⟩
  have s12 := s11.on g12
  refine if_t (decide_eq_true rfl) ⟨_, rfl, x, ro, ls, rfl, s12.told, hok, s12.g.tab, fun H13 g13 => ⟨_, rfl, rfl, ?_⟩⟩
  rw [decide_eq_true rfl]
  exact k H13
end
end W

set_option Elab.async false
set_option linter.all false
set_option maxRecDepth 100000
set_option maxHeartbeats 2000000
namespace MyR
open PySem PySem.Spec PyProof.Rows L2
/-! ### the law's own call, where several defs hold a generator expression -/
section
variable {P : Program} {w : World} {K : PySem.W.Frag} {mg : Str → Option Value} {base : Heap}
def topL (K : PySem.W.Frag) (cs : List (Addr × Addr)) (a : Addr) (o : Obj) (xs : List V) : Hp := fun b => if b ∈ cs.map (·.2) then some (.tbl #[]) else if b = a ∧ K.lookup a = none then some (.frz o (.lst xs)) else none
theorem topL_cases {cs : List (Addr × Addr)} {a b : Addr} {o : Obj} {xs : List V} {u : HO} (h : topL K cs a o xs b = some u) : (b ∈ cs.map (·.2) ∧ u = .tbl #[]) ∨ (b ∉ cs.map (·.2) ∧ b = a ∧ K.lookup a = none ∧ u = .frz o (.lst xs)) := by
  unfold topL at h
  by_cases h1 : b ∈ cs.map (·.2)
  · rw [if_pos h1] at h
    exact .inl ⟨h1, (Option.some.inj h).symm⟩
  · rw [if_neg h1] at h
    by_cases h2 : b = a ∧ K.lookup a = none
    · rw [if_pos h2] at h
      exact .inr ⟨h1, h2.1, h2.2, (Option.some.inj h).symm⟩
    · rw [if_neg h2] at h
      cases h
theorem top_callL {mb : Str → Option Value} {CX : CXT} {f a : Addr} {cs : List (Addr × Addr)} {sp : Sp} {s : Shared} {vs : List Value} {ns : List Int} (KX : K.In s.heap) (G : s.heap.Ns mainGlobals mg) (B : s.heap.Ns builtinsNs mb) (hB : ∀ x : Str, x ≠ "__name__" → mb x = bootBuiltins x) (lim : s.heap.NoLimit) (ng : s.gens = #[])
    (hcs : ∀ p ∈ cs, s.heap.get? p.2 = some { cls := .none, data := .fields #[] } ∧ K.lookup p.2 = none ∧ PySem.W.CodeHd s.heap p.1 p.2)
    (hbm : ∃ (bm : Addr) (ob : Obj), mg "__builtins__" = some (.ref bm) ∧ bm ≠ builtinsNs ∧ s.heap.get? bm = some ob ∧ ob.cls = .type "module" ∧ ob.dict = some builtinsNs ∧ ob.data = .plain)
    (ea : s.heap.get? a = some { cls := .type "list", data := .seq vs.toArray }) (hi : IntsAre vs ns) (hl : ns.length ≤ sizeLine)
    (R : ∀ base : Heap, K.In base → base.Ns mainGlobals mg → (∀ p ∈ cs, LamX.TabB base mg p.1 p.2) → RunG P w K mg base CX f sp)
    (hsp : ∀ H : Hp, (∀ p ∈ cs, H p.2 = some (.tbl #[])) → SqL K H a (ns.map V.int) → sp [.ref a] H (fun v _ => v = .bl true) fun _ _ _ => False)
    (no : ∀ H e s', CX [] H s (fun _ _ _ => False) e s' → False) :
    codeAny (model P w) callerA (.call (.ref f) ⟨[.ref a], []⟩) (fun r s' => r = .ok (.ret (.bool true)) ∧ OldK s.heap s'.heap ∧ s'.os = s.os ∧ AllBare s'.gens) s := by
  have rv := vals_ints hi
  have mem : ∀ {b : Addr}, b ∈ cs.map (·.2) → ∃ c, (c, b) ∈ cs := fun {b} h => by
    obtain ⟨⟨c, b'⟩, hp, e⟩ := List.mem_map.mp h
    have e' : b' = b := e
    exact ⟨c, e' ▸ hp⟩
  have eT : ∀ {b : Addr}, b ∈ cs.map (·.2) → s.heap.get? b = some { cls := .none, data := .fields #[] } := fun h => let ⟨c, hp⟩ := mem h; (hcs _ hp).1
  have nT : ∀ {b : Addr}, b ∈ cs.map (·.2) → K.lookup b = none := fun h => let ⟨c, hp⟩ := mem h; (hcs _ hp).2.1
  have nz : a ∉ cs.map (·.2) := fun z => by
    rw [eT z] at ea
    cases ea
  obtain ⟨H, eH⟩ : ∃ H, H = topL K cs a { cls := .type "list", data := .seq vs.toArray } (ns.map V.int) := ⟨_, rfl⟩
  have tr : ∀ {b : Addr} {u : HO}, H b = some u → _ := fun {b u} h => topL_cases (by rw [eH] at h; exact h)
  have HT : ∀ p ∈ cs, H p.2 = some (.tbl #[]) := fun p hp => by
    rw [eH]
    exact if_pos (List.mem_map.mpr ⟨p, hp, rfl⟩)
  have hS : SqL K H a (ns.map V.int) := by
    cases q : K.lookup a with
    | none => exact .inl (.inr ⟨_, by rw [eH]; exact (if_neg nz).trans (if_pos ⟨rfl, q⟩)⟩)
    | some o =>
      have e := KX a o q
      rw [ea] at e
      cases e
      exact .inr ⟨_, vs.toArray, _, q, rfl, rfl, rfl, by rw [List.size_toArray, hi.length]; exact hl, by simpa using rv⟩
  have ok : HOk P w H s.heap := fun b u h => by
    rcases tr h with ⟨hb, rfl⟩ | ⟨_, rfl, _, rfl⟩
    · exact eT hb
    · exact ⟨ea, by rw [List.length_map]; exact hl, vs, _, rv, ea⟩
  have gone : ∀ {b : Addr} {o : Obj}, s.heap.get? b = some o → (∀ xs n, o.data ≠ .seq xs n) → o.data ≠ .fields #[] → H b = none := fun {b o} e d1 d2 => by
    cases h : H b with
    | none => rfl
    | some u =>
      rcases tr h with ⟨hb, _⟩ | ⟨_, rfl, _, _⟩
      · rw [eT hb] at e
        cases e
        exact (d2 rfl).elim
      · rw [ea] at e
        cases e
        exact (d1 _ _ rfl).elim
  have toB : ∀ {b : Addr} {m : Str → Option Value}, s.heap.Ns b m → (hidT s.heap H).Ns b m := fun {b m} ⟨o, es, ep, e, d, r⟩ =>
    ⟨o, es, ep, hidT_get e (gone e (fun xs n z => by rw [d] at z; cases z) (fun z => by rw [d] at z; cases z)), d, r⟩
  have KB : K.In (hidT s.heap H) := fun b o e => hidT_get (KX b o e) (by
    cases h : H b with
    | none => rfl
    | some u =>
      rcases tr h with ⟨hb, _⟩ | ⟨_, rfl, k, _⟩
      · rw [nT hb] at e; cases e
      · rw [k] at e; cases e)
  have TB : ∀ p ∈ cs, LamX.TabB (hidT s.heap H) mg p.1 p.2 := fun p hp => by
    obtain ⟨eT, nT, C⟩ := hcs p hp
    refine ⟨?_, ?_, fun z => ?_⟩
    · obtain ⟨o, us, file, tf, flags, tg, inF, text, tt, e1, r1, r2, r3, r⟩ := C
      exact ⟨o, us, file, tf, flags, tg, inF, text, tt, hidT_get e1 (gone e1 (fun xs n z => by rw [r2] at z; cases z) (fun z => by rw [r2] at z; cases z; simp at r3)), r1, r2, r3, r⟩
    · obtain ⟨bm, ob, b1, b2, b3, b4, b5, b6⟩ := hbm
      refine ⟨bm, ob, b1, b2, fun z => ?_, fun z => ?_, hidT_get b3 (gone b3 (fun xs n z => by rw [b6] at z; cases z) (fun z => by rw [b6] at z; cases z)), b4, b5, b6⟩
      · obtain ⟨o, es, ep, e, d, _⟩ := G
        rw [z, e] at b3
        cases b3
        rw [d] at b6
        cases b6
      · rw [z, eT] at b3
        cases b3
        cases b6
    · obtain ⟨o, es, ep, e, d, _⟩ := G
      rw [z, eT] at e
      cases e
      cases d
  have e0 : Env0 P w K mg (hidT s.heap H) callerA [] s H :=
    ⟨rfl, ⟨KB, toB G, ⟨mb, toB B, hB⟩, let ⟨mc, h1, h2⟩ := lim; ⟨mc, toB h1, h2⟩⟩, fun b o e => of_hidT e, Nat.le_of_eq (hidT_size _ _), trivial, fun b hb => absurd (show b ∈ ([] : List Addr) from hb) (by simp), ok, .of_eq ng⟩
  refine codeAny_mono (R _ KB (toB G) TB s H a _ _ e0 (hsp H HT hS)) fun r s' h => ?_
  match r, h with
  | .error e, h => exact (no H e s' h).elim
  | .ok .next, h => exact False.elim h
  | .ok .brk, h => exact False.elim h
  | .ok .cont, h => exact False.elim h
  | .ok (.ret u), ⟨v, H', os, bare, un, ok', r', q⟩ =>
    obtain rfl : v = .bl true := q
    obtain rfl : u = Value.bool true := r'
    have hm : ∀ p ∈ cs, ∃ more : Array Value, s'.heap.get? p.2 = some { cls := .none, data := .fields more } := fun p hp => by
      obtain ⟨more, z⟩ := un.tbls p.2 #[] (HT p hp)
      exact ⟨_, ok' p.2 _ z⟩
    have old : ∀ b o, b ∉ cs.map (·.2) → s.heap.get? b = some o → s'.heap.get? b = some o := fun b o ne e => by
      cases h : H b with
      | none => exact un.keep b o e h (fun z => absurd (show b ∈ ([] : List Addr) from z) (by simp)) (by simp)
      | some u =>
        rcases tr h with ⟨z, _⟩ | ⟨_, rfl, _, rfl⟩
        · exact absurd z ne
        · obtain ⟨e2, _⟩ := ok' b _ (un.frzs b _ _ h)
          rw [ea] at e
          cases e
          exact e2
    refine ⟨rfl, ⟨fun b o e => ?_, fun b o e => ?_⟩, os, bare⟩
    · by_cases hb : b ∈ cs.map (·.2)
      · obtain ⟨c, hp⟩ := mem hb
        obtain ⟨eT, _, C⟩ := hcs _ hp
        obtain ⟨more, hm⟩ := hm _ hp
        have eT' : s.heap.get? b = some { cls := .none, data := .fields #[] } := eT
        rw [eT'] at e
        cases e
        exact .inr (.inl ⟨(C.tab eT).isCodeTable, rfl, #[], more, rfl, by rw [Array.empty_append]; exact hm⟩)
      · exact .inl (old b o hb e)
    · by_cases hb : b ∈ cs.map (·.2)
      · obtain ⟨c, hp⟩ := mem hb
        obtain ⟨more, hm⟩ := hm _ hp
        exact ⟨_, hm⟩
      · exact ⟨o, old b o hb e⟩
end
/-- what the law's end asks: the tables of the code objects, and the promise sp -/
def LawL (l : PySem.W.OpenLaw) (w : World) (K : PySem.W.Frag) (CX : CXT) (n : Nat) (mg : Str → Option Value) (fa : Addr) (h : Heap) : Prop :=
  ∃ (cs : List (Addr × Addr)) (sp : Sp), (∀ p ∈ cs, h.get? p.2 = some { cls := .none, data := .fields #[] } ∧ K.lookup p.2 = none ∧ PySem.W.CodeHd h p.1 p.2) ∧
    (∀ (H : Hp) (a : Addr) (ns : List Int), ns.length ≤ n → (∀ p ∈ cs, H p.2 = some (.tbl #[])) → SqL K H a (ns.map V.int) → sp [.ref a] H (fun v _ => v = .bl true) fun _ _ _ => False) ∧
    ∀ base : Heap, K.In base → base.Ns mainGlobals mg → (∀ p ∈ cs, LamX.TabB base mg p.1 p.2) → RunG l.prog w K mg base CX fa sp
theorem walk_ofL {l : PySem.W.OpenLaw} {n : Nat} {q : Program} {loose : List Str} {XP : (Str → Option Value) → Heap → Prop} {YP : World → Heap → Prop} {d : DefRec} {K : Params → PySem.W.Frag} {CX : World → CXT} (names : List Str)
    (hn : l.most = some n) (hn2 : n ≤ sizeLine) (hdf : d.params.defaults = []) (hrec : names.all (fun y => (recsOf q).any fun e => e.name == y) = true) (hY : ∀ (w : World) (h : Heap), YP w h → (K w.params).In h)
    (F : ∀ (w : World) (mg : Str → Option Value) (fa : Addr) (h : Heap), YP w h → (K w.params).In h → h.Ns mainGlobals mg → mg d.name = some (.ref fa) → (∀ y ∈ names, ∀ f, mg y = some (.ref f) → LamX.OwnTab (K w.params) f h) → LawL l w (K w.params) (CX w) n mg fa h)
    (no : ∀ (w : World) (H : Hp) (s : Shared) (e : Value) (s' : Shared), CX w [] H s (fun _ _ _ => False) e s' → False) :
    PySem.W.WalkO q loose XP YP l.row.toRowW d [] (fun f vs => PySem.call f vs) := by
  refine Att.attach_callB hn hdf fun w s₀ s₁ mg mb fa o pm cd doc a vs ns G Y ho hd hcd hmg hobj hints hlen hbits hg => ?_
  have KX := hY w _ Y
  obtain ⟨cs, sp, hcs, hsp, R⟩ := F w mg fa _ Y KX G.T.g hmg (fun y hy f hf c P o1 fd1 e dd vs1 sl k1 k2 k3 k4 k5 => by
    obtain ⟨dL, hm, hn1⟩ := List.any_eq_true.mp (List.all_eq_true.mp hrec y hy)
    obtain ⟨a', o', fd', c', P', h1, h2, h3, h4, h5, h6⟩ := G.T.tab dL hm
    rw [beq_iff_eq.mp hn1, hf] at h1
    cases h1
    have g1 := KX _ _ k1
    rw [g1] at h2
    cases h2
    rw [k2] at h3
    cases h3
    rw [k3] at h4
    cases h4
    obtain ⟨⟨oc, vc, e1, _, e3, e4⟩, hP⟩ := h6
    have g2 := KX _ _ k4
    rw [g2] at e1
    cases e1
    cases e3
    rw [k5] at e4
    cases e4
    exact hP)
  exact top_callL KX G.T.g G.T.b G.T.builtins G.T.nolimit hg hcs G.T.bmain hobj hints (Nat.le_trans hlen hn2) R (fun H hH hS => hsp H a ns hlen hH hS) fun H e s' => no w H s₁ e s'
end MyR

set_option Elab.async false
set_option linter.all false
set_option maxRecDepth 100000
set_option maxHeartbeats 4000000
namespace W
open PySem PySem.Spec PyProof.Rows L2 GxR MyG MyR
theorem no_fly {P : Program} (w : World) (H : Hp) (s : Shared) (e : Value) (s' : Shared) (h : L2.CX P w [] H s (fun _ _ _ => False) e s') : False := by
  obtain ⟨_, _, _, _, _, _, _, _, _, _, _, _, q⟩ := h
  exact q
theorem all_mk {l : PySem.W.OpenLaw} {w : World} {K : PySem.W.Frag} {h : Heap} {mg : Str → Option Value} {fa fNm fRo fPt fPp fCs fIm fRw fNu fLn fLp fLt fLw fNr TD Pa fPj qNm qNr PNm PNr : Addr} (X : K.In h) (G : h.Ns mainGlobals mg) (hfa : mg "law" = some (.ref fa)) (own : ∀ y ∈ ([("is_name" : Str)] : List Str), ∀ f, mg y = some (.ref f) → LamX.OwnTab K f h)
    {odNm anNm : Option Addr} {slNm : Array (Option Value)} {ocNm kVNm dcNm pmNm ctNm : Value}
    {odRo anRo : Option Addr} {slRo : Array (Option Value)} {ocRo kVRo dcRo pmRo cdRo ctRo : Value}
    {odPt anPt : Option Addr} {slPt : Array (Option Value)} {ocPt kVPt dcPt pmPt cdPt ctPt : Value}
    {odPp anPp : Option Addr} {slPp : Array (Option Value)} {ocPp kVPp dcPp pmPp cdPp ctPp : Value}
    {odCs anCs : Option Addr} {slCs : Array (Option Value)} {ocCs kVCs dcCs pmCs cdCs ctCs : Value}
    {odIm anIm : Option Addr} {slIm : Array (Option Value)} {ocIm kVIm dcIm pmIm cdIm ctIm : Value}
    {odRw anRw : Option Addr} {slRw : Array (Option Value)} {ocRw kVRw dcRw pmRw cdRw ctRw : Value}
    {odNu anNu : Option Addr} {slNu : Array (Option Value)} {ocNu kVNu dcNu pmNu cdNu ctNu : Value}
    {odLn anLn : Option Addr} {slLn : Array (Option Value)} {ocLn kVLn dcLn pmLn cdLn ctLn : Value}
    {odLp anLp : Option Addr} {slLp : Array (Option Value)} {ocLp kVLp dcLp pmLp cdLp ctLp : Value}
    {odLt anLt : Option Addr} {slLt : Array (Option Value)} {ocLt kVLt dcLt pmLt cdLt ctLt : Value}
    {odLw anLw : Option Addr} {slLw : Array (Option Value)} {ocLw kVLw dcLw pmLw cdLw ctLw : Value}
    {odNr anNr odTD : Option Addr} {slNr slTD : Array (Option Value)} {ocNr kVNr dcNr pmNr ctNr ocTD : Value} {nTD : Nat} {t6 : Tok}
    {eNm : Value} {dNm : Option Addr} {vsNm : Array Value} {slcNm : Array (Option Value)}
    {eNr : Value} {dNr : Option Addr} {vsNr : Array Value} {slcNr : Array (Option Value)}
    {odPj anPj : Option Addr} {slPj : Array (Option Value)} {ocPj kVPj dcPj pmPj cdPj ctPj : Value}
    {t_LONGEST_NAME t_LONGEST_NUMBER_texts t_LETTERS t_DIGITS : Tok}
    (aNm : PySem.W.nsIn K mainGlobals "is_name" = some (some (.ref fNm)))
    (lNm : K.lookup fNm = some ⟨ocNm, odNm, .func (PySem.W.fnOf "is_name" "is_name" (defArgs sIsName) (defBody sIsName) (defScope sIsName) .none kVNm dcNm pmNm anNm (.ref qNm) ctNm), slNm⟩)
    (cNm : PySem.W.codeIn K (.ref qNm) "is_name" = true)
    (kNm : PySem.W.keepIn K (.ref fNm) = true)
    (aRo : PySem.W.nsIn K mainGlobals "rows_of" = some (some (.ref fRo)))
    (lRo : K.lookup fRo = some ⟨ocRo, odRo, .func (PySem.W.fnOf "rows_of" "rows_of" (defArgs sRows) (defBody sRows) (defScope sRows) .none kVRo dcRo pmRo anRo (cdRo) ctRo), slRo⟩)
    (cRo : PySem.W.codeIn K (cdRo) "rows_of" = true)
    (kRo : PySem.W.keepIn K (.ref fRo) = true)
    (aPt : PySem.W.nsIn K mainGlobals "paper_text" = some (some (.ref fPt)))
    (lPt : K.lookup fPt = some ⟨ocPt, odPt, .func (PySem.W.fnOf "paper_text" "paper_text" (defArgs sPText) (defBody sPText) (defScope sPText) .none kVPt dcPt pmPt anPt (cdPt) ctPt), slPt⟩)
    (cPt : PySem.W.codeIn K (cdPt) "paper_text" = true)
    (kPt : PySem.W.keepIn K (.ref fPt) = true)
    (aPp : PySem.W.nsIn K mainGlobals "parse_paper" = some (some (.ref fPp)))
    (lPp : K.lookup fPp = some ⟨ocPp, odPp, .func (PySem.W.fnOf "parse_paper" "parse_paper" (defArgs sParse) (defBody sParse) (defScope sParse) .none kVPp dcPp pmPp anPp (cdPp) ctPp), slPp⟩)
    (cPp : PySem.W.codeIn K (cdPp) "parse_paper" = true)
    (kPp : PySem.W.keepIn K (.ref fPp) = true)
    (aCs : PySem.W.nsIn K mainGlobals "_can_stand" = some (some (.ref fCs)))
    (lCs : K.lookup fCs = some ⟨ocCs, odCs, .func (PySem.W.fnOf "_can_stand" "_can_stand" (defArgs sCan) (defBody sCan) (defScope sCan) .none kVCs dcCs pmCs anCs (cdCs) ctCs), slCs⟩)
    (cCs : PySem.W.codeIn K (cdCs) "_can_stand" = true)
    (kCs : PySem.W.keepIn K (.ref fCs) = true)
    (aIm : PySem.W.nsIn K mainGlobals "_is_moment" = some (some (.ref fIm)))
    (lIm : K.lookup fIm = some ⟨ocIm, odIm, .func (PySem.W.fnOf "_is_moment" "_is_moment" (defArgs sMom) (defBody sMom) (defScope sMom) .none kVIm dcIm pmIm anIm (cdIm) ctIm), slIm⟩)
    (cIm : PySem.W.codeIn K (cdIm) "_is_moment" = true)
    (kIm : PySem.W.keepIn K (.ref fIm) = true)
    (aRw : PySem.W.nsIn K mainGlobals "_law_row" = some (some (.ref fRw)))
    (lRw : K.lookup fRw = some ⟨ocRw, odRw, .func (PySem.W.fnOf "_law_row" "_law_row" (defArgs sRow) (defBody sRow) (defScope sRow) .none kVRw dcRw pmRw anRw (cdRw) ctRw), slRw⟩)
    (cRw : PySem.W.codeIn K (cdRw) "_law_row" = true)
    (kRw : PySem.W.keepIn K (.ref fRw) = true)
    (aNu : PySem.W.nsIn K mainGlobals "_law_numbers" = some (some (.ref fNu)))
    (lNu : K.lookup fNu = some ⟨ocNu, odNu, .func (PySem.W.fnOf "_law_numbers" "_law_numbers" (defArgs sNumbers) (defBody sNumbers) (defScope sNumbers) .none kVNu dcNu pmNu anNu (cdNu) ctNu), slNu⟩)
    (cNu : PySem.W.codeIn K (cdNu) "_law_numbers" = true)
    (kNu : PySem.W.keepIn K (.ref fNu) = true)
    (aLn : PySem.W.nsIn K mainGlobals "_law_names" = some (some (.ref fLn)))
    (lLn : K.lookup fLn = some ⟨ocLn, odLn, .func (PySem.W.fnOf "_law_names" "_law_names" (defArgs sLNames) (defBody sLNames) (defScope sLNames) .none kVLn dcLn pmLn anLn (cdLn) ctLn), slLn⟩)
    (cLn : PySem.W.codeIn K (cdLn) "_law_names" = true)
    (kLn : PySem.W.keepIn K (.ref fLn) = true)
    (aLp : PySem.W.nsIn K mainGlobals "_law_paper" = some (some (.ref fLp)))
    (lLp : K.lookup fLp = some ⟨ocLp, odLp, .func (PySem.W.fnOf "_law_paper" "_law_paper" (defArgs sLPaper) (defBody sLPaper) (defScope sLPaper) .none kVLp dcLp pmLp anLp (cdLp) ctLp), slLp⟩)
    (cLp : PySem.W.codeIn K (cdLp) "_law_paper" = true)
    (kLp : PySem.W.keepIn K (.ref fLp) = true)
    (aLt : PySem.W.nsIn K mainGlobals "_law_text" = some (some (.ref fLt)))
    (lLt : K.lookup fLt = some ⟨ocLt, odLt, .func (PySem.W.fnOf "_law_text" "_law_text" (defArgs sLText) (defBody sLText) (defScope sLText) .none kVLt dcLt pmLt anLt (cdLt) ctLt), slLt⟩)
    (cLt : PySem.W.codeIn K (cdLt) "_law_text" = true)
    (kLt : PySem.W.keepIn K (.ref fLt) = true)
    (aLw : PySem.W.nsIn K mainGlobals "law" = some (some (.ref fLw)))
    (lLw : K.lookup fLw = some ⟨ocLw, odLw, .func (PySem.W.fnOf "law" "law" (defArgs sLaw) (defBody sLaw) (defScope sLaw) .none kVLw dcLw pmLw anLw (cdLw) ctLw), slLw⟩)
    (cLw : PySem.W.codeIn K (cdLw) "law" = true)
    (kLw : PySem.W.keepIn K (.ref fLw) = true)
    (tabPNr : h.get? PNr = some { cls := .none, data := .fields #[] })
    (aNr : PySem.W.nsIn K mainGlobals "is_number" = some (some (.ref fNr)))
    (lNr : K.lookup fNr = some ⟨ocNr, odNr, .func (PySem.W.fnOf "is_number" "is_number" (defArgs sIsNr) (defBody sIsNr) (defScope sIsNr) (.ref TD) kVNr dcNr pmNr anNr (.ref qNr) ctNr), slNr⟩)
    (cNr : PySem.W.codeIn K (.ref qNr) "is_number" = true)
    (kNr : PySem.W.keepIn K (.ref fNr) = true)
    (lTD : K.lookup TD = some ⟨ocTD, odTD, .seq #[.int 6 t6] nTD, slTD⟩)
    (lcNm : K.lookup qNm = some ⟨eNm, dNm, .fields vsNm, slcNm⟩)
    (v11Nm : vsNm[11]? = some (.ref PNm))
    (hcNm : PySem.W.codeHdIn K qNm PNm = true)
    (nPNm : K.lookup PNm = none)
    (lcNr : K.lookup qNr = some ⟨eNr, dNr, .fields vsNr, slcNr⟩)
    (v11Nr : vsNr[11]? = some (.ref PNr))
    (hcNr : PySem.W.codeHdIn K qNr PNr = true)
    (nPNr : K.lookup PNr = none)
    (aPa : PySem.W.nsIn K mainGlobals "Paper" = some (some (.ref Pa)))
    (aPj : PySem.W.findIn K (.ref Pa) "__init__" = some (some (.ref fPj)))
    (iPj : PySem.W.isFn K (.ref fPj) = true)
    (lPj : K.lookup fPj = some ⟨ocPj, odPj, .func (PySem.W.fnOf "__init__" "Paper.__init__" (defArgs sPaInit) (defBody sPaInit) (defScope sPaInit) .none kVPj dcPj pmPj anPj (cdPj) ctPj), slPj⟩)
    (cPj : PySem.W.codeIn K (cdPj) "Paper.__init__" = true)
    (kPj : PySem.W.keepIn K (.ref fPj) = true)
    (pgPa : PySem.W.plainGet K Pa Str.empty = true)
    (hdPa : PySem.W.hasDictIn K Pa = true)
    (poPa : PySem.W.plainOver K Pa = true)
    (saPa : PySem.W.findIn K (.ref Pa) "__setattr__" = some (some (.builtin "object.__setattr__")))
    (mkPa : PySem.W.makesIn K Pa = true)
    (kpPa : PySem.W.keepIn K (.ref Pa) = true)
    (nPa_roads : PySem.W.findIn K (.ref Pa) "roads" = some none)
    (nPa_arrival : PySem.W.findIn K (.ref Pa) "arrival" = some none)
    (nPa_lows : PySem.W.findIn K (.ref Pa) "lows" = some none)
    (c1 : PySem.W.findIn K (.ref Pa) "__class__" = some (some (.builtin "object.__class__")))
    (c2 : PySem.W.specialIn K (.builtin "object.__class__") "__get__" = some (some (.builtin "getset_descriptor.__get__")))
    (c3 : PySem.W.takesIn K (.builtin "object.__class__") = some true)
    (c4 : PySem.W.mroIn K Pa (.type "object") = some true)
    (c5 : PySem.W.kitOne K (.ref Pa) (.ref Pa) = some true)
    (g_LONGEST_NAME : PySem.W.nsIn K mainGlobals "LONGEST_NAME" = some (some (.int 12 t_LONGEST_NAME)))
    (g_LONGEST_NUMBER_texts : PySem.W.nsIn K mainGlobals "LONGEST_NUMBER_texts" = some (some (.int 9 t_LONGEST_NUMBER_texts)))
    (g_LETTERS : PySem.W.nsIn K mainGlobals "LETTERS" = some (some (.str zLet t_LETTERS)))
    (g_DIGITS : PySem.W.nsIn K mainGlobals "DIGITS" = some (some (.str zDig t_DIGITS)))
    (z_len : PySem.W.nsIn K mainGlobals "len" = some none)
    (z_all : PySem.W.nsIn K mainGlobals "all" = some none)
    (z_int : PySem.W.nsIn K mainGlobals "int" = some none)
    (z_range : PySem.W.nsIn K mainGlobals "range" = some none)
    (z_max : PySem.W.nsIn K mainGlobals "max" = some none)
    (z_abs : PySem.W.nsIn K mainGlobals "abs" = some none)
    (z_min : PySem.W.nsIn K mainGlobals "min" = some none)
    (z_isinstance : PySem.W.nsIn K mainGlobals "isinstance" = some none)
    (z_list : PySem.W.nsIn K mainGlobals "list" = some none)
    (z_bool : PySem.W.nsIn K mainGlobals "bool" = some none)
    (z_str : PySem.W.nsIn K mainGlobals "str" = some none)
    (z_tuple : PySem.W.nsIn K mainGlobals "tuple" = some none) :
    LawL l w K (L2.CX l.prog w) 63 mg fa h := by
  have e := hfa.symm.trans (PySem.W.mg_of X G aLw)
  cases e
  have FNm := fun_mk (st := sIsName) lNm cNm kNm
  have bNm := FNm.binds (ps := ["text"]) fun _ _ _ _ _ _ us hl => match us, hl with | [_], _ => rfl
  have mNm := PySem.W.mg_of X G aNm
  have FRo := fun_mk (st := sRows) lRo cRo kRo
  have bRo := FRo.binds (ps := ["text"]) fun _ _ _ _ _ _ us hl => match us, hl with | [_], _ => rfl
  have mRo := PySem.W.mg_of X G aRo
  have FPt := fun_mk (st := sPText) lPt cPt kPt
  have bPt := FPt.binds (ps := ["told"]) fun _ _ _ _ _ _ us hl => match us, hl with | [_], _ => rfl
  have mPt := PySem.W.mg_of X G aPt
  have FPp := fun_mk (st := sParse) lPp cPp kPp
  have bPp := FPp.binds (ps := ["text"]) fun _ _ _ _ _ _ us hl => match us, hl with | [_], _ => rfl
  have mPp := PySem.W.mg_of X G aPp
  have FCs := fun_mk (st := sCan) lCs cCs kCs
  have bCs := FCs.binds (ps := ["rows", "at"]) fun _ _ _ _ _ _ us hl => match us, hl with | [_, _], _ => rfl
  have mCs := PySem.W.mg_of X G aCs
  have FIm := fun_mk (st := sMom) lIm cIm kIm
  have bIm := FIm.binds (ps := ["word"]) fun _ _ _ _ _ _ us hl => match us, hl with | [_], _ => rfl
  have mIm := PySem.W.mg_of X G aIm
  have FRw := fun_mk (st := sRow) lRw cRw kRw
  have bRw := FRw.binds (ps := ["cell", "many"]) fun _ _ _ _ _ _ us hl => match us, hl with | [_, _], _ => rfl
  have mRw := PySem.W.mg_of X G aRw
  have FNu := fun_mk (st := sNumbers) lNu cNu kNu
  have bNu := FNu.binds (ps := ["script", "many"]) fun _ _ _ _ _ _ us hl => match us, hl with | [_, _], _ => rfl
  have mNu := PySem.W.mg_of X G aNu
  have FLn := fun_mk (st := sLNames) lLn cLn kLn
  have bLn := FLn.binds (ps := ["number", "many"]) fun _ _ _ _ _ _ us hl => match us, hl with | [_, _], _ => rfl
  have mLn := PySem.W.mg_of X G aLn
  have FLp := fun_mk (st := sLPaper) lLp cLp kLp
  have bLp := FLp.binds (ps := ["numbers"]) fun _ _ _ _ _ _ us hl => match us, hl with | [_], _ => rfl
  have mLp := PySem.W.mg_of X G aLp
  have FLt := fun_mk (st := sLText) lLt cLt kLt
  have bLt := FLt.binds (ps := ["roads", "arrival", "lows"]) fun _ _ _ _ _ _ us hl => match us, hl with | [_, _, _], _ => rfl
  have mLt := PySem.W.mg_of X G aLt
  have FLw := fun_mk (st := sLaw) lLw cLw kLw
  have bLw := FLw.binds (ps := ["script"]) fun _ _ _ _ _ _ us hl => match us, hl with | [_], _ => rfl
  have mLw := PySem.W.mg_of X G aLw
  have mNr := PySem.W.mg_of X G aNr
  have mPa := PySem.W.mg_of X G aPa
  have FPj := fun_mk (st := sPaInit) lPj cPj kPj
  have bPj := FPj.binds (ps := ["self", "roads", "arrival", "lows"]) fun _ _ _ _ _ _ us hl => match us, hl with | [_, _, _, _], _ => rfl
  have e_len := PySem.W.mg_none_of X G z_len
  have e_all := PySem.W.mg_none_of X G z_all
  have e_int := PySem.W.mg_none_of X G z_int
  have e_range := PySem.W.mg_none_of X G z_range
  have e_max := PySem.W.mg_none_of X G z_max
  have e_abs := PySem.W.mg_none_of X G z_abs
  have e_min := PySem.W.mg_none_of X G z_min
  have e_isinstance := PySem.W.mg_none_of X G z_isinstance
  have e_list := PySem.W.mg_none_of X G z_list
  have e_bool := PySem.W.mg_none_of X G z_bool
  have e_str := PySem.W.mg_none_of X G z_str
  have e_tuple := PySem.W.mg_none_of X G z_tuple
  have i_LONGEST_NAME := PySem.W.mg_of X G g_LONGEST_NAME
  have i_LONGEST_NUMBER_texts := PySem.W.mg_of X G g_LONGEST_NUMBER_texts
  have i_LETTERS := PySem.W.mg_of X G g_LETTERS
  have i_DIGITS := PySem.W.mg_of X G g_DIGITS
  have FNr : FunD K "is_number" "is_number" (defArgs sIsNr) (defBody sIsNr) (defScope sIsNr) [.int 6] [] fNr (PySem.W.fnOf "is_number" "is_number" (defArgs sIsNr) (defBody sIsNr) (defScope sIsNr) (.ref TD) kVNr dcNr pmNr anNr (.ref qNr) ctNr) :=
    ⟨⟨_, _, _, _, _, _, _, _, _, _, rfl, lNr, cNr, .inr ⟨by simp, TD, _, [.int 6 t6], _, rfl, lTD, rfl, .cons ⟨t6, rfl⟩ .nil⟩, .inl rfl⟩, kNr⟩
  obtain ⟨u6, r6, bNr⟩ := FNr.binds1 (ps := ["word", "longest"]) 2 1 (by simp) rfl (fun T kV doc pm an cdv ct us its h1 h2 => match us, its, h1, h2 with | [u, u'], [i], _, _ => ⟨_, rfl, rfl⟩)
  obtain rfl : u6 = [] := by
    cases r6
    rfl
  have TA : TxtA K Pa := ⟨⟨pgPa, hdPa, poPa, saPa⟩, nPa_roads, nPa_arrival, nPa_lows⟩
  have TN : Txt K mg Pa PNm := ⟨⟨_, i_LETTERS⟩, ⟨_, i_DIGITS⟩, ⟨_, i_LONGEST_NAME⟩, e_len, e_all⟩
  have tabPNm : h.get? PNm = some { cls := .none, data := .fields #[] } := own _ (by decide +kernel) _ mNm qNm PNm _ _ _ _ _ _ lNm rfl rfl lcNm v11Nm
  have hcs : ∀ p ∈ ([(qNm, PNm), (qNr, PNr)] : List (Addr × Addr)), h.get? p.2 = some { cls := .none, data := .fields #[] } ∧ K.lookup p.2 = none ∧ PySem.W.CodeHd h p.1 p.2 := fun p hp => by
    simp only [List.mem_cons, List.not_mem_nil, or_false] at hp
    rcases hp with e | e <;> rw [e]
    · exact ⟨tabPNm, nPNm, PySem.W.codeHd_of_K X hcNm⟩
    · exact ⟨tabPNr, nPNr, PySem.W.codeHd_of_K X hcNr⟩
  refine ⟨[(qNm, PNm), (qNr, PNr)], spLaw K PNm PNr, hcs, fun H a ns hl hT hS => ⟨a, ns, rfl, hS, hl, ⟨#[], hT (qNm, PNm) (by simp), by first | trivial | exact True.intro | decide⟩, ⟨#[], hT (qNr, PNr) (by simp), by first | trivial | exact True.intro | decide⟩, fun _ => rfl⟩, fun base KB NB TBL => ?_⟩
  have TBN : TabB base mg qNm PNm := ⟨(TBL (qNm, PNm) (by simp)).code, (TBL (qNm, PNm) (by simp)).bm, (TBL (qNm, PNm) (by simp)).gP⟩
  have TBR : TabB base mg qNr PNr := ⟨(TBL (qNr, PNr) (by simp)).code, (TBL (qNr, PNr) (by simp)).bm, (TBL (qNr, PNr) (by simp)).gP⟩
  have GNm : FnOk l.prog w K mg base CX0 2 fNm _ ["text"] (spIsName PNm) := ok_isName FNm TN TBN rfl NB
  have GNr : FnOk l.prog w K mg base CX0 2 fNr _ ["word", "longest"] (spIsNr PNr) := ok_isNr FNr e_len e_all i_DIGITS TBR rfl NB
  have GRo : FnOk l.prog w K mg base CX0 1 fRo _ ["text"] (spRows PNm) := ok_rows FRo
  have GIm := ok_mom FIm i_LONGEST_NUMBER_texts GNr mNr kNr bNr
  have GCs := ok_can FCs e_len GNm mNm kNm bNm GIm mIm kIm bIm
  have GPj : FnOk l.prog w K mg base CX0 1 fPj _ ["self", "roads", "arrival", "lows"] (spPaInit2 K Pa PNm) := ok_paInit2 FPj TA e_tuple
  have GPt : FnOk l.prog w K mg base CX0 1 fPt _ ["told"] (spPText Pa PNm) := ok_ptext FPt TA
  have GPp := ok_parse FPp e_len e_int e_range GRo mRo kRo bRo GCs mCs kCs bCs ⟨mkPa, aPj, iPj, kpPa⟩ GPj mPa bPj
  have GRw : FnOk l.prog w K mg base CX0 1 fRw _ ["cell", "many"] (spRow PNm) := ok_row FRw e_abs e_int e_range
  have GNu := ok_numbers FNu e_len e_max GRw mRw kRw bRw
  have GLn : FnOk l.prog w K mg base CX0 1 fLn _ ["number", "many"] (spLNames PNm) := ok_lnames FLn e_int e_range e_len e_min
  have GLp := ok_lpaper FLp e_int e_range GLn mLn kLn bLn
  have GLt : FnOk l.prog w K mg base CX0 1 fLt _ ["roads", "arrival", "lows"] (spLText K PNm) := ok_ltext FLt e_str
  exact ok_law lLw cLw (fun s v => .of_eq rfl) e_isinstance e_str e_bool e_list e_tuple TA c1 c2 c3 c4 c5 GNu mNu kNu bNu GLp mLp kLp bLp GLt mLt kLt bLt GPt mPt kPt bPt GPp mPp kPp bPp ⟨mkPa, aPj, iPj, kpPa⟩ GPj mPa bPj
end W

set_option Elab.async false
local macro_rules | `(tactic| o_head ($f:ident $k $a $e)) => `(tactic| o_head (PySem.W.kmHook $k $a $e [63]))
open PySem PySem.W PyProof.Rows in
set_option maxRecDepth 100000 in
set_option maxHeartbeats 0 in
theorem PySem.Challenge.cw_waypapers_k67_paper_texts_holds : PySem.Challenge.rw_waypapers_k67_paper_texts.Holds := by
  w_on; o_law; k_head; (case hw => w_witness2)
  k_fill
  refine MyR.walk_ofL (l := PySem.Challenge.rw_waypapers_k67_paper_texts) (n := 63) (CX := fun w => L2.CX (PySem.Challenge.rw_waypapers_k67_paper_texts).prog w) ["is_name"] rfl (by decide) rfl (by decide +kernel) (fun w h Y => PySem.W.km_in_of Y) ?F (fun w H s e s' h => W.no_fly w H s e s' h)
  case F =>
    intro w mg fa h Y KX G hmg own
    refine' W.all_mk KX G hmg own ?aNm ?lNm ?cNm ?kNm ?aRo ?lRo ?cRo ?kRo ?aPt ?lPt ?cPt ?kPt ?aPp ?lPp ?cPp ?kPp ?aCs ?lCs ?cCs ?kCs ?aIm ?lIm ?cIm ?kIm ?aRw ?lRw ?cRw ?kRw ?aNu ?lNu ?cNu ?kNu ?aLn ?lLn ?cLn ?kLn ?aLp ?lLp ?cLp ?kLp ?aLt ?lLt ?cLt ?kLt ?aLw ?lLw ?cLw ?kLw ?tabPNr ?aNr ?lNr ?cNr ?kNr ?lTD ?lcNm ?v11Nm ?hcNm ?nPNm ?lcNr ?v11Nr ?hcNr ?nPNr ?aPa ?aPj ?iPj ?lPj ?cPj ?kPj ?pgPa ?hdPa ?poPa ?saPa ?mkPa ?kpPa ?nPa_roads ?nPa_arrival ?nPa_lows ?c1 ?c2 ?c3 ?c4 ?c5 ?g_LONGEST_NAME ?g_LONGEST_NUMBER_texts ?g_LETTERS ?g_DIGITS ?z_len ?z_all ?z_int ?z_range ?z_max ?z_abs ?z_min ?z_isinstance ?z_list ?z_bool ?z_str ?z_tuple
    (case aNm => k_is)
    (case lNm => k_is)
    (case cNm => k_is)
    (case kNm => k_is)
    (case aRo => k_is)
    (case lRo => k_is)
    (case cRo => k_is)
    (case kRo => k_is)
    (case aPt => k_is)
    (case lPt => k_is)
    (case cPt => k_is)
    (case kPt => k_is)
    (case aPp => k_is)
    (case lPp => k_is)
    (case cPp => k_is)
    (case kPp => k_is)
    (case aCs => k_is)
    (case lCs => k_is)
    (case cCs => k_is)
    (case kCs => k_is)
    (case aIm => k_is)
    (case lIm => k_is)
    (case cIm => k_is)
    (case kIm => k_is)
    (case aRw => k_is)
    (case lRw => k_is)
    (case cRw => k_is)
    (case kRw => k_is)
    (case aNu => k_is)
    (case lNu => k_is)
    (case cNu => k_is)
    (case kNu => k_is)
    (case aLn => k_is)
    (case lLn => k_is)
    (case cLn => k_is)
    (case kLn => k_is)
    (case aLp => k_is)
    (case lLp => k_is)
    (case cLp => k_is)
    (case kLp => k_is)
    (case aLt => k_is)
    (case lLt => k_is)
    (case cLt => k_is)
    (case kLt => k_is)
    (case aLw => k_is)
    (case lLw => k_is)
    (case cLw => k_is)
    (case kLw => k_is)
    (case tabPNr => exact PySem.W.km_tabs_of Y 63 (by decide))
    (case aNr => k_is)
    (case lNr => k_is)
    (case cNr => k_is)
    (case kNr => k_is)
    (case lTD => k_is)
    (case lcNm => k_is)
    (case v11Nm => rfl)
    (case hcNm => kernel_rfl)
    (case nPNm => kernel_rfl)
    (case lcNr => k_is)
    (case v11Nr => rfl)
    (case hcNr => kernel_rfl)
    (case nPNr => kernel_rfl)
    (case aPa => k_is)
    (case aPj => k_is)
    (case iPj => k_is)
    (case lPj => k_is)
    (case cPj => k_is)
    (case kPj => k_is)
    (case pgPa => k_is)
    (case hdPa => k_is)
    (case poPa => k_is)
    (case saPa => k_is)
    (case mkPa => k_is)
    (case kpPa => k_is)
    (case nPa_roads => k_is)
    (case nPa_arrival => k_is)
    (case nPa_lows => k_is)
    (case c1 => k_is)
    (case c2 => k_is)
    (case c3 => k_is)
    (case c4 => k_is)
    (case c5 => first | kit_is | k_is | kernel_rfl)
    (case g_LONGEST_NAME => k_is)
    (case g_LONGEST_NUMBER_texts => k_is)
    (case g_LETTERS => k_is)
    (case g_DIGITS => k_is)
    (case z_len => k_is)
    (case z_all => k_is)
    (case z_int => k_is)
    (case z_range => k_is)
    (case z_max => k_is)
    (case z_abs => k_is)
    (case z_min => k_is)
    (case z_isinstance => k_is)
    (case z_list => k_is)
    (case z_bool => k_is)
    (case z_str => k_is)
    (case z_tuple => k_is)

