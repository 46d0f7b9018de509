import PyProof.Rows.All
import Wide.All
import OpenK.AllK
import Wide.FinOn
import HandS.ForMost
import HandS.ForExc
import HandS.AnyAll
import HandS.TupSets
import HandS.Strs
import HandS.Sort
import HandS.SortOrd
import HandS.SortRule
import KE.KSortTup
import PyProof.EqAt
import PyProof.EqKinds
import HandS.DictComp
import HandS.FStr
import HandS.RaiseMore
import HandS.MakeKwOnly
import HandS.EndTab
import KE.KNestM
import HandS.Walk
import PyProof.ReprLen
import HandS.Comp
import KE.GoesComp
import HandS.TryOnly
import HandS.Style
import KE.KRevSl
import HandS.Text
import HandS.TupAny
import HandS.IsInst
import HandS.Codes
import HandS.Star
import HandS.GenList
import HandS.Words
import HandS.WordsExc
import HandS.Defaults
import KE.DataMinMax
import HandS.SortKw
import HandS.More
import PyProof.ReprRoads
import HandS.EndOwn
import HandS.ExcInit
import KE.KExcSuper
import KE.KExcIs
import HandS.ExcField
import HandS.ExcOwn
import HandS.TryMany
import HandS.Base
import HandS.Call
import HandS.List
import HandS.Replace
import HandS.ReplaceLit
import PyProof.ToksMono
import HandS.ReplaceList
import PySem.Challenge.RW_waypapers_k06_texts_refused
set_option Elab.async false
set_option linter.all false
set_option maxRecDepth 100000
set_option maxHeartbeats 4000000
/-! all(test for x in text), where the test reads constants of the module: the walked element knows the base heap and the def's globals. -/
namespace MyG
open PySem PySem.Spec PyProof.Rows L2 GxR
/-- what the element's evaluation may lean on: the base heap stands, the globals are the module's, no exception is handled -/
def EltB (prog : Program) (w : World) (base : Heap) (scope : Scope) (x : Str) (elt : Expr) (pb : Nat → Bool) : Prop :=
  ∀ (ce : Env) (B : Around) (F : Value → Shared → Prop) (c : Nat) (t : Tok) (z : Shared) (m : Str → Option Value),
    ce.scope = scope → ce.globals = mainGlobals → B.handled = none → (∀ b o, base.get? b = some o → z.heap.get? b = some o) →
    z.heap.Ns ce.locals m → m x = some (.str ⟨#[c]⟩ t) → wpAny (model prog w) B (eval elt ce) (fun y z' => y = .bool (pb c) ∧ Keeps z z') F z
section
variable {X : Cx} {pins : List (Addr × Obj)} {σ : L2.St} {H : Hp} {s : Shared}
theorem genB {c P : Addr} {elt iter : Expr} {x : Str} {px gpos : Pos} {scope : Scope} {pb : Nat → Bool} {te : TE} {k : Nat} {Q' : Value → Shared → Prop} {R : Str → Hp → Prop}
    (hr : Room k X.A) (TB : TabB X.base X.mg c P) (hcode : X.env.code = .ref c) (S : GenS X.env scope x) (hi : PE X iter te) (hel : EltB X.prog X.w X.base scope x elt pb)
    (hs : ∀ v, genFold iter X.env v = pure v) (I : Inv X pins σ H s) (h : te σ H fun v H1 => ∃ a : Str, v = .str a ∧ TabG H1 P ∧ R a H1)
    (hQ : ∀ a H1 g z, R a H1 → Ready X pins σ H1 P a pb g z → Q' (.ref g) z) :
    wpAny (model X.prog X.w) X.A (eval (.GeneratorExp elt [⟨.Name x px, iter, [], 0⟩] scope gpos) X.env) Q' X.xe s := by
  refine wpAny_GeneratorExp_walksQ hr.hd S.co (closure_ok S.free) S.cell S.dot S.loc S.kind (by have := hr.dp; omega) ?_ hs
  refine thn (hi.run pins s σ H _ I h) fun xv s1 ⟨v, H1, I1, r1, a, ev, tb, q1⟩ => ?_
  subst ev
  obtain ⟨t, rfl⟩ := _root_.id r1
  obtain ⟨ps, hP, ht⟩ := tb
  refine wpAny_pyIter_str fun o St W hst => ?_
  have eP : s1.heap.get? P = some { cls := .none, data := .fields ps } := I1.hok P _ hP
  have ltP : P < s1.heap.objs.size := Heap.lt_size eP
  have eP2 := Heap.get?_push_of_some o eP
  have cd : PySem.W.CodeHd (s1.heap.push o) c P := TB.code.keeps fun b u e => Heap.get?_push_of_some _ (I1.bk b u e)
  have lim := I1.nolimit.push o
  have szp : (s1.heap.push o).objs.size = s1.heap.objs.size + 1 := Heap.size_push ..
  -- the base is not the table
  have nbP : ∀ b u, X.base.get? b = some u → b ≠ P := fun b u e z => by
    have q := (I1.bs b u e).2
    rw [z, hP] at q
    cases q
  have stP : cStatics ≠ P := fun e => by
    obtain ⟨_, ⟨o', es, ep, ho, hd, _⟩, _⟩ := I1.nolimit
    rw [e, eP] at ho
    cases ho
    cases hd
  have stlt : cStatics < s1.heap.objs.size := let ⟨_, hns, _⟩ := I1.nolimit; hns.lt
  -- behind the code object (made or found): h3, the table ps'
  have go : ∀ (code : Value) (h3 : Heap) (tk : Nat) (more : Array Value), Heap.ExtBut P (s1.heap.push o) h3 → (s1.heap.push o).objs.size ≤ h3.objs.size → h3.get? P = some { cls := .none, data := .fields (ps ++ more) } → TriplesOk (ps ++ more).toList →
      wpAny (model X.prog X.w) X.A (builtinsFor X.env.globals X.env.builtins) (fun bi s₄ =>
        ∃ Ia fp wr n₀ Pf St₀ pz F, Value.ref s1.heap.objs.size = .ref Ia ∧ (∀ A' : Around, A'.handled = none → Walks X.prog X.w A' Ia fp wr n₀ Pf St₀) ∧ St₀ 0 s₄.heap ∧ (∀ b ∈ fp, b < s₄.heap.objs.size) ∧ s₄.heap.NoLimit ∧ cStatics ∉ wr ∧
          (∀ href : Heap, (∀ b o, s₄.heap.get? b = some o → href.get? b = some o) →
            QuietGen X.prog X.w (genEnv scope (cloFrom X.env.cells scope.names []) s₄.heap.objs.size code bi X.env) x [] elt (List.range s₄.heap.objs.size) wr Pf pz F href) ∧
          (∀ a h₅ tk gs, gs.bare = true → s₄.heap.objs.size < a → h₅.objs.size = a + 1 → (∀ b o, s₄.heap.get? b = some o → h₅.get? b = some o) →
            WalksS X.prog X.w X.A.in4 a (a :: s₄.heap.objs.size :: List.range s₄.heap.objs.size) (s₄.heap.objs.size :: wr) (GenOnlyQ s₄.gens.size) (passing pz n₀ 0).length
              (fun j y => ∃ i, (passing pz n₀ 0)[j]? = some i ∧ F i y) (GenAt X.prog X.w X.A.in4 a s₄.gens.size s₄.heap.objs.size (List.range s₄.heap.objs.size) wr pz n₀ F) →
            GenAt X.prog X.w X.A.in4 a s₄.gens.size s₄.heap.objs.size (List.range s₄.heap.objs.size) wr pz n₀ F 0 { s₄ with gens := s₄.gens.push gs, toks := tk, heap := h₅ } →
            Q' (.ref a) { s₄ with gens := s₄.gens.push gs, toks := tk, heap := h₅ })) X.xe { s1 with heap := h3, toks := tk } := by
    intro code h3 tk more hx hsz e3 ht3
    obtain ⟨bm, ob, b1, b2, b3, b4, b5, b6, b7, b8⟩ := TB.bm
    have old : ∀ b u, b ≠ P → s1.heap.get? b = some u → h3.get? b = some u := fun b u hb e => hx b u hb (Heap.get?_push_of_some _ e)
    refine wpAny_builtinsFor (m := X.mg) (by rw [I1.ok.glob]; exact ((I1.mod.glob.keeps I1.bk).push o).extBut hx TB.gP) b1 b2 (old _ _ b4 (I1.bk _ _ b5)) b6 b7 b8 ?_
    refine ⟨s1.heap.objs.size, [s1.heap.objs.size], [s1.heap.objs.size], a.cps.size, SignAt a, St, (fun _ => true), (fun i y => ∃ cc, a.cps[i]? = some cc ∧ y = .bool (pb cc)), rfl, W, ?_, ?_, lim.extBut hx stP, ?_, ?_, ?_⟩
    · refine (W X.A hr.hd).frame _ _ _ hst fun b hb u e => hx b u (fun z => ?_) e
      have hb' : b = s1.heap.objs.size := List.mem_singleton.mp hb
      exact Nat.ne_of_lt ltP (z.symm.trans hb')
    · intro b hb
      have hb' : b = s1.heap.objs.size := List.mem_singleton.mp hb
      rw [hb']
      exact Nat.lt_of_lt_of_le (by rw [szp]; exact Nat.lt_succ_self _) hsz
    · intro z
      exact Nat.ne_of_lt stlt (List.mem_singleton.mp z)
    · intro href hk
      constructor
      · intro A' E' i v s₂ m₂ hA hPv hn hm hk2
        simp only [List.forIn_nil]
        exact wpAny_pure ⟨rfl, keeps_refl _⟩
      · intro A' E' i v s₂ m₂ hA hPv hp hn hm hk2
        obtain ⟨cc, u, hcc, rfl⟩ := hPv
        refine wpAny_mono (hel _ A' E' cc u s₂ m₂ rfl I1.ok.glob hA (fun b w' e => ?_) hn hm) (fun y s3 r => ⟨⟨cc, hcc, r.1⟩, r.2⟩) fun _ _ e => e
        have e1 := I1.bk b w' e
        have e2 := old b w' (nbP b w' e) e1
        have l1 : b < s1.heap.objs.size := Heap.lt_size e1
        refine hk2 b (List.mem_range.mpr (Heap.lt_size e2)) (fun z => ?_) w' (hk b w' e2)
        exact Nat.ne_of_lt l1 (List.mem_singleton.mp z)
    · intro g h5 tk5 gs hgb hag hsz5 hk5 W5 hat
      simp only [GxR.passing_true, List.length_range] at W5
      refine hQ a H1 g _ q1 ⟨_, _, _, _, _, W5.in4_1, hat, ?_, fun s' hm => ?_⟩
      · intro j y sj Qj Ej hy hQj
        obtain ⟨i, hij, cc, hcc, rfl⟩ := hy
        obtain ⟨hj, ej⟩ := List.getElem?_eq_some_iff.mp hij
        rw [List.getElem_range] at ej
        subst ej
        have e9 : a.cps.toList[j]? = some cc := by rw [Array.getElem?_toList]; exact hcc
        have hQ2 : Qj (trF pb a.cps.toList j) sj := hQj
        rw [trF_some e9] at hQ2
        exact wpAny_truthy_bool hQ2
      · have nwr : ∀ b u, s1.heap.get? b = some u → b ∉ h3.objs.size :: [s1.heap.objs.size] := fun b u e hb => by
          have hl := Heap.lt_size e
          rcases List.mem_cons.mp hb with z | z
          · exact Nat.ne_of_lt (Nat.lt_of_lt_of_le (Nat.lt_trans hl (Nat.lt_succ_self _)) (Nat.le_trans (Nat.le_of_eq szp.symm) hsz)) z
          · exact Nat.ne_of_lt hl (List.mem_singleton.mp z)
        have J := inv_tab (more := more) (h' := s'.heap) (g' := s'.gens) (d' := s'.drawn) (t' := s'.toks) I1 hP (fun b u hb e => hm.heap b u (nwr b u e) (hk5 b u (old b u hb e)))
          (hm.heap P _ (nwr P _ eP) (hk5 P _ e3)) (AllBare.movedS (I1.bare.push hgb) hm)
        rw [sh_eta s1 s' hm.os] at J
        exact ⟨upd H1 P (.tbl (ps ++ more)), ⟨⟨ps ++ more, upd_same, ht3⟩, fun b hb => upd_ne hb⟩, J⟩
  refine ⟨lim, ?_⟩
  cases hf : codeAmong gpos ps.toList with
  | none =>
    refine wpAny_genexprCodeX hcode (cd.code eP2 ht) (cd.tab eP2) hf fun c' h' tk hx hge hlt hco' _ htab' _ => ?_
    obtain ⟨o1, vs, f1, tf, fl, tg, inF, tx, tt, op, _, _, _, _, _, _, _, _, _, htr, _⟩ := hco'
    exact go _ h' tk _ hx (Nat.le_trans hge (Nat.le_of_lt hlt)) htab'.2 htr
  | some cv =>
    refine wpAny_genexprCode_hit hcode (cd.code eP2 ht) hf ?_
    refine go cv (s1.heap.push o) s1.toks #[] (Heap.ExtBut.refl _ _) (Nat.le_refl _) ?_ ?_
    · rw [Array.append_empty]; exact eP2
    · rw [Array.append_empty]; exact ht

/-- all(test for x in e), e a text -/
theorem pe_allB {c P : Addr} {elt iter : Expr} {x : Str} {px p pos gpos : Pos} {scope : Scope} {pb : Nat → Bool} {te : TE} {k : Nat}
    (hr : Room k X.A) (hg : Gl X "all") (hm : X.mg "all" = none) (TB : TabB X.base X.mg c P) (hcode : X.env.code = .ref c) (S : GenS X.env scope x) (hi : PE X iter te) (hel : EltB X.prog X.w X.base scope x elt pb)
    (hs : ∀ v, genFold iter X.env v = pure v)
    (he : starEach [.GeneratorExp elt [⟨.Name x px, iter, [], 0⟩] scope gpos] X.env = (false, eval (.GeneratorExp elt [⟨.Name x px, iter, [], 0⟩] scope gpos) X.env) :: starEach [] X.env := by rfl) :
    PE X (.Call (.Name "all" p) [.GeneratorExp elt [⟨.Name x px, iter, [], 0⟩] scope gpos] [] pos) (tAllS P pb te) := by
  refine ⟨fun pins s σ H Q I h => ?_⟩
  refine wpAny_Call_Name_kw (ld_blt I hg hm (by decide +kernel : bootBuiltins "all" = some (.builtin "all")) ?_)
  refine PyProof.Rows.callWith_builtin1 ?_ he (by rfl)
  rw [he]
  refine Calls.spliced_cons (genB (R := fun a H1 => ∀ H2, Tabbed P H1 H2 → Q (.bl (a.cps.toList.all pb)) H2) hr TB hcode S hi hel hs I h fun a H1 g z hR hG => Calls.spliced_nil ?_)
  obtain ⟨fp, wr, G, F, St, W, hst, htr, hI⟩ := hG
  refine call_all_walkS (W.self 0 _ _ _ hst ⟨g, fp, wr, G, _, F, St, _, rfl, W, hst, htr, fun s' hmv => ?_⟩)
  obtain ⟨H2, hT, J⟩ := hI s' hmv
  exact ⟨.bl _, H2, J, rfl, by rw [all_signs a pb]; exact hR H2 hT⟩
end
end MyG

set_option Elab.async false
set_option linter.all false
set_option maxRecDepth 100000
set_option maxHeartbeats 4000000
/-! set(xs) of a list or a tuple, by what one adding does: J i h says what the set at S holds of the first i items in the heap h. -/
namespace MyS
open PySem PySem.Spec PyProof.Rows L2
section
variable {P : Program} {w : World} {A : Around} {E : Value → Shared → Prop} {s : Shared}
/-- one adding -/
def Adds (P : Program) (w : World) (A : Around) (S : Addr) (h0 : Heap) (J : Nat → Heap → Prop) (i : Nat) (v : Value) : Prop :=
  ∀ (z : Shared) (Q : Bool → Shared → Prop) (E : Value → Shared → Prop), J i z.heap → (∀ b o, h0.get? b = some o → z.heap.get? b = some o) →
    (∀ b h' tk, z.toks ≤ tk → Heap.SameBut S z.heap h' → J (i + 1) h' → Q b { z with heap := h', toks := tk }) → wpAny (model P w) A (setAdd S v) Q E z
def KeepsJ (S : Addr) (h0 : Heap) (J : Nat → Heap → Prop) : Prop := ∀ i h h', J i h → (∀ o, h.get? S = some o → h'.get? S = some o) → (∀ b o, h0.get? b = some o → h'.get? b = some o) → J i h'
theorem loopJ {I : Addr} {fp wr : List Addr} {G : Array GenState → Array GenState → Prop} {n : Nat} {Pv : Nat → Value → Prop} {St : Nat → Shared → Prop} {R : Result → Shared → Prop} {J : Nat → Heap → Prop} {S : Addr} {h0 : Heap}
    (W : WalksS P w A.in1 I fp wr G n Pv St) (hSf : S ∉ fp) (hS0 : h0.get? S = none) (hw0 : ∀ b ∈ wr, h0.get? b = none) (kj : KeepsJ S h0 J) (step : ∀ i v, i < n → Pv i v → Adds P w A.in1 S h0 J i v) :
    ∀ (k i : Nat) (z : Shared), n - i = k → i ≤ n → St i z → (∀ b o, h0.get? b = some o → z.heap.get? b = some o) → J i z.heap →
      (∀ z', Moved (S :: wr) G z z' → J n z'.heap → (∀ b o, h0.get? b = some o → z'.heap.get? b = some o) → R (.ok (.ret .none)) z') →
      codeAny (model P w) A (.builtin "set.update.loop" ⟨[.ref S, .ref I], []⟩) R z := by
  have Sw : S ∉ wr := fun h => hSf (W.sub _ h)
  have up : ∀ b ∈ wr, b ∈ S :: wr := fun b hb => List.mem_cons_of_mem _ hb
  have old : ∀ {z z' : Shared}, Moved wr G z z' → (∀ b o, h0.get? b = some o → z.heap.get? b = some o) → ∀ b o, h0.get? b = some o → z'.heap.get? b = some o := fun m k b o e =>
    m.heap b o (fun hb => by rw [hw0 b hb] at e; cases e) (k b o e)
  intro k
  induction k with
  | zero =>
    intro i z hk hi hst hkp hJ hR
    obtain rfl : i = n := by omega
    refine codeAny_builtin F.entry_set_update_loop ?_
    rw [Around.under_plainId F.plain_set_update_loop _]
    show wpAny _ A.in1 (pyNext (.ref I) >>= _) _ _ z
    refine wpAny_bind (W.done z _ _ hst fun z' m => ?_)
    show wpAny _ A.in1 (ret Value.none) _ _ z'
    have o' := old m hkp
    exact wpAny_pure (hR z' (m.mono up) (kj _ _ _ hJ (fun o e => m.heap S o Sw e) o') o')
  | succ k ih =>
    intro i z hk hi hst hkp hJ hR
    have lt : i < n := by omega
    refine codeAny_builtin F.entry_set_update_loop ?_
    rw [Around.under_plainId F.plain_set_update_loop _]
    show wpAny _ A.in1 (pyNext (.ref I) >>= _) _ _ z
    refine wpAny_bind (W.item i z _ _ lt hst fun v z' hP hst' m => ?_)
    have o' := old m hkp
    show wpAny _ A.in1 (holding [v] (setAdd S v) >>= _) _ _ z'
    refine wpAny_bind (wpAny_holding (step i v lt hP z' _ _ (kj _ _ _ hJ (fun o e => m.heap S o Sw e) o') o' fun b h' tk ht sb hJ2 => ?_))
    have nS : ∀ {b : Addr}, b ≠ S → ∀ o, z'.heap.get? b = some o → h'.get? b = some o := fun hb o e => (sb.2 _ hb).trans e
    have o2 : ∀ b o, h0.get? b = some o → h'.get? b = some o := fun b o e => nS (fun q => by rw [q, hS0] at e; cases e) o (o' b o e)
    refine wpAny_pure ⟨plainId_quiet F.plain_set_update_loop _, ih (i + 1) _ (by omega) lt (W.frame _ z' _ _ hst' ht fun b hb o e => nS (fun q => hSf (by rw [← q]; exact hb)) o e) o2 hJ2 fun z2 m2 hJ3 o3 => ?_⟩
    exact hR z2 (Moved.trans W.gtrans ((m.mono up).then_heap ht fun b o hb e => nS (fun q => hb (by rw [q]; exact List.mem_cons_self)) o e) m2) hJ3 o3

abbrev freshSet (w : World) : Obj := { cls := .type "set", dict := none, data := .set #[] 0 (.fresh 0 0 (!w.params.followText "set-order")) }
theorem gone_of {h : Heap} {b : Addr} (hb : h.objs.size ≤ b) : h.get? b = none := by
  cases q : h.get? b with
  | none => rfl
  | some o => exact absurd (Nat.lt_of_lt_of_le (Heap.lt_size q) hb) (Nat.lt_irrefl _)
theorem code_new (a : Value) {Q₁ : Value → Shared → Prop} (h : Q₁ (.ref s.heap.objs.size) { s with heap := s.heap.push (freshSet w) }) :
    codeAny (model P w) A (.call (.builtin "set.__new__") ⟨[.type "set", a], []⟩) (wants Q₁ E) s := code_set_led1 a h
set_option maxHeartbeats 3200000 in
/-- set(l), l a list or a tuple of n items -/
theorem call_setJ {l : Addr} {items : Array Value} {J : Nat → Heap → Prop} {Q : Value → Shared → Prop} (hh : A.handled = none) (hl : s.heap.IsList l items ∨ s.heap.IsTuple l items) (hJ0 : ∀ h, h.get? s.heap.objs.size = some (freshSet w) → J 0 h)
    (kj : KeepsJ s.heap.objs.size s.heap J) (hex : ∀ h, J items.size h → ∃ o, h.get? s.heap.objs.size = some o) (step : ∀ (A' : Around), A'.units ≤ A.units + 4 → ∀ i v, items[i]? = some v → Adds P w A' s.heap.objs.size s.heap J i v)
    (h : ∀ (h' : Heap) (tk : Nat), J items.size h' → (∀ b o, s.heap.get? b = some o → h'.get? b = some o) → (∃ o, h'.get? s.heap.objs.size = some o) → Q (.ref s.heap.objs.size) { s with heap := h', toks := tk }) :
    wpAny (model P w) A (call (.type "set") [.ref l]) Q E s := by
  obtain ⟨c, tl, hmro⟩ := F.called_set.mro
  have hmade := F.called_set.made
  have hsub := F.called_set.sub
  refine wpAny_call (codeAny_of_tree ?_)
  show wpAny _ _ (callAny (.type "set") _) _ _ _
  refine wpAny_pure ⟨Code.quiet_builtin _ (by decide +kernel), codeAny_builtin F.entry_type_call ?_⟩
  rw [Around.under_plain (weight_type_call_type "set" [.ref l] []) rfl]
  have h1 := F.called_set.notType
  have h2 := F.called_set.canCreate
  have hct := F.typeCall_set_1 (.ref l)
  repeat (any_goals (first | assumption | wp_step))

  refine codeAny_mono (code_new (.ref l) (E := E) (Q₁ := fun obj z => obj = .ref s.heap.objs.size ∧ z = { s with heap := s.heap.push (freshSet w) }) ⟨rfl, rfl⟩) fun r z hr => ?_
  cases r with
  | error e => exact hr
  | ok fl =>
    cases fl with
    | ret obj =>
      obtain ⟨rfl, rfl⟩ := hr
      have hS : (s.heap.push (freshSet w)).get? s.heap.objs.size = some (freshSet w) := Heap.get?_push_size _ rfl
      have hT : Shared.TypeIs { s with heap := s.heap.push (freshSet w) } (.ref s.heap.objs.size) "set" := ⟨_, hS, rfl⟩
      have hli := F.called_set.init.lookup
      have hbi := F.called_set.init.bind (.ref s.heap.objs.size)
      repeat (any_goals (first | assumption | wp_step))

      refine codeAny_mono (codeAny_call_builtin (R := wants (fun r z => r = .none ∧ ∃ h' tk, z = { s with heap := h', toks := tk } ∧ J items.size h' ∧ (∀ b o, s.heap.get? b = some o → h'.get? b = some o) ∧ ∃ o, h'.get? s.heap.objs.size = some o) E) F.called_set.init.plain F.entry_set_init (check_set_init_1 hT ?_)) fun r₂ z₂ hr₂ => ?_
      · have hneS : ∀ b o, s.heap.get? b = some o → b ≠ s.heap.objs.size := fun b o e z => Nat.lt_irrefl _ (z ▸ Heap.lt_size e)
        have szp : (s.heap.push (freshSet w)).objs.size = s.heap.objs.size + 1 := Heap.size_push ..
        have hu3 : (A.in1.in1.in1).units ≤ A.units + 4 := by have e : (A.in1.in1.in1).units = A.units + 3 := rfl; omega
        rcases hl with hl | hl
        · obtain ⟨ol, hol, hcl, nl, hdl⟩ := hl
          obtain ⟨ocls, odict, odata, oslots⟩ := ol
          simp only at hcl hdl
          subst hcl; subst hdl
          have hol' : (s.heap.push (freshSet w)).get? l = some { cls := .type "list", dict := odict, data := .seq items nl, slots := oslots } := Heap.get?_push_of_some _ hol
          have hsls := F.sub_list_set
          have hslf := F.sub_list_frozenset
          have hne : (Value.type "list" == Value.type "dict") = false := by decide
          have hl1 : (s.heap.push (freshSet w)).IsList l items := ⟨_, hol', rfl, nl, rfl⟩
          unfold Builtin.«set.__init__» noKeywords Builtin.Frozenset.updateFrom
          generalize hPI : pyIter = PI
          wp_walk
          subst hPI

          refine wpAny_pyIter_list hl1 ?_
          refine wpAny_bind (wpAny_runValue ?_)
          have hlS : l < s.heap.objs.size := Heap.lt_size hol
          have hneI : l ≠ (s.heap.push (freshSet w)).objs.size := by
            rw [szp]; exact Nat.ne_of_lt (Nat.lt_succ_of_lt hlS)
          have hSf : s.heap.objs.size ∉ [(s.heap.push (freshSet w)).objs.size, l] := fun z => by
            rw [szp] at z
            rcases List.mem_cons.mp z with z | z
            · exact Nat.ne_of_lt (Nat.lt_succ_self _) z
            · exact Nat.ne_of_gt hlS (List.mem_singleton.mp z)
          refine loopJ (S := s.heap.objs.size) (h0 := s.heap) (J := J) ((Walks.list (show A.in1.in1.in1.handled = none by simp [hh]) _ l hneI items).toS) hSf (gone_of (Nat.le_refl _)) (fun b hb => gone_of (by
              rw [List.mem_singleton.mp hb, szp]
              exact Nat.le_succ _)) kj (fun i v _ hv => step _ hu3 i v hv) (items.size - 0) 0 _ (by omega) (Nat.zero_le _)
            ⟨⟨_, Heap.get?_push_size _ rfl, rfl, rfl⟩, (hl1.push _)⟩ (fun b o e => Heap.get?_push_of_some _ (Heap.get?_push_of_some _ e)) (hJ0 _ (Heap.get?_push_of_some _ hS)) ?_
          intro z' m hJ o'
          have hso : ∃ o, z'.heap.get? s.heap.objs.size = some o := hex _ hJ
          obtain ⟨h', g2, d', tk', os'⟩ := z'
          have eg : g2 = s.gens := m.gens
          have ed : d' = s.drawn := m.drawn
          have eo : os' = s.os := m.os
          subst eg; subst ed; subst eo
          show wpAny _ _ _ _ _ _
          refine wpAny_pure ?_
          show wpAny _ _ (ret Value.none) _ _ _
          exact wpAny_pure ⟨rfl, h', tk', rfl, hJ, o', hso⟩
        · obtain ⟨ol, hol, hcl, nl, hdl⟩ := hl
          obtain ⟨ocls, odict, odata, oslots⟩ := ol
          simp only at hcl hdl
          subst hcl; subst hdl
          have hol' : (s.heap.push (freshSet w)).get? l = some { cls := .type "tuple", dict := odict, data := .seq items nl, slots := oslots } := Heap.get?_push_of_some _ hol
          have hsls := F.sub_tuple_set
          have hslf := F.sub_tuple_frozenset
          have hne : (Value.type "tuple" == Value.type "dict") = false := by decide
          have hl1 : (s.heap.push (freshSet w)).IsTuple l items := ⟨_, hol', rfl, nl, rfl⟩
          unfold Builtin.«set.__init__» noKeywords Builtin.Frozenset.updateFrom
          generalize hPI : pyIter = PI
          wp_walk
          subst hPI

          refine wpAny_pyIter_tuple hl1 ?_
          refine wpAny_bind (wpAny_runValue ?_)
          have hlS : l < s.heap.objs.size := Heap.lt_size hol
          have hneI : l ≠ (s.heap.push (freshSet w)).objs.size := by
            rw [szp]; exact Nat.ne_of_lt (Nat.lt_succ_of_lt hlS)
          have hSf : s.heap.objs.size ∉ [(s.heap.push (freshSet w)).objs.size, l] := fun z => by
            rw [szp] at z
            rcases List.mem_cons.mp z with z | z
            · exact Nat.ne_of_lt (Nat.lt_succ_self _) z
            · exact Nat.ne_of_gt hlS (List.mem_singleton.mp z)
          refine loopJ (S := s.heap.objs.size) (h0 := s.heap) (J := J) ((Walks.tuple (show A.in1.in1.in1.handled = none by simp [hh]) _ l hneI items).toS) hSf (gone_of (Nat.le_refl _)) (fun b hb => gone_of (by
              rw [List.mem_singleton.mp hb, szp]
              exact Nat.le_succ _)) kj (fun i v _ hv => step _ hu3 i v hv) (items.size - 0) 0 _ (by omega) (Nat.zero_le _)
            ⟨⟨_, Heap.get?_push_size _ rfl, rfl, rfl⟩, (hl1.push _)⟩ (fun b o e => Heap.get?_push_of_some _ (Heap.get?_push_of_some _ e)) (hJ0 _ (Heap.get?_push_of_some _ hS)) ?_
          intro z' m hJ o'
          have hso : ∃ o, z'.heap.get? s.heap.objs.size = some o := hex _ hJ
          obtain ⟨h', g2, d', tk', os'⟩ := z'
          have eg : g2 = s.gens := m.gens
          have ed : d' = s.drawn := m.drawn
          have eo : os' = s.os := m.os
          subst eg; subst ed; subst eo
          show wpAny _ _ _ _ _ _
          refine wpAny_pure ?_
          show wpAny _ _ (ret Value.none) _ _ _
          exact wpAny_pure ⟨rfl, h', tk', rfl, hJ, o', hso⟩
      · cases r₂ with
        | error e => exact hr₂
        | ok fl₂ =>
          cases fl₂ with
          | ret r =>
            obtain ⟨rfl, h', tk, rfl, hJ, hk', ho⟩ := hr₂
            repeat (any_goals (first | assumption | wp_step))
            exact h _ _ hJ hk' ho
          | _ => exact hr₂.elim
    | _ => exact hr.elim
end
end MyS

set_option Elab.async false
set_option linter.all false
set_option maxRecDepth 100000
set_option maxHeartbeats 4000000
/-! len(set(xs)) of a list or a tuple of texts: as many as there are different ones. -/
namespace MyS
open PySem PySem.Spec PyProof.Rows L2
theorem nodup_snoc {α : Type} {l : List α} {x : α} : (l ++ [x]).Nodup ↔ l.Nodup ∧ x ∉ l := by
  rw [List.nodup_append]
  constructor
  · rintro ⟨h1, _, h3⟩
    exact ⟨h1, fun h => h3 x h x (List.mem_singleton.mpr rfl) rfl⟩
  · rintro ⟨h1, h2⟩
    refine ⟨h1, by simp, fun a ha b hb e => ?_⟩
    rw [List.mem_singleton.mp hb] at e
    exact h2 (e ▸ ha)
/-- how many different ones the first i items are: n, whole exactly if they all differ -/
structure Cnt {α : Type} (l : List α) (n : Nat) : Prop where
  le : n ≤ l.length
  eq : n = l.length ↔ l.Nodup
theorem Cnt.nil {α : Type} : Cnt ([] : List α) 0 := ⟨Nat.le_refl _, ⟨fun _ => List.nodup_nil, fun _ => rfl⟩⟩
theorem Cnt.old {α : Type} {l : List α} {n : Nat} {x : α} (c : Cnt l n) (h : x ∈ l) : Cnt (l ++ [x]) n := by
  have h1 := c.le
  refine ⟨by rw [List.length_append]; exact Nat.le_succ_of_le h1, ?_⟩
  rw [List.length_append, List.length_singleton]
  exact ⟨fun e => absurd e (by omega), fun e => absurd h (nodup_snoc.mp e).2⟩
theorem Cnt.new {α : Type} {l : List α} {n : Nat} {x : α} (c : Cnt l n) (h : x ∉ l) : Cnt (l ++ [x]) (n + 1) := by
  have h1 := c.le
  refine ⟨by rw [List.length_append, List.length_singleton]; omega, ?_⟩
  rw [List.length_append, List.length_singleton, nodup_snoc, ← c.eq]
  constructor
  · intro e; exact ⟨by omega, h⟩
  · rintro ⟨e, _⟩; omega
section
variable {P : Program} {w : World} {A : Around} {E : Value → Shared → Prop} {s : Shared}
/-- the set at S behind the first i texts -/
def JT (P : Program) (w : World) (S : Addr) (xs : List Str) (i : Nat) (h : Heap) : Prop := ∃ n M, h.SetOf (PySem.strKind P w) S M n ∧ (∀ k, M k = true ↔ k ∈ xs.take i) ∧ Cnt (xs.take i) n
theorem take_snoc {α : Type} {l : List α} {i : Nat} {x : α} (h : l[i]? = some x) : l.take (i + 1) = l.take i ++ [x] := by rw [List.take_succ, h]; rfl
theorem JT.adds {S : Addr} {xs : List Str} {h0 : Heap} {i : Nat} {x : Str} {t : Tok} (hx : xs[i]? = some x) (hb : xs.length + 1 < scanBound) : Adds P w A S h0 (JT P w S xs) i (.str x t) := by
  intro z Q E hJ hk hQ
  obtain ⟨n, M, hS, hM, hc⟩ := hJ
  have hi : i < xs.length := (List.getElem?_eq_some_iff.mp hx).1
  have hn := hc.le
  rw [List.length_take] at hn
  unfold setAdd
  refine wpAny_holding ?_
  refine wpAny_bind ((PySem.strKind P w).pyHash (k := x) (strKind_is _ _ _ _) ?_)
  refine wpAny_setAddHashed_of (knd := PySem.strKind P w) (s := { z with toks := z.toks + 1 }) (strKind_is _ _ _ _) rfl hS (by omega) fun h' sb hS2 => ?_
  refine hQ _ h' _ (Nat.le_succ _) sb ⟨_, _, hS2, fun k => ?_, ?_⟩
  · rw [take_snoc hx, Bool.or_eq_true, hM k, decide_eq_true_eq, List.mem_append, List.mem_singleton]
  · rw [take_snoc hx]
    by_cases q : M x = true
    · rw [if_pos q]
      exact hc.old ((hM x).mp q)
    · rw [if_neg q]
      exact hc.new fun m => q ((hM x).mpr m)
theorem JT.keeps {S : Addr} {xs : List Str} {h0 : Heap} : KeepsJ S h0 (JT P w S xs) := by
  rintro i h h' ⟨n, M, ⟨o, es, ep, t, ho, r⟩, hM, hc⟩ k1 _
  exact ⟨n, M, ⟨o, es, ep, t, k1 o ho, r⟩, hM, hc⟩
theorem JT.zero {S : Addr} {xs : List Str} {h : Heap} (ho : h.get? S = some (freshSet w)) : JT P w S xs 0 h := by
  refine ⟨0, fun _ => false, ⟨_, #[], 0, _, ho, ⟨rfl, rfl, rfl⟩, rfl, (fun e he => by simp at he), (fun k => by simp), by decide, rfl, rfl⟩, fun k => by simp, Cnt.nil⟩
end
section
variable {X : Cx}
/-- len(set(xs)) -/
def tLenSetS (K : PySem.W.Frag) (ta : TE) : TE := fun σ H Q => ta σ H fun x H1 => ∃ (l : Addr) (xs : List Str), x = .ref l ∧ (SqL K H1 l (xs.map V.str) ∨ SqT K H1 l (xs.map V.str)) ∧ xs.length ≤ 4000 ∧ ∀ n, Cnt xs n → Q (.int (n : Nat)) H1
theorem strs_get {ys : List Str} {us : List Value} (r : Vals (ys.map V.str) us) {i : Nat} {v : Value} (h : us[i]? = some v) : ∃ x t, ys[i]? = some x ∧ v = .str x t := by
  have hl : i < ys.length := by
    have q := (List.getElem?_eq_some_iff.mp h).1
    have e := r.length
    rw [List.length_map] at e
    omega
  obtain ⟨u, e1, e2⟩ := Vals.get r (i := i) (x := V.str ys[i]) (by rw [List.getElem?_map, List.getElem?_eq_getElem hl]; rfl)
  rw [h] at e1
  cases e1
  obtain ⟨t, e⟩ := e2
  exact ⟨ys[i], t, List.getElem?_eq_getElem hl, e⟩
theorem pe_lenSetS {a : Expr} {ta : TE} {p p2 q pos : Pos} (hc : X.calm = true) (hm : X.mg "len" = none) (hm2 : X.mg "set" = none) (ha : PE X a ta) (hg : Gl X "len" := by rfl) (hg2 : Gl X "set" := by rfl)
    (na : starEach [a] X.env = (false, eval a X.env) :: starEach [] X.env := by rfl) : PE X (.Call (.Name "len" p) [.Call (.Name "set" p2) [a] [] q] [] pos) (tLenSetS X.K ta) := by
  refine ⟨fun pins s σ H Q I h => ?_⟩
  refine Call_ (ld_blt I hg hm boot_len ?_)
  refine PyProof.Rows.callWith_builtin1 (PyProof.Rows.args_cons ?_ rfl) rfl rfl
  refine Call_ (ld_blt I hg2 hm2 boot_set ?_)
  refine PyProof.Rows.callWith_type1 (PyProof.Rows.args_cons (thn (ha.run pins s σ H _ I h) fun v s1 ⟨x, H1, I1, r1, q1⟩ => PyProof.Rows.args_nil ?_) na) na rfl
  obtain ⟨l, xs, rfl, hq, h1, q1⟩ := q1
  cases r1
  have go : ∀ (its : List Value), Vals (xs.map V.str) its → (s1.heap.IsList l its.toArray ∨ s1.heap.IsTuple l its.toArray) → wpAny (model X.prog X.w) X.A (call (.type "set") [.ref l])
      (fun v s₂ => wpAny (model X.prog X.w) X.A (spliced (backTo pos (starEach [] X.env))) (fun vs s₃ => wpAny (model X.prog X.w) X.A (call (.builtin "len") (v :: vs)) (EP X pins σ Q) X.xe s₃) X.xe s₂) X.xe s1 := fun its r hl => by
    have hsz : its.toArray.size = xs.length := by rw [List.size_toArray, ← r.length, List.length_map]
    have hbd : xs.length + 1 < scanBound := by unfold scanBound; omega
    refine call_setJ (J := JT X.prog X.w s1.heap.objs.size xs) (I1.ok.hd hc) hl (fun h ho => JT.zero ho) JT.keeps (fun h hJ => ?_) (fun A' _ i v hv => ?_) fun h' tk hJ hk _ => ?_
    · obtain ⟨n, M, ⟨o, es, ep, t, ho, _⟩, _⟩ := hJ
      exact ⟨o, ho⟩
    · obtain ⟨x, t, hx, rfl⟩ := strs_get r (i := i) (v := v) (by simpa using hv)
      exact JT.adds hx hbd
    · rw [hsz] at hJ
      obtain ⟨n, M, ⟨o, es, ep, t, ho, hex, hd, _, _, _, hf, hn⟩, hM, hcn⟩ := hJ
      rw [List.take_length] at hcn
      have I2 : Inv X pins σ H1 { s1 with heap := h', toks := tk } := I1.kept fun b o e => hk b o e
      refine PyProof.Rows.args_nil ?_
      have hle := hcn.le
      refine call_len_set ho hex hd hf (by rw [hn]; omega) ⟨.int (n : Nat), H1, I2.tok _, ⟨_, by rw [hn]⟩, q1 n hcn⟩
  rcases hq with hq | hq
  · obtain ⟨its, r, pl, hz⟩ := I1.list hq
    exact go its r (.inl pl.isList)
  · obtain ⟨its, r, pl, hz⟩ := I1.tuple hq
    exact go its r (.inr (by first | exact pl | exact pl.isTuple))
end
end MyS

set_option Elab.async false
set_option linter.all false
set_option maxRecDepth 100000
set_option maxHeartbeats 4000000
/-! len(set(xs)) of a list of tuples of texts, fewer than 64: over the library's table of a set (TabOk, go_spec, relaid_ok). -/
namespace MyS
open PySem PySem.Spec PyProof.Rows L2
section
variable {P : Program} {w : World} {A : Around} {E : Value → Shared → Prop} {s : Shared}
/-- the tuple at b has the texts k; its hash -/
abbrev IsP (P : Program) (w : World) (h : Heap) (k : List Str) (b : Addr) : Prop := IsTupleKey (PySem.strKind P w) h k b
abbrev hashP (P : Program) (w : World) (k : List Str) : Int := tupleKeyHash (PySem.strKind P w) k
theorem IsP.keep {h h' : Heap} {k : List Str} {b : Addr} (x : IsP P w h k b) (hk : ∀ o, h.get? b = some o → h'.get? b = some o) : IsP P w h' k b :=
  let ⟨o, items, n, ho, r⟩ := x; ⟨o, items, n, hk o ho, r⟩
theorem strs_of {k : List Str} {vs : List Value} (h : ItemsAre (PySem.strKind P w) k vs) : ∀ v ∈ vs, ∃ x t, v = Value.str x t := by
  induction h with
  | nil => intro v hv; cases hv
  | @cons k0 v' ks vs h1 _ ih =>
    intro v hv
    rcases List.mem_cons.mp hv with e | hv
    · obtain ⟨t, e2⟩ := Value.isStrOf_shape h1
      exact ⟨k0, t, e.trans e2⟩
    · exact ih v hv
/-- a text is of no class statement -/
theorem noClass_str (n : Nat) (x : Str) (t : Tok) : ofAClassStatement n (.str x t) = pure false := by cases n <;> rfl
theorem hashBy_str (n : Nat) (x : Str) (t : Tok) : hashByValue n (.str x t) = pure false := by cases n <;> rfl
theorem noClass {k : List Str} {b : Addr} {Q : Bool → Shared → Prop} (hk : IsP P w s.heap k b) (h : Q false s) : wpAny (model P w) A (ofAClassStatement 8 (.ref b)) Q E s := by
  have hT := hk.typeIs
  obtain ⟨o, items, n, ho, _, hd, hi⟩ := hk
  unfold ofAClassStatement
  refine wpAny_bind (wpAny_typeOf hT ?_)
  have e : (("tuple" : String) == "tuple") = true := by decide
  simp only [e, if_true, Bool.not_true, Bool.false_eq_true, if_false]
  try refine wpAny_bind (wpAny_pure ?_)
  try simp only [Bool.not_true, Bool.false_eq_true, if_false]
  show wpAny _ _ (seqItems? (.ref b) >>= _) _ _ s
  refine wpAny_bind (wpAny_seqItems ho hd ?_)
  refine wpAny_bind ?_
  show wpAny _ _ (forIn items _ _) _ _ s
  rw [← Array.forIn_toList]
  refine wpAny_forIn_list _ (fun rest r z => r.1 = none ∧ z = s ∧ ∀ v ∈ rest, ∃ x t, v = Value.str x t) _ ?_ ?_ _ _ ⟨rfl, rfl, strs_of hi⟩
  · rintro v rest r z ⟨hr, rfl, hall⟩
    obtain ⟨x, t, rfl⟩ := hall v List.mem_cons_self
    rw [noClass_str]
    refine wpAny_bind (wpAny_pure ?_)
    simp only [Bool.false_eq_true, if_false]
    exact wpAny_pure ⟨rfl, rfl, fun u hu => hall u (List.mem_cons_of_mem _ hu)⟩
  · rintro ⟨r1, r2⟩ z ⟨hr, rfl, _⟩
    simp only at hr
    subst hr
    exact wpAny_pure h
/-- whether the hash is by value: either answer will do -/
theorem hashBy {k : List Str} {b : Addr} {Q : Bool → Shared → Prop} (hk : IsP P w s.heap k b) (h : ∀ r, Q r s) : wpAny (model P w) A (hashByValue 8 (.ref b)) Q E s := by
  have hT := hk.typeIs
  obtain ⟨o, items, n, ho, _, hd, hi⟩ := hk
  unfold hashByValue
  refine wpAny_bind (wpAny_specialOf hT F.slot_tuple_hash.lookup ?_)
  show wpAny _ _ (seqItems? (.ref b) >>= _) _ _ s
  refine wpAny_bind (wpAny_seqItems ho hd ?_)
  refine wpAny_bind ?_
  show wpAny _ _ (forIn items _ _) _ _ s
  rw [← Array.forIn_toList]
  refine wpAny_forIn_list _ (fun rest r z => r.1 = none ∧ z = s ∧ ∀ v ∈ rest, ∃ x t, v = Value.str x t) _ ?_ ?_ _ _ ⟨rfl, rfl, strs_of hi⟩
  · rintro v rest r z ⟨hr, rfl, hall⟩
    obtain ⟨x, t, rfl⟩ := hall v List.mem_cons_self
    rw [hashBy_str]
    refine wpAny_bind (wpAny_pure ?_)
    simp only [Bool.not_false, if_true]
    exact wpAny_pure (wpAny_pure (h _))
  · rintro ⟨r1, r2⟩ z ⟨hr, rfl, _⟩
    simp only at hr
    subst hr
    exact wpAny_pure (h _)
/-- a search among such tuples shows nothing -/
theorem unseen {k : List Str} {b : Addr} {Q : Bool → Shared → Prop} (hk : IsP P w s.heap k b) {ys : List Value} (hy : ∀ y ∈ ys, ∃ k' c, y = Value.ref c ∧ IsP P w s.heap k' c) (h : Q false s) :
    wpAny (model P w) A (searchCouldBeSeen (.ref b) ys) Q E s := by
  unfold searchCouldBeSeen
  refine wpAny_bind ?_
  refine wpAny_forIn_list _ (fun rest r z => r.1 = none ∧ z = s ∧ ∀ y ∈ rest, ∃ k' c, y = Value.ref c ∧ IsP P w s.heap k' c) _ ?_ ?_ _ _ ⟨rfl, rfl, hy⟩
  · rintro v rest r z ⟨hr, rfl, hall⟩
    obtain ⟨k', c, rfl, hc⟩ := hall v List.mem_cons_self
    have more : ∀ y ∈ rest, ∃ k' c, y = Value.ref c ∧ IsP P w z.heap k' c := fun u hu => hall u (List.mem_cons_of_mem _ hu)
    by_cases hv : (b == c || (carriedByValue (.ref b) && carriedByValue (.ref c))) = true
    · refine wp_if_pos hv ?_
      exact wpAny_pure ⟨rfl, rfl, more⟩
    · refine wp_if_neg hv ?_
      refine wpAny_bind (wpAny_eqIsQuiet_tuple hk ?_)
      simp only [Bool.not_true, Bool.false_eq_true, if_false]
      refine wpAny_bind (wpAny_eqIsQuiet_tuple hc ?_)
      simp only [Bool.not_true, Bool.false_eq_true, if_false]
      refine wpAny_bind (noClass hk ?_)
      simp only [Bool.false_eq_true, if_false]
      refine wpAny_bind (noClass hc ?_)
      simp only [Bool.false_eq_true, if_false]
      exact wpAny_pure ⟨rfl, rfl, more⟩
  · rintro ⟨r1, r2⟩ z ⟨hr, rfl, _⟩
    simp only at hr
    subst hr
    exact wpAny_pure h

/-! ### the set at a, its tuples in the table's order -/
def rowP (P : Program) (w : World) (p : Addr × List Str) : Int × Value := (hashP P w p.2, .ref p.1)
structure PSet (P : Program) (w : World) (h : Heap) (a : Addr) (L : List (Addr × List Str)) (es : Array (Int × Value)) (ep : Nat) (t : SetTable) : Prop where
  ob : ∃ o, h.get? a = some o ∧ o.ExactSet ∧ o.data = .set es ep t
  rows : es.toList = L.map (rowP P w)
  tab : TabOk t (L.map fun p => hashP P w p.2)
  nd : (L.map (·.2)).Nodup
  tup : ∀ p ∈ L, IsP P w h p.2 p.1
  room : L.length * 5 < t.mask * 3
  few : L.length < 64
variable {a : Addr} {L : List (Addr × List Str)} {es : Array (Int × Value)} {ep : Nat} {t : SetTable}
theorem PSet.size (R : PSet P w s.heap a L es ep t) : es.size = L.length := by
  have h := congrArg List.length R.rows
  rwa [Array.length_toList, List.length_map] at h
theorem PSet.fits (R : PSet P w s.heap a L es ep t) : t.fits es.size = true := by
  have h1 := R.tab.sz
  rw [List.length_map] at h1
  have h2 := R.size
  have h3 := R.room
  unfold SetTable.fits SetTable.fill
  rw [R.tab.dm, Bool.and_eq_true, beq_iff_eq, decide_eq_true_eq]
  show t.place.size = es.size ∧ t.place.size + 0 ≤ t.mask
  omega
theorem PSet.entry (R : PSet P w s.heap a L es ep t) {i : Nat} {p : Addr × List Str} (h : L[i]? = some p) : es[i]? = some (rowP P w p) := by
  rw [← Array.getElem?_toList, R.rows, List.getElem?_map, h]
  rfl
/-- the way of the hash g through the table: the probe behind k steps -/
abbrev stepP (m : Nat) (g : Int) (k : Nat) : SetTable.Probe := nth m (runAt m (SetTable.bits g % (m + 1)) (SetTable.bits g)) k
theorem stepP_add (m : Nat) (g : Int) (c q : Nat) : nth m (stepP m g c) q = stepP m g (c + q) := (nth_add m c _ q).symm
theorem stepP_clean (m : Nat) (g : Int) (c : Nat) : (stepP m g c).dummy = none := by
  have key : ∀ (n : Nat) (p : SetTable.Probe), p.dummy = none → (nth m p n).dummy = none := by
    intro n
    induction n with
    | zero => intro p h; exact h
    | succ n ih =>
      intro p h
      refine ih (adv m p) ?_
      unfold adv
      split <;> exact h
  exact key c _ rfl
/-- what is asked of the search for k among L: found, or the first free slot of the way -/
structure Seek (P : Program) (w : World) (t : SetTable) (L : List (Addr × List Str)) (k : List Str) (K : Nat) (Q : SetFound → Shared → Prop) (z : Shared) : Prop where
  few : K < 10 * SetTable.turns t.mask
  free : way t.mask (hashP P w k) K ∉ t.place.toList
  full : ∀ c, c < K → way t.mask (hashP P w k) c ∈ t.place.toList
  hit : k ∈ L.map (·.2) → Q (.there none) z
  miss : k ∉ L.map (·.2) → Q (.free (way t.mask (hashP P w k) K) false) z
theorem seek {x : Addr} {k : List Str} {K : Nat} {Q : SetFound → Shared → Prop} (R : PSet P w s.heap a L es ep t) (hx : IsP P w s.heap k x) (hu : A.units < cLine) (B : Seek P w t L k K Q s) :
    ∀ (f c : Nat) (stand : Option SetTable.Probe), stand.getD (t.probeStart (hashP P w k)) = stepP t.mask (hashP P w k) c → c ≤ K → K - c < f →
      (∀ (i : Nat) p, L[i]? = some p → p.2 = k → ∃ c', c ≤ c' ∧ c' < K ∧ t.place.toList[i]? = some (way t.mask (hashP P w k) c')) →
      wpAny (model P w) A (setSearchFrom a (.ref x) (hashP P w k) true f stand) Q E s
  | 0, c, stand, _, _, hf, _ => absurd hf (Nat.not_lt_zero _)
  | f + 1, c, stand, hst, hc, hf, hre => by
    obtain ⟨o, ho, hex, hd⟩ := R.ob
    rw [setSearchFrom_succ]
    refine wpAny_bind (wpAny_setState_of ho hd R.fits ?_)
    dsimp only
    refine wp_if_neg (by unfold SetTable.gaveWay; rw [mask_odd R.tab.mok]; decide) ?_
    try refine wpAny_bind (wpAny_pure ?_)
    have at_ : ∀ q, (nth t.mask (stepP t.mask (hashP P w k) c) q).j = way t.mask (hashP P w k) (c + q) := fun q => congrArg SetTable.Probe.j (stepP_add _ _ _ _)
    have hashAt : ∀ (i : Nat) p, L[i]? = some p → (fun i => (es[i]?.map (·.1)).getD 0) i = hashP P w p.2 := fun i p hp => by
      show (es[i]?.map (·.1)).getD 0 = _
      rw [R.entry hp]
      rfl
    rcases go_spec t R.tab.ris R.tab.dm (fun i => (es[i]?.map (·.1)).getD 0) (hashP P w k) (10 * SetTable.turns t.mask) (K - c) _ (stepP_clean t.mask (hashP P w k) c) (by have := B.few; omega)
      (fun q hq => by rw [at_]; exact B.full (c + q) (by omega)) (by rw [at_, show c + (K - c) = K by omega]; exact B.free) with ⟨q, i, hq, hi, hh, hno, hpr⟩ | ⟨hno, hpr⟩
    · -- a candidate: the entry i at the slot of the step c + q
      have hpr' : t.probe (fun i => (es[i]?.map (·.1)).getD 0) (hashP P w k) (stand.getD (t.probeStart (hashP P w k))) = some (.candidate (way t.mask (hashP P w k) (c + q)) i (stepP t.mask (hashP P w k) (c + (q + 1)))) := by
        rw [hst, ← at_, ← stepP_add]
        exact hpr
      rw [hpr']
      dsimp only
      rw [at_] at hi
      have hil : i < L.length := by
        have h1 : i < t.place.toList.length := (List.getElem?_eq_some_iff.mp hi).1
        have h2 := R.tab.sz
        rw [List.length_map] at h2
        rw [Array.length_toList] at h1
        omega
      obtain ⟨p, hp⟩ : ∃ p, L[i]? = some p := ⟨_, List.getElem?_eq_getElem hil⟩
      have pm : p ∈ L := List.mem_of_getElem? hp
      have rest : wpAny (model P w) A (searchRest a (.ref x) (hashP P w k) true f es t (way t.mask (hashP P w k) (c + q)) i (stepP t.mask (hashP P w k) (c + (q + 1)))) Q E s := by
        unfold searchRest
        rw [R.entry hp]
        dsimp only [rowP]
        refine wpAny_bind (wpAny_holding (wpAny_eqBool_tuple hu (R.tup p pm) hx ?_))
        refine wpAny_bind (wpAny_setState_of ho hd R.fits ?_)
        dsimp only
        by_cases hkk : p.2 = k
        · refine wp_if_pos (by simp [hkk]) ?_
          exact wpAny_pure (B.hit (List.mem_map.mpr ⟨p, pm, hkk⟩))
        · refine wp_if_neg (by simp [hkk]) ?_
          try refine wpAny_bind (wpAny_pure ?_)
          rw [sameMem]
          dsimp only
          have hsl : t.slot (way t.mask (hashP P w k) (c + q)) = .live i := slot_live R.tab.ris hi
          simp only [if_true, hsl, R.entry hp, rowP]
          refine wpAny_bind (wpAny_isSame_ref_self (wpAny_bind (wpAny_pure ?_)))
          simp only [if_true]
          refine wp_if_neg (by simp [hkk]) ?_
          refine seek R hx hu B f (c + (q + 1)) _ rfl (by omega) (by omega) fun i0 p0 h0 hk0 => ?_
          obtain ⟨c', a1, a2, a3⟩ := hre i0 p0 h0 hk0
          refine ⟨c', ?_, a2, a3⟩
          -- what has k is not behind us
          rcases Nat.lt_trichotomy c' (c + q) with y | y | y
          · exact absurd ((hashAt i0 p0 h0).trans (congrArg (hashP P w) hk0)) (hno (c' - c) i0 (by omega) (by rw [at_, show c + (c' - c) = c' by omega]; exact a3))
          · rw [y] at a3
            have s0 := (slot_live R.tab.ris a3).symm.trans hsl
            injection s0 with s0
            rw [s0, hp] at h0
            cases h0
            exact absurd hk0 hkk
          · omega
      by_cases hl : t.led = true
      · refine wp_if_neg (by simp [hl]) ?_
        try refine wpAny_bind (wpAny_pure ?_)
        exact rest
      · refine wp_if_pos (by simp [hl]) ?_
        refine wpAny_bind (unseen hx (fun y hy => ?_) ?_)
        · obtain ⟨e, he, ee⟩ := List.mem_map.mp hy
          have he1 : e ∈ es ∧ e.1 = hashP P w k := by simpa using he
          have he2 : e ∈ es.toList := by simpa using he1.1
          rw [R.rows] at he2
          obtain ⟨p2, hp2, e2⟩ := List.mem_map.mp he2
          exact ⟨p2.2, p2.1, by rw [← ee, ← e2]; rfl, R.tup p2 hp2⟩
        · refine wp_if_neg (by decide) ?_
          try refine wpAny_bind (wpAny_pure ?_)
          exact rest
    · -- the way's first free slot
      have hpr' : t.probe (fun i => (es[i]?.map (·.1)).getD 0) (hashP P w k) (stand.getD (t.probeStart (hashP P w k))) = some (.empty (way t.mask (hashP P w k) K) none) := by
        have e2 : way t.mask (hashP P w k) K = (nth t.mask (stepP t.mask (hashP P w k) c) (K - c)).j := by rw [at_, show c + (K - c) = K by omega]
        rw [hst, e2]
        exact hpr
      rw [hpr']
      dsimp only
      refine wpAny_pure (B.miss fun hm => ?_)
      obtain ⟨p0, h0, hk0⟩ := List.mem_map.mp hm
      obtain ⟨i0, hi0, e0⟩ := List.getElem_of_mem h0
      have h00 : L[i0]? = some p0 := by rw [List.getElem?_eq_getElem hi0, e0]
      obtain ⟨c', a1, a2, a3⟩ := hre i0 p0 h00 hk0
      exact hno (c' - c) i0 (by omega) (by rw [at_, show c + (c' - c) = c' by omega]; exact a3) ((hashAt i0 p0 h00).trans (congrArg (hashP P w) hk0))
/-- the search as adding asks for it -/
theorem seek_all {x : Addr} {k : List Str} {Q : SetFound → Shared → Prop} (R : PSet P w s.heap a L es ep t) (hx : IsP P w s.heap k x) (hu : A.units < cLine) (hit : k ∈ L.map (·.2) → Q (.there none) s)
    (miss : ∀ K, k ∉ L.map (·.2) → way t.mask (hashP P w k) K ∉ t.place.toList → (∀ c, c < K → way t.mask (hashP P w k) c ∈ t.place.toList) → Q (.free (way t.mask (hashP P w k) K) false) s) :
    wpAny (model P w) A (setSearch a (.ref x) (hashP P w k) true) Q E s := by
  have hroom := R.room
  obtain ⟨K, f1, f2, f3⟩ := R.tab.first (by rw [List.length_map]; omega) (hashP P w k)
  have big : K < 100000 := by
    have : 10 * SetTable.turns t.mask ≤ 1420 := by
      unfold SetTable.turns
      rcases R.tab.mok with e | e | e <;> omega
    omega
  unfold setSearch
  refine seek R hx hu ⟨f1, f2, f3, hit, fun hn => miss K hn f2 f3⟩ 100000 0 none rfl (Nat.zero_le _) (by omega) fun i p hp hk => ?_
  have hi : (L.map fun p => hashP P w p.2)[i]? = some (hashP P w k) := by rw [List.getElem?_map, hp, ← hk]; rfl
  have hil : i < t.place.toList.length := by
    have h1 : i < L.length := (List.getElem?_eq_some_iff.mp hp).1
    have h2 := R.tab.sz
    rw [List.length_map] at h2
    rw [Array.length_toList]
    omega
  obtain ⟨c, hc, e⟩ := R.tab.before f2 hi (List.getElem?_eq_getElem hil)
  exact ⟨c, Nat.zero_le _, hc, by rw [List.getElem?_eq_getElem hil, e]⟩
/-- the entries in another order -/
theorem reorder {α : Type} (row : α → Int × Value) (L : List α) (es : Array (Int × Value)) (order : Array Nat) (hr : es.toList = L.map row) (hp : order.toList.Perm (List.range L.length)) :
    ∃ L2 : List α, (order.filterMap (es[·]?)).toList = L2.map row ∧ L2.Perm L ∧ (L2.map fun p => (row p).1) = order.toList.map fun i => (es.map (·.1)).getD i 0 := by
  have at_ : ∀ i, es[i]? = (L[i]?).map row := fun i => by rw [← Array.getElem?_toList, hr, List.getElem?_map]
  have all : (List.range L.length).filterMap (fun i => L[i]?) = L := by
    have key : ∀ n, n ≤ L.length → (List.range n).filterMap (fun i => L[i]?) = L.take n := by
      intro n
      induction n with
      | zero => intro _; rfl
      | succ n ih =>
        intro hn
        have hlt : n < L.length := hn
        rw [List.range_succ, List.filterMap_append, ih (Nat.le_of_lt hlt), List.take_succ, List.getElem?_eq_getElem hlt]
        simp [List.getElem?_eq_getElem hlt]
    rw [key L.length (Nat.le_refl _), List.take_length]
  refine ⟨order.toList.filterMap (fun i => L[i]?), ?_, ?_, ?_⟩
  · rw [Array.toList_filterMap, List.map_filterMap]
    congr 1
    funext i
    exact at_ i
  · have h := hp.filterMap (fun i => L[i]?)
    rwa [all] at h
  · have hlt : ∀ i ∈ order.toList, i < L.length := fun i hi => List.mem_range.mp (hp.mem_iff.mp hi)
    generalize order.toList = l at hlt
    induction l with
    | nil => rfl
    | cons i l ih =>
      have hi := hlt i List.mem_cons_self
      rw [List.filterMap_cons_some (List.getElem?_eq_getElem hi), List.map_cons, List.map_cons, ih fun j hj => hlt j (List.mem_cons_of_mem _ hj)]
      have e5 : (es.map (·.1))[i]? = some (row L[i]).1 := by rw [Array.getElem?_map, at_, List.getElem?_eq_getElem hi]; rfl
      simp [Array.getD_eq_getD_getElem?, e5]
end
end MyS

set_option Elab.async false
set_option linter.all false
set_option maxRecDepth 100000
set_option maxHeartbeats 4000000
/-! A tuple of texts is added to a set; len(set(xs)) of a list of such. -/
namespace MyS
open PySem PySem.Spec PyProof.Rows L2
section
variable {P : Program} {w : World} {A : Around} {E : Value → Shared → Prop} {s : Shared}
variable {a : Addr} {L : List (Addr × List Str)} {es : Array (Int × Value)} {ep : Nat} {t : SetTable}
theorem IsP.other {h h' : Heap} {k : List Str} {a b : Addr} {o : Obj} {es : Array (Int × Value)} {ep : Nat} {t : SetTable} (hb : IsP P w h k b) (ho : h.get? a = some o) (hd : o.data = .set es ep t) (hs : Heap.SameBut a h h') : IsP P w h' k b := by
  obtain ⟨o', items, n, ho', r⟩ := hb
  have hne : b ≠ a := fun z => by
    rw [z, ho] at ho'
    cases ho'
    rw [hd] at r
    exact nomatch r.2.1
  exact ⟨o', items, n, (hs.2 b hne).trans ho', r⟩
/-- TabOk looks at the places, the dummies and the mask alone -/
theorem tabOk_congr {t u : SetTable} {hs : List Int} (T : TabOk t hs) (e1 : u.place = t.place) (e2 : u.dummies = t.dummies) (e3 : u.mask = t.mask) : TabOk u hs := by
  obtain ⟨h1, h2, h3, h4, h5, h6⟩ := T
  constructor
  · rw [e1]; exact h1
  · rw [e2]; exact h2
  · rw [e1]; exact h3
  · rw [e3]; exact h4
  · intro x hx; rw [e3]; rw [e1] at hx; exact h5 x hx
  · intro i g j hi hj
    rw [e1] at hj
    obtain ⟨k, c1, c2⟩ := h6 i g j hi hj
    exact ⟨k, by rw [e3]; exact c1, fun k' hk' => by rw [e3, e1]; exact c2 k' hk'⟩
/-- the table laid anew, larger -/
theorem relayP {o : Obj} (ho : s.heap.get? a = some o) (hex : o.ExactSet) (hd : o.data = .set es ep t) (rows : es.toList = L.map (rowP P w)) (T : TabOk t (L.map fun p => hashP P w p.2)) (hfl : L.length ≤ t.mask)
    (nd : (L.map (·.2)).Nodup) (tup : ∀ p ∈ L, IsP P w s.heap p.2 p.1) (few : L.length < 64) {wanted M : Nat}
    (hw : SetTable.sizeAbove wanted - 1 = M) (hM : MaskOk M) (hw2 : SetTable.sizeAbove wanted ≤ 128) (hn : L.length * 5 < M * 3) {Q : Unit → Shared → Prop}
    (hQ : ∀ h' L' es' ep' t', Heap.SameBut a s.heap h' → PSet P w h' a L' es' ep' t' → L'.Perm L → Q () { s with heap := h' }) : wpAny (model P w) A (setRelay a wanted) Q E s := by
  have hsl : es.size = L.length := by
    have h := congrArg List.length rows
    rwa [Array.length_toList, List.length_map] at h
  have hsz := T.sz
  rw [List.length_map] at hsz
  have hfits : t.fits es.size = true := by
    unfold SetTable.fits SetTable.fill
    rw [T.dm, Bool.and_eq_true, beq_iff_eq, decide_eq_true_eq]
    show t.place.size = es.size ∧ t.place.size + 0 ≤ t.mask
    omega
  obtain ⟨t', order, e, hp, T', em, el, epl, ed⟩ := relaid_ok t (hs := es.map (·.1)) (wanted := wanted) hw hM (by rw [Array.size_map, hsl]; omega)
  rw [Array.size_map, hsl] at hp
  obtain ⟨L2, r1, r2, r3⟩ := reorder (rowP P w) L es order rows hp
  rw [← r3] at T'
  have hs2 : (order.filterMap (es[·]?)).size = es.size := by
    have h := congrArg List.length r1
    rw [Array.length_toList, List.length_map, r2.length_eq] at h
    rw [h, hsl]
  rw [setRelay_eq]
  refine wpAny_bind (wpAny_setState_of ho hd hfits ?_)
  dsimp only
  refine wp_if_neg (by rw [sizeLine_eq]; omega) ?_
  try refine wpAny_bind (wpAny_pure ?_)
  rw [e]
  dsimp only
  refine wpAny_bind ?_
  refine wp_if_neg (by rw [hs2]; simp) ?_
  try refine wpAny_bind (wpAny_pure ?_)
  refine wpAny_pure ?_
  dsimp only
  refine wpAny_storeSet_of ho hd ?_ (by rw [hs2, hsl, sizeLine_eq]; omega)
  have sb : Heap.SameBut a s.heap (s.heap.update a (Obj.putSet (order.filterMap (es[·]?)) t')) := Heap.SameBut.update ..
  refine hQ _ L2 (order.filterMap (es[·]?)) (ep + 1) t' sb ⟨⟨_, store_at ho hd, ⟨hex.1, hex.2.1, hex.2.2⟩, rfl⟩, r1, T', (r2.map (·.2)).nodup_iff.mpr nd, fun p hpm => (tup p (r2.mem_iff.mp hpm)).other ho hd sb, ?_, by rw [r2.length_eq]; exact few⟩ r2
  rw [r2.length_eq, em]
  exact hn
theorem put_perm' {α : Type} (L : List α) (p : Nat) (x : α) : (L.take p ++ x :: L.drop p).Perm (x :: L) := L2.put_perm L p x
/-- the tail of an adding: the new tuple is laid down, and the table grows where it is too full -/
theorem tailP {o : Obj} (ho : s.heap.get? a = some o) (hex : o.ExactSet) (hd : o.data = .set es ep t) {L1 : List (Addr × List Str)} {es1 : Array (Int × Value)} {u : SetTable} (hsl : es.size = L.length) (hmok : MaskOk t.mask) (hroom : L.length * 5 < t.mask * 3)
    (hin : es1.toList = L1.map (rowP P w)) (T : TabOk u (L1.map fun p => hashP P w p.2)) (hmask : u.mask = t.mask) (hps : u.place.size = L.length + 1) (hlen : L1.length = L.length + 1) (nd1 : (L1.map (·.2)).Nodup) (tup1 : ∀ h', Heap.SameBut a s.heap h' → ∀ p ∈ L1, IsP P w h' p.2 p.1) (hfew : L.length + 1 < 64) {Q : Bool → Shared → Prop}
    (hQ : ∀ h' L' es' ep' t', Heap.SameBut a s.heap h' → PSet P w h' a L' es' ep' t' → L'.Perm L1 → Q true { s with heap := h' }) :
    wpAny (model P w) A (do
      storeSet a es1 u
      if !false && u.tooFull then setRelay a (SetTable.grown (es.size + 1))
      return true) Q E s := by
  have hes : es1.size = L.length + 1 := by
    have h := congrArg List.length hin
    rw [Array.length_toList, List.length_map, hlen] at h
    exact h
  refine wpAny_bind (wpAny_storeSet_of ho hd ?_ (by rw [hes, sizeLine_eq]; omega))
  have sb : Heap.SameBut a s.heap (s.heap.update a (Obj.putSet es1 u)) := Heap.SameBut.update ..
  have ho1 := store_at (es' := es1) (t' := u) ho hd
  have tup2 := tup1 _ sb
  generalize s.heap.update a (Obj.putSet es1 u) = h1 at sb ho1 tup2 ⊢
  have hfill : u.tooFull = true ↔ (L.length + 1) * 5 ≥ u.mask * 3 := by
    unfold SetTable.tooFull SetTable.fill
    rw [decide_eq_true_eq, T.dm]
    show (u.place.size + 0) * 5 ≥ u.mask * 3 ↔ _
    rw [hps]
  by_cases hf : u.tooFull = true
  · first
      | (refine wpAny_bind ?_; refine wp_if_pos (by simp [hf]) ?_)
      | (refine wp_if_pos (by simp [hf]) ?_; refine wpAny_bind ?_)
    have hfull := hfill.mp hf
    rw [hmask] at hfull
    rw [hsl]
    have cases2 : (t.mask = 7 ∧ L.length = 4) ∨ (t.mask = 31 ∧ L.length = 18) := by
      rcases hmok with e | e | e
      · left; rw [e] at hfull hroom; exact ⟨e, by omega⟩
      · right; rw [e] at hfull hroom; exact ⟨e, by omega⟩
      · exfalso; rw [e] at hfull; omega
    have go : ∀ M, SetTable.sizeAbove (SetTable.grown (L.length + 1)) - 1 = M → MaskOk M → SetTable.sizeAbove (SetTable.grown (L.length + 1)) ≤ 128 → (L.length + 1) * 5 < M * 3 →
        wpAny (model P w) A (setRelay a (SetTable.grown (L.length + 1))) (fun _ s' => wpAny (model P w) A (pure true) Q E s') E { s with heap := h1 } := fun M h1' h2' h3' h4' => by
      refine relayP (s := { s with heap := h1 }) ho1 ⟨hex.1, hex.2.1, hex.2.2⟩ rfl hin T (by rw [hlen, hmask]; rcases cases2 with ⟨e, e2⟩ | ⟨e, e2⟩ <;> omega) nd1 tup2 (by rw [hlen]; exact hfew) h1' h2' h3' (by rw [hlen]; exact h4') ?_
      intro h2 L2 es2 ep2 t2 sb2 R2 pm2
      exact wpAny_pure (hQ h2 L2 es2 ep2 t2 (sb.trans sb2) R2 pm2)
    rcases cases2 with ⟨_, e2⟩ | ⟨_, e2⟩
    · refine go 31 (by rw [e2, size_20]) (.inr (.inl rfl)) (by rw [e2, size_20]; decide) (by omega)
    · refine go 127 (by rw [e2, size_76]) (.inr (.inr rfl)) (by rw [e2, size_76]; decide) (by omega)
  · first
      | refine wp_if_neg (by simp [hf]) ?_
      | (refine wpAny_bind ?_; refine wp_if_neg (by simp [hf]) ?_; refine wpAny_pure ?_)
    refine wpAny_pure (hQ h1 L1 es1 (ep + 1) u sb ⟨⟨_, ho1, ⟨hex.1, hex.2.1, hex.2.2⟩, rfl⟩, hin, T, nd1, tup2, ?_, by rw [hlen]; exact hfew⟩ (List.Perm.refl _))
    have h := mt hfill.mpr hf
    rw [hlen]
    omega
/-- ADDING: what is there stays as it is; what isn't comes to it -/
theorem addP (R : PSet P w s.heap a L es ep t) {x : Addr} {k : List Str} (hx : IsP P w s.heap k x) (hu : A.units < cLine) (hfew : L.length + 1 < 64) {Q : Bool → Shared → Prop}
    (hQ : ∀ b h' L' es' ep' t', Heap.SameBut a s.heap h' → PSet P w h' a L' es' ep' t' → (k ∈ L.map (·.2) → L' = L) → (k ∉ L.map (·.2) → L'.Perm ((x, k) :: L)) → Q b { s with heap := h' }) :
    wpAny (model P w) A (setAddHashed a (.ref x) (hashP P w k)) Q E s := by
  obtain ⟨o, ho, hex, hd⟩ := R.ob
  have hsl := R.size
  have hroom := R.room
  unfold setAddHashed
  refine wpAny_holding ?_
  rw [show (100000 : Nat) = 99999 + 1 from rfl, setAddHashedIn_succ]
  refine wpAny_bind (wpAny_setState_of ho hd R.fits ?_)
  dsimp only
  refine wp_if_neg (by simp [byScan, Value.scannable]) ?_
  try refine wpAny_bind (wpAny_pure ?_)
  refine wpAny_bind (seek_all R hx hu (fun hm => ?_) fun K hm hK hb => ?_)
  · exact wpAny_pure (hQ false s.heap L es ep t (Heap.SameBut.refl a s.heap) R (fun _ => rfl) fun z => absurd hm z)
  · dsimp only
    refine wpAny_bind (wpAny_setState_of ho hd R.fits ?_)
    dsimp only
    obtain ⟨q1, q2, q3, q4, q5, q6, q7, q8, q9⟩ := R.tab.put hK hb
    have hin : (SetTable.insertAt es (SetTable.below t.place (way t.mask (hashP P w k) K)) (hashP P w k, Value.ref x)).toList = (L.take (SetTable.below t.place (way t.mask (hashP P w k) K)) ++ (x, k) :: L.drop (SetTable.below t.place (way t.mask (hashP P w k) K))).map (rowP P w) := by
      rw [SetTable.toList_insertAt, R.rows, List.map_append, List.map_cons, List.map_take, List.map_drop]
      rfl
    have pm := put_perm' L (SetTable.below t.place (way t.mask (hashP P w k) K)) (x, k)
    have hhs : (L.take (SetTable.below t.place (way t.mask (hashP P w k) K)) ++ (x, k) :: L.drop (SetTable.below t.place (way t.mask (hashP P w k) K))).map (fun p => hashP P w p.2) = (L.map fun p => hashP P w p.2).take (SetTable.below t.place (way t.mask (hashP P w k) K)) ++ hashP P w k :: (L.map fun p => hashP P w p.2).drop (SetTable.below t.place (way t.mask (hashP P w k) K)) := by
      rw [List.map_append, List.map_cons, List.map_take, List.map_drop]
    generalize hpt : t.put (way t.mask (hashP P w k) K) = pt at q1 q3 q4 q5 q6 q7 q8 q9 ⊢
    obtain ⟨t1, p⟩ := pt
    dsimp only at q1 q3 q4 q5 q6 q7 q8 q9 ⊢
    subst q1
    generalize hpp : SetTable.below t.place (way t.mask (hashP P w k) K) = p at q2 q3 hin pm hhs ⊢
    have hlen : (L.take p ++ (x, k) :: L.drop p).length = L.length + 1 := pm.length_eq
    rw [← hhs] at q3
    have nd1 : ((L.take p ++ (x, k) :: L.drop p).map (·.2)).Nodup := by
      refine (pm.map (·.2)).nodup_iff.mpr ?_
      rw [List.map_cons]
      exact List.nodup_cons.mpr ⟨hm, R.nd⟩
    generalize SetTable.insertAt es p (hashP P w k, Value.ref x) = es1 at hin ⊢
    generalize L.take p ++ (x, k) :: L.drop p = L1 at pm hlen q3 nd1 hin
    have tup1 : ∀ h1, Heap.SameBut a s.heap h1 → ∀ p ∈ L1, IsP P w h1 p.2 p.1 := fun h1 sb p hp => by
      rcases List.mem_cons.mp (pm.mem_iff.mp hp) with e | hp
      · rw [e]; exact IsP.other hx ho hd sb
      · exact IsP.other (R.tup p hp) ho hd sb
    have hps : t1.place.size = L.length + 1 := by
      have h := q3.sz
      rw [List.length_map, hlen] at h
      exact h
    have fin : ∀ u : SetTable, u.place = t1.place → u.dummies = t1.dummies → u.mask = t1.mask → wpAny (model P w) A (do
        storeSet a es1 u
        if !false && u.tooFull then setRelay a (SetTable.grown (es.size + 1))
        return true) Q E s := fun u e1 e2 e3 =>
      tailP ho hex hd hsl R.tab.mok hroom hin (tabOk_congr q3 e1 e2 e3) (e3.trans q4) (by rw [e1]; exact hps) hlen nd1 tup1 hfew fun h' L' es' ep' t' sb R' pm' => hQ true h' L' es' ep' t' sb R' (fun z => absurd z hm) fun _ => pm'.trans pm
    have both : ∀ r : Bool, wpAny (model P w) A (do
        storeSet a es1 (if r then t1 else { t1 with plain := false })
        if !false && (if r then t1 else { t1 with plain := false }).tooFull then setRelay a (SetTable.grown (es.size + 1))
        return true) Q E s := fun r => by
      cases r
      · exact fin _ rfl rfl rfl
      · exact fin _ rfl rfl rfl
    by_cases hp1 : t1.plain = true
    · first
        | (refine wpAny_bind ?_; refine wp_if_pos hp1 ?_; refine hashBy hx fun r => ?_)
        | refine wp_if_pos hp1 (wpAny_bind (hashBy hx fun r => ?_))
      exact both r
    · first
        | (refine wpAny_bind ?_; refine wp_if_neg hp1 ?_; refine wpAny_pure ?_)
        | refine wp_if_neg hp1 (wpAny_bind (wpAny_pure ?_))
        | refine wp_if_neg hp1 ?_
      exact both true
end
end MyS

set_option Elab.async false
set_option linter.all false
set_option maxRecDepth 100000
set_option maxHeartbeats 4000000
/-! len(set(xs)) of a list or a tuple of tuples of texts, fewer than 64. -/
namespace MyS
open PySem PySem.Spec PyProof.Rows L2
section
variable {P : Program} {w : World} {A : Around} {E : Value → Shared → Prop} {s : Shared}
/-- the set at S behind the first i tuples -/
def JP (P : Program) (w : World) (h0 : Heap) (S : Addr) (ks : List (List Str)) (i : Nat) (h : Heap) : Prop :=
  ∃ L es ep t, PSet P w h S L es ep t ∧ (∀ p ∈ L, IsP P w h0 p.2 p.1) ∧ (∀ k, k ∈ L.map (·.2) ↔ k ∈ ks.take i) ∧ Cnt (ks.take i) L.length
theorem JP.adds {S : Addr} {ks : List (List Str)} {h0 : Heap} {i : Nat} {k : List Str} {x : Addr} (hx : ks[i]? = some k) (hb : ks.length < 64) (ht : IsP P w h0 k x) (hu : A.units < cLine) : Adds P w A S h0 (JP P w h0 S ks) i (.ref x) := by
  intro z Q E hJ hk hQ
  obtain ⟨L, es, ep, t, R, h0t, hM, hc⟩ := hJ
  have hi : i < ks.length := (List.getElem?_eq_some_iff.mp hx).1
  have hn := hc.le
  rw [List.length_take] at hn
  have hz : IsP P w z.heap k x := ht.keep fun o e => hk x o e
  unfold setAdd
  refine wpAny_holding ?_
  refine wpAny_bind (wpAny_pyHash_tuple hu hz ?_)
  refine addP (s := { z with toks := z.toks + (k.length + 1) }) R hz hu (by omega) fun b h' L' es' ep' t' sb R' c1 c2 => ?_
  refine hQ _ h' _ (Nat.le_add_right _ _) sb ⟨L', es', ep', t', R', ?_⟩
  rw [take_snoc hx]
  by_cases c : k ∈ L.map (·.2)
  · have e := c1 c
    subst e
    refine ⟨h0t, fun q => ?_, hc.old ((hM k).mp c)⟩
    rw [List.mem_append, List.mem_singleton, hM q]
    exact ⟨.inl, fun h => h.elim id fun e => e ▸ (hM k).mp c⟩
  · have pm := c2 c
    refine ⟨fun p hp => ?_, fun q => ?_, ?_⟩
    · rcases List.mem_cons.mp (pm.mem_iff.mp hp) with e | hp
      · rw [e]; exact ht
      · exact h0t p hp
    · rw [(pm.map (·.2)).mem_iff, List.map_cons, List.mem_cons, List.mem_append, List.mem_singleton, hM q]
      exact ⟨fun h => h.elim .inr .inl, fun h => h.elim .inr .inl⟩
    · rw [pm.length_eq, List.length_cons]
      exact hc.new fun m => c ((hM k).mpr m)
theorem JP.keeps {S : Addr} {ks : List (List Str)} {h0 : Heap} : KeepsJ S h0 (JP P w h0 S ks) := by
  rintro i h h' ⟨L, es, ep, t, R, h0t, r⟩ k1 k2
  obtain ⟨o, ho, r1⟩ := R.ob
  exact ⟨L, es, ep, t, ⟨⟨o, k1 o ho, r1⟩, R.rows, R.tab, R.nd, fun p hp => (h0t p hp).keep fun o e => k2 p.1 o e, R.room, R.few⟩, h0t, r⟩
theorem JP.zero {S : Addr} {ks : List (List Str)} {h h0 : Heap} (ho : h.get? S = some (freshSet w)) : JP P w h0 S ks 0 h := by
  refine ⟨[], #[], 0, _, ⟨⟨_, ho, ⟨rfl, rfl, rfl⟩, rfl⟩, rfl, ⟨List.Pairwise.nil, rfl, rfl, .inl rfl, fun x hx => (by cases hx), fun i h j hi => (by simp at hi)⟩, List.nodup_nil, fun p hp => (by cases hp), (by show 0 * 5 < 7 * 3; decide), (by show 0 < 64; decide)⟩, fun p hp => (by cases hp), fun k => by simp, ?_⟩
  rw [List.take_zero]
  exact Cnt.nil
end
theorem strItems_of_vals (P : Program) (w : World) : ∀ {k : List Str} {us : List Value}, Vals (k.map V.str) us → ItemsAre (PySem.strKind P w) k us
  | [], _, .nil => .nil
  | n :: k, _, .cons r t => by
    obtain ⟨tk, rfl⟩ := r
    exact .cons (strKind_is P w n tk) (strItems_of_vals P w t)
section
variable {X : Cx}
theorem Inv_isP {pins : List (Addr × Obj)} {σ : L2.St} {H : Hp} {s : Shared} {b : Addr} {k : List Str} (I : Inv X pins σ H s) (h : SqT X.K H b (k.map V.str)) : IsP X.prog X.w s.heap k b := by
  obtain ⟨its, r, ⟨o, ho, hc, n, hd⟩, _⟩ := I.tuple h
  exact ⟨o, its.toArray, n, ho, hc, hd, by simpa using strItems_of_vals _ _ r⟩
/-- len(set(xs)), xs tuples of texts -/
def tLenSetP (K : PySem.W.Frag) (ta : TE) : TE := fun σ H Q => ta σ H fun x H1 => ∃ (l : Addr) (ks : List (Addr × List Str)), x = .ref l ∧ (SqL K H1 l (ks.map fun p => V.ref p.1) ∨ SqT K H1 l (ks.map fun p => V.ref p.1)) ∧ (∀ p ∈ ks, SqT K H1 p.1 (p.2.map V.str)) ∧ ks.length < 64 ∧ ∀ n, Cnt (ks.map (·.2)) n → Q (.int (n : Nat)) H1
theorem refsP : ∀ {ks : List (Addr × List Str)} {us : List Value}, Vals (ks.map fun p => V.ref p.1) us → us = ks.map fun p => Value.ref p.1
  | [], _, .nil => rfl
  | p :: ks, _, .cons r t => by
    cases r
    rw [refsP t] <;> rfl
theorem pe_lenSetP {a : Expr} {ta : TE} {p p2 q pos : Pos} (hc : X.calm = true) (hu : X.A.units + 64 < cLine) (hm : X.mg "len" = none) (hm2 : X.mg "set" = none) (ha : PE X a ta) (hg : Gl X "len" := by rfl) (hg2 : Gl X "set" := by rfl)
    (na : starEach [a] X.env = (false, eval a X.env) :: starEach [] X.env := by rfl) : PE X (.Call (.Name "len" p) [.Call (.Name "set" p2) [a] [] q] [] pos) (tLenSetP X.K ta) := by
  refine ⟨fun pins s σ H Q I h => ?_⟩
  refine Call_ (ld_blt I hg hm boot_len ?_)
  refine PyProof.Rows.callWith_builtin1 (PyProof.Rows.args_cons ?_ rfl) rfl rfl
  refine Call_ (ld_blt I hg2 hm2 boot_set ?_)
  refine PyProof.Rows.callWith_type1 (PyProof.Rows.args_cons (thn (ha.run pins s σ H _ I h) fun v s1 ⟨x, H1, I1, r1, q1⟩ => PyProof.Rows.args_nil ?_) na) na rfl
  obtain ⟨l, ks, rfl, hq, ht, h1, q1⟩ := q1
  cases r1
  have go : ∀ (its : List Value), Vals (ks.map fun p => V.ref p.1) its → (s1.heap.IsList l its.toArray ∨ s1.heap.IsTuple l its.toArray) → wpAny (model X.prog X.w) X.A (call (.type "set") [.ref l])
      (fun v s₂ => wpAny (model X.prog X.w) X.A (spliced (backTo pos (starEach [] X.env))) (fun vs s₃ => wpAny (model X.prog X.w) X.A (call (.builtin "len") (v :: vs)) (EP X pins σ Q) X.xe s₃) X.xe s₂) X.xe s1 := fun its r hl => by
    have hits := refsP r
    have hsz : its.toArray.size = ks.length := by rw [List.size_toArray, hits, List.length_map]
    refine call_setJ (J := JP X.prog X.w s1.heap s1.heap.objs.size (ks.map (·.2))) (I1.ok.hd hc) hl (fun h ho => JP.zero ho) JP.keeps (fun h hJ => ?_) (fun A' hA i v hv => ?_) fun h' tk hJ hk _ => ?_
    · obtain ⟨L, es, ep, t, R, _⟩ := hJ
      obtain ⟨o, ho, _⟩ := R.ob
      exact ⟨o, ho⟩
    · have e1 : (ks.map fun p => Value.ref p.1)[i]? = some v := by rw [← hits]; simpa using hv
      rw [List.getElem?_map] at e1
      obtain ⟨p, hp, rfl⟩ := Option.map_eq_some_iff.mp e1
      exact JP.adds (k := p.2) (by rw [List.getElem?_map, hp]; rfl) (by rw [List.length_map]; exact h1) (Inv_isP I1 (ht p (List.mem_of_getElem? hp))) (by omega)
    · rw [hsz] at hJ
      obtain ⟨L, es, ep, t, R, _, hM, hcn⟩ := hJ
      rw [show ks.length = (ks.map (·.2)).length by rw [List.length_map], List.take_length] at hcn
      have I2 : Inv X pins σ H1 { s1 with heap := h', toks := tk } := I1.kept fun b o e => hk b o e
      refine PyProof.Rows.args_nil ?_
      have hle := hcn.le
      obtain ⟨o, ho, hex, hd⟩ := R.ob
      have hfew := R.few
      refine call_len_set ho hex hd (R.fits (s := { s1 with heap := h', toks := tk })) (by rw [R.size (s := { s1 with heap := h', toks := tk })]; omega) ⟨.int (L.length : Nat), H1, I2.tok _, ⟨_, by rw [R.size (s := { s1 with heap := h', toks := tk })]⟩, q1 L.length hcn⟩
  rcases hq with hq | hq
  · obtain ⟨its, r, pl, hz⟩ := I1.list hq
    exact go its r (.inl pl.isList)
  · obtain ⟨its, r, pl, hz⟩ := I1.tuple hq
    exact go its r (.inr (by first | exact pl | exact pl.isTuple))
end
end MyS

set_option Elab.async false
set_option linter.all false
set_option maxRecDepth 100000
set_option maxHeartbeats 4000000
/-! sorted(xs) of a list or a tuple: of texts, of pairs of texts, of tuples told apart by their first text. -/
namespace MyS
open PySem PySem.Spec PyProof.Rows L2
open SrtO hiding Str
/-! ### the order of texts -/
def slt (a b : Str) : Bool := decide (a.cps.toList < b.cps.toList)
theorem str_ext {a b : Str} (h : a.cps.toList = b.cps.toList) : a = b := by
  obtain ⟨x⟩ := a
  obtain ⟨y⟩ := b
  exact congrArg PySem.Str.mk (Array.toList_inj.mp h)
theorem slt_iff {a b : Str} : slt a b = true ↔ a.cps.toList < b.cps.toList := decide_eq_true_iff
theorem slt_no {a b : Str} : slt a b = false ↔ ¬ a.cps.toList < b.cps.toList := decide_eq_false_iff_not
theorem slt_irr (a : Str) : slt a a = false := slt_no.mpr (List.lt_irrefl _)
theorem slt_asym {a b : Str} (h : slt a b = true) : slt b a = false := slt_no.mpr fun k => List.lt_irrefl _ (List.lt_trans (slt_iff.mp h) k)
theorem slt_tri {a b : Str} (h1 : slt a b = false) (h2 : slt b a = false) : a = b :=
  str_ext (List.le_antisymm (List.not_lt.mp (slt_no.mp h2)) (List.not_lt.mp (slt_no.mp h1)))
theorem slt_ntr {x y z : Str} (h1 : slt y x = false) (h2 : slt z y = false) : slt z x = false :=
  slt_no.mpr (List.not_lt.mpr (List.le_trans (List.not_lt.mp (slt_no.mp h1)) (List.not_lt.mp (slt_no.mp h2))))
theorem slt_trans {x y z : Str} (h1 : slt x y = true) (h2 : slt y z = true) : slt x z = true := slt_iff.mpr (List.lt_trans (slt_iff.mp h1) (slt_iff.mp h2))
/-- pairs: the first, then the second -/
def slt2 (p q : Str × Str) : Bool := if p.1 = q.1 then slt p.2 q.2 else slt p.1 q.1
theorem swo_s : Swo slt := ⟨fun x y h => slt_asym h, fun x y z h1 h2 => slt_ntr h1 h2⟩
theorem slt2_eq {p q : Str × Str} (h : p.1 = q.1) : slt2 p q = slt p.2 q.2 := if_pos h
theorem slt2_ne {p q : Str × Str} (h : ¬ p.1 = q.1) : slt2 p q = slt p.1 q.1 := if_neg h
theorem swo_s2 : Swo slt2 := by
  refine ⟨fun x y h => ?_, fun x y z h1 h2 => ?_⟩
  · by_cases e : x.1 = y.1
    · rw [slt2_eq e] at h
      rw [slt2_eq e.symm]
      exact slt_asym h
    · rw [slt2_ne e] at h
      rw [slt2_ne (fun c => e c.symm)]
      exact slt_asym h
  · by_cases e : z.1 = x.1
    · rw [slt2_eq e]
      by_cases e1 : y.1 = x.1
      · rw [slt2_eq e1] at h1
        rw [slt2_eq (e.trans e1.symm)] at h2
        exact slt_ntr h1 h2
      · rw [slt2_ne e1] at h1
        rw [slt2_ne (fun c => e1 (c.symm.trans e)), e] at h2
        exact absurd (slt_tri h1 h2) e1
    · rw [slt2_ne e]
      by_cases e1 : y.1 = x.1
      · rw [slt2_ne (fun c => e (c.trans e1)), e1] at h2
        exact h2
      · rw [slt2_ne e1] at h1
        by_cases e2 : z.1 = y.1
        · rw [e2]; exact h1
        · rw [slt2_ne e2] at h2
          exact slt_ntr h1 h2
theorem swo_of {α β : Type} {lt : β → β → Bool} (O : Swo lt) (f : α → β) : Swo fun x y => lt (f x) (f y) := ⟨fun x y => O.asym (f x) (f y), fun x y z => O.tr (f x) (f y) (f z)⟩
section
variable {prog : Program} {w : World} {A : Around} {E : Value → Shared → Prop} {s : Shared}
/-- collecting a tuple -/
theorem collect_tup {l : Addr} {vs : List Value} {Q : List Value → Shared → Prop} (hl : s.heap.IsTuple l vs.toArray)
    (h : Q vs { s with heap := (s.heap.push (seqObj "list" #[] 0)).update s.heap.objs.size (Obj.mapSeq (· ++ vs.toArray)) }) (hsz : vs.length ≤ sizeLine) :
    wpAny (model prog w) A (collect (.ref l)) Q E s := by
  obtain ⟨o, ho, hc, n, hd⟩ := id hl
  unfold collect
  refine wpAny_bind (wpAny_runValue (codeAny_builtin entry_proto_collect' ?_))
  show wpAny _ _ (do again (.builtin "list.__iadd__" ⟨[← newList [], .ref l], []⟩)) _ _ s
  refine wpAny_bind (wpAny_newList (wpAny_pure ⟨Code.quiet_builtin _ (by decide +kernel), codeAny_builtin entry_list_iadd' ?_⟩))
  show wpAny _ _ (Builtin.List.listExtendWith (.ref s.heap.objs.size) (.ref l) (.ref s.heap.objs.size)) _ _ { s with heap := s.heap.push (seqObj "list" #[] 0) }
  unfold Builtin.List.listExtendWith
  have ho' : (s.heap.push (seqObj "list" #[] 0)).get? l = some o := Heap.get?_push_of_some _ ho
  refine wpAny_bind (wpAny_typeOf (T := "tuple") ⟨o, ho', hc⟩ ?_)
  have ht : (Value.type "tuple" == Value.type "tuple") = true := by rfl
  rw [if_pos (by rw [ht]; simp)]
  refine wpAny_bind (listItems_at ho' hd ?_)
  refine wpAny_bind (listItems_at (xs := #[]) (n := 0) (Heap.get?_push_size _ rfl) rfl ?_)
  rw [if_neg (by simp)]
  refine wpAny_bind (listUpdate_at (xs := #[]) (n := 0) (Heap.get?_push_size _ rfl) rfl ?_ (Nat.zero_le _) (by show (#[] ++ vs.toArray).size ≤ sizeLine + 1; simp only [Array.size_append, List.size_toArray, List.length_nil]; omega))
  refine wpAny_pure ?_
  show wpAny (model prog w) A (do
      let o ← load s.heap.objs.size
      match o.data with
      | .seq xs _ => pure xs.toList
      | _ => unsupported "internal:collect") Q E { s with heap := (s.heap.push (seqObj "list" #[] 0)).update s.heap.objs.size (Obj.mapSeq (· ++ vs.toArray)) }
  refine wpAny_bind (wpAny_load (get?_update_seq (Heap.get?_push_size _ rfl) _) ?_)
  show wpAny _ _ (pure ((#[] : Array Value) ++ vs.toArray).toList) Q E _
  rw [show ((#[] : Array Value) ++ vs.toArray).toList = vs by simp]
  exact wpAny_pure h
/-- sorted(l), l a list or a tuple -/
theorem sorted_seq {l : Addr} {vs : List Value} {ltv : Value → Value → Bool} {Q : Value → Shared → Prop} (O : Swo ltv) (hl : s.heap.IsList l vs.toArray ∨ s.heap.IsTuple l vs.toArray) (hz : vs.length ≤ sizeLine)
    (hS : 2 ≤ vs.length → ∀ (h₁ : Heap) (a : Addr), h₁.get? a = some (seqObj "list" vs.toArray 0) → (∀ b o, s.heap.get? b = some o → b ≠ a ∧ h₁.get? b = some o) → SortableO prog w A.in1.in1 { s with heap := h₁ } a vs ltv)
    (h : ∀ out : List Value, Srtd ltv out → Stb ltv out vs → Q (.ref (s.heap.objs.size + 1)) { s with heap := sortedAll s.heap vs out.toArray }) :
    wpAny (model prog w) A (call (.builtin "sorted") [.ref l]) Q E s := by
  rcases hl with hl | hl
  · exact sorted_ord O hl hz hS h
  refine Calls.call_function_entry kind_sorted plain_sorted entry_sorted (args_sorted1 _) ?_
  unfold Builtin.«sorted»
  refine wpAny_bind (m := checkCount "sorted" 1 1 _) (wpAny_pure ?_)
  refine wpAny_bind (collect_tup hl ?_ hz)
  refine wpAny_bind (wpAny_newList ?_ hz)
  have hsz : ((s.heap.push (seqObj "list" #[] 0)).update s.heap.objs.size (Obj.mapSeq (· ++ vs.toArray))).objs.size = s.heap.objs.size + 1 := by
    rw [Heap.size_update, size_push']
  have hoL : (((s.heap.push (seqObj "list" #[] 0)).update s.heap.objs.size (Obj.mapSeq (· ++ vs.toArray))).push (seqObj "list" vs.toArray 0)).get? (s.heap.objs.size + 1) = some (seqObj "list" vs.toArray 0) := by
    rw [← hsz]; exact Heap.get?_push_size _ rfl
  have keep : ∀ b o, s.heap.get? b = some o → b ≠ s.heap.objs.size + 1 ∧ (((s.heap.push (seqObj "list" #[] 0)).update s.heap.objs.size (Obj.mapSeq (· ++ vs.toArray))).push (seqObj "list" vs.toArray 0)).get? b = some o := fun b o q => by
    have hlt : b < s.heap.objs.size := Heap.lt_size q
    refine ⟨Nat.ne_of_lt (Nat.lt_succ_of_lt hlt), Heap.get?_push_of_some _ ?_⟩
    rw [Heap.get?_update_ne _ _ _ _ (Nat.ne_of_lt hlt)]
    exact Heap.get?_push_of_some _ q
  show wpAny _ _ _ _ _ { s with heap := ((s.heap.push (seqObj "list" #[] 0)).update s.heap.objs.size (Obj.mapSeq (· ++ vs.toArray))).push (seqObj "list" vs.toArray 0) }
  rw [hsz]
  refine wpAny_bind (wpAny_holding (wpAny_call_entry slot_list_sort ⟨_, hoL, rfl⟩ entry_list_sort (list_sort_ord O hoL hz (fun h2 => hS h2 _ _ hoL keep) fun out hs hb => ⟨_, rfl, ?_⟩) (args_list_sort _)))
  exact wpAny_pure ⟨_, rfl, h out hs hb⟩
/-! ### texts -/
def sv : Value → Str
  | .str x _ => x
  | _ => ⟨#[]⟩
theorem strs_cmp {vs : List Value} (hI : ∀ v ∈ vs, ∃ x t, v = Value.str x t) : Cmp prog w A s oneType' (fun p => p.1 ∈ vs) (lt2 fun v u => slt (sv v) (sv u)) := by
  intro p q hm hm'
  obtain ⟨a, t, e⟩ := hI _ hm
  obtain ⟨b, u, e'⟩ := hI _ hm'
  show wpAny (model prog w) A (keyLt' oneType' p.1 q.1) (fun r s' => s' = s ∧ r = slt (sv p.1) (sv q.1)) (fun _ _ => False) s
  rw [e, e', keyLt'_oneType]
  exact oneLt_str ⟨rfl, rfl⟩
theorem strs_sortable {a : Addr} {vs : List Value} {ss : List Str} (hI : StrsAre vs ss) (h2 : 2 ≤ vs.length) : SortableO prog w A s a vs fun v u => slt (sv v) (sv u) := by
  intro h' _
  refine ⟨oneType', fun Q E hq => ?_, strs_cmp hI.all⟩
  match vs, hI, h2 with
  | v1 :: v2 :: rest, hI, _ =>
    rw [keyKind_strs hI]
    exact wpAny_pure hq
  | [], _, h => exact absurd h (by decide)
  | [v], _, h => exact absurd h (by simp)
theorem sv_strs : ∀ {vs : List Value} {ss : List Str}, StrsAre vs ss → vs.map sv = ss
  | _, _, .nil => rfl
  | _, _, .cons n t r => congrArg (n :: ·) (sv_strs r)
theorem strs_sv : ∀ {vs : List Value}, (∀ v ∈ vs, ∃ x t, v = Value.str x t) → StrsAre vs (vs.map sv)
  | [], _ => .nil
  | v :: vs, h => by
    obtain ⟨i, t, e⟩ := h v List.mem_cons_self
    subst e
    exact .cons i t (strs_sv fun u hu => h u (List.mem_cons_of_mem _ hu))
end
/-- ascending -/
def Asc (ys : List Str) : Prop := ys.Pairwise fun a b => slt b a = false
section
variable {X : Cx}
/-- sorted(xs), texts, a list or a tuple of them -/
def rSortSQ (K : PySem.W.Frag) : List V → Hp → VK → Prop := fun vs H Q => ∃ (a : Addr) (xs : List Str), vs = [V.ref a] ∧ (SqL K H a (xs.map V.str) ∨ SqT K H a (xs.map V.str)) ∧
  ∀ (ys : List Str) (p : Addr), ys.Perm xs → Asc ys → H p = none → Q (.ref p) (upd H p (.lst (ys.map V.str)))
theorem cr_sortSQ : CallR X (.builtin "sorted") (rSortSQ X.K) := by
  intro pins s σ H vs us Q I r h
  obtain ⟨a, xs, rfl, hs, q⟩ := h
  rw [Vals.ref1 r]
  have go : ∀ (its : List Value), Vals (xs.map V.str) its → (s.heap.IsList a its.toArray ∨ s.heap.IsTuple a its.toArray) → (xs.map V.str).length ≤ sizeLine → wpAny (model X.prog X.w) X.A (call (.builtin "sorted") [.ref a]) (EP X pins σ Q) X.xe s := fun its rv hl hz => by
    have hi := rv.strs
    refine sorted_seq (swo_of swo_s sv) hl (by rw [← rv.length]; exact hz) (fun h2 h₁ a' _ _ => strs_sortable hi h2) fun out h1 h2 => ?_
    have ho : ∀ v ∈ out, ∃ x t, v = Value.str x t := fun v hv => hi.all v (h2.perm.mem_iff.mp hv)
    have pm : (out.map sv).Perm xs := by
      have q := h2.perm.map sv
      rw [sv_strs hi] at q
      exact q
    obtain ⟨ep, he'⟩ := PyProof.Rows.sortedAll_at s.heap its out.toArray
    have hlen : ((out.map sv).map V.str).length ≤ sizeLine := by
      rw [List.length_map, pm.length_eq]
      rw [List.length_map] at hz
      exact hz
    exact ⟨.ref _, upd H (s.heap.objs.size + 1) (.lst ((out.map sv).map V.str)), I.laid (t' := s.toks) (fun _ _ => PyProof.Rows.sortedAll_old) (Nat.le_succ _) ⟨hlen, out, ep, vals_of_strs (strs_sv ho), he'⟩, rfl, q _ _ pm (List.pairwise_map.mpr h1) (I.hok.fresh (Nat.le_succ _))⟩
  rcases hs with hs | hs
  · obtain ⟨its, rv, pl, hz⟩ := I.list hs
    exact go its rv (.inl pl.isList) (by first | exact hz | (rw [rv.length]; exact hz))
  · obtain ⟨its, rv, pl, hz⟩ := I.tuple hs
    exact go its rv (.inr (by first | exact pl | exact pl.isTuple)) (by first | exact hz | (rw [rv.length]; exact hz))
end
end MyS

set_option Elab.async false
set_option linter.all false
set_option maxRecDepth 100000
set_option maxHeartbeats 4000000
/-! sorted(xs), xs a list of tuples: pairs of texts, or tuples told apart by their first text. -/
namespace MyS
open PySem PySem.Spec PyProof.Rows L2
open SrtO hiding Str
section
variable {prog : Program} {w : World} {A : Around} {E : Value → Shared → Prop} {s : Shared}
/-- v is a tuple with these items -/
def IsTp (h : Heap) (v : Value) (a : Str) (r : List Value) : Prop := ∃ (b : Addr) (o : Obj) (xs : Array Value) (n : Nat) (t : Tok), v = .ref b ∧ h.get? b = some o ∧ o.cls = .type "tuple" ∧ o.data = .seq xs n ∧ xs.toList = .str a t :: r
theorem IsTp.keeps {h h' : Heap} {v : Value} {a : Str} {r : List Value} (x : IsTp h v a r) (k : ∀ b o, h.get? b = some o → o.cls = .type "tuple" → h'.get? b = some o) : IsTp h' v a r := by
  obtain ⟨b, o, xs, n, t, e, ho, hc, q⟩ := x
  exact ⟨b, o, xs, n, t, e, k b o ho hc, hc, q⟩
theorem firstsS {h : Heap} : ∀ {vs : List Value}, (∀ v ∈ vs, ∃ a r, IsTp h v a r) → ∃ fs : List Value, PySem.W.KatTups h vs fs ∧ fs.length = vs.length ∧ ∀ f ∈ fs, ∃ x t, f = Value.str x t
  | [], _ => ⟨[], PySem.W.KatTups.nil, rfl, fun _ hm => by simp at hm⟩
  | v :: vs, hp => by
    obtain ⟨fs, h1, h2, h3⟩ := firstsS (vs := vs) fun v' hm => hp v' (List.mem_cons_of_mem _ hm)
    obtain ⟨a, r, b, o, xs, n, t, e, ho, hc, hd, hx⟩ := hp v (List.mem_cons_self ..)
    subst e
    refine ⟨.str a t :: fs, PySem.W.KatTups.cons ho hc hd (by rw [← Array.getElem?_toList, hx]; rfl) h1, by rw [List.length_cons, List.length_cons, h2], fun f hm => ?_⟩
    rcases List.mem_cons.mp hm with rfl | hm
    · exact ⟨a, t, rfl⟩
    · exact h3 f hm
theorem kat_self {b fin : Bool} {Q : Bool → Shared → Prop} : ∀ (r : List Value) (i : Nat), Q fin s → PySem.W.KatLex prog w A b fin Q (r.zip r) i s
  | [], _, h => PySem.W.kat_nil h
  | v :: r, i, h => PySem.W.kat_cons (SeqAt.EqAt.same v prog w _ _ (PySem.W.kat_yes (kat_self r (i + 1) h)))
theorem slt_eqF {a b : Str} (h : a = b) : slt a b = false := by rw [h]; exact slt_irr b
/-- tuples told apart by their first text -/
theorem first_cmp {vs : List Value} {k : Value → Str} (hp : ∀ v ∈ vs, ∃ r, IsTp s.heap v (k v) r) (ne : ∀ v ∈ vs, ∀ u ∈ vs, k v = k u → v = u) : Cmp prog w A s (tuples' true) (fun p => p.1 ∈ vs) (lt2 fun v u => slt (k v) (k u)) := by
  intro p q hm hm'
  obtain ⟨r, b, o, xs, n, t, e, ho, hc, hd, hx⟩ := hp _ hm
  obtain ⟨r', b', o', xs', n', t', e', ho', hc', hd', hx'⟩ := hp _ hm'
  have hne := ne _ hm _ hm'
  show wpAny (model prog w) A (keyLt' (tuples' true) p.1 q.1) (fun r s' => s' = s ∧ r = slt (k p.1) (k q.1)) (fun _ _ => False) s
  generalize k p.1 = x at *
  generalize k q.1 = y at *
  rw [e, e'] at hne ⊢
  refine PySem.W.kat_lt ho hd ho' hd' ?_
  rw [hx, hx']
  show PySem.W.KatLex prog w A true (decide (xs.size < xs'.size)) _ ((.str x t, .str y t') :: r.zip r') 0 s
  refine PySem.W.kat_cons (SeqAt.EqAt.str_str x t y t' prog w _ _ ?_)
  refine PySem.W.kat_go (fun e1 => ?_) (fun e1 => ?_)
  · have ex : x = y := by simpa using e1
    have eb : Value.ref b = Value.ref b' := hne ex
    injection eb with eb
    subst eb
    obtain rfl : o = o' := Option.some.inj (ho.symm.trans ho')
    have e2 : PySem.Data.seq xs n = PySem.Data.seq xs' n' := hd.symm.trans hd'
    injection e2 with e2 e3
    subst e2
    have e4 := (List.cons.inj (hx.symm.trans hx')).2
    subst e4
    refine PySem.W.kat_yes (kat_self r 1 ⟨rfl, ?_⟩)
    rw [slt_eqF ex]
    exact decide_eq_false (Nat.lt_irrefl _)
  · exact PySem.W.kat_no (oneLt_str ⟨rfl, rfl⟩)
/-- pairs of texts -/
theorem pairs_cmp {vs : List Value} {k : Value → Str × Str} (hp : ∀ v ∈ vs, ∃ t, IsTp s.heap v (k v).1 [.str (k v).2 t]) : Cmp prog w A s (tuples' true) (fun p => p.1 ∈ vs) (lt2 fun v u => slt2 (k v) (k u)) := by
  intro p q hm hm'
  obtain ⟨t2, b, o, xs, n, t, e, ho, hc, hd, hx⟩ := hp _ hm
  obtain ⟨t2', b', o', xs', n', t', e', ho', hc', hd', hx'⟩ := hp _ hm'
  show wpAny (model prog w) A (keyLt' (tuples' true) p.1 q.1) (fun r s' => s' = s ∧ r = slt2 (k p.1) (k q.1)) (fun _ _ => False) s
  generalize k p.1 = x at *
  generalize k q.1 = y at *
  rw [e, e']
  have sz : xs.size = 2 := by rw [← Array.length_toList, hx]; rfl
  have sz' : xs'.size = 2 := by rw [← Array.length_toList, hx']; rfl
  refine PySem.W.kat_lt ho hd ho' hd' ?_
  rw [hx, hx', sz, sz']
  show PySem.W.KatLex prog w A true (decide (2 < 2)) _ [(.str x.1 t, .str y.1 t'), (.str x.2 t2, .str y.2 t2')] 0 s
  refine PySem.W.kat_cons (SeqAt.EqAt.str_str x.1 t y.1 t' prog w _ _ ?_)
  refine PySem.W.kat_go (fun e1 => ?_) (fun e1 => ?_)
  · have ex : x.1 = y.1 := by simpa using e1
    refine PySem.W.kat_yes (PySem.W.kat_cons (SeqAt.EqAt.str_str x.2 t2 y.2 t2' prog w _ _ ?_))
    refine PySem.W.kat_go (fun e2 => ?_) (fun e2 => ?_)
    · have ey : x.2 = y.2 := by simpa using e2
      refine PySem.W.kat_yes (PySem.W.kat_nil ⟨rfl, ?_⟩)
      rw [slt2_eq ex, slt_eqF ey]
      rfl
    · refine PySem.W.kat_no (PySem.W.kat_one _ _ ?_)
      refine PyProof.Rows.lt_str ?_
      exact ⟨rfl, (slt2_eq ex).symm⟩
  · have ex : ¬ x.1 = y.1 := by simpa using e1
    exact PySem.W.kat_no (oneLt_str ⟨rfl, (slt2_ne ex).symm⟩)
theorem tps_kind {vs : List Value} (h0 : 0 < vs.length) (hp : ∀ v ∈ vs, ∃ a r, IsTp s.heap v a r) {Q : SortKind → Shared → Prop} (hq : Q (tuples' true) s) : wpAny (model prog w) A (keyKind' vs.toArray) Q E s := by
  obtain ⟨fs, h1, h2, h3⟩ := firstsS hp
  refine PySem.W.kat_kind (T := .type "str") h1 (by omega) (fun f hm => ?_) (by rfl) ?_
  · obtain ⟨x, t, rfl⟩ := h3 f hm
    exact PySem.W.Looks.now
  · have e : (Value.type "str" != Value.type "tuple") = true := by first | decide +kernel | rfl | decide
    rw [e]
    exact hq
theorem first_sortable {a : Addr} {vs : List Value} {k : Value → Str} (h0 : 0 < vs.length) (hp : ∀ v ∈ vs, ∃ r, IsTp s.heap v (k v) r) (ne : ∀ v ∈ vs, ∀ u ∈ vs, k v = k u → v = u) (ha : ∀ o, s.heap.get? a = some o → o.cls ≠ .type "tuple") : SortableO prog w A s a vs fun v u => slt (k v) (k u) := by
  intro h' keep
  have hp' : ∀ v ∈ vs, ∃ r, IsTp h' v (k v) r := fun v hm => let ⟨r, z⟩ := hp v hm; ⟨r, z.keeps fun b o e c => keep b o (fun z => by subst z; exact ha o e c) e⟩
  exact ⟨tuples' true, fun Q E hq => tps_kind h0 (fun v hm => let ⟨r, z⟩ := hp' v hm; ⟨_, r, z⟩) hq, first_cmp hp' ne⟩
theorem pairs_sortable {a : Addr} {vs : List Value} {k : Value → Str × Str} (h0 : 0 < vs.length) (hp : ∀ v ∈ vs, ∃ t, IsTp s.heap v (k v).1 [.str (k v).2 t]) (ha : ∀ o, s.heap.get? a = some o → o.cls ≠ .type "tuple") : SortableO prog w A s a vs fun v u => slt2 (k v) (k u) := by
  intro h' keep
  have hp' : ∀ v ∈ vs, ∃ t, IsTp h' v (k v).1 [.str (k v).2 t] := fun v hm => let ⟨r, z⟩ := hp v hm; ⟨r, z.keeps fun b o e c => keep b o (fun z => by subst z; exact ha o e c) e⟩
  exact ⟨tuples' true, fun Q E hq => tps_kind h0 (fun v hm => let ⟨r, z⟩ := hp' v hm; ⟨_, _, z⟩) hq, pairs_cmp hp'⟩
end
section
variable {X : Cx}
theorem noTup {h : Heap} {a : Addr} {vs : List Value} (ha : h.get? a = some (seqObj "list" vs.toArray 0)) : ∀ o, h.get? a = some o → o.cls ≠ .type "tuple" := fun o e c => by
  have e' : some o = some (seqObj "list" vs.toArray 0) := e.symm.trans ha
  cases e'
  exact absurd (Value.type.inj c) (by decide)
/-- sorted(xs), xs a list of tuples told apart by their first text -/
def rSortR (K : PySem.W.Frag) : List V → Hp → VK → Prop := fun vs H Q => ∃ (a : Addr) (xs : List V) (k : V → Str), vs = [V.ref a] ∧ SqL K H a xs ∧ (∀ x ∈ xs, ∃ t r, x = V.ref t ∧ SqT K H t (.str (k x) :: r)) ∧ (∀ x ∈ xs, ∀ y ∈ xs, k x = k y → x = y) ∧
  ∀ ys p, ys.Perm xs → ys.Pairwise (fun x y => slt (k y) (k x) = false) → H p = none → Q (.ref p) (upd H p (.lst ys))
theorem cr_sortR : CallR X (.builtin "sorted") (rSortR X.K) := by
  intro pins s σ H vs us Q I r h
  obtain ⟨a, xs, k, rfl, hs, hx, ne, q⟩ := h
  obtain ⟨its, rv, hl, hz⟩ := I.list hs
  rw [Vals.ref1 r]
  obtain ⟨e1, e2⟩ := refs_back rv fun x m => by
    obtain ⟨t, r, e, _⟩ := hx x m
    exact ⟨t, e⟩
  have hp : ∀ v ∈ its, ∃ r, IsTp s.heap v (k (backV v)) r := fun v hv => by
    obtain ⟨t, rfl⟩ := e2 v hv
    have hm : V.ref t ∈ xs := by rw [e1]; exact List.mem_map.mpr ⟨_, hv, rfl⟩
    obtain ⟨t', r, e, ht⟩ := hx _ hm
    cases e
    obtain ⟨its2, r2, ⟨o, ho, hc, n, hd⟩, _⟩ := I.tuple ht
    cases r2 with
    | cons r0 r3 =>
      obtain ⟨tk, rfl⟩ := r0
      exact ⟨_, t, o, _, n, tk, rfl, ho, hc, hd, rfl⟩
  have ne' : ∀ v ∈ its, ∀ u ∈ its, k (backV v) = k (backV u) → v = u := fun v hv u hu e => by
    obtain ⟨t, rfl⟩ := e2 v hv
    obtain ⟨t', rfl⟩ := e2 u hu
    have q := ne (.ref t) (by rw [e1]; exact List.mem_map.mpr ⟨_, hv, rfl⟩) (.ref t') (by rw [e1]; exact List.mem_map.mpr ⟨_, hu, rfl⟩) e
    injection q with q
    rw [q]
  refine sorted_seq (swo_of swo_s fun u => k (backV u)) (.inl hl.isList) (by rw [← rv.length]; exact hz) (fun h2 h₁ a' ha' kk => first_sortable (by omega) (fun v hv => let ⟨r, z⟩ := hp v hv; ⟨r, z.keeps fun b o e _ => (kk b o e).2⟩) ne' (noTup ha')) fun out h1 h2 => ?_
  have h3 : ∀ u ∈ out, ∃ a, u = Value.ref a := fun u hu => e2 u (h2.perm.mem_iff.mp hu)
  obtain ⟨ep, he'⟩ := PyProof.Rows.sortedAll_at s.heap its out.toArray
  have pm : (out.map backV).Perm xs := by
    rw [e1]
    exact h2.perm.map backV
  refine ⟨.ref _, upd H (s.heap.objs.size + 1) (.lst (out.map backV)), I.laid (t' := s.toks) (fun _ _ => PyProof.Rows.sortedAll_old) (Nat.le_succ _) ⟨by rw [pm.length_eq]; exact hz, out, ep, vals_back h3, he'⟩, rfl, q _ _ pm (List.pairwise_map.mpr h1) (I.hok.fresh (Nat.le_succ _))⟩
/-- sorted(xs), xs a list of pairs of texts -/
def rSortB (K : PySem.W.Frag) : List V → Hp → VK → Prop := fun vs H Q => ∃ (a : Addr) (xs : List V) (k : V → Str × Str), vs = [V.ref a] ∧ SqL K H a xs ∧ (∀ x ∈ xs, ∃ t, x = V.ref t ∧ SqT K H t [.str (k x).1, .str (k x).2]) ∧
  ∀ ys p, ys.Perm xs → ys.Pairwise (fun x y => slt2 (k y) (k x) = false) → H p = none → Q (.ref p) (upd H p (.lst ys))
theorem cr_sortB : CallR X (.builtin "sorted") (rSortB X.K) := by
  intro pins s σ H vs us Q I r h
  obtain ⟨a, xs, k, rfl, hs, hx, q⟩ := h
  obtain ⟨its, rv, hl, hz⟩ := I.list hs
  rw [Vals.ref1 r]
  obtain ⟨e1, e2⟩ := refs_back rv fun x m => by
    obtain ⟨t, e, _⟩ := hx x m
    exact ⟨t, e⟩
  have hp : ∀ v ∈ its, ∃ t, IsTp s.heap v (k (backV v)).1 [.str (k (backV v)).2 t] := fun v hv => by
    obtain ⟨t, rfl⟩ := e2 v hv
    have hm : V.ref t ∈ xs := by rw [e1]; exact List.mem_map.mpr ⟨_, hv, rfl⟩
    obtain ⟨t', e, ht⟩ := hx _ hm
    cases e
    obtain ⟨its2, r2, ⟨o, ho, hc, n, hd⟩, _⟩ := I.tuple ht
    obtain ⟨u1, u2, rfl, ri, rj⟩ := vals2 r2
    obtain ⟨t1, rfl⟩ := ri
    obtain ⟨t2, rfl⟩ := rj
    exact ⟨t2, t, o, _, n, t1, rfl, ho, hc, hd, rfl⟩
  refine sorted_seq (swo_of swo_s2 fun u => k (backV u)) (.inl hl.isList) (by rw [← rv.length]; exact hz) (fun h2 h₁ a' ha' kk => pairs_sortable (by omega) (fun v hv => let ⟨r, z⟩ := hp v hv; ⟨r, z.keeps fun b o e _ => (kk b o e).2⟩) (noTup ha')) fun out h1 h2 => ?_
  have h3 : ∀ u ∈ out, ∃ a, u = Value.ref a := fun u hu => e2 u (h2.perm.mem_iff.mp hu)
  obtain ⟨ep, he'⟩ := PyProof.Rows.sortedAll_at s.heap its out.toArray
  have pm : (out.map backV).Perm xs := by
    rw [e1]
    exact h2.perm.map backV
  refine ⟨.ref _, upd H (s.heap.objs.size + 1) (.lst (out.map backV)), I.laid (t' := s.toks) (fun _ _ => PyProof.Rows.sortedAll_old) (Nat.le_succ _) ⟨by rw [pm.length_eq]; exact hz, out, ep, vals_back h3, he'⟩, rfl, q _ _ pm (List.pairwise_map.mpr h1) (I.hok.fresh (Nat.le_succ _))⟩
end
end MyS

set_option Elab.async false
set_option linter.all false
set_option maxRecDepth 100000
set_option maxHeartbeats 4000000
/-! {k: v for x in xs} with tuples as keys (the library's HandS.DictComp is for ints and texts; the steps are its steps, the store is another). -/
namespace MyS
open PySem PySem.Spec PyProof.Rows L2
section
variable {X : Cx}
theorem d_dictSetT {pins : List (Addr × Obj)} {σ : L2.St} {H : Hp} {s : Shared} {E : Value → Shared → Prop} {D b : Addr} {kvs : List (List Key × V)} {k : List Key} {v : V} {u r : Value} {Q : Unit → Shared → Prop} (hu : X.A.units + 1 < cLine) (I : Inv X pins σ H s) (hD : H D = some (.dT kvs)) (hz : kvs.length < sizeLine)
    (eb : H b = some (.tup (k.map kV))) (ry : RelV (.ref b) u) (rv : RelV v r) (h : ∀ s', Inv X pins σ (upd H D (.dT (putK kvs k v))) s' → Q () s') : wpAny (model X.prog X.w) X.A (dictSet D u r) Q E s := by
  cases (show u = Value.ref b from ry)
  obtain ⟨z, hd, xs, rel, dd⟩ := dt_of I.hok hD
  have hxs : xs.length ≤ sizeLine := by rw [← Paired.length rel]; exact z
  have hl : (putK kvs k v).length ≤ sizeLine := by have := length_putK kvs k v; omega
  refine wpAny_dictSet_heap (hsz := hxs) (show X.A.units < cLine from Nat.lt_of_succ_lt hu) (key_of I.hok eb) dd fun h' dd' hs => h _ ?_
  obtain ⟨q, es, ep, hq, h2, h3, h4, _, h5⟩ := dd'
  refine d_write I (by rw [hD]; exact True.intro) hs ⟨q, hq⟩ ⟨hl, hd, _, (rel.put k eb rv).keeps fun c ys ec => ?_, q, es, ep, hq, h2, h3, h4, h5⟩
  rw [upd_ne (ne_of ec hD (fun z => nomatch z))]
  exact ec
/-- {k: v for x in xs}: the tuple keys' own dict D; the loop by W as in a list comprehension -/
def tDcT (wi : TI) (g : TG) (tt : TT) (tk tv : TE) (vs : List Nat) : TE := fun σ H Q => wi σ H fun J H1 => ∀ D, H1 D = none → ∃ W : Nat → Nat → Hp → Prop, (∃ m, W 0 m (upd H1 D (.dT []))) ∧ ∀ i m H, W i m H →
  (J.stop i H ∧ Q (.ref D) H) ∨ (J.go i H ∧ ∃ Nx : Hp → Prop, (∀ H', Nx H' → ∃ m', m' < m ∧ W (i + 1) m' H') ∧ ∀ x H', J.yld i H x H' → g x (wipe σ vs) H' fun σ2 H2 => wipe σ2 vs = wipe σ vs ∧ tt σ2 H2 fun b H3 =>
    if b = true then tk σ2 H3 fun y H4 => tv σ2 H4 fun z H5 => ∃ kvs k c, y = .ref c ∧ H5 c = some (.tup (k.map kV)) ∧ H5 D = some (.dT kvs) ∧ kvs.length < sizeLine ∧ Nx (upd H5 D (.dT (putK kvs k z))) else Nx H3)
theorem pe_dcT {kx vx tg iter : Expr} {ifs : List Expr} {scope : Scope} {own : List (PySem.Str × Nat)} {pos : Pos} {wi : TI} {g : TG} {tt : TT} {tk tv : TE} (hu : X.A.units + 1 < cLine) (hc : X.calm = true) (hN : X.N.Nodup) (hi : PI X tg iter wi) (ok : BlkOk X.N X.env.scope scope own)
    (hg : ∀ (s : Shared) (H : Hp) (C : Addr) (cl : List (PySem.Str × Addr)) (fp : List Addr), PG (X.blk s H scope (compEnvC scope cl C X.env) fp) tg g) (ht : ∀ (s : Shared) (H : Hp) (C : Addr) (cl : List (PySem.Str × Addr)) (fp : List Addr), PTs (X.blk s H scope (compEnvC scope cl C X.env) fp) ifs tt)
    (hk : ∀ (s : Shared) (H : Hp) (C : Addr) (cl : List (PySem.Str × Addr)) (fp : List Addr), PE (X.blk s H scope (compEnvC scope cl C X.env) fp) kx tk)
    (he : ∀ (s : Shared) (H : Hp) (C : Addr) (cl : List (PySem.Str × Addr)) (fp : List Addr), PE (X.blk s H scope (compEnvC scope cl C X.env) fp) vx tv) (hs : ∀ x, foldedSetIterable iter X.env x = pure x := by intro _; rfl) :
    PE X (.DictComp kx vx [⟨tg, iter, ifs, 0⟩] scope pos) (tDcT wi g tt tk tv (own.map (·.2))) := by
  refine ⟨fun pins s σ H Q I h => ?_⟩
  rw [arm_eval_DictComp]
  have hfree : ∀ y ∈ scope.names, y.2 = .free → ∃ c, X.env.cells.lookup y.1 = some c := fun y hy e =>
    (ok.free y hy e).elim (fun k => I.ok.has _ (.inl k)) fun k => I.ok.has _ (.inr k)
  refine wpAny_comprehension_free (use := none) rfl hs (closure_ok hfree) ok.kind (fun y hy e => by rw [ok.uniq y hy, e]) (thn (hi.run pins s σ H _ I h) fun xv s1 hx => thn hx fun itv s2 h2 => ?_)
  obtain ⟨it, fp, tn, J, H2, rfl, I2, T, st2, f2, q⟩ := h2
  refine wpAny_newObj_type (newEnv_comp ?_)
  obtain ⟨W, ⟨m0, w0⟩, turn⟩ := q s2.heap.objs.size (I2.hok.fresh (Nat.le_refl _))
  -- the new dict
  have I3 : Inv X pins σ (upd H2 s2.heap.objs.size (.dT [])) { s2 with heap := s2.heap.push { cls := .type "dict", data := .dict #[] } } :=
    I2.laid (t' := s2.toks) (fun b o e => Heap.get?_push_of_some _ e) (Nat.le_refl _) (dt_empty s2.heap I2.big)
  have below : ∀ b ∈ fp, b < s2.heap.objs.size := fun b hb => let ⟨o, e, _⟩ := T.obj _ _ st2 b hb; Heap.lt_size e
  generalize hs3 : ({ s2 with heap := s2.heap.push { cls := .type "dict", data := .dict #[] } } : Shared) = s3 at I3
  have h3 : s3.heap = s2.heap.push { cls := .type "dict", data := .dict #[] } := by rw [← hs3]
  generalize hD : s2.heap.objs.size = D at I3 w0 turn below ⊢
  have f3 : ∀ b ∈ fp, FpOk X pins (upd H2 D (.dT [])) b ∧ b < s3.heap.objs.size := fun b hb =>
    ⟨⟨by rw [upd_ne (Nat.ne_of_lt (below b hb))]; exact (f2 b hb).1, (f2 b hb).2⟩, by rw [h3, Heap.size_push, hD]; exact Nat.lt_succ_of_lt (below b hb)⟩
  have st3 : tn 0 s3.heap := T.keep _ _ _ st2 fun b _ o e => by rw [h3]; exact Heap.get?_push_of_some _ e
  have I4 := block_start I3 ok hN f3
  generalize hC : cellsFrom (s3.heap.objs.size + 1) scope.names (cloFrom X.env.cells scope.names []) = cl at I4
  have pg := hg s3 (upd H2 D (.dT [])) s3.heap.objs.size cl fp
  have pt := ht s3 (upd H2 D (.dT [])) s3.heap.objs.size cl fp
  have pk := hk s3 (upd H2 D (.dT [])) s3.heap.objs.size cl fp
  have pe := he s3 (upd H2 D (.dT [])) s3.heap.objs.size cl fp
  have goal : codeAny (model X.prog X.w) X.A (.compStart (.DictComp kx vx [⟨tg, iter, ifs, 0⟩] scope pos) 0 (.ref it) (.ref D) (compEnvC scope cl s3.heap.objs.size X.env)) (compPost (model X.prog X.w) X.A X.xe none (EP X pins σ Q) (.ref D) s3.heap.objs.size) { s3 with heap := pushCells (s3.heap.push { cls := .type "dict", data := .dict #[] }) scope.names } := by
    have cL : (compEnvC scope cl s3.heap.objs.size X.env).locals = s3.heap.objs.size := rfl
    generalize compEnvC scope cl s3.heap.objs.size X.env = ce at I4 pg pt pk pe cL ⊢
    generalize hH3 : upd H2 D (.dT []) = H3 at I3 I4 pg pt pk pe w0 f3
    generalize hs4 : ({ s3 with heap := pushCells (s3.heap.push { cls := .type "dict", data := .dict #[] }) scope.names } : Shared) = s4 at I4 ⊢
    have st4 : tn 0 s4.heap := T.keep _ _ _ st3 fun b _ o e => by rw [← hs4]; exact pushCells_keeps _ _ _ _ (Heap.get?_push_of_some _ e)
    have stat : ∀ {σ' : L2.St} {H' : Hp} {s' : Shared}, Inv (X.blk s3 H3 scope ce fp) [] σ' H' s' → (∀ b ∈ fp, H' b = none) → ∀ b ∈ fp, FpOk (X.blk s3 H3 scope ce fp) [] H' b := fun {σ' H' s'} I' hn b hb =>
      ⟨hn b hb, (I'.ok.exf b hb).1, I'.ok.exfs b hb, .inl hb, fun x c e => (I'.ok.exf b hb).2 x c e, fun p hp => absurd (show p ∈ ([] : List (Addr × Obj)) ++ [] from hp) (by simp)⟩
    refine codeAny_compStart_dict ?lp (T.self X.A 0 _ _ _ st4 ?lp)
    refine compLoop_anyD (fun n s' => ∃ i H', Inv (X.blk s3 H3 scope ce fp) [] (wipe σ (own.map (·.2))) H' s' ∧ tn i s'.heap ∧ (∀ b ∈ fp, H' b = none) ∧ W i n H') ?_ m0 ⟨0, H3, I4, st4, fun b hb => (f3 b hb).1.1, w0⟩
    rintro n s5 ⟨i, H5, I5, st5, n5, w5⟩
    rcases turn i n H5 w5 with ⟨stop, qq⟩ | ⟨go, Nx, hNx, step⟩
    · refine thnF (T.done (X.blk s3 H3 scope ce fp) rfl rfl rfl hc i [] s5 _ H5 (fun _ _ => False) I5 (stat I5 n5) st5 stop) fun r s6 ⟨hr, I6⟩ => ?_
      subst hr
      have I7 : Inv X pins σ H5 s6 := I3.call' (ch := fp) I6.os I6.base I6.hok I6.bare fun b hb => ⟨(f3 b hb).1.2.2.2.1, (f3 b hb).1.2.1, (f3 b hb).1.2.2.2.2.1, (f3 b hb).1.2.2.2.2.2⟩
      have nC : H5 s3.heap.objs.size = none := by
        have z : H5 ce.locals = none := I6.free
        rw [cL] at z
        exact z
      obtain ⟨m, hn, _⟩ := I6.loc
      have hn : s6.heap.Ns ce.locals m := hn
      rw [cL] at hn
      obtain ⟨f0, f1, f2, f3, f4, f5⟩ := I3.fpOk (Nat.le_refl _) nC
      exact ⟨m, hn, fun h'' sb => ⟨.ref D, H5, I7.turned (t' := s6.toks) (fun b o hb e => (sb.2 b hb).trans e) f0 f1 f3 f4 f5, rfl, qq⟩⟩
    · refine thnF (T.item (X.blk s3 H3 scope ce fp) rfl rfl rfl hc i [] s5 _ H5 (fun _ _ => False) I5 (stat I5 n5) st5 go) fun r s6 ⟨u, hr, h6⟩ => ?_
      subst hr
      refine thnF h6 fun _ s7 ⟨x, H7, I7, r7, y7, st7, n7⟩ => ?_
      refine thnF (pg.run _ s7 _ H7 x u _ (I7.pinned (stat I7 n7) (T.obj _ _ st7)) r7 (step x H7 y7)) fun _ s8 ⟨σ8, H8, I8, hw8, q8⟩ => ?_
      refine thnF (pt.run _ s8 σ8 H8 _ I8 q8) fun b s9 ⟨H9, I9, q9⟩ => ?_
      have fin : ∀ {s' : Shared} {H' : Hp}, Inv (X.blk s3 H3 scope ce fp) ([] ++ pinsAt fp s7.heap) σ8 H' s' → Nx H' → ∃ m, m < n ∧ ∃ i H', Inv (X.blk s3 H3 scope ce fp) [] (wipe σ (own.map (·.2))) H' s' ∧ tn i s'.heap ∧ (∀ b ∈ fp, H' b = none) ∧ W i m H' := fun {s' H'} I' nx => by
        obtain ⟨m', hm, w'⟩ := hNx H' nx
        have pin' : ∀ b ∈ fp, ∀ o, s7.heap.get? b = some o → s'.heap.get? b = some o ∧ H' b = none := fun b hb o e =>
          have z := I'.pin (b, o) (List.mem_append_right _ (List.mem_append_right _ (mem_pinsAt hb e)))
          ⟨z.1, z.2.1⟩
        have hl : (wipe σ (own.map (·.2))).length = σ8.length := by rw [← hw8, wipe_length]
        refine ⟨m', hm, i + 1, H', (I'.unpinned (pins := [])).weak hl (fun j v e => ?_), T.keep _ _ _ st7 fun b hb o e => (pin' b hb o e).1, fun b hb => ?_, w'⟩
        · rw [← hw8] at e
          exact (wipe_some e).1
        · obtain ⟨o, e, _⟩ := T.obj _ _ st7 b hb
          exact (pin' b hb o e).2
      cases b with
      | false =>
        simp only [Bool.false_eq_true, if_false] at q9 ⊢
        exact fin I9 q9
      | true =>
        simp only [if_true] at q9 ⊢
        refine thnF (pk.run _ s9 σ8 H9 _ I9 q9) fun z s10 ⟨yk, H10, I10, r10, q10⟩ => ?_
        refine thnF (pe.run _ s10 σ8 H10 _ I10 q10) fun z2 s11 ⟨yv, H11, I11, r11, kvs, k, c, ek, ec, hD11, hz11, nx⟩ => ?_
        subst ek
        exact d_dictSetT (X := X.blk s3 H3 scope ce fp) hu I11 hD11 hz11 ec r10 r11 fun s12 I12 => fin I12 nx
  subst hD
  exact goal
/-- over a tuple that stays -/
theorem dcT_tup {K : PySem.W.Frag} {a : Addr} {xs : List V} {g : TG} {tt : TT} {tk tv : TE} {vs : List Nat} {σ : L2.St} {H1 : Hp} {D : Addr} {Qd : Hp → Prop} (Pv : Nat → Hp → Prop) (h0 : Pv 0 (upd H1 D (.dT []))) (hl : ∀ i H, i ≤ xs.length → Pv i H → SqT K H a xs)
    (hs : ∀ i x H, xs[i]? = some x → Pv i H → g x (wipe σ vs) H fun σ2 H2 => wipe σ2 vs = wipe σ vs ∧ tt σ2 H2 fun b H3 =>
      if b = true then tk σ2 H3 fun y H4 => tv σ2 H4 fun z H5 => ∃ kvs k c, y = .ref c ∧ H5 c = some (.tup (k.map kV)) ∧ H5 D = some (.dT kvs) ∧ kvs.length < sizeLine ∧ Pv (i + 1) (upd H5 D (.dT (putK kvs k z))) else Pv (i + 1) H3) (hd : ∀ H, Pv xs.length H → Qd H) :
    ∃ W : Nat → Nat → Hp → Prop, (∃ m, W 0 m (upd H1 D (.dT []))) ∧ ∀ i m H, W i m H →
      ((Itt K a).stop i H ∧ Qd H) ∨ ((Itt K a).go i H ∧ ∃ Nx : Hp → Prop, (∀ H', Nx H' → ∃ m', m' < m ∧ W (i + 1) m' H') ∧ ∀ x H', (Itt K a).yld i H x H' → g x (wipe σ vs) H' fun σ2 H2 => wipe σ2 vs = wipe σ vs ∧ tt σ2 H2 fun b H3 =>
        if b = true then tk σ2 H3 fun y H4 => tv σ2 H4 fun z H5 => ∃ kvs k c, y = .ref c ∧ H5 c = some (.tup (k.map kV)) ∧ H5 D = some (.dT kvs) ∧ kvs.length < sizeLine ∧ Nx (upd H5 D (.dT (putK kvs k z))) else Nx H3) := by
  refine ⟨fun i m H => m = xs.length - i ∧ i ≤ xs.length ∧ Pv i H, ⟨xs.length, by simp, Nat.zero_le _, h0⟩, ?_⟩
  rintro i m H ⟨rfl, hi, p⟩
  have q := hl i H hi p
  rcases Nat.lt_or_ge i xs.length with lt | ge
  · refine .inr ⟨⟨xs, xs[i], q, by simp [lt]⟩, Pv (i + 1), fun H' p' => ⟨xs.length - (i + 1), by omega, rfl, lt, p'⟩, fun x H' y => ?_⟩
    obtain ⟨rfl, y⟩ := y
    exact hs i x _ (y xs q) p
  · obtain rfl : i = xs.length := by omega
    exact .inl ⟨⟨xs, q, Nat.le_refl _⟩, hd H p⟩
end
end MyS

set_option Elab.async false
set_option linter.all false
set_option maxRecDepth 100000
set_option maxHeartbeats 4000000
namespace W
open PySem PySem.Spec PyProof.Rows L2 GxR MyG
/-! ### the text by places -/
def top (i : Nat) : Stmt := PySem.Challenge.pw_waypapers_k06_texts_refused.main.body.getD i (.Pass ⟨0, 0, 0, 0⟩)
abbrev sIsName : Stmt := top 21
abbrev sNames : Stmt := top 23
abbrev sDiff : Stmt := top 24
abbrev sRoads : Stmt := top 25
abbrev sRoad : Stmt := top 26
abbrev sHours : Stmt := top 27
abbrev sBars : Stmt := top 28
abbrev sInit : Stmt := inClass (top 29) 0

/-! ### names -/
def zLet : Str := "abcdefghijklmnopqrstuvwxyz"
def zDig : Str := "0123456789"
def goodC (c : Nat) : Bool := decide (c ∈ zLet.cps.toList) || decide (c ∈ zDig.cps.toList)
def isNm (z : Str) : Bool := decide (1 ≤ z.length) && decide (z.length ≤ 12) && (match z.cps.toList with | [] => false | c :: _ => decide (c ∈ zLet.cps.toList)) && z.cps.toList.all goodC
/-- the element of the generator: x in A or x in B -/
theorem elt_two {prog : Program} {w : World} {base : Heap} {mg : Str → Option Value} {scope : Scope} {x A B : Str} {a b : Str} {ta tb : Tok} {p1 p2 p3 p4 p5 p6 p7 : Pos} (hk : scope.kind = .function) (hl : scope.names.lookup x = some .local)
    (hA : scope.names.lookup A = some .globalImplicit) (hB : scope.names.lookup B = some .globalImplicit) (hns : base.Ns mainGlobals mg) (eA : mg A = some (.str a ta)) (eB : mg B = some (.str b tb))
    (hd : (x == ("__debug__" : Str)) = false := by decide) (hdA : (A == ("__debug__" : Str)) = false := by decide) (hdB : (B == ("__debug__" : Str)) = false := by decide) :
    EltB prog w base scope x (.BoolOp .Or [.Compare (.Name x p1) [.In] [.Name A p2] p3, .Compare (.Name x p4) [.In] [.Name B p5] p6] p7) (fun c => decide (c ∈ a.cps.toList) || decide (c ∈ b.cps.toList)) := by
  intro ce B' F c t z m hs hg hh hb hn hm
  have kf : ce.scope.kind = .function := by rw [hs]; exact hk
  have kx : ce.kindOf x = some .local := by show ce.scope.names.lookup x = _; rw [hs]; exact hl
  have nsz : ∀ (z' : Shared), Keeps z z' → z'.heap.Ns ce.globals mg := fun z' k => by
    rw [hg]
    obtain ⟨h', tk, rfl, kk⟩ := k
    exact (hns.keeps hb).keeps kk
  have one : ∀ (G : Str) (g : Str) (tg : Tok) (q1 q2 q3 : Pos) (Q : Value → Shared → Prop), (G == ("__debug__" : Str)) = false → scope.names.lookup G = some .globalImplicit → mg G = some (.str g tg) → Q (.bool (decide (c ∈ g.cps.toList))) z →
      wpAny (model prog w) B' (eval (.Compare (.Name x q1) [.In] [.Name G q2] q3) ce) Q F z := by
    intro G g tg q1 q2 q3 Q hdG hG eG hQ
    refine wpAny_Compare1 ?_
    refine wpAny_Name (wpAny_loadName_local kf kx hn hm ?_) hd
    refine Calls.Name_function_global kf (by show ce.scope.names.lookup G = _; rw [hs]; exact hG) (Calls.loadGlobal_global (nsz z (keeps_refl z)) eG ?_) hdG
    refine PyProof.Rows.in_str ?_
    rw [PySem.StrLaws.found_one g c]
    exact hQ
  refine BoolOp_or (one A a ta _ _ _ _ hdA hA eA ?_)
  refine wpAny_truthy_bool ?_
  by_cases ca : c ∈ a.cps.toList
  · have ea : decide (c ∈ a.cps.toList) = true := decide_eq_true ca
    rw [if_pos ea]
    refine ⟨?_, keeps_refl z⟩
    show Value.bool (decide (c ∈ a.cps.toList)) = Value.bool (decide (c ∈ a.cps.toList) || decide (c ∈ b.cps.toList))
    rw [ea]; rfl
  · have ea : decide (c ∈ a.cps.toList) = false := decide_eq_false ca
    rw [if_neg (by rw [ea]; exact Bool.false_ne_true)]
    refine BoolOp_one (one B b tb _ _ _ _ hdB hB eB ?_)
    refine ⟨?_, keeps_refl z⟩
    show Value.bool (decide (c ∈ b.cps.toList)) = Value.bool (decide (c ∈ a.cps.toList) || decide (c ∈ b.cps.toList))
    rw [ea]; rfl

theorem pe_gI {X : Cx} {x : Str} {i : Int} {t : Tok} {pos : Pos} (hm : X.mg x = some (.int i t)) (hg : Gl X x := by rfl) (hd : (x == ("__debug__" : Str)) = false := by decide) : PE X (.Name x pos) (tC (.int i)) := pe_glob hg hm ⟨_, rfl⟩ hd
theorem pe_gS {X : Cx} {x z : Str} {t : Tok} {pos : Pos} (hm : X.mg x = some (.str z t)) (hg : Gl X x := by rfl) (hd : (x == ("__debug__" : Str)) = false := by decide) : PE X (.Name x pos) (tC (.str z)) := pe_glob hg hm ⟨_, rfl⟩ hd
theorem nofree {names : List (Str × NameKind)} {Q : Str × NameKind → Prop} (h : names.all (fun y => y.2 != .free) = true) : ∀ y ∈ names, y.2 = .free → Q y := fun y hy e => by
  have q := List.all_eq_true.mp h y hy
  rw [e] at q
  exact absurd q (by decide)
theorem if_t {c : Bool} {A B : Prop} (hc : c = true) (h : A) : if c = true then A else B := by
  rw [if_pos hc]
  exact h
theorem if_f {c : Bool} {A B : Prop} (hc : c = false) (h : B) : if c = true then A else B := by
  rw [hc, if_neg Bool.false_ne_true]
  exact h
/-! ### what the top has written -/
structure Txt (K : PySem.W.Frag) (mg : Str → Option Value) (C P : Addr) : Prop where
  let_ : ∃ t, mg "LETTERS" = some (.str zLet t)
  dig : ∃ t, mg "DIGITS" = some (.str zDig t)
  ln : ∃ t, mg "LONGEST_NAME" = some (.int 12 t)
  len : mg "len" = none
  all : mg "all" = none

def spIsName (P : Addr) : Sp := fun vs H Q _ => ∃ z : Str, vs = [.str z] ∧ z.length ≤ sizeLine ∧ TabG H P ∧ ∀ H', Tabbed P H H' → Q (.bl (isNm z)) H'
section
variable {Pg : Program} {w : World} {K : PySem.W.Frag} {mg : Str → Option Value} {base : Heap} {C P : Addr}
theorem scIsName : FnScope ["text"] ["text"] (defScope sIsName) := ⟨rfl, rfl, rfl, by decide +kernel, rfl, by decide +kernel, by decide +kernel⟩
theorem str_len0 {z : Str} (h : ¬ 1 ≤ z.length) : isNm z = false := by
  unfold isNm
  simp [h]
theorem ok_isName {f c : Addr} {fd : FuncData} (F : Fun K "is_name" "is_name" sIsName f fd) (T : Txt K mg C P) (TB : TabB base mg c P) (hfc : fd.code = .ref c) (hns : base.Ns mainGlobals mg) : FnOk Pg w K mg base CX0 2 f fd ["text"] (spIsName P) := by
  obtain ⟨oc, od, kV, doc, pm, an, cdv, ct, osl, efd, lk, hcd⟩ := F.ex
  subst efd
  have ecd : cdv = .ref c := hfc
  subst ecd
  refine fn_of lk hcd scIsName (fun vs H Q E h => ?_) (fun A outer s H vs Q E hr h => ?_)
  · obtain ⟨z, rfl, _⟩ := h
    rfl
  · obtain ⟨z, rfl, hz, hP, k⟩ := h
    obtain ⟨tl, el⟩ := T.let_
    obtain ⟨td, ed⟩ := T.dig
    obtain ⟨tn, en⟩ := T.ln
    refine ⟨_, PSs.nox (pss_cons (ps_if (PW.pt (pw_or (pt_not (pt_chain op_le op_le pe_int (pe_callB call_len_str (by rfl) T.len PySem.boot_len (pa_cons (pv 0) pa_nil)) (pe_gI en)))
        (pw_or1 (pt_cmpR op_notIn_sign (pe_ix ix_str (pv 0) pe_int (fun _ _ => rfl)) (pe_gS el) (by rfl)))))
        (pss_one (ps_ret pe_bl)) pss_nil)
      (pss_one (ps_ret (pe_allB (scope := _) (P := P) hr rfl T.all TB rfl ⟨rfl, rfl, by decide +kernel, by decide +kernel, by decide +kernel, nofree (by decide +kernel)⟩ (pv 0) (elt_two rfl (by decide +kernel) (by decide +kernel) (by decide +kernel) hns el ed) (fun _ => rfl))))), ?_⟩
    have zl : z.length = z.cps.toList.length := by simp [Str.length]
    refine ⟨_, rfl, z, rfl, hz, 1, _, rfl, rfl, _, rfl, ?_⟩
    by_cases h1 : (1 : Int) ≤ (z.length : Int)
    · refine if_t (decide_eq_true h1) ⟨_, _, rfl, rfl, _, rfl, ?_⟩
      by_cases h2 : (z.length : Int) ≤ 12
      · rw [decide_eq_true h2]
        refine iteF ?_
        have hp : 0 < z.cps.toList.length := by omega
        have e0 : atI z.cps.toList 0 = some (z.cps.toList[0]'hp) := atI_nat (j := 0) (List.getElem?_eq_getElem hp)
        refine ⟨_, rfl, z, 0, _, rfl, rfl, hz, e0, _, _, rfl, rfl, _, rfl, ?_⟩
        by_cases h3 : z.cps.toList[0]'hp ∈ zLet.cps.toList
        · rw [decide_eq_true h3]
          refine iteF ⟨_, rfl, z, rfl, hP, fun H2 hH => ?_⟩
          have e := k H2 hH
          have en : isNm z = z.cps.toList.all goodC := by
            unfold isNm
            cases q : z.cps.toList with
            | nil => rw [q] at hp; exact absurd hp (by decide)
            | cons c r =>
              have h3' : c ∈ zLet.cps.toList := by
                have : z.cps.toList[0]'hp = c := by simp [q]
                rw [← this]; exact h3
              have a1 : 1 ≤ z.length := by omega
              have a2 : z.length ≤ 12 := by omega
              simp [a1, a2, h3']
          rw [en] at e
          exact e
        · rw [decide_eq_false h3]
          refine iteT ?_
          have en : isNm z = false := by
            unfold isNm
            cases q : z.cps.toList with
            | nil => simp
            | cons c r =>
              have h3' : c ∉ zLet.cps.toList := by
                have : z.cps.toList[0]'hp = c := by simp [q]
                rw [← this]; exact h3
              simp [h3']
          have e := k H ⟨hP, fun _ _ => rfl⟩
          rw [en] at e
          exact e
      · rw [decide_eq_false h2]
        refine iteT ?_
        have en : isNm z = false := by
          unfold isNm
          have a2 : ¬ z.length ≤ 12 := by omega
          simp [a2]
        have e := k H ⟨hP, fun _ _ => rfl⟩
        rw [en] at e
        exact e
    · refine if_f (decide_eq_false h1) ⟨_, rfl, ?_⟩
      refine iteT ?_
      have en : isNm z = false := by
        unfold isNm
        have a2 : ¬ 1 ≤ z.length := by omega
        simp [a2]
      have e := k H ⟨hP, fun _ _ => rfl⟩
      rw [en] at e
      exact e
end
end W

set_option Elab.async false
set_option linter.all false
set_option maxRecDepth 100000
set_option maxHeartbeats 400000
namespace W
open PySem PySem.Spec PyProof.Rows L2 GxR MyG MyS
/-! ### heaps that have grown: what stood (but the table at P) stands -/
structure Grew (P : Addr) (H H' : Hp) : Prop where
  tab : TabG H' P
  old : ∀ b o, b ≠ P → (∀ ps, o ≠ .tbl ps) → H b = some o → H' b = some o
  tabs : ∀ b, TabG H b → TabG H' b
  there : ∀ b, H b ≠ none → H' b ≠ none
section
variable {P : Addr} {H H1 H2 H' : Hp} {K : PySem.W.Frag}
theorem Grew.refl (h : TabG H P) : Grew P H H := ⟨h, fun _ _ _ _ e => e, fun _ q => q, fun _ q => q⟩
theorem Grew.trans (a : Grew P H H1) (b : Grew P H1 H2) : Grew P H H2 := ⟨b.tab, fun c o n d e => b.old c o n d (a.old c o n d e), fun c q => b.tabs c (a.tabs c q), fun c q => b.there c (a.there c q)⟩
theorem Grew.of (t : Tabbed P H H') : Grew P H H' := ⟨t.1, fun b o n _ e => by rw [t.2 b n]; exact e, fun b q => by
  by_cases n : b = P
  · rw [n]; exact t.1
  · obtain ⟨ps, e, r⟩ := q
    exact ⟨ps, by rw [t.2 b n]; exact e, r⟩, fun b q => by
  by_cases n : b = P
  · rw [n]
    obtain ⟨ps, e, r⟩ := t.1
    rw [e]
    exact fun z => by cases z
  · rw [t.2 b n]; exact q⟩
/-- another def's table has grown -/
theorem Grew.of2 {P2 : Addr} (h1 : TabG H P) (h2 : TabG H P2) (t : Tabbed P2 H H') : Grew P H H' := by
  have g := Grew.of t
  refine ⟨g.tabs P h1, fun b o n d e => g.old b o (fun z => ?_) d e, g.tabs, g.there⟩
  obtain ⟨ps, q, _⟩ := h2
  rw [z, q] at e
  exact d ps (Option.some.inj e).symm
theorem tabNe (h : TabG H P) {a : Addr} (n : H a = none) : a ≠ P := fun e => by
  obtain ⟨ps, q, _⟩ := h
  rw [e, q] at n
  cases n
theorem tabNe' (h : TabG H P) {a : Addr} {o : HO} (e : H a = some o) (d : ∀ ps, o ≠ .tbl ps) : a ≠ P := fun z => by
  obtain ⟨ps, q, _⟩ := h
  rw [z, q] at e
  exact d ps (Option.some.inj e).symm
theorem tabUpd (h : TabG H P) {a : Addr} {o : HO} (n : a ≠ P) : TabG (upd H a o) P := by
  obtain ⟨ps, q, t⟩ := h
  exact ⟨ps, by rw [upd_ne (Ne.symm n)]; exact q, t⟩
/-- a new object -/
theorem Grew.new (h : TabG H P) {a : Addr} {o : HO} (n : H a = none) : Grew P H (upd H a o) := ⟨tabUpd h (tabNe h n), fun b u _ _ e => by rw [upd_ne (ne_of_none e n)]; exact e, fun b q => by
  obtain ⟨ps, e, r⟩ := q
  exact ⟨ps, by rw [upd_ne (ne_of_none e n)]; exact e, r⟩, fun b q => by
  by_cases z : b = a
  · rw [z, upd_same]; exact fun z => by cases z
  · rw [upd_ne z]; exact q⟩
theorem Grew.put (g : Grew P H H1) {a : Addr} {o : HO} (n : H1 a = none) : Grew P H (L2.upd H1 a o) := g.trans (Grew.new g.tab n)
theorem Grew.get (g : Grew P H H') (h : TabG H P) {b : Addr} {o : HO} (e : H b = some o) (d : ∀ ps, o ≠ .tbl ps) : H' b = some o := g.old b o (tabNe' h e d) d e
theorem Grew.lst (g : Grew P H H') (h : TabG H P) {b : Addr} {xs : List V} (e : H b = some (.lst xs)) : H' b = some (.lst xs) := g.get h e (fun _ z => by cases z)
theorem Grew.tup (g : Grew P H H') (h : TabG H P) {b : Addr} {xs : List V} (e : H b = some (.tup xs)) : H' b = some (.tup xs) := g.get h e (fun _ z => by cases z)
theorem Grew.free (g : Grew P H H') {b : Addr} (n : H' b = none) : H b = none := by
  cases q : H b with
  | none => rfl
  | some o => exact absurd n (g.there b (by rw [q]; exact fun z => by cases z))
theorem Grew.sqL (g : Grew P H H') (h : TabG H P) {a : Addr} {xs : List V} (q : SqL K H a xs) : SqL K H' a xs := by
  rcases q with (q | ⟨o, q⟩) | q
  · exact .inl (.inl (g.lst h q))
  · exact .inl (.inr ⟨o, g.get h q (fun _ z => by cases z)⟩)
  · exact .inr q
theorem Grew.sqT (g : Grew P H H') (h : TabG H P) {a : Addr} {xs : List V} (q : SqT K H a xs) : SqT K H' a xs := by
  rcases q with (q | ⟨o, q⟩) | q
  · exact .inl (.inl (g.tup h q))
  · exact .inl (.inr ⟨o, g.get h q (fun _ z => by cases z)⟩)
  · exact .inr q
/-- an own object that was not there at H may be written -/
theorem Grew.write (g : Grew P H H1) {a : Addr} {o u : HO} (e : H1 a = some u) (d : ∀ ps, u ≠ .tbl ps) (n : H a = none) : Grew P H (L2.upd H1 a o) :=
  ⟨tabUpd g.tab (tabNe' g.tab e d), fun b v hb dv q => by rw [upd_ne (ne_of_none q n)]; exact g.old b v hb dv q, fun b q => by
    have q2 := g.tabs b q
    obtain ⟨ps, eb, _⟩ := q
    exact tabUpd q2 (ne_of_none eb n).symm, fun b q => by
    by_cases z : b = a
    · rw [z, upd_same]; exact fun z => by cases z
    · rw [upd_ne z]; exact g.there b q⟩
end

/-! ### what stands in tuples goes on standing -/
def KeepT (K : PySem.W.Frag) (H H' : Hp) : Prop := ∀ a xs, SqT K H a xs → SqT K H' a xs
theorem KeepT.refl {K : PySem.W.Frag} {H : Hp} : KeepT K H H := fun _ _ h => h
theorem KeepT.trans {K : PySem.W.Frag} {H H1 H2 : Hp} (x : KeepT K H H1) (y : KeepT K H1 H2) : KeepT K H H2 := fun a xs h => y a xs (x a xs h)
theorem KeepT.grew {K : PySem.W.Frag} {P : Addr} {H H' : Hp} (g : Grew P H H') (h : TabG H P) : KeepT K H H' := fun _ _ q => g.sqT h q
theorem KeepT.upd {K : PySem.W.Frag} {H : Hp} {D : Addr} {o : HO} (h1 : ∀ xs, H D ≠ some (.tup xs)) (h2 : ∀ xs u, H D ≠ some (.frz u (.tup xs))) : KeepT K H (L2.upd H D o) := fun a xs q => by
  rcases q with (q | ⟨u, q⟩) | q
  · have ne : a ≠ D := fun e => by subst e; exact h1 xs q
    exact .inl (.inl (by rw [upd_ne ne]; exact q))
  · have ne : a ≠ D := fun e => by subst e; exact h2 xs u q
    exact .inl (.inr ⟨u, by rw [upd_ne ne]; exact q⟩)
  · exact .inr q
theorem KeepT.lst {K : PySem.W.Frag} {H : Hp} {D : Addr} {o : HO} {l : List V} (e : H D = some (.lst l)) : KeepT K H (L2.upd H D o) := .upd (fun xs q => by rw [e] at q; cases q) (fun xs u q => by rw [e] at q; cases q)
theorem KeepT.ins {K : PySem.W.Frag} {H : Hp} {D C dx : Addr} {o : HO} {fs : List (Str × V)} (e : H D = some (.ins C dx fs)) : KeepT K H (L2.upd H D o) := .upd (fun xs q => by rw [e] at q; cases q) (fun xs u q => by rw [e] at q; cases q)
theorem KeepT.dK {K : PySem.W.Frag} {H : Hp} {D : Addr} {o : HO} {l : List (Key × V)} (e : H D = some (.dK l)) : KeepT K H (L2.upd H D o) := .upd (fun xs q => by rw [e] at q; cases q) (fun xs u q => by rw [e] at q; cases q)
theorem KeepT.dT {K : PySem.W.Frag} {H : Hp} {D : Addr} {o : HO} {l : List (List Key × V)} (e : H D = some (.dT l)) : KeepT K H (L2.upd H D o) := .upd (fun xs q => by rw [e] at q; cases q) (fun xs u q => by rw [e] at q; cases q)
theorem KeepT.new {K : PySem.W.Frag} {H : Hp} {D : Addr} {o : HO} (e : H D = none) : KeepT K H (L2.upd H D o) := .upd (fun xs q => by rw [e] at q; cases q) (fun xs u q => by rw [e] at q; cases q)
/-! ### a < b < c <= d -/
section
variable {X : Cx} {a b c e : Expr} {ta tb tc te : TE} {pos : Pos}
def tChain3 (r r' r'' : R2) (ta tb tc te : TE) : TE := fun σ H Q => ta σ H fun x H1 => tb σ H1 fun y H2 => r x y H2 fun k H3 => ∃ i, k = .bl i ∧
  (if i = true then tc σ H3 fun z H4 => r' y z H4 fun k H5 => ∃ i, k = .bl i ∧ (if i = true then te σ H5 fun u H6 => r'' z u H6 Q else Q (.bl false) H5) else Q (.bl false) H3)
theorem pt_chain3 {op op' op'' : CmpOp} {r r' r'' : R2} (ho : OpR X (compareOp op) r) (ho' : OpR X (compareOp op') r') (ho'' : OpR X (compareOp op'') r'') (ha : PE X a ta) (hb : PE X b tb) (hc : PE X c tc) (he : PE X e te)
    (hm : lastMarks [op, op', op''] [b, c, e] = false := by with_unfolding_all rfl) : PT X (.Compare a [op, op', op''] [b, c, e] pos) (tTest (tChain3 r r' r'' ta tb tc te)) := by
  refine ⟨fun pins s σ H Q I h => ?_⟩
  refine isTrue_chain (thn (ha.run pins s σ H _ I h) fun v s1 ⟨x, H1, I1, r1, q1⟩ => test_link (thn (hb.run pins s1 σ H1 _ I1 q1) fun u s2 ⟨y, H2, I2, r2, q2⟩ =>
    thn (ho pins s2 σ H2 x y v u _ I2 r1 r2 q2) fun d s3 ⟨z, H3, I3, r3, k, ek, q3⟩ => ?_)) hm
  subst ek
  cases r3
  refine wpAny_truthy_bool ?_
  cases k with
  | false =>
    obtain ⟨k', e', q'⟩ := q3
    cases e'
    exact ite_ff ⟨H3, I3, q'⟩
  | true =>
    refine ite_tt (test_link (thn (hc.run pins s3 σ H3 _ I3 q3) fun w' s4 ⟨z', H4, I4, r4, q4⟩ => thn (ho' pins s4 σ H4 y z' u w' _ I4 r2 r4 q4) fun d s5 ⟨z5, H5, I5, r5, k5, e5, q5⟩ => ?_))
    subst e5
    cases r5
    refine wpAny_truthy_bool ?_
    cases k5 with
    | false =>
      obtain ⟨k', e', q'⟩ := q5
      cases e'
      exact ite_ff ⟨H5, I5, q'⟩
    | true =>
      refine ite_tt (test_last (thn (he.run pins s5 σ H5 _ I5 q5) fun w6 s6 ⟨z6, H6, I6, r6, q6⟩ => thn (ho'' pins s6 σ H6 z' z6 w' w6 _ I6 r4 r6 q6) fun d s7 ⟨z7, H7, I7, r7, k7, e7, q7⟩ => ?_))
      subst e7
      cases r7
      exact wpAny_truthy_bool ⟨H7, I7, q7⟩
end
def rTupOf (K : PySem.W.Frag) : List V → Hp → VK → Prop := fun xs H Q => ∃ p ys, xs = [.ref p] ∧ ((SqL K H p ys ∧ ∀ l, H l = none → Q (.ref l) (upd H l (.tup ys))) ∨ (SqT K H p ys ∧ Q (.ref p) H))
/-! ### what a map's parts are -/
theorem Paired.snoc {α β : Type} {F : α → β → Prop} {a : α} {b : β} : ∀ {l : List α} {m : List β}, Paired F l m → F a b → Paired F (l ++ [a]) (m ++ [b])
  | _, _, .nil, h => .cons h .nil
  | _, _, .cons r t, h => .cons r (Paired.snoc t h)
theorem Paired.len {α β : Type} {F : α → β → Prop} : ∀ {l : List α} {m : List β}, Paired F l m → l.length = m.length
  | _, _, .nil => rfl
  | _, _, .cons _ t => congrArg Nat.succ (Paired.len t)
theorem Paired.at {α β : Type} {F : α → β → Prop} : ∀ {l : List α} {m : List β} {i : Nat} {b : β}, Paired F l m → m[i]? = some b → ∃ a, l[i]? = some a ∧ F a b
  | _, _, _, _, .nil, e => by simp at e
  | _, _, 0, _, .cons r _, e => ⟨_, rfl, by simp at e; subst e; exact r⟩
  | _, _, i + 1, _, .cons _ t, e => by
    obtain ⟨a, h1, h2⟩ := Paired.at (i := i) t (by simpa using e)
    exact ⟨a, by simpa using h1, h2⟩
theorem Paired.to {α β : Type} {F : α → β → Prop} : ∀ {l : List α} {m : List β} {i : Nat} {a : α}, Paired F l m → l[i]? = some a → ∃ b, m[i]? = some b ∧ F a b
  | _, _, _, _, .nil, e => by simp at e
  | _, _, 0, _, .cons r _, e => ⟨_, rfl, by simp at e; subst e; exact r⟩
  | _, _, i + 1, _, .cons _ t, e => by
    obtain ⟨a, h1, h2⟩ := Paired.to (i := i) t (by simpa using e)
    exact ⟨a, by simpa using h1, h2⟩
theorem Paired.map' {α β : Type} {F G : α → β → Prop} : ∀ {l : List α} {m : List β}, Paired F l m → (∀ a b, F a b → G a b) → Paired G l m
  | _, _, .nil, _ => .nil
  | _, _, .cons r t, f => .cons (f _ _ r) (Paired.map' t f)
structure RoadD where
  name : Str
  start : Str
  goal : Str
  minutes : Int
  users : List Str
  hours : Option (List (Int × Int))
/-- a pair of hours -/
def GPair (K : PySem.W.Frag) (H : Hp) (p : Int × Int) (x : V) : Prop := ∃ t, x = .ref t ∧ SqT K H t [.int p.1, .int p.2]
/-- the hours of a road -/
def GHours (K : PySem.W.Frag) (H : Hp) (hs : Option (List (Int × Int))) (v : V) : Prop := match hs with
  | none => v = .non
  | some ps => ∃ l xs, v = .ref l ∧ SqT K H l xs ∧ Paired (GPair K H) ps xs
def GRoad (K : PySem.W.Frag) (H : Hp) (r : RoadD) (v : V) : Prop := ∃ t u h, v = .ref t ∧ SqT K H t [.str r.name, .str r.start, .str r.goal, .int r.minutes, .ref u, h] ∧ SqT K H u (r.users.map V.str) ∧ GHours K H r.hours h
theorem GPair.keep {K : PySem.W.Frag} {H H' : Hp} {p : Int × Int} {x : V} (k : KeepT K H H') (g : GPair K H p x) : GPair K H' p x := let ⟨t, e, q⟩ := g; ⟨t, e, k _ _ q⟩
theorem GHours.keep {K : PySem.W.Frag} {H H' : Hp} {hs : Option (List (Int × Int))} {v : V} (k : KeepT K H H') (g : GHours K H hs v) : GHours K H' hs v := by
  cases hs with
  | none => exact g
  | some ps =>
    obtain ⟨l, xs, e, q, r⟩ := g
    exact ⟨l, xs, e, k _ _ q, Paired.map' r fun _ _ => GPair.keep k⟩
theorem GRoad.keep {K : PySem.W.Frag} {H H' : Hp} {r : RoadD} {v : V} (k : KeepT K H H') (g : GRoad K H r v) : GRoad K H' r v := by
  obtain ⟨t, u, h, e, q1, q2, q3⟩ := g
  exact ⟨t, u, h, e, k _ _ q1, k _ _ q2, q3.keep k⟩
/-- pairs in order, apart, within the day -/
def hoursOk (d : Int) : Int → List (Int × Int) → Prop
  | _, [] => True
  | c, p :: r => c < p.1 ∧ p.1 < p.2 ∧ p.2 ≤ d ∧ hoursOk d p.2 r
def HoursOk (d : Int) : Option (List (Int × Int)) → Prop
  | none => True
  | some ps => ps.length ≤ 4 ∧ hoursOk d (-1) ps
/-- where the next pair begins behind the first i -/
def lastOf (c : Int) (ps : List (Int × Int)) (i : Nat) : Int := ((ps.take i).getLast?.map (·.2)).getD c
theorem hoursOk_at {d : Int} : ∀ {ps : List (Int × Int)} {c : Int} {i : Nat} {p : Int × Int}, hoursOk d c ps → ps[i]? = some p → lastOf c ps i < p.1 ∧ p.1 < p.2 ∧ p.2 ≤ d
  | [], _, _, _, _, e => by simp at e
  | q :: r, c, 0, p, h, e => by
    simp at e
    subst e
    exact ⟨h.1, h.2.1, h.2.2.1⟩
  | q :: r, c, i + 1, p, h, e => by
    have k := hoursOk_at (i := i) h.2.2.2 (by simpa using e)
    refine ⟨?_, k.2⟩
    have e2 : lastOf c (q :: r) (i + 1) = lastOf q.2 r i := by
      unfold lastOf
      rw [List.take_succ_cons]
      cases r.take i with
      | nil => rfl
      | cons a l => rw [List.getLast?_cons_cons]; cases h : (a :: l).getLast? with
        | none => simp at h
        | some z => rfl
    rw [e2]; exact k.1
theorem lastOf_succ {ps : List (Int × Int)} {c : Int} {i : Nat} {p : Int × Int} (e : ps[i]? = some p) : lastOf c ps (i + 1) = p.2 := by
  unfold lastOf
  rw [List.take_succ, e]
  simp
theorem isNm_len {z : Str} (h : isNm z = true) : z.length ≤ 12 := by
  unfold isNm at h
  simp only [Bool.and_eq_true, decide_eq_true_eq] at h
  exact h.1.1.2
/-! ### _checked_day, _check_different, _checked_hours, _checked_names -/
structure TxtE (X : Str → Option Value) (K : PySem.W.Frag) (C : Addr) : Prop where
  gC : X "InvalidMap" = some (.ref C)
  xC : PySem.W.excIn K C [.type "ValueError", .type "Exception", .type "BaseException", .type "object"] "ValueError.__new__" = true
  kC : PySem.W.keepIn K (.ref C) = true
  bC : PySem.W.subIn K (.ref C) (.type "BaseException") = some true
  tC : PySem.W.typeIn K (.ref C) = some (.type "type")
abbrev sDay : Stmt := top 22
def spDay : Sp := fun vs H Q _ => ∃ d : Int, vs = [.int d] ∧ 1 ≤ d ∧ d ≤ 1440 ∧ Q (.int d) H
def DiffS (K : PySem.W.Frag) (H : Hp) (a : Addr) : Prop := ∃ ns : List Str, (SqL K H a (ns.map V.str) ∨ SqT K H a (ns.map V.str)) ∧ ns.length ≤ 1000 ∧ ns.Nodup
def DiffP (K : PySem.W.Frag) (H : Hp) (a : Addr) : Prop := ∃ ks : List (Addr × List Str), SqL K H a (ks.map fun p => V.ref p.1) ∧ (∀ p ∈ ks, SqT K H p.1 (p.2.map V.str)) ∧ ks.length < 64 ∧ (ks.map (·.2)).Nodup
def spDiff (K : PySem.W.Frag) : Sp := fun vs H Q _ => ∃ a : Addr, vs = [.ref a] ∧ (DiffS K H a ∨ DiffP K H a) ∧ Q .non H
def spHours (K : PySem.W.Frag) (P : Addr) : Sp := fun vs H Q _ => ∃ (d : Int) (hs : Option (List (Int × Int))) (hv : V), vs = [hv, .int d] ∧ GHours K H hs hv ∧ HoursOk d hs ∧ TabG H P ∧ ∀ H' v', Grew P H H' → GHours K H' hs v' → Q v' H'
section
variable {Pg : Program} {w : World} {K : PySem.W.Frag} {mg : Str → Option Value} {base : Heap} {C P : Addr}
theorem scDay : FnScope ["day"] ["day"] (defScope sDay) := ⟨rfl, rfl, rfl, by decide +kernel, rfl, by decide +kernel, by decide +kernel⟩
theorem ok_day {f : Addr} {fd : FuncData} {t : Tok} (F : Fun K "_checked_day" "_checked_day" sDay f fd) (hd : mg "LONGEST_DAY" = some (.int 1440 t)) : FnOk Pg w K mg base CX0 1 f fd ["day"] spDay := by
  refine F.ok scDay (fun vs H Q E h => ?_) (fun cdv A outer s H vs Q E hr h => ?_)
  · obtain ⟨d, rfl, _⟩ := h
    rfl
  · obtain ⟨d, rfl, h1, h2, k⟩ := h
    refine ⟨_, pss_cons (ps_if (pt_not (pt_chain op_le op_le pe_int (pv 0) (pe_gI hd))) (pss_one ps_never) pss_nil) (pss_one (ps_ret (pv 0))), ?_⟩
    refine ⟨_, rfl, _, _, rfl, rfl, _, rfl, if_t (decide_eq_true h1) ⟨_, _, rfl, rfl, _, rfl, ?_⟩⟩
    rw [decide_eq_true h2]
    exact iteF ⟨_, rfl, k⟩
theorem scDiff : FnScope ["parts"] ["parts"] (defScope sDiff) := ⟨rfl, rfl, rfl, by decide +kernel, rfl, by decide +kernel, by decide +kernel⟩
theorem ok_diff {f : Addr} {fd : FuncData} (F : Fun K "_check_different" "_check_different" sDiff f fd) (hl : mg "len" = none) (hs : mg "set" = none) : FnOk Pg w K mg base CX0 1 f fd ["parts"] (spDiff K) := by
  refine F.ok scDiff (fun vs H Q E h => ?_) (fun cdv A outer s H vs Q E hr h => ?_)
  · obtain ⟨a, rfl, _⟩ := h
    rfl
  · obtain ⟨a, rfl, (⟨ns, hS, h1, nd⟩ | ⟨ks, hS, ht, h1, nd⟩), k⟩ := h
    · refine ⟨_, pss_one (ps_if (pt_cmpR op_lt (pe_lenSetS rfl hl hs (pv 0)) (pe_callB call_len_seq (by rfl) hl PySem.boot_len (pa_cons (pv 0) pa_nil)) (nomark _)) (pss_one ps_never) pss_nil), ?_⟩
      refine ⟨_, rfl, a, ns, rfl, hS, by omega, fun n hc => ?_⟩
      have e : n = ns.length := hc.eq.mpr nd
      subst e
      refine ⟨_, rfl, a, _, rfl, hS, _, _, rfl, rfl, _, rfl, ?_⟩
      rw [List.length_map]
      exact if_f (decide_eq_false (Int.lt_irrefl _)) k
    · refine ⟨_, pss_one (ps_if (pt_cmpR op_lt (pe_lenSetP rfl hr.units hl hs (pv 0)) (pe_callB call_len_seq (by rfl) hl PySem.boot_len (pa_cons (pv 0) pa_nil)) (nomark _)) (pss_one ps_never) pss_nil), ?_⟩
      refine ⟨_, rfl, a, ks, rfl, .inl hS, ht, h1, fun n hc => ?_⟩
      have e : n = (ks.map (·.2)).length := hc.eq.mpr nd
      subst e
      refine ⟨_, rfl, a, _, rfl, .inl hS, _, _, rfl, rfl, _, rfl, ?_⟩
      rw [List.length_map, List.length_map]
      exact if_f (decide_eq_false (Int.lt_irrefl _)) k
abbrev nHours : List Str := ["hours", "day", "closed", "pair"]
theorem scHours : FnScope nHours ["hours", "day"] (defScope sHours) := ⟨rfl, rfl, rfl, by decide +kernel, rfl, by decide +kernel, by decide +kernel⟩
theorem ok_hours {f : Addr} {fd : FuncData} {t1 : Tok} (F : Fun K "_checked_hours" "_checked_hours" sHours f fd) (hl : mg "len" = none) (ht : mg "tuple" = none) (hp : mg "MOST_PAIRS" = some (.int 4 t1)) : FnOk Pg w K mg base CX0 1 f fd ["hours", "day"] (spHours K P) := by
  refine F.ok scHours (fun vs H Q E h => ?_) (fun cdv A outer s H vs Q E hr h => ?_)
  · obtain ⟨d, hs, hv, rfl, _⟩ := h
    rfl
  · obtain ⟨d, hs, hv, rfl, g, ok, hP, k⟩ := h
    refine ⟨_, pss_cons (ps_if (pt_cmp (pc_isN (pv 0))) (pss_one (ps_ret pe_non)) pss_nil)
      (pss_cons (ps_if (pt_cmpR op_gt (pe_callB call_len_seq (by rfl) hl PySem.boot_len (pa_cons (pv 0) pa_nil)) (pe_gI hp) (nomark _)) (pss_one ps_never) pss_nil)
      (pss_cons (ps_set (i := 2) scHours.nd rfl (Or.inl rfl) (pe_un un_neg pe_int))
      (pss_cons (ps_for PassesOwn.never rfl (pi_tup (pv 0)) (pg_name (i := 3) scHours.nd rfl (Or.inl rfl))
        (pss_cons (ps_if (pt_cmpR op_ne (pe_callB call_len_seq (by rfl) hl PySem.boot_len (pa_cons (pv 3) pa_nil)) pe_int (nomark _)) (pss_one ps_never) pss_nil)
        (pss_cons (ps_if (pt_not (pt_chain3 op_lt op_lt op_le (pv 2) (pe_ix ix_tup (pv 3) pe_int (fun _ _ => rfl)) (pe_ix ix_tup (pv 3) pe_int (fun _ _ => rfl)) (pv 1))) (pss_one ps_never) pss_nil)
        (pss_one (ps_set (i := 2) scHours.nd rfl (Or.inl rfl) (pe_ix ix_tup (pv 3) pe_int (fun _ _ => rfl)))))))
      (pss_one (ps_ret (pe_callTy call_tuple_of (by rfl) ht (by decide +kernel) (pa_cons (pe_lc (own := [("pair", 3)]) (g := gName 3) (tt := tYes) rfl scHours.nd (pi_tup (pv 0)) (blkOk_by (N := nHours) (sc := defScope sHours) (by decide +kernel)) (fun _ _ _ _ _ => pg_name (i := 3) scHours.nd rfl (Or.inl rfl)) (fun _ _ _ _ _ => pts_nil)
          (fun _ _ _ _ _ => pe_callTy (r := rTupOf K) call_tuple_of (by rfl) ht (by decide +kernel) (pa_cons (pv 3) pa_nil))) pa_nil))))))), ?_⟩
    cases hs with
    | none =>
      obtain rfl : hv = .non := g
      refine ⟨_, rfl, _, rfl, ?_⟩
      exact iteT (k H .non (Grew.refl hP) rfl)
    | some ps =>
      obtain ⟨l, xs, rfl, hS, hG⟩ := g
      obtain ⟨ok4, okc⟩ := ok
      have hlen := Paired.len hG
      refine ⟨_, rfl, _, rfl, ?_⟩
      refine iteF ?_
      refine ⟨_, rfl, l, _, rfl, .inr hS, _, _, rfl, rfl, _, rfl, if_f (decide_eq_false (by omega)) ?_⟩
      refine ⟨1, rfl, ?_⟩
      refine ⟨_, rfl, l, rfl, ⟨_, hS⟩, for_tup (K := K) (a := l) (xs := xs) (fun i σ H' => H' = H ∧ ∃ v, σ = [some (.ref l), some (.int d), some (.int (lastOf (-1) ps i)), v])
        ⟨rfl, none, rfl⟩ (fun i σ H' _ ⟨e, _⟩ => by rw [e]; exact hS) ?_ ?_⟩
      · rintro i y σ H' hi ⟨rfl, v, rfl⟩
        obtain ⟨p, hp, t, rfl, hT⟩ := Paired.at hG hi
        obtain ⟨o1, o2, o3⟩ := hoursOk_at okc hp
        have e0 : atI [V.int p.1, V.int p.2] 0 = some (.int p.1) := rfl
        have e1 : atI [V.int p.1, V.int p.2] 1 = some (.int p.2) := rfl
        refine ⟨_, rfl, t, _, rfl, .inr hT, rfl, _, rfl, if_f (by rfl) ?_⟩
        refine ⟨_, rfl, _, rfl, t, _, 0, _, rfl, rfl, hT, e0, _, _, rfl, rfl, _, rfl, if_t (decide_eq_true o1) ⟨_, rfl, t, _, 1, _, rfl, rfl, hT, e1, _, _, rfl, rfl, _, rfl, if_t (decide_eq_true o2) ⟨_, rfl, _, _, rfl, rfl, _, rfl, ?_⟩⟩⟩
        rw [decide_eq_true o3]
        refine iteF ⟨_, rfl, t, _, 1, _, rfl, rfl, hT, e1, rfl, some (.ref t), ?_⟩
        rw [lastOf_succ hp]
        rfl
      · rintro σ H' ⟨rfl, v, rfl⟩
        refine ⟨_, rfl, l, rfl, ⟨_, hS⟩, fun D nD => lc_tup (K := K) (a := l) (xs := xs) (fun i H1 => Grew P H' H1 ∧ H1 D = some (.lst (xs.take i)))
          ⟨Grew.new hP nD, upd_same⟩ (fun i H1 _ p => p.1.sqT hP hS) (fun i x H1 hx p => ?_) (fun H1 p => ?_)⟩
        · obtain ⟨g, hD⟩ := p
          obtain ⟨p, hp, t, rfl, hT⟩ := Paired.at hG hx
          refine ⟨rfl, _, rfl, t, _, rfl, .inr ⟨g.sqT hP hT, _, hD, ?_, g.write hD (fun _ z => by cases z) nD, ?_⟩⟩
          · rw [List.length_take, sizeLine_eq]; omega
          · rw [upd_same, List.take_succ, hx]; rfl
        · obtain ⟨g, hD⟩ := p
          rw [List.take_length] at hD
          refine ⟨D, _, rfl, .inl ⟨SqL.of hD, fun q nq => ?_⟩⟩
          have gq := g.put (o := .tup xs) nq
          exact k _ _ gq ⟨q, xs, rfl, SqT.of upd_same, Paired.map' hG fun a b m => m.keep (KeepT.grew gq hP)⟩
end
end W

set_option Elab.async false
set_option linter.all false
set_option maxRecDepth 100000
set_option maxHeartbeats 400000
namespace W
open PySem PySem.Spec PyProof.Rows L2 GxR MyG MyS
/-! ### _checked_names, _checked_road -/
def spNames (K : PySem.W.Frag) (P : Addr) : Sp := fun vs H Q _ => ∃ (a : Addr) (ns : List Str) (lo hi : Int), vs = [.ref a, .int lo, .int hi] ∧ SqL K H a (ns.map V.str) ∧ lo ≤ ns.length ∧ (ns.length : Int) ≤ hi ∧ ns.length ≤ 1000 ∧ ns.all isNm = true ∧ ns.Nodup ∧ TabG H P ∧
  ∀ H' p ys, Grew P H H' → H p = none → H' p = some (.tup (ys.map V.str)) → ys.Perm ns → Asc ys → Q (.ref p) H'
section
variable {Pg : Program} {w : World} {K : PySem.W.Frag} {mg : Str → Option Value} {base : Heap} {C P : Addr}
theorem scNames : FnScope ["names", "least", "most", "name"] ["names", "least", "most"] (defScope sNames) := ⟨rfl, rfl, rfl, by decide +kernel, rfl, by decide +kernel, by decide +kernel⟩
theorem ok_names {f fN fD : Addr} {fd fdN fdD : FuncData} (F : Fun K "_checked_names" "_checked_names" sNames f fd) (hl : mg "len" = none) (ht : mg "tuple" = none) (hs : mg "sorted" = none)
    (GN : FnOk Pg w K mg base CX0 2 fN fdN ["text"] (spIsName P)) (gN : mg "is_name" = some (.ref fN)) (kN : PySem.W.keepIn K (.ref fN) = true) (bN : Binds K fdN ["text"] [])
    (GD : FnOk Pg w K mg base CX0 1 fD fdD ["parts"] (spDiff K)) (gD : mg "_check_different" = some (.ref fD)) (kD : PySem.W.keepIn K (.ref fD) = true) (bD : Binds K fdD ["parts"] []) :
    FnOk Pg w K mg base CX0 3 f fd ["names", "least", "most"] (spNames K P) := by
  refine F.ok scNames (fun vs H Q E h => ?_) (fun cdv A outer s H vs Q E hr h => ?_)
  · obtain ⟨a, ns, lo, hi, rfl, _⟩ := h
    rfl
  · obtain ⟨a, ns, lo, hi, rfl, hS, hlo, hhi, h1, hz, nd, hP, kQ⟩ := h
    have hr1 : Room 1 _ := hr.mono (by decide)
    refine ⟨_, pss_cons (ps_if (pt_not (pt_chain op_le op_le (pv 1) (pe_callB call_len_seq (by rfl) hl PySem.boot_len (pa_cons (pv 0) pa_nil)) (pv 2))) (pss_one ps_never) pss_nil)
      (pss_cons (ps_for PassesOwn.never rfl (pi_list (pv 0)) (pg_name (i := 3) scNames.nd rfl (Or.inl rfl))
        (pss_one (ps_if (pt_not (pt_val (pe_call GN hr (by rfl) gN kN bN .nil pass0 (pa_cons (pv 3) pa_nil)))) (pss_one ps_never) pss_nil)))
      (pss_cons (ps_expr (pe_call GD hr1 (by rfl) gD kD bD .nil pass0 (pa_cons (pv 0) pa_nil)))
      (pss_one (ps_ret (pe_callTy call_tuple_of (by rfl) ht (by decide +kernel) (pa_cons (pe_callB cr_sortSQ (by rfl) hs (by decide +kernel) (pa_cons (pv 0) pa_nil)) pa_nil)))))), ?_⟩
    refine ⟨_, rfl, _, rfl, a, _, rfl, .inl hS, _, _, rfl, rfl, _, rfl, ?_⟩
    rw [List.length_map]
    refine if_t (decide_eq_true hlo) ⟨_, rfl, _, _, rfl, rfl, _, rfl, ?_⟩
    rw [decide_eq_true hhi]
    refine iteF ⟨_, rfl, a, rfl, ⟨_, hS⟩, for_list (K := K) (a := a) (xs := ns.map V.str) (fun i σ H' => ∃ v, σ = [some (.ref a), some (.int lo), some (.int hi), v] ∧ Grew P H H')
      ⟨none, rfl, Grew.refl hP⟩ (fun i σ H' _ ⟨_, _, g⟩ => g.sqL hP hS) ?_ ?_⟩
    · rintro i y σ H' hi ⟨v, rfl, g⟩
      obtain ⟨z, hzi, rfl⟩ : ∃ z, ns[i]? = some z ∧ y = V.str z := by
        rw [List.getElem?_map] at hi
        obtain ⟨z, e1, e2⟩ := Option.map_eq_some_iff.mp hi
        exact ⟨z, e1, e2.symm⟩
      have hn : isNm z = true := List.all_eq_true.mp hz z (List.mem_of_getElem? hzi)
      have hzl := isNm_len hn
      refine ⟨_, rfl, z, rfl, by rw [sizeLine_eq]; omega, g.tab, fun H2 t2 => ⟨_, rfl, ?_⟩⟩
      have g2 := g.trans (Grew.of t2)
      rw [hn]
      exact iteF ⟨_, rfl, g2⟩
    · rintro σ H' ⟨v, rfl, g⟩
      refine ⟨_, rfl, a, rfl, .inl ⟨ns, .inl (g.sqL hP hS), h1, nd⟩, ?_⟩
      refine ⟨_, rfl, a, ns, rfl, .inl (g.sqL hP hS), fun ys l hp hso hl => ⟨l, _, rfl, .inl ⟨SqL.of upd_same, fun p hp2 => ?_⟩⟩⟩
      have gl := g.put (o := .lst (ys.map V.str)) hl
      exact kQ _ p ys (gl.put hp2) (gl.free hp2) upd_same hp hso
/-- the road leads from place to place, for kinds of the map -/
structure RoadOk (d : Int) (ps ks : List Str) (r : RoadD) : Prop where
  s : r.start ∈ ps
  g : r.goal ∈ ps
  m1 : 1 ≤ r.minutes
  m2 : r.minutes ≤ 1000
  u : ∀ k ∈ r.users, k ∈ ks
  un : r.users.length ≤ 4
  ud : r.users.Nodup
  h : HoursOk d r.hours
/-- the road as the map keeps it -/
def Kept (r r' : RoadD) : Prop := r'.name = r.name ∧ r'.start = r.start ∧ r'.goal = r.goal ∧ r'.minutes = r.minutes ∧ r'.hours = r.hours ∧ r'.users.Perm r.users ∧ Asc r'.users
def spRoad (K : PySem.W.Frag) (P : Addr) : Sp := fun vs H Q _ => ∃ (x : V) (pl ki : Addr) (d : Int) (ps ks : List Str) (r : RoadD), vs = [x, .int d, .ref pl, .ref ki] ∧ GRoad K H r x ∧ SqT K H pl (ps.map V.str) ∧ SqT K H ki (ks.map V.str) ∧ RoadOk d ps ks r ∧ TabG H P ∧
  ∀ H' p q h r', Grew P H H' → Kept r r' → H p = none → H' p = some (.tup [.str r'.name, .str r'.start, .str r'.goal, .int r'.minutes, .ref q, h]) → H' q = some (.tup (r'.users.map V.str)) → GHours K H' r'.hours h → Q (.ref p) H'
theorem scRoad : FnScope ["road", "day", "places", "kinds", "name", "start", "end", "minutes", "users", "hours", "kind"] ["road", "day", "places", "kinds"] (defScope sRoad) := ⟨rfl, rfl, rfl, by decide +kernel, rfl, by decide +kernel, by decide +kernel⟩
theorem inV_str {x : Str} {xs : List Str} (h : x ∈ xs) : inV (.str x) (xs.map V.str) = true := by
  unfold inV
  rw [List.any_map, List.any_eq_true]
  exact ⟨x, h, by simp [eqV]⟩
theorem flat_strs (xs : List Str) : (xs.map V.str).all flatV = true := by
  rw [List.all_map]
  exact List.all_eq_true.mpr fun _ _ => rfl
theorem ok_road {f fH fD : Addr} {fd fdH fdD : FuncData} {t1 : Tok} (F : Fun K "_checked_road" "_checked_road" sRoad f fd) (ht : mg "tuple" = none) (hs : mg "sorted" = none) (hm : mg "MOST_MINUTES" = some (.int 1000 t1))
    (GD : FnOk Pg w K mg base CX0 1 fD fdD ["parts"] (spDiff K)) (gD : mg "_check_different" = some (.ref fD)) (kD : PySem.W.keepIn K (.ref fD) = true) (bD : Binds K fdD ["parts"] [])
    (GH : FnOk Pg w K mg base CX0 1 fH fdH ["hours", "day"] (spHours K P)) (gH : mg "_checked_hours" = some (.ref fH)) (kH : PySem.W.keepIn K (.ref fH) = true) (bH : Binds K fdH ["hours", "day"] []) :
    FnOk Pg w K mg base CX0 2 f fd ["road", "day", "places", "kinds"] (spRoad K P) := by
  refine F.ok scRoad (fun vs H Q E h => ?_) (fun cdv A outer s H vs Q E hr h => ?_)
  · obtain ⟨x, pl, ki, d, ps, ks, r, rfl, _⟩ := h
    rfl
  · obtain ⟨x, pl, ki, d, ps, ks, r, rfl, ⟨t, u, h, rfl, hT, hU, hH⟩, hPl, hKi, ok, hP, k⟩ := h
    refine ⟨_, pss_cons (ps_asg (pv 0) (pg_tup (by rfl) (pgs_cons (pg_name (i := 4) scRoad.nd rfl (.inl rfl)) (pgs_cons (pg_name (i := 5) scRoad.nd rfl (.inl rfl)) (pgs_cons (pg_name (i := 6) scRoad.nd rfl (.inl rfl))
        (pgs_cons (pg_name (i := 7) scRoad.nd rfl (.inl rfl)) (pgs_cons (pg_name (i := 8) scRoad.nd rfl (.inl rfl)) (pgs_cons (pg_name (i := 9) scRoad.nd rfl (.inl rfl)) pgs_nil))))))))
      (pss_cons (ps_if (PW.pt (pw_or (pt_cmpR op_notIn_seq (pv 5) (pv 2) (by rfl)) (pw_or1 (pt_cmpR op_notIn_seq (pv 6) (pv 2) (by rfl))))) (pss_one ps_never) pss_nil)
      (pss_cons (ps_if (pt_not (pt_chain op_le op_le pe_int (pv 7) (pe_gI hm))) (pss_one ps_never) pss_nil)
      (pss_cons (ps_for PassesOwn.never rfl (pi_tup (pv 8)) (pg_name (i := 10) scRoad.nd rfl (Or.inl rfl)) (pss_one (ps_if (pt_cmpR op_notIn_seq (pv 10) (pv 3) (by rfl)) (pss_one ps_never) pss_nil)))
      (pss_cons (ps_expr (pe_call GD hr (by rfl) gD kD bD .nil pass0 (pa_cons (pv 8) pa_nil)))
      (pss_one (ps_ret (pe_tup (pa_cons (pv 4) (pa_cons (pv 5) (pa_cons (pv 6) (pa_cons (pv 7) (pa_cons (pe_callTy call_tuple_of (by rfl) ht (by decide +kernel) (pa_cons (pe_callB cr_sortSQ (by rfl) hs (by decide +kernel) (pa_cons (pv 8) pa_nil)) pa_nil))
        (pa_cons (pe_call GH hr (by rfl) gH kH bH .nil pass0 (pa_cons (pv 9) (pa_cons (pv 1) pa_nil))) pa_nil))))))))))))), ?_⟩
    refine ⟨_, rfl, t, _, rfl, hT, rfl, _, _, rfl, _, _, rfl, _, _, rfl, _, _, rfl, _, _, rfl, _, _, rfl, rfl, ?_⟩
    have i1 := inV_str ok.s
    have i2 := inV_str ok.g
    refine ⟨_, rfl, _, rfl, pl, _, rfl, .inr hPl, rfl, flat_strs _, _, rfl, ?_⟩
    refine if_f (by simp [i1]) ?_
    refine ⟨_, rfl, _, rfl, pl, _, rfl, .inr hPl, rfl, flat_strs _, _, rfl, ?_⟩
    refine if_f (by simp [i2]) ?_
    refine ⟨_, rfl, _, _, rfl, rfl, _, rfl, if_t (decide_eq_true ok.m1) ⟨_, _, rfl, rfl, _, rfl, ?_⟩⟩
    rw [decide_eq_true ok.m2]
    refine iteF ?_
    refine ⟨_, rfl, u, rfl, ⟨_, hU⟩, for_tup (K := K) (a := u) (xs := r.users.map V.str) (fun i σ H' => H' = H ∧ ∃ v, σ = [some (.ref t), some (.int d), some (.ref pl), some (.ref ki), some (.str r.name), some (.str r.start), some (.str r.goal), some (.int r.minutes), some (.ref u), some h, v])
      ⟨rfl, none, rfl⟩ (fun i σ H' _ ⟨e, _⟩ => by rw [e]; exact hU) ?_ ?_⟩
    · rintro i y σ H' hi ⟨rfl, v, rfl⟩
      obtain ⟨z, hzi, rfl⟩ : ∃ z, r.users[i]? = some z ∧ y = V.str z := by
        rw [List.getElem?_map] at hi
        obtain ⟨z, e1, e2⟩ := Option.map_eq_some_iff.mp hi
        exact ⟨z, e1, e2.symm⟩
      have i3 := inV_str (ok.u z (List.mem_of_getElem? hzi))
      refine ⟨_, rfl, _, rfl, ki, _, rfl, .inr hKi, rfl, flat_strs _, _, rfl, ?_⟩
      refine if_f (by simp [i3]) ⟨rfl, _, rfl⟩
    · rintro σ H' ⟨rfl, v, rfl⟩
      have un := ok.un
      refine ⟨_, rfl, u, rfl, .inl ⟨r.users, .inr hU, by omega, ok.ud⟩, ?_⟩
      refine ⟨_, rfl, _, rfl, _, rfl, _, rfl, _, rfl, u, r.users, rfl, .inr hU, fun ys l hp hso hl => ⟨l, _, rfl, .inl ⟨SqL.of upd_same, fun q hq => ?_⟩⟩⟩
      have gl := Grew.new hP (o := .lst (ys.map V.str)) hl
      have gq := gl.put (o := .tup (ys.map V.str)) hq
      refine ⟨_, rfl, _, rfl, d, r.hours, h, rfl, hH.keep (KeepT.grew gq hP), ok.h, gq.tab, fun H2 v' g2 hv => ⟨by show 6 ≤ sizeLine; decide, fun p hp2 => ?_⟩⟩
      have g3 := gq.trans g2
      have gp := g3.put (o := .tup [.str r.name, .str r.start, .str r.goal, .int r.minutes, .ref q, v']) hp2
      have e2 : H2 q = some (.tup (ys.map V.str)) := g2.tup gq.tab upd_same
      exact k _ p q v' { r with users := ys } gp ⟨rfl, rfl, rfl, rfl, rfl, hp, hso⟩ (g3.free hp2) upd_same (by rw [upd_ne (ne_of_none e2 hp2)]; exact e2) (hv.keep (KeepT.new hp2))
end
end W

set_option Elab.async false
set_option linter.all false
set_option maxRecDepth 100000
set_option maxHeartbeats 400000
namespace W
open PySem PySem.Spec PyProof.Rows L2 GxR MyG MyS
/-! ### _checked_roads -/
/-- a road that was made here: its own tuples stand tracked, none was there at H0 -/
def MadeR (K : PySem.W.Frag) (H0 H : Hp) (r : RoadD) (v : V) : Prop := ∃ r' p q h, v = .ref p ∧ H0 p = none ∧ Kept r r' ∧ H p = some (.tup [.str r'.name, .str r'.start, .str r'.goal, .int r'.minutes, .ref q, h]) ∧ H q = some (.tup (r'.users.map V.str)) ∧ GHours K H r'.hours h
/-- the road v at H -/
def RoadAt (K : PySem.W.Frag) (H : Hp) (r : RoadD) (v : V) : Prop := ∃ p q h, v = .ref p ∧ H p = some (.tup [.str r.name, .str r.start, .str r.goal, .int r.minutes, .ref q, h]) ∧ H q = some (.tup (r.users.map V.str)) ∧ GHours K H r.hours h
theorem RoadAt.grew {K : PySem.W.Frag} {P : Addr} {H H' : Hp} {r : RoadD} {v : V} (g : Grew P H H') (h : TabG H P) (m : RoadAt K H r v) : RoadAt K H' r v := by
  obtain ⟨p, q, hv, e, e1, e2, e3⟩ := m
  exact ⟨p, q, hv, e, g.tup h e1, g.tup h e2, e3.keep (KeepT.grew g h)⟩
theorem RoadAt.upd {K : PySem.W.Frag} {H : Hp} {D : Addr} {o : HO} {r : RoadD} {v : V} (nt : ∀ xs, H D ≠ some (.tup xs)) (kt : KeepT K H (L2.upd H D o)) (m : RoadAt K H r v) : RoadAt K (L2.upd H D o) r v := by
  obtain ⟨p, q, hv, e, e1, e2, e3⟩ := m
  exact ⟨p, q, hv, e, by rw [upd_ne (fun z => nt _ (z ▸ e1))]; exact e1, by rw [upd_ne (fun z => nt _ (z ▸ e2))]; exact e2, e3.keep kt⟩
theorem RoadAt.road {K : PySem.W.Frag} {H : Hp} {r : RoadD} {v : V} (m : RoadAt K H r v) : GRoad K H r v := by
  obtain ⟨p, q, hv, e, e1, e2, e3⟩ := m
  exact ⟨p, q, hv, e, SqT.of e1, SqT.of e2, e3⟩
theorem ex_list {α β : Type} {F : α → β → Prop} : ∀ (l : List α), (∀ a ∈ l, ∃ b, F a b) → ∃ m, Paired F l m
  | [], _ => ⟨[], .nil⟩
  | a :: l, h => by
    obtain ⟨b, hb⟩ := h a List.mem_cons_self
    obtain ⟨m, hm⟩ := ex_list l fun a ha => h a (List.mem_cons_of_mem _ ha)
    exact ⟨b :: m, .cons hb hm⟩
theorem Paired.mem {α β : Type} {F : α → β → Prop} : ∀ {l : List α} {m : List β} {b : β}, Paired F l m → b ∈ m → ∃ a ∈ l, F a b
  | _, _, _, .cons r t, h => by
    rcases List.mem_cons.mp h with e | h
    · exact ⟨_, List.mem_cons_self, e ▸ r⟩
    · obtain ⟨a, ha, f⟩ := Paired.mem t h
      exact ⟨a, List.mem_cons_of_mem _ ha, f⟩
theorem Paired.mem' {α β : Type} {F : α → β → Prop} : ∀ {l : List α} {m : List β} {a : α}, Paired F l m → a ∈ l → ∃ b ∈ m, F a b
  | _, _, _, .cons r t, h => by
    rcases List.mem_cons.mp h with e | h
    · exact ⟨_, List.mem_cons_self, e ▸ r⟩
    · obtain ⟨a, ha, f⟩ := Paired.mem' t h
      exact ⟨a, List.mem_cons_of_mem _ ha, f⟩
theorem Paired.comp {α β γ : Type} {F : α → β → Prop} {G : β → γ → Prop} {E : α → γ → Prop} (h : ∀ a b c, F a b → G b c → E a c) : ∀ {l : List α} {m : List β} {n : List γ}, Paired F l m → Paired G m n → Paired E l n
  | _, _, _, .nil, .nil => .nil
  | _, _, _, .cons r t, .cons r' t' => .cons (h _ _ _ r r') (Paired.comp h t t')
/-- the values in another order: the things behind them too -/
theorem Paired.perm {α β : Type} {F : α → β → Prop} {m m' : List β} (p : m'.Perm m) : ∀ {l : List α}, Paired F l m → ∃ l' : List α, l'.Perm l ∧ Paired F l' m' := by
  induction p with
  | nil => exact fun h => ⟨_, List.Perm.refl _, h⟩
  | cons x p ih =>
    intro l h
    cases h with
    | cons r t =>
      obtain ⟨l', q1, q2⟩ := ih t
      exact ⟨_ :: l', q1.cons _, .cons r q2⟩
  | swap x y l0 =>
    intro l h
    cases h with
    | cons r t =>
      cases t with
      | cons r2 t => exact ⟨_ :: _ :: _, List.Perm.swap .., .cons r2 (.cons r t)⟩
  | trans p q ih1 ih2 =>
    intro l h
    obtain ⟨l1, a1, a2⟩ := ih2 h
    obtain ⟨l2, b1, b2⟩ := ih1 a2
    exact ⟨l2, b1.trans a1, b2⟩
theorem Paired.pair {α β : Type} {F : α → β → Prop} {R : β → β → Prop} {S : α → α → Prop} (h : ∀ a b x y, F a x → F b y → R x y → S a b) : ∀ {l : List α} {m : List β}, Paired F l m → m.Pairwise R → l.Pairwise S
  | _, _, .nil, _ => List.Pairwise.nil
  | _, _, .cons r t, p => by
    have q := List.pairwise_cons.mp p
    refine List.pairwise_cons.mpr ⟨fun a ha => ?_, Paired.pair h t q.2⟩
    obtain ⟨b, hb, f⟩ := Paired.mem' t ha
    exact h _ _ _ _ r f (q.1 b hb)
theorem Paired.inj {α β γ : Type} {F : α → β → Prop} {f : α → γ} {l : List α} {m : List β} (h : Paired F l m) (nd : (l.map f).Nodup) {x y : β} (hx : x ∈ m) (hy : y ∈ m) (hxy : ∀ a b, F a x → F b y → f a = f b) : x = y := by
  obtain ⟨i, hi, ei⟩ := List.getElem_of_mem hx
  obtain ⟨j, hj, ej⟩ := List.getElem_of_mem hy
  obtain ⟨a, ha, fa⟩ := Paired.at h (List.getElem?_eq_some_iff.mpr ⟨hi, ei⟩)
  obtain ⟨b, hb, fb⟩ := Paired.at h (List.getElem?_eq_some_iff.mpr ⟨hj, ej⟩)
  have e := hxy a b fa fb
  obtain ⟨hi', ea⟩ := List.getElem?_eq_some_iff.mp ha
  obtain ⟨hj', eb⟩ := List.getElem?_eq_some_iff.mp hb
  have ij : i = j := by
    rcases Nat.lt_trichotomy i j with c | c | c
    · exact absurd (by rw [List.getElem_map, List.getElem_map, ea, eb]; exact e) (List.pairwise_iff_getElem.mp nd i j (by rw [List.length_map]; exact hi') (by rw [List.length_map]; exact hj') c)
    · exact c
    · exact absurd (by rw [List.getElem_map, List.getElem_map, ea, eb]; exact e.symm) (List.pairwise_iff_getElem.mp nd j i (by rw [List.length_map]; exact hj') (by rw [List.length_map]; exact hi') c)
  subst ij
  exact ei.symm.trans ej
theorem kept_names : ∀ {rs ms : List RoadD}, Paired Kept rs ms → ms.map (·.name) = rs.map (·.name)
  | _, _, .nil => rfl
  | _, _, .cons r t => by
    rw [List.map_cons, List.map_cons, kept_names t, r.1]
/-- the name of a road's tuple -/
def nameAt (H : Hp) : V → Str
  | .ref t => match H t with
    | some (.tup (.str n :: _)) => n
    | _ => Str.empty
  | _ => Str.empty
theorem RoadAt.name {K : PySem.W.Frag} {H : Hp} {r : RoadD} {v : V} (m : RoadAt K H r v) : nameAt H v = r.name := by
  obtain ⟨p, q, hv, e, e1, _⟩ := m
  subst e
  unfold nameAt
  simp only [e1]
/-- the roads as the map keeps them: the same ones, each as it is kept, by their names -/
def KeptAll (rs rs' : List RoadD) : Prop := ∃ l, l.Perm rs' ∧ Paired Kept rs l
def AscR (rs : List RoadD) : Prop := rs.Pairwise fun a b => slt b.name a.name = false
structure RoadsOk (d : Int) (ps ks : List Str) (rs : List RoadD) : Prop where
  len : rs.length ≤ 60
  nm : (rs.map (·.name)).all isNm = true
  nd : (rs.map (·.name)).Nodup
  ok : ∀ r ∈ rs, RoadOk d ps ks r
def spRoads (K : PySem.W.Frag) (P : Addr) : Sp := fun vs H Q _ => ∃ (a pl ki : Addr) (d : Int) (ps ks : List Str) (rs : List RoadD) (xs : List V), vs = [.ref a, .int d, .ref pl, .ref ki] ∧ SqL K H a xs ∧ Paired (GRoad K H) rs xs ∧ SqT K H pl (ps.map V.str) ∧ SqT K H ki (ks.map V.str) ∧ RoadsOk d ps ks rs ∧ TabG H P ∧
  ∀ H' p rs' ys, Grew P H H' → KeptAll rs rs' → AscR rs' → H p = none → H' p = some (.tup ys) → Paired (RoadAt K H') rs' ys → Q (.ref p) H'
section
variable {Pg : Program} {w : World} {K : PySem.W.Frag} {mg : Str → Option Value} {base : Heap} {C P : Addr}
abbrev nRoads : List Str := ["roads", "day", "places", "kinds", "road", "kept"]
theorem scRoads : FnScope nRoads ["roads", "day", "places", "kinds"] (defScope sRoads) := ⟨rfl, rfl, rfl, by decide +kernel, rfl, by decide +kernel, by decide +kernel⟩
theorem ok_roads {f fN fR : Addr} {fd fdN fdR : FuncData} {t1 t2 t3 : Tok} (F : Fun K "_checked_roads" "_checked_roads" sRoads f fd) (hl : mg "len" = none) (ht : mg "tuple" = none) (hs : mg "sorted" = none)
    (hp : mg "PARTS" = some (.int 6 t1)) (hn : mg "NAME" = some (.int 0 t2)) (hm : mg "MOST_ROADS" = some (.int 60 t3))
    (GN : FnOk Pg w K mg base CX0 3 fN fdN ["names", "least", "most"] (spNames K P)) (gN : mg "_checked_names" = some (.ref fN)) (kN : PySem.W.keepIn K (.ref fN) = true) (bN : Binds K fdN ["names", "least", "most"] [])
    (GR : FnOk Pg w K mg base CX0 2 fR fdR ["road", "day", "places", "kinds"] (spRoad K P)) (gR : mg "_checked_road" = some (.ref fR)) (kR : PySem.W.keepIn K (.ref fR) = true) (bR : Binds K fdR ["road", "day", "places", "kinds"] []) :
    FnOk Pg w K mg base CX0 4 f fd ["roads", "day", "places", "kinds"] (spRoads K P) := by
  refine F.ok scRoads (fun vs H Q E h => ?_) (fun cdv A outer s H vs Q E hr h => ?_)
  · obtain ⟨a, pl, ki, d, ps, ks, rs, xs, rfl, _⟩ := h
    rfl
  · obtain ⟨a, pl, ki, d, ps, ks, rs, xs, rfl, hS, hG, hPl, hKi, ok, hP, k⟩ := h
    have hr2 : Room 2 _ := hr.mono (by decide)
    refine ⟨_, pss_cons (ps_for PassesOwn.never rfl (pi_list (pv 0)) (pg_name (i := 4) scRoads.nd rfl (Or.inl rfl)) (pss_one (ps_if (pt_cmpR op_ne (pe_callB call_len_seq (by rfl) hl PySem.boot_len (pa_cons (pv 4) pa_nil)) (pe_gI hp) (nomark _)) (pss_one ps_never) pss_nil)))
      (pss_cons (ps_expr (pe_call GN hr (by rfl) gN kN bN .nil pass0 (pa_cons (pe_lc (own := [("road", 4)]) (g := gName 4) (tt := tYes) rfl scRoads.nd (pi_list (pv 0)) (blkOk_by (N := nRoads) (sc := defScope sRoads) (by decide +kernel)) (fun _ _ _ _ _ => pg_name (i := 4) scRoads.nd rfl (Or.inl rfl)) (fun _ _ _ _ _ => pts_nil)
          (fun _ _ _ _ _ => pe_ix (r := rIxT K) ix_tup (pv 4) (pe_gI hn) (fun _ _ => rfl))) (pa_cons pe_int (pa_cons (pe_gI hm) pa_nil)))))
      (pss_cons (ps_setLc (i := 5) (own := [("road", 4)]) (g := gName 4) (tt := tYes) rfl scRoads.nd rfl rfl (sw_true rfl rfl rfl (by decide +kernel)) (pi_list (pv 0)) (blkOk_by (N := nRoads) (sc := defScope sRoads) (by decide +kernel)) (fun _ _ _ _ _ => pg_name (i := 4) scRoads.nd rfl (Or.inl rfl)) (fun _ _ _ _ _ => pts_nil)
          (fun _ _ _ _ _ => pe_call GR hr2 (by rfl) gR kR bR .nil pass0 (pa_cons (pv 4) (pa_cons (pv 1) (pa_cons (pv 2) (pa_cons (pv 3) pa_nil))))))
      (pss_one (ps_ret (pe_callTy call_tuple_of (by rfl) ht (by decide +kernel) (pa_cons (pe_callB cr_sortR (by rfl) hs (by decide +kernel) (pa_cons (pv 5) pa_nil)) pa_nil)))))), ?_⟩
    have hln : rs.length = xs.length := Paired.len hG
    have hl60 := ok.len
    refine ⟨_, rfl, a, rfl, ⟨_, hS⟩, for_list (K := K) (a := a) (xs := xs) (fun i σ H' => H' = H ∧ ∃ v, σ = [some (.ref a), some (.int d), some (.ref pl), some (.ref ki), v, none])
      ⟨rfl, none, rfl⟩ (fun i σ H' _ ⟨e, _⟩ => by rw [e]; exact hS) ?_ ?_⟩
    · rintro i y σ H' hi ⟨rfl, v, rfl⟩
      obtain ⟨r, hr, t, u, h, rfl, hT, _⟩ := Paired.at hG hi
      refine ⟨_, rfl, t, _, rfl, .inr hT, rfl, _, rfl, ?_⟩
      exact if_f (by rfl) ⟨rfl, _, rfl⟩
    · rintro σ H' ⟨rfl, v, rfl⟩
      refine ⟨_, rfl, a, rfl, ⟨_, hS⟩, fun D nD => lc_list (K := K) (a := a) (xs := xs) (fun i H1 => Grew P H' H1 ∧ H1 D = some (.lst (((rs.map (·.name)).take i).map V.str)))
        ⟨Grew.new hP nD, upd_same⟩ (fun i H1 _ p => p.1.sqL hP hS) (fun i x H1 hx p => ?_) (fun H1 p => ?_)⟩
      · obtain ⟨g, hD⟩ := p
        obtain ⟨r, hr, t, u, h, rfl, hT, _⟩ := Paired.at hG hx
        refine ⟨rfl, _, rfl, t, _, 0, .str r.name, rfl, rfl, g.sqT hP hT, rfl, _, hD, ?_, ?_, ?_⟩
        · rw [List.length_map, List.length_take, List.length_map, sizeLine_eq]
          omega
        · exact g.write hD (fun _ z => by cases z) nD
        · rw [upd_same, List.take_succ, List.getElem?_map, hr, List.map_append]
          rfl
      · obtain ⟨g, hD⟩ := p
        rw [← hln, ← List.length_map (f := (·.name)), List.take_length] at hD
        refine ⟨D, rs.map (·.name), 0, 60, rfl, SqL.of hD, by omega, by rw [List.length_map]; omega, by rw [List.length_map]; omega, ok.nm, ok.nd, g.tab, fun H2 p2 ys2 g2 np e2 _ _ => ?_⟩
        have g3 := g.trans g2
        refine ⟨_, rfl, a, rfl, ⟨_, g3.sqL hP hS⟩, fun D2 nD2 => lc_list (K := K) (a := a) (xs := xs) (fun i H1 => Grew P H' H1 ∧ ∃ acc ms, H1 D2 = some (.lst acc) ∧ Paired Kept (rs.take i) ms ∧ Paired (RoadAt K H1) ms acc)
          ⟨g3.put nD2, [], [], upd_same, .nil, .nil⟩ (fun i H1 _ p => p.1.sqL hP hS) (fun i x H1 hx p => ?_) (fun H1 p => ?_)⟩
        · obtain ⟨g4, acc, ms, hD4, hk4, hm4⟩ := p
          obtain ⟨r, hr, hgr⟩ := Paired.at hG hx
          have nD2' := g3.free nD2
          refine ⟨rfl, _, rfl, _, rfl, _, rfl, _, rfl, x, pl, ki, d, ps, ks, r, rfl, hgr.keep (KeepT.grew g4 hP), g4.sqT hP hPl, g4.sqT hP hKi, ok.ok r (List.mem_of_getElem? hr), g4.tab, fun H5 p5 q5 h5 r5 g5 kp n5 e5 f5 hh5 => ?_⟩
          have hD5 := g5.lst g4.tab hD4
          have g45 := g4.trans g5
          refine ⟨acc, hD5, ?_, g45.write hD5 (fun _ z => by cases z) nD2', acc ++ [.ref p5], ms ++ [r5], upd_same, ?_, ?_⟩
          · rw [← Paired.len hm4, ← Paired.len hk4, List.length_take, sizeLine_eq]
            omega
          · rw [List.take_succ, hr]
            exact Paired.snoc hk4 kp
          · have up : ∀ {r : RoadD} {v : V}, RoadAt K H5 r v → RoadAt K (L2.upd H5 D2 (.lst (acc ++ [.ref p5]))) r v := fun m => m.upd (fun xs z => by rw [hD5] at z; cases z) (KeepT.lst hD5)
            exact Paired.snoc (Paired.map' hm4 fun r v m => up (m.grew g5 g4.tab)) (up ⟨p5, q5, h5, rfl, e5, f5, hh5⟩)
        · obtain ⟨g4, acc, ms, hD4, hk4, hm4⟩ := p
          rw [← hln, List.take_length] at hk4
          have nd : (ms.map (·.name)).Nodup := by rw [kept_names hk4]; exact ok.nd
          refine ⟨_, rfl, D2, acc, nameAt H1, rfl, SqL.of hD4, fun x hx => ?_, fun x hx y hy e => Paired.inj hm4 nd hx hy fun r r' m m' => by rw [← m.name, ← m'.name]; exact e, fun ys l hpm hso hl => ⟨l, _, rfl, .inl ⟨SqL.of upd_same, fun p hp2 => ?_⟩⟩⟩
          · obtain ⟨r, _, m⟩ := Paired.mem hm4 hx
            have nm := m.name
            obtain ⟨p, q, hv, e, e1, _⟩ := m
            exact ⟨p, _, e, by rw [nm]; exact SqT.of e1⟩
          · obtain ⟨rs', pm, hr'⟩ := Paired.perm hpm hm4
            have gl := Grew.new g4.tab (o := .lst ys) hl
            have gp := gl.put (o := .tup ys) hp2
            exact k _ p rs' ys (g4.trans gp) ⟨ms, pm.symm, hk4⟩ (Paired.pair (fun a b x y m m' e => by rw [m.name, m'.name] at e; exact e) hr' hso) (g4.free (gl.free hp2)) upd_same (Paired.map' hr' fun _ _ m => m.grew gp g4.tab)
end
end W

set_option Elab.async false
set_option linter.all false
set_option maxRecDepth 100000
set_option maxHeartbeats 400000
namespace W
open PySem PySem.Spec PyProof.Rows L2 GxR MyG MyS
/-! ### _checked_bars -/
theorem u1 {n : Nat} (h : n + 64 < cLine) : n + 1 < cLine := by omega
def GBar (H : Hp) (b : Str × Str) (v : V) : Prop := ∃ t, v = .ref t ∧ H t = some (.tup [.str b.1, .str b.2])
theorem GBar.grew {P : Addr} {H H' : Hp} {b : Str × Str} {v : V} (g : Grew P H H') (h : TabG H P) (m : GBar H b v) : GBar H' b v := let ⟨t, e, q⟩ := m; ⟨t, e, g.tup h q⟩
theorem GBar.upd {H : Hp} {D : Addr} {o : HO} {b : Str × Str} {v : V} (nt : ∀ xs, H D ≠ some (.tup xs)) (m : GBar H b v) : GBar (L2.upd H D o) b v := by
  obtain ⟨t, e, q⟩ := m
  exact ⟨t, e, by rw [upd_ne (fun z => nt _ (z ▸ q))]; exact q⟩
/-- the pair of a bar's tuple -/
def barAt (H : Hp) : V → Str × Str
  | .ref t => match H t with
    | some (.tup [.str a, .str b]) => (a, b)
    | _ => (Str.empty, Str.empty)
  | _ => (Str.empty, Str.empty)
theorem GBar.at {H : Hp} {b : Str × Str} {v : V} (m : GBar H b v) : barAt H v = b := by
  obtain ⟨t, e, q⟩ := m
  subst e
  unfold barAt
  simp only [q]
theorem bars_keys {H : Hp} {K : PySem.W.Frag} : ∀ {bs : List (Str × Str)} {xs : List V}, Paired (GBar H) bs xs → ∃ ks : List (Addr × List Str), xs = ks.map (fun p => V.ref p.1) ∧ ks.map (·.2) = bs.map (fun b => [b.1, b.2]) ∧ ∀ p ∈ ks, SqT K H p.1 (p.2.map V.str)
  | _, _, .nil => ⟨[], rfl, rfl, fun _ h => by cases h⟩
  | _, _, .cons (a := b) ⟨t, e, q⟩ r => by
    obtain ⟨ks, e1, e2, e3⟩ := bars_keys (K := K) r
    refine ⟨(t, [b.1, b.2]) :: ks, by rw [e, e1]; rfl, by rw [List.map_cons, List.map_cons, e2], fun p hp => ?_⟩
    rcases List.mem_cons.mp hp with z | z
    · rw [z]; exact SqT.of q
    · exact e3 p z
theorem nodup_bars {bs : List (Str × Str)} (h : bs.Nodup) : (bs.map (fun b => [b.1, b.2])).Nodup :=
  List.pairwise_map.mpr (h.imp fun {a b} ne e => ne (Prod.ext (List.cons.inj e).1 (List.cons.inj (List.cons.inj e).2).1))
/-- the dict of the roads by their names -/
def DictR (K : PySem.W.Frag) (H : Hp) (d : Addr) (rs : List RoadD) : Prop := ∃ kvs, H d = some (.dK kvs) ∧ (∀ r ∈ rs, ∃ v, valV kvs (.inr r.name) = some v ∧ RoadAt K H r v) ∧ ∀ z, (∀ r ∈ rs, r.name ≠ z) → valV kvs (.inr z) = none
theorem DictR.grew {K : PySem.W.Frag} {P d : Addr} {H H' : Hp} {rs : List RoadD} (g : Grew P H H') (h : TabG H P) (m : DictR K H d rs) : DictR K H' d rs := by
  obtain ⟨kvs, e, m1, m2⟩ := m
  exact ⟨kvs, g.get h e (fun _ z => by cases z), fun r hr => let ⟨v, a, b⟩ := m1 r hr; ⟨v, a, b.grew g h⟩, m2⟩
structure BarsOk (rs : List RoadD) (bs : List (Str × Str)) : Prop where
  len : bs.length ≤ 40
  nd : bs.Nodup
  ok : ∀ b ∈ bs, ∃ r1 ∈ rs, ∃ r2 ∈ rs, b.1 = r1.name ∧ b.2 = r2.name ∧ r1.goal = r2.start
def AscB (bs : List (Str × Str)) : Prop := bs.Pairwise fun a b => slt2 b a = false
def spBars (K : PySem.W.Frag) (P : Addr) : Sp := fun vs H Q _ => ∃ (a d : Addr) (rs : List RoadD) (bs : List (Str × Str)) (xs : List V), vs = [.ref a, .ref d] ∧ SqL K H a xs ∧ Paired (GBar H) bs xs ∧ DictR K H d rs ∧ BarsOk rs bs ∧ TabG H P ∧
  ∀ H' p bs' ys, Grew P H H' → bs'.Perm bs → AscB bs' → H p = none → H' p = some (.tup ys) → Paired (GBar H') bs' ys → Q (.ref p) H'
section
variable {Pg : Program} {w : World} {K : PySem.W.Frag} {mg : Str → Option Value} {base : Heap} {C P : Addr}
abbrev nBars : List Str := ["bars", "roads_by_name", "bar", "first", "second", "kept"]
theorem scBars : FnScope nBars ["bars", "roads_by_name"] (defScope sBars) := ⟨rfl, rfl, rfl, by decide +kernel, rfl, by decide +kernel, by decide +kernel⟩
theorem ok_bars {f fD : Addr} {fd fdD : FuncData} {t1 t2 t3 : Tok} (F : Fun K "_checked_bars" "_checked_bars" sBars f fd) (hl : mg "len" = none) (ht : mg "tuple" = none) (hs : mg "sorted" = none)
    (hm : mg "MOST_BARS" = some (.int 40 t1)) (he : mg "END" = some (.int 2 t2)) (hst : mg "START" = some (.int 1 t3))
    (GD : FnOk Pg w K mg base CX0 1 fD fdD ["parts"] (spDiff K)) (gD : mg "_check_different" = some (.ref fD)) (kD : PySem.W.keepIn K (.ref fD) = true) (bD : Binds K fdD ["parts"] []) :
    FnOk Pg w K mg base CX0 2 f fd ["bars", "roads_by_name"] (spBars K P) := by
  refine F.ok scBars (fun vs H Q E h => ?_) (fun cdv A outer s H vs Q E hr h => ?_)
  · obtain ⟨a, d, rs, bs, xs, rfl, _⟩ := h
    rfl
  · obtain ⟨a, d, rs, bs, xs, rfl, hS, hG, hD, ok, hP, k⟩ := h
    refine ⟨_, pss_cons (ps_if (pt_cmpR op_gt (pe_callB call_len_seq (by rfl) hl PySem.boot_len (pa_cons (pv 0) pa_nil)) (pe_gI hm) (nomark _)) (pss_one ps_never) pss_nil)
      (pss_cons (ps_for PassesOwn.never rfl (pi_list (pv 0)) (pg_name (i := 2) scBars.nd rfl (Or.inl rfl))
        (pss_cons (ps_if (pt_cmpR op_ne (pe_callB call_len_seq (by rfl) hl PySem.boot_len (pa_cons (pv 2) pa_nil)) pe_int (nomark _)) (pss_one ps_never) pss_nil)
        (pss_cons (ps_asg (pv 2) (pg_tup (by rfl) (pgs_cons (pg_name (i := 3) scBars.nd rfl (.inl rfl)) (pgs_cons (pg_name (i := 4) scBars.nd rfl (.inl rfl)) pgs_nil))))
        (pss_cons (ps_if (PW.pt (pw_or (pt_cmp (pc_dnotin (u1 hr.units) (pv 3) (pv 1))) (pw_or1 (pt_cmp (pc_dnotin (u1 hr.units) (pv 4) (pv 1)))))) (pss_one ps_never) pss_nil)
        (pss_one (ps_if (pt_cmpR op_ne (pe_ix ix_tup (pe_dget (u1 hr.units) (pv 1) (pv 3) (fun _ _ => rfl)) (pe_gI he) (fun _ _ => rfl)) (pe_ix ix_tup (pe_dget (u1 hr.units) (pv 1) (pv 4) (fun _ _ => rfl)) (pe_gI hst) (fun _ _ => rfl)) (nomark _)) (pss_one ps_never) pss_nil))))))
      (pss_cons (ps_setLc (i := 5) (own := [("bar", 2)]) (g := gName 2) (tt := tYes) rfl scBars.nd rfl rfl (sw_true rfl rfl rfl (by decide +kernel)) (pi_list (pv 0)) (blkOk_by (N := nBars) (sc := defScope sBars) (by decide +kernel)) (fun _ _ _ _ _ => pg_name (i := 2) scBars.nd rfl (Or.inl rfl)) (fun _ _ _ _ _ => pts_nil)
          (fun _ _ _ _ _ => pe_callTy (r := rTupOf K) call_tuple_of (by rfl) ht (by decide +kernel) (pa_cons (pv 2) pa_nil)))
      (pss_cons (ps_expr (pe_call GD (hr.mono (by decide)) (by rfl) gD kD bD .nil pass0 (pa_cons (pv 5) pa_nil)))
      (pss_one (ps_ret (pe_callTy call_tuple_of (by rfl) ht (by decide +kernel) (pa_cons (pe_callB cr_sortB (by rfl) hs (by decide +kernel) (pa_cons (pv 5) pa_nil)) pa_nil))))))), ?_⟩
    have hln := Paired.len hG
    have hl40 := ok.len
    refine ⟨_, rfl, a, _, rfl, .inl hS, _, _, rfl, rfl, _, rfl, if_f (decide_eq_false (by omega)) ?_⟩
    refine ⟨_, rfl, a, rfl, ⟨_, hS⟩, for_list (K := K) (a := a) (xs := xs) (fun i σ H' => H' = H ∧ ∃ v1 v2 v3, σ = [some (.ref a), some (.ref d), v1, v2, v3, none])
      ⟨rfl, none, none, none, rfl⟩ (fun i σ H' _ ⟨e, _⟩ => by rw [e]; exact hS) ?_ ?_⟩
    · rintro i y σ H' hi ⟨rfl, v1, v2, v3, rfl⟩
      obtain ⟨b, hb, t, rfl, hT⟩ := Paired.at hG hi
      obtain ⟨r1, hr1, r2, hr2, e1, e2, e3⟩ := ok.ok b (List.mem_of_getElem? hb)
      obtain ⟨kvs, hd, hin, _⟩ := hD
      obtain ⟨w1, l1, p1, q1, h1, rfl, a1, _, _⟩ := hin r1 hr1
      obtain ⟨w2, l2, p2, q2, h2, rfl, a2, _, _⟩ := hin r2 hr2
      rw [← e1] at l1
      rw [← e2] at l2
      have g1 : DGet H' d (.str b.1) (some (.ref p1)) := by rw [← l1]; exact DGet.k (k := .inr b.1) hd
      have g2 : DGet H' d (.str b.2) (some (.ref p2)) := by rw [← l2]; exact DGet.k (k := .inr b.2) hd
      refine ⟨_, rfl, t, _, rfl, .inr (SqT.of hT), rfl, _, rfl, if_f (by rfl) ?_⟩
      refine ⟨_, rfl, t, _, rfl, SqT.of hT, rfl, _, _, rfl, _, _, rfl, rfl, ?_⟩
      refine ⟨_, rfl, _, rfl, d, _, rfl, g1, _, rfl, if_f (by rfl) ?_⟩
      refine ⟨_, rfl, _, rfl, d, _, rfl, g2, _, rfl, if_f (by rfl) ?_⟩
      refine ⟨_, rfl, _, rfl, d, _, rfl, g1, p1, _, 2, .str r1.goal, rfl, rfl, SqT.of a1, rfl, _, rfl, _, rfl, d, _, rfl, g2, p2, _, 1, .str r2.start, rfl, rfl, SqT.of a2, rfl, rfl, _, rfl, if_f ?_ ⟨rfl, _, _, _, rfl⟩⟩
      rw [e3]
      simp
    · rintro σ H' ⟨rfl, v1, v2, v3, rfl⟩
      refine ⟨_, rfl, a, rfl, ⟨_, hS⟩, fun D nD => lc_list (K := K) (a := a) (xs := xs) (fun i H1 => Grew P H' H1 ∧ H1 D = some (.lst (xs.take i)))
        ⟨Grew.new hP nD, upd_same⟩ (fun i H1 _ p => p.1.sqL hP hS) (fun i x H1 hx p => ?_) (fun H1 p => ?_)⟩
      · obtain ⟨g, hD1⟩ := p
        obtain ⟨b, hb, t, rfl, hT⟩ := Paired.at hG hx
        refine ⟨rfl, _, rfl, t, _, rfl, .inr ⟨SqT.of (g.tup hP hT), _, hD1, ?_, g.write hD1 (fun _ z => by cases z) nD, ?_⟩⟩
        · rw [List.length_take, sizeLine_eq]; omega
        · rw [upd_same, List.take_succ, hx]; rfl
      · obtain ⟨g, hD1⟩ := p
        rw [List.take_length] at hD1
        have hG1 : Paired (GBar H1) bs xs := Paired.map' hG fun b v m => m.grew g hP
        obtain ⟨ks, ek1, ek2, ek3⟩ := bars_keys (K := K) hG1
        have lk : ks.length = xs.length := by rw [ek1, List.length_map]
        refine ⟨_, rfl, D, rfl, .inr ⟨ks, by rw [← ek1]; exact SqL.of hD1, ek3, by omega, by rw [ek2]; exact nodup_bars ok.nd⟩, ?_⟩
        refine ⟨_, rfl, D, xs, barAt H1, rfl, SqL.of hD1, fun x hx => ?_, fun ys l hpm hso hl => ⟨l, _, rfl, .inl ⟨SqL.of upd_same, fun p hp2 => ?_⟩⟩⟩
        · obtain ⟨b, _, m⟩ := Paired.mem hG1 hx
          have nm := m.at
          obtain ⟨t, e, q⟩ := m
          exact ⟨t, e, by rw [nm]; exact SqT.of q⟩
        · obtain ⟨bs', pm, hr'⟩ := Paired.perm hpm hG1
          have gl := Grew.new g.tab (o := .lst ys) hl
          have gp := gl.put (o := .tup ys) hp2
          exact k _ p bs' ys (g.trans gp) pm (Paired.pair (fun a b x y m m' e => by rw [m.at, m'.at] at e; exact e) hr' hso) (g.free (gl.free hp2)) upd_same (Paired.map' hr' fun _ _ m => m.grew gp g.tab)
end
end W

set_option Elab.async false
set_option linter.all false
set_option maxRecDepth 100000
set_option maxHeartbeats 800000
namespace W
open PySem PySem.Spec PyProof.Rows L2 GxR MyG MyS
/-! ### Map.__init__ -/
abbrev nInit : List Str := ["self", "day", "kinds", "places", "roads", "bars", "road", "bar"]
abbrev pInit : List Str := ["self", "day", "kinds", "places", "roads", "bars"]
section
variable {K : PySem.W.Frag} {H : Hp} {x C dx : Addr} {fs : List (Str × V)} {o : HO}
theorem insNe (hx : H x = some (.ins C dx fs)) {a : Addr} {u : HO} (e : H a = some u) (d : ∀ C dx fs, u ≠ .ins C dx fs) : a ≠ x := fun z => by
  rw [z, hx] at e
  exact d _ _ _ (Option.some.inj e).symm
theorem tup_ins (hx : H x = some (.ins C dx fs)) {a : Addr} {l : List V} (e : H a = some (.tup l)) : L2.upd H x o a = some (.tup l) := by
  rw [upd_ne (insNe hx e (fun _ _ _ z => by cases z))]
  exact e
theorem RoadAt.ins (hx : H x = some (.ins C dx fs)) {r : RoadD} {v : V} (m : RoadAt K H r v) : RoadAt K (L2.upd H x o) r v := m.upd (fun xs z => by rw [hx] at z; cases z) (KeepT.ins hx)
theorem GBar.ins (hx : H x = some (.ins C dx fs)) {b : Str × Str} {v : V} (m : GBar H b v) : GBar (L2.upd H x o) b v := m.upd (fun xs z => by rw [hx] at z; cases z)
theorem DictR.ins (hx : H x = some (.ins C dx fs)) {d : Addr} {rs : List RoadD} (m : DictR K H d rs) : DictR K (L2.upd H x o) d rs := by
  obtain ⟨kvs, e, m1, m2⟩ := m
  exact ⟨kvs, by rw [upd_ne (insNe hx e (fun _ _ _ z => by cases z))]; exact e, fun r hr => let ⟨v, a, b⟩ := m1 r hr; ⟨v, a, b.ins hx⟩, m2⟩
end
/-- the dict of the bars -/
def DictB (H : Hp) (d : Addr) (bs : List (Str × Str)) : Prop := ∃ kvs : List (List Key × V), H d = some (.dT kvs) ∧ ∀ a b : Str, (valV kvs [.inr a, .inr b]).isSome = true ↔ (a, b) ∈ bs
/-- the fields of a map -/
def nmF : List Str := ["day", "kinds", "places", "roads", "_roads_by_name", "bars", "_barred"]
theorem noF {fs : List (Str × V)} {g : Str} {v : V} (h : ∀ f, f ∉ nmF → fs.lookup f = none) (hg : g ∈ nmF) : ∀ f, f ∉ nmF → (putF g v fs).lookup f = none := fun f hf => by
  rw [lookup_putF, if_neg (by intro e; subst e; exact hf hg)]
  exact h f hf
/-- the map at x -/
structure MapF (K : PySem.W.Frag) (H : Hp) (fs : List (Str × V)) (d : Int) (ks ps : List Str) (rs : List RoadD) (bs : List (Str × Str)) (kk pp rr D bb D2 : Addr) (ys zs : List V) : Prop where
  f0 : ∀ f, f ∉ nmF → fs.lookup f = none
  f1 : fs.lookup ("day" : Str) = some (V.int d)
  f2 : fs.lookup ("kinds" : Str) = some (V.ref kk)
  f3 : fs.lookup ("places" : Str) = some (V.ref pp)
  f4 : fs.lookup ("roads" : Str) = some (V.ref rr)
  f5 : fs.lookup ("_roads_by_name" : Str) = some (V.ref D)
  f6 : fs.lookup ("bars" : Str) = some (V.ref bb)
  f7 : fs.lookup ("_barred" : Str) = some (V.ref D2)
  k : H kk = some (.tup (ks.map V.str))
  p : H pp = some (.tup (ps.map V.str))
  r : H rr = some (.tup ys)
  ry : Paired (RoadAt K H) rs ys
  d : DictR K H D rs
  b : H bb = some (.tup zs)
  bz : Paired (GBar H) bs zs
  db : DictB H D2 bs
def MapAt (K : PySem.W.Frag) (H : Hp) (M x : Addr) (d : Int) (ks ps : List Str) (rs : List RoadD) (bs : List (Str × Str)) : Prop := ∃ dx fs kk pp rr D bb D2 ys zs, H x = some (.ins M dx fs) ∧ MapF K H fs d ks ps rs bs kk pp rr D bb D2 ys zs
structure PartsOk (d : Int) (ks ps : List Str) (rs : List RoadD) (bs : List (Str × Str)) : Prop where
  d1 : 1 ≤ d
  d2 : d ≤ 1440
  k1 : 1 ≤ ks.length
  k2 : ks.length ≤ 4
  p2 : ps.length ≤ 30
  kn : ks.all isNm = true
  pn : ps.all isNm = true
  kd : ks.Nodup
  pd : ps.Nodup
  r : RoadsOk d ps ks rs
  b : BarsOk rs bs
theorem RoadsOk.perm {d : Int} {ps ps' ks ks' : List Str} {rs : List RoadD} (h : RoadsOk d ps ks rs) (hp : ps'.Perm ps) (hk : ks'.Perm ks) : RoadsOk d ps' ks' rs := by
  obtain ⟨a, b, c, e⟩ := h
  refine ⟨a, b, c, fun r hr => ?_⟩
  obtain ⟨h1, h2, h3, h4, h5, h6, h7, h8⟩ := e r hr
  exact ⟨hp.mem_iff.mpr h1, hp.mem_iff.mpr h2, h3, h4, fun k hk' => hk.mem_iff.mpr (h5 k hk'), h6, h7, h8⟩
theorem BarsOk.kept {rs rs' : List RoadD} {bs : List (Str × Str)} (h : BarsOk rs bs) (k : KeptAll rs rs') : BarsOk rs' bs := by
  obtain ⟨a, b, c⟩ := h
  obtain ⟨l, pm, pr⟩ := k
  have f : ∀ r ∈ rs, ∃ r' ∈ rs', r'.name = r.name ∧ r'.start = r.start ∧ r'.goal = r.goal := fun r hr => by
    obtain ⟨r', hr', q⟩ := Paired.mem' pr hr
    exact ⟨r', pm.mem_iff.mp hr', q.1, q.2.1, q.2.2.1⟩
  refine ⟨a, b, fun z hz => ?_⟩
  obtain ⟨r1, h1, r2, h2, e1, e2, e3⟩ := c z hz
  obtain ⟨s1, m1, n1, _, g1⟩ := f r1 h1
  obtain ⟨s2, m2, n2, g2, _⟩ := f r2 h2
  exact ⟨s1, m1, s2, m2, by rw [n1]; exact e1, by rw [n2]; exact e2, by rw [g1, g2]; exact e3⟩
theorem KeptAll.nodup {rs rs' : List RoadD} (k : KeptAll rs rs') (h : (rs.map (·.name)).Nodup) : (rs'.map (·.name)).Nodup := by
  obtain ⟨l, pm, pr⟩ := k
  rw [← kept_names pr] at h
  exact (pm.map (·.name)).nodup_iff.mp h
theorem KeptAll.len {rs rs' : List RoadD} (k : KeptAll rs rs') : rs'.length = rs.length := by
  obtain ⟨l, pm, pr⟩ := k
  rw [← pm.length_eq, ← Paired.len pr]
def spInit (K : PySem.W.Frag) (M P : Addr) : Sp := fun vs H Q _ => ∃ (x dx ki pl ro ba : Addr) (d : Int) (ks ps : List Str) (rs : List RoadD) (bs : List (Str × Str)) (xs zs : List V) (H0 : Hp), vs = [.ref x, .int d, .ref ki, .ref pl, .ref ro, .ref ba] ∧
  Grew P H0 H ∧ TabG H0 P ∧ H0 x = none ∧ H x = some (.ins M dx []) ∧ SqL K H0 ki (ks.map V.str) ∧ SqL K H0 pl (ps.map V.str) ∧ SqL K H0 ro xs ∧ Paired (GRoad K H0) rs xs ∧ SqL K H0 ba zs ∧ Paired (GBar H0) bs zs ∧ PartsOk d ks ps rs bs ∧
  ∀ H' ks' ps' rs' bs', Grew P H0 H' → ks'.Perm ks → Asc ks' → ps'.Perm ps → Asc ps' → KeptAll rs rs' → AscR rs' → bs'.Perm bs → AscB bs' → MapAt K H' M x d ks' ps' rs' bs' → Q .non H'
structure TxtM (K : PySem.W.Frag) (M : Addr) : Prop where
  cl : Cls K M
  n1 : NoAttr K M "day"
  n2 : NoAttr K M "kinds"
  n3 : NoAttr K M "places"
  n4 : NoAttr K M "roads"
  n5 : NoAttr K M "_roads_by_name"
  n6 : NoAttr K M "bars"
  n7 : NoAttr K M "_barred"
section
variable {Pg : Program} {w : World} {K : PySem.W.Frag} {mg : Str → Option Value} {base : Heap} {C P : Addr}
theorem scInit : FnScope nInit pInit (defScope sInit) := ⟨rfl, rfl, rfl, by decide +kernel, rfl, by decide +kernel, by decide +kernel⟩
theorem ok_init {f fY fN fR fB M : Addr} {fd fdY fdN fdR fdB : FuncData} {t1 t2 t3 : Tok} {dvs : List V} {kws : List (Str × V)} (F : FunD K "__init__" "Map.__init__" (defArgs sInit) (defBody sInit) (defScope sInit) dvs kws f fd) (T : TxtM K M)
    (hn : mg "NAME" = some (.int 0 t1)) (hk : mg "MOST_KINDS" = some (.int 4 t2)) (hp : mg "MOST_PLACES" = some (.int 30 t3))
    (GY : FnOk Pg w K mg base CX0 1 fY fdY ["day"] spDay) (gY : mg "_checked_day" = some (.ref fY)) (kY : PySem.W.keepIn K (.ref fY) = true) (bY : Binds K fdY ["day"] [])
    (GN : FnOk Pg w K mg base CX0 3 fN fdN ["names", "least", "most"] (spNames K P)) (gN : mg "_checked_names" = some (.ref fN)) (kN : PySem.W.keepIn K (.ref fN) = true) (bN : Binds K fdN ["names", "least", "most"] [])
    (GR : FnOk Pg w K mg base CX0 4 fR fdR ["roads", "day", "places", "kinds"] (spRoads K P)) (gR : mg "_checked_roads" = some (.ref fR)) (kR : PySem.W.keepIn K (.ref fR) = true) (bR : Binds K fdR ["roads", "day", "places", "kinds"] [])
    (GB : FnOk Pg w K mg base CX0 2 fB fdB ["bars", "roads_by_name"] (spBars K P)) (gB : mg "_checked_bars" = some (.ref fB)) (kB : PySem.W.keepIn K (.ref fB) = true) (bB : Binds K fdB ["bars", "roads_by_name"] []) :
    FnOk Pg w K mg base CX0 5 f fd pInit (spInit K M P) := by
  refine F.ok scInit (fun vs H Q E h => ?_) (fun cdv A outer s H vs Q E hr h => ?_)
  · obtain ⟨x, dx, ki, pl, ro, ba, d, ks, ps, rs, bs, xs, zs, H0, rfl, _⟩ := h
    rfl
  · obtain ⟨x, dx, ki, pl, ro, ba, d, ks, ps, rs, bs, xs, zs, H0, rfl, g0, hP0, nx, hx, hKi, hPl, hRo, hG, hBa, hB, ok, k⟩ := h
    have hr1 : Room 1 _ := hr.mono (by decide)
    have hr2 : Room 2 _ := hr.mono (by decide)
    have hr3 : Room 3 _ := hr.mono (by decide)
    refine ⟨_, pss_cons (ps_fld (pv 0) (pe_call GY hr1 (by rfl) gY kY bY .nil pass0 (pa_cons (pv 1) pa_nil)) rfl)
      (pss_cons (ps_fld (pv 0) (pe_call GN hr3 (by rfl) gN kN bN .nil pass0 (pa_cons (pv 2) (pa_cons pe_int (pa_cons (pe_gI hk) pa_nil)))) rfl)
      (pss_cons (ps_fld (pv 0) (pe_call GN hr3 (by rfl) gN kN bN .nil pass0 (pa_cons (pv 3) (pa_cons pe_int (pa_cons (pe_gI hp) pa_nil)))) rfl)
      (pss_cons (ps_fld (pv 0) (pe_call GR hr (by rfl) gR kR bR .nil pass0 (pa_cons (pv 4) (pa_cons (pv 1) (pa_cons (pe_fld (pv 0) rfl) (pa_cons (pe_fld (pv 0) rfl) pa_nil))))) rfl)
      (pss_cons (ps_fld (pv 0) (pe_dc (own := [("road", 6)]) (g := gName 6) (tt := tYes) rfl scInit.nd (pi_tup (pe_fld (pv 0) rfl)) (blkOk_by (N := nInit) (sc := defScope sInit) (by decide +kernel)) (fun _ _ _ _ _ => pg_name (i := 6) scInit.nd rfl (Or.inl rfl)) (fun _ _ _ _ _ => pts_nil)
          (fun _ _ _ _ _ => pe_ix (r := rIxT K) ix_tup (pv 6) (pe_gI hn) (fun _ _ => rfl)) (fun _ _ _ _ _ => pv 6)) rfl)
      (pss_cons (ps_fld (pv 0) (pe_call GB hr2 (by rfl) gB kB bB .nil pass0 (pa_cons (pv 5) (pa_cons (pe_fld (pv 0) rfl) pa_nil))) rfl)
      (pss_one (ps_fld (pv 0) (pe_dcT (own := [("bar", 7)]) (g := gName 7) (tt := tYes) (u1 hr.units) rfl scInit.nd (pi_tup (pe_fld (pv 0) rfl)) (blkOk_by (N := nInit) (sc := defScope sInit) (by decide +kernel)) (fun _ _ _ _ _ => pg_name (i := 7) scInit.nd rfl (Or.inl rfl)) (fun _ _ _ _ _ => pts_nil)
          (fun _ _ _ _ _ => pv 7) (fun _ _ _ _ _ => pe_bl)) rfl))))))), ?_⟩
    have nins : ∀ (fs : List (Str × V)) (q : Array Value), (HO.ins M dx fs) ≠ .tbl q := fun _ _ z => by cases z
    have k1 := ok.k1
    have k2 := ok.k2
    have p2 := ok.p2
    -- day
    refine ⟨_, rfl, d, rfl, ok.d1, ok.d2, _, rfl, x, M, dx, [], rfl, hx, T.cl, T.n1, by decide, ?_⟩
    have ga := g0.write (o := .ins M dx (putF "day" (.int d) [])) hx (nins _) nx
    have la : (putF ("day" : Str) (V.int d) []).length ≤ 1 := length_putF _ _ []
    -- kinds
    refine ⟨_, rfl, ki, ks, 1, 4, rfl, ga.sqL hP0 hKi, by omega, by omega, by omega, ok.kn, ok.kd, ga.tab, fun Hb kk ks' gb nk ek pk ak => ?_⟩
    have xb := gb.get ga.tab upd_same (nins _)
    refine ⟨_, rfl, x, M, dx, _, rfl, xb, T.cl, T.n2, by omega, ?_⟩
    have gc := (ga.trans gb).write (o := .ins M dx (putF "kinds" (.ref kk) (putF "day" (.int d) []))) xb (nins _) nx
    have lc := length_putF ("kinds" : Str) (V.ref kk) (putF ("day" : Str) (V.int d) [])
    have tk := tup_ins (o := .ins M dx (putF "kinds" (.ref kk) (putF "day" (.int d) []))) xb ek
    -- places
    refine ⟨_, rfl, pl, ps, 0, 30, rfl, gc.sqL hP0 hPl, by omega, by omega, by omega, ok.pn, ok.pd, gc.tab, fun Hd pp ps' gd np ep pp' ap => ?_⟩
    have xd := gd.get gc.tab upd_same (nins _)
    refine ⟨_, rfl, x, M, dx, _, rfl, xd, T.cl, T.n3, by omega, ?_⟩
    have ge := (gc.trans gd).write (o := .ins M dx (putF "places" (.ref pp) (putF "kinds" (.ref kk) (putF "day" (.int d) [])))) xd (nins _) nx
    have le := length_putF ("places" : Str) (V.ref pp) (putF ("kinds" : Str) (V.ref kk) (putF ("day" : Str) (V.int d) []))
    generalize hfs : putF ("places" : Str) (V.ref pp) (putF ("kinds" : Str) (V.ref kk) (putF ("day" : Str) (V.int d) [])) = fs at ge le ⊢
    have f0 : ∀ f, f ∉ nmF → fs.lookup f = none := by rw [← hfs]; exact noF (noF (noF (fun _ _ => rfl) (by decide +kernel)) (by decide +kernel)) (by decide +kernel)
    have f3 : fs.lookup ("places" : Str) = some (V.ref pp) := by rw [← hfs, lookup_putF, if_pos rfl]
    have f2 : fs.lookup ("kinds" : Str) = some (V.ref kk) := by rw [← hfs, lookup_putF, if_neg (by decide +kernel), lookup_putF, if_pos rfl]
    have f1 : fs.lookup ("day" : Str) = some (V.int d) := by rw [← hfs, lookup_putF, if_neg (by decide +kernel), lookup_putF, if_neg (by decide +kernel), lookup_putF, if_pos rfl]
    have tk2 := tup_ins (o := .ins M dx fs) xd (gd.tup gc.tab tk)
    have tp2 := tup_ins (o := .ins M dx fs) xd ep
    -- roads
    have okr := ok.r.perm pp' pk
    refine ⟨_, rfl, _, rfl, _, rfl, x, M, dx, _, _, rfl, upd_same, T.cl, T.n3, f3, _, rfl, x, M, dx, _, _, rfl, upd_same, T.cl, T.n2, f2,
      ro, pp, kk, d, ps', ks', rs, xs, rfl, ge.sqL hP0 hRo, Paired.map' hG (fun r v m => m.keep (KeepT.grew ge hP0)), SqT.of tp2, SqT.of tk2, okr, ge.tab, fun Hf rr rs' ys gf kr ar nr er hm => ?_⟩
    have xf := gf.get ge.tab upd_same (nins _)
    refine ⟨_, rfl, x, M, dx, _, rfl, xf, T.cl, T.n4, by omega, ?_⟩
    have gg := (ge.trans gf).write (o := .ins M dx (putF "roads" (.ref rr) fs)) xf (nins _) nx
    have lg := length_putF ("roads" : Str) (V.ref rr) fs
    have fg4 : (putF ("roads" : Str) (V.ref rr) fs).lookup ("roads" : Str) = some (V.ref rr) := by rw [lookup_putF, if_pos rfl]
    have fg3 : (putF ("roads" : Str) (V.ref rr) fs).lookup ("places" : Str) = some (V.ref pp) := by rw [lookup_putF, if_neg (by decide +kernel)]; exact f3
    have fg2 : (putF ("roads" : Str) (V.ref rr) fs).lookup ("kinds" : Str) = some (V.ref kk) := by rw [lookup_putF, if_neg (by decide +kernel)]; exact f2
    have fg1 : (putF ("roads" : Str) (V.ref rr) fs).lookup ("day" : Str) = some (V.int d) := by rw [lookup_putF, if_neg (by decide +kernel)]; exact f1
    have fg0 := noF (v := V.ref rr) f0 (show ("roads" : Str) ∈ nmF by decide +kernel)
    generalize hgs : putF ("roads" : Str) (V.ref rr) fs = gs at gg lg fg0 fg1 fg2 fg3 fg4 ⊢
    have tr3 := tup_ins (o := .ins M dx gs) xf er
    have tk3 := tup_ins (o := .ins M dx gs) xf (gf.tup ge.tab tk2)
    have tp3 := tup_ins (o := .ins M dx gs) xf (gf.tup ge.tab tp2)
    have hm3 : Paired (RoadAt K (L2.upd Hf x (.ins M dx gs))) rs' ys := Paired.map' hm fun r v m => m.ins xf
    have lys : ys.length ≤ 60 := by rw [← Paired.len hm3, kr.len]; exact ok.r.len
    have ndr := kr.nodup ok.r.nd
    generalize hHg : L2.upd Hf x (.ins M dx gs) = Hg at gg tr3 tk3 tp3 hm3 ⊢
    have xg : Hg x = some (.ins M dx gs) := by rw [← hHg]; exact upd_same
    -- _roads_by_name
    refine ⟨_, rfl, x, M, dx, _, _, rfl, xg, T.cl, T.n4, fg4, rr, rfl, ⟨_, SqT.of tr3⟩, fun D nD => dc_tup (K := K) (a := rr) (xs := ys)
      (fun i H1 => Grew P Hg H1 ∧ ∃ kvs, H1 D = some (.dK kvs) ∧ kvs.length ≤ i ∧ (∀ (j : Nat) r v, j < i → rs'[j]? = some r → ys[j]? = some v → valV kvs (.inr r.name) = some v) ∧ ∀ z : Str, (∀ r ∈ rs'.take i, r.name ≠ z) → valV kvs (.inr z) = none)
      ⟨Grew.new gg.tab nD, [], upd_same, Nat.le_refl _, fun j r v h => absurd h (Nat.not_lt_zero _), fun z _ => rfl⟩ (fun i H1 _ p => SqT.of (p.1.tup gg.tab tr3)) (fun i y H1 hy p => ?_) (fun Hh p => ?_)⟩
    · obtain ⟨g, kvs, hD, hl, hin, hno⟩ := p
      obtain ⟨r, hri, m⟩ := Paired.at hm3 hy
      have hi : i < ys.length := (List.getElem?_eq_some_iff.mp hy).1
      have m1 := m.grew g gg.tab
      obtain ⟨t, q, h, rfl, et, _⟩ := m1
      refine ⟨rfl, _, rfl, t, _, 0, .str r.name, rfl, rfl, SqT.of et, rfl, _, rfl, kvs, .inr r.name, rfl, hD, ?_, g.write hD (fun _ z => by cases z) nD, _, upd_same, ?_, fun j r' v' hj hr' hv' => ?_, fun z hz => ?_⟩
      · rw [sizeLine_eq]; omega
      · exact Nat.le_trans (length_putK kvs (.inr r.name) _) (by omega)
      · rw [valV_put]
        by_cases e : j = i
        · subst e
          rw [hri] at hr'
          rw [hy] at hv'
          cases hr'; cases hv'
          rw [if_pos rfl]
        · have ne : ¬ (Sum.inr r'.name : Key) = .inr r.name := fun z => by
            injection z with z
            have hri' := (List.getElem?_eq_some_iff.mp hri)
            have hrj' := (List.getElem?_eq_some_iff.mp hr')
            obtain ⟨a1, a2⟩ := hri'
            obtain ⟨b1, b2⟩ := hrj'
            refine absurd ?_ (List.pairwise_iff_getElem.mp ndr j i (by rw [List.length_map]; exact b1) (by rw [List.length_map]; exact a1) (by omega))
            rw [List.getElem_map, List.getElem_map, a2, b2]
            exact z
          rw [if_neg ne]
          exact hin j r' v' (by omega) hr' hv'
      · rw [valV_put, if_neg ?_]
        · exact hno z fun r' hr' => hz r' (by rw [List.take_succ]; exact List.mem_append_left _ hr')
        · intro e
          injection e with e
          exact hz r (by rw [List.take_succ, hri]; exact List.mem_append_right _ (List.mem_singleton.mpr rfl)) e.symm
    · obtain ⟨gh, kvs, hD, hl, hin, hno⟩ := p
      have xh := gh.get gg.tab xg (nins _)
      refine ⟨_, rfl, x, M, dx, _, rfl, xh, T.cl, T.n5, by omega, ?_⟩
      have gi := (gg.trans gh).write (o := .ins M dx (putF "_roads_by_name" (.ref D) gs)) xh (nins _) nx
      have li := length_putF ("_roads_by_name" : Str) (V.ref D) gs
      have fi5 : (putF ("_roads_by_name" : Str) (V.ref D) gs).lookup ("_roads_by_name" : Str) = some (V.ref D) := by rw [lookup_putF, if_pos rfl]
      have fi4 : (putF ("_roads_by_name" : Str) (V.ref D) gs).lookup ("roads" : Str) = some (V.ref rr) := by rw [lookup_putF, if_neg (by decide +kernel)]; exact fg4
      have fi3 : (putF ("_roads_by_name" : Str) (V.ref D) gs).lookup ("places" : Str) = some (V.ref pp) := by rw [lookup_putF, if_neg (by decide +kernel)]; exact fg3
      have fi2 : (putF ("_roads_by_name" : Str) (V.ref D) gs).lookup ("kinds" : Str) = some (V.ref kk) := by rw [lookup_putF, if_neg (by decide +kernel)]; exact fg2
      have fi1 : (putF ("_roads_by_name" : Str) (V.ref D) gs).lookup ("day" : Str) = some (V.int d) := by rw [lookup_putF, if_neg (by decide +kernel)]; exact fg1
      have fi0 := noF (v := V.ref D) fg0 (show ("_roads_by_name" : Str) ∈ nmF by decide +kernel)
      generalize his : putF ("_roads_by_name" : Str) (V.ref D) gs = is at gi li fi0 fi1 fi2 fi3 fi4 fi5 ⊢
      have hmh : Paired (RoadAt K Hh) rs' ys := Paired.map' hm3 fun r v m => m.grew gh gg.tab
      have dR : DictR K (L2.upd Hh x (.ins M dx is)) D rs' := by
        refine DictR.ins xh ⟨kvs, hD, fun r hr => ?_, fun z hz => hno z fun r hr => hz r (List.mem_of_mem_take hr)⟩
        obtain ⟨j, hj, ej⟩ := List.getElem_of_mem hr
        have hj' : rs'[j]? = some r := List.getElem?_eq_some_iff.mpr ⟨hj, ej⟩
        obtain ⟨v, hv, m⟩ := Paired.to hmh hj'
        exact ⟨v, hin j r v (List.getElem?_eq_some_iff.mp hv).1 hj' hv, m⟩
      have tr4 := tup_ins (o := .ins M dx is) xh (gh.tup gg.tab tr3)
      have tk4 := tup_ins (o := .ins M dx is) xh (gh.tup gg.tab tk3)
      have tp4 := tup_ins (o := .ins M dx is) xh (gh.tup gg.tab tp3)
      have hm4 : Paired (RoadAt K (L2.upd Hh x (.ins M dx is))) rs' ys := Paired.map' hmh fun r v m => m.ins xh
      generalize hHi : L2.upd Hh x (.ins M dx is) = Hi at gi tr4 tk4 tp4 hm4 dR ⊢
      have xi : Hi x = some (.ins M dx is) := by rw [← hHi]; exact upd_same
      -- bars
      refine ⟨_, rfl, _, rfl, x, M, dx, _, _, rfl, xi, T.cl, T.n5, fi5, ba, D, rs', bs, zs, rfl, gi.sqL hP0 hBa, Paired.map' hB (fun b v m => m.grew gi hP0), dR, ok.b.kept kr, gi.tab, fun Hj bb bs' zs' gj pb ab nb eb hz => ?_⟩
      have xj := gj.get gi.tab xi (nins _)
      refine ⟨_, rfl, x, M, dx, _, rfl, xj, T.cl, T.n6, by omega, ?_⟩
      have gk := (gi.trans gj).write (o := .ins M dx (putF "bars" (.ref bb) is)) xj (nins _) nx
      have lk := length_putF ("bars" : Str) (V.ref bb) is
      have fk6 : (putF ("bars" : Str) (V.ref bb) is).lookup ("bars" : Str) = some (V.ref bb) := by rw [lookup_putF, if_pos rfl]
      have fk5 : (putF ("bars" : Str) (V.ref bb) is).lookup ("_roads_by_name" : Str) = some (V.ref D) := by rw [lookup_putF, if_neg (by decide +kernel)]; exact fi5
      have fk4 : (putF ("bars" : Str) (V.ref bb) is).lookup ("roads" : Str) = some (V.ref rr) := by rw [lookup_putF, if_neg (by decide +kernel)]; exact fi4
      have fk3 : (putF ("bars" : Str) (V.ref bb) is).lookup ("places" : Str) = some (V.ref pp) := by rw [lookup_putF, if_neg (by decide +kernel)]; exact fi3
      have fk2 : (putF ("bars" : Str) (V.ref bb) is).lookup ("kinds" : Str) = some (V.ref kk) := by rw [lookup_putF, if_neg (by decide +kernel)]; exact fi2
      have fk1 : (putF ("bars" : Str) (V.ref bb) is).lookup ("day" : Str) = some (V.int d) := by rw [lookup_putF, if_neg (by decide +kernel)]; exact fi1
      have fk0 := noF (v := V.ref bb) fi0 (show ("bars" : Str) ∈ nmF by decide +kernel)
      generalize hjs : putF ("bars" : Str) (V.ref bb) is = js at gk lk fk0 fk1 fk2 fk3 fk4 fk5 fk6 ⊢
      have tb5 := tup_ins (o := .ins M dx js) xj eb
      have tr5 := tup_ins (o := .ins M dx js) xj (gj.tup gi.tab tr4)
      have tk5 := tup_ins (o := .ins M dx js) xj (gj.tup gi.tab tk4)
      have tp5 := tup_ins (o := .ins M dx js) xj (gj.tup gi.tab tp4)
      have hm5 : Paired (RoadAt K (L2.upd Hj x (.ins M dx js))) rs' ys := Paired.map' hm4 fun r v m => (m.grew gj gi.tab).ins xj
      have hz5 : Paired (GBar (L2.upd Hj x (.ins M dx js))) bs' zs' := Paired.map' hz fun b v m => m.ins xj
      have dR5 : DictR K (L2.upd Hj x (.ins M dx js)) D rs' := (dR.grew gj gi.tab).ins xj
      have lzs : zs'.length ≤ 40 := by rw [← Paired.len hz5, pb.length_eq]; exact ok.b.len
      generalize hHk : L2.upd Hj x (.ins M dx js) = Hk at gk tb5 tr5 tk5 tp5 hm5 hz5 dR5 ⊢
      have xk : Hk x = some (.ins M dx js) := by rw [← hHk]; exact upd_same
      -- _barred
      refine ⟨_, rfl, x, M, dx, _, _, rfl, xk, T.cl, T.n6, fk6, bb, rfl, ⟨_, SqT.of tb5⟩, fun D2 nD2 => dcT_tup (K := K) (a := bb) (xs := zs')
        (fun i H1 => Grew P Hk H1 ∧ ∃ kvs : List (List Key × V), H1 D2 = some (.dT kvs) ∧ kvs.length ≤ i ∧ ∀ a b : Str, (valV kvs [.inr a, .inr b]).isSome = true ↔ (a, b) ∈ bs'.take i)
        ⟨Grew.new gk.tab nD2, [], upd_same, Nat.le_refl _, fun a b => by simp [valV_nil]⟩ (fun i H1 _ p => SqT.of (p.1.tup gk.tab tb5)) (fun i y H1 hy p => ?_) (fun Hl p => ?_)⟩
      · obtain ⟨g, kvs, hD, hl, hin⟩ := p
        obtain ⟨b, hbi, m⟩ := Paired.at hz5 hy
        have hi : i < zs'.length := (List.getElem?_eq_some_iff.mp hy).1
        obtain ⟨t, rfl, et⟩ := m.grew g gk.tab
        refine ⟨rfl, _, rfl, kvs, [.inr b.1, .inr b.2], t, rfl, et, hD, ?_, g.write hD (fun _ z => by cases z) nD2, _, upd_same, ?_, fun a' b' => ?_⟩
        · rw [sizeLine_eq]; omega
        · have := length_putK kvs ([.inr b.1, .inr b.2] : List Key) (V.bl true)
          omega
        · rw [valV_put, List.take_succ, hbi, List.mem_append]
          by_cases e : ([.inr a', .inr b'] : List Key) = [.inr b.1, .inr b.2]
          · rw [if_pos e]
            have e1 : a' = b.1 := Sum.inr.inj (List.cons.inj e).1
            have e2 : b' = b.2 := Sum.inr.inj (List.cons.inj (List.cons.inj e).2).1
            subst e1 e2
            exact ⟨fun _ => .inr (List.mem_singleton.mpr rfl), fun _ => rfl⟩
          · rw [if_neg e, hin a' b']
            refine ⟨.inl, fun h => h.elim id fun h => ?_⟩
            have h' : (a', b') = b := List.mem_singleton.mp h
            subst h'
            exact absurd rfl e
      · obtain ⟨gl, kvs, hD, hl, hin⟩ := p
        have lb : bs'.length = zs'.length := Paired.len hz5
        rw [← lb, List.take_length] at hin
        have xl := gl.get gk.tab xk (nins _)
        refine ⟨_, rfl, x, M, dx, _, rfl, xl, T.cl, T.n7, by omega, ?_⟩
        have gm := (gk.trans gl).write (o := .ins M dx (putF "_barred" (.ref D2) js)) xl (nins _) nx
        refine k _ ks' ps' rs' bs' gm pk ak pp' ap kr ar pb ab ⟨dx, putF "_barred" (.ref D2) js, kk, pp, rr, D, bb, D2, ys, zs', upd_same, ?_⟩
        constructor
        · exact noF fk0 (by decide +kernel)
        · rw [lookup_putF, if_neg (by decide +kernel)]; exact fk1
        · rw [lookup_putF, if_neg (by decide +kernel)]; exact fk2
        · rw [lookup_putF, if_neg (by decide +kernel)]; exact fk3
        · rw [lookup_putF, if_neg (by decide +kernel)]; exact fk4
        · rw [lookup_putF, if_neg (by decide +kernel)]; exact fk5
        · rw [lookup_putF, if_neg (by decide +kernel)]; exact fk6
        · rw [lookup_putF, if_pos rfl]
        · exact tup_ins xl (gl.tup gk.tab tk5)
        · exact tup_ins xl (gl.tup gk.tab tp5)
        · exact tup_ins xl (gl.tup gk.tab tr5)
        · exact Paired.map' hm5 fun r v m => (m.grew gl gk.tab).ins xl
        · exact (dR5.grew gl gk.tab).ins xl
        · exact tup_ins xl (gl.tup gk.tab tb5)
        · exact Paired.map' hz5 fun b v m => (m.grew gl gk.tab).ins xl
        · exact ⟨kvs, by rw [upd_ne (insNe xl hD (fun _ _ _ z => by cases z))]; exact hD, hin⟩
end
end W

set_option Elab.async false
set_option linter.all false
set_option maxRecDepth 100000
set_option maxHeartbeats 400000
namespace W
open PySem PySem.Spec PyProof.Rows L2 GxR MyG
abbrev sRow : Stmt := top 48
abbrev sNumbers : Stmt := top 49
/-- the drawn numbers are small -/
def Sm (ns : List Int) : Prop := ∀ n ∈ ns, 0 ≤ n ∧ n < 1009
theorem Sm.snoc {ns : List Int} {n : Int} (h : Sm ns) (h1 : 0 ≤ n) (h2 : n < 1009) : Sm (ns ++ [n]) := fun z hz => by
  rcases List.mem_append.mp hz with hz | hz
  · exact h z hz
  · rw [List.mem_singleton.mp hz]; exact ⟨h1, h2⟩
theorem mod1009 (a : Int) : 0 ≤ a % 1009 ∧ a % 1009 < 1009 := by omega
def spRow (P : Addr) : Sp := fun vs H Q _ => ∃ (c : Int) (m : Nat), vs = [.int c, .int m] ∧ m ≤ 1000 ∧ TabG H P ∧ ∀ H' p ns, Grew P H H' → H p = none → H' p = some (.lst (ns.map V.int)) → ns.length = m → Sm ns → Q (.ref p) H'
def spNumbers (K : PySem.W.Frag) (P : Addr) : Sp := fun vs H Q _ => ∃ (a : Addr) (zs : List Int) (m : Nat), vs = [.ref a, .int m] ∧ SqL K H a (zs.map V.int) ∧ zs.length ≤ 63 ∧ m ≤ 900 ∧ TabG H P ∧
  ∀ H' p ns, Grew P H H' → H p = none → H' p = some (.lst (ns.map V.int)) → ns.length = m → Sm ns → Q (.ref p) H'
section
variable {Pg : Program} {w : World} {K : PySem.W.Frag} {mg : Str → Option Value} {base : Heap} {C P : Addr}
abbrev nRow : List Str := ["cell", "many", "row", "rest", "mixed", "k"]
theorem scRow : FnScope nRow ["cell", "many"] (defScope sRow) := ⟨rfl, rfl, rfl, by decide +kernel, rfl, by decide +kernel, by decide +kernel⟩
theorem ok_row {f : Addr} {fd : FuncData} (F : Fun K "_law_row" "_law_row" sRow f fd) (ha : mg "abs" = none) (hi : mg "int" = none) (hr' : mg "range" = none) : FnOk Pg w K mg base CX0 1 f fd ["cell", "many"] (spRow P) := by
  refine F.ok scRow (fun vs H Q E h => ?_) (fun cdv A outer s H vs Q E hr h => ?_)
  · obtain ⟨c, m, rfl, _⟩ := h
    rfl
  · obtain ⟨c, m, rfl, hm, hP, k⟩ := h
    refine ⟨_, pss_cons (ps_set (i := 2) scRow.nd rfl (Or.inl rfl) (pe_lst pa_nil))
      (pss_cons (ps_set (i := 3) scRow.nd rfl (Or.inl rfl) (pe_callB call_abs (by rfl) ha (by decide +kernel) (pa_cons (pv 0) pa_nil)))
      (pss_cons (ps_set (i := 4) scRow.nd rfl (Or.inl rfl) (pe_op op_mod (pe_callTy call_int1 (by rfl) hi (by decide +kernel) (pa_cons (pe_op op_add (pe_op op_mul (pv 3) pe_int) pe_int) pa_nil)) pe_int))
      (pss_cons (ps_for PassesOwn.never rfl (pi_range1 rfl hr' (pa_cons (pv 1) pa_nil)) (pg_name (i := 5) scRow.nd rfl (Or.inl rfl))
        (pss_cons (ps_set (i := 4) scRow.nd rfl (Or.inl rfl) (pe_op op_mod (pe_callTy call_int1 (by rfl) hi (by decide +kernel) (pa_cons (pe_op op_add (pe_op op_mul (pv 4) pe_int) (pe_op op_mul pe_int (pe_op op_add (pv 5) pe_int))) pa_nil)) pe_int))
        (pss_one (ps_if (pt_cmpR op_ge (pe_callB call_abs (by rfl) ha (by decide +kernel) (pa_cons (pv 0) pa_nil)) (pe_op op_pow pe_int pe_int) (nomark _))
          (pss_cons (ps_expr (pe_bm PySem.F.plainAttrs_list PySem.F.slot_list_append PySem.F.type_list_append mt_append (pv 2) (pa_cons (pe_op op_mod (pe_callTy call_int1 (by rfl) hi (by decide +kernel) (pa_cons (pv 3) pa_nil)) pe_int) pa_nil)))
            (pss_one (ps_set (i := 3) scRow.nd rfl (Or.inl rfl) (pe_op op_fdiv (pv 3) pe_int))))
          (pss_one (ps_expr (pe_bm PySem.F.plainAttrs_list PySem.F.slot_list_append PySem.F.type_list_append mt_append (pv 2) (pa_cons (pe_op op_mod (pe_callTy call_int1 (by rfl) hi (by decide +kernel) (pa_cons (pe_op op_fdiv (pv 4) pe_int) pa_nil)) pe_int) pa_nil))))))))
      (pss_one (ps_ret (pv 2)))))), ?_⟩
    refine ⟨Nat.zero_le _, fun p np => ?_⟩
    refine ⟨_, rfl, _, rfl, ?_⟩
    refine ⟨_, rfl, _, _, rfl, rfl, .inr ⟨by decide, by decide⟩, _, _, rfl, rfl, .inl ⟨_, rfl, _, _, rfl, rfl, (show (0 : Int) < 2147483647 by decide), ?_⟩⟩
    refine ⟨_, rfl, m, rfl, by omega, by omega, for_range (n := m) (fun i σ H' => ∃ r mx kv, ∃ ns : List Int, σ = [some (.int c), some (.int m), some (.ref p), some (.int r), some (.int mx), kv] ∧ Grew P H H' ∧ H' p = some (.lst (ns.map V.int)) ∧ ns.length = i ∧ Sm ns)
      ⟨_, _, none, [], rfl, Grew.new hP np, upd_same, rfl, fun n hn => by cases hn⟩ ?_ ?_⟩
    · rintro i σ H' hi ⟨r, mx, kv, ns, rfl, g, hp, hl, hsm⟩
      refine ⟨_, rfl, _, _, rfl, rfl, .inr ⟨by decide, by decide⟩, _, rfl, _, _, rfl, rfl, _, _, rfl, rfl, .inl ⟨by decide, by decide⟩, _, _, rfl, rfl, .inl ⟨_, rfl, _, _, rfl, rfl, (show (0 : Int) < 2147483629 by decide), ?_⟩⟩
      refine ⟨_, rfl, _, rfl, _, _, rfl, rfl, ⟨by decide, by decide, by decide⟩, _, _, rfl, rfl, _, rfl, ?_⟩
      have hlen : (ns.map V.int).length < sizeLine := by rw [List.length_map, hl, sizeLine_eq]; omega
      refine ite2 (fun _ => ?_) (fun _ => ?_)
      · refine ⟨_, rfl, .inl ⟨rfl, _, SqL.of hp⟩, _, rfl, .inl ⟨_, rfl, _, _, rfl, rfl, (show (0 : Int) < 1009 by decide), p, _, _, rfl, rfl, hp, hlen, ?_⟩⟩
        refine ⟨_, rfl, _, _, rfl, rfl, ⟨by decide, by decide⟩, _, _, _, ns ++ [_], rfl, g.write hp (fun _ z => by cases z) np, by rw [upd_same, List.map_append]; rfl, by rw [List.length_append, hl]; rfl, hsm.snoc (mod1009 _).1 (mod1009 _).2⟩
      · refine ⟨_, rfl, .inl ⟨rfl, _, SqL.of hp⟩, _, rfl, _, _, rfl, rfl, ⟨by decide, by decide⟩, .inl ⟨_, rfl, _, _, rfl, rfl, (show (0 : Int) < 1009 by decide), p, _, _, rfl, rfl, hp, hlen, ?_⟩⟩
        refine ⟨_, _, _, ns ++ [_], rfl, g.write hp (fun _ z => by cases z) np, by rw [upd_same, List.map_append]; rfl, by rw [List.length_append, hl]; rfl, hsm.snoc (mod1009 _).1 (mod1009 _).2⟩
    · rintro σ H' ⟨r, mx, kv, ns, rfl, g, hp, hl, hsm⟩
      exact ⟨_, rfl, k H' p ns g np hp hl hsm⟩
end
end W

set_option Elab.async false
set_option linter.all false
set_option maxRecDepth 100000
set_option maxHeartbeats 400000
namespace W
open PySem PySem.Spec PyProof.Rows L2 GxR MyG
theorem cutV_pre (xs : List V) (n : Nat) : cutV xs none (some (n : Int)) = xs.take n := by
  unfold cutV
  rw [HT.sIx_none, HT.sIx_nat, List.drop_zero, Nat.sub_zero]
  rcases Nat.le_total n xs.length with h | h
  · rw [Nat.min_eq_left h]
  · rw [Nat.min_eq_right h, List.take_length, List.take_of_length_le h]
theorem Sm.take {ns : List Int} (h : Sm ns) (k : Nat) : Sm (ns.take k) := fun z hz => h z (List.mem_of_mem_take hz)
theorem Sm.app {ns ms : List Int} (h : Sm ns) (h2 : Sm ms) : Sm (ns ++ ms) := fun z hz => by
  rcases List.mem_append.mp hz with hz | hz
  · exact h z hz
  · exact h2 z hz
section
variable {Pg : Program} {w : World} {K : PySem.W.Frag} {mg : Str → Option Value} {base : Heap} {C P : Addr}
abbrev nNumbers : List Str := ["script", "many", "cells", "each", "numbers", "cell", "number"]
theorem scNumbers : FnScope nNumbers ["script", "many"] (defScope sNumbers) := ⟨rfl, rfl, rfl, by decide +kernel, rfl, by decide +kernel, by decide +kernel⟩
theorem ok_numbers {f fR : Addr} {fd fdR : FuncData} (F : Fun K "_law_numbers" "_law_numbers" sNumbers f fd) (hl : mg "len" = none) (hx : mg "max" = none)
    (GR : FnOk Pg w K mg base CX0 1 fR fdR ["cell", "many"] (spRow P)) (gR : mg "_law_row" = some (.ref fR)) (kR : PySem.W.keepIn K (.ref fR) = true) (bR : Binds K fdR ["cell", "many"] []) :
    FnOk Pg w K mg base CX0 2 f fd ["script", "many"] (spNumbers K P) := by
  refine F.ok scNumbers (fun vs H Q E h => ?_) (fun cdv A outer s H vs Q E hr h => ?_)
  · obtain ⟨a, zs, m, rfl, _⟩ := h
    rfl
  · obtain ⟨a, zs, m, rfl, hS, hz, hm, hP, k⟩ := h
    refine ⟨_, pss_cons (ps_set (i := 2) scNumbers.nd rfl (Or.inl rfl) (pe_slice sl_list (pv 0) po_none (po_some pe_int)))
      (pss_cons (ps_set (i := 3) scNumbers.nd rfl (Or.inl rfl) (pe_op op_add pe_int (pe_op op_fdiv (pv 1) (pe_callB (call_max2 rfl) (by rfl) hx (by decide +kernel) (pa_cons pe_int (pa_cons (pe_callB call_len_seq (by rfl) hl PySem.boot_len (pa_cons (pv 2) pa_nil)) pa_nil))))))
      (pss_cons (ps_set (i := 4) scNumbers.nd rfl (Or.inl rfl) (pe_lst pa_nil))
      (pss_cons (ps_for PassesOwn.never rfl (pi_list (pv 2)) (pg_name (i := 5) scNumbers.nd rfl (Or.inl rfl))
        (pss_one (ps_for PassesOwn.never rfl (pi_list (pe_call GR hr (by rfl) gR kR bR .nil pass0 (pa_cons (pv 5) (pa_cons (pv 3) pa_nil)))) (pg_name (i := 6) scNumbers.nd rfl (Or.inl rfl))
          (pss_one (ps_expr (pe_bm PySem.F.plainAttrs_list PySem.F.slot_list_append PySem.F.type_list_append mt_append (pv 4) (pa_cons (pv 6) pa_nil)))))))
      (pss_cons (ps_while PassesOwn.never (pt_cmpR op_lt (pe_callB call_len_seq (by rfl) hl PySem.boot_len (pa_cons (pv 4) pa_nil)) (pv 1) (nomark _))
          (pss_one (ps_expr (pe_bm PySem.F.plainAttrs_list PySem.F.slot_list_append PySem.F.type_list_append mt_append (pv 4) (pa_cons pe_int pa_nil)))))
      (pss_one (ps_ret (pe_slice sl_list (pv 4) po_none (po_some (pv 1))))))))), ?_⟩
    -- cells
    refine ⟨_, rfl, _, rfl, a, _, rfl, hS, fun c nc => ?_⟩
    have ec : cutV (zs.map V.int) none (some 63) = zs.map V.int := by
      have q := cutV_pre (zs.map V.int) 63
      rw [List.take_of_length_le (by rw [List.length_map]; exact hz)] at q
      exact q
    rw [ec]
    have g1 := Grew.new hP (o := .lst (zs.map V.int)) nc
    -- each
    refine ⟨_, rfl, _, rfl, c, _, rfl, .inl (SqL.of upd_same), 1, _, rfl, _, _, rfl, rfl, ?_, _, _, rfl, rfl, ?_⟩
    · rw [List.length_map]
      constructor
      · split <;> omega
      · split <;> omega
    rw [List.length_map]
    generalize hdv : (if ((zs.length : Nat) : Int) > 1 then ((zs.length : Nat) : Int) else 1) = dv
    have hdp : 0 < dv := by rw [← hdv]; split <;> omega
    obtain ⟨e, he, he2⟩ : ∃ e : Nat, 1 + (m : Int) / dv = (e : Int) ∧ e ≤ 1000 := by
      have h1 : 0 ≤ (m : Int) / dv := Int.ediv_nonneg (by omega) (by omega)
      have h2 : (m : Int) / dv ≤ m := Int.ediv_le_self _ (by omega)
      exact ⟨(1 + (m : Int) / dv).toNat, by omega, by omega⟩
    refine ⟨Nat.zero_le _, fun p np => ?_⟩
    have g2 := g1.put (o := .lst []) np
    have hc : L2.upd (L2.upd H c (.lst (zs.map V.int))) p (.lst []) c = some (.lst (zs.map V.int)) := (Grew.new g1.tab np).lst g1.tab upd_same
    have ncp : c ≠ p := ne_of_none upd_same np
    refine ⟨_, rfl, c, rfl, ⟨_, SqL.of hc⟩, for_list (K := K) (a := c) (xs := zs.map V.int) (fun i σ H' => ∃ v5 v6, ∃ ns : List Int, σ = [some (.ref a), some (.int m), some (.ref c), some (.int (1 + (m : Int) / dv)), some (.ref p), v5, v6] ∧ Grew P H H' ∧ H' c = some (.lst (zs.map V.int)) ∧ H' p = some (.lst (ns.map V.int)) ∧ ns.length ≤ 1000 * i ∧ Sm ns)
      ⟨none, none, [], rfl, g2, hc, upd_same, Nat.zero_le _, fun n hn => by cases hn⟩ (fun i σ H' _ ⟨_, _, _, _, _, h, _⟩ => SqL.of h) ?_ ?_⟩
    · rintro i y σ H' hi ⟨v5, v6, ns, rfl, g, hcc, hp, hln, hsm⟩
      obtain ⟨z, rfl⟩ : ∃ z, y = V.int z := by
        rw [List.getElem?_map] at hi
        cases q : zs[i]? with
        | none => rw [q] at hi; cases hi
        | some z => rw [q] at hi; exact ⟨z, (Option.some.inj hi).symm⟩
      have hi63 : i < 63 := by
        have q := (List.getElem?_eq_some_iff.mp hi).1
        rw [List.length_map] at q
        omega
      refine ⟨_, rfl, _, rfl, z, e, by rw [he]; rfl, he2, g.tab, fun H2 q rs gr nq eq hrl hrs => ?_⟩
      have np2 : p ≠ q := ne_of_none hp nq
      have np0 : H p = none := (Grew.new hP nc).free np
      refine ⟨q, rfl, ⟨_, SqL.of eq⟩, for_list (K := K) (a := q) (xs := rs.map V.int) (fun j σ H' => ∃ v5 v6, σ = [some (.ref a), some (.int m), some (.ref c), some (.int (1 + (m : Int) / dv)), some (.ref p), v5, v6] ∧ Grew P H H' ∧ H' c = some (.lst (zs.map V.int)) ∧ H' q = some (.lst (rs.map V.int)) ∧ H' p = some (.lst ((ns ++ rs.take j).map V.int)))
        ⟨_, _, rfl, g.trans gr, gr.lst g.tab hcc, eq, by rw [List.take_zero, List.append_nil]; exact gr.lst g.tab hp⟩ (fun j σ H' _ ⟨_, _, _, _, _, h, _⟩ => SqL.of h) ?_ ?_⟩
      · rintro j y σ H3 hj ⟨w5, w6, rfl, g3, hc3, hq3, hp3⟩
        obtain ⟨z2, hz2, rfl⟩ : ∃ z, rs[j]? = some z ∧ y = V.int z := by
          rw [List.getElem?_map] at hj
          cases q : rs[j]? with
          | none => rw [q] at hj; cases hj
          | some z => rw [q] at hj; exact ⟨z, rfl, (Option.some.inj hj).symm⟩
        refine ⟨_, rfl, .inl ⟨rfl, _, SqL.of hp3⟩, _, rfl, p, _, _, rfl, rfl, hp3, ?_, _, _, rfl, g3.write hp3 (fun _ z => by cases z) np0, ?_, ?_, ?_⟩
        · rw [List.length_map, List.length_append, List.length_take, sizeLine_eq]; omega
        · rw [upd_ne ncp]; exact hc3
        · rw [upd_ne np2.symm]; exact hq3
        · rw [upd_same, List.take_succ, hz2]; simp
      · rintro σ H3 ⟨w5, w6, rfl, g3, hc3, hq3, hp3⟩
        rw [List.length_map, List.take_length] at hp3
        exact ⟨_, _, ns ++ rs, rfl, g3, hc3, hp3, by rw [List.length_append]; omega, hsm.app hrs⟩
    · rintro σ H' ⟨v5, v6, ns, rfl, g, hcc, hp, hln, hsm⟩
      rw [List.length_map] at hln
      have np0 : H p = none := (Grew.new hP nc).free np
      refine ⟨fun n σ H' => ∃ ns : List Int, σ = [some (.ref a), some (.int m), some (.ref c), some (.int (1 + (m : Int) / dv)), some (.ref p), v5, v6] ∧ Grew P H H' ∧ H' p = some (.lst (ns.map V.int)) ∧ ns.length ≤ 70000 ∧ Sm ns ∧ n = m - ns.length,
        ⟨_, ns, rfl, g, hp, by omega, hsm, rfl⟩, ?_⟩
      rintro n σ H3 ⟨ms, rfl, g3, hp3, hl3, hs3, rfl⟩
      refine ⟨_, rfl, p, _, rfl, .inl (SqL.of hp3), _, rfl, _, _, rfl, rfl, _, rfl, ?_⟩
      rw [List.length_map]
      refine ite2 (fun hlt => ?_) (fun hge => ?_)
      · have hlt' : (ms.length : Int) < m := of_decide_eq_true hlt
        refine ⟨_, fun _ _ h => h, _, rfl, .inl ⟨rfl, _, SqL.of hp3⟩, p, _, _, rfl, rfl, hp3, ?_, m - (ms.length + 1), by omega, ms ++ [0], rfl, g3.write hp3 (fun _ z => by cases z) np0, ?_, ?_, hs3.snoc (by decide) (by decide), ?_⟩
        · rw [List.length_map, sizeLine_eq]; omega
        · rw [upd_same, List.map_append]; rfl
        · rw [List.length_append, List.length_singleton]; omega
        · rw [List.length_append, List.length_singleton]
      · have hge' : ¬ (ms.length : Int) < m := fun z => hge (decide_eq_true z)
        refine ⟨_, rfl, _, rfl, _, rfl, p, _, rfl, SqL.of hp3, fun r nr => ?_⟩
        have ec2 := cutV_pre (ms.map V.int) m
        rw [ec2, ← List.map_take]
        exact k _ r (ms.take m) (g3.put nr) (g3.free nr) upd_same (by rw [List.length_take]; omega) (hs3.take m)
end
end W

set_option Elab.async false
set_option linter.all false
set_option maxRecDepth 100000
set_option maxHeartbeats 1000000
/-! a list or a tuple walked; the texts of errors -/
namespace SqX
open PySem PySem.Spec PyProof.Rows L2
/-- a list (true) or a tuple (false) -/
def SqK (c : Bool) (K : PySem.W.Frag) (H : Hp) (a : Addr) (xs : List V) : Prop := match c with
  | true => SqL K H a xs
  | false => SqT K H a xs
theorem SqK.any {c : Bool} {K : PySem.W.Frag} {H : Hp} {a : Addr} {xs : List V} (h : SqK c K H a xs) : SqL K H a xs ∨ SqT K H a xs := by
  cases c with
  | true => exact .inl h
  | false => exact .inr h
def ItK (c : Bool) (K : PySem.W.Frag) (a : Addr) : It := match c with
  | true => Itl K a
  | false => Itt K a
theorem walk_sq {c : Bool} {K : PySem.W.Frag} {a : Addr} {xs : List V} : Walk (ItK c K a) xs.length (fun H => SqK c K H a xs) (YAt xs) := by
  cases c with
  | true => exact walk_list
  | false => exact walk_tup
def iSq (K : PySem.W.Frag) (tl : TE) : TI := fun σ H R => tl σ H fun x H1 => ∃ (c : Bool) (a : Addr), x = .ref a ∧ (∃ xs, SqK c K H1 a xs) ∧ R (ItK c K a) H1
section
variable {X : Cx} {tg : Expr}
theorem pi_sq {l : Expr} {tl : TE} (hl : PE X l tl) : PI X tg l (iSq X.K tl) := by
  refine ⟨fun pins s σ H R I h => ?_⟩
  refine thn (hl.run pins s σ H _ I h) fun v s1 ⟨x, H1, I1, r1, q1⟩ => ?_
  obtain ⟨c, a, e, ⟨xs, hq⟩, q⟩ := q1
  subst e
  cases r1
  cases c with
  | true =>
    obtain ⟨its, rv, p, hz⟩ := I1.list hq
    refine wpAny_pyIter_list p.isList ?_
    refine ⟨s1.heap.objs.size, [s1.heap.objs.size], _, _, H1, rfl, I1.kept (t' := s1.toks) fun b o e => Heap.get?_push_of_some _ e, turn_list a _, ⟨_, Heap.get?_push_size _ rfl, rfl, rfl⟩, fun b hb => ?_, q⟩
    have e : b = s1.heap.objs.size := by simpa using hb
    subst e
    exact I1.fpOk (Nat.le_refl _) (I1.hok.fresh (Nat.le_refl _))
  | false =>
    obtain ⟨its, rv, p, hz⟩ := I1.tuple hq
    refine wpAny_pyIter_tuple (show s1.heap.IsTuple a its.toArray from p) ?_
    refine ⟨s1.heap.objs.size, [s1.heap.objs.size], _, _, H1, rfl, I1.kept (t' := s1.toks) fun b o e => Heap.get?_push_of_some _ e, turn_tuple a _, ⟨_, Heap.get?_push_size _ rfl, rfl, rfl⟩, fun b hb => ?_, q⟩
    have e : b = s1.heap.objs.size := by simpa using hb
    subst e
    exact I1.fpOk (Nat.le_refl _) (I1.hok.fresh (Nat.le_refl _))
end
/-- for over a list or a tuple -/
theorem for_sq {K : PySem.W.Frag} {c : Bool} {a : Addr} {xs : List V} {g : TG} {tb : TS} {D : Ends} {σ : L2.St} {H : Hp} (Pv : Nat → L2.St → Hp → Prop) (h0 : Pv 0 σ H) (hl : ∀ i σ H', i ≤ xs.length → Pv i σ H' → SqK c K H' a xs)
    (hs : ∀ i x σ H', xs[i]? = some x → Pv i σ H' → g x σ H' fun σ2 H2 => tb { D with nx := Pv (i + 1), ct := Pv (i + 1), bk := D.nx } σ2 H2) (hd : ∀ σ H', Pv xs.length σ H' → D.nx σ H') :
    ∃ W : Nat → Nat → L2.St → Hp → Prop, (∃ m, W 0 m σ H) ∧ ∀ i m σ H, W i m σ H →
      ((ItK c K a).stop i H ∧ D.nx σ H) ∨ ((ItK c K a).go i H ∧ ∃ N : L2.St → Hp → Prop, (∀ σ' H', N σ' H' → ∃ m', m' < m ∧ W (i + 1) m' σ' H') ∧ ∀ x H', (ItK c K a).yld i H x H' → g x σ H' fun σ2 H2 => tb { D with nx := N, ct := N, bk := D.nx } σ2 H2) :=
  for_it walk_sq Pv h0 hl (fun i x σ H H' _ p y => by obtain ⟨e, hx⟩ := y; rw [e]; exact hs i x σ H hx p) hd
/-- a comprehension over a list or a tuple -/
theorem lc_sq {K : PySem.W.Frag} {c : Bool} {a : Addr} {xs : List V} {g : TG} {tt : TT} {te : TE} {vs : List Nat} {σ : L2.St} {H1 : Hp} {D : Addr} {Qd : Hp → Prop} (Pv : Nat → Hp → Prop) (h0 : Pv 0 (L2.upd H1 D (.lst []))) (hl : ∀ i H, i ≤ xs.length → Pv i H → SqK c K H a xs)
    (hs : ∀ i x H, xs[i]? = some x → Pv i H → g x (wipe σ vs) H fun σ2 H2 => wipe σ2 vs = wipe σ vs ∧ tt σ2 H2 fun b H3 =>
      if b = true then te σ2 H3 fun y H4 => ∃ acc, H4 D = some (.lst acc) ∧ acc.length < sizeLine ∧ Pv (i + 1) (L2.upd H4 D (.lst (acc ++ [y]))) else Pv (i + 1) H3) (hd : ∀ H, Pv xs.length H → Qd H) :
    ∃ W : Nat → Nat → Hp → Prop, (∃ m, W 0 m (L2.upd H1 D (.lst []))) ∧ ∀ i m H, W i m H →
      ((ItK c K a).stop i H ∧ Qd H) ∨ ((ItK c K a).go i H ∧ ∃ Nx : Hp → Prop, (∀ H', Nx H' → ∃ m', m' < m ∧ W (i + 1) m' H') ∧ ∀ x H', (ItK c K a).yld i H x H' → g x (wipe σ vs) H' fun σ2 H2 => wipe σ2 vs = wipe σ vs ∧ tt σ2 H2 fun b H3 =>
        if b = true then te σ2 H3 fun y H4 => ∃ acc, H4 D = some (.lst acc) ∧ acc.length < sizeLine ∧ Nx (L2.upd H4 D (.lst (acc ++ [y]))) else Nx H3) :=
  lc_it walk_sq Pv h0 hl (fun i x H H' _ p y => by obtain ⟨e, hx⟩ := y; rw [e]; exact hs i x H hx p) hd
/-! ### the texts of errors -/
/-- a part of a short text -/
def Short (t : TE) (σ : L2.St) (H : Hp) : Prop := ∀ Q : VK, (∀ y : Str, y.length ≤ 1000 → Q (.str y) H) → t σ H Q
theorem short_c {z : Str} {σ : L2.St} {H : Hp} (h : z.length ≤ 1000) : Short (tC (.str z)) σ H := fun Q k => k z h
theorem short_s {t : TE} {σ : L2.St} {H : Hp} {y : Str} (h : ∀ Q : VK, Q (.str y) H → t σ H Q) (hy : y.length ≤ 1000) : Short (tFmt t) σ H := fun Q k => h _ (.inl ⟨y, rfl, by rw [sizeLine_eq]; omega, k y hy⟩)
theorem short_i {t : TE} {σ : L2.St} {H : Hp} {n : Int} (h : ∀ Q : VK, Q (.int n) H → t σ H Q) (hn : n.natAbs < 10 ^ 12) : Short (tFmt t) σ H := fun Q k => h _ (.inr ⟨n, rfl, by
  by_cases c : n.natAbs = 0
  · rw [c]; decide
  · refine Nat.lt_of_lt_of_le ((Nat.log2_lt c).mpr (Nat.lt_of_lt_of_le hn (show 10 ^ 12 ≤ 2 ^ 40 by decide))) (by decide), k _ (by
  have q := PyData.shown_int_le (i := n) hn
  rw [PyData.shown_int] at q
  omega)⟩)
theorem short_v {σ : L2.St} {H : Hp} {i : Nat} {y : Str} (e : σ[i]? = some (some (.str y))) (hy : y.length ≤ 1000) : Short (tFmt (tVar i)) σ H := short_s (fun Q q => ⟨_, e, q⟩) hy
theorem short_n {σ : L2.St} {H : Hp} {i : Nat} {n : Int} (e : σ[i]? = some (some (.int n))) (hn : n.natAbs < 10 ^ 12) : Short (tFmt (tVar i)) σ H := short_i (fun Q q => ⟨_, e, q⟩) hn
theorem short_g {σ : L2.St} {H : Hp} {n : Int} (hn : n.natAbs < 10 ^ 12) : Short (tFmt (tC (.int n))) σ H := short_i (fun Q q => q) hn
theorem tJs_ok {σ : L2.St} {H : Hp} {Q : Str → Hp → Prop} (k : ∀ z, Q z H) : ∀ {ts : List TE} {acc : Str} (n : Nat), (∀ t ∈ ts, Short t σ H) → acc.length ≤ n → n + 1000 * ts.length ≤ 100000 → tJs ts acc σ H Q
  | [], acc, n, _, _, _ => k acc
  | t :: ts, acc, n, h, ha, hn => h t List.mem_cons_self _ fun y hy => ⟨y, rfl, by rw [PySem.Str.length_append, sizeLine_eq]; simp only [List.length_cons] at hn; omega,
      tJs_ok k (n + 1000) (fun u hu => h u (List.mem_cons_of_mem _ hu)) (by rw [PySem.Str.length_append]; omega) (by simp only [List.length_cons] at hn; omega)⟩
end SqX

set_option Elab.async false
set_option linter.all false
set_option maxRecDepth 100000
set_option maxHeartbeats 1000000
namespace W
open PySem PySem.Spec PyProof.Rows L2 GxR MyG MyS SqX
/-! ### the checks of a map, of whatever is given: they return, or InvalidMap is raised -/
/-- InvalidMap, the heap grown -/
def BadM (C P : Addr) (H : Hp) (E : XK) : Prop := ∀ H', Grew P H H' → E (.ref C) none H'
theorem BadM.on {C P : Addr} {H H1 : Hp} {E : XK} (h : BadM C P H E) (g : Grew P H H1) : BadM C P H1 E := fun H' g' => h H' (g.trans g')
theorem BadM.here {C P : Addr} {H : Hp} {E : XK} (h : BadM C P H E) (hP : TabG H P) : E (.ref C) none H := h H (Grew.refl hP)
theorem _root_.SqX.SqK.grew {c : Bool} {K : PySem.W.Frag} {P : Addr} {H H' : Hp} {a : Addr} {xs : List V} (h : SqK c K H a xs) (g : Grew P H H') (hP : TabG H P) : SqK c K H' a xs := by
  cases c with
  | true => exact g.sqL hP h
  | false => exact g.sqT hP h
def spDayX (C P : Addr) : Sp := fun vs H Q E => ∃ d : Int, vs = [.int d] ∧ d.natAbs < 10 ^ 12 ∧ TabG H P ∧ (1 ≤ d → d ≤ 1440 → Q (.int d) H) ∧ (¬ (1 ≤ d ∧ d ≤ 1440) → BadM C P H E)
/-- hours as they are given -/
def hoursG (hs : Option (List (Int × Int))) : Option (List (List Int)) := hs.map fun ps => ps.map fun p => [p.1, p.2]
def GPairX (K : PySem.W.Frag) (H : Hp) (p : List Int) (x : V) : Prop := ∃ t, x = .ref t ∧ SqT K H t (p.map V.int)
def GHoursX (K : PySem.W.Frag) (H : Hp) (hs : Option (List (List Int))) (v : V) : Prop := match hs with
  | none => v = .non
  | some ps => ∃ (l : Addr) (xs : List V) (c : Bool), v = .ref l ∧ SqK c K H l xs ∧ Paired (GPairX K H) ps xs
theorem GPairX.keep {K : PySem.W.Frag} {H H' : Hp} {p : List Int} {x : V} (k : KeepT K H H') (h : GPairX K H p x) : GPairX K H' p x := let ⟨t, a, b⟩ := h; ⟨t, a, k _ _ b⟩
theorem GHoursX.grew {K : PySem.W.Frag} {P : Addr} {H H' : Hp} {hs : Option (List (List Int))} {v : V} (g : Grew P H H') (hP : TabG H P) (h : GHoursX K H hs v) : GHoursX K H' hs v := by
  cases hs with
  | none => exact h
  | some ps =>
    obtain ⟨l, xs, c, a, b, d⟩ := h
    exact ⟨l, xs, c, a, b.grew g hP, Paired.map' d fun _ _ m => m.keep (KeepT.grew g hP)⟩
/-- hours that a road may have -/
def HoursGOk (d : Int) (hs : Option (List (List Int))) : Prop := ∃ h, hs = hoursG h ∧ HoursOk d h
def spHoursX (K : PySem.W.Frag) (C P : Addr) : Sp := fun vs H Q E => ∃ (d : Int) (hs : Option (List (List Int))) (hv : V), vs = [hv, .int d] ∧ GHoursX K H hs hv ∧ (∀ ps, hs = some ps → ps.length ≤ 1000) ∧ TabG H P ∧
  (∀ h, hs = hoursG h → HoursOk d h → ∀ H' v', Grew P H H' → GHours K H' h v' → Q v' H') ∧ (¬ HoursGOk d hs → BadM C P H E)
def spDiffX (K : PySem.W.Frag) (C P : Addr) : Sp := fun vs H Q E => ∃ a : Addr, vs = [.ref a] ∧ TabG H P ∧
  ((∃ ns : List Str, (SqL K H a (ns.map V.str) ∨ SqT K H a (ns.map V.str)) ∧ ns.length ≤ 1000 ∧ (ns.Nodup → Q .non H) ∧ (¬ ns.Nodup → BadM C P H E)) ∨
   ∃ ks : List (Addr × List Str), SqL K H a (ks.map fun p => V.ref p.1) ∧ (∀ p ∈ ks, SqT K H p.1 (p.2.map V.str)) ∧ ks.length < 64 ∧ ((ks.map (·.2)).Nodup → Q .non H) ∧ (¬ (ks.map (·.2)).Nodup → BadM C P H E))
/-- pairs one behind the other, from the place at which the last one closed -/
theorem lastOf_cons {q : Int × Int} {r : List (Int × Int)} {c : Int} (i : Nat) : lastOf c (q :: r) (i + 1) = lastOf q.2 r i := by
  unfold lastOf
  rw [List.take_succ_cons]
  cases r.take i with
  | nil => rfl
  | cons a l => rw [List.getLast?_cons_cons]; cases h : (a :: l).getLast? with
    | none => simp at h
    | some z => rfl
theorem hours_snoc {d : Int} : ∀ {ps : List (Int × Int)} {c : Int} {p : Int × Int}, hoursOk d c (ps ++ [p]) ↔ hoursOk d c ps ∧ (lastOf c ps ps.length < p.1 ∧ p.1 < p.2 ∧ p.2 ≤ d)
  | [], c, p => ⟨fun h => ⟨trivial, h.1, h.2.1, h.2.2.1⟩, fun h => ⟨h.2.1, h.2.2.1, h.2.2.2, trivial⟩⟩
  | q :: r, c, p => by
    have ih := hours_snoc (d := d) (ps := r) (c := q.2) (p := p)
    rw [List.length_cons, lastOf_cons]
    constructor
    · rintro ⟨a, b, e, f⟩
      obtain ⟨g, h⟩ := ih.mp f
      exact ⟨⟨a, b, e, g⟩, h⟩
    · rintro ⟨⟨a, b, e, g⟩, h⟩
      exact ⟨a, b, e, ih.mpr ⟨g, h⟩⟩
/-- from the first pairs to more of them -/
theorem hours_take {d : Int} : ∀ {ps : List (Int × Int)} {c : Int} (i : Nat), hoursOk d c ps → hoursOk d c (ps.take i)
  | [], _, i, _ => by cases i <;> exact trivial
  | q :: r, c, 0, _ => trivial
  | q :: r, c, i + 1, h => ⟨h.1, h.2.1, h.2.2.1, hours_take i h.2.2.2⟩
theorem pairs_of {K : PySem.W.Frag} {H : Hp} : ∀ {qs : List (Int × Int)} {xs : List V}, Paired (GPairX K H) (qs.map fun p => [p.1, p.2]) xs → Paired (GPair K H) qs xs
  | [], _, h => by cases h; exact .nil
  | p :: r, _, h => by
    cases h with
    | cons a b => exact .cons a (pairs_of b)
section
variable {Pg : Program} {w : World} {K : PySem.W.Frag} {mg : Str → Option Value} {base : Heap} {C P : Addr}
theorem ok_dayX {f : Addr} {fd : FuncData} {t1 : Tok} (F : Fun K "_checked_day" "_checked_day" sDay f fd) (T : TxtE mg K C) (hd : mg "LONGEST_DAY" = some (.int 1440 t1)) : FnOk Pg w K mg base (L2.CX Pg w) 1 f fd ["day"] (spDayX C P) := by
  refine F.okX scDay (fun vs H Q E h => ?_) (fun cdv A outer s H vs Q E hr h => ?_)
  · obtain ⟨d, rfl, _⟩ := h
    rfl
  · obtain ⟨d, rfl, hd9, hP, kQ, kE⟩ := h
    refine ⟨_, pss_cons (ps_if (pt_not (pt_chain op_le op_le pe_int (pv 0) (pe_gI hd))) (pss_one (ps_raise rfl (takes_of rfl rfl rfl rfl) (SkE.pmk_own1 PySem.F.excBase_ValueError T.xC T.gC T.kC (raises_own T.bC T.tC) (by rfl) (pe_joined (PJ.cons pe_str (PJ.cons (pe_fmt (pv 0)) (PJ.cons pe_str PJ.nil))))))) pss_nil)
      (pss_one (ps_ret (pv 0))), ?_⟩
    have bad : ¬ (1 ≤ d ∧ d ≤ 1440) → ∀ z : Str, E (.ref C) none H := fun h _ => (kE h).here hP
    have parts : ∀ t ∈ [tC (.str "a day has no "), tFmt (tVar 0), tC (.str " minutes")], Short t [some (V.int d)] H := fun t ht => by
      simp only [List.mem_cons, List.not_mem_nil, or_false] at ht
      rcases ht with rfl | rfl | rfl
      · exact short_c (by decide +kernel)
      · exact short_n rfl hd9
      · exact short_c (by decide +kernel)
    refine ⟨_, rfl, _, _, rfl, rfl, _, rfl, ?_⟩
    by_cases h1 : 1 ≤ d
    · refine if_t (decide_eq_true h1) ⟨_, _, rfl, rfl, _, rfl, ?_⟩
      by_cases h2 : d ≤ 1440
      · rw [decide_eq_true h2]
        exact iteF ⟨_, rfl, kQ h1 h2⟩
      · rw [decide_eq_false h2]
        refine iteT ?_
        exact tJs_ok (bad fun h => h2 h.2) 0 parts (Nat.zero_le _) (by decide)
    · rw [decide_eq_false h1]
      refine iteF ⟨_, rfl, iteT ?_⟩
      exact tJs_ok (bad fun h => h1 h.1) 0 parts (Nat.zero_le _) (by decide)
theorem ok_diffX {f : Addr} {fd : FuncData} (F : Fun K "_check_different" "_check_different" sDiff f fd) (T : TxtE mg K C) (hl : mg "len" = none) (hs : mg "set" = none) : FnOk Pg w K mg base (L2.CX Pg w) 1 f fd ["parts"] (spDiffX K C P) := by
  refine F.okX scDiff (fun vs H Q E h => ?_) (fun cdv A outer s H vs Q E hr h => ?_)
  · obtain ⟨a, rfl, _⟩ := h
    rfl
  · obtain ⟨a, rfl, hP, (⟨ns, hS, h1, kQ, kE⟩ | ⟨ks, hS, ht, h1, kQ, kE⟩)⟩ := h
    · refine ⟨_, pss_one (ps_if (pt_cmpR op_lt (pe_lenSetS rfl hl hs (pv 0)) (pe_callB call_len_seq (by rfl) hl PySem.boot_len (pa_cons (pv 0) pa_nil)) (nomark _)) (pss_one (ps_raise rfl (takes_of rfl rfl rfl rfl) (SkE.pmk_own1 PySem.F.excBase_ValueError T.xC T.gC T.kC (raises_own T.bC T.tC) (by rfl) pe_str))) pss_nil), ?_⟩
      refine ⟨_, rfl, a, ns, rfl, hS, by omega, fun n hc => ?_⟩
      refine ⟨_, rfl, a, _, rfl, hS, _, _, rfl, rfl, _, rfl, ?_⟩
      rw [List.length_map]
      by_cases nd : ns.Nodup
      · have e : n = ns.length := hc.eq.mpr nd
        subst e
        exact if_f (decide_eq_false (Int.lt_irrefl _)) (kQ nd)
      · have e : n ≠ ns.length := fun z => nd (hc.eq.mp z)
        have := hc.le
        exact if_t (decide_eq_true (by omega)) ((kE nd).here hP)
    · refine ⟨_, pss_one (ps_if (pt_cmpR op_lt (pe_lenSetP rfl hr.units hl hs (pv 0)) (pe_callB call_len_seq (by rfl) hl PySem.boot_len (pa_cons (pv 0) pa_nil)) (nomark _)) (pss_one (ps_raise rfl (takes_of rfl rfl rfl rfl) (SkE.pmk_own1 PySem.F.excBase_ValueError T.xC T.gC T.kC (raises_own T.bC T.tC) (by rfl) pe_str))) pss_nil), ?_⟩
      refine ⟨_, rfl, a, ks, rfl, .inl hS, ht, h1, fun n hc => ?_⟩
      refine ⟨_, rfl, a, _, rfl, .inl hS, _, _, rfl, rfl, _, rfl, ?_⟩
      rw [List.length_map]
      by_cases nd : (ks.map (·.2)).Nodup
      · have e : n = (ks.map (·.2)).length := hc.eq.mpr nd
        rw [List.length_map] at e
        subst e
        exact if_f (decide_eq_false (Int.lt_irrefl _)) (kQ nd)
      · have e : n ≠ (ks.map (·.2)).length := fun z => nd (hc.eq.mp z)
        have := hc.le
        rw [List.length_map] at e this
        exact if_t (decide_eq_true (by omega)) ((kE nd).here hP)
theorem ok_hoursX {f : Addr} {fd : FuncData} {t1 : Tok} (F : Fun K "_checked_hours" "_checked_hours" sHours f fd) (T : TxtE mg K C) (hl : mg "len" = none) (ht : mg "tuple" = none) (hp : mg "MOST_PAIRS" = some (.int 4 t1)) : FnOk Pg w K mg base (L2.CX Pg w) 1 f fd ["hours", "day"] (spHoursX K C P) := by
  refine F.okX scHours (fun vs H Q E h => ?_) (fun cdv A outer s H vs Q E hr h => ?_)
  · obtain ⟨d, hs, hv, rfl, _⟩ := h
    rfl
  · obtain ⟨d, hs, hv, rfl, g, hsmall, hP, kQ, kE⟩ := h
    refine ⟨_, pss_cons (ps_if (pt_cmp (pc_isN (pv 0))) (pss_one (ps_ret pe_non)) pss_nil)
      (pss_cons (ps_if (pt_cmpR op_gt (pe_callB call_len_seq (by rfl) hl PySem.boot_len (pa_cons (pv 0) pa_nil)) (pe_gI hp) (nomark _)) (pss_one (ps_raise rfl (takes_of rfl rfl rfl rfl) (SkE.pmk_own1 PySem.F.excBase_ValueError T.xC T.gC T.kC (raises_own T.bC T.tC) (by rfl) (pe_joined (PJ.cons pe_str (PJ.cons (pe_fmt (pe_gI hp)) (PJ.cons pe_str PJ.nil))))))) pss_nil)
      (pss_cons (ps_set (i := 2) scHours.nd rfl (Or.inl rfl) (pe_un un_neg pe_int))
      (pss_cons (ps_for (passes_of rfl) rfl (pi_sq (pv 0)) (pg_name (i := 3) scHours.nd rfl (Or.inl rfl))
        (pss_cons (ps_if (pt_cmpR op_ne (pe_callB call_len_seq (by rfl) hl PySem.boot_len (pa_cons (pv 3) pa_nil)) pe_int (nomark _)) (pss_one (ps_raise rfl (takes_of rfl rfl rfl rfl) (SkE.pmk_own1 PySem.F.excBase_ValueError T.xC T.gC T.kC (raises_own T.bC T.tC) (by rfl) pe_str))) pss_nil)
        (pss_cons (ps_if (pt_not (pt_chain3 op_lt op_lt op_le (pv 2) (pe_ix ix_tup (pv 3) pe_int (fun _ _ => rfl)) (pe_ix ix_tup (pv 3) pe_int (fun _ _ => rfl)) (pv 1))) (pss_one (ps_raise rfl (takes_of rfl rfl rfl rfl) (SkE.pmk_own1 PySem.F.excBase_ValueError T.xC T.gC T.kC (raises_own T.bC T.tC) (by rfl) pe_str))) pss_nil)
        (pss_one (ps_set (i := 2) scHours.nd rfl (Or.inl rfl) (pe_ix ix_tup (pv 3) pe_int (fun _ _ => rfl)))))))
      (pss_one (ps_ret (pe_callTy call_tuple_of (by rfl) ht (by decide +kernel) (pa_cons (pe_lc (own := [("pair", 3)]) (g := gName 3) (tt := tYes) rfl scHours.nd (pi_sq (pv 0)) (blkOk_by (N := nHours) (sc := defScope sHours) (by decide +kernel)) (fun _ _ _ _ _ => pg_name (i := 3) scHours.nd rfl (Or.inl rfl)) (fun _ _ _ _ _ => pts_nil)
          (fun _ _ _ _ _ => pe_callTy (r := rTupOf K) call_tuple_of (by rfl) ht (by decide +kernel) (pa_cons (pv 3) pa_nil))) pa_nil))))))), ?_⟩
    cases hs with
    | none =>
      obtain rfl : hv = .non := g
      refine ⟨_, rfl, _, rfl, ?_⟩
      exact iteT (kQ none rfl trivial H .non (Grew.refl hP) rfl)
    | some ps =>
      obtain ⟨l, xs, c, rfl, hS, hG⟩ := g
      have hlen := Paired.len hG
      have hps := hsmall ps rfl
      have bad : ¬ HoursGOk d (some ps) → E (.ref C) none H := fun h => (kE h).here hP
      refine ⟨_, rfl, _, rfl, ?_⟩
      refine iteF ?_
      refine ⟨_, rfl, l, _, rfl, hS.any, _, _, rfl, rfl, _, rfl, ?_⟩
      by_cases c4 : ps.length ≤ 4
      case neg =>
        refine if_t (decide_eq_true (by omega)) ?_
        refine tJs_ok (fun _ => bad fun ⟨h, e, o⟩ => ?_) 0 (fun t ht => ?_) (Nat.zero_le _) (by decide)
        · cases h with
          | none => cases e
          | some qs =>
            have e' := Option.some.inj e
            have := o.1
            rw [e', List.length_map] at c4
            exact c4 this
        · simp only [List.mem_cons, List.not_mem_nil, or_false] at ht
          rcases ht with rfl | rfl | rfl
          · exact short_c (by decide +kernel)
          · exact short_g (by decide)
          · exact short_c (by decide +kernel)
      refine if_f (decide_eq_false (by omega)) ?_
      refine ⟨1, rfl, ?_⟩
      refine ⟨_, rfl, c, l, rfl, ⟨_, hS⟩, for_sq (K := K) (c := c) (a := l) (xs := xs) (fun i σ H' => H' = H ∧ ∃ (v : Option V) (qs : List (Int × Int)), ps.take i = qs.map (fun p => [p.1, p.2]) ∧ hoursOk d (-1) qs ∧ σ = [some (.ref l), some (.int d), some (.int (lastOf (-1) qs qs.length)), v])
        ⟨rfl, none, [], by rw [List.take_zero]; rfl, trivial, rfl⟩ (fun i σ H' _ ⟨e, _⟩ => by rw [e]; exact hS) ?_ ?_⟩
      · rintro i y σ H' hi ⟨rfl, v, qs, eqs, hok, rfl⟩
        obtain ⟨p, hp, t, rfl, hT⟩ := Paired.at hG hi
        have enext : ps.take (i + 1) = qs.map (fun p => [p.1, p.2]) ++ [p] := by rw [List.take_succ, hp, eqs]; rfl
        refine ⟨_, rfl, t, _, rfl, .inr hT, rfl, _, rfl, ?_⟩
        rw [List.length_map]
        by_cases c2 : p.length = 2
        case neg =>
          refine if_t (by rw [decide_eq_false (fun e => c2 (by injection e with e; omega))]; rfl) (bad fun ⟨h, e, o⟩ => ?_)
          cases h with
          | none => cases e
          | some rs =>
            have e' := Option.some.inj e
            have hm : p ∈ ps := List.mem_of_getElem? hp
            rw [e'] at hm
            obtain ⟨z, _, ez⟩ := List.mem_map.mp hm
            rw [← ez] at c2
            exact c2 rfl
        refine if_f (by rw [decide_eq_true (by rw [c2]; rfl)]; rfl) ?_
        obtain ⟨a0, b0, rfl⟩ : ∃ a0 b0, p = [a0, b0] := by
          match p, c2 with
          | [a0, b0], _ => exact ⟨a0, b0, rfl⟩
        have e0 : atI (([a0, b0] : List Int).map V.int) 0 = some (.int a0) := rfl
        have e1 : atI (([a0, b0] : List Int).map V.int) 1 = some (.int b0) := rfl
        have hqn : ¬ (lastOf (-1) qs qs.length < a0 ∧ a0 < b0 ∧ b0 ≤ d) → E (.ref C) none H' := fun hn => bad fun ⟨h, e, o⟩ => by
          cases h with
          | none => cases e
          | some rs =>
            have e' : ps = rs.map (fun p => [p.1, p.2]) := Option.some.inj e
            have o2 := hours_take (i + 1) o.2
            have e3 : (rs.take (i + 1)).map (fun p => [p.1, p.2]) = (qs ++ [(a0, b0)]).map (fun p => [p.1, p.2]) := by
              rw [List.map_take, ← e', enext, List.map_append]
              rfl
            have inj : ∀ x y : Int × Int, [x.1, x.2] = [y.1, y.2] → x = y := fun x y h => by
              have h1 := (List.cons.inj h).1
              have h2 := (List.cons.inj (List.cons.inj h).2).1
              exact Prod.ext h1 h2
            have e4 : rs.take (i + 1) = qs ++ [(a0, b0)] := List.map_inj_right inj |>.mp e3
            rw [e4] at o2
            exact hn (hours_snoc.mp o2).2
        refine ⟨_, rfl, _, rfl, t, _, 0, _, rfl, rfl, hT, e0, _, _, rfl, rfl, _, rfl, ?_⟩
        by_cases o1 : lastOf (-1) qs qs.length < a0
        case neg =>
          rw [decide_eq_false o1]
          exact iteF ⟨_, rfl, iteT (hqn fun h => o1 h.1)⟩
        refine if_t (decide_eq_true o1) ⟨_, rfl, t, _, 1, _, rfl, rfl, hT, e1, _, _, rfl, rfl, _, rfl, ?_⟩
        by_cases o2 : a0 < b0
        case neg =>
          rw [decide_eq_false o2]
          exact iteF ⟨_, rfl, iteT (hqn fun h => o2 h.2.1)⟩
        refine if_t (decide_eq_true o2) ⟨_, rfl, _, _, rfl, rfl, _, rfl, ?_⟩
        by_cases o3 : b0 ≤ d
        case neg =>
          rw [decide_eq_false o3]
          exact iteT (hqn fun h => o3 h.2.2)
        rw [decide_eq_true o3]
        refine iteF ⟨_, rfl, t, _, 1, _, rfl, rfl, hT, e1, rfl, some (.ref t), qs ++ [(a0, b0)], ?_, hours_snoc.mpr ⟨hok, o1, o2, o3⟩, ?_⟩
        · rw [enext, List.map_append]
          rfl
        · have e5 : lastOf (-1) (qs ++ [(a0, b0)]) (qs ++ [(a0, b0)]).length = b0 := by
            unfold lastOf
            rw [List.take_length]
            simp
          rw [e5]
          rfl
      · rintro σ H' ⟨rfl, v, qs, eqs, hok, rfl⟩
        rw [← hlen, List.take_length] at eqs
        refine ⟨_, rfl, c, l, rfl, ⟨_, hS⟩, fun D nD => lc_sq (K := K) (c := c) (a := l) (xs := xs) (fun i H1 => Grew P H' H1 ∧ H1 D = some (.lst (xs.take i)) ∨ False)
          (.inl ⟨Grew.new hP nD, upd_same⟩) (fun i H1 _ p => p.elim (fun p => hS.grew p.1 hP) False.elim) (fun i x H1 hx p => ?_) (fun H1 p => ?_)⟩
        · obtain ⟨g, hD⟩ := p.elim id False.elim
          obtain ⟨p, hp, t, rfl, hT⟩ := Paired.at hG hx
          refine ⟨rfl, _, rfl, t, _, rfl, .inr ⟨g.sqT hP hT, _, hD, ?_, .inl ⟨g.write hD (fun _ z => by cases z) nD, ?_⟩⟩⟩
          · rw [List.length_take, sizeLine_eq]; omega
          · rw [upd_same, List.take_succ, hx]; rfl
        · obtain ⟨g, hD⟩ := p.elim id False.elim
          rw [List.take_length] at hD
          refine ⟨D, _, rfl, .inl ⟨SqL.of hD, fun q nq => ?_⟩⟩
          have gq := g.put (o := .tup xs) nq
          have hG2 : Paired (GPair K (L2.upd H1 q (.tup xs))) qs xs := pairs_of (by
            rw [eqs] at hG
            exact Paired.map' hG fun a b m => m.keep (KeepT.grew gq hP))
          refine kQ (some qs) (by rw [eqs]; rfl) ⟨?_, hok⟩ _ _ gq ⟨q, xs, rfl, SqT.of upd_same, hG2⟩
          rw [eqs, List.length_map] at c4
          exact c4
end
end W

set_option Elab.async false
set_option linter.all false
set_option maxRecDepth 100000
set_option maxHeartbeats 1000000
namespace W
open PySem PySem.Spec PyProof.Rows L2 GxR MyG MyS SqX
def NamesOk (lo hi : Int) (ns : List Str) : Prop := lo ≤ ns.length ∧ (ns.length : Int) ≤ hi ∧ ns.all isNm = true ∧ ns.Nodup
def spNamesX (K : PySem.W.Frag) (C P : Addr) : Sp := fun vs H Q E => ∃ (a : Addr) (c : Bool) (ns : List Str) (lo hi : Int), vs = [.ref a, .int lo, .int hi] ∧ SqK c K H a (ns.map V.str) ∧ ns.length ≤ 1000 ∧ (∀ z ∈ ns, z.length ≤ 1000) ∧ lo.natAbs < 1000 ∧ hi.natAbs < 1000 ∧ TabG H P ∧
  (NamesOk lo hi ns → ∀ H' p ys, Grew P H H' → H p = none → H' p = some (.tup (ys.map V.str)) → ys.Perm ns → Asc ys → Q (.ref p) H') ∧ (¬ NamesOk lo hi ns → BadM C P H E)
/-- a road as it is given -/
structure RoadG where
  name : Str
  start : Str
  goal : Str
  minutes : Int
  users : List Str
  hours : Option (List (List Int))
def rG (r : RoadD) : RoadG := ⟨r.name, r.start, r.goal, r.minutes, r.users, hoursG r.hours⟩
def GRoadX (K : PySem.W.Frag) (H : Hp) (r : RoadG) (v : V) : Prop := ∃ (t u : Addr) (h : V) (c : Bool), v = .ref t ∧ SqT K H t [.str r.name, .str r.start, .str r.goal, .int r.minutes, .ref u, h] ∧ SqK c K H u (r.users.map V.str) ∧ GHoursX K H r.hours h
theorem GRoadX.grew {K : PySem.W.Frag} {P : Addr} {H H' : Hp} {r : RoadG} {v : V} (g : Grew P H H') (hP : TabG H P) (h : GRoadX K H r v) : GRoadX K H' r v := by
  obtain ⟨t, u, x, c, a, b, d, e⟩ := h
  exact ⟨t, u, x, c, a, g.sqT hP b, d.grew g hP, e.grew g hP⟩
/-- of a size that is told -/
structure SmallG (r : RoadG) : Prop where
  n : r.name.length ≤ 1000
  s : r.start.length ≤ 1000
  g : r.goal.length ≤ 1000
  m : r.minutes.natAbs < 10 ^ 12
  ul : r.users.length ≤ 1000
  u : ∀ z ∈ r.users, z.length ≤ 1000
  h : ∀ ps, r.hours = some ps → ps.length ≤ 1000
def RoadGOk (d : Int) (ps ks : List Str) (r : RoadG) : Prop := ∃ r0, r = rG r0 ∧ RoadOk d ps ks r0
def spRoadX (K : PySem.W.Frag) (C P : Addr) : Sp := fun vs H Q E => ∃ (x : V) (pl ki : Addr) (d : Int) (ps ks : List Str) (r : RoadG), vs = [x, .int d, .ref pl, .ref ki] ∧ GRoadX K H r x ∧ SmallG r ∧ SqT K H pl (ps.map V.str) ∧ SqT K H ki (ks.map V.str) ∧ ks.length ≤ 4 ∧ TabG H P ∧
  (∀ r0, r = rG r0 → RoadOk d ps ks r0 → ∀ H' p q h r', Grew P H H' → Kept r0 r' → H p = none → H' p = some (.tup [.str r'.name, .str r'.start, .str r'.goal, .int r'.minutes, .ref q, h]) → H' q = some (.tup (r'.users.map V.str)) → GHours K H' r'.hours h → Q (.ref p) H') ∧
  (¬ RoadGOk d ps ks r → BadM C P H E)
theorem inV_dec (z : Str) (xs : List Str) : inV (.str z) (xs.map V.str) = decide (z ∈ xs) := by
  by_cases h : z ∈ xs
  · rw [inV_str h, decide_eq_true h]
  · rw [decide_eq_false h]
    unfold inV
    rw [List.any_map, List.any_eq_false]
    intro y hy e
    have q : y = z := by simpa [eqV] using e
    exact h (q ▸ hy)
theorem nodup_sub_len {α : Type} : ∀ {l m : List α}, l.Nodup → (∀ x ∈ l, x ∈ m) → l.length ≤ m.length
  | [], m, _, _ => Nat.zero_le _
  | a :: l, m, nd, h => by
    obtain ⟨s, t, rfl⟩ := List.append_of_mem (h a List.mem_cons_self)
    have nd' := List.nodup_cons.mp nd
    have := nodup_sub_len (l := l) (m := s ++ t) nd'.2 fun x hx => by
      have hm := h x (List.mem_cons_of_mem _ hx)
      rcases List.mem_append.mp hm with q | q
      · exact List.mem_append_left _ q
      · rcases List.mem_cons.mp q with e | q
        · rw [e] at hx; exact absurd hx nd'.1
        · exact List.mem_append_right _ q
    simp only [List.length_append, List.length_cons] at this ⊢
    omega
section
variable {Pg : Program} {w : World} {K : PySem.W.Frag} {mg : Str → Option Value} {base : Heap} {C P : Addr}
theorem ok_namesX {f fN fD : Addr} {fd fdN fdD : FuncData} (F : Fun K "_checked_names" "_checked_names" sNames f fd) (T : TxtE mg K C) (hl : mg "len" = none) (ht : mg "tuple" = none) (hs : mg "sorted" = none)
    (GN : FnOk Pg w K mg base CX0 2 fN fdN ["text"] (spIsName P)) (gN : mg "is_name" = some (.ref fN)) (kN : PySem.W.keepIn K (.ref fN) = true) (bN : Binds K fdN ["text"] [])
    (GD : FnOk Pg w K mg base (L2.CX Pg w) 1 fD fdD ["parts"] (spDiffX K C P)) (gD : mg "_check_different" = some (.ref fD)) (kD : PySem.W.keepIn K (.ref fD) = true) (bD : Binds K fdD ["parts"] []) :
    FnOk Pg w K mg base (L2.CX Pg w) 3 f fd ["names", "least", "most"] (spNamesX K C P) := by
  refine F.okX scNames (fun vs H Q E h => ?_) (fun cdv A outer s H vs Q E hr h => ?_)
  · obtain ⟨a, c, ns, lo, hi, rfl, _⟩ := h
    rfl
  · obtain ⟨a, c, ns, lo, hi, rfl, hS, h1, hz, hlo9, hhi9, hP, kQ, kE⟩ := h
    have hr1 : Room 1 _ := hr.mono (by decide)
    refine ⟨_, pss_cons (ps_if (pt_not (pt_chain op_le op_le (pv 1) (pe_callB call_len_seq (by rfl) hl PySem.boot_len (pa_cons (pv 0) pa_nil)) (pv 2))) (pss_one (ps_raise rfl (takes_of rfl rfl rfl rfl) (SkE.pmk_own1 PySem.F.excBase_ValueError T.xC T.gC T.kC (raises_own T.bC T.tC) (by rfl)
          (pe_joined (PJ.cons pe_str (PJ.cons (pe_fmt (pv 1)) (PJ.cons pe_str (PJ.cons (pe_fmt (pv 2)) (PJ.cons pe_str (PJ.cons (pe_fmt (pe_callB call_len_seq (by rfl) hl PySem.boot_len (pa_cons (pv 0) pa_nil))) PJ.nil)))))))))) pss_nil)
      (pss_cons (ps_for (passes_of rfl) rfl (pi_sq (pv 0)) (pg_name (i := 3) scNames.nd rfl (Or.inl rfl))
        (pss_one (ps_if (pt_not (pt_val (pe_call GN (hr.mono (by decide)) (by rfl) gN kN bN .nil pass0 (pa_cons (pv 3) pa_nil)))) (pss_one (ps_raise rfl (takes_of rfl rfl rfl rfl) (SkE.pmk_own1 PySem.F.excBase_ValueError T.xC T.gC T.kC (raises_own T.bC T.tC) (by rfl) (pe_joined (PJ.cons pe_str (PJ.cons (pe_fmt (pv 3)) PJ.nil)))))) pss_nil)))
      (pss_cons (ps_expr (pe_call (E := E) GD hr1 (by rfl) gD kD bD .nil (passes_call (takes_of rfl rfl rfl rfl) (fun _ _ _ _ h => h)) (pa_cons (pv 0) pa_nil)))
      (pss_one (ps_ret (pe_callTy call_tuple_of (by rfl) ht (by decide +kernel) (pa_cons (pe_callB cr_sortSQ (by rfl) hs (by decide +kernel) (pa_cons (pv 0) pa_nil)) pa_nil)))))), ?_⟩
    have parts : ∀ t ∈ [tC (.str "not from "), tFmt (tVar 1), tC (.str " to "), tFmt (tVar 2), tC (.str " names: "), tFmt (tCB (fun xs H Q => ∃ p ys, xs = [V.ref p] ∧ (SqL K H p ys ∨ SqT K H p ys) ∧ Q (V.int ys.length) H) (tCons (tVar 0) tNil))], Short t [some (V.ref a), some (V.int lo), some (V.int hi), none] H := fun t ht => by
      simp only [List.mem_cons, List.not_mem_nil, or_false] at ht
      rcases ht with rfl | rfl | rfl | rfl | rfl | rfl
      · exact short_c (by decide +kernel)
      · exact short_n rfl (by omega)
      · exact short_c (by decide +kernel)
      · exact short_n rfl (by omega)
      · exact short_c (by decide +kernel)
      · exact short_i (n := (ns.length : Int)) (fun Q q => ⟨_, rfl, a, _, rfl, hS.any, by rw [List.length_map]; exact q⟩) (by omega)
    have bad : ¬ NamesOk lo hi ns → ∀ z : Str, E (.ref C) none H := fun h _ => (kE h).here hP
    refine ⟨_, rfl, _, rfl, a, _, rfl, hS.any, _, _, rfl, rfl, _, rfl, ?_⟩
    rw [List.length_map]
    by_cases q1 : lo ≤ ns.length
    case neg =>
      rw [decide_eq_false q1]
      refine iteF ⟨_, rfl, iteT ?_⟩
      exact tJs_ok (bad fun h => q1 h.1) 0 parts (Nat.zero_le _) (by show 0 + 1000 * 6 ≤ 100000; decide)
    refine if_t (decide_eq_true q1) ⟨_, rfl, _, _, rfl, rfl, _, rfl, ?_⟩
    by_cases q2 : (ns.length : Int) ≤ hi
    case neg =>
      rw [decide_eq_false q2]
      refine iteT ?_
      exact tJs_ok (bad fun h => q2 h.2.1) 0 parts (Nat.zero_le _) (by show 0 + 1000 * 6 ≤ 100000; decide)
    rw [decide_eq_true q2]
    refine iteF ⟨_, rfl, c, a, rfl, ⟨_, hS⟩, for_sq (K := K) (c := c) (a := a) (xs := ns.map V.str) (fun i σ H' => ∃ v, σ = [some (.ref a), some (.int lo), some (.int hi), v] ∧ Grew P H H' ∧ (ns.take i).all isNm = true)
      ⟨none, rfl, Grew.refl hP, by rw [List.take_zero]; rfl⟩ (fun i σ H' _ ⟨_, _, g, _⟩ => hS.grew g hP) ?_ ?_⟩
    · rintro i y σ H' hi ⟨v, rfl, g, hall⟩
      obtain ⟨z, hzi, rfl⟩ : ∃ z, ns[i]? = some z ∧ y = V.str z := by
        rw [List.getElem?_map] at hi
        obtain ⟨z, e1, e2⟩ := Option.map_eq_some_iff.mp hi
        exact ⟨z, e1, e2.symm⟩
      have hzl := hz z (List.mem_of_getElem? hzi)
      refine ⟨_, rfl, z, rfl, by rw [sizeLine_eq]; omega, g.tab, fun H2 t2 => ⟨_, rfl, ?_⟩⟩
      have g2 := g.trans (Grew.of t2)
      cases hn : isNm z with
      | true => exact iteF ⟨_, rfl, g2, by rw [List.take_succ, hzi, List.all_append, hall]; simp [hn]⟩
      | false =>
        refine iteT ?_
        refine tJs_ok (fun _ => kE (fun h => ?_) _ g2) 0 (fun t ht => ?_) (Nat.zero_le _) (by decide)
        · have := List.all_eq_true.mp h.2.2.1 z (List.mem_of_getElem? hzi)
          rw [hn] at this
          cases this
        · simp only [List.mem_cons, List.not_mem_nil, or_false] at ht
          rcases ht with rfl | rfl
          · exact short_c (by decide +kernel)
          · exact short_v rfl hzl
    · rintro σ H' ⟨v, rfl, g, hall⟩
      rw [List.length_map, List.take_length] at hall
      refine ⟨_, rfl, a, rfl, g.tab, .inl ⟨ns, (hS.grew g hP).any, h1, fun nd => ?_, fun nd => (kE fun h => nd h.2.2.2).on g⟩⟩
      refine ⟨_, rfl, a, ns, rfl, (hS.grew g hP).any, fun ys l hp hso hl => ⟨l, _, rfl, .inl ⟨SqL.of upd_same, fun p hp2 => ?_⟩⟩⟩
      have gl := g.put (o := .lst (ys.map V.str)) hl
      exact kQ ⟨q1, q2, hall, nd⟩ _ p ys (gl.put hp2) (gl.free hp2) upd_same hp hso
theorem ok_roadX {f fH fD : Addr} {fd fdH fdD : FuncData} {t1 : Tok} (F : Fun K "_checked_road" "_checked_road" sRoad f fd) (T : TxtE mg K C) (ht : mg "tuple" = none) (hs : mg "sorted" = none) (hm : mg "MOST_MINUTES" = some (.int 1000 t1))
    (GD : FnOk Pg w K mg base (L2.CX Pg w) 1 fD fdD ["parts"] (spDiffX K C P)) (gD : mg "_check_different" = some (.ref fD)) (kD : PySem.W.keepIn K (.ref fD) = true) (bD : Binds K fdD ["parts"] [])
    (GH : FnOk Pg w K mg base (L2.CX Pg w) 1 fH fdH ["hours", "day"] (spHoursX K C P)) (gH : mg "_checked_hours" = some (.ref fH)) (kH : PySem.W.keepIn K (.ref fH) = true) (bH : Binds K fdH ["hours", "day"] []) :
    FnOk Pg w K mg base (L2.CX Pg w) 2 f fd ["road", "day", "places", "kinds"] (spRoadX K C P) := by
  refine F.okX scRoad (fun vs H Q E h => ?_) (fun cdv A outer s H vs Q E hr h => ?_)
  · obtain ⟨x, pl, ki, d, ps, ks, r, rfl, _⟩ := h
    rfl
  · obtain ⟨x, pl, ki, d, ps, ks, r, rfl, ⟨t, u, h, c, rfl, hT, hU, hH⟩, sm, hPl, hKi, hk4, hP, kQ, kE⟩ := h
    refine ⟨_, pss_cons (ps_asg (pv 0) (pg_tup (by rfl) (pgs_cons (pg_name (i := 4) scRoad.nd rfl (.inl rfl)) (pgs_cons (pg_name (i := 5) scRoad.nd rfl (.inl rfl)) (pgs_cons (pg_name (i := 6) scRoad.nd rfl (.inl rfl))
        (pgs_cons (pg_name (i := 7) scRoad.nd rfl (.inl rfl)) (pgs_cons (pg_name (i := 8) scRoad.nd rfl (.inl rfl)) (pgs_cons (pg_name (i := 9) scRoad.nd rfl (.inl rfl)) pgs_nil))))))))
      (C8.pss_cut (ps_if (PW.pt (pw_or (pt_cmpR op_notIn_seq (pv 5) (pv 2) (by rfl)) (pw_or1 (pt_cmpR op_notIn_seq (pv 6) (pv 2) (by rfl))))) (pss_one (ps_raise rfl (takes_of rfl rfl rfl rfl) (SkE.pmk_own1 PySem.F.excBase_ValueError T.xC T.gC T.kC (raises_own T.bC T.tC) (by rfl) (pe_joined (PJ.cons pe_str (PJ.cons (pe_fmt (pv 4)) (PJ.cons pe_str PJ.nil))))))) pss_nil)
      (pss_cons (ps_if (pt_not (pt_chain op_le op_le pe_int (pv 7) (pe_gI hm))) (pss_one (ps_raise rfl (takes_of rfl rfl rfl rfl) (SkE.pmk_own1 PySem.F.excBase_ValueError T.xC T.gC T.kC (raises_own T.bC T.tC) (by rfl) (pe_joined (PJ.cons pe_str (PJ.cons (pe_fmt (pv 4)) (PJ.cons pe_str (PJ.cons (pe_fmt (pv 7)) (PJ.cons pe_str PJ.nil))))))))) pss_nil)
      (pss_cons (ps_for (passes_of rfl) rfl (pi_sq (pv 8)) (pg_name (i := 10) scRoad.nd rfl (Or.inl rfl)) (pss_one (ps_if (pt_cmpR op_notIn_seq (pv 10) (pv 3) (by rfl)) (pss_one (ps_raise rfl (takes_of rfl rfl rfl rfl) (SkE.pmk_own1 PySem.F.excBase_ValueError T.xC T.gC T.kC (raises_own T.bC T.tC) (by rfl) (pe_joined (PJ.cons pe_str (PJ.cons (pe_fmt (pv 4)) (PJ.cons pe_str (PJ.cons (pe_fmt (pv 10)) PJ.nil)))))))) pss_nil)))
      (pss_cons (ps_expr (pe_call (E := E) GD (hr.mono (by decide)) (by rfl) gD kD bD .nil (passes_call (takes_of rfl rfl rfl rfl) (fun _ _ _ _ h => h)) (pa_cons (pv 8) pa_nil)))
      (pss_one (ps_ret (pe_tup (pa_cons (pv 4) (pa_cons (pv 5) (pa_cons (pv 6) (pa_cons (pv 7) (pa_cons (pe_callTy call_tuple_of (by rfl) ht (by decide +kernel) (pa_cons (pe_callB cr_sortSQ (by rfl) hs (by decide +kernel) (pa_cons (pv 8) pa_nil)) pa_nil))
        (pa_cons (pe_call (E := E) GH (hr.mono (by decide)) (by rfl) gH kH bH .nil (passes_call (takes_of rfl rfl rfl rfl) (fun _ _ _ _ h => h)) (pa_cons (pv 9) (pa_cons (pv 1) pa_nil))) pa_nil))))))))))))), ?_⟩
    have bad : ¬ RoadGOk d ps ks r → E (.ref C) none H := fun h => (kE h).here hP
    refine ⟨_, rfl, t, _, rfl, hT, rfl, _, _, rfl, _, _, rfl, _, _, rfl, _, _, rfl, _, _, rfl, _, _, rfl, rfl, ?_⟩
    obtain ⟨S, eS⟩ : ∃ S : L2.St, S = [some (V.ref t), some (.int d), some (.ref pl), some (.ref ki), some (.str r.name), some (.str r.start), some (.str r.goal), some (.int r.minutes), some (.ref u), some h, none] := ⟨_, rfl⟩
    refine ⟨fun σ H' => σ = S ∧ H' = H ∧ r.start ∈ ps ∧ r.goal ∈ ps, ?_, ?_⟩
    · have parts : ∀ t ∈ [tC (.str "the road "), tFmt (tVar 4), tC (.str " does not lead from a place to a place")], Short t S H := fun t ht => by
        simp only [List.mem_cons, List.not_mem_nil, or_false] at ht
        rcases ht with rfl | rfl | rfl
        · exact short_c (by decide +kernel)
        · exact short_v (y := r.name) (by rw [eS]; rfl) sm.n
        · exact short_c (by decide +kernel)
      rw [eS] at parts
      refine ⟨_, rfl, _, rfl, pl, _, rfl, .inr hPl, rfl, flat_strs _, _, rfl, ?_⟩
      rw [inV_dec]
      by_cases q1 : r.start ∈ ps
      case neg =>
        refine if_t (by rw [decide_eq_false q1]; rfl) ?_
        exact tJs_ok (fun _ => bad fun ⟨r0, e, o⟩ => q1 (by rw [e]; exact o.s)) 0 parts (Nat.zero_le _) (by decide)
      refine if_f (by rw [decide_eq_true q1]; rfl) ?_
      refine ⟨_, rfl, _, rfl, pl, _, rfl, .inr hPl, rfl, flat_strs _, _, rfl, ?_⟩
      rw [inV_dec]
      by_cases q2 : r.goal ∈ ps
      case neg =>
        refine if_t (by rw [decide_eq_false q2]; rfl) ?_
        exact tJs_ok (fun _ => bad fun ⟨r0, e, o⟩ => q2 (by rw [e]; exact o.g)) 0 parts (Nat.zero_le _) (by decide)
      exact if_f (by rw [decide_eq_true q2]; rfl) ⟨eS.symm, rfl, q1, q2⟩
    rintro σ H' ⟨eσ, eH, hs1, hs2⟩
    rw [eσ, eS, eH]
    have parts : ∀ t ∈ [tC (.str "the road "), tFmt (tVar 4), tC (.str " cannot take "), tFmt (tVar 7), tC (.str " minutes")], Short t S H := fun t ht => by
      simp only [List.mem_cons, List.not_mem_nil, or_false] at ht
      rcases ht with rfl | rfl | rfl | rfl | rfl
      · exact short_c (by decide +kernel)
      · exact short_v (y := r.name) (by rw [eS]; rfl) sm.n
      · exact short_c (by decide +kernel)
      · exact short_n (n := r.minutes) (by rw [eS]; rfl) sm.m
      · exact short_c (by decide +kernel)
    rw [eS] at parts
    refine ⟨_, rfl, _, _, rfl, rfl, _, rfl, ?_⟩
    by_cases m1 : 1 ≤ r.minutes
    case neg =>
      rw [decide_eq_false m1]
      refine iteF ⟨_, rfl, iteT ?_⟩
      exact tJs_ok (fun _ => bad fun ⟨r0, e, o⟩ => m1 (by rw [e]; exact o.m1)) 0 parts (Nat.zero_le _) (by decide)
    refine if_t (decide_eq_true m1) ⟨_, _, rfl, rfl, _, rfl, ?_⟩
    by_cases m2 : r.minutes ≤ 1000
    case neg =>
      rw [decide_eq_false m2]
      refine iteT ?_
      exact tJs_ok (fun _ => bad fun ⟨r0, e, o⟩ => m2 (by rw [e]; exact o.m2)) 0 parts (Nat.zero_le _) (by decide)
    rw [decide_eq_true m2]
    refine iteF ?_
    refine ⟨_, rfl, c, u, rfl, ⟨_, hU⟩, for_sq (K := K) (c := c) (a := u) (xs := r.users.map V.str) (fun i σ H' => H' = H ∧ (∃ v, σ = [some (.ref t), some (.int d), some (.ref pl), some (.ref ki), some (.str r.name), some (.str r.start), some (.str r.goal), some (.int r.minutes), some (.ref u), some h, v]) ∧ ∀ z ∈ r.users.take i, z ∈ ks)
      ⟨rfl, ⟨none, rfl⟩, fun z hz => by rw [List.take_zero] at hz; cases hz⟩ (fun i σ H' _ ⟨e, _⟩ => by rw [e]; exact hU) ?_ ?_⟩
    · rintro i y σ H' hi ⟨rfl, ⟨v, rfl⟩, hin⟩
      obtain ⟨z, hzi, rfl⟩ : ∃ z, r.users[i]? = some z ∧ y = V.str z := by
        rw [List.getElem?_map] at hi
        obtain ⟨z, e1, e2⟩ := Option.map_eq_some_iff.mp hi
        exact ⟨z, e1, e2.symm⟩
      have hzm := List.mem_of_getElem? hzi
      refine ⟨_, rfl, _, rfl, ki, _, rfl, .inr hKi, rfl, flat_strs _, _, rfl, ?_⟩
      rw [inV_dec]
      by_cases q : z ∈ ks
      case neg =>
        refine if_t (by rw [decide_eq_false q]; rfl) ?_
        refine tJs_ok (fun _ => bad fun ⟨r0, e, o⟩ => q (o.u z (by rw [e] at hzm; exact hzm))) 0 (fun t ht => ?_) (Nat.zero_le _) (by decide)
        simp only [List.mem_cons, List.not_mem_nil, or_false] at ht
        rcases ht with rfl | rfl | rfl | rfl
        · exact short_c (by decide +kernel)
        · exact short_v (y := r.name) rfl sm.n
        · exact short_c (by decide +kernel)
        · exact short_v (y := z) rfl (sm.u z hzm)
      refine if_f (by rw [decide_eq_true q]; rfl) ⟨rfl, ⟨_, rfl⟩, fun x hx => ?_⟩
      rw [List.take_succ, hzi] at hx
      rcases List.mem_append.mp hx with hx | hx
      · exact hin x hx
      · rw [List.mem_singleton.mp hx]; exact q
    · rintro σ H' ⟨rfl, ⟨v, rfl⟩, hin⟩
      rw [List.length_map, List.take_length] at hin
      refine ⟨_, rfl, u, rfl, hP, .inl ⟨r.users, hU.any, sm.ul, fun nd => ?_, fun nd => kE fun ⟨r0, e, o⟩ => nd (by rw [e]; exact o.ud)⟩⟩
      have un : r.users.length ≤ 4 := Nat.le_trans (nodup_sub_len nd hin) hk4
      refine ⟨_, rfl, _, rfl, _, rfl, _, rfl, _, rfl, u, r.users, rfl, hU.any, fun ys l hp hso hl => ⟨l, _, rfl, .inl ⟨SqL.of upd_same, fun q hq => ?_⟩⟩⟩
      have gl := Grew.new hP (o := .lst (ys.map V.str)) hl
      have gq := gl.put (o := .tup (ys.map V.str)) hq
      refine ⟨_, rfl, _, rfl, d, r.hours, h, rfl, hH.grew gq hP, sm.h, gq.tab, fun hh ehh okh H2 v' g2 hv => ⟨by show 6 ≤ sizeLine; decide, fun p hp2 => ?_⟩, fun nh => (kE fun ⟨r0, e, o⟩ => nh ⟨r0.hours, by rw [e]; rfl, o.h⟩).on gq⟩
      have g3 := gq.trans g2
      have gp := g3.put (o := .tup [.str r.name, .str r.start, .str r.goal, .int r.minutes, .ref q, v']) hp2
      have e2 : H2 q = some (.tup (ys.map V.str)) := g2.tup gq.tab upd_same
      have er : r = rG ⟨r.name, r.start, r.goal, r.minutes, r.users, hh⟩ := by
        unfold rG
        rw [← ehh]
      exact kQ ⟨r.name, r.start, r.goal, r.minutes, r.users, hh⟩ er ⟨hs1, hs2, m1, m2, hin, un, nd, okh⟩ _ p q v' ⟨r.name, r.start, r.goal, r.minutes, ys, hh⟩ gp ⟨rfl, rfl, rfl, rfl, rfl, hp, hso⟩ (g3.free hp2) upd_same (by rw [upd_ne (ne_of_none e2 hp2)]; exact e2) (hv.keep (KeepT.new hp2))
end
end W

set_option Elab.async false
set_option linter.all false
set_option maxRecDepth 100000
set_option maxHeartbeats 2000000
/-! a comprehension whose element (or test) may let an exception out -/
namespace CpX
open PySem PySem.Spec PyProof.Rows L2
/-- what a block lets out: an exception over the frames, and the block's own state without it -/
def OutB (X : Cx) (s : Shared) (H : Hp) (scope : Scope) (ce : Env) (fp : List Addr) (E : XK) (u : Value) (s' : Shared) : Prop :=
  ∃ (a : Addr) (B : Heap) (sI : Shared) (pb : List (Addr × Obj)) (σb : L2.St) (H' : Hp) (cls : Value) (d : Option Addr), u = .ref a ∧ Inv (X.blk s H scope ce fp) pb σb H' sI ∧ (∀ b o, sI.heap.get? b = some o → b ∉ frs X.stack → B.get? b = some o) ∧
    sI.heap.UpToSlots s'.heap ∧ HandSPX.FlyingZ B X.stack a (Zc cls d) s'.heap ∧ H' a = none ∧ s'.os = sI.os ∧ AllBare s'.gens ∧ E cls d H'
/-- the block with its wish -/
abbrev blkE (X : Cx) (E : XK) (s : Shared) (H : Hp) (scope : Scope) (ce : Env) (fp : List Addr) : Cx := (X.blk s H scope ce fp).wish (OutB X s H scope ce fp E)
/-- what a call lets out, over the state at the call without the exception's objects -/
theorem fly_of {X : Cx} {pins : List (Addr × Obj)} {σ : L2.St} {H : Hp} {s s' : Shared} {E : XK} {u : Value} (I : Inv X pins σ H s) (c : L2.CX X.prog X.w X.stack H s E u s') :
    ∃ (a : Addr) (B : Heap) (sI : Shared) (H' : Hp) (cls : Value) (d : Option Addr), u = .ref a ∧ Inv X pins σ H' sI ∧ (∀ b o, sI.heap.get? b = some o → b ∉ frs X.stack → B.get? b = some o) ∧ sI.heap.UpToSlots s'.heap ∧ HandSPX.FlyingZ B X.stack a (Zc cls d) s'.heap ∧ H' a = none ∧ s'.os = sI.os ∧ AllBare s'.gens ∧ E cls d H' := by
  obtain ⟨a, B, H', cls, d, rfl, fl, hok, ub, na, os, ag, hE⟩ := c
  obtain ⟨G, in1, out1⟩ := restrict s'.heap fun b => decide (b ∈ frs X.stack) || (B.get? b).isSome
  have here : ∀ b o, G.get? b = some o → s'.heap.get? b = some o ∧ (b ∈ frs X.stack ∨ (B.get? b).isSome = true) := fun b o e => by
    by_cases q : (decide (b ∈ frs X.stack) || (B.get? b).isSome) = true
    · rw [in1 b q] at e
      rw [Bool.or_eq_true, decide_eq_true_iff] at q
      exact ⟨e, q⟩
    · rw [out1 b (by simpa using q)] at e
      cases e
  have low : ∀ b o, B.get? b = some o → G.get? b = some o := fun b o e => (in1 b (by rw [e]; simp)).trans (fl.1 b o e)
  have frm : ∀ b, b ∈ frs X.stack → G.get? b = s'.heap.get? b := fun b hb => in1 b (by rw [decide_eq_true hb]; rfl)
  have un : Un (frs X.stack) [] H H' s.heap G := by
    refine ⟨fun b o e n hb _ => low b o (ub.keep b o e n hb), fun b o e _ hb _ => ?_, fun b o e n _ => ub.free b o e n, fun b o e _ => ?_, ub.tups, ub.frzs, ub.tbls⟩
    · obtain ⟨sl, q⟩ := ub.slot b o e hb
      exact ⟨sl, (frm b hb).trans q⟩
    · by_cases hb : b ∈ frs X.stack
      · obtain ⟨sl, q⟩ := ub.slot b o e hb
        exact ⟨_, (frm b hb).trans q⟩
      · obtain ⟨o', q⟩ := ub.there b o e hb
        exact ⟨o', low b o' q⟩
  have J := I.call (g' := s'.gens) (d' := s'.drawn) (t' := s'.toks) un (hok.kept low) ag (fun _ z => nomatch z)
  refine ⟨a, B, _, H', cls, d, rfl, J, fun b o e hb => ?_, fun b o e _ => ⟨o.slots, (here b o e).1⟩, fl, na, os, ag, hE⟩
  obtain ⟨e1, e2⟩ := here b o e
  rcases e2 with h | h
  · exact absurd h hb
  · obtain ⟨o', q⟩ := Option.isSome_iff_exists.mp h
    have z := fl.1 b o' q
    rw [e1] at z
    cases z
    exact q
/-- what a call in the block may let out -/
theorem passB {X : Cx} {E : XK} {s : Shared} {H : Hp} {scope : Scope} {ce : Env} {fp : List Addr} {Pg : Program} {w : World} (hP : X.prog = Pg) (hw : X.w = w) : Passes (L2.CX Pg w) (blkE X E s H scope ce fp) E := by
  subst hP hw
  intro pins σ Hc sc u s' I c
  obtain ⟨a, B, sI, H', cls, d, e, J, nb, up, fl, na, os, ag, hE⟩ := fly_of (X := X.blk s H scope ce fp) I.unwish c
  exact ⟨a, B, sI, pins, σ, H', cls, d, e, J, nb, up, fl, na, os, ag, hE⟩
theorem note_same {x : Value} {ce env : Env} (h : ce.frame = env.frame) : noteFrame x ce = noteFrame x env := by
  unfold noteFrame PySem.frameOf
  rw [h]
theorem ns_up {h h' : Heap} {a : Addr} {m : Str → Option Value} (n : h.Ns a m) (u : h.UpToSlots h') : h'.Ns a m := by
  obtain ⟨o, es, ep, ho, hd, r⟩ := n
  obtain ⟨sl, q⟩ := u a o ho (fun vs z => by rw [hd] at z; cases z)
  exact ⟨_, es, ep, q, hd, r⟩
theorem fun_at {base B h h' : Heap} (nn : ∀ b, base.get? b = none → B.get? b = none) : ∀ {l : List Env}, h.FunFrames base l → (∀ b ∈ frs l, h'.get? b = h.get? b) → h'.FunFrames B l
  | [], _, _ => trivial
  | e :: l, ⟨hk, ⟨L, o, hf, nb, ho, hd⟩, hr⟩, k => ⟨hk, ⟨L, o, hf, nn L nb, (k L (List.mem_filterMap.mpr ⟨e, List.mem_cons_self, hf⟩)).trans ho, hd⟩, fun_at nn hr fun b hb => k b (by
      obtain ⟨e2, m, q⟩ := List.mem_filterMap.mp hb
      exact List.mem_filterMap.mpr ⟨e2, List.mem_cons_of_mem _ m, q⟩)⟩
/-- the exception leaves the block: noted, the block's names let go, on in the def's frame -/
theorem leaves_block {X : Cx} {E : XK} {pins : List (Addr × Obj)} {σ : L2.St} {s : Shared} {H : Hp} {scope : Scope} {ce : Env} {fp : List Addr} {u : Value} {s' : Shared} {use : Option (Value → Sem Unit)} {Qf : Value → Shared → Prop} {acc : Value}
    (hs : X.stack = X.env :: X.outer) (hf : X.env.frame = some X.env.locals) (tk : Takes X (fun cls d _ H => E cls d H)) (I : Inv X pins σ H s) (hl : ce.locals = s.heap.objs.size) (hfr : ce.frame = X.env.frame)
    (hfp : ∀ b ∈ fp, FpOk X pins H b) (x : OutB X s H scope ce fp E u s') :
    notedBy (model X.prog X.w) X.A ce (fun e s'' => compEnds (model X.prog X.w) X.A X.xe use Qf acc ce (.error e) s'') u s' := by
  obtain ⟨a, B, sI, pb, σb, H', cls, d, rfl, J, nb, up, fl, na, os, ag, hE⟩ := x
  have frA : X.A.frames = some (X.env :: X.outer) := by rw [I.ok.frames, hs]
  show wpAny _ _ (noteFrame (.ref a) ce) _ _ _
  rw [note_same hfr]
  rw [hs] at fl
  refine HandSPX.looks_onZ Zc.steady frA hf fl fun h1 held up1 => ?_
  obtain ⟨m, nsI, _⟩ := J.loc
  have ns1 := ns_up (ns_up nsI up) up1
  have ends : CompFails (model X.prog X.w) X.A X.xe ce (.ref a) { s' with heap := h1 } := by
    refine ⟨m, ns1, fun h2 m2 ns2 same => ?_⟩
    obtain ⟨k1, k2, k3, oe, vs, T, oT, ts, he, hz, hd, hv, hnT, hTe, hT, hdT, h3⟩ := held
    have dict1 : ∃ o es ep, h1.get? ce.locals = some o ∧ o.data = .dict es ep := by
      obtain ⟨o, es, ep, ho, hdo, _⟩ := ns1
      exact ⟨o, es, ep, ho, hdo⟩
    obtain ⟨oc, es, ep, hoc, hdc⟩ := dict1
    have neA : a ≠ ce.locals := fun z => by
      rw [z, hoc] at he
      cases he
      rw [hd] at hdc
      cases hdc
    have neT : T ≠ ce.locals := fun z => by
      rw [z, hoc] at hT
      cases hT
      rw [hdT] at hdc
      cases hdc
    have neF : ∀ b ∈ frs X.stack, b ≠ ce.locals := fun b hb z => by
      obtain ⟨_, o, e, _⟩ := I.stack.mem hb
      have := Heap.lt_size e
      rw [z, hl] at this
      exact absurd this (Nat.lt_irrefl _)
    have hid : ∀ b o, (PySem.W.hideAll B [ce.locals]).get? b = some o → B.get? b = some o ∧ b ≠ ce.locals := fun b o e => by
      refine ⟨PySem.W.of_hideAll _ e, fun z => ?_⟩
      have q := PySem.W.of_hideAll _ e
      rw [PySem.W.hideAll_none _ (List.mem_singleton.mpr z)] at e
      cases e
    have none2 : ∀ b, B.get? b = none → (PySem.W.hideAll B [ce.locals]).get? b = none := fun b n => by
      cases q : (PySem.W.hideAll B [ce.locals]).get? b with
      | none => rfl
      | some o => rw [(hid b o q).1] at n; cases n
    have held2 : HandSPX.HeldZ (PySem.W.hideAll B [ce.locals]) (X.env :: X.outer) a (Zc cls d) X.env.locals h2 := by
      refine ⟨fun b o e => ?_, none2 a k2, ?_, oe, vs, T, oT, ts, (same.2 a neA).trans he, hz, hd, hv, none2 T hnT, hTe, (same.2 T neT).trans hT, hdT, h3⟩
      · obtain ⟨e1, n1⟩ := hid b o e
        exact (same.2 b n1).trans (k1 b o e1)
      · rw [← hs] at k3 ⊢
        exact fun_at none2 k3 fun b hb => same.2 b (neF b hb)
    -- the state of the def, without the block's names
    have un : Un (frs X.stack) fp H H' s.heap (PySem.W.hideAll sI.heap [ce.locals]) := by
      have at_ : ∀ b o, s.heap.get? b = some o → (PySem.W.hideAll sI.heap [ce.locals]).get? b = sI.heap.get? b := fun b o e => by
        have lt := Heap.lt_size e
        have nb : b ∉ [ce.locals] := fun z => by
          rw [List.mem_singleton.mp z, hl] at lt
          exact absurd lt (Nat.lt_irrefl _)
        cases q : sI.heap.get? b with
        | some o2 => exact PySem.W.hideAll_get _ q nb
        | none =>
          cases q2 : (PySem.W.hideAll sI.heap [ce.locals]).get? b with
          | none => rfl
          | some o2 => rw [PySem.W.of_hideAll _ q2] at q; cases q
      have bs : Un (frs X.stack) fp H H' s.heap sI.heap := J.base
      refine ⟨fun b o e n hb hx => (at_ b o e).trans (bs.keep b o e n hb hx), fun b o e n hb hx => ?_, bs.free, fun b o e hx => ?_, bs.tups, bs.frzs, bs.tbls⟩
      · obtain ⟨sl, q⟩ := bs.slot b o e n hb hx
        exact ⟨sl, (at_ b o e).trans q⟩
      · obtain ⟨o2, q⟩ := bs.there b o e hx
        exact ⟨o2, (at_ b o e).trans q⟩
    have cNone : H' ce.locals = none := J.free
    have hok2 : HOk X.prog X.w H' (PySem.W.hideAll sI.heap [ce.locals]) := fun b o q => (J.hok b o q).stay (fun c w hc r => PySem.W.hideAll_get _ r fun z => by
      rw [List.mem_singleton.mp z] at hc
      rcases hc with hc | hc
      · rw [← hc, cNone] at q; cases q
      · rw [cNone] at hc; cases hc) (fun _ r => r) fun _ _ r => r
    have I2 : Inv X pins σ H' { sI with heap := PySem.W.hideAll sI.heap [ce.locals] } := I.call' (ch := fp) J.os un hok2 J.bare fun b hb => ⟨(hfp b hb).2.2.2.1, (hfp b hb).2.1, (hfp b hb).2.2.2.2.1, (hfp b hb).2.2.2.2.2⟩
    have up2 : (PySem.W.hideAll sI.heap [ce.locals]).UpToSlots h2 := fun b o e hn => by
      have e1 := PySem.W.of_hideAll _ e
      have nb : b ≠ ce.locals := fun z => by
        rw [PySem.W.hideAll_none _ (List.mem_singleton.mpr z)] at e
        cases e
      obtain ⟨sl, q⟩ := (up.trans up1) b o e1 hn
      exact ⟨sl, (same.2 b nb).trans q⟩
    have nb2 : ∀ b o, (PySem.W.hideAll sI.heap [ce.locals]).get? b = some o → b ∉ frs X.stack → (PySem.W.hideAll B [ce.locals]).get? b = some o := fun b o e hb => by
      have e1 := PySem.W.of_hideAll _ e
      have nc : b ∉ [ce.locals] := fun z => by
        rw [PySem.W.hideAll_none _ z] at e
        cases e
      exact PySem.W.hideAll_get _ (nb b o e1 hb) nc
    obtain ⟨_, _, _, oe2, vs2, T2, _, _, he2, _, hd2, hv2, _⟩ := id held2
    unfold PySem.passOn
    refine wpAny_bind (wpAny_field he2 hd2 hv2 ?_)
    rw [if_neg (show ¬ ((Value.ref T2 == Value.none) = true) from by simp)]
    have fin : wpAny (model X.prog X.w) X.A (setFlight (.ref a) ce.frame) (fun _ s4 => wpAny (model X.prog X.w) X.A (throw (.ref a) : Sem Value) (fun _ _ => False) X.xe s4) X.xe { s' with heap := h2 } := by
      rw [hfr, hf]
      refine HandSPX.setFlight_onZ held2 fun h4 held4 up4 => wpAny_throw (tk _ _ ?_)
      exact ⟨a, _, _, pins, σ, H', cls, d, rfl, I2, nb2, up2.trans up4, .inr (.inr (by rw [hs]; exact held4)), na, os, ag, hE⟩
    first
      | exact wpAny_bind (wpAny_pure (wpAny_bind fin))
      | exact wpAny_bind fin
  cases use <;> exact ends
section
variable {X : Cx}
theorem core {E : XK} {pins : List (Addr × Obj)} {s : Shared} {σ : L2.St} {H : Hp} {Q : VK} {elt tg iter : Expr} {ifs : List Expr} {scope : Scope} {own : List (Str × Nat)} {pos pos' : Pos} {wi : TI} {g : TG} {tt : TT} {te : TE} {use : Option (Value → Sem Unit)} {Qf : Value → Shared → Prop}
    (hs : X.stack = X.env :: X.outer) (hf : X.env.frame = some X.env.locals) (tk : Takes X (fun cls d _ H => E cls d H)) (hc : X.calm = true) (hN : X.N.Nodup) (I : Inv X pins σ H s) (hi : PI X tg iter wi) (ok : BlkOk X.N X.env.scope scope own)
    (hg : ∀ (s : Shared) (H : Hp) (C : Addr) (cl : List (Str × Addr)) (fp : List Addr), PG (blkE X E s H scope (compEnvC scope cl C X.env) fp) tg g)
    (ht : ∀ (s : Shared) (H : Hp) (C : Addr) (cl : List (Str × Addr)) (fp : List Addr), PTs (blkE X E s H scope (compEnvC scope cl C X.env) fp) ifs tt)
    (he : ∀ (s : Shared) (H : Hp) (C : Addr) (cl : List (Str × Addr)) (fp : List Addr), PE (blkE X E s H scope (compEnvC scope cl C X.env) fp) elt te) (hset : ∀ x, foldedSetIterable iter X.env x = pure x)
    (h : tLc wi g tt te (own.map (·.2)) σ H Q)
    (done : ∀ N ce s' m H', Inv X pins σ H' s' → Q (.ref N) H' → s'.heap.Ns ce.locals m → FpOk X pins H' ce.locals → compEnds (model X.prog X.w) X.A X.xe use Qf (.ref N) ce (.ok .next) s') :
    wpAny (model X.prog X.w) X.A (comprehension (.ListComp elt [⟨tg, iter, ifs, 0⟩] scope pos) scope X.env pos' (newList []) false (eval iter X.env) use) Qf X.xe s := by
  have frees : ∀ y ∈ scope.names, y.2 = .free → ∃ c, X.env.cells.lookup y.1 = some c := fun y hy e => I.ok.has _ (ok.free y hy e)
  refine comprehension_at (use := use) rfl hset (closure_ok frees) ok.kind (fun y hy e => (ok.uniq y hy).trans (congrArg some e))
    (thn (hi.run pins s σ H _ I h) fun xv s1 hx => thn hx fun itv s2 h2 => ?_)
  obtain ⟨it, fp, tn, J, H2, rfl, I2, T, st2, f2, q⟩ := h2
  refine wpAny_newObj_type (newEnv_comp ?_) (by show 0 ≤ sizeLine; decide)
  generalize hD : s2.heap.objs.size = N
  have hDn : H2 N = none := I2.hok.fresh (Nat.le_of_eq hD)
  obtain ⟨W, ⟨m0, w0⟩, turn⟩ := q N hDn
  generalize hs3 : ({ s2 with heap := s2.heap.push { cls := .type "list", data := .seq ([] : List Value).toArray } } : Shared) = sN
  have h3 : sN.heap = s2.heap.push { cls := .type "list", data := .seq ([] : List Value).toArray } := by rw [← hs3]
  have IN : Inv X pins σ (upd H2 N (.lst [])) sN := by
    rw [← hs3]
    exact I2.laid (t' := s2.toks) (fun b o e => Heap.get?_push_of_some _ e) (Nat.le_of_eq hD) ⟨Nat.zero_le _, [], 0, .nil, by rw [← hD]; exact Heap.get?_push_size _ rfl⟩
  have fN : ∀ b ∈ fp, FpOk X pins (upd H2 N (.lst [])) b ∧ b < sN.heap.objs.size := fun b hb => by
    obtain ⟨o, e, _⟩ := T.obj _ _ st2 b hb
    have lt := Heap.lt_size e
    refine ⟨⟨?_, (f2 b hb).2⟩, by rw [h3, Heap.size_push]; exact Nat.lt_succ_of_lt lt⟩
    rw [upd_ne (by rw [← hD]; exact Nat.ne_of_lt lt)]
    exact (f2 b hb).1
  have stN : tn 0 sN.heap := T.keep _ _ _ st2 fun b _ o e => by rw [h3]; exact Heap.get?_push_of_some _ e
  have IB := block_start IN ok hN fN
  have pg := hg sN (upd H2 N (.lst [])) sN.heap.objs.size (cellsFrom (sN.heap.objs.size + 1) scope.names (cloFrom X.env.cells scope.names [])) fp
  have pt := ht sN (upd H2 N (.lst [])) sN.heap.objs.size (cellsFrom (sN.heap.objs.size + 1) scope.names (cloFrom X.env.cells scope.names [])) fp
  have pe := he sN (upd H2 N (.lst [])) sN.heap.objs.size (cellsFrom (sN.heap.objs.size + 1) scope.names (cloFrom X.env.cells scope.names [])) fp
  show codeAny _ _ (.compStart (.ListComp elt [⟨tg, iter, ifs, 0⟩] scope pos) 0 (.ref it) (.ref N) (compEnvC scope (cellsFrom (sN.heap.objs.size + 1) scope.names (cloFrom X.env.cells scope.names [])) sN.heap.objs.size X.env)) (compEnds (model X.prog X.w) X.A X.xe use Qf (.ref N) (compEnvC scope (cellsFrom (sN.heap.objs.size + 1) scope.names (cloFrom X.env.cells scope.names [])) sN.heap.objs.size X.env)) { sN with heap := pushCells (sN.heap.push { cls := .type "dict", data := .dict #[] }) scope.names }
  have nfp : ∀ b ∈ fp, (upd H2 N (.lst [])) b = none := fun b hb => (fN b hb).1.1
  generalize hce : compEnvC scope (cellsFrom (sN.heap.objs.size + 1) scope.names (cloFrom X.env.cells scope.names [])) sN.heap.objs.size X.env = ce at IB pg pt pe ⊢
  have cL : ce.locals = sN.heap.objs.size := by subst hce; rfl
  have cF : ce.frame = X.env.frame := by subst hce; rfl
  generalize hH3 : upd H2 N (.lst []) = HN at IN IB pg pt pe w0 nfp fN
  generalize hs4 : ({ sN with heap := pushCells (sN.heap.push { cls := .type "dict", data := .dict #[] }) scope.names } : Shared) = sB at IB ⊢
  have stB : tn 0 sB.heap := T.keep _ _ _ stN fun b _ o e => by rw [← hs4]; exact pushCells_keeps _ _ _ _ (Heap.get?_push_of_some _ e)
  have lv : ∀ {u : Value} {s' : Shared}, OutB X sN HN scope ce fp E u s' → notedBy (model X.prog X.w) X.A ce (fun e s'' => compEnds (model X.prog X.w) X.A X.xe use Qf (.ref N) ce (.error e) s'') u s' := fun x =>
    leaves_block hs hf tk IN cL cF (fun b hb => (fN b hb).1) x
  have stat : ∀ {σ' : L2.St} {H' : Hp} {s' : Shared}, Inv (X.blk sN HN scope ce fp) [] σ' H' s' → (∀ b ∈ fp, H' b = none) → ∀ b ∈ fp, FpOk (X.blk sN HN scope ce fp) [] H' b := fun I' hn b hb =>
    ⟨hn b hb, (I'.ok.exf b hb).1, I'.ok.exfs b hb, .inl hb, fun x c e => (I'.ok.exf b hb).2 x c e, fun p hp => absurd (show p ∈ ([] : List (Addr × Obj)) ++ [] from hp) (by simp)⟩
  have loop : codeAny (model X.prog X.w) X.A (.compLoop (.ListComp elt [⟨tg, iter, ifs, 0⟩] scope pos) 0 (.ref it) (.ref N) ce) (compEnds (model X.prog X.w) X.A X.xe use Qf (.ref N) ce) sB := by
    refine compLoop_any (fun n s' => ∃ i H', Inv (X.blk sN HN scope ce fp) [] (wipe σ (own.map (·.2))) H' s' ∧ tn i s'.heap ∧ (∀ b ∈ fp, H' b = none) ∧ W i n H') ?_ m0 ⟨0, HN, IB, stB, nfp, w0⟩
    rintro n s5 ⟨i, H5, I5, st5, n5, w5⟩
    rcases turn i n H5 w5 with ⟨stop, qq⟩ | ⟨go, Nx, hNx, step⟩
    · have td := T.done (X.blk sN HN scope ce fp) rfl rfl rfl hc i [] s5 _ H5 (fun _ _ => False) I5 (stat I5 n5) st5 stop
      refine thnF td fun r s6 ⟨hr, I6⟩ => ?_
      subst hr
      have I7 : Inv X pins σ H5 s6 := IN.call' (ch := fp) I6.os I6.base I6.hok I6.bare fun b hb => ⟨(fN b hb).1.2.2.2.1, (fN b hb).1.2.1, (fN b hb).1.2.2.2.2.1, (fN b hb).1.2.2.2.2.2⟩
      have nC : H5 ce.locals = none := I6.free
      obtain ⟨m, hn, _⟩ := I6.loc
      exact done N ce s6 m H5 I7 qq hn (IN.fpOk (Nat.le_of_eq cL.symm) nC)
    · have ti := T.item (X.blk sN HN scope ce fp) rfl rfl rfl hc i [] s5 _ H5 (fun _ _ => False) I5 (stat I5 n5) st5 go
      refine thnF ti fun r s6 ⟨u, hr, h6⟩ => ?_
      subst hr
      refine thnF h6 fun _ s7 ⟨x, H7, I7, r7, y7, st7, n7⟩ => ?_
      have I7' := I7.pinned (stat I7 n7) (T.obj _ _ st7)
      refine wpAny_mono (pg.run _ s7 _ H7 x u _ (I7'.wish _) r7 (step x H7 y7)) (fun _ s8 ⟨σ8, H8, I8, hw8, q8⟩ => ?_) fun _ _ x => lv x
      refine wpAny_mono (pt.run _ s8 σ8 H8 _ I8 q8) (fun b s9 ⟨H9, I9, q9⟩ => ?_) fun _ _ x => lv x
      have fin : ∀ {s' : Shared} {H' : Hp}, Inv (X.blk sN HN scope ce fp) ([] ++ pinsAt fp s7.heap) σ8 H' s' → Nx H' → ∃ m, m < n ∧ ∃ i H', Inv (X.blk sN HN scope ce fp) [] (wipe σ (own.map (·.2))) H' s' ∧ tn i s'.heap ∧ (∀ b ∈ fp, H' b = none) ∧ W i m H' := fun {s' H'} I' nx => by
        obtain ⟨m', hm, w'⟩ := hNx H' nx
        have pin' : ∀ b ∈ fp, ∀ o, s7.heap.get? b = some o → s'.heap.get? b = some o ∧ H' b = none := fun b hb o e => by
          have z := I'.pin (b, o) (List.mem_append_right _ (List.mem_append_right _ (mem_pinsAt hb e)))
          exact ⟨z.1, z.2.1⟩
        have hl : (wipe σ (own.map (·.2))).length = σ8.length := by rw [← hw8, wipe_length]
        refine ⟨m', hm, i + 1, H', (I'.unpinned (pins := [])).weak hl (fun j v e => ?_), T.keep _ _ _ st7 fun b hb o e => (pin' b hb o e).1, fun b hb => ?_, w'⟩
        · rw [← hw8] at e; exact (wipe_some e).1
        · obtain ⟨o, e, _⟩ := T.obj _ _ st7 b hb; exact (pin' b hb o e).2
      cases b with
      | false =>
        simp only [Bool.false_eq_true, if_false] at q9 ⊢
        exact fin I9.unwish q9
      | true =>
        simp only [if_true] at q9 ⊢
        refine wpAny_mono (pe.run _ s9 σ8 H9 _ I9 q9) (fun z s10 ⟨yv, H10, I10, r10, acc, hD10, hz10, nx⟩ => ?_) fun _ _ x => lv x
        exact app_ok (X := X.blk sN HN scope ce fp) I10.unwish hD10 hz10 r10 fun s11 I11 => fin I11 nx
  exact codeAny_compStart_list loop (T.self X.A 0 _ _ _ stB loop)
/-- as a value -/
theorem pe_lcX {E : XK} {elt tg iter : Expr} {ifs : List Expr} {scope : Scope} {own : List (Str × Nat)} {pos : Pos} {wi : TI} {g : TG} {tt : TT} {te : TE} (hs : X.stack = X.env :: X.outer) (hf : X.env.frame = some X.env.locals) (tk : Takes X (fun cls d _ H => E cls d H)) (hc : X.calm = true) (hN : X.N.Nodup) (hi : PI X tg iter wi) (ok : BlkOk X.N X.env.scope scope own)
    (hg : ∀ (s : Shared) (H : Hp) (C : Addr) (cl : List (Str × Addr)) (fp : List Addr), PG (blkE X E s H scope (compEnvC scope cl C X.env) fp) tg g)
    (ht : ∀ (s : Shared) (H : Hp) (C : Addr) (cl : List (Str × Addr)) (fp : List Addr), PTs (blkE X E s H scope (compEnvC scope cl C X.env) fp) ifs tt)
    (he : ∀ (s : Shared) (H : Hp) (C : Addr) (cl : List (Str × Addr)) (fp : List Addr), PE (blkE X E s H scope (compEnvC scope cl C X.env) fp) elt te) (hset : ∀ x, foldedSetIterable iter X.env x = pure x := by intro _; rfl) :
    PE X (.ListComp elt [⟨tg, iter, ifs, 0⟩] scope pos) (tLc wi g tt te (own.map (·.2))) := by
  refine ⟨fun pins s σ H Q I h => ?_⟩
  rw [eval_ListComp]
  refine core hs hf tk hc hN I hi ok hg ht he hset h fun N ce s' m H' I' q hn f => ⟨m, hn, fun h'' sb => ?_⟩
  obtain ⟨f0, f1, f2, f3, f4, f5⟩ := f
  exact ⟨.ref N, H', I'.turned (t' := s'.toks) (fun b o hb e => (sb.2 b hb).trans e) f0 f1 f3 f4 f5, rfl, q⟩
/-- given to a local on one row -/
theorem ps_setLcX {E : XK} {i : Nat} {y : Str} {py : Pos} {elt tg iter : Expr} {ifs : List Expr} {scope : Scope} {own : List (Str × Nat)} {pos spos : Pos} {wi : TI} {g : TG} {tt : TT} {te : TE} (hs : X.stack = X.env :: X.outer) (hf : X.env.frame = some X.env.locals) (tk : Takes X (fun cls d _ H => E cls d H)) (hc : X.calm = true) (hN : X.N.Nodup) (hy : X.N[i]? = some y) (hyl : X.env.scope.names.lookup y = some .local)
    (hsw : swapsWith (.ListComp elt [⟨tg, iter, ifs, 0⟩] scope pos) (some (.Name y py)) spos.line X.env = pure true) (hi : PI X tg iter wi) (ok : BlkOk X.N X.env.scope scope own)
    (hg : ∀ (s : Shared) (H : Hp) (C : Addr) (cl : List (Str × Addr)) (fp : List Addr), PG (blkE X E s H scope (compEnvC scope cl C X.env) fp) tg g)
    (ht : ∀ (s : Shared) (H : Hp) (C : Addr) (cl : List (Str × Addr)) (fp : List Addr), PTs (blkE X E s H scope (compEnvC scope cl C X.env) fp) ifs tt)
    (he : ∀ (s : Shared) (H : Hp) (C : Addr) (cl : List (Str × Addr)) (fp : List Addr), PE (blkE X E s H scope (compEnvC scope cl C X.env) fp) elt te) (hset : ∀ x, foldedSetIterable iter X.env x = pure x := by intro _; rfl) :
    PS X (.Assign [.Name y py] (.ListComp elt [⟨tg, iter, ifs, 0⟩] scope pos) spos) (tAsg (tLc wi g tt te (own.map (·.2))) (gName i)) := by
  refine ⟨fun pins s σ H D I h => ?_⟩
  rw [exec_Assign_Name_used _ _ _ _ hsw]
  refine wpAny_bind (wpAny_standAt (wpAny_bind ?_))
  have h' : tLc wi g tt te (own.map (·.2)) σ H (fun x H1 => gName i x σ H1 D.nx) := h
  refine wpAny_bind (thn (core (Qf := fun _ s' => SP X pins D .next s') hs hf tk hc hN I hi ok hg ht he hset h' fun N ce s' m H' I' q hn f => ?_) fun _ s' hq => wpAny_pure (wpAny_pure hq))
  show wpAny _ _ (assign (.Name y py) X.env (.ref N)) _ _ _
  obtain ⟨f0, f1, f2, f3, f4, f5⟩ := f
  refine wpAny_assign_Name (store_ok2 (v := V.ref N) I' hN hy (.inl hyl) rfl (fun s2 I2 ⟨a, sb, ha⟩ => ?_) (.inr hyl))
  have apart : ce.locals ≠ a := by
    rcases ha with z | z
    · rw [z]; exact f1
    · exact fun e => f4 y a z e.symm
  refine ⟨m, hn.sameBut sb apart, fun h3 sb3 => ⟨_, H', ?_, q⟩⟩
  exact I2.turned (t' := s2.toks) (fun b o hb e => (sb3.2 b hb).trans e) f0 f1 f3 f4 f5
end
end CpX

set_option Elab.async false
set_option linter.all false
set_option maxRecDepth 100000
set_option maxHeartbeats 1000000
namespace W
open PySem PySem.Spec PyProof.Rows L2 GxR MyG MyS SqX
/-- one of the roads that are given: of six parts, or of another number -/
abbrev RoadI := RoadG ⊕ Nat
def GItem (K : PySem.W.Frag) (H : Hp) (i : RoadI) (v : V) : Prop := match i with
  | .inl r => GRoadX K H r v
  | .inr n => ∃ t xs, v = .ref t ∧ SqT K H t xs ∧ xs.length = n ∧ n ≠ 6
theorem GItem.grew {K : PySem.W.Frag} {P : Addr} {H H' : Hp} {i : RoadI} {v : V} (g : Grew P H H') (hP : TabG H P) (h : GItem K H i v) : GItem K H' i v := by
  cases i with
  | inl r => exact GRoadX.grew g hP h
  | inr n =>
    obtain ⟨t, xs, a, b, c, d⟩ := h
    exact ⟨t, xs, a, g.sqT hP b, c, d⟩
def itemG (r : RoadD) : RoadI := .inl (rG r)
def RoadsGOk (d : Int) (ps ks : List Str) (gs : List RoadI) : Prop := ∃ rs, gs = rs.map itemG ∧ RoadsOk d ps ks rs
def spRoadsX (K : PySem.W.Frag) (C P : Addr) : Sp := fun vs H Q E => ∃ (a pl ki : Addr) (c : Bool) (d : Int) (ps ks : List Str) (gs : List RoadI) (xs : List V), vs = [.ref a, .int d, .ref pl, .ref ki] ∧ SqK c K H a xs ∧ Paired (GItem K H) gs xs ∧ (∀ r, Sum.inl r ∈ gs → SmallG r) ∧ gs.length ≤ 1000 ∧ SqT K H pl (ps.map V.str) ∧ SqT K H ki (ks.map V.str) ∧ ks.length ≤ 4 ∧ TabG H P ∧
  (∀ rs, gs = rs.map itemG → RoadsOk d ps ks rs → ∀ H' p rs' ys, Grew P H H' → KeptAll rs rs' → AscR rs' → H p = none → H' p = some (.tup ys) → Paired (RoadAt K H') rs' ys → Q (.ref p) H') ∧ (¬ RoadsGOk d ps ks gs → BadM C P H E)
theorem rG_inj {a b : RoadD} (h : rG a = rG b) : a = b := by
  obtain ⟨a1, a2, a3, a4, a5, a6⟩ := a
  obtain ⟨b1, b2, b3, b4, b5, b6⟩ := b
  unfold rG at h
  injection h with h1 h2 h3 h4 h5 h6
  have e : a6 = b6 := by
    have inj : ∀ x y : Int × Int, [x.1, x.2] = [y.1, y.2] → x = y := fun x y h => Prod.ext (List.cons.inj h).1 (List.cons.inj (List.cons.inj h).2).1
    cases a6 with
    | none => cases b6 with
      | none => rfl
      | some _ => cases h6
    | some x => cases b6 with
      | none => cases h6
      | some y => exact congrArg some (List.map_inj_right inj |>.mp (Option.some.inj h6))
  simp only at h1 h2 h3 h4 h5
  rw [h1, h2, h3, h4, h5, e]
theorem all_inl : ∀ {gs : List RoadI}, (∀ i ∈ gs, ∃ r, i = Sum.inl r) → ∃ gg : List RoadG, gs = gg.map Sum.inl
  | [], _ => ⟨[], rfl⟩
  | i :: gs, h => by
    obtain ⟨r, e⟩ := h i List.mem_cons_self
    obtain ⟨gg, e2⟩ := all_inl (gs := gs) fun x hx => h x (List.mem_cons_of_mem _ hx)
    exact ⟨r :: gg, by rw [e, e2]; rfl⟩
theorem paired_inl {K : PySem.W.Frag} {H : Hp} : ∀ {gg : List RoadG} {xs : List V}, Paired (GItem K H) (gg.map Sum.inl) xs → Paired (GRoadX K H) gg xs
  | [], _, h => by cases h; exact .nil
  | r :: gg, _, h => by
    cases h with
    | cons a b => exact .cons a (paired_inl b)
section
variable {Pg : Program} {w : World} {K : PySem.W.Frag} {mg : Str → Option Value} {base : Heap} {C P : Addr}
theorem ok_roadsX {f fN fR : Addr} {fd fdN fdR : FuncData} {t1 t2 t3 : Tok} (F : Fun K "_checked_roads" "_checked_roads" sRoads f fd) (T : TxtE mg K C) (hl : mg "len" = none) (ht : mg "tuple" = none) (hs : mg "sorted" = none)
    (hp : mg "PARTS" = some (.int 6 t1)) (hn : mg "NAME" = some (.int 0 t2)) (hm : mg "MOST_ROADS" = some (.int 60 t3))
    (GN : FnOk Pg w K mg base (L2.CX Pg w) 3 fN fdN ["names", "least", "most"] (spNamesX K C P)) (gN : mg "_checked_names" = some (.ref fN)) (kN : PySem.W.keepIn K (.ref fN) = true) (bN : Binds K fdN ["names", "least", "most"] [])
    (GR : FnOk Pg w K mg base (L2.CX Pg w) 2 fR fdR ["road", "day", "places", "kinds"] (spRoadX K C P)) (gR : mg "_checked_road" = some (.ref fR)) (kR : PySem.W.keepIn K (.ref fR) = true) (bR : Binds K fdR ["road", "day", "places", "kinds"] []) :
    FnOk Pg w K mg base (L2.CX Pg w) 4 f fd ["roads", "day", "places", "kinds"] (spRoadsX K C P) := by
  refine F.okX scRoads (fun vs H Q E h => ?_) (fun cdv A outer s H vs Q E hr h => ?_)
  · obtain ⟨a, pl, ki, c, d, ps, ks, gs, xs, rfl, _⟩ := h
    rfl
  · obtain ⟨a, pl, ki, c, d, ps, ks, gs, xs, rfl, hS, hG, hsm, hgl, hPl, hKi, hk4, hP, kQ, kE⟩ := h
    refine ⟨_, C8.pss_cut (ps_for (passes_of rfl) rfl (pi_sq (pv 0)) (pg_name (i := 4) scRoads.nd rfl (Or.inl rfl)) (pss_one (ps_if (pt_cmpR op_ne (pe_callB call_len_seq (by rfl) hl PySem.boot_len (pa_cons (pv 4) pa_nil)) (pe_gI hp) (nomark _)) (pss_one (ps_raise rfl (takes_of rfl rfl rfl rfl) (SkE.pmk_own1 PySem.F.excBase_ValueError T.xC T.gC T.kC (raises_own T.bC T.tC) (by rfl) (pe_joined (PJ.cons pe_str (PJ.cons (pe_fmt (pe_gI hp)) (PJ.cons pe_str PJ.nil))))))) pss_nil)))
      (pss_cons (ps_expr (pe_call (E := E) GN (hr.mono (by decide)) (by rfl) gN kN bN .nil (passes_call (takes_of rfl rfl rfl rfl) (fun _ _ _ _ h => h)) (pa_cons (pe_lc (own := [("road", 4)]) (g := gName 4) (tt := tYes) rfl scRoads.nd (pi_sq (pv 0)) (blkOk_by (N := nRoads) (sc := defScope sRoads) (by decide +kernel)) (fun _ _ _ _ _ => pg_name (i := 4) scRoads.nd rfl (Or.inl rfl)) (fun _ _ _ _ _ => pts_nil)
          (fun _ _ _ _ _ => pe_ix (r := rIxT K) ix_tup (pv 4) (pe_gI hn) (fun _ _ => rfl))) (pa_cons pe_int (pa_cons (pe_gI hm) pa_nil)))))
      (pss_cons (CpX.ps_setLcX (E := E) (i := 5) (own := [("road", 4)]) (g := gName 4) (tt := tYes) rfl rfl (takes_of rfl rfl rfl rfl) rfl scRoads.nd rfl rfl (sw_true rfl rfl rfl (by decide +kernel)) (pi_sq (pv 0)) (blkOk_by (N := nRoads) (sc := defScope sRoads) (by decide +kernel)) (fun _ _ _ _ _ => pg_name (i := 4) scRoads.nd rfl (Or.inl rfl)) (fun _ _ _ _ _ => pts_nil)
          (fun _ _ _ _ _ => pe_call (E := E) GR (hr.mono (by decide)) (by rfl) gR kR bR .nil (CpX.passB rfl rfl) (pa_cons (pv 4) (pa_cons (pv 1) (pa_cons (pv 2) (pa_cons (pv 3) pa_nil))))))
      (pss_one (ps_ret (pe_callTy call_tuple_of (by rfl) ht (by decide +kernel) (pa_cons (pe_callB cr_sortR (by rfl) hs (by decide +kernel) (pa_cons (pv 5) pa_nil)) pa_nil)))))), ?_⟩
    have hln : gs.length = xs.length := Paired.len hG
    refine ⟨fun σ H' => H' = H ∧ (∃ v, σ = [some (.ref a), some (.int d), some (.ref pl), some (.ref ki), v, none]) ∧ ∀ i ∈ gs, ∃ r, i = Sum.inl r, ?_, ?_⟩
    · refine ⟨_, rfl, c, a, rfl, ⟨_, hS⟩, for_sq (K := K) (c := c) (a := a) (xs := xs) (fun i σ H' => H' = H ∧ (∃ v, σ = [some (.ref a), some (.int d), some (.ref pl), some (.ref ki), v, none]) ∧ ∀ q ∈ gs.take i, ∃ r, q = Sum.inl r)
        ⟨rfl, ⟨none, rfl⟩, fun q hq => by rw [List.take_zero] at hq; cases hq⟩ (fun i σ H' _ ⟨e, _⟩ => by rw [e]; exact hS) ?_ ?_⟩
      · rintro i y σ H' hi ⟨rfl, ⟨v, rfl⟩, hin⟩
        obtain ⟨q, hq, hgq⟩ := Paired.at hG hi
        have hqm := List.mem_of_getElem? hq
        cases q with
        | inl r =>
          obtain ⟨t, u, h, cc, rfl, hT, _⟩ := hgq
          refine ⟨_, rfl, t, _, rfl, .inr hT, rfl, _, rfl, ?_⟩
          refine if_f (by rfl) ⟨rfl, ⟨_, rfl⟩, fun x hx => ?_⟩
          rw [List.take_succ, hq] at hx
          rcases List.mem_append.mp hx with hx | hx
          · exact hin x hx
          · exact ⟨r, List.mem_singleton.mp hx⟩
        | inr n =>
          obtain ⟨t, ys, rfl, hT, el, n6⟩ := hgq
          refine ⟨_, rfl, t, _, rfl, .inr hT, rfl, _, rfl, ?_⟩
          refine if_t (by rw [decide_eq_false (fun e => n6 (by injection e with e; omega))]; rfl) ?_
          refine tJs_ok (fun _ => (kE fun ⟨rs, e, _⟩ => ?_).here hP) 0 (fun t ht => ?_) (Nat.zero_le _) (by decide)
          · rw [e] at hqm
            obtain ⟨z, _, ez⟩ := List.mem_map.mp hqm
            cases ez
          · simp only [List.mem_cons, List.not_mem_nil, or_false] at ht
            rcases ht with rfl | rfl | rfl
            · exact short_c (by decide +kernel)
            · exact short_g (by decide)
            · exact short_c (by decide +kernel)
      · rintro σ H' ⟨rfl, hv, hin⟩
        rw [← hln, List.take_length] at hin
        exact ⟨rfl, hv, hin⟩
    rintro σ H' ⟨rfl, ⟨v, rfl⟩, hin⟩
    obtain ⟨gg, rfl⟩ := all_inl hin
    have hG := paired_inl hG
    have hln : gg.length = xs.length := Paired.len hG
    rw [List.length_map] at hgl
    have hsm' : ∀ r ∈ gg, SmallG r := fun r hr => hsm r (List.mem_map.mpr ⟨r, hr, rfl⟩)
    -- the roads, where each of them is good
    have back : ∀ rs : List RoadD, gg.map Sum.inl = rs.map itemG ↔ gg = rs.map rG := fun rs => by
      have e : rs.map itemG = (rs.map rG).map (Sum.inl : RoadG → RoadI) := by rw [List.map_map]; rfl
      rw [e]
      exact List.map_inj_right fun x y h => Sum.inl.inj h
    have kE' : (∀ rs, gg = rs.map rG → ¬ RoadsOk d ps ks rs) → BadM C P H' E := fun h => kE fun ⟨rs, e, o⟩ => h rs ((back rs).mp e) o
    refine ⟨_, rfl, c, a, rfl, ⟨_, hS⟩, fun D nD => lc_sq (K := K) (c := c) (a := a) (xs := xs) (fun i H1 => Grew P H' H1 ∧ H1 D = some (.lst (((gg.map (·.name)).take i).map V.str)))
      ⟨Grew.new hP nD, upd_same⟩ (fun i H1 _ p => hS.grew p.1 hP) (fun i x H1 hx p => ?_) (fun H1 p => ?_)⟩
    · obtain ⟨g, hD⟩ := p
      obtain ⟨r, hr, t, u, h, cc, rfl, hT, _⟩ := Paired.at hG hx
      refine ⟨rfl, _, rfl, t, _, 0, .str r.name, rfl, rfl, g.sqT hP hT, rfl, _, hD, ?_, ?_, ?_⟩
      · rw [List.length_map, List.length_take, List.length_map, sizeLine_eq]
        omega
      · exact g.write hD (fun _ z => by cases z) nD
      · rw [upd_same, List.take_succ, List.getElem?_map, hr, List.map_append]
        rfl
    · obtain ⟨g, hD⟩ := p
      rw [← hln, ← List.length_map (f := (·.name)), List.take_length] at hD
      refine ⟨D, true, gg.map (·.name), 0, 60, rfl, SqL.of hD, by rw [List.length_map]; omega, fun z hz => ?_, by decide, by decide, g.tab, fun hok H2 p2 ys2 g2 np e2 _ _ => ?_, fun nok => (kE' fun rs e o => nok ?_).on g⟩
      · obtain ⟨r, hr, rfl⟩ := List.mem_map.mp hz
        exact (hsm' r hr).n
      case refine_3 =>
        have e3 : gg.map (·.name) = rs.map (·.name) := by rw [e, List.map_map]; rfl
        rw [e3]
        exact ⟨by omega, by rw [List.length_map]; have := o.len; omega, o.nm, o.nd⟩
      have g3 := g.trans g2
      refine ⟨_, rfl, c, a, rfl, ⟨_, hS.grew g3 hP⟩, fun D2 nD2 => lc_sq (K := K) (c := c) (a := a) (xs := xs) (fun i H1 => Grew P H' H1 ∧ ∃ acc ms rs, gg.take i = rs.map rG ∧ (∀ r ∈ rs, RoadOk d ps ks r) ∧ H1 D2 = some (.lst acc) ∧ Paired Kept rs ms ∧ Paired (RoadAt K H1) ms acc)
        ⟨g3.put nD2, [], [], [], by rw [List.take_zero]; rfl, fun r hr => (by cases hr), upd_same, .nil, .nil⟩ (fun i H1 _ p => hS.grew p.1 hP) (fun i x H1 hx p => ?_) (fun H1 p => ?_)⟩
      · obtain ⟨g4, acc, ms, rs, ers, hall, hD4, hk4', hm4⟩ := p
        obtain ⟨r, hr, hgr⟩ := Paired.at hG hx
        have hrm := List.mem_of_getElem? hr
        have nD2' := g3.free nD2
        refine ⟨rfl, _, rfl, _, rfl, _, rfl, _, rfl, x, pl, ki, d, ps, ks, r, rfl, hgr.grew g4 hP, hsm' r hrm, g4.sqT hP hPl, g4.sqT hP hKi, hk4, g4.tab, fun r0 er0 ok0 H5 p5 q5 h5 r5 g5 kp n5 e5 f5 hh5 => ?_, fun nok => (kE' fun rs' e o => nok ?_).on g4⟩
        · have hD5 := g5.lst g4.tab hD4
          have g45 := g4.trans g5
          have lrs : rs.length ≤ 1000 := by
            have := congrArg List.length ers
            rw [List.length_take, List.length_map] at this
            omega
          refine ⟨acc, hD5, ?_, g45.write hD5 (fun _ z => by cases z) nD2', acc ++ [.ref p5], ms ++ [r5], rs ++ [r0], ?_, fun r hr => ?_, upd_same, Paired.snoc hk4' kp, ?_⟩
          · rw [← Paired.len hm4, ← Paired.len hk4', sizeLine_eq]
            omega
          · rw [List.take_succ, hr, ers, List.map_append, er0]
            rfl
          · rcases List.mem_append.mp hr with hr | hr
            · exact hall r hr
            · rw [List.mem_singleton.mp hr]; exact ok0
          · have up : ∀ {r : RoadD} {v : V}, RoadAt K H5 r v → RoadAt K (L2.upd H5 D2 (.lst (acc ++ [.ref p5]))) r v := fun m => m.upd (fun xs z => by rw [hD5] at z; cases z) (KeepT.lst hD5)
            exact Paired.snoc (Paired.map' hm4 fun r v m => up (m.grew g5 g4.tab)) (up ⟨p5, q5, h5, rfl, e5, f5, hh5⟩)
        · rw [e] at hrm
          obtain ⟨z, hz, ez⟩ := List.mem_map.mp hrm
          exact ⟨z, ez.symm, o.ok z hz⟩
      · obtain ⟨g4, acc, ms, rs, ers, hall, hD4, hk4', hm4⟩ := p
        rw [← hln, List.take_length] at ers
        have e3 : gg.map (·.name) = rs.map (·.name) := by rw [ers, List.map_map]; rfl
        rw [e3] at hok
        have ok : RoadsOk d ps ks rs := ⟨by have := hok.2.1; rw [List.length_map] at this; omega, hok.2.2.1, hok.2.2.2, hall⟩
        have hl60 := ok.len
        have nd : (ms.map (·.name)).Nodup := by rw [kept_names hk4']; exact ok.nd
        refine ⟨_, rfl, D2, acc, nameAt H1, rfl, SqL.of hD4, fun x hx => ?_, fun x hx y hy e => Paired.inj hm4 nd hx hy fun r r' m m' => by rw [← m.name, ← m'.name]; exact e, fun ys l hpm hso hl => ⟨l, _, rfl, .inl ⟨SqL.of upd_same, fun p hp2 => ?_⟩⟩⟩
        · obtain ⟨r, _, m⟩ := Paired.mem hm4 hx
          have nm := m.name
          obtain ⟨p, q, hv, e, e1, _⟩ := m
          exact ⟨p, _, e, by rw [nm]; exact SqT.of e1⟩
        · obtain ⟨rs', pm, hr'⟩ := Paired.perm hpm hm4
          have gl := Grew.new g4.tab (o := .lst ys) hl
          have gp := gl.put (o := .tup ys) hp2
          exact kQ rs ((back rs).mpr ers) ok _ p rs' ys (g4.trans gp) ⟨ms, pm.symm, hk4'⟩ (Paired.pair (fun a b x y m m' e => by rw [m.name, m'.name] at e; exact e) hr' hso) (g4.free (gl.free hp2)) upd_same (Paired.map' hr' fun _ _ m => m.grew gp g4.tab)
end
end W

set_option Elab.async false
set_option linter.all false
set_option maxRecDepth 100000
set_option maxHeartbeats 1000000
namespace W
open PySem PySem.Spec PyProof.Rows L2 GxR MyG MyS SqX
theorem uniqN : ∀ {rs : List RoadD} {r r' : RoadD}, (rs.map (·.name)).Nodup → r ∈ rs → r' ∈ rs → r.name = r'.name → r = r'
  | a :: rs, r, r', nd, h, h', e => by
    rw [List.map_cons, List.nodup_cons] at nd
    rcases List.mem_cons.mp h with h | h <;> rcases List.mem_cons.mp h' with h' | h'
    · rw [h, h']
    · rw [h] at e; exact absurd (List.mem_map.mpr ⟨r', h', e.symm⟩) nd.1
    · rw [h'] at e; exact absurd (List.mem_map.mpr ⟨r, h, e⟩) nd.1
    · exact uniqN nd.2 h h' e
def p2 (b : Str × Str) : List Str := [b.1, b.2]
theorem p2_inj : ∀ x y : Str × Str, p2 x = p2 y → x = y := fun x y h => Prod.ext (List.cons.inj h).1 (List.cons.inj (List.cons.inj h).2).1
/-- unpacking of a tuple or of a list -/
def gAny (K : PySem.W.Frag) (n : Nat) (t : TGs) : TG := fun v σ H Q => ∃ a xs, v = .ref a ∧ (SqL K H a xs ∨ SqT K H a xs) ∧ xs.length = n ∧ t xs σ H Q
theorem pg_any {X : Cx} {pos : Pos} {es : List Expr} {k : Nat} {t : TGs} {n : Nat} (hc : X.calm = true) (h : PGs X es t)
    (hn : (assignEach es X.env).length = n := by rfl) (hst : (assignEach es X.env).findIdx? (·.1) = none := by rfl) : PG X (.Tuple es k pos) (gAny X.K n t) := by
  refine ⟨fun pins s σ H v u Q I r hw => ?_⟩
  obtain ⟨a, xs, e1, hq | hq, hl, hw⟩ := hw
  · exact (pg_lst hc h hn hst).run pins s σ H v u Q I r ⟨a, xs, e1, hq, hl, hw⟩
  · exact (pg_tup hc h hn hst).run pins s σ H v u Q I r ⟨a, xs, e1, hq, hl, hw⟩
/-- a bar as it is given: a tuple or a list -/
def GBarX (H : Hp) (b : List Str) (v : V) : Prop := ∃ t, v = .ref t ∧ (H t = some (.lst (b.map V.str)) ∨ H t = some (.tup (b.map V.str)))
theorem GBarX.grew {P : Addr} {H H' : Hp} {b : List Str} {v : V} (g : Grew P H H') (h : TabG H P) (m : GBarX H b v) : GBarX H' b v := let ⟨t, e, q⟩ := m; ⟨t, e, q.imp (g.lst h) (g.tup h)⟩
theorem paired_p2 {H : Hp} : ∀ {bs : List (Str × Str)} {xs : List V}, Paired (GBarX H) (bs.map p2) xs → Paired (fun b v => GBarX H (p2 b) v) bs xs
  | [], _, h => by cases h; exact .nil
  | b :: bs, _, h => by
    cases h with
    | cons a r => exact .cons a (paired_p2 r)
def BarsGOk (rs : List RoadD) (gs : List (List Str)) : Prop := ∃ bs, gs = bs.map p2 ∧ BarsOk rs bs
def spBarsX (K : PySem.W.Frag) (C P : Addr) : Sp := fun vs H Q E => ∃ (a d : Addr) (c : Bool) (rs : List RoadD) (gs : List (List Str)) (xs : List V), vs = [.ref a, .ref d] ∧ SqK c K H a xs ∧ Paired (GBarX H) gs xs ∧ gs.length ≤ 1000 ∧ (∀ b ∈ gs, ∀ z ∈ b, z.length ≤ 1000) ∧ DictR K H d rs ∧ (rs.map (·.name)).Nodup ∧ TabG H P ∧
  (∀ bs, gs = bs.map p2 → BarsOk rs bs → ∀ H' p bs' ys, Grew P H H' → bs'.Perm bs → AscB bs' → H p = none → H' p = some (.tup ys) → Paired (GBar H') bs' ys → Q (.ref p) H') ∧ (¬ BarsGOk rs gs → BadM C P H E)
theorem nodup_p2 {bs : List (Str × Str)} : (bs.map fun b => [b.1, b.2]).Nodup ↔ bs.Nodup :=
  ⟨fun h => (List.pairwise_map.mp h).imp fun {a b} ne e => ne (by rw [e]), nodup_bars⟩
section
variable {Pg : Program} {w : World} {K : PySem.W.Frag} {mg : Str → Option Value} {base : Heap} {C P : Addr}
theorem ok_barsX {f fD : Addr} {fd fdD : FuncData} {t1 t2 t3 : Tok} (F : Fun K "_checked_bars" "_checked_bars" sBars f fd) (T : TxtE mg K C) (hl : mg "len" = none) (ht : mg "tuple" = none) (hs : mg "sorted" = none)
    (hm : mg "MOST_BARS" = some (.int 40 t1)) (he : mg "END" = some (.int 2 t2)) (hst : mg "START" = some (.int 1 t3))
    (GD : FnOk Pg w K mg base (L2.CX Pg w) 1 fD fdD ["parts"] (spDiffX K C P)) (gD : mg "_check_different" = some (.ref fD)) (kD : PySem.W.keepIn K (.ref fD) = true) (bD : Binds K fdD ["parts"] []) :
    FnOk Pg w K mg base (L2.CX Pg w) 2 f fd ["bars", "roads_by_name"] (spBarsX K C P) := by
  refine F.okX scBars (fun vs H Q E h => ?_) (fun cdv A outer s H vs Q E hr h => ?_)
  · obtain ⟨a, d, c, rs, gs, xs, rfl, _⟩ := h
    rfl
  · obtain ⟨a, d, c, rs, gs, xs, rfl, hS, hG, hgl, hsm, hD, hnd, hP, kQ, kE⟩ := h
    refine ⟨_, pss_cons (ps_if (pt_cmpR op_gt (pe_callB call_len_seq (by rfl) hl PySem.boot_len (pa_cons (pv 0) pa_nil)) (pe_gI hm) (nomark _)) (pss_one (ps_raise rfl (takes_of rfl rfl rfl rfl) (SkE.pmk_own1 PySem.F.excBase_ValueError T.xC T.gC T.kC (raises_own T.bC T.tC) (by rfl) (pe_joined (PJ.cons pe_str (PJ.cons (pe_fmt (pe_gI hm)) (PJ.cons pe_str PJ.nil))))))) pss_nil)
      (pss_cons (ps_for (passes_of rfl) rfl (pi_sq (pv 0)) (pg_name (i := 2) scBars.nd rfl (Or.inl rfl))
        (pss_cons (ps_if (pt_cmpR op_ne (pe_callB call_len_seq (by rfl) hl PySem.boot_len (pa_cons (pv 2) pa_nil)) pe_int (nomark _)) (pss_one (ps_raise rfl (takes_of rfl rfl rfl rfl) (SkE.pmk_own1 PySem.F.excBase_ValueError T.xC T.gC T.kC (raises_own T.bC T.tC) (by rfl) pe_str))) pss_nil)
        (pss_cons (ps_asg (pv 2) (pg_any (by rfl) (pgs_cons (pg_name (i := 3) scBars.nd rfl (.inl rfl)) (pgs_cons (pg_name (i := 4) scBars.nd rfl (.inl rfl)) pgs_nil))))
        (C8.pss_cut (ps_if (PW.pt (pw_or (pt_cmp (pc_dnotin (u1 hr.units) (pv 3) (pv 1))) (pw_or1 (pt_cmp (pc_dnotin (u1 hr.units) (pv 4) (pv 1)))))) (pss_one (ps_raise rfl (takes_of rfl rfl rfl rfl) (SkE.pmk_own1 PySem.F.excBase_ValueError T.xC T.gC T.kC (raises_own T.bC T.tC) (by rfl) (pe_joined (PJ.cons pe_str (PJ.cons (pe_fmt (pv 3)) (PJ.cons pe_str (PJ.cons (pe_fmt (pv 4)) PJ.nil)))))))) pss_nil)
        (pss_one (ps_if (pt_cmpR op_ne (pe_ix ix_tup (pe_dget (u1 hr.units) (pv 1) (pv 3) (fun _ _ => rfl)) (pe_gI he) (fun _ _ => rfl)) (pe_ix ix_tup (pe_dget (u1 hr.units) (pv 1) (pv 4) (fun _ _ => rfl)) (pe_gI hst) (fun _ _ => rfl)) (nomark _)) (pss_one (ps_raise rfl (takes_of rfl rfl rfl rfl) (SkE.pmk_own1 PySem.F.excBase_ValueError T.xC T.gC T.kC (raises_own T.bC T.tC) (by rfl) (pe_joined (PJ.cons pe_str (PJ.cons (pe_fmt (pv 3)) (PJ.cons pe_str (PJ.cons (pe_fmt (pv 4)) PJ.nil)))))))) pss_nil))))))
      (pss_cons (ps_setLc (i := 5) (own := [("bar", 2)]) (g := gName 2) (tt := tYes) rfl scBars.nd rfl rfl (sw_true rfl rfl rfl (by decide +kernel)) (pi_sq (pv 0)) (blkOk_by (N := nBars) (sc := defScope sBars) (by decide +kernel)) (fun _ _ _ _ _ => pg_name (i := 2) scBars.nd rfl (Or.inl rfl)) (fun _ _ _ _ _ => pts_nil)
          (fun _ _ _ _ _ => pe_callTy (r := rTupOf K) call_tuple_of (by rfl) ht (by decide +kernel) (pa_cons (pv 2) pa_nil)))
      (pss_cons (ps_expr (pe_call (E := E) GD (hr.mono (by decide)) (by rfl) gD kD bD .nil (passes_call (takes_of rfl rfl rfl rfl) (fun _ _ _ _ h => h)) (pa_cons (pv 5) pa_nil)))
      (pss_one (ps_ret (pe_callTy call_tuple_of (by rfl) ht (by decide +kernel) (pa_cons (pe_callB cr_sortB (by rfl) hs (by decide +kernel) (pa_cons (pv 5) pa_nil)) pa_nil))))))), ?_⟩
    have hln := Paired.len hG
    have bad : ¬ BarsGOk rs gs → ∀ z : Str, E (.ref C) none H := fun h _ => (kE h).here hP
    refine ⟨_, rfl, a, _, rfl, hS.any, _, _, rfl, rfl, _, rfl, ?_⟩
    by_cases c40 : gs.length ≤ 40
    case neg =>
      refine if_t (decide_eq_true (by omega)) ?_
      refine tJs_ok (bad fun ⟨bs, e, o⟩ => c40 (by rw [e, List.length_map]; exact o.len)) 0 (fun t ht => ?_) (Nat.zero_le _) (by decide)
      simp only [List.mem_cons, List.not_mem_nil, or_false] at ht
      rcases ht with rfl | rfl | rfl
      · exact short_c (by decide +kernel)
      · exact short_g (by decide)
      · exact short_c (by decide +kernel)
    refine if_f (decide_eq_false (by omega)) ?_
    refine ⟨_, rfl, c, a, rfl, ⟨_, hS⟩, for_sq (K := K) (c := c) (a := a) (xs := xs) (fun i σ H' => H' = H ∧ (∃ v1 v2 v3, σ = [some (.ref a), some (.ref d), v1, v2, v3, none]) ∧ ∃ bs, gs.take i = bs.map p2 ∧ ∀ b ∈ bs, ∃ r1 ∈ rs, ∃ r2 ∈ rs, b.1 = r1.name ∧ b.2 = r2.name ∧ r1.goal = r2.start)
      ⟨rfl, ⟨none, none, none, rfl⟩, [], by rw [List.take_zero]; rfl, fun b hb => (by cases hb)⟩ (fun i σ H' _ ⟨e, _⟩ => by rw [e]; exact hS) ?_ ?_⟩
    · rintro i y σ H' hi ⟨rfl, ⟨v1, v2, v3, rfl⟩, bs, ebs, hall⟩
      obtain ⟨b, hb, t, rfl, hT⟩ := Paired.at hG hi
      have hbm := List.mem_of_getElem? hb
      have hTT : SqL K H' t (b.map V.str) ∨ SqT K H' t (b.map V.str) := hT.imp SqL.of SqT.of
      refine ⟨_, rfl, t, _, rfl, hTT, rfl, _, rfl, ?_⟩
      rw [List.length_map]
      by_cases cb : b.length = 2
      case neg =>
        refine if_t (by rw [decide_eq_false (fun e => cb (by injection e with e; omega))]; rfl) ?_
        refine bad (fun ⟨bs2, e, o⟩ => ?_) Str.empty
        rw [e] at hbm
        obtain ⟨z, _, ez⟩ := List.mem_map.mp hbm
        rw [← ez] at cb
        exact cb rfl
      refine if_f (by rw [decide_eq_true (by rw [cb]; rfl)]; rfl) ?_
      obtain ⟨x1, x2, rfl⟩ : ∃ x1 x2, b = [x1, x2] := by
        match b, cb with
        | [x1, x2], _ => exact ⟨x1, x2, rfl⟩
      have s1 := hsm _ hbm x1 (by simp)
      have s2 := hsm _ hbm x2 (by simp)
      have need : BarsGOk rs gs → ∃ r1 ∈ rs, ∃ r2 ∈ rs, x1 = r1.name ∧ x2 = r2.name ∧ r1.goal = r2.start := fun ⟨bs2, e, o⟩ => by
        have hbm' := hbm
        rw [e] at hbm'
        obtain ⟨z, hz, ez⟩ := List.mem_map.mp hbm'
        obtain rfl : z = (x1, x2) := p2_inj _ _ ez
        exact o.ok _ hz
      obtain ⟨kvs, hd, hdin, hdno⟩ := hD
      refine ⟨_, rfl, t, _, rfl, hTT, rfl, _, _, rfl, _, _, rfl, rfl, ?_⟩
      obtain ⟨S, eS⟩ : ∃ S : L2.St, S = [some (V.ref a), some (.ref d), some (.ref t), some (.str x1), some (.str x2), none] := ⟨_, rfl⟩
      have parts : ∀ tt ∈ [tC (.str "a bar of strange roads: "), tFmt (tVar 3), tC (.str " "), tFmt (tVar 4)], SqX.Short tt [some (V.ref a), some (.ref d), some (.ref t), some (.str x1), some (.str x2), none] H' := fun tt ht => by
        simp only [List.mem_cons, List.not_mem_nil, or_false] at ht
        rcases ht with rfl | rfl | rfl | rfl
        · exact short_c (by decide +kernel)
        · exact short_v (y := x1) rfl s1
        · exact short_c (by decide +kernel)
        · exact short_v (y := x2) rfl s2
      have parts2 : ∀ tt ∈ [tC (.str "a bar of roads that do not touch: "), tFmt (tVar 3), tC (.str " "), tFmt (tVar 4)], SqX.Short tt [some (V.ref a), some (.ref d), some (.ref t), some (.str x1), some (.str x2), none] H' := fun tt ht => by
        simp only [List.mem_cons, List.not_mem_nil, or_false] at ht
        rcases ht with rfl | rfl | rfl | rfl
        · exact short_c (by decide +kernel)
        · exact short_v (y := x1) rfl s1
        · exact short_c (by decide +kernel)
        · exact short_v (y := x2) rfl s2
      have gd : ∀ z : Str, DGet H' d (.str z) (valV kvs (.inr z)) := fun z => DGet.k (k := .inr z) hd
      refine ⟨fun σ2 H2 => σ2 = S ∧ H2 = H' ∧ (∃ r1 ∈ rs, r1.name = x1) ∧ ∃ r2 ∈ rs, r2.name = x2, ?_, ?_⟩
      · refine ⟨_, rfl, _, rfl, d, _, rfl, gd x1, _, rfl, ?_⟩
        by_cases q1 : ∃ r1 ∈ rs, r1.name = x1
        case neg =>
          refine if_t (by rw [hdno x1 fun r hr e => q1 ⟨r, hr, e⟩]; rfl) ?_
          exact tJs_ok (bad fun h => by obtain ⟨r1, h1, _, _, e1, _⟩ := need h; exact q1 ⟨r1, h1, e1.symm⟩) 0 parts (Nat.zero_le _) (by decide)
        obtain ⟨r1, h1, e1⟩ := q1
        obtain ⟨w1, l1, _⟩ := hdin r1 h1
        rw [e1] at l1
        refine if_f (by rw [l1]; rfl) ?_
        refine ⟨_, rfl, _, rfl, d, _, rfl, gd x2, _, rfl, ?_⟩
        by_cases q2 : ∃ r2 ∈ rs, r2.name = x2
        case neg =>
          refine if_t (by rw [hdno x2 fun r hr e => q2 ⟨r, hr, e⟩]; rfl) ?_
          exact tJs_ok (bad fun h => by obtain ⟨_, _, r2, h2, _, e2, _⟩ := need h; exact q2 ⟨r2, h2, e2.symm⟩) 0 parts (Nat.zero_le _) (by decide)
        obtain ⟨r2, h2, e2⟩ := q2
        obtain ⟨w2, l2, _⟩ := hdin r2 h2
        rw [e2] at l2
        exact if_f (by rw [l2]; rfl) ⟨eS.symm, rfl, ⟨r1, h1, e1⟩, r2, h2, e2⟩
      rintro σ2 H2 ⟨eσ, eH, ⟨r1, h1, e1⟩, r2, h2, e2⟩
      rw [eσ, eS, eH]
      obtain ⟨w1, l1, p1, q1, hh1, rfl, a1, _, _⟩ := hdin r1 h1
      obtain ⟨w2, l2, p2', q2, hh2, rfl, a2, _, _⟩ := hdin r2 h2
      rw [e1] at l1
      rw [e2] at l2
      have g1 := gd x1
      have g2 := gd x2
      rw [l1] at g1
      rw [l2] at g2
      refine ⟨_, rfl, _, rfl, d, _, rfl, g1, p1, _, 2, .str r1.goal, rfl, rfl, SqT.of a1, rfl, _, rfl, _, rfl, d, _, rfl, g2, p2', _, 1, .str r2.start, rfl, rfl, SqT.of a2, rfl, rfl, _, rfl, ?_⟩
      by_cases c3 : r1.goal = r2.start
      case neg =>
        refine if_t (by rw [decide_eq_false (fun e => c3 (by injection e with e))]; rfl) ?_
        refine tJs_ok (bad fun h => ?_) 0 parts2 (Nat.zero_le _) (by decide)
        obtain ⟨r1', h1', r2', h2', e1', e2', e3'⟩ := need h
        have u1 : r1 = r1' := uniqN hnd h1 h1' (e1.trans e1')
        have u2 : r2 = r2' := uniqN hnd h2 h2' (e2.trans e2')
        rw [u1, u2] at c3
        exact c3 e3'
      refine if_f (by rw [c3]; simp) ⟨rfl, ⟨_, _, _, rfl⟩, bs ++ [(x1, x2)], ?_, fun b hb => ?_⟩
      · rw [List.take_succ, hb, ebs, List.map_append]
        rfl
      · rcases List.mem_append.mp hb with hb | hb
        · exact hall b hb
        · rw [List.mem_singleton.mp hb]
          exact ⟨r1, h1, r2, h2, e1.symm, e2.symm, c3⟩
    · rintro σ H' ⟨rfl, ⟨v1, v2, v3, rfl⟩, bs, ebs, hall⟩
      rw [← hln, List.take_length] at ebs
      have hGB : Paired (fun b v => GBarX H' (p2 b) v) bs xs := paired_p2 (by rw [← ebs]; exact hG)
      have kE' : ¬ BarsOk rs bs → BadM C P H' E := fun h => kE fun ⟨bs2, e, o⟩ => h (by
        have : bs2 = bs := List.map_inj_right p2_inj |>.mp (e.symm.trans ebs)
        rw [← this]; exact o)
      have hl40 : bs.length ≤ 40 := by rw [ebs, List.length_map] at c40; exact c40
      have hlb : bs.length = xs.length := Paired.len hGB
      refine ⟨_, rfl, c, a, rfl, ⟨_, hS⟩, fun D nD => lc_sq (K := K) (c := c) (a := a) (xs := xs) (fun i H1 => Grew P H' H1 ∧ ∃ acc, H1 D = some (.lst acc) ∧ Paired (GBar H1) (bs.take i) acc)
        ⟨Grew.new hP nD, [], upd_same, .nil⟩ (fun i H1 _ p => hS.grew p.1 hP) (fun i x H1 hx p => ?_) (fun H1 p => ?_)⟩
      · obtain ⟨g, acc, hD1, hacc⟩ := p
        obtain ⟨b, hb, t, rfl, hT⟩ := Paired.at hGB hx
        have la := Paired.len hacc
        rw [List.length_take] at la
        have et : bs.take (i + 1) = bs.take i ++ [b] := by rw [List.take_succ, hb]; rfl
        have kb : ∀ {H2 : Hp} {ys zs : List V} {b : Str × Str} {v : V}, H2 D = some (.lst ys) → GBar H2 b v → GBar (L2.upd H2 D (.lst zs)) b v := fun h m => m.upd (fun xs z => by rw [h] at z; cases z)
        rcases hT with hT | hT
        · refine ⟨rfl, _, rfl, t, _, rfl, .inl ⟨SqL.of (g.lst hP hT), fun u nu => ?_⟩⟩
          have gu := Grew.new g.tab (o := .tup ((p2 b).map V.str)) nu
          have hD2 := gu.lst g.tab hD1
          refine ⟨_, hD2, by rw [sizeLine_eq]; omega, (g.trans gu).write hD2 (fun _ z => by cases z) nD, acc ++ [.ref u], upd_same, ?_⟩
          rw [et]
          exact Paired.snoc (Paired.map' hacc fun _ _ m => kb hD2 (m.grew gu g.tab)) (kb hD2 ⟨u, rfl, upd_same⟩)
        · refine ⟨rfl, _, rfl, t, _, rfl, .inr ⟨SqT.of (g.tup hP hT), _, hD1, by rw [sizeLine_eq]; omega, g.write hD1 (fun _ z => by cases z) nD, acc ++ [.ref t], upd_same, ?_⟩⟩
          rw [et]
          exact Paired.snoc (Paired.map' hacc fun _ _ m => kb hD1 m) (kb hD1 ⟨t, rfl, g.tup hP hT⟩)
      · obtain ⟨g, acc, hD1, hG1⟩ := p
        rw [← hlb, List.take_length] at hG1
        have lacc := Paired.len hG1
        obtain ⟨ks, ek1, ek2, ek3⟩ := bars_keys (K := K) hG1
        have lk : ks.length = acc.length := by rw [ek1, List.length_map]
        refine ⟨_, rfl, D, rfl, g.tab, .inr ⟨ks, by rw [← ek1]; exact SqL.of hD1, ek3, by omega, fun nd => ?_, fun nd => (kE' fun o => nd (by rw [ek2]; exact nodup_bars o.nd)).on g⟩⟩
        rw [ek2] at nd
        have ok : BarsOk rs bs := ⟨hl40, nodup_p2.mp nd, hall⟩
        refine ⟨_, rfl, D, acc, barAt H1, rfl, SqL.of hD1, fun x hx => ?_, fun ys l hpm hso hl => ⟨l, _, rfl, .inl ⟨SqL.of upd_same, fun p hp2 => ?_⟩⟩⟩
        · obtain ⟨b, _, m⟩ := Paired.mem hG1 hx
          have nm := m.at
          obtain ⟨t, e, q⟩ := m
          exact ⟨t, e, by rw [nm]; exact SqT.of q⟩
        · obtain ⟨bs', pm, hr'⟩ := Paired.perm hpm hG1
          have gl := Grew.new g.tab (o := .lst ys) hl
          have gp := gl.put (o := .tup ys) hp2
          exact kQ bs ebs ok _ p bs' ys (g.trans gp) pm (Paired.pair (fun a b x y m m' e => by rw [m.at, m'.at] at e; exact e) hr' hso) (g.free (gl.free hp2)) upd_same (Paired.map' hr' fun _ _ m => m.grew gp g.tab)
end
end W

set_option Elab.async false
set_option linter.all false
set_option maxRecDepth 100000
set_option maxHeartbeats 1000000
namespace W
open PySem PySem.Spec PyProof.Rows L2 GxR MyG MyS SqX
/-! ### Map.__init__ of whatever is given -/
structure GivenSm (d : Int) (ks ps : List Str) (gs : List RoadI) (bg : List (List Str)) : Prop where
  d : d.natAbs < 10 ^ 12
  kl : ks.length ≤ 1000
  k : ∀ z ∈ ks, z.length ≤ 1000
  pl : ps.length ≤ 1000
  p : ∀ z ∈ ps, z.length ≤ 1000
  rl : gs.length ≤ 1000
  r : ∀ r, Sum.inl r ∈ gs → SmallG r
  bl : bg.length ≤ 1000
  b : ∀ b ∈ bg, ∀ z ∈ b, z.length ≤ 1000
def GivenOk (d : Int) (ks ps : List Str) (gs : List RoadI) (bg : List (List Str)) : Prop := ∃ rs bs, gs = rs.map itemG ∧ bg = bs.map p2 ∧ PartsOk d ks ps rs bs
theorem BarsOk.keptR {rs rs' : List RoadD} {bs : List (Str × Str)} (h : BarsOk rs' bs) (k : KeptAll rs rs') : BarsOk rs bs := by
  obtain ⟨a, b, c⟩ := h
  obtain ⟨l, pm, pr⟩ := k
  have f : ∀ r' ∈ rs', ∃ r ∈ rs, r.name = r'.name ∧ r.start = r'.start ∧ r.goal = r'.goal := fun r' hr' => by
    obtain ⟨r, hr, q⟩ := Paired.mem pr (pm.mem_iff.mpr hr')
    exact ⟨r, hr, q.1.symm, q.2.1.symm, q.2.2.1.symm⟩
  refine ⟨a, b, fun z hz => ?_⟩
  obtain ⟨r1, h1, r2, h2, e1, e2, e3⟩ := c z hz
  obtain ⟨s1, m1, n1, _, g1⟩ := f r1 h1
  obtain ⟨s2, m2, n2, g2, _⟩ := f r2 h2
  exact ⟨s1, m1, s2, m2, by rw [n1]; exact e1, by rw [n2]; exact e2, by rw [g1, g2]; exact e3⟩
def spInitX (K : PySem.W.Frag) (M C P : Addr) : Sp := fun vs H Q E => ∃ (x dx ki pl ro ba : Addr) (ck cp cr cb : Bool) (d : Int) (ks ps : List Str) (gs : List RoadI) (bg : List (List Str)) (xs zs : List V) (H0 : Hp), vs = [.ref x, .int d, .ref ki, .ref pl, .ref ro, .ref ba] ∧
  Grew P H0 H ∧ TabG H0 P ∧ H0 x = none ∧ H x = some (.ins M dx []) ∧ SqK ck K H0 ki (ks.map V.str) ∧ SqK cp K H0 pl (ps.map V.str) ∧ SqK cr K H0 ro xs ∧ Paired (GItem K H0) gs xs ∧ SqK cb K H0 ba zs ∧ Paired (GBarX H0) bg zs ∧ GivenSm d ks ps gs bg ∧
  (∀ rs bs, gs = rs.map itemG → bg = bs.map p2 → PartsOk d ks ps rs bs → ∀ H' ks' ps' rs' bs', Grew P H0 H' → ks'.Perm ks → Asc ks' → ps'.Perm ps → Asc ps' → KeptAll rs rs' → AscR rs' → bs'.Perm bs → AscB bs' → MapAt K H' M x d ks' ps' rs' bs' → Q .non H') ∧
  (¬ GivenOk d ks ps gs bg → BadM C P H0 E)
section
variable {Pg : Program} {w : World} {K : PySem.W.Frag} {mg : Str → Option Value} {base : Heap} {C P : Addr}
theorem ok_initX {f fY fN fR fB M : Addr} {fd fdY fdN fdR fdB : FuncData} {t1 t2 t3 : Tok} {dvs : List V} {kws : List (Str × V)} (F : FunD K "__init__" "Map.__init__" (defArgs sInit) (defBody sInit) (defScope sInit) dvs kws f fd) (T : TxtM K M) (TE : TxtE mg K C)
    (hn : mg "NAME" = some (.int 0 t1)) (hk : mg "MOST_KINDS" = some (.int 4 t2)) (hp : mg "MOST_PLACES" = some (.int 30 t3))
    (GY : FnOk Pg w K mg base (L2.CX Pg w) 1 fY fdY ["day"] (spDayX C P)) (gY : mg "_checked_day" = some (.ref fY)) (kY : PySem.W.keepIn K (.ref fY) = true) (bY : Binds K fdY ["day"] [])
    (GN : FnOk Pg w K mg base (L2.CX Pg w) 3 fN fdN ["names", "least", "most"] (spNamesX K C P)) (gN : mg "_checked_names" = some (.ref fN)) (kN : PySem.W.keepIn K (.ref fN) = true) (bN : Binds K fdN ["names", "least", "most"] [])
    (GR : FnOk Pg w K mg base (L2.CX Pg w) 4 fR fdR ["roads", "day", "places", "kinds"] (spRoadsX K C P)) (gR : mg "_checked_roads" = some (.ref fR)) (kR : PySem.W.keepIn K (.ref fR) = true) (bR : Binds K fdR ["roads", "day", "places", "kinds"] [])
    (GB : FnOk Pg w K mg base (L2.CX Pg w) 2 fB fdB ["bars", "roads_by_name"] (spBarsX K C P)) (gB : mg "_checked_bars" = some (.ref fB)) (kB : PySem.W.keepIn K (.ref fB) = true) (bB : Binds K fdB ["bars", "roads_by_name"] []) :
    FnOk Pg w K mg base (L2.CX Pg w) 5 f fd pInit (spInitX K M C P) := by
  refine F.ok scInit (fun vs H Q E h => ?_) (fun cdv A outer s H vs Q E hr h => ?_)
  · obtain ⟨x, dx, ki, pl, ro, ba, ck, cp, cr, cb, d, ks, ps, gs, bg, xs, zs, H0, rfl, _⟩ := h
    rfl
  · obtain ⟨x, dx, ki, pl, ro, ba, ck, cp, cr, cb, d, ks, ps, gs, bg, xs, zs, H0, rfl, g0, hP0, nx, hx, hKi, hPl, hRo, hG, hBa, hB, sm, kQ, kE⟩ := h
    have hr1 : Room 1 _ := hr.mono (by decide)
    have hr2 : Room 2 _ := hr.mono (by decide)
    have hr3 : Room 3 _ := hr.mono (by decide)
    refine ⟨_, pss_cons (ps_fld (pv 0) (pe_call (E := E) GY hr1 (by rfl) gY kY bY .nil (passes_call (takes_of rfl rfl rfl rfl) (fun _ _ _ _ h => h)) (pa_cons (pv 1) pa_nil)) rfl)
      (pss_cons (ps_fld (pv 0) (pe_call (E := E) GN hr3 (by rfl) gN kN bN .nil (passes_call (takes_of rfl rfl rfl rfl) (fun _ _ _ _ h => h)) (pa_cons (pv 2) (pa_cons pe_int (pa_cons (pe_gI hk) pa_nil)))) rfl)
      (pss_cons (ps_fld (pv 0) (pe_call (E := E) GN hr3 (by rfl) gN kN bN .nil (passes_call (takes_of rfl rfl rfl rfl) (fun _ _ _ _ h => h)) (pa_cons (pv 3) (pa_cons pe_int (pa_cons (pe_gI hp) pa_nil)))) rfl)
      (pss_cons (ps_fld (pv 0) (pe_call (E := E) GR hr (by rfl) gR kR bR .nil (passes_call (takes_of rfl rfl rfl rfl) (fun _ _ _ _ h => h)) (pa_cons (pv 4) (pa_cons (pv 1) (pa_cons (pe_fld (pv 0) rfl) (pa_cons (pe_fld (pv 0) rfl) pa_nil))))) rfl)
      (pss_cons (ps_fld (pv 0) (pe_dc (own := [("road", 6)]) (g := gName 6) (tt := tYes) rfl scInit.nd (pi_tup (pe_fld (pv 0) rfl)) (blkOk_by (N := nInit) (sc := defScope sInit) (by decide +kernel)) (fun _ _ _ _ _ => pg_name (i := 6) scInit.nd rfl (Or.inl rfl)) (fun _ _ _ _ _ => pts_nil)
          (fun _ _ _ _ _ => pe_ix (r := rIxT K) ix_tup (pv 6) (pe_gI hn) (fun _ _ => rfl)) (fun _ _ _ _ _ => pv 6)) rfl)
      (pss_cons (ps_fld (pv 0) (pe_call (E := E) GB hr2 (by rfl) gB kB bB .nil (passes_call (takes_of rfl rfl rfl rfl) (fun _ _ _ _ h => h)) (pa_cons (pv 5) (pa_cons (pe_fld (pv 0) rfl) pa_nil))) rfl)
      (pss_one (ps_fld (pv 0) (pe_dcT (own := [("bar", 7)]) (g := gName 7) (tt := tYes) (u1 hr.units) rfl scInit.nd (pi_tup (pe_fld (pv 0) rfl)) (blkOk_by (N := nInit) (sc := defScope sInit) (by decide +kernel)) (fun _ _ _ _ _ => pg_name (i := 7) scInit.nd rfl (Or.inl rfl)) (fun _ _ _ _ _ => pts_nil)
          (fun _ _ _ _ _ => pv 7) (fun _ _ _ _ _ => pe_bl)) rfl))))))), ?_⟩
    have nins : ∀ (fs : List (Str × V)) (q : Array Value), (HO.ins M dx fs) ≠ .tbl q := fun _ _ z => by cases z
    -- day
    refine ⟨_, rfl, d, rfl, sm.d, g0.tab, fun d1 d2 => ?_, fun nd => (kE fun ⟨_, _, _, _, o⟩ => nd ⟨o.d1, o.d2⟩).on g0⟩
    refine ⟨_, rfl, x, M, dx, [], rfl, hx, T.cl, T.n1, by decide, ?_⟩
    have ga := g0.write (o := .ins M dx (putF "day" (.int d) [])) hx (nins _) nx
    have la : (putF ("day" : Str) (V.int d) []).length ≤ 1 := length_putF _ _ []
    -- kinds
    refine ⟨_, rfl, ki, ck, ks, 1, 4, rfl, hKi.grew ga hP0, sm.kl, sm.k, by decide, by decide, ga.tab, fun kok Hb kk ks' gb nk ek pk ak => ?_, fun nok => (kE fun ⟨_, _, _, _, o⟩ => nok ⟨by have := o.k1; omega, by have := o.k2; omega, o.kn, o.kd⟩).on ga⟩
    have xb := gb.get ga.tab upd_same (nins _)
    refine ⟨_, rfl, x, M, dx, _, rfl, xb, T.cl, T.n2, by omega, ?_⟩
    have gc := (ga.trans gb).write (o := .ins M dx (putF "kinds" (.ref kk) (putF "day" (.int d) []))) xb (nins _) nx
    have lc := length_putF ("kinds" : Str) (V.ref kk) (putF ("day" : Str) (V.int d) [])
    have tk := tup_ins (o := .ins M dx (putF "kinds" (.ref kk) (putF "day" (.int d) []))) xb ek
    -- places
    refine ⟨_, rfl, pl, cp, ps, 0, 30, rfl, hPl.grew gc hP0, sm.pl, sm.p, by decide, by decide, gc.tab, fun pok Hd pp ps' gd np ep pp' ap => ?_, fun nok => (kE fun ⟨_, _, _, _, o⟩ => nok ⟨by omega, by have := o.p2; omega, o.pn, o.pd⟩).on gc⟩
    have xd := gd.get gc.tab upd_same (nins _)
    refine ⟨_, rfl, x, M, dx, _, rfl, xd, T.cl, T.n3, by omega, ?_⟩
    have ge := (gc.trans gd).write (o := .ins M dx (putF "places" (.ref pp) (putF "kinds" (.ref kk) (putF "day" (.int d) [])))) xd (nins _) nx
    have le := length_putF ("places" : Str) (V.ref pp) (putF ("kinds" : Str) (V.ref kk) (putF ("day" : Str) (V.int d) []))
    generalize hfs : putF ("places" : Str) (V.ref pp) (putF ("kinds" : Str) (V.ref kk) (putF ("day" : Str) (V.int d) [])) = fs at ge le ⊢
    have f0 : ∀ f, f ∉ nmF → fs.lookup f = none := by rw [← hfs]; exact noF (noF (noF (fun _ _ => rfl) (by decide +kernel)) (by decide +kernel)) (by decide +kernel)
    have f3 : fs.lookup ("places" : Str) = some (V.ref pp) := by rw [← hfs, lookup_putF, if_pos rfl]
    have f2 : fs.lookup ("kinds" : Str) = some (V.ref kk) := by rw [← hfs, lookup_putF, if_neg (by decide +kernel), lookup_putF, if_pos rfl]
    have f1 : fs.lookup ("day" : Str) = some (V.int d) := by rw [← hfs, lookup_putF, if_neg (by decide +kernel), lookup_putF, if_neg (by decide +kernel), lookup_putF, if_pos rfl]
    have tk2 := tup_ins (o := .ins M dx fs) xd (gd.tup gc.tab tk)
    have tp2 := tup_ins (o := .ins M dx fs) xd ep
    -- roads
    refine ⟨_, rfl, _, rfl, _, rfl, x, M, dx, _, _, rfl, upd_same, T.cl, T.n3, f3, _, rfl, x, M, dx, _, _, rfl, upd_same, T.cl, T.n2, f2,
      ro, pp, kk, cr, d, ps', ks', gs, xs, rfl, hRo.grew ge hP0, Paired.map' hG (fun r v m => GItem.grew ge hP0 m), sm.r, sm.rl, SqT.of tp2, SqT.of tk2, by have := kok.2.1; rw [pk.length_eq]; omega, ge.tab, fun rs ers okr' Hf rr rs' ys gf kr ar nr er hm => ?_, fun nok => (kE fun ⟨rs, _, e, _, o⟩ => nok ⟨rs, e, o.r.perm pp' pk⟩).on ge⟩
    have okr : RoadsOk d ps ks rs := okr'.perm pp'.symm pk.symm
    have xf := gf.get ge.tab upd_same (nins _)
    refine ⟨_, rfl, x, M, dx, _, rfl, xf, T.cl, T.n4, by omega, ?_⟩
    have gg := (ge.trans gf).write (o := .ins M dx (putF "roads" (.ref rr) fs)) xf (nins _) nx
    have lg := length_putF ("roads" : Str) (V.ref rr) fs
    have fg4 : (putF ("roads" : Str) (V.ref rr) fs).lookup ("roads" : Str) = some (V.ref rr) := by rw [lookup_putF, if_pos rfl]
    have fg3 : (putF ("roads" : Str) (V.ref rr) fs).lookup ("places" : Str) = some (V.ref pp) := by rw [lookup_putF, if_neg (by decide +kernel)]; exact f3
    have fg2 : (putF ("roads" : Str) (V.ref rr) fs).lookup ("kinds" : Str) = some (V.ref kk) := by rw [lookup_putF, if_neg (by decide +kernel)]; exact f2
    have fg1 : (putF ("roads" : Str) (V.ref rr) fs).lookup ("day" : Str) = some (V.int d) := by rw [lookup_putF, if_neg (by decide +kernel)]; exact f1
    have fg0 := noF (v := V.ref rr) f0 (show ("roads" : Str) ∈ nmF by decide +kernel)
    generalize hgs : putF ("roads" : Str) (V.ref rr) fs = gs at gg lg fg0 fg1 fg2 fg3 fg4 ⊢
    have tr3 := tup_ins (o := .ins M dx gs) xf er
    have tk3 := tup_ins (o := .ins M dx gs) xf (gf.tup ge.tab tk2)
    have tp3 := tup_ins (o := .ins M dx gs) xf (gf.tup ge.tab tp2)
    have hm3 : Paired (RoadAt K (L2.upd Hf x (.ins M dx gs))) rs' ys := Paired.map' hm fun r v m => m.ins xf
    have lys : ys.length ≤ 60 := by rw [← Paired.len hm3, kr.len]; exact okr.len
    have ndr := kr.nodup okr.nd
    generalize hHg : L2.upd Hf x (.ins M dx gs) = Hg at gg tr3 tk3 tp3 hm3 ⊢
    have xg : Hg x = some (.ins M dx gs) := by rw [← hHg]; exact upd_same
    -- _roads_by_name
    refine ⟨_, rfl, x, M, dx, _, _, rfl, xg, T.cl, T.n4, fg4, rr, rfl, ⟨_, SqT.of tr3⟩, fun D nD => dc_tup (K := K) (a := rr) (xs := ys)
      (fun i H1 => Grew P Hg H1 ∧ ∃ kvs, H1 D = some (.dK kvs) ∧ kvs.length ≤ i ∧ (∀ (j : Nat) r v, j < i → rs'[j]? = some r → ys[j]? = some v → valV kvs (.inr r.name) = some v) ∧ ∀ z : Str, (∀ r ∈ rs'.take i, r.name ≠ z) → valV kvs (.inr z) = none)
      ⟨Grew.new gg.tab nD, [], upd_same, Nat.le_refl _, fun j r v h => absurd h (Nat.not_lt_zero _), fun z _ => rfl⟩ (fun i H1 _ p => SqT.of (p.1.tup gg.tab tr3)) (fun i y H1 hy p => ?_) (fun Hh p => ?_)⟩
    · obtain ⟨g, kvs, hD, hl, hin, hno⟩ := p
      obtain ⟨r, hri, m⟩ := Paired.at hm3 hy
      have hi : i < ys.length := (List.getElem?_eq_some_iff.mp hy).1
      have m1 := m.grew g gg.tab
      obtain ⟨t, q, h, rfl, et, _⟩ := m1
      refine ⟨rfl, _, rfl, t, _, 0, .str r.name, rfl, rfl, SqT.of et, rfl, _, rfl, kvs, .inr r.name, rfl, hD, ?_, g.write hD (fun _ z => by cases z) nD, _, upd_same, ?_, fun j r' v' hj hr' hv' => ?_, fun z hz => ?_⟩
      · rw [sizeLine_eq]; omega
      · exact Nat.le_trans (length_putK kvs (.inr r.name) _) (by omega)
      · rw [valV_put]
        by_cases e : j = i
        · subst e
          rw [hri] at hr'
          rw [hy] at hv'
          cases hr'; cases hv'
          rw [if_pos rfl]
        · have ne : ¬ (Sum.inr r'.name : Key) = .inr r.name := fun z => by
            injection z with z
            have hri' := (List.getElem?_eq_some_iff.mp hri)
            have hrj' := (List.getElem?_eq_some_iff.mp hr')
            obtain ⟨a1, a2⟩ := hri'
            obtain ⟨b1, b2⟩ := hrj'
            refine absurd ?_ (List.pairwise_iff_getElem.mp ndr j i (by rw [List.length_map]; exact b1) (by rw [List.length_map]; exact a1) (by omega))
            rw [List.getElem_map, List.getElem_map, a2, b2]
            exact z
          rw [if_neg ne]
          exact hin j r' v' (by omega) hr' hv'
      · rw [valV_put, if_neg ?_]
        · exact hno z fun r' hr' => hz r' (by rw [List.take_succ]; exact List.mem_append_left _ hr')
        · intro e
          injection e with e
          exact hz r (by rw [List.take_succ, hri]; exact List.mem_append_right _ (List.mem_singleton.mpr rfl)) e.symm
    · obtain ⟨gh, kvs, hD, hl, hin, hno⟩ := p
      have xh := gh.get gg.tab xg (nins _)
      refine ⟨_, rfl, x, M, dx, _, rfl, xh, T.cl, T.n5, by omega, ?_⟩
      have gi := (gg.trans gh).write (o := .ins M dx (putF "_roads_by_name" (.ref D) gs)) xh (nins _) nx
      have li := length_putF ("_roads_by_name" : Str) (V.ref D) gs
      have fi5 : (putF ("_roads_by_name" : Str) (V.ref D) gs).lookup ("_roads_by_name" : Str) = some (V.ref D) := by rw [lookup_putF, if_pos rfl]
      have fi4 : (putF ("_roads_by_name" : Str) (V.ref D) gs).lookup ("roads" : Str) = some (V.ref rr) := by rw [lookup_putF, if_neg (by decide +kernel)]; exact fg4
      have fi3 : (putF ("_roads_by_name" : Str) (V.ref D) gs).lookup ("places" : Str) = some (V.ref pp) := by rw [lookup_putF, if_neg (by decide +kernel)]; exact fg3
      have fi2 : (putF ("_roads_by_name" : Str) (V.ref D) gs).lookup ("kinds" : Str) = some (V.ref kk) := by rw [lookup_putF, if_neg (by decide +kernel)]; exact fg2
      have fi1 : (putF ("_roads_by_name" : Str) (V.ref D) gs).lookup ("day" : Str) = some (V.int d) := by rw [lookup_putF, if_neg (by decide +kernel)]; exact fg1
      have fi0 := noF (v := V.ref D) fg0 (show ("_roads_by_name" : Str) ∈ nmF by decide +kernel)
      generalize his : putF ("_roads_by_name" : Str) (V.ref D) gs = is at gi li fi0 fi1 fi2 fi3 fi4 fi5 ⊢
      have hmh : Paired (RoadAt K Hh) rs' ys := Paired.map' hm3 fun r v m => m.grew gh gg.tab
      have dR : DictR K (L2.upd Hh x (.ins M dx is)) D rs' := by
        refine DictR.ins xh ⟨kvs, hD, fun r hr => ?_, fun z hz => hno z fun r hr => hz r (List.mem_of_mem_take hr)⟩
        obtain ⟨j, hj, ej⟩ := List.getElem_of_mem hr
        have hj' : rs'[j]? = some r := List.getElem?_eq_some_iff.mpr ⟨hj, ej⟩
        obtain ⟨v, hv, m⟩ := Paired.to hmh hj'
        exact ⟨v, hin j r v (List.getElem?_eq_some_iff.mp hv).1 hj' hv, m⟩
      have tr4 := tup_ins (o := .ins M dx is) xh (gh.tup gg.tab tr3)
      have tk4 := tup_ins (o := .ins M dx is) xh (gh.tup gg.tab tk3)
      have tp4 := tup_ins (o := .ins M dx is) xh (gh.tup gg.tab tp3)
      have hm4 : Paired (RoadAt K (L2.upd Hh x (.ins M dx is))) rs' ys := Paired.map' hmh fun r v m => m.ins xh
      generalize hHi : L2.upd Hh x (.ins M dx is) = Hi at gi tr4 tk4 tp4 hm4 dR ⊢
      have xi : Hi x = some (.ins M dx is) := by rw [← hHi]; exact upd_same
      -- bars
      refine ⟨_, rfl, _, rfl, x, M, dx, _, _, rfl, xi, T.cl, T.n5, fi5, ba, D, cb, rs', bg, zs, rfl, hBa.grew gi hP0, Paired.map' hB (fun b v m => GBarX.grew gi hP0 m), sm.bl, sm.b, dR, ndr, gi.tab, fun bs ebs okb' Hj bb bs' zs' gj pb ab nb eb hz => ?_, fun nok => (kE fun ⟨rs2, bs, e2, e, o⟩ => nok ⟨bs, e, by
        have q : rs2 = rs := List.map_inj_right (fun a b h => rG_inj (Sum.inl.inj h)) |>.mp (e2.symm.trans ers)
        rw [q] at o
        exact o.b.kept kr⟩).on gi⟩
      have okb : BarsOk rs bs := okb'.keptR kr
      have xj := gj.get gi.tab xi (nins _)
      refine ⟨_, rfl, x, M, dx, _, rfl, xj, T.cl, T.n6, by omega, ?_⟩
      have gk := (gi.trans gj).write (o := .ins M dx (putF "bars" (.ref bb) is)) xj (nins _) nx
      have lk := length_putF ("bars" : Str) (V.ref bb) is
      have fk6 : (putF ("bars" : Str) (V.ref bb) is).lookup ("bars" : Str) = some (V.ref bb) := by rw [lookup_putF, if_pos rfl]
      have fk5 : (putF ("bars" : Str) (V.ref bb) is).lookup ("_roads_by_name" : Str) = some (V.ref D) := by rw [lookup_putF, if_neg (by decide +kernel)]; exact fi5
      have fk4 : (putF ("bars" : Str) (V.ref bb) is).lookup ("roads" : Str) = some (V.ref rr) := by rw [lookup_putF, if_neg (by decide +kernel)]; exact fi4
      have fk3 : (putF ("bars" : Str) (V.ref bb) is).lookup ("places" : Str) = some (V.ref pp) := by rw [lookup_putF, if_neg (by decide +kernel)]; exact fi3
      have fk2 : (putF ("bars" : Str) (V.ref bb) is).lookup ("kinds" : Str) = some (V.ref kk) := by rw [lookup_putF, if_neg (by decide +kernel)]; exact fi2
      have fk1 : (putF ("bars" : Str) (V.ref bb) is).lookup ("day" : Str) = some (V.int d) := by rw [lookup_putF, if_neg (by decide +kernel)]; exact fi1
      have fk0 := noF (v := V.ref bb) fi0 (show ("bars" : Str) ∈ nmF by decide +kernel)
      generalize hjs : putF ("bars" : Str) (V.ref bb) is = js at gk lk fk0 fk1 fk2 fk3 fk4 fk5 fk6 ⊢
      have tb5 := tup_ins (o := .ins M dx js) xj eb
      have tr5 := tup_ins (o := .ins M dx js) xj (gj.tup gi.tab tr4)
      have tk5 := tup_ins (o := .ins M dx js) xj (gj.tup gi.tab tk4)
      have tp5 := tup_ins (o := .ins M dx js) xj (gj.tup gi.tab tp4)
      have hm5 : Paired (RoadAt K (L2.upd Hj x (.ins M dx js))) rs' ys := Paired.map' hm4 fun r v m => (m.grew gj gi.tab).ins xj
      have hz5 : Paired (GBar (L2.upd Hj x (.ins M dx js))) bs' zs' := Paired.map' hz fun b v m => m.ins xj
      have dR5 : DictR K (L2.upd Hj x (.ins M dx js)) D rs' := (dR.grew gj gi.tab).ins xj
      have lzs : zs'.length ≤ 40 := by rw [← Paired.len hz5, pb.length_eq]; exact okb.len
      generalize hHk : L2.upd Hj x (.ins M dx js) = Hk at gk tb5 tr5 tk5 tp5 hm5 hz5 dR5 ⊢
      have xk : Hk x = some (.ins M dx js) := by rw [← hHk]; exact upd_same
      -- _barred
      refine ⟨_, rfl, x, M, dx, _, _, rfl, xk, T.cl, T.n6, fk6, bb, rfl, ⟨_, SqT.of tb5⟩, fun D2 nD2 => dcT_tup (K := K) (a := bb) (xs := zs')
        (fun i H1 => Grew P Hk H1 ∧ ∃ kvs : List (List Key × V), H1 D2 = some (.dT kvs) ∧ kvs.length ≤ i ∧ ∀ a b : Str, (valV kvs [.inr a, .inr b]).isSome = true ↔ (a, b) ∈ bs'.take i)
        ⟨Grew.new gk.tab nD2, [], upd_same, Nat.le_refl _, fun a b => by simp [valV_nil]⟩ (fun i H1 _ p => SqT.of (p.1.tup gk.tab tb5)) (fun i y H1 hy p => ?_) (fun Hl p => ?_)⟩
      · obtain ⟨g, kvs, hD, hl, hin⟩ := p
        obtain ⟨b, hbi, m⟩ := Paired.at hz5 hy
        have hi : i < zs'.length := (List.getElem?_eq_some_iff.mp hy).1
        obtain ⟨t, rfl, et⟩ := m.grew g gk.tab
        refine ⟨rfl, _, rfl, kvs, [.inr b.1, .inr b.2], t, rfl, et, hD, ?_, g.write hD (fun _ z => by cases z) nD2, _, upd_same, ?_, fun a' b' => ?_⟩
        · rw [sizeLine_eq]; omega
        · have := length_putK kvs ([.inr b.1, .inr b.2] : List Key) (V.bl true)
          omega
        · rw [valV_put, List.take_succ, hbi, List.mem_append]
          by_cases e : ([.inr a', .inr b'] : List Key) = [.inr b.1, .inr b.2]
          · rw [if_pos e]
            have e1 : a' = b.1 := Sum.inr.inj (List.cons.inj e).1
            have e2 : b' = b.2 := Sum.inr.inj (List.cons.inj (List.cons.inj e).2).1
            subst e1 e2
            exact ⟨fun _ => .inr (List.mem_singleton.mpr rfl), fun _ => rfl⟩
          · rw [if_neg e, hin a' b']
            refine ⟨.inl, fun h => h.elim id fun h => ?_⟩
            have h' : (a', b') = b := List.mem_singleton.mp h
            subst h'
            exact absurd rfl e
      · obtain ⟨gl, kvs, hD, hl, hin⟩ := p
        have lb : bs'.length = zs'.length := Paired.len hz5
        rw [← lb, List.take_length] at hin
        have xl := gl.get gk.tab xk (nins _)
        refine ⟨_, rfl, x, M, dx, _, rfl, xl, T.cl, T.n7, by omega, ?_⟩
        have gm := (gk.trans gl).write (o := .ins M dx (putF "_barred" (.ref D2) js)) xl (nins _) nx
        refine kQ rs bs ers ebs ⟨d1, d2, by have := kok.1; omega, by have := kok.2.1; omega, by have := pok.2.1; omega, kok.2.2.1, pok.2.2.1, kok.2.2.2, pok.2.2.2, okr, okb⟩ _ ks' ps' rs' bs' gm pk ak pp' ap kr ar pb ab ⟨dx, putF "_barred" (.ref D2) js, kk, pp, rr, D, bb, D2, ys, zs', upd_same, ?_⟩
        constructor
        · exact noF fk0 (by decide +kernel)
        · rw [lookup_putF, if_neg (by decide +kernel)]; exact fk1
        · rw [lookup_putF, if_neg (by decide +kernel)]; exact fk2
        · rw [lookup_putF, if_neg (by decide +kernel)]; exact fk3
        · rw [lookup_putF, if_neg (by decide +kernel)]; exact fk4
        · rw [lookup_putF, if_neg (by decide +kernel)]; exact fk5
        · rw [lookup_putF, if_neg (by decide +kernel)]; exact fk6
        · rw [lookup_putF, if_pos rfl]
        · exact tup_ins xl (gl.tup gk.tab tk5)
        · exact tup_ins xl (gl.tup gk.tab tp5)
        · exact tup_ins xl (gl.tup gk.tab tr5)
        · exact Paired.map' hm5 fun r v m => (m.grew gl gk.tab).ins xl
        · exact (dR5.grew gl gk.tab).ins xl
        · exact tup_ins xl (gl.tup gk.tab tb5)
        · exact Paired.map' hz5 fun b v m => (m.grew gl gk.tab).ins xl
        · exact ⟨kvs, by rw [upd_ne (insNe xl hD (fun _ _ _ z => by cases z))]; exact hD, hin⟩
end
end W

set_option Elab.async false
set_option linter.all false
set_option maxRecDepth 100000
set_option maxHeartbeats 1000000
/-! xs[::n], n positive -/
namespace StS
open PySem PySem.Spec PyProof.Rows L2
theorem pick_sub {α : Type} {xs : List α} : ∀ {idx : List Nat} (m : Nat), idx.Pairwise (· < ·) → (∀ i ∈ idx, m ≤ i) → List.Sublist (idx.filterMap (xs[·]?)) (xs.drop m)
  | [], m, _, _ => List.nil_sublist _
  | i :: r, m, p, h => by
    have hi := h i List.mem_cons_self
    have q := List.pairwise_cons.mp p
    have ih := pick_sub (xs := xs) (i + 1) q.2 fun j hj => q.1 j hj
    cases e : xs[i]? with
    | none =>
      rw [List.filterMap_cons_none e]
      refine ih.trans ?_
      have : xs.drop (i + 1) = (xs.drop m).drop (i + 1 - m) := by rw [List.drop_drop]; congr 1; omega
      rw [this]
      exact List.drop_sublist _ _
    | some v =>
      rw [List.filterMap_cons_some e]
      obtain ⟨hl, ev⟩ := List.getElem?_eq_some_iff.mp e
      have e1 : xs.drop i = v :: xs.drop (i + 1) := by rw [List.drop_eq_getElem_cons hl, ev]
      have e2 : xs.drop i = (xs.drop m).drop (i - m) := by rw [List.drop_drop]; congr 1; omega
      refine List.Sublist.trans (?_ : List.Sublist _ (xs.drop i)) (by rw [e2]; exact List.drop_sublist _ _)
      rw [e1]
      exact List.Sublist.cons₂ v ih
theorem vals_pick : ∀ {idx : List Nat} {xs : List V} {us : List Value}, Vals xs us → Vals (idx.filterMap (xs[·]?)) (idx.filterMap (us[·]?))
  | [], _, _, _ => .nil
  | i :: r, xs, us, h => by
    have ih := vals_pick (idx := r) h
    cases e : xs[i]? with
    | none =>
      have e2 : us[i]? = none := by
        rw [List.getElem?_eq_none_iff] at e ⊢
        rw [← h.length]; exact e
      rw [List.filterMap_cons_none e, List.filterMap_cons_none e2]
      exact ih
    | some v =>
      obtain ⟨u, e2, rv⟩ := Vals.get h e
      rw [List.filterMap_cons_some e, List.filterMap_cons_some e2]
      exact .cons rv ih
theorem step_idx {n : Nat} {c : Int} (hc : 0 < c) : ∃ idx : List Nat, idx.Pairwise (· < ·) ∧ sliceRange (sliceBounds none none (some c) n).1 (sliceBounds none none (some c) n).2.1 (sliceBounds none none (some c) n).2.2 = idx := by
  refine ⟨_, ?_, rfl⟩
  have e : sliceBounds none none (some c) n = (0, (n : Int), c) := by
    unfold sliceBounds
    simp [show ¬ c < 0 by omega, hc]
  rw [e]
  unfold sliceRange
  refine List.pairwise_map.mpr ((List.pairwise_lt_range).imp fun {a b} h => ?_)
  have h1 : c * (a : Int) < c * (b : Int) := Int.mul_lt_mul_of_pos_left (by omega) hc
  have h2 : 0 ≤ c * (a : Int) := Int.mul_nonneg (by omega) (by omega)
  simp only [Int.zero_add]
  omega
def tStepL (K : PySem.W.Frag) (te ts : TE) : TE := fun σ H Q => te σ H fun x H1 => ∃ a xs, x = .ref a ∧ SqL K H1 a xs ∧ tPart ts σ H1 fun y H2 => ∃ c : Int, y = some c ∧ 0 < c ∧ SqL K H2 a xs ∧ ∀ p ys, List.Sublist ys xs → H2 p = none → Q (.ref p) (upd H2 p (.lst ys))
section
variable {X : Cx}
theorem pe_stepL {e st : Expr} {te ts : TE} {p3 pos : Pos} (he : PE X e te) (hst0 : PE X st ts) (hsub : ∀ v w, subscriptTail e (.Slice none none (some st) p3) v w = subscriptTail e (.Slice none none (some st) p3) v w := by intro _ _; rfl) : PE X (.Subscript e (.Slice none none (some st) p3) pos) (tStepL X.K te ts) := by
  refine ⟨fun pins s σ H Q I h => ?_⟩
  refine Subscript_ (thn (he.run pins s σ H _ I h) fun v s1 ⟨x, H1, I1, r1, q1⟩ => ?_)
  obtain ⟨a, xs, ex, hx, q⟩ := q1
  subst ex
  cases r1
  have hst : PO X (some st) (tPart ts) := po_some hst0
  refine wpAny_Slice (thn (po_none.run pins s1 σ H1 (fun o H2 => o = none ∧ H2 = H1) I1 ⟨rfl, rfl⟩) fun vl s2 ⟨l, H2, I2, pl, el, e2⟩ => ?_)
  subst el e2
  refine thn (po_none.run pins s2 σ H2 (fun o H3 => o = none ∧ H3 = H2) I2 ⟨rfl, rfl⟩) fun vu s3 ⟨u, H3, I3, pu, eu, e3⟩ => ?_
  subst eu e3
  refine thn (hst.run pins s3 σ H3 (fun o H4 => ∃ c : Int, o = some c ∧ 0 < c ∧ SqL X.K H4 a xs ∧ ∀ p ys, List.Sublist ys xs → H4 p = none → Q (.ref p) (upd H4 p (.lst ys))) I3 q) fun vs s4 ⟨o, H4, I4, ps, c, eo, hc, hx4, q4⟩ => ?_
  subst eo
  have I5 : Inv X pins σ H4 { s4 with heap := s4.heap.push { cls := .type "slice", data := .fields #[vl, vu, vs] } } := I4.kept (t' := s4.toks) fun b ob q => Heap.get?_push_of_some _ q
  obtain ⟨its, r, ht, hz⟩ := I5.list hx4
  have hlen := r.length
  show wpAny (model X.prog X.w) X.A (subscriptTail e (.Slice none none (some st) p3) (.ref a) (.ref s4.heap.objs.size)) (EP X pins σ Q) X.xe { s4 with heap := s4.heap.push { cls := .type "slice", data := .fields #[vl, vu, vs] } }
  refine tail_any (ops := [.ref a, .ref s4.heap.objs.size]) ht.isList.typeIs (PySem.slot_list_getitem.lookup) ?_ (by with_unfolding_all rfl)
  refine wpAny_getItem_list_slice ht.isList (Heap.IsSliceOf.new _ vl vu vs) pl pu ps (by intro z; injection z with z; omega) ?_ (by rw [List.size_toArray]; omega)
  obtain ⟨idx, hidx, eidx⟩ := step_idx (n := its.toArray.size) hc
  have epick : slicePick its.toArray none none (some c) = (idx.filterMap (its[·]?)).toArray := by
    unfold slicePick
    rw [eidx]
    simp
  rw [epick]
  have sub : List.Sublist (idx.filterMap (xs[·]?)) xs := by
    have := pick_sub (xs := xs) 0 hidx fun _ _ => Nat.zero_le _
    rwa [List.drop_zero] at this
  refine ⟨.ref _, _, I5.laid (t' := s4.toks) (o := .lst (idx.filterMap (xs[·]?))) (fun b ob q => Heap.get?_push_of_some _ q) (Nat.le_refl _) ?_, rfl, q4 _ _ sub (I5.hok.fresh (Nat.le_refl _))⟩
  exact ⟨Nat.le_trans sub.length_le hz, _, 0, vals_pick r, Heap.get?_push_size _ rfl⟩
end
end StS

set_option Elab.async false
set_option linter.all false
set_option maxRecDepth 100000
set_option maxHeartbeats 1000000
namespace W
open PySem PySem.Spec PyProof.Rows L2 GxR MyG MyS SqX
/-! ### drawn names, of the maps' laws -/
abbrev sLPick : Stmt := top 50
abbrev sLNames : Stmt := top 51
abbrev sLCount : Stmt := top 52
def rInt1 : List V → Hp → VK → Prop := fun xs H Q => (∃ i, xs = [.int i] ∧ Q (.int i) H) ∨ ∃ k, xs = [.bl k] ∧ Q (.int (if k then 1 else 0)) H
def rLenK (K : PySem.W.Frag) : List V → Hp → VK → Prop := fun xs H Q => ∃ p ys, xs = [V.ref p] ∧ (SqL K H p ys ∨ SqT K H p ys) ∧ Q (V.int ys.length) H
def zGood : Str := "abcdefghijklmnopqrstuvwxyz0123456789"
theorem good_all : ∀ c ∈ zGood.cps.toList, goodC c = true := by decide +kernel
theorem good_len : zGood.cps.toList.length = 36 := by decide +kernel
theorem good_nodup : zGood.cps.toList.Nodup := by decide +kernel
theorem good_let : ∀ c ∈ zGood.cps.toList.take 26, c ∈ zLet.cps.toList := by decide +kernel
theorem str_len (x : Str) : x.length = x.cps.toList.length := by simp [Str.length]
def chC (i : Int) : Nat := zGood.cps.toList.getD i.toNat 0
def chS (i : Int) : Str := ⟨#[chC i]⟩
theorem ch_at {i : Int} (h0 : 0 ≤ i) (h1 : i < 36) : atI zGood.cps.toList i = some (chC i) ∧ chC i ∈ zGood.cps.toList := by
  obtain ⟨n, rfl⟩ := Int.eq_ofNat_of_zero_le h0
  have hn : n < zGood.cps.toList.length := by rw [good_len]; omega
  have e : zGood.cps.toList[n]? = some (chC (n : Int)) := by
    unfold chC
    rw [Int.toNat_natCast, List.getD_eq_getElem?_getD, List.getElem?_eq_getElem hn]
    rfl
  exact ⟨atI_nat e, List.mem_of_getElem? e⟩
theorem ch_let {i : Int} (h0 : 0 ≤ i) (h1 : i < 26) : chC i ∈ zLet.cps.toList := by
  obtain ⟨n, rfl⟩ := Int.eq_ofNat_of_zero_le h0
  refine good_let _ ?_
  have hn : n < zGood.cps.toList.length := by rw [good_len]; omega
  unfold chC
  rw [Int.toNat_natCast, List.getD_eq_getElem?_getD, List.getElem?_eq_getElem hn, Option.getD_some]
  exact List.mem_take_iff_getElem.mpr ⟨n, by rw [good_len]; omega, rfl⟩
theorem ch_inj {i j : Int} (i0 : 0 ≤ i) (i1 : i < 36) (j0 : 0 ≤ j) (j1 : j < 36) (e : chC i = chC j) : i = j := by
  obtain ⟨n, rfl⟩ := Int.eq_ofNat_of_zero_le i0
  obtain ⟨m, rfl⟩ := Int.eq_ofNat_of_zero_le j0
  have hn : n < zGood.cps.toList.length := by rw [good_len]; omega
  have hm : m < zGood.cps.toList.length := by rw [good_len]; omega
  unfold chC at e
  rw [Int.toNat_natCast, Int.toNat_natCast, List.getD_eq_getElem?_getD, List.getD_eq_getElem?_getD, List.getElem?_eq_getElem hn, List.getElem?_eq_getElem hm] at e
  have e2 : zGood.cps.toList[n] = zGood.cps.toList[m] := by simpa using e
  rcases Nat.lt_trichotomy n m with c | c | c
  · exact absurd e2 (List.pairwise_iff_getElem.mp good_nodup n m hn hm c)
  · omega
  · exact absurd e2.symm (List.pairwise_iff_getElem.mp good_nodup m n hm hn c)
theorem tl_ch (i : Int) : TL.tl (chS i) = [chC i] := rfl
def nv (ns : List Int) (i : Nat) : Int := ns.getD i 0
theorem nv_at {ns : List Int} (hs : Sm ns) {i : Nat} (h : i < ns.length) : atI (ns.map V.int) (i : Int) = some (.int (nv ns i)) ∧ 0 ≤ nv ns i ∧ nv ns i < 1009 := by
  have e : nv ns i = ns[i] := by
    unfold nv
    rw [List.getD_eq_getElem?_getD, List.getElem?_eq_getElem h]; rfl
  rw [e]
  exact ⟨atI_nat (by rw [List.getElem?_map, List.getElem?_eq_getElem h]; rfl), hs _ (List.getElem_mem h)⟩
/-- the part that all names of a sort have -/
def preS (ns : List Int) (at_ : Nat) : Nat → Str
  | 0 => chS (nv ns at_ % 26)
  | k + 1 => preS ns at_ k ++ chS ((nv ns (at_ + 2) + (k : Int) * nv ns (at_ + 3)) % 36)
theorem pre_len (ns : List Int) (at_ : Nat) : ∀ k, (preS ns at_ k).length = k + 1
  | 0 => rfl
  | k + 1 => by
    show (preS ns at_ k ++ chS _).length = _
    rw [PySem.Str.length_append, pre_len ns at_ k]
    rfl
theorem pre_good {ns : List Int} (at_ : Nat) : ∀ k, ∀ c ∈ TL.tl (preS ns at_ k), c ∈ zGood.cps.toList
  | 0, c, h => by
    rw [show TL.tl (preS ns at_ 0) = [chC (nv ns at_ % 26)] from rfl] at h
    rw [List.mem_singleton.mp h]
    exact (ch_at (by omega) (by omega)).2
  | k + 1, c, h => by
    rw [show preS ns at_ (k + 1) = preS ns at_ k ++ chS ((nv ns (at_ + 2) + (k : Int) * nv ns (at_ + 3)) % 36) from rfl, TL.tl_append] at h
    rcases List.mem_append.mp h with h | h
    · exact pre_good at_ k c h
    · rw [tl_ch] at h
      rw [List.mem_singleton.mp h]
      exact (ch_at (by omega) (by omega)).2
theorem pre_head {ns : List Int} (at_ : Nat) : ∀ k, ∃ r, TL.tl (preS ns at_ k) = chC (nv ns at_ % 26) :: r
  | 0 => ⟨[], rfl⟩
  | k + 1 => by
    obtain ⟨r, e⟩ := pre_head (ns := ns) at_ k
    rw [show preS ns at_ (k + 1) = preS ns at_ k ++ chS ((nv ns (at_ + 2) + (k : Int) * nv ns (at_ + 3)) % 36) from rfl, TL.tl_append, e]
    exact ⟨_, rfl⟩
def tailS (k : Nat) : Str := if 36 ≤ k then "q" else ""
/-- the k-th name -/
def nameS (pre : Str) (place : Nat) (shift : Int) (k : Nat) : Str := ((cutS pre none (some (place : Int)) ++ chS ((shift + 5 * (k : Int)) % 36)) ++ tailS k) ++ cutS pre (some (place : Int)) none
theorem cut_pre {z : Str} {k : Nat} (h : k ≤ z.length) : (cutS z none (some (k : Int))).cps.toList = z.cps.toList.take k := by
  unfold cutS
  rw [HT.sIx_none, HT.sIx_nat, List.drop_zero, Nat.sub_zero, Nat.min_eq_left h]
theorem cut_suf {z : Str} {k : Nat} (h : k ≤ z.length) : (cutS z (some (k : Int)) none).cps.toList = z.cps.toList.drop k := by
  unfold cutS
  rw [HT.sIx_none, HT.sIx_nat, Nat.min_eq_left h]
  show (z.cps.toList.drop k).take (z.length - k) = z.cps.toList.drop k
  refine List.take_of_length_le ?_
  rw [List.length_drop, str_len]
  exact Nat.le_refl _
theorem name_tl {pre : Str} {place : Nat} {shift : Int} {k : Nat} (h : place ≤ pre.length) : TL.tl (nameS pre place shift k) = (TL.tl pre).take place ++ [chC ((shift + 5 * (k : Int)) % 36)] ++ TL.tl (tailS k) ++ (TL.tl pre).drop place := by
  unfold nameS
  rw [TL.tl_append, TL.tl_append, TL.tl_append, tl_ch, show TL.tl (cutS pre none (some (place : Int))) = (TL.tl pre).take place from cut_pre h, show TL.tl (cutS pre (some (place : Int)) none) = (TL.tl pre).drop place from cut_suf h]
theorem tail_len (k : Nat) : (TL.tl (tailS k)).length = if 36 ≤ k then 1 else 0 := by
  unfold tailS
  split <;> decide +kernel
theorem name_len {pre : Str} {place : Nat} {shift : Int} {k : Nat} (h : place ≤ pre.length) : (nameS pre place shift k).length = pre.length + 1 + if 36 ≤ k then 1 else 0 := by
  rw [TL.len_tl, name_tl h]
  simp only [List.length_append, List.length_take, List.length_drop, List.length_singleton, tail_len]
  rw [TL.len_tl] at h
  rw [TL.len_tl pre]
  omega
theorem name_ok {ns : List Int} {at_ m place : Nat} {shift : Int} {k : Nat} (hm : m ≤ 9) (h0 : 1 ≤ place) (h : place ≤ m + 1) : isNm (nameS (preS ns at_ m) place shift k) = true := by
  have hl := pre_len ns at_ m
  have hp : place ≤ (preS ns at_ m).length := by omega
  have e := name_tl (shift := shift) (k := k) hp
  have nl := name_len (shift := shift) (k := k) hp
  obtain ⟨r, er⟩ := pre_head (ns := ns) at_ m
  unfold isNm
  obtain ⟨p', rfl⟩ : ∃ p', place = p' + 1 := ⟨place - 1, by omega⟩
  have e2 : (nameS (preS ns at_ m) (p' + 1) shift k).cps.toList = chC (nv ns at_ % 26) :: (r.take p' ++ [chC ((shift + 5 * (k : Int)) % 36)] ++ TL.tl (tailS k) ++ (TL.tl (preS ns at_ m)).drop (p' + 1)) := by
    show TL.tl _ = _
    rw [e, er]
    rfl
  have hall : ∀ c ∈ TL.tl (nameS (preS ns at_ m) (p' + 1) shift k), goodC c = true := fun c hc => by
    rw [e] at hc
    rcases List.mem_append.mp hc with hc | hc
    · rcases List.mem_append.mp hc with hc | hc
      · rcases List.mem_append.mp hc with hc | hc
        · exact good_all c (pre_good at_ m c (List.mem_of_mem_take hc))
        · rw [List.mem_singleton.mp hc]
          exact good_all _ (ch_at (by omega) (by omega)).2
      · unfold tailS at hc
        split at hc
        · have a : ∀ c ∈ TL.tl ("q" : Str), goodC c = true := by decide +kernel
          exact a c hc
        · have a : ∀ c ∈ TL.tl ("" : Str), goodC c = true := by decide +kernel
          exact a c hc
    · exact good_all c (pre_good at_ m c (List.mem_of_mem_drop hc))
  simp only [Bool.and_eq_true, decide_eq_true_eq]
  refine ⟨⟨⟨?_, ?_⟩, ?_⟩, List.all_eq_true.mpr hall⟩
  · rw [nl]; omega
  · rw [nl]; split <;> omega
  · rw [e2]
    exact decide_eq_true (ch_let (i := nv ns at_ % 26) (by omega) (by omega))
theorem name_inj {pre : Str} {place : Nat} {shift : Int} {k l : Nat} (h : place ≤ pre.length) (hk : k < 72) (hl : l < 72) (e : nameS pre place shift k = nameS pre place shift l) : k = l := by
  have e1 := congrArg Str.length e
  rw [name_len h, name_len h] at e1
  have e2 := congrArg TL.tl e
  rw [name_tl h, name_tl h] at e2
  have et : tailS k = tailS l := by
    unfold tailS
    by_cases a : 36 ≤ k <;> by_cases b : 36 ≤ l
    · rw [if_pos a, if_pos b]
    · rw [if_pos a, if_neg b] at e1; omega
    · rw [if_neg a, if_pos b] at e1; omega
    · rw [if_neg a, if_neg b]
  rw [et, List.append_assoc, List.append_assoc, List.append_assoc, List.append_assoc, List.append_cancel_left_eq] at e2
  have e3 : chC ((shift + 5 * (k : Int)) % 36) = chC ((shift + 5 * (l : Int)) % 36) := (List.cons.inj e2).1
  have e4 := ch_inj (by omega) (by omega) (by omega) (by omega) e3
  by_cases a : 36 ≤ k <;> by_cases b : 36 ≤ l
  · omega
  · rw [if_pos a, if_neg b] at e1; omega
  · rw [if_neg a, if_pos b] at e1; omega
  · omega
def atOf (ns : List Int) (a : Nat) : Nat := if nv ns 1 % 5 = 1 then 2 else a
def sizeOf' (ns : List Int) (a : Nat) : Nat := (nv ns (a + 1) % 10).toNat
/-- the drawn names -/
def nameK (ns : List Int) (a0 k : Nat) : Str :=
  let a := atOf ns a0
  let m := sizeOf' ns a
  nameS (preS ns a m) (1 + (nv ns (a + 4) % ((m : Int) + 1)).toNat) (nv ns (a + 5)) k
def namesL (ns : List Int) (a0 many : Nat) : List Str := (List.range many).map (nameK ns a0)
theorem size_le (ns : List Int) (a : Nat) : sizeOf' ns a ≤ 9 := by unfold sizeOf'; omega
theorem place_le (ns : List Int) (a m : Nat) : (nv ns (a + 4) % ((m : Int) + 1)).toNat ≤ m := by
  have := Int.emod_lt_of_pos (nv ns (a + 4)) (show (0 : Int) < (m : Int) + 1 by omega)
  have := Int.emod_nonneg (nv ns (a + 4)) (show (m : Int) + 1 ≠ 0 by omega)
  omega
theorem nameK_ok (ns : List Int) (a0 k : Nat) : isNm (nameK ns a0 k) = true := name_ok (size_le ns _) (by omega) (by have := place_le ns (atOf ns a0) (sizeOf' ns (atOf ns a0)); omega)
theorem nameK_inj {ns : List Int} {a0 k l : Nat} (hk : k < 72) (hl : l < 72) (e : nameK ns a0 k = nameK ns a0 l) : k = l :=
  name_inj (by rw [pre_len]; have := place_le ns (atOf ns a0) (sizeOf' ns (atOf ns a0)); omega) hk hl e
theorem namesL_ok (ns : List Int) (a0 many : Nat) : (namesL ns a0 many).all isNm = true := List.all_eq_true.mpr fun z hz => by
  obtain ⟨k, _, rfl⟩ := List.mem_map.mp hz
  exact nameK_ok ns a0 k
theorem namesL_nodup {ns : List Int} {a0 many : Nat} (h : many ≤ 72) : (namesL ns a0 many).Nodup := by
  refine List.pairwise_map.mpr ?_
  refine List.Pairwise.imp_of_mem (R := (· ≠ ·)) ?_ (List.nodup_range (n := many))
  intro x y hx hy ne e
  exact ne (nameK_inj (by have := List.mem_range.mp hx; omega) (by have := List.mem_range.mp hy; omega) e)
theorem namesL_len (ns : List Int) (a0 many : Nat) : (namesL ns a0 many).length = many := by unfold namesL; rw [List.length_map, List.length_range]
theorem namesL_take {ns : List Int} {a0 many i : Nat} (h : i ≤ many) : (namesL ns a0 many).take i = namesL ns a0 i := by
  unfold namesL
  rw [← List.map_take, List.take_range, Nat.min_eq_left h]
end W

set_option Elab.async false
set_option linter.all false
set_option maxRecDepth 100000
set_option maxHeartbeats 2000000
namespace W
open PySem PySem.Spec PyProof.Rows L2 GxR MyG MyS SqX
def spLPick (K : PySem.W.Frag) : Sp := fun vs H Q _ => ∃ (a : Addr) (ns : List Int) (k : Int), vs = [.ref a, .int k] ∧ SqL K H a (ns.map V.int) ∧ Sm ns ∧ 0 < ns.length ∧ ns.length ≤ 1000 ∧ 0 ≤ k ∧ ∀ v : Int, 0 ≤ v → Q (.int v) H
def spLCount : Sp := fun vs H Q _ => ∃ n lo hi : Int, vs = [.int n, .int lo, .int hi] ∧ 0 ≤ n ∧ lo ≤ hi ∧ ∀ v : Int, lo ≤ v → v ≤ hi → Q (.int v) H
def spLNames (K : PySem.W.Frag) (P : Addr) : Sp := fun vs H Q _ => ∃ (a : Addr) (ns : List Int) (at_ many : Nat), vs = [.ref a, .int (at_ : Int), .int (many : Int)] ∧ SqL K H a (ns.map V.int) ∧ Sm ns ∧ at_ + 6 ≤ ns.length ∧ 8 ≤ ns.length ∧ many ≤ 72 ∧ TabG H P ∧
  ∀ H' p, Grew P H H' → H p = none → H' p = some (.lst ((namesL ns at_ many).map V.str)) → Q (.ref p) H'
section
variable {Pg : Program} {w : World} {K : PySem.W.Frag} {mg : Str → Option Value} {base : Heap} {C P : Addr}
theorem scLPick : FnScope ["numbers", "k"] ["numbers", "k"] (defScope sLPick) := ⟨rfl, rfl, rfl, by decide +kernel, rfl, by decide +kernel, by decide +kernel⟩
theorem ok_lpick {f : Addr} {fd : FuncData} (F : Fun K "_law_pick" "_law_pick" sLPick f fd) (hi : mg "int" = none) (hl : mg "len" = none) : FnOk Pg w K mg base CX0 1 f fd ["numbers", "k"] (spLPick K) := by
  refine F.ok scLPick (fun vs H Q E h => ?_) (fun cdv A outer s H vs Q E hr h => ?_)
  · obtain ⟨a, ns, k, rfl, _⟩ := h
    rfl
  · obtain ⟨a, ns, k, rfl, hA, hsm, hpos, hl9, hk, kQ⟩ := h
    refine ⟨_, pss_one (ps_ret (pe_op op_add (pe_callTy (r := rInt1) call_int1 (by rfl) hi (by decide +kernel) (pa_cons (pe_ix (r := rIxL K) ix_list (pv 0) (pe_op op_mod (pv 1) (pe_callB (r := rLenK K) call_len_seq (by rfl) hl PySem.boot_len (pa_cons (pv 0) pa_nil))) (fun _ _ => rfl)) pa_nil))
      (pe_op op_mul pe_int (pe_op op_fdiv (pv 1) (pe_callB (r := rLenK K) call_len_seq (by rfl) hl PySem.boot_len (pa_cons (pv 0) pa_nil)))))), ?_⟩
    have hpz : (0 : Int) < ((ns.map V.int).length : Int) := by rw [List.length_map]; omega
    have b0 := Int.emod_nonneg k (show ((ns.map V.int).length : Int) ≠ 0 by omega)
    have b1 := Int.emod_lt_of_pos k hpz
    obtain ⟨i, ei⟩ := Int.eq_ofNat_of_zero_le b0
    have hi2 : i < ns.length := by rw [ei, List.length_map] at b1; omega
    obtain ⟨e, e0, _⟩ := nv_at hsm hi2
    have hd : (0 : Int) ≤ k / ((ns.map V.int).length : Int) := Int.ediv_nonneg hk (by omega)
    refine ⟨_, rfl, _, rfl, _, rfl, a, _, rfl, .inl hA, _, _, rfl, rfl, hpz, a, _, _, .int (nv ns i), rfl, rfl, hA, (show atI (ns.map V.int) (k % ((ns.map V.int).length : Int)) = _ by rw [ei]; exact e), ?_⟩
    refine .inl ⟨_, rfl, ?_⟩
    refine ⟨_, rfl, _, rfl, a, _, rfl, .inl hA, _, _, rfl, rfl, ⟨hpz, by rw [List.length_map]; omega⟩, _, _, rfl, rfl, .inl ⟨by decide, by decide⟩, _, _, rfl, rfl, ?_⟩
    exact kQ _ (by have := Int.mul_nonneg (show (0 : Int) ≤ 31 by decide) hd; omega)
theorem scLCount : FnScope ["number", "least", "most"] ["number", "least", "most"] (defScope sLCount) := ⟨rfl, rfl, rfl, by decide +kernel, rfl, by decide +kernel, by decide +kernel⟩
theorem ok_lcount {f : Addr} {fd : FuncData} (F : Fun K "_law_count" "_law_count" sLCount f fd) (hi : mg "int" = none) (hm : mg "min" = none) : FnOk Pg w K mg base CX0 1 f fd ["number", "least", "most"] spLCount := by
  refine F.ok scLCount (fun vs H Q E h => ?_) (fun cdv A outer s H vs Q E hr h => ?_)
  · obtain ⟨n, lo, hi, rfl, _⟩ := h
    rfl
  · obtain ⟨n, lo, hi', rfl, hn, hlh, kQ⟩ := h
    refine ⟨_, pss_cons (ps_if (pt_cmpR op_eq (pe_op op_mod (pe_callTy (r := rInt1) call_int1 (by rfl) hi (by decide +kernel) (pa_cons (pv 0) pa_nil)) pe_int) pe_int (nomark _)) (pss_one (ps_ret (pv 1))) pss_nil)
      (pss_cons (ps_if (pt_cmpR op_eq (pe_op op_mod (pe_callTy (r := rInt1) call_int1 (by rfl) hi (by decide +kernel) (pa_cons (pv 0) pa_nil)) pe_int) pe_int (nomark _)) (pss_one (ps_ret (pv 2))) pss_nil)
      (pss_one (ps_ret (pe_op op_add (pv 1) (pe_op op_mod (pe_op op_fdiv (pe_callTy (r := rInt1) call_int1 (by rfl) hi (by decide +kernel) (pa_cons (pv 0) pa_nil)) pe_int)
        (pe_op op_add (pe_op op_sub (pe_callB (call_min2 rfl) (by rfl) hm (by decide +kernel) (pa_cons (pv 2) (pa_cons (pe_op op_add (pv 1) pe_int) pa_nil))) (pv 1)) pe_int)))))), ?_⟩
    refine ⟨_, rfl, .inl ⟨_, rfl, _, _, rfl, rfl, (show (0 : Int) < 9 by decide), rfl, _, rfl, ?_⟩⟩
    refine ite2 (fun _ => ⟨_, rfl, kQ lo (Int.le_refl _) hlh⟩) (fun _ => ?_)
    refine ⟨_, rfl, .inl ⟨_, rfl, _, _, rfl, rfl, (show (0 : Int) < 9 by decide), rfl, _, rfl, ?_⟩⟩
    refine ite2 (fun _ => ⟨_, rfl, kQ hi' hlh (Int.le_refl _)⟩) (fun _ => ?_)
    refine ⟨_, rfl, _, rfl, .inl ⟨_, rfl, _, _, rfl, rfl, ⟨by decide, by decide⟩, ?_⟩⟩
    refine ⟨_, rfl, _, rfl, _, _, rfl, rfl, _, _, rfl, ?_⟩
    dsimp only []
    obtain ⟨m, em, m1, m2⟩ : ∃ m : Int, (if lo + 8 < hi' then lo + 8 else hi') = m ∧ lo ≤ m ∧ m ≤ hi' := by
      by_cases c : lo + 8 < hi'
      · exact ⟨lo + 8, by rw [if_pos c], by omega, by omega⟩
      · exact ⟨hi', by rw [if_neg c], hlh, Int.le_refl _⟩
    rw [em]
    refine ⟨_, rfl, _, _, rfl, rfl, _, _, rfl, rfl, ?_⟩
    dsimp only []
    have p : (0 : Int) < m - lo + 1 := by omega
    refine ⟨_, _, rfl, rfl, p, _, _, rfl, rfl, ?_⟩
    have q0 := Int.emod_nonneg (n / 9) (show m - lo + 1 ≠ 0 by omega)
    have q1 := Int.emod_lt_of_pos (n / 9) p
    exact kQ _ (by omega) (by omega)
abbrev nLN : List Str := ["numbers", "at", "many", "chars", "prefix", "k", "place", "shift", "names", "tail"]
theorem scLN : FnScope nLN ["numbers", "at", "many"] (defScope sLNames) := ⟨rfl, rfl, rfl, by decide +kernel, rfl, by decide +kernel, by decide +kernel⟩
theorem ok_lnames {f : Addr} {fd : FuncData} (F : Fun K "_law_names" "_law_names" sLNames f fd) (hi : mg "int" = none) (hrg : mg "range" = none) (hl : mg "len" = none) : FnOk Pg w K mg base CX0 1 f fd ["numbers", "at", "many"] (spLNames K P) := by
  refine F.ok scLN (fun vs H Q E h => ?_) (fun cdv A outer s H vs Q E hr h => ?_)
  · obtain ⟨a, ns, at_, many, rfl, _⟩ := h
    rfl
  · obtain ⟨a, ns, at0, many, rfl, hA, hsm, hl6, hl8, hm72, hP, k⟩ := h
    have num : ∀ e, PE (cxOf CX0 Pg w K mg base nLN "_law_names" (defScope sLNames) f cdv A outer s H E) e = PE (cxOf CX0 Pg w K mg base nLN "_law_names" (defScope sLNames) f cdv A outer s H E) e := fun _ => rfl
    refine ⟨_, C8.pss_cut (ps_if (pt_cmpR op_eq (pe_op op_mod (pe_callTy (r := rInt1) call_int1 (by rfl) hi (by decide +kernel) (pa_cons (pe_ix (r := rIxL K) ix_list (pv 0) pe_int (fun _ _ => rfl)) pa_nil)) pe_int) pe_int (nomark _)) (pss_one (ps_set (i := 1) scLN.nd rfl (Or.inl rfl) pe_int)) pss_nil)
      (pss_cons (ps_set (i := 3) scLN.nd rfl (Or.inl rfl) pe_str)
      (pss_cons (ps_set (i := 4) scLN.nd rfl (Or.inl rfl) (pe_ix (r := rIxS) ix_str (pv 3) (pe_op op_mod (pe_callTy (r := rInt1) call_int1 (by rfl) hi (by decide +kernel) (pa_cons (pe_ix (r := rIxL K) ix_list (pv 0) (pv 1) (fun _ _ => rfl)) pa_nil)) pe_int) (fun _ _ => rfl)))
      (C8.pss_cut (ps_for PassesOwn.never rfl (pi_range1 rfl hrg (pa_cons (pe_op op_mod (pe_callTy (r := rInt1) call_int1 (by rfl) hi (by decide +kernel) (pa_cons (pe_ix (r := rIxL K) ix_list (pv 0) (pe_op op_add (pv 1) pe_int) (fun _ _ => rfl)) pa_nil)) pe_int) pa_nil)) (pg_name (i := 5) scLN.nd rfl (Or.inl rfl))
        (pss_one (ps_set (i := 4) scLN.nd rfl (Or.inl rfl) (pe_op op_add_str (pv 4) (pe_ix (r := rIxS) ix_str (pv 3) (pe_op op_mod (pe_callTy (r := rInt1) call_int1 (by rfl) hi (by decide +kernel) (pa_cons (pe_op op_add (pe_ix (r := rIxL K) ix_list (pv 0) (pe_op op_add (pv 1) pe_int) (fun _ _ => rfl)) (pe_op op_mul (pv 5) (pe_ix (r := rIxL K) ix_list (pv 0) (pe_op op_add (pv 1) pe_int) (fun _ _ => rfl)))) pa_nil)) pe_int) (fun _ _ => rfl))))))
      (pss_cons (ps_set (i := 6) scLN.nd rfl (Or.inl rfl) (pe_op op_add pe_int (pe_op op_mod (pe_callTy (r := rInt1) call_int1 (by rfl) hi (by decide +kernel) (pa_cons (pe_ix (r := rIxL K) ix_list (pv 0) (pe_op op_add (pv 1) pe_int) (fun _ _ => rfl)) pa_nil)) (pe_callB call_len_str (by rfl) hl PySem.boot_len (pa_cons (pv 4) pa_nil)))))
      (pss_cons (ps_set (i := 7) scLN.nd rfl (Or.inl rfl) (pe_callTy (r := rInt1) call_int1 (by rfl) hi (by decide +kernel) (pa_cons (pe_ix (r := rIxL K) ix_list (pv 0) (pe_op op_add (pv 1) pe_int) (fun _ _ => rfl)) pa_nil)))
      (pss_cons (ps_set (i := 8) scLN.nd rfl (Or.inl rfl) (pe_lst pa_nil))
      (C8.pss_cut (ps_for PassesOwn.never rfl (pi_range1 rfl hrg (pa_cons (pv 2) pa_nil)) (pg_name (i := 5) scLN.nd rfl (Or.inl rfl))
        (pss_cons (ps_set (i := 9) scLN.nd rfl (Or.inl rfl) (pe_ix (r := rIxL K) ix_list (pe_lst (pa_cons pe_str (pa_cons pe_str pa_nil))) (pe_callTy (r := rInt1) call_int1 (by rfl) hi (by decide +kernel) (pa_cons (pe_cmpR op_ge (pv 5) pe_int (nomark _)) pa_nil)) (fun _ _ => rfl)))
        (pss_one (ps_expr (pe_bm PySem.F.plainAttrs_list PySem.F.slot_list_append PySem.F.type_list_append mt_append (pv 8) (pa_cons
          (pe_op op_add_str (pe_op op_add_str (pe_op op_add_str (pe_slice sl_str (pv 4) po_none (po_some (pv 6))) (pe_ix (r := rIxS) ix_str (pv 3) (pe_op op_mod (pe_callTy (r := rInt1) call_int1 (by rfl) hi (by decide +kernel) (pa_cons (pe_op op_add (pv 7) (pe_op op_mul pe_int (pv 5))) pa_nil)) pe_int) (fun _ _ => rfl))) (pv 9)) (pe_slice sl_str (pv 4) (po_some (pv 6)) po_none)) pa_nil))))))
      (pss_one (ps_ret (pv 8)))))))))), ?_⟩
    have nat := fun (i : Nat) (h : i < ns.length) => nv_at hsm h
    obtain ⟨f1, _, _⟩ := nat 1 (by omega)
    refine ⟨fun σ H' => H' = H ∧ σ = [some (.ref a), some (.int (atOf ns at0 : Int)), some (.int (many : Int)), none, none, none, none, none, none, none], ?_, ?_⟩
    · refine ⟨_, rfl, a, _, 1, _, rfl, rfl, hA, f1, .inl ⟨_, rfl, _, _, rfl, rfl, (show (0 : Int) < 5 by decide), rfl, _, rfl, ?_⟩⟩
      by_cases c : nv ns 1 % 5 = 1
      · refine if_t (decide_eq_true (congrArg V.int c)) ⟨rfl, ?_⟩
        unfold atOf
        rw [if_pos c]
        rfl
      · refine if_f (decide_eq_false (fun e => c (by injection e with e))) ⟨rfl, ?_⟩
        unfold atOf
        rw [if_neg c]
        rfl
    rintro σ H' ⟨rfl, rfl⟩
    obtain ⟨at_, eat⟩ : ∃ at_, at_ = atOf ns at0 := ⟨_, rfl⟩
    have hat : at_ + 6 ≤ ns.length := by
      rw [eat]
      unfold atOf
      split <;> omega
    rw [← eat]
    have atn : ∀ j : Nat, j < 6 → atI (ns.map V.int) ((at_ : Int) + (j : Int)) = some (.int (nv ns (at_ + j))) := fun j hj => by
      have := (nat (at_ + j) (by omega)).1
      rw [show ((at_ + j : Nat) : Int) = (at_ : Int) + (j : Int) from by omega] at this
      exact this
    have zlen : zGood.length ≤ sizeLine := by decide +kernel
    have ezg : (Str.ofString "abcdefghijklmnopqrstuvwxyz0123456789") = zGood := rfl
    obtain ⟨f0, p0, _⟩ := nat at_ (by omega)
    obtain ⟨c0, _⟩ := ch_at (i := nv ns at_ % 26) (by omega) (by omega)
    refine ⟨_, rfl, _, rfl, _, rfl, a, _, _, _, rfl, rfl, hA, f0, .inl ⟨_, rfl, _, _, rfl, rfl, (show (0 : Int) < 26 by decide), _, _, _, rfl, rfl, zlen, c0, ?_⟩⟩
    obtain ⟨m, em⟩ : ∃ m, m = sizeOf' ns at_ := ⟨_, rfl⟩
    have m9 : m ≤ 9 := by rw [em]; exact size_le ns at_
    refine ⟨fun σ H2 => H2 = H' ∧ ∃ kv, σ = [some (.ref a), some (.int (at_ : Int)), some (.int (many : Int)), some (.str zGood), some (.str (preS ns at_ m)), kv, none, none, none, none], ?_, ?_⟩
    · have p1 := (nat (at_ + 1) (by omega)).2.1
      rw [em]
      refine ⟨_, rfl, _, rfl, _, _, rfl, rfl, a, _, _, _, rfl, rfl, hA, atn 1 (by decide), .inl ⟨_, rfl, _, _, rfl, rfl, (show (0 : Int) < 10 by decide), nv ns (at_ + 1) % 10, rfl, by omega, by omega, for_range (n := sizeOf' ns at_) (fun j σ H2 => H2 = H' ∧ ∃ kv, σ = [some (.ref a), some (.int (at_ : Int)), some (.int (many : Int)), some (.str zGood), some (.str (preS ns at_ j)), kv, none, none, none, none]) ⟨rfl, none, rfl⟩ ?_ ?_⟩⟩
      · rintro j σ H2 hj ⟨rfl, kv, rfl⟩
        obtain ⟨cc, _⟩ := ch_at (i := (nv ns (at_ + 2) + (j : Int) * nv ns (at_ + 3)) % 36) (by omega) (by omega)
        have n3 := (nat (at_ + 3) (by omega)).2
        refine ⟨_, rfl, _, rfl, _, rfl, _, rfl, _, _, rfl, rfl, a, _, _, _, rfl, rfl, hA, atn 2 (by decide), _, rfl, _, rfl, _, rfl, _, _, rfl, rfl, a, _, _, _, rfl, rfl, hA, atn 3 (by decide), _, _, rfl, rfl, .inl ⟨by omega, by omega⟩, _, _, rfl, rfl, .inl ⟨_, rfl, _, _, rfl, rfl, (show (0 : Int) < 36 by decide), ?_⟩⟩
        dsimp only []
        rw [Int.zero_add]
        refine ⟨_, _, _, rfl, rfl, zlen, cc, preS ns at_ j, _, rfl, rfl, ?_, rfl, _, rfl⟩
        have := pre_len ns at_ j
        rw [this, sizeLine_eq]
        show _ + 1 ≤ _
        omega
      · rintro σ H2 ⟨rfl, kv, rfl⟩
        exact ⟨rfl, kv, rfl⟩
    rintro σ H2 ⟨rfl, kv, rfl⟩
    obtain ⟨pre, epre⟩ : ∃ pre, pre = preS ns at_ m := ⟨_, rfl⟩
    rw [← epre]
    have hpl : pre.length = m + 1 := by rw [epre]; exact pre_len ns at_ m
    have hml : (0 : Int) < (m : Int) + 1 := by omega
    refine ⟨_, rfl, _, rfl, _, _, rfl, rfl, a, _, _, _, rfl, rfl, hA, atn 4 (by decide), .inl ⟨_, rfl, _, rfl, _, rfl, by rw [hpl, sizeLine_eq]; omega, _, _, rfl, rfl, ?_⟩⟩
    rw [hpl]
    refine ⟨by omega, _, _, rfl, rfl, ?_⟩
    obtain ⟨place, epl, pl1, pl2⟩ : ∃ place : Nat, 1 + nv ns (at_ + 4) % ((m + 1 : Nat) : Int) = (place : Int) ∧ 1 ≤ place ∧ place ≤ m + 1 := by
      have q0 := Int.emod_nonneg (nv ns (at_ + 4)) (show ((m + 1 : Nat) : Int) ≠ 0 by omega)
      have q1 := Int.emod_lt_of_pos (nv ns (at_ + 4)) (show (0 : Int) < ((m + 1 : Nat) : Int) by omega)
      exact ⟨(1 + nv ns (at_ + 4) % ((m + 1 : Nat) : Int)).toNat, by omega, by omega, by omega⟩
    dsimp only []
    rw [epl]
    refine ⟨_, rfl, _, rfl, _, _, rfl, rfl, a, _, _, _, rfl, rfl, hA, atn 5 (by decide), .inl ⟨_, rfl, ?_⟩⟩
    refine ⟨Nat.zero_le _, fun L nL => ?_⟩
    have gL := Grew.new hP (o := .lst []) nL
    have hfin : ∀ j, nameK ns at0 j = nameS pre place (nv ns (at_ + 5)) j := fun j => by
      show nameS (preS ns (atOf ns at0) (sizeOf' ns (atOf ns at0))) (1 + (nv ns (atOf ns at0 + 4) % ((sizeOf' ns (atOf ns at0) : Int) + 1)).toNat) (nv ns (atOf ns at0 + 5)) j = _
      rw [← eat, ← em, ← epre]
      have ec : ((m + 1 : Nat) : Int) = (m : Int) + 1 := by omega
      have epl' := epl
      rw [ec] at epl'
      have : 1 + (nv ns (at_ + 4) % ((m : Int) + 1)).toNat = place := by omega
      rw [this]
    refine ⟨fun σ H3 => ∃ v5 v9, σ = [some (.ref a), some (.int (at_ : Int)), some (.int (many : Int)), some (.str zGood), some (.str pre), v5, some (.int (place : Int)), some (.int (nv ns (at_ + 5))), some (.ref L), v9] ∧ Grew P H2 H3 ∧ H3 L = some (.lst ((namesL ns at0 many).map V.str)), ?_, ?_⟩
    · refine ⟨_, rfl, (many : Int), rfl, by omega, by omega, for_range (n := many) (fun j σ H3 => ∃ v5 v9, σ = [some (.ref a), some (.int (at_ : Int)), some (.int (many : Int)), some (.str zGood), some (.str pre), v5, some (.int (place : Int)), some (.int (nv ns (at_ + 5))), some (.ref L), v9] ∧ Grew P H2 H3 ∧ H3 L = some (.lst ((namesL ns at0 j).map V.str)))
        ⟨_, _, rfl, gL, upd_same⟩ ?_ ?_⟩
      · rintro j σ H3 hj ⟨v5, v9, rfl, g3, hL3⟩
        refine ⟨(show 2 ≤ sizeLine by decide), fun T nT => ?_⟩
        have gT := Grew.new g3.tab (o := .lst [V.str "", V.str "q"]) nT
        have hL4 := gT.lst g3.tab hL3
        have hT : (L2.upd H3 T (.lst [V.str "", V.str "q"])) T = some (.lst [V.str "", V.str "q"]) := upd_same
        have g4 := g3.trans gT
        have e1 : L2.upd H3 T (.lst [V.str (Str.ofString ""), V.str (Str.ofString "q")]) = L2.upd H3 T (.lst [V.str "", V.str "q"]) := rfl
        rw [e1]
        generalize L2.upd H3 T (.lst [V.str "", V.str "q"]) = H4 at g4 hL4 hT ⊢
        have tl : atI [V.str "", V.str "q"] (if decide ((36 : Int) ≤ 0 + (j : Int)) = true then 1 else 0) = some (.str (tailS j)) := by
          unfold tailS
          by_cases c : 36 ≤ j
          · rw [if_pos (decide_eq_true (by omega)), if_pos c]; rfl
          · rw [if_neg (by rw [decide_eq_false (by omega)]; simp), if_neg c]; rfl
        refine ⟨_, rfl, _, _, rfl, rfl, .inr ⟨_, rfl, T, _, _, _, rfl, rfl, SqL.of hT, tl, ?_⟩⟩
        obtain ⟨cc, _⟩ := ch_at (i := (nv ns (at_ + 5) + 5 * (j : Int)) % 36) (by omega) (by omega)
        have nl := name_len (pre := pre) (place := place) (shift := nv ns (at_ + 5)) (k := j) (by omega)
        have l1 : (cutS pre none (some (place : Int))).length ≤ 20 := by
          rw [str_len, cut_pre (by omega), List.length_take, ← str_len]
          omega
        have l2 : (cutS pre (some (place : Int)) none).length ≤ 20 := by
          rw [str_len, cut_suf (by omega), List.length_drop, ← str_len]
          omega
        have l3 : (tailS j).length ≤ 1 := by
          have := tail_len j
          rw [← TL.len_tl] at this
          rw [this]
          split <;> omega
        refine ⟨_, rfl, .inl ⟨rfl, _, SqL.of hL4⟩, _, rfl, _, rfl, _, rfl, _, rfl, by rw [hpl, sizeLine_eq]; omega, _, rfl, _, rfl, _, rfl, _, _, rfl, rfl, .inl ⟨by decide, by decide⟩, _, _, rfl, rfl, .inl ⟨_, rfl, _, _, rfl, rfl, (show (0 : Int) < 36 by decide), ?_⟩⟩
        dsimp only []
        rw [Int.zero_add]
        refine ⟨_, _, _, rfl, rfl, zlen, cc, _, chS _, rfl, rfl, ?_, ?_⟩
        · rw [sizeLine_eq]
          show _ + 1 ≤ _
          omega
        refine ⟨_, rfl, _, _, rfl, rfl, ?_, ?_⟩
        · rw [PySem.Str.length_append, sizeLine_eq]
          show _ + 1 + _ ≤ _
          omega
        refine ⟨_, rfl, _, rfl, _, rfl, _, rfl, by rw [hpl, sizeLine_eq]; omega, _, _, rfl, rfl, ?_, ?_⟩
        · rw [PySem.Str.length_append, PySem.Str.length_append, sizeLine_eq]
          show _ + 1 + _ + _ ≤ _
          omega
        refine ⟨L, _, _, rfl, rfl, hL4, by rw [List.length_map, namesL_len, sizeLine_eq]; omega, ?_⟩
        refine ⟨_, _, rfl, g4.write hL4 (fun _ z => by cases z) nL, ?_⟩
        rw [upd_same]
        have el : namesL ns at0 (j + 1) = namesL ns at0 j ++ [nameK ns at0 j] := by
          unfold namesL
          rw [List.range_succ, List.map_append]
          rfl
        rw [el, List.map_append, hfin j]
        rfl
      · rintro σ H3 ⟨v5, v9, rfl, g3, hL3⟩
        exact ⟨v5, v9, rfl, g3, hL3⟩
    rintro σ H3 ⟨v5, v9, rfl, g3, hL3⟩
    exact ⟨_, rfl, k H3 L g3 nL hL3⟩
end
end W

set_option Elab.async false
set_option linter.all false
set_option maxRecDepth 100000
set_option maxHeartbeats 2000000
namespace W
open PySem PySem.Spec PyProof.Rows L2 GxR MyG MyS SqX
/-! ### drawn hours -/
abbrev sLHours : Stmt := top 53
def PairT (H : Hp) (p : Int × Int) (v : V) : Prop := ∃ t, v = .ref t ∧ H t = some (.tup [.int p.1, .int p.2])
theorem PairT.grew {P : Addr} {H H' : Hp} {p : Int × Int} {v : V} (g : Grew P H H') (hP : TabG H P) (h : PairT H p v) : PairT H' p v := let ⟨t, a, b⟩ := h; ⟨t, a, g.tup hP b⟩
/-- hours: none, or a list of pairs -/
def HoursL (H : Hp) (h : Option (List (Int × Int))) (v : V) : Prop := match h with
  | none => v = .non
  | some gs => ∃ l xs, v = .ref l ∧ H l = some (.lst xs) ∧ Paired (PairT H) gs xs
theorem HoursL.grew {P : Addr} {H H' : Hp} {h : Option (List (Int × Int))} {v : V} (g : Grew P H H') (hP : TabG H P) (m : HoursL H h v) : HoursL H' h v := by
  cases h with
  | none => exact m
  | some gs =>
    obtain ⟨l, xs, a, b, c⟩ := m
    exact ⟨l, xs, a, g.lst hP b, Paired.map' c fun _ _ q => q.grew g hP⟩
def spLHours (K : PySem.W.Frag) (P : Addr) : Sp := fun vs H Q _ => ∃ (a : Addr) (ns : List Int) (k d : Int), vs = [.ref a, .int k, .int d] ∧ SqL K H a (ns.map V.int) ∧ Sm ns ∧ 0 < ns.length ∧ ns.length ≤ 1000 ∧ 0 ≤ k ∧ 1 ≤ d ∧ d ≤ 1440 ∧ TabG H P ∧
  ∀ H' v h, Grew P H H' → HoursL H' h v → HoursOk d h → (∀ l, v = .ref l → H l = none) → Q v H'
theorem last_le {d : Int} : ∀ {gs : List (Int × Int)} {c : Int}, c ≤ d → hoursOk d c gs → lastOf c gs gs.length ≤ d
  | [], c, h, _ => h
  | q :: r, c, h, o => by
    rw [List.length_cons, lastOf_cons]
    exact last_le o.2.2.1 o.2.2.2
/-- what the rounds keep: the pairs that will stay are good, and end ahead of the next one -/
structure HRound (d : Int) (qs gs : List (Int × Int)) (at_ : Int) : Prop where
  f : qs.filter (fun p => decide (p.1 < d)) = gs
  o : hoursOk d (-1) gs
  l : lastOf (-1) gs gs.length < at_
  z : 0 ≤ at_
theorem HRound.add {d : Int} {qs gs : List (Int × Int)} {at_ close y : Int} (h : HRound d qs gs at_) (hd : 1 ≤ d) (hc : close ≤ d) (hk : at_ < close ∨ close = d) (hy : 0 ≤ y) : ∃ gs', HRound d (qs ++ [(at_, close)]) gs' (close + 1 + y) := by
  by_cases c : at_ < d
  · have hl : at_ < close := by omega
    refine ⟨gs ++ [(at_, close)], ?_, hours_snoc.mpr ⟨h.o, h.l, hl, hc⟩, ?_, by have := h.z; omega⟩
    · rw [List.filter_append, h.f]
      simp [c]
    · have e5 : lastOf (-1) (gs ++ [(at_, close)]) (gs ++ [(at_, close)]).length = close := by
        unfold lastOf
        rw [List.take_length]
        simp
      rw [e5]; omega
  · have ec : close = d := by omega
    refine ⟨gs, ?_, h.o, ?_, by omega⟩
    · rw [List.filter_append, h.f]
      simp [c]
    · have := last_le (show (-1 : Int) ≤ d by omega) h.o
      omega
section
variable {Pg : Program} {w : World} {K : PySem.W.Frag} {mg : Str → Option Value} {base : Heap} {C P : Addr}
abbrev nLH : List Str := ["numbers", "k", "day", "hours", "at", "pair", "close"]
theorem scLH : FnScope nLH ["numbers", "k", "day"] (defScope sLHours) := ⟨rfl, rfl, rfl, by decide +kernel, rfl, by decide +kernel, by decide +kernel⟩
theorem ok_lhours {f fP : Addr} {fd fdP : FuncData} (F : Fun K "_law_hours" "_law_hours" sLHours f fd) (hrg : mg "range" = none) (hm : mg "max" = none)
    (GP : FnOk Pg w K mg base CX0 1 fP fdP ["numbers", "k"] (spLPick K)) (gP : mg "_law_pick" = some (.ref fP)) (kP : PySem.W.keepIn K (.ref fP) = true) (bP : Binds K fdP ["numbers", "k"] []) :
    FnOk Pg w K mg base CX0 2 f fd ["numbers", "k", "day"] (spLHours K P) := by
  refine F.ok scLH (fun vs H Q E h => ?_) (fun cdv A outer s H vs Q E hr h => ?_)
  · obtain ⟨a, ns, k, d, rfl, _⟩ := h
    rfl
  · obtain ⟨a, ns, k, d, rfl, hA, hsm, hpos, hl9, hk, hd1, hd2, hP, kQ⟩ := h
    refine ⟨_, pss_cons (ps_if (pt_cmpR op_eq (pe_op op_mod (pe_call GP hr (by rfl) gP kP bP .nil pass0 (pa_cons (pv 0) (pa_cons (pv 1) pa_nil))) pe_int) pe_int (nomark _)) (pss_one (ps_ret pe_non)) pss_nil)
      (pss_cons (ps_set (i := 3) scLH.nd rfl (Or.inl rfl) (pe_lst pa_nil))
      (pss_cons (ps_set (i := 4) scLH.nd rfl (Or.inl rfl) (pe_op op_mod (pe_op op_fdiv (pe_call GP hr (by rfl) gP kP bP .nil pass0 (pa_cons (pv 0) (pa_cons (pe_op op_add (pv 1) pe_int) pa_nil))) pe_int) pe_int))
      (C8.pss_cut (ps_if (pt_cmpR op_eq (pe_op op_mod (pe_call GP hr (by rfl) gP kP bP .nil pass0 (pa_cons (pv 0) (pa_cons (pe_op op_add (pv 1) pe_int) pa_nil))) pe_int) pe_int (nomark _)) (pss_one (ps_set (i := 4) scLH.nd rfl (Or.inl rfl) (pe_op op_mod (pe_call GP hr (by rfl) gP kP bP .nil pass0 (pa_cons (pv 0) (pa_cons (pe_op op_add (pv 1) pe_int) pa_nil))) (pv 2)))) pss_nil)
      (C8.pss_cut (ps_for PassesOwn.never rfl (pi_range1 rfl hrg (pa_cons (pe_op op_mod (pe_call GP hr (by rfl) gP kP bP .nil pass0 (pa_cons (pv 0) (pa_cons (pe_op op_add (pv 1) pe_int) pa_nil))) pe_int) pa_nil)) (pg_name (i := 5) scLH.nd rfl (Or.inl rfl))
        (pss_cons (ps_set (i := 6) scLH.nd rfl (Or.inl rfl) (pe_op op_add (pe_op op_add (pv 4) pe_int) (pe_op op_mod (pe_op op_fdiv (pe_call GP hr (by rfl) gP kP bP .nil pass0 (pa_cons (pv 0) (pa_cons (pe_op op_add (pe_op op_add (pv 1) pe_int) (pv 5)) pa_nil))) pe_int)
            (pe_callB (call_max2 rfl) (by rfl) hm (by decide +kernel) (pa_cons pe_int (pa_cons (pe_ix (r := rIxL K) ix_list (pe_lst (pa_cons pe_int (pa_cons (pe_op op_fdiv (pv 2) pe_int) (pa_cons (pv 2) pa_nil)))) (pe_op op_mod (pe_call GP hr (by rfl) gP kP bP .nil pass0 (pa_cons (pv 0) (pa_cons (pe_op op_add (pe_op op_add (pv 1) pe_int) (pv 5)) pa_nil))) pe_int) (fun _ _ => rfl)) pa_nil))))))
        (C8.pss_cut (ps_if (pt_cmpR op_eq (pe_op op_mod (pe_call GP hr (by rfl) gP kP bP .nil pass0 (pa_cons (pv 0) (pa_cons (pe_op op_add (pe_op op_add (pv 1) pe_int) (pv 5)) pa_nil))) pe_int) pe_int (nomark _)) (pss_one (ps_set (i := 6) scLH.nd rfl (Or.inl rfl) (pv 2))) pss_nil)
        (pss_one (ps_if (pt_cmpR op_le (pv 6) (pv 2) (nomark _))
          (pss_cons (ps_expr (pe_bm PySem.F.plainAttrs_list PySem.F.slot_list_append PySem.F.type_list_append mt_append (pv 3) (pa_cons (pe_tup (pa_cons (pv 4) (pa_cons (pv 6) pa_nil))) pa_nil)))
          (pss_one (ps_set (i := 4) scLH.nd rfl (Or.inl rfl) (pe_op op_add (pe_op op_add (pv 6) pe_int) (pe_op op_mod (pe_call GP hr (by rfl) gP kP bP .nil pass0 (pa_cons (pv 0) (pa_cons (pe_op op_add (pe_op op_add (pv 1) pe_int) (pv 5)) pa_nil))) pe_int))))) pss_nil)))))
      (pss_one (ps_ret (pe_lc (own := [("pair", 5)]) (g := gName 5) rfl scLH.nd (pi_list (pv 3)) (blkOk_by (N := nLH) (sc := defScope sLHours) (by decide +kernel)) (fun _ _ _ _ _ => pg_name (i := 5) scLH.nd rfl (Or.inl rfl))
          (fun _ _ _ _ _ => pts_one (pt_cmpR op_lt (pe_ix (r := rIxT K) ix_tup (pv 5) pe_int (fun _ _ => rfl)) (pv 2) (nomark _))) (fun _ _ _ _ _ => pv 5)))))))), ?_⟩
    refine ⟨_, rfl, _, rfl, a, ns, k, rfl, hA, hsm, hpos, hl9, hk, fun v0 h0 => ⟨_, _, rfl, rfl, (show (0 : Int) < 3 by decide), rfl, _, rfl, ?_⟩⟩
    refine ite2 (fun _ => kQ H .non none (Grew.refl hP) rfl trivial (fun _ e => by cases e)) (fun _ => ?_)
    refine ⟨Nat.zero_le _, fun L nL => ?_⟩
    have gL := Grew.new hP (o := .lst []) nL
    have hL0 : (L2.upd H L (.lst [])) L = some (.lst []) := upd_same
    generalize L2.upd H L (.lst []) = H1 at gL hL0 ⊢
    have hA1 := gL.sqL hP hA
    refine ⟨_, rfl, _, rfl, _, _, rfl, rfl, a, ns, _, rfl, hA1, hsm, hpos, hl9, by omega, fun v1 h1 => ⟨_, _, rfl, rfl, ⟨by decide, by decide⟩, _, _, rfl, rfl, (show (0 : Int) < 3 by decide), ?_⟩⟩
    dsimp only []
    have z3 : 0 ≤ v1 / 5 % 3 := by omega
    refine ⟨fun σ H' => H' = H1 ∧ ∃ at_ : Int, 0 ≤ at_ ∧ σ = [some (.ref a), some (.int k), some (.int d), some (.ref L), some (.int at_), none, none], ?_, ?_⟩
    · refine ⟨_, rfl, _, rfl, _, _, rfl, rfl, a, ns, _, rfl, hA1, hsm, hpos, hl9, by omega, fun v2 h2 => ⟨_, _, rfl, rfl, (show (0 : Int) < 4 by decide), rfl, _, rfl, ?_⟩⟩
      refine ite2 (fun _ => ?_) (fun _ => ⟨rfl, _, z3, rfl⟩)
      refine ⟨_, rfl, _, rfl, _, _, rfl, rfl, a, ns, _, rfl, hA1, hsm, hpos, hl9, by omega, fun v3 h3 => ⟨_, rfl, _, _, rfl, rfl, (show (0 : Int) < d by omega), ?_⟩⟩
      exact ⟨rfl, _, Int.emod_nonneg v3 (by omega), rfl⟩
    rintro σ H' ⟨rfl, at0, ha0, rfl⟩
    refine ⟨fun σ H2 => ∃ (v4 v5 v6 : Option V) (qs gs : List (Int × Int)) (xs : List V) (at_ : Int), σ = [some (.ref a), some (.int k), some (.int d), some (.ref L), v4, v5, v6] ∧ Grew P H H2 ∧ H2 L = some (.lst xs) ∧ Paired (PairT H2) qs xs ∧ qs.length ≤ 4 ∧ HRound d qs gs at_, ?_, ?_⟩
    · refine ⟨_, rfl, _, rfl, _, _, rfl, rfl, a, ns, _, rfl, hA1, hsm, hpos, hl9, by omega, fun v4 h4 => ⟨_, _, rfl, rfl, (show (0 : Int) < 5 by decide), v4 % 5, rfl, by omega, by omega, for_range (n := (v4 % 5).toNat) (fun i σ H2 => ∃ (v5 v6 : Option V) (qs gs : List (Int × Int)) (xs : List V) (at_ : Int), σ = [some (.ref a), some (.int k), some (.int d), some (.ref L), some (.int at_), v5, v6] ∧ Grew P H H2 ∧ H2 L = some (.lst xs) ∧ Paired (PairT H2) qs xs ∧ qs.length ≤ i ∧ HRound d qs gs at_)
        ⟨none, none, [], [], [], at0, rfl, gL, hL0, .nil, Nat.le_refl _, ⟨rfl, trivial, by show (-1 : Int) < at0; omega, ha0⟩⟩ ?_ ?_⟩⟩
      · rintro i σ H2 hi ⟨v5, v6, qs, gs, xs, at_, rfl, g2, hL2, hqs, hql, hR⟩
        have hA2 := g2.sqL hP hA
        have hxl := Paired.len hqs
        refine ⟨_, rfl, _, _, rfl, rfl, _, rfl, _, rfl, _, _, rfl, rfl, _, rfl, _, _, rfl, rfl, a, ns, _, rfl, hA2, hsm, hpos, hl9, by omega, fun w1 q1 => ⟨_, _, rfl, rfl, ⟨by decide, by decide⟩, _, rfl, _, _, rfl, rfl, ⟨by decide, by decide⟩, _, rfl, (show 3 ≤ sizeLine by decide), fun T nT => ?_⟩⟩
        have gT := Grew.new g2.tab (o := .lst [.int 2, .int (d / 4), .int d]) nT
        have g3 := g2.trans gT
        have hA3 := gT.sqL g2.tab hA2
        have hL3 := gT.lst g2.tab hL2
        have hqs3 : Paired (PairT _) qs xs := Paired.map' hqs fun _ _ m => m.grew gT g2.tab
        have hT : (L2.upd H2 T (.lst [.int 2, .int (d / 4), .int d])) T = some (.lst [.int 2, .int (d / 4), .int d]) := upd_same
        generalize L2.upd H2 T (.lst [.int 2, .int (d / 4), .int d]) = H3 at g3 hA3 hL3 hqs3 hT ⊢
        refine ⟨_, rfl, _, rfl, _, _, rfl, rfl, _, rfl, _, _, rfl, rfl, a, ns, _, rfl, hA3, hsm, hpos, hl9, by omega, fun w2 q2 => ⟨_, _, rfl, rfl, (show (0 : Int) < 3 by decide), ?_⟩⟩
        obtain ⟨e, ee, e0⟩ : ∃ e : Int, atI [V.int 2, V.int (d / 4), V.int d] (w2 % 3) = some (.int e) ∧ 0 ≤ e := by
          have : w2 % 3 = 0 ∨ w2 % 3 = 1 ∨ w2 % 3 = 2 := by omega
          rcases this with c | c | c <;> rw [c]
          · exact ⟨2, rfl, by decide⟩
          · exact ⟨d / 4, rfl, by omega⟩
          · exact ⟨d, rfl, by omega⟩
        refine ⟨T, _, _, _, rfl, rfl, SqL.of hT, ee, _, _, rfl, ?_⟩
        dsimp only []
        obtain ⟨mx, emx, m1⟩ : ∃ mx : Int, (if e > 1 then e else 1) = mx ∧ 1 ≤ mx := by
          by_cases c : e > 1
          · exact ⟨e, by rw [if_pos c], by omega⟩
          · exact ⟨1, by rw [if_neg c], by omega⟩
        rw [emx]
        refine ⟨_, _, rfl, rfl, (show (0 : Int) < mx by omega), _, _, rfl, rfl, ?_⟩
        dsimp only []
        have c0 := Int.emod_nonneg (w1 / 3) (show mx ≠ 0 by omega)
        obtain ⟨cl, ecl⟩ : ∃ cl, cl = at_ + 1 + w1 / 3 % mx := ⟨_, rfl⟩
        rw [← ecl]
        refine ⟨fun σ H4 => H4 = H3 ∧ ∃ c : Int, (at_ < c ∨ c = d) ∧ σ = [some (.ref a), some (.int k), some (.int d), some (.ref L), some (.int at_), some (.int (0 + (i : Int))), some (.int c)], ?_, ?_⟩
        · refine ⟨_, rfl, _, rfl, _, _, rfl, rfl, _, rfl, _, _, rfl, rfl, a, ns, _, rfl, hA3, hsm, hpos, hl9, by omega, fun w3 q3 => ⟨_, _, rfl, rfl, (show (0 : Int) < 7 by decide), rfl, _, rfl, ?_⟩⟩
          refine ite2 (fun _ => ⟨_, rfl, rfl, d, .inr rfl, rfl⟩) (fun _ => ⟨rfl, cl, .inl (by omega), rfl⟩)
        rintro σ H4 ⟨rfl, c, hc, rfl⟩
        refine ⟨_, rfl, _, rfl, _, _, rfl, rfl, _, rfl, ?_⟩
        by_cases cd : c ≤ d
        case neg =>
          refine if_f (decide_eq_false cd) ?_
          exact ⟨_, _, qs, gs, xs, at_, rfl, g3, hL3, hqs3, by omega, hR⟩
        refine if_t (decide_eq_true cd) ?_
        refine ⟨_, rfl, .inl ⟨rfl, _, SqL.of hL3⟩, _, rfl, _, rfl, (show 2 ≤ sizeLine by decide), fun U nU => ?_⟩
        have gU := Grew.new g3.tab (o := .tup [.int at_, .int c]) nU
        have hL5 := gU.lst g3.tab hL3
        refine ⟨L, _, _, rfl, rfl, hL5, by rw [sizeLine_eq]; omega, ?_⟩
        have g5 : Grew P H (L2.upd (L2.upd H4 U (.tup [.int at_, .int c])) L (.lst (xs ++ [.ref U]))) := (g3.trans gU).write hL5 (fun _ z => by cases z) nL
        have hA5 := g5.sqL hP hA
        refine ⟨_, rfl, _, _, rfl, rfl, _, rfl, _, rfl, _, _, rfl, rfl, _, rfl, _, _, rfl, rfl, a, ns, _, rfl, hA5, hsm, hpos, hl9, by omega, fun w4 q4 => ⟨_, _, rfl, rfl, (show (0 : Int) < 3 by decide), _, _, rfl, rfl, ?_⟩⟩
        obtain ⟨gs', hR'⟩ := hR.add hd1 cd hc (y := w4 % 3) (by omega)
        have up : ∀ {p : Int × Int} {v : V}, PairT (L2.upd H4 U (.tup [.int at_, .int c])) p v → PairT (L2.upd (L2.upd H4 U (.tup [.int at_, .int c])) L (.lst (xs ++ [.ref U]))) p v := fun ⟨t, e1, e2⟩ => ⟨t, e1, by rw [upd_ne (fun z => by rw [z, hL5] at e2; cases e2)]; exact e2⟩
        refine ⟨_, _, qs ++ [(at_, c)], gs', xs ++ [.ref U], _, rfl, g5, upd_same, ?_, by rw [List.length_append]; show _ + 1 ≤ _; omega, hR'⟩
        exact Paired.snoc (Paired.map' hqs3 fun _ _ m => up (m.grew gU g3.tab)) (up ⟨U, rfl, upd_same⟩)
      · rintro σ H2 ⟨v5, v6, qs, gs, xs, at_, rfl, g2, hL2, hqs, hql, hR⟩
        exact ⟨_, v5, v6, qs, gs, xs, at_, rfl, g2, hL2, hqs, by omega, hR⟩
    rintro σ H2 ⟨v4, v5, v6, qs, gs, xs, at_, rfl, g2, hL2, hqs, hql, hR⟩
    refine ⟨_, rfl, L, rfl, ⟨_, SqL.of hL2⟩, fun D nD => lc_list (K := K) (a := L) (xs := xs) (fun i H3 => Grew P H2 H3 ∧ ∃ acc, H3 D = some (.lst acc) ∧ Paired (PairT H3) ((qs.take i).filter (fun p => decide (p.1 < d))) acc ∧ acc.length ≤ i)
      ⟨Grew.new g2.tab nD, [], upd_same, by rw [List.take_zero]; exact .nil, Nat.le_refl _⟩ (fun i H3 _ h => SqL.of (h.1.lst g2.tab hL2)) (fun i v H3 hv h => ?_) (fun H3 h => ?_)⟩
    · obtain ⟨g, acc, hD, hacc, hal⟩ := h
      obtain ⟨p, hp, m⟩ := Paired.at hqs hv
      have hi := (List.getElem?_eq_some_iff.mp hp).1
      obtain ⟨t, rfl, ht⟩ := m.grew g g2.tab
      have et : (qs.take (i + 1)).filter (fun p => decide (p.1 < d)) = (qs.take i).filter (fun p => decide (p.1 < d)) ++ (if p.1 < d then [p] else []) := by
        rw [List.take_succ, hp, List.filter_append]
        congr 1
        by_cases c : p.1 < d <;> simp [c]
      refine ⟨rfl, _, rfl, t, _, 0, _, rfl, rfl, SqT.of ht, rfl, _, rfl, _, _, rfl, rfl, _, rfl, ?_⟩
      by_cases c : p.1 < d
      · refine if_t (decide_eq_true c) ⟨_, rfl, acc, hD, by rw [sizeLine_eq]; omega, g.write hD (fun _ z => by cases z) nD, acc ++ [.ref t], upd_same, ?_, by rw [List.length_append]; show _ + 1 ≤ _; omega⟩
        have up : ∀ {p : Int × Int} {v : V}, PairT H3 p v → PairT (L2.upd H3 D (.lst (acc ++ [.ref t]))) p v := fun ⟨t, e1, e2⟩ => ⟨t, e1, by rw [upd_ne (fun z => by rw [z, hD] at e2; cases e2)]; exact e2⟩
        rw [et, if_pos c]
        exact Paired.snoc (Paired.map' hacc fun _ _ m => up m) (up ⟨t, rfl, ht⟩)
      · refine if_f (decide_eq_false c) ⟨g, acc, hD, ?_, by omega⟩
        rw [et, if_neg c, List.append_nil]
        exact hacc
    · obtain ⟨g, acc, hD, hacc, hal⟩ := h
      rw [← Paired.len hqs, List.take_length, hR.f] at hacc
      refine kQ H3 (.ref D) (some gs) (g2.trans g) ⟨D, acc, rfl, hD, hacc⟩ ⟨?_, hR.o⟩ (fun l e => by injection e with e; rw [← e]; exact g2.free nD)
      rw [← hR.f]
      exact Nat.le_trans (List.length_filter_le _ _) hql
end
end W

set_option Elab.async false
set_option linter.all false
set_option maxRecDepth 100000
set_option maxHeartbeats 2000000
namespace W
open PySem PySem.Spec PyProof.Rows L2 GxR MyG MyS SqX
/-! ### drawn roads -/
abbrev sLRoad : Stmt := top 54
/-- a road as the law draws it: its kinds are a list, its hours none or a list -/
def RoadL (H : Hp) (r : RoadD) (v : V) : Prop := ∃ t u h, v = .ref t ∧ H t = some (.tup [.str r.name, .str r.start, .str r.goal, .int r.minutes, .ref u, h]) ∧ H u = some (.lst (r.users.map V.str)) ∧ HoursL H r.hours h
theorem RoadL.grew {P : Addr} {H H' : Hp} {r : RoadD} {v : V} (g : Grew P H H') (hP : TabG H P) (m : RoadL H r v) : RoadL H' r v := by
  obtain ⟨t, u, h, a, b, c, d⟩ := m
  exact ⟨t, u, h, a, g.tup hP b, g.lst hP c, d.grew g hP⟩
/-- a road all of whose lists are new -/
def RoadF (H0 H : Hp) (r : RoadD) (v : V) : Prop := ∃ t u h, v = .ref t ∧ H t = some (.tup [.str r.name, .str r.start, .str r.goal, .int r.minutes, .ref u, h]) ∧ H u = some (.lst (r.users.map V.str)) ∧ HoursL H r.hours h ∧ H0 u = none ∧ ∀ l, h = .ref l → H0 l = none
/-- a road none of whose lists is D -/
def RoadU (D : Addr) (H : Hp) (r : RoadD) (v : V) : Prop := ∃ t u h, v = .ref t ∧ H t = some (.tup [.str r.name, .str r.start, .str r.goal, .int r.minutes, .ref u, h]) ∧ H u = some (.lst (r.users.map V.str)) ∧ HoursL H r.hours h ∧ u ≠ D ∧ ∀ l, h = .ref l → l ≠ D
theorem RoadF.un {H0 H : Hp} {r : RoadD} {v : V} {D : Addr} {o : HO} (m : RoadF H0 H r v) (hD : H0 D = some o) : RoadU D H r v := by
  obtain ⟨t, u, h, a, b, c, d, e, f⟩ := m
  exact ⟨t, u, h, a, b, c, d, fun z => (by rw [z, hD] at e; cases e), fun l q z => by rw [z] at q; have := f D q; rw [hD] at this; cases this⟩
theorem RoadF.base {H00 H0 H : Hp} {P : Addr} {r : RoadD} {v : V} (m : RoadF H0 H r v) (g : Grew P H00 H0) : RoadF H00 H r v := by
  obtain ⟨t, u, h, a, b, c, d, e, f⟩ := m
  exact ⟨t, u, h, a, b, c, d, g.free e, fun l q => g.free (f l q)⟩
theorem RoadU.road {D : Addr} {H : Hp} {r : RoadD} {v : V} (m : RoadU D H r v) : RoadL H r v := let ⟨t, u, h, a, b, c, d, _, _⟩ := m; ⟨t, u, h, a, b, c, d⟩
theorem RoadF.road {H0 H : Hp} {r : RoadD} {v : V} (m : RoadF H0 H r v) : RoadL H r v := let ⟨t, u, h, a, b, c, d, _, _⟩ := m; ⟨t, u, h, a, b, c, d⟩
theorem RoadU.grew {D P : Addr} {H H' : Hp} {r : RoadD} {v : V} (g : Grew P H H') (hP : TabG H P) (m : RoadU D H r v) : RoadU D H' r v := by
  obtain ⟨t, u, h, a, b, c, d, e, f⟩ := m
  exact ⟨t, u, h, a, g.tup hP b, g.lst hP c, d.grew g hP, e, f⟩
theorem HoursL.upd {H : Hp} {hs : Option (List (Int × Int))} {h : V} {D : Addr} {ys zs : List V} (hD : H D = some (.lst ys)) (m : HoursL H hs h) (n : ∀ l, h = .ref l → l ≠ D) : HoursL (L2.upd H D (.lst zs)) hs h := by
  cases hs with
  | none => exact m
  | some gs =>
    obtain ⟨l, xs, e, a, b⟩ := m
    exact ⟨l, xs, e, by rw [upd_ne (n l e)]; exact a, Paired.map' b fun _ _ ⟨t, e1, e2⟩ => ⟨t, e1, by rw [upd_ne (fun z => by rw [z, hD] at e2; cases e2)]; exact e2⟩⟩
theorem RoadU.upd {D : Addr} {H : Hp} {r : RoadD} {v : V} {ys zs : List V} (hD : H D = some (.lst ys)) (m : RoadU D H r v) : RoadU D (L2.upd H D (.lst zs)) r v := by
  obtain ⟨t, u, h, a, b, c, d, e, f⟩ := m
  exact ⟨t, u, h, a, by rw [upd_ne (fun z => by rw [z, hD] at b; cases b)]; exact b, by rw [upd_ne e]; exact c, d.upd hD f, e, f⟩
def spLRoad (K : PySem.W.Frag) (P : Addr) : Sp := fun vs H Q _ => ∃ (a pl ki : Addr) (ns : List Int) (k d : Int) (nm : Str) (ps ks : List Str), vs = [.ref a, .int k, .str nm, .ref pl, .ref ki, .int d] ∧ SqL K H a (ns.map V.int) ∧ Sm ns ∧ 0 < ns.length ∧ ns.length ≤ 1000 ∧ 0 ≤ k ∧ 1 ≤ d ∧ d ≤ 1440 ∧
  SqL K H pl (ps.map V.str) ∧ SqL K H ki (ks.map V.str) ∧ 1 ≤ ps.length ∧ ks.length ≤ 4 ∧ ks.Nodup ∧ TabG H P ∧ ∀ H' v r, Grew P H H' → RoadF H H' r v → r.name = nm → RoadOk d ps ks r → Q v H'
theorem sub_mem {α : Type} {l m : List α} (h : List.Sublist l m) {x : α} (hx : x ∈ l) : x ∈ m := h.subset hx
theorem str_at' {ps : List Str} {x : Int} (h : 1 ≤ ps.length) : ∃ z, atI (ps.map V.str) (x % ((ps.map V.str).length : Int)) = some (.str z) ∧ z ∈ ps := by
  have hp : (0 : Int) < ((ps.map V.str).length : Int) := by rw [List.length_map]; omega
  have b0 := Int.emod_nonneg x (show ((ps.map V.str).length : Int) ≠ 0 by omega)
  have b1 := Int.emod_lt_of_pos x hp
  obtain ⟨i, ei⟩ := Int.eq_ofNat_of_zero_le b0
  have hi : i < ps.length := by rw [ei, List.length_map] at b1; omega
  rw [ei]
  exact ⟨ps[i], atI_nat (by rw [List.getElem?_map, List.getElem?_eq_getElem hi]; rfl), List.getElem_mem hi⟩
theorem cutV_pre' (xs : List V) (n : Nat) : cutV xs none (some (n : Int)) = xs.take n := cutV_pre xs n
theorem cutV_suf (xs : List V) (n : Nat) : cutV xs (some (n : Int)) none = xs.drop n := by
  unfold cutV
  rw [HT.sIx_none, HT.sIx_nat]
  rcases Nat.le_total n xs.length with h | h
  · rw [Nat.min_eq_left h]
    exact List.take_of_length_le (by rw [List.length_drop]; exact Nat.le_refl _)
  · rw [Nat.min_eq_right h, List.drop_length, List.drop_eq_nil_of_le h, List.take_nil]
section
variable {Pg : Program} {w : World} {K : PySem.W.Frag} {mg : Str → Option Value} {base : Heap} {C P : Addr}
abbrev nLR : List Str := ["numbers", "k", "name", "places", "kinds", "day", "start", "end", "minutes", "used", "n", "turn"]
theorem scLR : FnScope nLR ["numbers", "k", "name", "places", "kinds", "day"] (defScope sLRoad) := ⟨rfl, rfl, rfl, by decide +kernel, rfl, by decide +kernel, by decide +kernel⟩
theorem ok_lroad {f fP fH : Addr} {fd fdP fdH : FuncData} (F : Fun K "_law_road" "_law_road" sLRoad f fd) (hrg : mg "range" = none) (hm : mg "max" = none) (hl : mg "len" = none)
    (GP : FnOk Pg w K mg base CX0 1 fP fdP ["numbers", "k"] (spLPick K)) (gP : mg "_law_pick" = some (.ref fP)) (kP : PySem.W.keepIn K (.ref fP) = true) (bP : Binds K fdP ["numbers", "k"] [])
    (GH : FnOk Pg w K mg base CX0 2 fH fdH ["numbers", "k", "day"] (spLHours K P)) (gH : mg "_law_hours" = some (.ref fH)) (kH : PySem.W.keepIn K (.ref fH) = true) (bH : Binds K fdH ["numbers", "k", "day"] []) :
    FnOk Pg w K mg base CX0 3 f fd ["numbers", "k", "name", "places", "kinds", "day"] (spLRoad K P) := by
  refine F.ok scLR (fun vs H Q E h => ?_) (fun cdv A outer s H vs Q E hr h => ?_)
  · obtain ⟨a, pl, ki, ns, k, d, nm, ps, ks, rfl, _⟩ := h
    rfl
  · obtain ⟨a, pl, ki, ns, k, d, nm, ps, ks, rfl, hA, hsm, hpos, hl9, hk, hd1, hd2, hPl, hKi, hp1, hk4, hkd, hP, kQ⟩ := h
    refine ⟨_, pss_cons (ps_set (i := 6) scLR.nd rfl (Or.inl rfl) (pe_ix (r := rIxL K) ix_list (pv 3) (pe_op op_mod (pe_call GP (hr.mono (by decide)) (by rfl) gP kP bP .nil pass0 (pa_cons (pv 0) (pa_cons (pv 1) pa_nil))) (pe_callB (r := rLenK K) call_len_seq (by rfl) hl PySem.boot_len (pa_cons (pv 3) pa_nil))) (fun _ _ => rfl)))
      (pss_cons (ps_set (i := 7) scLR.nd rfl (Or.inl rfl) (pe_ix (r := rIxL K) ix_list (pv 3) (pe_op op_mod (pe_op op_fdiv (pe_call GP (hr.mono (by decide)) (by rfl) gP kP bP .nil pass0 (pa_cons (pv 0) (pa_cons (pe_op op_add (pv 1) pe_int) pa_nil))) pe_int) (pe_callB (r := rLenK K) call_len_seq (by rfl) hl PySem.boot_len (pa_cons (pv 3) pa_nil))) (fun _ _ => rfl)))
      (pss_cons (ps_set (i := 8) scLR.nd rfl (Or.inl rfl) (pe_ix (r := rIxL K) ix_list (pe_lst (pa_cons pe_int (pa_cons pe_int (pa_cons (pe_op op_add pe_int (pe_op op_mod (pe_call GP (hr.mono (by decide)) (by rfl) gP kP bP .nil pass0 (pa_cons (pv 0) (pa_cons (pe_op op_add (pv 1) pe_int) pa_nil))) pe_int)) (pa_cons (pe_op op_add pe_int (pe_op op_mod (pe_call GP (hr.mono (by decide)) (by rfl) gP kP bP .nil pass0 (pa_cons (pv 0) (pa_cons (pe_op op_add (pv 1) pe_int) pa_nil))) pe_int)) pa_nil)))))
          (pe_op op_mod (pe_call GP (hr.mono (by decide)) (by rfl) gP kP bP .nil pass0 (pa_cons (pv 0) (pa_cons (pe_op op_add (pv 1) pe_int) pa_nil))) pe_int) (fun _ _ => rfl)))
      (C8.pss_cut (ps_setLc (i := 9) (own := [("n", 10)]) (g := gName 10) rfl scLR.nd rfl rfl (sw_true rfl rfl rfl (by decide +kernel)) (pi_range1 rfl hrg (pa_cons (pe_callB (r := rLenK K) call_len_seq (by rfl) hl PySem.boot_len (pa_cons (pv 4) pa_nil)) pa_nil)) (blkOk_by (N := nLR) (sc := defScope sLRoad) (by decide +kernel)) (fun _ _ _ _ _ => pg_name (i := 10) scLR.nd rfl (Or.inl rfl))
          (fun _ _ _ _ _ => pts_one (pt_cmpR op_eq (pe_op op_mod (pe_op op_fdiv (pe_call GP (hr.mono (by decide)) (by rfl) gP kP bP .nil pass0 (pa_cons (pv 0) (pa_cons (pe_op op_add (pv 1) pe_int) pa_nil))) (pe_ix (r := rIxL K) ix_list (pe_lst (pa_cons pe_int (pa_cons pe_int (pa_cons pe_int (pa_cons pe_int pa_nil))))) (pv 10) (fun _ _ => rfl))) pe_int) pe_int (nomark _)))
          (fun _ _ _ _ _ => pe_ix (r := rIxL K) ix_list (pv 4) (pv 10) (fun _ _ => rfl)))
      (pss_cons (ps_set (i := 11) scLR.nd rfl (Or.inl rfl) (pe_op op_mod (pe_op op_fdiv (pe_call GP (hr.mono (by decide)) (by rfl) gP kP bP .nil pass0 (pa_cons (pv 0) (pa_cons (pe_op op_add (pv 1) pe_int) pa_nil))) pe_int) (pe_callB (call_max2 rfl) (by rfl) hm (by decide +kernel) (pa_cons pe_int (pa_cons (pe_callB (r := rLenK K) call_len_seq (by rfl) hl PySem.boot_len (pa_cons (pv 9) pa_nil)) pa_nil)))))
      (pss_one (ps_ret (pe_tup (pa_cons (pv 2) (pa_cons (pv 6) (pa_cons (pv 7) (pa_cons (pv 8) (pa_cons (pe_op op_cat (pe_slice sl_list (pv 9) (po_some (pv 11)) po_none) (pe_slice sl_list (pv 9) po_none (po_some (pv 11))))
          (pa_cons (pe_call GH (hr.mono (by decide)) (by rfl) gH kH bH .nil pass0 (pa_cons (pv 0) (pa_cons (pe_op op_add (pv 1) pe_int) (pa_cons (pv 5) pa_nil)))) pa_nil))))))))))))), ?_⟩
    have hpz : (0 : Int) < ((ps.map V.str).length : Int) := by rw [List.length_map]; omega
    refine ⟨_, rfl, _, rfl, _, rfl, a, ns, k, rfl, hA, hsm, hpos, hl9, hk, fun v0 h0 => ⟨_, rfl, pl, _, rfl, .inl hPl, _, _, rfl, rfl, hpz, ?_⟩⟩
    obtain ⟨s0, es0, ms0⟩ := str_at' (x := v0) hp1
    refine ⟨pl, _, _, _, rfl, rfl, hPl, es0, ?_⟩
    refine ⟨_, rfl, _, rfl, _, rfl, _, _, rfl, rfl, a, ns, _, rfl, hA, hsm, hpos, hl9, by omega, fun v1 h1 => ⟨_, _, rfl, rfl, ⟨by decide, by decide⟩, _, rfl, pl, _, rfl, .inl hPl, _, _, rfl, rfl, hpz, ?_⟩⟩
    obtain ⟨s1, es1, ms1⟩ := str_at' (x := v1 / 2) hp1
    refine ⟨pl, _, _, _, rfl, rfl, hPl, es1, ?_⟩
    refine ⟨_, rfl, _, rfl, _, _, rfl, rfl, a, ns, _, rfl, hA, hsm, hpos, hl9, by omega, fun v2 h2 => ⟨_, _, rfl, rfl, (show (0 : Int) < 30 by decide), _, _, rfl, rfl, ?_⟩⟩
    refine ⟨_, rfl, _, rfl, _, _, rfl, rfl, a, ns, _, rfl, hA, hsm, hpos, hl9, by omega, fun v3 h3 => ⟨_, _, rfl, rfl, (show (0 : Int) < 1000 by decide), _, _, rfl, rfl, (show 4 ≤ sizeLine by decide), fun T nT => ?_⟩⟩
    have gT := Grew.new hP (o := .lst [.int 1, .int 1000, .int (1 + v2 % 30), .int (1 + v3 % 1000)]) nT
    have hT : (L2.upd H T (.lst [.int 1, .int 1000, .int (1 + v2 % 30), .int (1 + v3 % 1000)])) T = some (.lst [.int 1, .int 1000, .int (1 + v2 % 30), .int (1 + v3 % 1000)]) := upd_same
    generalize L2.upd H T (.lst [.int 1, .int 1000, .int (1 + v2 % 30), .int (1 + v3 % 1000)]) = H1 at gT hT ⊢
    have hA1 := gT.sqL hP hA
    have hKi1 := gT.sqL hP hKi
    refine ⟨_, rfl, _, rfl, _, _, rfl, rfl, a, ns, _, rfl, hA1, hsm, hpos, hl9, by omega, fun v4 h4 => ⟨_, _, rfl, rfl, (show (0 : Int) < 4 by decide), ?_⟩⟩
    obtain ⟨mi, emi, mi1, mi2⟩ : ∃ mi : Int, atI [V.int 1, V.int 1000, V.int (1 + v2 % 30), V.int (1 + v3 % 1000)] (v4 % 4) = some (.int mi) ∧ 1 ≤ mi ∧ mi ≤ 1000 := by
      have : v4 % 4 = 0 ∨ v4 % 4 = 1 ∨ v4 % 4 = 2 ∨ v4 % 4 = 3 := by omega
      rcases this with c | c | c | c <;> rw [c]
      · exact ⟨1, rfl, by decide, by decide⟩
      · exact ⟨1000, rfl, by decide, by decide⟩
      · exact ⟨_, rfl, by omega, by omega⟩
      · exact ⟨_, rfl, by omega, by omega⟩
    refine ⟨T, _, _, _, rfl, rfl, SqL.of hT, emi, ?_⟩
    refine ⟨fun σ H' => ∃ (D : Addr) (us : List Str), σ = [some (.ref a), some (.int k), some (.str nm), some (.ref pl), some (.ref ki), some (.int d), some (.str s0), some (.str s1), some (.int mi), some (.ref D), none, none] ∧ Grew P H H' ∧ H' D = some (.lst (us.map V.str)) ∧ List.Sublist us ks, ?_, ?_⟩
    · refine ⟨_, rfl, ki, _, rfl, .inl hKi1, _, rfl, by omega, by rw [List.length_map]; omega, fun D nD => lc_range (n := (ks.map V.str).length) (fun i H' => Grew P H1 H' ∧ ∃ us : List Str, H' D = some (.lst (us.map V.str)) ∧ List.Sublist us (ks.take i))
        ⟨Grew.new gT.tab nD, [], upd_same, List.nil_sublist _⟩ (fun i H' hi p => ?_) (fun H' p => ?_)⟩
      · obtain ⟨g, us, hD, hs⟩ := p
        have hi' : i < ks.length := by rw [List.length_map] at hi; exact hi
        have g0 := gT.trans g
        have hA2 := g0.sqL hP hA
        refine ⟨rfl, _, rfl, _, rfl, _, _, rfl, rfl, a, ns, _, rfl, hA2, hsm, hpos, hl9, by omega, fun v5 h5 => ⟨(show 4 ≤ sizeLine by decide), fun U nU => ?_⟩⟩
        have gU := g.put (o := .lst [.int 1, .int 2, .int 4, .int 8]) nU
        have hD2 := (Grew.new g.tab (o := .lst [.int 1, .int 2, .int 4, .int 8]) nU).lst g.tab hD
        have hU : (L2.upd H' U (.lst [.int 1, .int 2, .int 4, .int 8])) U = some (.lst [.int 1, .int 2, .int 4, .int 8]) := upd_same
        generalize L2.upd H' U (.lst [.int 1, .int 2, .int 4, .int 8]) = H2 at gU hD2 hU ⊢
        obtain ⟨p2, ep2, p20, p21⟩ : ∃ p2 : Int, atI [V.int 1, V.int 2, V.int 4, V.int 8] (0 + (i : Int)) = some (.int p2) ∧ 0 < p2 ∧ p2 < 1073741824 := by
          rw [Int.zero_add]
          match i, hi' with
          | 0, _ => exact ⟨1, rfl, by decide, by decide⟩
          | 1, _ => exact ⟨2, rfl, by decide, by decide⟩
          | 2, _ => exact ⟨4, rfl, by decide, by decide⟩
          | 3, _ => exact ⟨8, rfl, by decide, by decide⟩
          | n + 4, h => omega
        have hsl := hs.length_le
        rw [List.length_take] at hsl
        refine ⟨_, rfl, U, _, _, _, rfl, rfl, SqL.of hU, ep2, _, _, rfl, rfl, ⟨p20, p21⟩, _, _, rfl, rfl, (show (0 : Int) < 2 by decide), rfl, _, rfl, ?_⟩
        have ek : ks[i]? = some ks[i] := List.getElem?_eq_getElem hi'
        refine ite2 (fun _ => ?_) (fun _ => ?_)
        · have hKi2 := (gT.trans gU).sqL hP hKi
          refine ⟨_, rfl, _, rfl, ki, _, _, .str ks[i], rfl, rfl, hKi2, by rw [Int.zero_add]; exact atI_nat (by rw [List.getElem?_map, ek]; rfl), _, hD2, by rw [List.length_map, sizeLine_eq]; omega, gU.write hD2 (fun _ z => by cases z) nD, us ++ [ks[i]], by rw [upd_same, List.map_append]; rfl, ?_⟩
          rw [List.take_succ, ek]
          exact List.Sublist.append hs (List.Sublist.refl _)
        · refine ⟨gU, us, hD2, ?_⟩
          rw [List.take_succ, ek]
          exact hs.trans (List.sublist_append_left _ _)
      · obtain ⟨g, us, hD, hs⟩ := p
        rw [List.length_map, List.take_length] at hs
        exact ⟨D, us, rfl, gT.trans g, hD, hs⟩
    rintro σ H2 ⟨D, us, rfl, g2, hD, hsub⟩
    have hA2 := g2.sqL hP hA
    have ul := hsub.length_le
    refine ⟨_, rfl, _, rfl, _, _, rfl, rfl, a, ns, _, rfl, hA2, hsm, hpos, hl9, by omega, fun v6 h6 => ⟨_, _, rfl, rfl, ⟨by decide, by decide⟩, _, rfl, D, _, rfl, .inl (SqL.of hD), _, _, rfl, ?_⟩⟩
    dsimp only []
    obtain ⟨mx, emx, m1⟩ : ∃ mx : Int, (if ((us.map V.str).length : Int) > 1 then ((us.map V.str).length : Int) else 1) = mx ∧ 1 ≤ mx := by
      by_cases c : ((us.map V.str).length : Int) > 1
      · exact ⟨_, by rw [if_pos c], by omega⟩
      · exact ⟨1, by rw [if_neg c], by omega⟩
    rw [emx]
    refine ⟨_, _, rfl, rfl, (show (0 : Int) < mx by omega), ?_⟩
    dsimp only []
    obtain ⟨tn, etn⟩ : ∃ tn : Nat, v6 / 16 % mx = (tn : Int) := by
      obtain ⟨n, e⟩ := Int.eq_ofNat_of_zero_le (Int.emod_nonneg (v6 / 16) (show mx ≠ 0 by omega))
      exact ⟨n, e⟩
    rw [etn]
    refine ⟨_, rfl, _, rfl, _, rfl, _, rfl, _, rfl, _, rfl, _, rfl, D, _, rfl, SqL.of hD, fun U1 n1 => ?_⟩
    rw [cutV_suf]
    have g3 := Grew.new g2.tab (o := .lst ((us.map V.str).drop tn)) n1
    have hD3 := g3.lst g2.tab hD
    have hU1 : (L2.upd H2 U1 (.lst ((us.map V.str).drop tn))) U1 = some (.lst ((us.map V.str).drop tn)) := upd_same
    generalize L2.upd H2 U1 (.lst ((us.map V.str).drop tn)) = H3 at g3 hD3 hU1 ⊢
    refine ⟨_, rfl, _, rfl, _, rfl, D, _, rfl, SqL.of hD3, fun U2 n2 => ?_⟩
    rw [cutV_pre']
    have g4 := Grew.new g3.tab (o := .lst ((us.map V.str).take tn)) n2
    have hU1' := g4.lst g3.tab hU1
    have hU2 : (L2.upd H3 U2 (.lst ((us.map V.str).take tn))) U2 = some (.lst ((us.map V.str).take tn)) := upd_same
    generalize L2.upd H3 U2 (.lst ((us.map V.str).take tn)) = H4 at g4 hU1' hU2 ⊢
    refine ⟨U1, U2, _, _, rfl, rfl, hU1', hU2, by rw [List.length_drop, List.length_take, List.length_map, sizeLine_eq]; omega, fun W nW => ?_⟩
    have eu : (us.map V.str).drop tn ++ (us.map V.str).take tn = (us.drop tn ++ us.take tn).map V.str := by rw [List.map_append, List.map_drop, List.map_take]
    rw [eu]
    have g24 := (g2.trans g3).trans g4
    have g5 := Grew.new g24.tab (o := .lst ((us.drop tn ++ us.take tn).map V.str)) nW
    have hW : (L2.upd H4 W (.lst ((us.drop tn ++ us.take tn).map V.str))) W = some (.lst ((us.drop tn ++ us.take tn).map V.str)) := upd_same
    generalize L2.upd H4 W (.lst ((us.drop tn ++ us.take tn).map V.str)) = H5 at g5 hW ⊢
    have g05 := g24.trans g5
    refine ⟨_, rfl, _, rfl, _, _, rfl, rfl, _, rfl, a, ns, _, d, rfl, g05.sqL hP hA, hsm, hpos, hl9, by omega, hd1, hd2, g05.tab, fun H6 hv h g6 hh hok hfr => ⟨(show 6 ≤ sizeLine by decide), fun t nt => ?_⟩⟩
    have g7 := Grew.new (g05.trans g6).tab (o := .tup [.str nm, .str s0, .str s1, .int mi, .ref W, hv]) nt
    have pm : (us.drop tn ++ us.take tn).Perm us := (List.perm_append_comm).trans (by rw [List.take_append_drop])
    refine kQ _ (.ref t) ⟨nm, s0, s1, mi, us.drop tn ++ us.take tn, h⟩ ((g05.trans g6).trans g7) ⟨t, W, hv, rfl, upd_same, (g6.trans g7).lst g05.tab hW, hh.grew g7 (g05.trans g6).tab, g24.free nW, fun l e => g05.free (hfr l e)⟩ rfl ⟨ms0, ms1, mi1, mi2, fun z hz => hsub.subset (pm.mem_iff.mp hz), by show (us.drop tn ++ us.take tn).length ≤ 4; rw [pm.length_eq]; omega, pm.nodup_iff.mpr (hkd.sublist hsub), hok⟩
end
end W

set_option Elab.async false
set_option linter.all false
set_option maxRecDepth 100000
set_option maxHeartbeats 2000000
namespace W
open PySem PySem.Spec PyProof.Rows L2 GxR MyG MyS SqX
/-! ### drawn bars -/
abbrev sLBars : Stmt := top 55
def spLBars (K : PySem.W.Frag) (P : Addr) : Sp := fun vs H Q _ => ∃ (a ro : Addr) (ns : List Int) (k many : Int) (rs : List RoadD) (xs : List V), vs = [.ref a, .int k, .ref ro, .int many] ∧ SqL K H a (ns.map V.int) ∧ Sm ns ∧ 0 < ns.length ∧ ns.length ≤ 1000 ∧ 0 ≤ k ∧ 0 ≤ many ∧ many ≤ 40 ∧ H ro = some (.lst xs) ∧ Paired (RoadL H) rs xs ∧ rs.length ≤ 60 ∧ (rs.map (·.name)).Nodup ∧ TabG H P ∧
  ∀ H' p bs ys, Grew P H H' → H p = none → H' p = some (.lst ys) → Paired (GBar H') bs ys → BarsOk rs bs → Q (.ref p) H'
theorem Paired.subl {α β : Type} {F : α → β → Prop} : ∀ {l : List α} {m m' : List β}, Paired F l m → List.Sublist m' m → ∃ l', List.Sublist l' l ∧ Paired F l' m'
  | _, _, _, .nil, h => by cases h; exact ⟨[], .slnil, .nil⟩
  | _, _, _, .cons a r, h => by
    cases h with
    | cons _ h =>
      obtain ⟨l', s, q⟩ := Paired.subl r h
      exact ⟨l', s.cons _, q⟩
    | cons_cons _ h =>
      obtain ⟨l', s, q⟩ := Paired.subl r h
      exact ⟨_, s.cons_cons _, .cons a q⟩
theorem Paired.drop' {α β : Type} {F : α → β → Prop} : ∀ {l : List α} {m : List β} (n : Nat), Paired F l m → Paired F (l.drop n) (m.drop n)
  | _, _, 0, h => h
  | _, _, n + 1, .nil => .nil
  | _, _, n + 1, .cons _ r => Paired.drop' n r
theorem Paired.take' {α β : Type} {F : α → β → Prop} : ∀ {l : List α} {m : List β} (n : Nat), Paired F l m → Paired F (l.take n) (m.take n)
  | _, _, 0, _ => .nil
  | _, _, n + 1, .nil => .nil
  | _, _, n + 1, .cons a r => .cons a (Paired.take' n r)
theorem Paired.app {α β : Type} {F : α → β → Prop} : ∀ {l l2 : List α} {m m2 : List β}, Paired F l m → Paired F l2 m2 → Paired F (l ++ l2) (m ++ m2)
  | _, _, _, _, .nil, h => h
  | _, _, _, _, .cons a r, h => .cons a (Paired.app r h)
/-- what the rounds keep -/
structure BRound (rs : List RoadD) (i j : Nat) (bs : List (Str × Str)) : Prop where
  nd : bs.Nodup
  len : bs.length ≤ i * rs.length + j
  ok : ∀ b ∈ bs, ∃ r1 ∈ rs, ∃ r2 ∈ rs, b.1 = r1.name ∧ b.2 = r2.name ∧ r1.goal = r2.start
  at_ : ∀ b ∈ bs, b.1 ∈ (rs.take i).map (·.name) ∨ (∃ r, rs[i]? = some r ∧ b.1 = r.name ∧ b.2 ∈ (rs.take j).map (·.name))
theorem take_next {rs : List RoadD} {i : Nat} {r : RoadD} (h : rs[i]? = some r) : (rs.take (i + 1)).map (·.name) = (rs.take i).map (·.name) ++ [r.name] := by rw [List.take_succ, h, List.map_append]; rfl
theorem not_ahead {rs : List RoadD} {i : Nat} {r : RoadD} (nd : (rs.map (·.name)).Nodup) (h : rs[i]? = some r) : r.name ∉ (rs.take i).map (·.name) := fun hm => by
  obtain ⟨hl, e⟩ := List.getElem?_eq_some_iff.mp h
  obtain ⟨r', hr', e'⟩ := List.mem_map.mp hm
  obtain ⟨j, hj, ej⟩ := List.getElem_of_mem hr'
  rw [List.length_take] at hj
  rw [List.getElem_take] at ej
  refine absurd ?_ (List.pairwise_iff_getElem.mp nd j i (by rw [List.length_map]; omega) (by rw [List.length_map]; exact hl) (by omega))
  rw [List.getElem_map, List.getElem_map, e, ej, e']
theorem BRound.skip {rs : List RoadD} {i j : Nat} {bs : List (Str × Str)} {r2 : RoadD} (h : BRound rs i j bs) (h2 : rs[j]? = some r2) : BRound rs i (j + 1) bs :=
  ⟨h.nd, by have := h.len; omega, h.ok, fun b hb => (h.at_ b hb).imp id fun ⟨r, a, c, d⟩ => ⟨r, a, c, by rw [take_next h2]; exact List.mem_append_left _ d⟩⟩
theorem BRound.add {rs : List RoadD} {i j : Nat} {bs : List (Str × Str)} {r1 r2 : RoadD} (nd : (rs.map (·.name)).Nodup) (h : BRound rs i j bs) (h1 : rs[i]? = some r1) (h2 : rs[j]? = some r2) (e : r1.goal = r2.start) : BRound rs i (j + 1) (bs ++ [(r1.name, r2.name)]) := by
  refine ⟨?_, by rw [List.length_append]; have := h.len; show _ + 1 ≤ _; omega, fun b hb => ?_, fun b hb => ?_⟩
  · refine List.nodup_append.mpr ⟨h.nd, by simp, fun a ha b hb => ?_⟩
    rw [List.mem_singleton.mp hb]
    intro q
    rw [q] at ha
    rcases h.at_ _ ha with x | ⟨r, x1, x2, x3⟩
    · exact not_ahead nd h1 x
    · exact not_ahead nd h2 x3
  · rcases List.mem_append.mp hb with hb | hb
    · exact h.ok b hb
    · rw [List.mem_singleton.mp hb]
      exact ⟨r1, List.mem_of_getElem? h1, r2, List.mem_of_getElem? h2, rfl, rfl, e⟩
  · rcases List.mem_append.mp hb with hb | hb
    · exact (h.at_ b hb).imp id fun ⟨r, a, c, d⟩ => ⟨r, a, c, by rw [take_next h2]; exact List.mem_append_left _ d⟩
    · rw [List.mem_singleton.mp hb]
      exact .inr ⟨r1, h1, rfl, by rw [take_next h2]; exact List.mem_append_right _ (List.mem_singleton.mpr rfl)⟩
theorem BRound.row {rs : List RoadD} {i : Nat} {bs : List (Str × Str)} {r1 : RoadD} (h : BRound rs i rs.length bs) (h1 : rs[i]? = some r1) : BRound rs (i + 1) 0 bs := by
  refine ⟨h.nd, by have := h.len; rw [Nat.succ_mul]; omega, h.ok, fun b hb => ?_⟩
  rcases h.at_ b hb with x | ⟨r, x1, x2, x3⟩
  · exact .inl (by rw [take_next h1]; exact List.mem_append_left _ x)
  · rw [h1] at x1
    obtain rfl := Option.some.inj x1
    exact .inl (by rw [take_next h1, x2]; exact List.mem_append_right _ (List.mem_singleton.mpr rfl))
section
variable {Pg : Program} {w : World} {K : PySem.W.Frag} {mg : Str → Option Value} {base : Heap} {C P : Addr}
abbrev nLBa : List Str := ["numbers", "k", "roads", "many", "found", "first", "second", "turn", "step"]
theorem scLBa : FnScope nLBa ["numbers", "k", "roads", "many"] (defScope sLBars) := ⟨rfl, rfl, rfl, by decide +kernel, rfl, by decide +kernel, by decide +kernel⟩
theorem ok_lbars {f fP : Addr} {fd fdP : FuncData} (F : Fun K "_law_bars" "_law_bars" sLBars f fd) (hm : mg "max" = none) (hl : mg "len" = none)
    (GP : FnOk Pg w K mg base CX0 1 fP fdP ["numbers", "k"] (spLPick K)) (gP : mg "_law_pick" = some (.ref fP)) (kP : PySem.W.keepIn K (.ref fP) = true) (bP : Binds K fdP ["numbers", "k"] []) :
    FnOk Pg w K mg base CX0 2 f fd ["numbers", "k", "roads", "many"] (spLBars K P) := by
  refine F.ok scLBa (fun vs H Q E h => ?_) (fun cdv A outer s H vs Q E hr h => ?_)
  · obtain ⟨a, ro, ns, k, many, rs, xs, rfl, _⟩ := h
    rfl
  · obtain ⟨a, ro, ns, k, many, rs, xs, rfl, hA, hsm, hpos, hl9, hk, hm0, hm40, hRo, hG, h60, hnd, hP, kQ⟩ := h
    refine ⟨_, pss_cons (ps_set (i := 4) scLBa.nd rfl (Or.inl rfl) (pe_lst pa_nil))
      (C8.pss_cut (ps_for PassesOwn.never rfl (pi_list (pv 2)) (pg_name (i := 5) scLBa.nd rfl (Or.inl rfl)) (pss_one (ps_for PassesOwn.never rfl (pi_list (pv 2)) (pg_name (i := 6) scLBa.nd rfl (Or.inl rfl))
        (pss_one (ps_if (pt_cmpR op_eq (pe_ix (r := rIxT K) ix_tup (pv 5) pe_int (fun _ _ => rfl)) (pe_ix (r := rIxT K) ix_tup (pv 6) pe_int (fun _ _ => rfl)) (nomark _))
          (pss_one (ps_expr (pe_bm PySem.F.plainAttrs_list PySem.F.slot_list_append PySem.F.type_list_append mt_append (pv 4) (pa_cons (pe_tup (pa_cons (pe_ix (r := rIxT K) ix_tup (pv 5) pe_int (fun _ _ => rfl)) (pa_cons (pe_ix (r := rIxT K) ix_tup (pv 6) pe_int (fun _ _ => rfl)) pa_nil))) pa_nil)))) pss_nil)))))
      (pss_cons (ps_set (i := 7) scLBa.nd rfl (Or.inl rfl) (pe_op op_mod (pe_call GP hr (by rfl) gP kP bP .nil pass0 (pa_cons (pv 0) (pa_cons (pv 1) pa_nil))) (pe_callB (call_max2 rfl) (by rfl) hm (by decide +kernel) (pa_cons pe_int (pa_cons (pe_callB (r := rLenK K) call_len_seq (by rfl) hl PySem.boot_len (pa_cons (pv 4) pa_nil)) pa_nil)))))
      (pss_cons (ps_set (i := 4) scLBa.nd rfl (Or.inl rfl) (pe_op op_cat (pe_slice sl_list (pv 4) (po_some (pv 7)) po_none) (pe_slice sl_list (pv 4) po_none (po_some (pv 7)))))
      (pss_cons (ps_set (i := 8) scLBa.nd rfl (Or.inl rfl) (pe_op op_add pe_int (pe_op op_mod (pe_call GP hr (by rfl) gP kP bP .nil pass0 (pa_cons (pv 0) (pa_cons (pe_op op_add (pv 1) pe_int) pa_nil))) pe_int)))
      (pss_one (ps_ret (pe_slice sl_list (StS.pe_stepL (pv 4) (pv 8)) po_none (po_some (pv 3))))))))), ?_⟩
    refine ⟨Nat.zero_le _, fun L nL => ?_⟩
    have gL := Grew.new hP (o := .lst []) nL
    have hL0 : (L2.upd H L (.lst [])) L = some (.lst []) := upd_same
    generalize L2.upd H L (.lst []) = H1 at gL hL0 ⊢
    have hRo1 := gL.lst hP hRo
    have hln := Paired.len hG
    have roNe : ro ≠ L := fun e => by rw [e, nL] at hRo; cases hRo
    have keepR : ∀ {H' : Hp}, Grew P H H' → Paired (RoadL H') rs xs := fun g => Paired.map' hG fun _ _ m => m.grew g hP
    refine ⟨fun σ H' => ∃ (v5 v6 : Option V) (bs : List (Str × Str)) (ys : List V), σ = [some (.ref a), some (.int k), some (.ref ro), some (.int many), some (.ref L), v5, v6, none, none] ∧ Grew P H H' ∧ H' L = some (.lst ys) ∧ Paired (GBar H') bs ys ∧ BRound rs rs.length 0 bs, ?_, ?_⟩
    · refine ⟨_, rfl, ro, rfl, ⟨_, SqL.of hRo1⟩, for_list (K := K) (a := ro) (xs := xs) (fun i σ H' => ∃ (v5 v6 : Option V) (bs : List (Str × Str)) (ys : List V), σ = [some (.ref a), some (.int k), some (.ref ro), some (.int many), some (.ref L), v5, v6, none, none] ∧ Grew P H H' ∧ H' ro = some (.lst xs) ∧ H' L = some (.lst ys) ∧ Paired (GBar H') bs ys ∧ BRound rs i 0 bs)
        ⟨none, none, [], [], rfl, gL, hRo1, hL0, .nil, ⟨List.nodup_nil, Nat.zero_le _, fun b hb => (by cases hb), fun b hb => (by cases hb)⟩⟩ (fun i σ H' _ h => by obtain ⟨_, _, _, _, _, _, q, _⟩ := h; exact SqL.of q) ?_ ?_⟩
      · rintro i y σ H2 hy ⟨v5, v6, bs, ys, rfl, g2, hRo2, hL2, hB2, hR2⟩
        obtain ⟨r1, hr1, hm1⟩ := Paired.at (keepR g2) hy
        obtain ⟨t1, u1, h1, rfl, e1, _, _⟩ := hm1
        have hi1 := (List.getElem?_eq_some_iff.mp hr1).1
        refine ⟨_, rfl, ro, rfl, ⟨_, SqL.of hRo2⟩, for_list (K := K) (a := ro) (xs := xs) (fun j σ H' => ∃ (v6 : Option V) (bs : List (Str × Str)) (ys : List V), σ = [some (.ref a), some (.int k), some (.ref ro), some (.int many), some (.ref L), some (.ref t1), v6, none, none] ∧ Grew P H H' ∧ H' ro = some (.lst xs) ∧ H' L = some (.lst ys) ∧ Paired (GBar H') bs ys ∧ BRound rs i j bs ∧ H' t1 = some (.tup [.str r1.name, .str r1.start, .str r1.goal, .int r1.minutes, .ref u1, h1]))
          ⟨v6, bs, ys, rfl, g2, hRo2, hL2, hB2, hR2, e1⟩ (fun i σ H' _ h => by obtain ⟨_, _, _, _, _, q, _⟩ := h; exact SqL.of q) ?_ ?_⟩
        · rintro j y2 σ H3 hy2 ⟨v6, bs, ys, rfl, g3, hRo3, hL3, hB3, hR3, e13⟩
          obtain ⟨r2, hr2, hm2⟩ := Paired.at (keepR g3) hy2
          obtain ⟨t2, u2, h2, rfl, e2, _, _⟩ := hm2
          have hj1 := (List.getElem?_eq_some_iff.mp hr2).1
          refine ⟨_, rfl, t1, _, 2, _, rfl, rfl, SqT.of e13, rfl, _, rfl, t2, _, 1, _, rfl, rfl, SqT.of e2, rfl, rfl, _, rfl, ?_⟩
          by_cases c : r1.goal = r2.start
          case neg =>
            refine if_f (decide_eq_false (fun e => c (by injection e with e))) ?_
            exact ⟨_, bs, ys, rfl, g3, hRo3, hL3, hB3, hR3.skip hr2, e13⟩
          refine if_t (decide_eq_true (congrArg V.str c)) ?_
          refine ⟨_, rfl, .inl ⟨rfl, _, SqL.of hL3⟩, _, rfl, t1, _, 0, _, rfl, rfl, SqT.of e13, rfl, _, rfl, t2, _, 0, _, rfl, rfl, SqT.of e2, rfl, (show 2 ≤ sizeLine by decide), fun U nU => ?_⟩
          have gU := Grew.new g3.tab (o := .tup [.str r1.name, .str r2.name]) nU
          have hL4 := gU.lst g3.tab hL3
          have hlen := hR3.len
          have hyl := Paired.len hB3
          have hmul : i * rs.length ≤ 60 * 60 := Nat.mul_le_mul (by omega) h60
          refine ⟨L, _, _, rfl, rfl, hL4, by rw [sizeLine_eq]; omega, ?_⟩
          have up : ∀ {p : Str × Str} {v : V}, GBar (L2.upd H3 U (.tup [.str r1.name, .str r2.name])) p v → GBar (L2.upd (L2.upd H3 U (.tup [.str r1.name, .str r2.name])) L (.lst (ys ++ [.ref U]))) p v := fun ⟨t, e1, e2⟩ => ⟨t, e1, by rw [upd_ne (fun z => by rw [z, hL4] at e2; cases e2)]; exact e2⟩
          have e14 := gU.tup g3.tab e13
          refine ⟨_, bs ++ [(r1.name, r2.name)], ys ++ [.ref U], rfl, (g3.trans gU).write hL4 (fun _ z => by cases z) nL, by rw [upd_ne roNe]; exact gU.lst g3.tab hRo3, upd_same, ?_, hR3.add hnd hr1 hr2 c, by rw [upd_ne (fun z => by rw [z, hL4] at e14; cases e14)]; exact e14⟩
          exact Paired.snoc (Paired.map' hB3 fun _ _ m => up (m.grew gU g3.tab)) (up ⟨U, rfl, upd_same⟩)
        · rintro σ H3 ⟨v6, bs, ys, rfl, g3, hRo3, hL3, hB3, hR3, e13⟩
          rw [← hln] at hR3
          exact ⟨_, _, bs, ys, rfl, g3, hRo3, hL3, hB3, hR3.row hr1⟩
      · rintro σ H2 ⟨v5, v6, bs, ys, rfl, g2, hRo2, hL2, hB2, hR2⟩
        rw [← hln] at hR2
        exact ⟨v5, v6, bs, ys, rfl, g2, hL2, hB2, hR2⟩
    rintro σ H2 ⟨v5, v6, bs, ys, rfl, g2, hL2, hB2, hR2⟩
    have hA2 := g2.sqL hP hA
    have hyl := Paired.len hB2
    have hlen := hR2.len
    have hmul : rs.length * rs.length ≤ 60 * 60 := Nat.mul_le_mul h60 h60
    refine ⟨_, rfl, _, rfl, a, ns, k, rfl, hA2, hsm, hpos, hl9, hk, fun v0 h0 => ⟨_, rfl, L, _, rfl, .inl (SqL.of hL2), _, _, rfl, ?_⟩⟩
    dsimp only []
    obtain ⟨mx, emx, m1⟩ : ∃ mx : Int, (if (ys.length : Int) > 1 then (ys.length : Int) else 1) = mx ∧ 1 ≤ mx := by
      by_cases c : (ys.length : Int) > 1
      · exact ⟨_, by rw [if_pos c], by omega⟩
      · exact ⟨1, by rw [if_neg c], by omega⟩
    rw [emx]
    refine ⟨_, _, rfl, rfl, (show (0 : Int) < mx by omega), ?_⟩
    dsimp only []
    obtain ⟨tn, etn⟩ : ∃ tn : Nat, v0 % mx = (tn : Int) := by
      obtain ⟨n, e⟩ := Int.eq_ofNat_of_zero_le (Int.emod_nonneg v0 (show mx ≠ 0 by omega))
      exact ⟨n, e⟩
    rw [etn]
    refine ⟨_, rfl, _, rfl, _, rfl, L, _, rfl, SqL.of hL2, fun U1 n1 => ?_⟩
    rw [cutV_suf]
    have g3 := Grew.new g2.tab (o := .lst (ys.drop tn)) n1
    have hL3 := g3.lst g2.tab hL2
    have hU1 : (L2.upd H2 U1 (.lst (ys.drop tn))) U1 = some (.lst (ys.drop tn)) := upd_same
    generalize L2.upd H2 U1 (.lst (ys.drop tn)) = H3 at g3 hL3 hU1 ⊢
    refine ⟨_, rfl, _, rfl, _, rfl, L, _, rfl, SqL.of hL3, fun U2 n2 => ?_⟩
    rw [cutV_pre']
    have g4 := Grew.new g3.tab (o := .lst (ys.take tn)) n2
    have hU1' := g4.lst g3.tab hU1
    have hU2 : (L2.upd H3 U2 (.lst (ys.take tn))) U2 = some (.lst (ys.take tn)) := upd_same
    generalize L2.upd H3 U2 (.lst (ys.take tn)) = H4 at g4 hU1' hU2 ⊢
    refine ⟨U1, U2, _, _, rfl, rfl, hU1', hU2, by rw [List.length_drop, List.length_take, sizeLine_eq]; omega, fun W nW => ?_⟩
    have g24 := (g2.trans g3).trans g4
    have g5 := Grew.new g24.tab (o := .lst (ys.drop tn ++ ys.take tn)) nW
    have hW : (L2.upd H4 W (.lst (ys.drop tn ++ ys.take tn))) W = some (.lst (ys.drop tn ++ ys.take tn)) := upd_same
    generalize L2.upd H4 W (.lst (ys.drop tn ++ ys.take tn)) = H5 at g5 hW ⊢
    have g05 := g24.trans g5
    have gB : ∀ {H' : Hp}, Grew P H2 H' → Paired (GBar H') (bs.drop tn ++ bs.take tn) (ys.drop tn ++ ys.take tn) := fun g => by
      have := Paired.map' hB2 fun _ _ m => m.grew g g2.tab
      exact Paired.app (Paired.drop' tn this) (Paired.take' tn this)
    have pm : (bs.drop tn ++ bs.take tn).Perm bs := (List.perm_append_comm).trans (by rw [List.take_append_drop])
    have g25 := (g3.trans g4).trans g5
    refine ⟨_, rfl, _, rfl, _, _, rfl, rfl, a, ns, _, rfl, g05.sqL hP hA, hsm, hpos, hl9, by omega, fun v1 h1 => ⟨_, _, rfl, rfl, (show (0 : Int) < 3 by decide), _, _, rfl, rfl, ?_⟩⟩
    refine ⟨_, rfl, W, _, rfl, SqL.of hW, _, rfl, _, rfl, _, rfl, by omega, SqL.of hW, fun Z zs hsub nZ => ?_⟩
    have gZ := Grew.new g05.tab (o := .lst zs) nZ
    have hZ : (L2.upd H5 Z (.lst zs)) Z = some (.lst zs) := upd_same
    generalize L2.upd H5 Z (.lst zs) = H6 at gZ hZ ⊢
    obtain ⟨mn, emn⟩ := Int.eq_ofNat_of_zero_le hm0
    refine ⟨_, rfl, _, rfl, Z, _, rfl, SqL.of hZ, fun p np => ?_⟩
    rw [emn, cutV_pre']
    have gp := Grew.new gZ.tab (o := .lst (zs.take mn)) np
    have hsub2 : List.Sublist (zs.take mn) (ys.drop tn ++ ys.take tn) := (List.take_sublist mn zs).trans hsub
    obtain ⟨bs', sb, hB'⟩ := Paired.subl (gB (g25.trans (gZ.trans gp))) hsub2
    have lb : bs'.length ≤ mn := by
      rw [Paired.len hB', List.length_take]
      omega
    refine kQ _ p bs' _ (g05.trans (gZ.trans gp)) ((g05.trans gZ).free np) upd_same hB' ⟨by omega, (pm.nodup_iff.mpr hR2.nd).sublist sb, fun b hb => hR2.ok b (pm.mem_iff.mp (sb.subset hb))⟩
end
end W

set_option Elab.async false
set_option linter.all false
set_option maxRecDepth 100000
set_option maxHeartbeats 2000000
namespace W
open PySem PySem.Spec PyProof.Rows L2 GxR MyG MyS SqX
/-! ### drawn parts -/
abbrev sLParts : Stmt := top 56
/-- parts as the law draws them: a tuple of the day and four lists -/
def PartsL (H : Hp) (p : Addr) (d : Int) (ks ps : List Str) (rs : List RoadD) (bs : List (Str × Str)) : Prop := ∃ pl ki ro ba xs zs, H p = some (.tup [.int d, .ref pl, .ref ki, .ref ro, .ref ba]) ∧
  H pl = some (.lst (ps.map V.str)) ∧ H ki = some (.lst (ks.map V.str)) ∧ H ro = some (.lst xs) ∧ Paired (RoadL H) rs xs ∧ H ba = some (.lst zs) ∧ Paired (GBar H) bs zs
theorem PartsL.grew {P : Addr} {H H' : Hp} {p : Addr} {d : Int} {ks ps : List Str} {rs : List RoadD} {bs : List (Str × Str)} (m : PartsL H p d ks ps rs bs) (g : Grew P H H') (h : TabG H P) : PartsL H' p d ks ps rs bs := by
  obtain ⟨pl, ki, ro, ba, xs, zs, e0, e1, e2, e3, e4, e5, e6⟩ := m
  exact ⟨pl, ki, ro, ba, xs, zs, g.tup h e0, g.lst h e1, g.lst h e2, g.lst h e3, Paired.map' e4 fun _ _ m => m.grew g h, g.lst h e5, Paired.map' e6 fun _ _ m => m.grew g h⟩
def spLParts (K : PySem.W.Frag) (P : Addr) : Sp := fun vs H Q _ => ∃ (a : Addr) (ns : List Int), vs = [.ref a] ∧ SqL K H a (ns.map V.int) ∧ Sm ns ∧ 150 ≤ ns.length ∧ ns.length ≤ 1000 ∧ TabG H P ∧
  ∀ H' p d ks ps rs bs, Grew P H H' → H p = none → PartsL H' p d ks ps rs bs → PartsOk d ks ps rs bs → ps = namesL ns 10 ps.length → ks = namesL ns 17 ks.length → rs.map (·.name) = namesL ns 24 rs.length → Q (.ref p) H'
theorem namesL_get {ns : List Int} {a0 many i : Nat} (h : i < many) : (namesL ns a0 many)[i]? = some (nameK ns a0 i) := by
  unfold namesL
  rw [List.getElem?_map, List.getElem?_range h]
  rfl
theorem namesL_succ (ns : List Int) (a0 i : Nat) : namesL ns a0 (i + 1) = namesL ns a0 i ++ [nameK ns a0 i] := by
  unfold namesL
  rw [List.range_succ, List.map_append]
  rfl
section
variable {Pg : Program} {w : World} {K : PySem.W.Frag} {mg : Str → Option Value} {base : Heap} {C P : Addr}
abbrev nLP : List Str := ["numbers", "day", "places", "kinds", "names", "roads", "k", "bars"]
theorem scLP : FnScope nLP ["numbers"] (defScope sLParts) := ⟨rfl, rfl, rfl, by decide +kernel, rfl, by decide +kernel, by decide +kernel⟩
theorem ok_lparts {f fN fC fR fB : Addr} {fd fdN fdC fdR fdB : FuncData} (F : Fun K "_law_parts" "_law_parts" sLParts f fd) (hi : mg "int" = none) (hrg : mg "range" = none) (hl : mg "len" = none)
    (GN : FnOk Pg w K mg base CX0 1 fN fdN ["numbers", "at", "many"] (spLNames K P)) (gN : mg "_law_names" = some (.ref fN)) (kN : PySem.W.keepIn K (.ref fN) = true) (bN : Binds K fdN ["numbers", "at", "many"] [])
    (GC : FnOk Pg w K mg base CX0 1 fC fdC ["number", "least", "most"] spLCount) (gC : mg "_law_count" = some (.ref fC)) (kC : PySem.W.keepIn K (.ref fC) = true) (bC : Binds K fdC ["number", "least", "most"] [])
    (GR : FnOk Pg w K mg base CX0 3 fR fdR ["numbers", "k", "name", "places", "kinds", "day"] (spLRoad K P)) (gR : mg "_law_road" = some (.ref fR)) (kR : PySem.W.keepIn K (.ref fR) = true) (bR : Binds K fdR ["numbers", "k", "name", "places", "kinds", "day"] [])
    (GB : FnOk Pg w K mg base CX0 2 fB fdB ["numbers", "k", "roads", "many"] (spLBars K P)) (gB : mg "_law_bars" = some (.ref fB)) (kB : PySem.W.keepIn K (.ref fB) = true) (bB : Binds K fdB ["numbers", "k", "roads", "many"] []) :
    FnOk Pg w K mg base CX0 4 f fd ["numbers"] (spLParts K P) := by
  refine F.ok scLP (fun vs H Q E h => ?_) (fun cdv A outer s H vs Q E hr h => ?_)
  · obtain ⟨a, ns, rfl, _⟩ := h
    rfl
  · obtain ⟨a, ns, rfl, hA, hsm, hl150, hl9, hP, kQ⟩ := h
    have hr1 : Room 1 _ := hr.mono (by decide)
    have hr2 : Room 2 _ := hr.mono (by decide)
    have hr3 : Room 3 _ := hr.mono (by decide)
    refine ⟨_, C8.pss_cut (ps_set (i := 1) scLP.nd rfl (Or.inr rfl) (pe_ix (r := rIxL K) ix_list (pe_lst (pa_cons pe_int (pa_cons pe_int (pa_cons pe_int (pa_cons (pe_op op_add pe_int (pe_op op_mod (pe_callTy (r := rInt1) call_int1 (by rfl) hi (by decide +kernel) (pa_cons (pe_ix (r := rIxL K) ix_list (pv 0) pe_int (fun _ _ => rfl)) pa_nil)) pe_int)) pa_nil)))))
        (pe_op op_mod (pe_callTy (r := rInt1) call_int1 (by rfl) hi (by decide +kernel) (pa_cons (pe_ix (r := rIxL K) ix_list (pv 0) pe_int (fun _ _ => rfl)) pa_nil)) pe_int) (fun _ _ => rfl)))
      (pss_cons (ps_set (i := 2) scLP.nd rfl (Or.inr rfl) (pe_call GN hr1 (by rfl) gN kN bN .nil pass0 (pa_cons (pv 0) (pa_cons pe_int (pa_cons (pe_call GC hr1 (by rfl) gC kC bC .nil pass0 (pa_cons (pe_ix (r := rIxL K) ix_list (pv 0) pe_int (fun _ _ => rfl)) (pa_cons pe_int (pa_cons pe_int pa_nil)))) pa_nil)))))
      (pss_cons (ps_set (i := 3) scLP.nd rfl (Or.inr rfl) (pe_call GN hr1 (by rfl) gN kN bN .nil pass0 (pa_cons (pv 0) (pa_cons pe_int (pa_cons (pe_op op_add pe_int (pe_op op_mod (pe_callTy (r := rInt1) call_int1 (by rfl) hi (by decide +kernel) (pa_cons (pe_ix (r := rIxL K) ix_list (pv 0) pe_int (fun _ _ => rfl)) pa_nil)) pe_int)) pa_nil)))))
      (pss_cons (ps_set (i := 4) scLP.nd rfl (Or.inr rfl) (pe_call GN hr1 (by rfl) gN kN bN .nil pass0 (pa_cons (pv 0) (pa_cons pe_int (pa_cons (pe_op op_mul (pe_call GC hr1 (by rfl) gC kC bC .nil pass0 (pa_cons (pe_ix (r := rIxL K) ix_list (pv 0) pe_int (fun _ _ => rfl)) (pa_cons pe_int (pa_cons pe_int pa_nil))))
          (pe_callTy (r := rInt1) call_int1 (by rfl) hi (by decide +kernel) (pa_cons (pe_cmpR op_gt (pe_callB (r := rLenK K) call_len_seq (by rfl) hl PySem.boot_len (pa_cons (pv 2) pa_nil)) pe_int (nomark _)) pa_nil))) pa_nil)))))
      (C8.pss_cut (ps_setLc (i := 5) (own := [("k", 6)]) (g := gName 6) (tt := tYes) rfl scLP.nd rfl rfl (sw_true rfl rfl rfl (by decide +kernel)) (pi_range1 rfl hrg (pa_cons (pe_callB (r := rLenK K) call_len_seq (by rfl) hl PySem.boot_len (pa_cons (pv 4) pa_nil)) pa_nil)) (blkOk_by (N := nLP) (sc := defScope sLParts) (by decide +kernel)) (fun _ _ _ _ _ => pg_name (i := 6) scLP.nd rfl (Or.inl rfl))
          (fun _ _ _ _ _ => pts_nil)
          (fun _ _ _ _ _ => pe_call GR hr3 (by rfl) gR kR bR .nil pass0 (pa_cons (pv 0) (pa_cons (pe_op op_add pe_int (pe_op op_mul pe_int (pv 6))) (pa_cons (pe_ix (r := rIxL K) ix_list (pv 4) (pv 6) (fun _ _ => rfl)) (pa_cons (pv 2) (pa_cons (pv 3) (pa_cons (pv 1) pa_nil))))))))
      (pss_cons (ps_set (i := 7) scLP.nd rfl (Or.inl rfl) (pe_call GB hr2 (by rfl) gB kB bB .nil pass0 (pa_cons (pv 0) (pa_cons pe_int (pa_cons (pv 5) (pa_cons (pe_call GC hr1 (by rfl) gC kC bC .nil pass0 (pa_cons (pe_ix (r := rIxL K) ix_list (pv 0) pe_int (fun _ _ => rfl)) (pa_cons pe_int (pa_cons pe_int pa_nil)))) pa_nil))))))
      (pss_one (ps_ret (pe_tup (pa_cons (pv 1) (pa_cons (pv 2) (pa_cons (pv 3) (pa_cons (pv 5) (pa_cons (pv 7) pa_nil))))))))))))), ?_⟩
    have nat := fun (i : Nat) (h : i < ns.length) => nv_at hsm h
    obtain ⟨f8, p8, _⟩ := nat 8 (by omega)
    obtain ⟨f9, p9, _⟩ := nat 9 (by omega)
    obtain ⟨f16, p16, _⟩ := nat 16 (by omega)
    obtain ⟨f23, p23, _⟩ := nat 23 (by omega)
    obtain ⟨f30, p30, _⟩ := nat 30 (by omega)
    obtain ⟨f31, p31, _⟩ := nat 31 (by omega)
    refine ⟨fun σ H' => ∃ d : Int, σ = [some (.ref a), some (.int d), none, none, none, none, none, none] ∧ Grew P H H' ∧ 1 ≤ d ∧ d ≤ 1440, ?_, ?_⟩
    · refine ⟨_, rfl, a, _, _, _, rfl, rfl, hA, f9, .inl ⟨_, rfl, _, _, rfl, rfl, (show (0 : Int) < 1440 by decide), _, _, rfl, rfl, (show 4 ≤ sizeLine by decide), fun T nT => ?_⟩⟩
      have gT := Grew.new hP (o := .lst [.int 1, .int 1440, .int 60, .int (1 + nv ns 9 % 1440)]) nT
      have hT : (L2.upd H T (.lst [.int 1, .int 1440, .int 60, .int (1 + nv ns 9 % 1440)])) T = some (.lst [.int 1, .int 1440, .int 60, .int (1 + nv ns 9 % 1440)]) := upd_same
      generalize L2.upd H T (.lst [.int 1, .int 1440, .int 60, .int (1 + nv ns 9 % 1440)]) = H1 at gT hT ⊢
      obtain ⟨d, ed, d1, d2⟩ : ∃ d : Int, atI [V.int 1, V.int 1440, V.int 60, V.int (1 + nv ns 9 % 1440)] (nv ns 8 % 4) = some (.int d) ∧ 1 ≤ d ∧ d ≤ 1440 := by
        have : nv ns 8 % 4 = 0 ∨ nv ns 8 % 4 = 1 ∨ nv ns 8 % 4 = 2 ∨ nv ns 8 % 4 = 3 := by omega
        rcases this with c | c | c | c <;> rw [c]
        · exact ⟨1, rfl, by decide, by decide⟩
        · exact ⟨1440, rfl, by decide, by decide⟩
        · exact ⟨60, rfl, by decide, by decide⟩
        · exact ⟨_, rfl, by omega, by omega⟩
      exact ⟨_, rfl, a, _, _, _, rfl, rfl, gT.sqL hP hA, f8, .inl ⟨_, rfl, _, _, rfl, rfl, (show (0 : Int) < 4 by decide), T, _, _, _, rfl, rfl, SqL.of hT, ed, d, rfl, gT, d1, d2⟩⟩
    rintro σ H1 ⟨d, rfl, g1, d1, d2⟩
    have hA1 := g1.sqL hP hA
    -- places
    refine ⟨_, rfl, _, rfl, a, _, _, _, rfl, rfl, hA1, f16, _, 0, 30, rfl, p16, by decide, fun v v0 v30 => ?_⟩
    obtain ⟨np, rfl⟩ := Int.eq_ofNat_of_zero_le v0
    refine ⟨a, ns, 10, np, rfl, hA1, hsm, by omega, by omega, by omega, g1.tab, fun H2 pl g12 npl hPl => ?_⟩
    have g2 := g1.trans g12
    have hA2 := g2.sqL hP hA
    -- kinds
    obtain ⟨nk, enk⟩ := Int.eq_ofNat_of_zero_le (show (0 : Int) ≤ 1 + nv ns 23 % 4 by omega)
    refine ⟨_, rfl, _, rfl, a, _, _, _, rfl, rfl, hA2, f23, .inl ⟨_, rfl, _, _, rfl, rfl, (show (0 : Int) < 4 by decide), _, _, rfl, rfl, ?_⟩⟩
    dsimp only []
    rw [enk]
    refine ⟨a, ns, 17, nk, rfl, hA2, hsm, by omega, by omega, by omega, g2.tab, fun H3 ki g23 nki hKi => ?_⟩
    have g3 := g2.trans g23
    have hA3 := g3.sqL hP hA
    have hPl3 := g23.lst g2.tab hPl
    -- names
    refine ⟨_, rfl, _, rfl, a, _, _, _, rfl, rfl, hA3, f30, _, 0, 60, rfl, p30, by decide, fun u u0 u60 => ?_⟩
    refine ⟨_, rfl, pl, _, rfl, .inl (SqL.of hPl3), _, _, rfl, rfl, .inr ⟨_, rfl, ?_⟩⟩
    obtain ⟨b, eb⟩ : ∃ b : Int, (if decide (((List.map V.str (namesL ns 10 np)).length : Int) > 0) = true then (1 : Int) else 0) = b := ⟨_, rfl⟩
    have hb : (b = 1 ∧ 0 < np) ∨ b = 0 := by
      rw [List.length_map, namesL_len] at eb
      by_cases c : 0 < np
      · exact .inl ⟨by rw [← eb, if_pos (decide_eq_true (by omega))], c⟩
      · exact .inr (by rw [← eb, if_neg (by rw [decide_eq_false (by omega)]; simp)])
    rw [eb]
    obtain ⟨nn, en, en60, enp⟩ : ∃ nn : Nat, u * b = (nn : Int) ∧ nn ≤ 60 ∧ (0 < nn → 0 < np) := by
      rcases hb with ⟨rfl, c⟩ | rfl
      · exact ⟨u.toNat, by omega, by omega, fun _ => c⟩
      · exact ⟨0, by omega, by omega, fun h => absurd h (by omega)⟩
    refine ⟨_, _, rfl, rfl, ?_, ?_⟩
    · rcases hb with ⟨rfl, _⟩ | rfl <;> exact .inl ⟨by omega, by omega⟩
    dsimp only []
    rw [en]
    refine ⟨a, ns, 24, nn, rfl, hA3, hsm, by omega, by omega, by omega, g3.tab, fun H4 nmA g34 nnm hN => ?_⟩
    have g4 := g3.trans g34
    have hPl4 := g34.lst g3.tab hPl3
    have hKi4 := g34.lst g3.tab hKi
    have knd : (namesL ns 17 nk).Nodup := namesL_nodup (by omega)
    have pnd : (namesL ns 10 np).Nodup := namesL_nodup (by omega)
    -- roads
    refine ⟨fun σ H' => ∃ (D : Addr) (rs : List RoadD) (xs : List V), σ = [some (.ref a), some (.int d), some (.ref pl), some (.ref ki), some (.ref nmA), some (.ref D), none, none] ∧ Grew P H4 H' ∧ H' D = some (.lst xs) ∧ Paired (RoadU D H') rs xs ∧ rs.map (·.name) = namesL ns 24 nn ∧ ∀ r ∈ rs, RoadOk d (namesL ns 10 np) (namesL ns 17 nk) r, ?_, ?_⟩
    · refine ⟨_, rfl, nmA, _, rfl, .inl (SqL.of hN), _, rfl, by omega, by rw [List.length_map, namesL_len]; omega, fun D nD => lc_range (n := ((namesL ns 24 nn).map V.str).length) (fun i H' => Grew P H4 H' ∧ ∃ (rs : List RoadD) (xs : List V), H' D = some (.lst xs) ∧ Paired (RoadU D H') rs xs ∧ rs.map (·.name) = namesL ns 24 i ∧ ∀ r ∈ rs, RoadOk d (namesL ns 10 np) (namesL ns 17 nk) r)
        ⟨Grew.new g4.tab nD, [], [], upd_same, .nil, rfl, fun r hr => (by cases hr)⟩ (fun i H' hi p => ?_) (fun H' p => ?_)⟩
      · obtain ⟨g, rs, xs, hD, hR, hnm, hok⟩ := p
        rw [List.length_map, namesL_len] at hi
        have g0 := g4.trans g
        have hA5 := g0.sqL hP hA
        have hN5 := g.lst g4.tab hN
        have np1 := enp (by omega)
        have lrs : rs.length = i := by
          have := congrArg List.length hnm
          rw [List.length_map, namesL_len] at this
          exact this
        refine ⟨rfl, _, rfl, _, rfl, _, _, rfl, rfl, .inl ⟨by decide, by decide⟩, _, _, rfl, rfl, _, rfl, _, rfl, nmA, _, _, .str (nameK ns 24 i), rfl, rfl, SqL.of hN5, by rw [Int.zero_add]; exact atI_nat (by rw [List.getElem?_map, namesL_get hi]; rfl), _, rfl, _, rfl, _, rfl,
          a, pl, ki, ns, _, d, _, namesL ns 10 np, namesL ns 17 nk, rfl, hA5, hsm, by omega, hl9, by omega, d1, d2, SqL.of (g.lst g4.tab hPl4), SqL.of (g.lst g4.tab hKi4), by rw [namesL_len]; omega, by rw [namesL_len]; omega, knd, g.tab, fun H6 v r g56 m en' ok => ?_⟩
        have hD6 := g56.lst g.tab hD
        have lxs := Paired.len hR
        refine ⟨_, hD6, by rw [sizeLine_eq]; omega, (g.trans g56).write hD6 (fun _ z => by cases z) nD, rs ++ [r], xs ++ [v], upd_same, Paired.snoc (Paired.map' hR fun _ _ q => (q.grew g56 g.tab).upd hD6) ((m.un hD).upd hD6), by rw [List.map_append, hnm, namesL_succ, ← en']; rfl, fun r' hr' => ?_⟩
        rcases List.mem_append.mp hr' with q | q
        · exact hok r' q
        · rw [List.mem_singleton.mp q]
          exact ok
      · obtain ⟨g, rs, xs, hD, hR, hnm, hok⟩ := p
        rw [List.length_map, namesL_len] at hnm
        exact ⟨D, rs, xs, rfl, g, hD, hR, hnm, hok⟩
    rintro σ H5 ⟨D, rs, xs, rfl, g45, hD, hRU, hnm, hok⟩
    have hR : Paired (RoadL H5) rs xs := Paired.map' hRU fun _ _ q => q.road
    have g5 := g4.trans g45
    have hA5 := g5.sqL hP hA
    have lrs : rs.length = nn := by
      have := congrArg List.length hnm
      rw [List.length_map, namesL_len] at this
      exact this
    have rnd : (rs.map (·.name)).Nodup := by rw [hnm]; exact namesL_nodup (by omega)
    refine ⟨_, rfl, _, rfl, _, rfl, a, _, _, _, rfl, rfl, hA5, f31, _, 0, 40, rfl, p31, by decide, fun v v0 v40 => ?_⟩
    refine ⟨a, D, ns, 130, v, rs, xs, rfl, hA5, hsm, by omega, hl9, by decide, v0, v40, hD, hR, by omega, rnd, g5.tab, fun H6 ba bs zs g56 nba hB hzs okb => ?_⟩
    have g6 := g5.trans g56
    refine ⟨_, rfl, _, rfl, _, rfl, _, rfl, _, rfl, (show 5 ≤ sizeLine by decide), fun p np' => ?_⟩
    have g7 := Grew.new g6.tab (o := .tup [.int d, .ref pl, .ref ki, .ref D, .ref ba]) np'
    have g47 := (g45.trans g56).trans g7
    refine kQ _ p d (namesL ns 17 nk) (namesL ns 10 np) rs bs (g6.trans g7) (g6.free np') ⟨pl, ki, D, ba, xs, zs, upd_same, g47.lst g4.tab hPl4, g47.lst g4.tab hKi4, (g56.trans g7).lst g5.tab hD, Paired.map' hR fun _ _ m => m.grew (g56.trans g7) g5.tab, g7.lst g6.tab hB, Paired.map' hzs fun _ _ m => m.grew g7 g6.tab⟩
      ⟨d1, d2, by rw [namesL_len]; omega, by rw [namesL_len]; omega, by rw [namesL_len]; omega, namesL_ok _ _ _, namesL_ok _ _ _, knd, pnd, ⟨by omega, by rw [hnm]; exact namesL_ok _ _ _, rnd, hok⟩, okb⟩ (by rw [namesL_len]) (by rw [namesL_len]) (by rw [lrs]; exact hnm)
end
end W

set_option Elab.async false
set_option linter.all false
set_option maxRecDepth 100000
set_option maxHeartbeats 2000000
namespace W
open PySem PySem.Spec PyProof.Rows L2 GxR MyG MyS SqX
/-! ### parts as a map keeps them: there is one way only -/
structure Srt (ks ps : List Str) (rs : List RoadD) (bs : List (Str × Str)) (ks' ps' : List Str) (rs' : List RoadD) (bs' : List (Str × Str)) : Prop where
  k : ks'.Perm ks
  ka : Asc ks'
  p : ps'.Perm ps
  pa : Asc ps'
  r : KeptAll rs rs'
  ra : AscR rs'
  b : bs'.Perm bs
  ba : AscB bs'
theorem asc_one {l m n : List Str} (h1 : l.Perm n) (h2 : m.Perm n) (a1 : Asc l) (a2 : Asc m) : l = m :=
  List.Perm.eq_of_pairwise (le := fun a b => slt b a = false) (fun a b _ _ x y => slt_tri y x) a1 a2 (h1.trans h2.symm)
theorem slt2_tri {a b : Str × Str} (h1 : slt2 a b = false) (h2 : slt2 b a = false) : a = b := by
  by_cases e : a.1 = b.1
  · rw [slt2_eq e] at h1
    rw [slt2_eq e.symm] at h2
    exact Prod.ext e (slt_tri h1 h2)
  · rw [slt2_ne e] at h1
    rw [slt2_ne (fun c => e c.symm)] at h2
    exact absurd (slt_tri h1 h2) e
theorem ascB_one {l m n : List (Str × Str)} (h1 : l.Perm n) (h2 : m.Perm n) (a1 : AscB l) (a2 : AscB m) : l = m :=
  List.Perm.eq_of_pairwise (le := fun a b => slt2 b a = false) (fun a b _ _ x y => slt2_tri y x) a1 a2 (h1.trans h2.symm)
theorem kept_one {r a b : RoadD} (h1 : Kept r a) (h2 : Kept r b) : a = b := by
  obtain ⟨a1, a2, a3, a4, a5, a6, a7⟩ := h1
  obtain ⟨b1, b2, b3, b4, b5, b6, b7⟩ := h2
  have e := asc_one a6 b6 a7 b7
  cases a
  cases b
  simp_all
theorem paired_one {α β : Type} {F : α → β → Prop} (u : ∀ a b c, F a b → F a c → b = c) : ∀ {l : List α} {m n : List β}, Paired F l m → Paired F l n → m = n
  | _, _, _, .nil, h => by cases h; rfl
  | _, _, _, .cons x r, h => by
    cases h with
    | cons y s => rw [u _ _ _ x y, paired_one u r s]
theorem roads_one {rs l m : List RoadD} (nd : (rs.map (·.name)).Nodup) (h1 : KeptAll rs l) (h2 : KeptAll rs m) (a1 : AscR l) (a2 : AscR m) : l = m := by
  have n1 := h1.nodup nd
  obtain ⟨x, px, qx⟩ := h1
  obtain ⟨y, py, qy⟩ := h2
  have e : x = y := paired_one (F := Kept) (fun _ _ _ a b => kept_one a b) qx qy
  subst e
  have pm : l.Perm m := px.symm.trans py
  exact List.Perm.eq_of_pairwise (le := fun a b : RoadD => slt b.name a.name = false) (fun a b ha hb p q => uniqN n1 ha (pm.mem_iff.mpr hb) (slt_tri q p)) a1 a2 pm
theorem Srt.one {ks ps ks1 ps1 ks2 ps2 : List Str} {rs rs1 rs2 : List RoadD} {bs bs1 bs2 : List (Str × Str)} (nd : (rs.map (·.name)).Nodup) (h1 : Srt ks ps rs bs ks1 ps1 rs1 bs1) (h2 : Srt ks ps rs bs ks2 ps2 rs2 bs2) : ks1 = ks2 ∧ ps1 = ps2 ∧ rs1 = rs2 ∧ bs1 = bs2 :=
  ⟨asc_one h1.k h2.k h1.ka h2.ka, asc_one h1.p h2.p h1.pa h2.pa, roads_one nd h1.r h2.r h1.ra h2.ra, ascB_one h1.b h2.b h1.ba h2.ba⟩
/-! ### data -/
def pairP (p : Int × Int) : PyData := .tuple [.int p.1, .int p.2]
def hoursP : Option (List (Int × Int)) → PyData
  | none => .none
  | some gs => .tuple (gs.map pairP)
def roadP (r : RoadD) : PyData := .tuple [.str r.name, .str r.start, .str r.goal, .int r.minutes, .tuple (r.users.map .str), hoursP r.hours]
def barP (b : Str × Str) : PyData := .tuple [.str b.1, .str b.2]
theorem dpAll_of {α : Type} {F : α → V → Prop} {f : α → PyData} {K : PySem.W.Frag} {H : Hp} (u : ∀ a v, F a v → Dp K H v (f a)) : ∀ {l : List α} {xs : List V}, Paired F l xs → DpAll K H xs (l.map f)
  | _, _, .nil => .nil
  | _, _, .cons a r => .cons (u _ _ a) (dpAll_of u r)
theorem dpAll_strs {K : PySem.W.Frag} {H : Hp} : ∀ ns : List Str, DpAll K H (ns.map V.str) (ns.map PyData.str)
  | [] => .nil
  | n :: ns => .cons (.str n) (dpAll_strs ns)
theorem GPair.dp {K : PySem.W.Frag} {H : Hp} {p : Int × Int} {v : V} (h : GPair K H p v) : Dp K H v (pairP p) := by
  obtain ⟨t, rfl, e⟩ := h
  exact .tup e (.cons (.int _) (.cons (.int _) .nil))
theorem GHours.dp {K : PySem.W.Frag} {H : Hp} {hs : Option (List (Int × Int))} {v : V} (h : GHours K H hs v) : Dp K H v (hoursP hs) := by
  cases hs with
  | none =>
    have e : v = .non := h
    rw [e]
    exact .non
  | some gs =>
    obtain ⟨l, xs, rfl, q, r⟩ := h
    exact .tup q (dpAll_of (fun _ _ m => m.dp) r)
theorem RoadAt.dp {K : PySem.W.Frag} {H : Hp} {r : RoadD} {v : V} (h : RoadAt K H r v) : Dp K H v (roadP r) := by
  obtain ⟨p, q, h, rfl, e, e2, g⟩ := h
  exact .tup (SqT.of e) (.cons (.str _) (.cons (.str _) (.cons (.str _) (.cons (.int _) (.cons (.tup (SqT.of e2) (dpAll_strs _)) (.cons g.dp .nil))))))
theorem GBar.dp {K : PySem.W.Frag} {H : Hp} {b : Str × Str} {v : V} (h : GBar H b v) : Dp K H v (barP b) := by
  obtain ⟨t, rfl, e⟩ := h
  exact .tup (SqT.of e) (.cons (.str _) (.cons (.str _) .nil))
def Lay (n : Nat) (d : PyData) : Prop := d.canLay0 = true ∧ d.depth ≤ n
theorem lay_all {n : Nat} : ∀ {ds : List PyData}, (∀ d ∈ ds, Lay n d) → PyData.canLayAll0 ds = true ∧ PyData.depthAll ds ≤ n
  | [], _ => ⟨rfl, Nat.zero_le _⟩
  | d :: ds, h => by
    obtain ⟨a, b⟩ := h d List.mem_cons_self
    obtain ⟨c, e⟩ := lay_all fun x hx => h x (List.mem_cons_of_mem _ hx)
    refine ⟨by simp [PyData.canLayAll0, a, c], ?_⟩
    simp only [PyData.depthAll]
    omega
theorem Lay.tuple {n : Nat} {ds : List PyData} (h : ∀ d ∈ ds, Lay n d) : Lay (n + 1) (.tuple ds) := by
  obtain ⟨a, b⟩ := lay_all h
  refine ⟨by simpa [PyData.canLay0] using a, ?_⟩
  simp only [PyData.depth]
  omega
theorem Lay.mono {n m : Nat} {d : PyData} (h : Lay n d) (hm : n ≤ m) : Lay m d := ⟨h.1, Nat.le_trans h.2 hm⟩
theorem Lay.int (i : Int) : Lay 1 (.int i) := ⟨rfl, by simp [PyData.depth]⟩
theorem Lay.none : Lay 1 .none := ⟨rfl, by simp [PyData.depth]⟩
theorem Lay.str {z : Str} (h : PyData.strOk z = true) : Lay 1 (.str z) := ⟨by simpa [PyData.canLay0] using h, by simp [PyData.depth]⟩
theorem Lay.shaped {n : Nat} {d : PyData} (h : Lay n d) (hn : n ≤ 64) : SeqAt.shaped d = true := by
  unfold SeqAt.shaped
  rw [Bool.and_eq_true]
  exact ⟨h.1, decide_eq_true (Nat.le_trans h.2 hn)⟩
theorem Lay.refl {n : Nat} {d : PyData} (h : Lay n d) : PyData.eqv d d = true := SeqAt.eqv_refl _ h.1
structure TxtR (r : RoadD) : Prop where
  n : PyData.strOk r.name = true
  s : PyData.strOk r.start = true
  g : PyData.strOk r.goal = true
  u : ∀ z ∈ r.users, PyData.strOk z = true
theorem lay_strs {ns : List Str} (h : ∀ z ∈ ns, PyData.strOk z = true) : Lay 2 (.tuple (ns.map .str)) := Lay.tuple fun d hd => by
  obtain ⟨z, hz, rfl⟩ := List.mem_map.mp hd
  exact Lay.str (h z hz)
theorem lay_hours (hs : Option (List (Int × Int))) : Lay 3 (hoursP hs) := by
  cases hs with
  | none => exact Lay.none.mono (by decide)
  | some gs =>
    refine Lay.tuple fun d hd => ?_
    obtain ⟨p, _, rfl⟩ := List.mem_map.mp hd
    refine Lay.tuple fun d hd => ?_
    simp only [List.mem_cons, List.not_mem_nil, or_false] at hd
    rcases hd with rfl | rfl <;> exact Lay.int _
theorem TxtR.lay {r : RoadD} (h : TxtR r) : Lay 4 (roadP r) := Lay.tuple fun d hd => by
  simp only [List.mem_cons, List.not_mem_nil, or_false] at hd
  rcases hd with rfl | rfl | rfl | rfl | rfl | rfl
  · exact (Lay.str h.n).mono (by decide)
  · exact (Lay.str h.s).mono (by decide)
  · exact (Lay.str h.g).mono (by decide)
  · exact (Lay.int _).mono (by decide)
  · exact (lay_strs h.u).mono (by decide)
  · exact lay_hours _
theorem lay_roads {rs : List RoadD} (h : ∀ r ∈ rs, TxtR r) : Lay 5 (.tuple (rs.map roadP)) := Lay.tuple fun d hd => by
  obtain ⟨r, hr, rfl⟩ := List.mem_map.mp hd
  exact (h r hr).lay
theorem lay_bars {bs : List (Str × Str)} (h : ∀ b ∈ bs, PyData.strOk b.1 = true ∧ PyData.strOk b.2 = true) : Lay 3 (.tuple (bs.map barP)) := Lay.tuple fun d hd => by
  obtain ⟨b, hb, rfl⟩ := List.mem_map.mp hd
  refine Lay.tuple fun d hd => ?_
  simp only [List.mem_cons, List.not_mem_nil, or_false] at hd
  rcases hd with rfl | rfl
  · exact Lay.str (h b hb).1
  · exact Lay.str (h b hb).2
theorem nm_ok {z : Str} (h : isNm z = true) : PyData.strOk z = true := by
  unfold isNm at h
  simp only [Bool.and_eq_true] at h
  have h4 := h.2
  unfold PyData.strOk
  rw [← Array.all_toList]
  refine List.all_eq_true.mpr fun c hc => ?_
  have g := List.all_eq_true.mp h4 c hc
  have a1 : ∀ c ∈ zLet.cps.toList, decide (c < 0x110000) = true := by decide +kernel
  have a2 : ∀ c ∈ zDig.cps.toList, decide (c < 0x110000) = true := by decide +kernel
  unfold goodC at g
  rcases Bool.or_eq_true_iff.mp g with g | g
  · exact a1 c (of_decide_eq_true g)
  · exact a2 c (of_decide_eq_true g)
/-- texts that may be compared -/
structure TxtP (ks ps : List Str) (rs : List RoadD) (bs : List (Str × Str)) : Prop where
  k : ∀ z ∈ ks, PyData.strOk z = true
  p : ∀ z ∈ ps, PyData.strOk z = true
  r : ∀ r ∈ rs, TxtR r
  b : ∀ b ∈ bs, PyData.strOk b.1 = true ∧ PyData.strOk b.2 = true
theorem all_nm {ns : List Str} (h : ns.all isNm = true) : ∀ z ∈ ns, PyData.strOk z = true := fun z hz => nm_ok (List.all_eq_true.mp h z hz)
theorem PartsOk.txt {d : Int} {ks ps : List Str} {rs : List RoadD} {bs : List (Str × Str)} (h : PartsOk d ks ps rs bs) : TxtP ks ps rs bs := by
  have hn : ∀ r ∈ rs, PyData.strOk r.name = true := fun r hr => all_nm h.r.nm _ (List.mem_map.mpr ⟨r, hr, rfl⟩)
  refine ⟨all_nm h.kn, all_nm h.pn, fun r hr => ?_, fun b hb => ?_⟩
  · have o := h.r.ok r hr
    exact ⟨hn r hr, all_nm h.pn _ o.s, all_nm h.pn _ o.g, fun z hz => all_nm h.kn _ (o.u z hz)⟩
  · obtain ⟨r1, h1, r2, h2, e1, e2, _⟩ := h.b.ok b hb
    rw [e1, e2]
    exact ⟨hn r1 h1, hn r2 h2⟩
theorem TxtP.srt {ks ps ks' ps' : List Str} {rs rs' : List RoadD} {bs bs' : List (Str × Str)} (h : TxtP ks ps rs bs) (s : Srt ks ps rs bs ks' ps' rs' bs') : TxtP ks' ps' rs' bs' := by
  refine ⟨fun z hz => h.k z (s.k.mem_iff.mp hz), fun z hz => h.p z (s.p.mem_iff.mp hz), fun r hr => ?_, fun b hb => h.b b (s.b.mem_iff.mp hb)⟩
  obtain ⟨l, pm, q⟩ := s.r
  obtain ⟨r0, h0, a1, a2, a3, _, _, a6, _⟩ := Paired.mem q (pm.mem_iff.mpr hr)
  have o := h.r r0 h0
  exact ⟨by rw [a1]; exact o.n, by rw [a2]; exact o.s, by rw [a3]; exact o.g, fun z hz => o.u z (a6.mem_iff.mp hz)⟩
/-! ### of the size that the map's checks ask for -/
theorem parts_small {d : Int} {ks ps : List Str} {rs : List RoadD} {bs : List (Str × Str)} (h : PartsOk d ks ps rs bs) : GivenSm d ks ps (rs.map itemG) (bs.map p2) := by
  have ln : ∀ {ns : List Str}, ns.all isNm = true → ∀ z ∈ ns, z.length ≤ 1000 := fun h z hz => Nat.le_trans (isNm_len (List.all_eq_true.mp h z hz)) (by decide)
  have hn : ∀ r ∈ rs, r.name.length ≤ 1000 := fun r hr => ln h.r.nm _ (List.mem_map.mpr ⟨r, hr, rfl⟩)
  refine ⟨by have := h.d1; have := h.d2; omega, by have := h.k2; omega, ln h.kn, by have := h.p2; omega, ln h.pn, by rw [List.length_map]; have := h.r.len; omega, fun g hg => ?_, by rw [List.length_map]; have := h.b.len; omega, fun b hb z hz => ?_⟩
  · obtain ⟨r, hr, e⟩ := List.mem_map.mp hg
    have e' : rG r = g := Sum.inl.inj e
    subst e'
    have o := h.r.ok r hr
    refine ⟨hn r hr, ln h.pn _ o.s, ln h.pn _ o.g, by show r.minutes.natAbs < _; have := o.m1; have := o.m2; omega, by show r.users.length ≤ _; have := o.un; omega, fun z hz => ln h.kn _ (o.u z hz), fun ps hps => ?_⟩
    have oh := o.h
    obtain ⟨hs, ehs⟩ : ∃ hs, hs = r.hours := ⟨_, rfl⟩
    rw [← ehs] at oh
    have hps' : hoursG hs = some ps := by rw [ehs]; exact hps
    cases hs with
    | none => cases hps'
    | some gs =>
      have e : gs.map (fun p => [p.1, p.2]) = ps := Option.some.inj hps'
      rw [← e, List.length_map]
      have := oh.1
      omega
  · obtain ⟨b0, h0, rfl⟩ := List.mem_map.mp hb
    obtain ⟨r1, h1, r2, h2, e1, e2, _⟩ := h.b.ok b0 h0
    have : z = b0.1 ∨ z = b0.2 := by simpa [p2] using hz
    rcases this with rfl | rfl
    · rw [e1]; exact hn r1 h1
    · rw [e2]; exact hn r2 h2
end W

set_option Elab.async false
set_option linter.all false
set_option maxRecDepth 100000
set_option maxHeartbeats 1000000
namespace W
open PySem PySem.Spec PyProof.Rows L2 GxR MyG MyS SqX
/-! ### a map made of parts that are as they should be -/
abbrev sLMade : Stmt := top 57
theorem passF {P : Program} {w : World} {X : Cx} (hP : X.prog = P) (hw : X.w = w) : Passes (L2.CX P w) X E0 := fun pins σ H s e s' I c => by
  obtain ⟨_, _, _, _, _, _, _, _, _, _, _, _, q⟩ := c
  exact q.elim
abbrev kMapA : List Str := ["day", "places", "kinds", "roads", "bars"]
def gMapA {α : Type} (us mv ws : List α) : List α := us ++ ((match ws with | [a, b, c, d, e] => [a, c, b, d, e] | _ => []) ++ mv)
abbrev kMapB : List Str := ["day", "kinds"]
def gMapB {α : Type} (us mv ws : List α) : List α := us ++ (ws ++ mv)
theorem paired_mapl {α β γ : Type} {F : α → γ → Prop} {G : β → γ → Prop} {f : α → β} (u : ∀ a c, F a c → G (f a) c) : ∀ {l : List α} {m : List γ}, Paired F l m → Paired G (l.map f) m
  | _, _, .nil => .nil
  | _, _, .cons a r => .cons (u _ _ a) (paired_mapl u r)
theorem HoursL.gen {K : PySem.W.Frag} {H : Hp} {hs : Option (List (Int × Int))} {v : V} (m : HoursL H hs v) : GHoursX K H (hoursG hs) v := by
  cases hs with
  | none => exact m
  | some gs =>
    obtain ⟨l, xs, e, a, b⟩ := m
    exact ⟨l, xs, true, e, SqL.of a, paired_mapl (fun p c ⟨t, e1, e2⟩ => ⟨t, e1, SqT.of e2⟩) b⟩
theorem GHours.gen {K : PySem.W.Frag} {H : Hp} {hs : Option (List (Int × Int))} {v : V} (m : GHours K H hs v) : GHoursX K H (hoursG hs) v := by
  cases hs with
  | none => exact m
  | some gs =>
    obtain ⟨l, xs, e, a, b⟩ := m
    exact ⟨l, xs, false, e, a, paired_mapl (fun p c ⟨t, e1, e2⟩ => ⟨t, e1, e2⟩) b⟩
theorem RoadL.gen {K : PySem.W.Frag} {H : Hp} {r : RoadD} {v : V} (m : RoadL H r v) : GItem K H (itemG r) v := by
  obtain ⟨t, u, h, a, b, c, d⟩ := m
  exact ⟨t, u, h, true, a, SqT.of b, SqL.of c, d.gen⟩
theorem RoadAt.gen {K : PySem.W.Frag} {H : Hp} {r : RoadD} {v : V} (m : RoadAt K H r v) : GItem K H (itemG r) v := by
  obtain ⟨t, u, h, a, b, c, d⟩ := m
  exact ⟨t, u, h, false, a, SqT.of b, SqT.of c, d.gen⟩
theorem GBar.gen {H : Hp} {b : Str × Str} {v : V} (m : GBar H b v) : GBarX H (p2 b) v := let ⟨t, e, q⟩ := m; ⟨t, e, .inr q⟩
def MadeQ (K : PySem.W.Frag) (M P x : Addr) (H : Hp) (d : Int) (ks ps : List Str) (rs : List RoadD) (bs : List (Str × Str)) (R : Hp → Prop) : Prop := ∀ H' ks' ps' rs' bs', Grew P H H' → H x = none → Srt ks ps rs bs ks' ps' rs' bs' → MapAt K H' M x d ks' ps' rs' bs' → R H'
/-- parts that are not too large for Map -/
structure PartsSm (d : Int) (ks ps : List Str) (rs : List RoadD) (bs : List (Str × Str)) : Prop where
  sm : GivenSm d ks ps (rs.map itemG) (bs.map p2)
theorem PartsOk.sm {d : Int} {ks ps : List Str} {rs : List RoadD} {bs : List (Str × Str)} (h : PartsOk d ks ps rs bs) : PartsSm d ks ps rs bs := ⟨parts_small h⟩
theorem initG_of {K : PySem.W.Frag} {M C P x dx ki pl ro ba : Addr} {H : Hp} {ck cp cr cb : Bool} {d : Int} {ks ps : List Str} {rs : List RoadD} {bs : List (Str × Str)} {xs zs : List V} {Q : VK} {E : XK} (hP : TabG H P) (nx : H x = none) (ndx : H dx = none) (nex : dx ≠ x)
    (hk : SqK ck K H ki (ks.map V.str)) (hp : SqK cp K H pl (ps.map V.str)) (hr : SqK cr K H ro xs) (hrs : Paired (GItem K H) (rs.map itemG) xs) (hb : SqK cb K H ba zs) (hbs : Paired (fun b v => GBarX H (p2 b) v) bs zs) (sm : PartsSm d ks ps rs bs)
    (k : PartsOk d ks ps rs bs → MadeQ K M P x H d ks ps rs bs fun H' => Q .non H') (kE : ¬ PartsOk d ks ps rs bs → BadM C P H E) : spInitX K M C P [.ref x, .int d, .ref ki, .ref pl, .ref ro, .ref ba] (L2.upd (L2.upd H dx (.own x)) x (.ins M dx [])) Q E := by
  have gx : Grew P H (L2.upd (L2.upd H dx (.own x)) x (.ins M dx [])) := (Grew.new hP ndx).put (by rw [upd_ne nex.symm]; exact nx)
  have inj : ∀ {rs0 : List RoadD} {bs0 : List (Str × Str)}, rs.map itemG = rs0.map itemG → bs.map p2 = bs0.map p2 → rs = rs0 ∧ bs = bs0 := fun e1 e2 =>
    ⟨List.map_inj_right (fun a b h => rG_inj (Sum.inl.inj h)) |>.mp e1, List.map_inj_right (fun a b h => p2_inj a b h) |>.mp e2⟩
  refine ⟨x, dx, ki, pl, ro, ba, ck, cp, cr, cb, d, ks, ps, rs.map itemG, bs.map p2, xs, zs, H, rfl, gx, hP, nx, upd_same, hk, hp, hr, hrs, hb, paired_mapl (f := p2) (G := GBarX H) (fun _ _ m => m) hbs, sm.sm, fun rs0 bs0 e1 e2 ok' H' ks' ps' rs' bs' g a1 a2 a3 a4 a5 a6 a7 a8 m => ?_, fun no => kE fun o => no ⟨rs, bs, rfl, rfl, o⟩⟩
  obtain ⟨q1, q2⟩ := inj e1 e2
  subst q1 q2
  exact k ok' H' ks' ps' rs' bs' g nx ⟨a1, a2, a3, a4, a5, a6, a7, a8⟩ m
theorem initX_of {K : PySem.W.Frag} {M C P x dx ki pl ro ba : Addr} {H : Hp} {ck cp cr cb : Bool} {d : Int} {ks ps : List Str} {rs : List RoadD} {bs : List (Str × Str)} {xs zs : List V} {Q : VK} {E : XK} (hP : TabG H P) (nx : H x = none) (ndx : H dx = none) (nex : dx ≠ x)
    (hk : SqK ck K H ki (ks.map V.str)) (hp : SqK cp K H pl (ps.map V.str)) (hr : SqK cr K H ro xs) (hrs : Paired (GItem K H) (rs.map itemG) xs) (hb : SqK cb K H ba zs) (hbs : Paired (GBar H) bs zs) (ok : PartsOk d ks ps rs bs)
    (k : MadeQ K M P x H d ks ps rs bs fun H' => Q .non H') : spInitX K M C P [.ref x, .int d, .ref ki, .ref pl, .ref ro, .ref ba] (L2.upd (L2.upd H dx (.own x)) x (.ins M dx [])) Q E :=
  initG_of hP nx ndx nex hk hp hr hrs hb (Paired.map' hbs fun _ _ m => m.gen) ok.sm (fun _ => k) (fun no => absurd ok no)
def spLMade (K : PySem.W.Frag) (M P : Addr) : Sp := fun vs H Q _ => ∃ (p : Addr) (d : Int) (ks ps : List Str) (rs : List RoadD) (bs : List (Str × Str)), vs = [.ref p] ∧ PartsL H p d ks ps rs bs ∧ PartsOk d ks ps rs bs ∧ TabG H P ∧
  ∀ x, MadeQ K M P x H d ks ps rs bs fun H' => Q (.ref x) H'
section
variable {Pg : Program} {w : World} {K : PySem.W.Frag} {mg : Str → Option Value} {base : Heap} {C P : Addr}
theorem mapA_binds {f : Addr} {fd : FuncData} {T1 T2 T : Addr} (F : FunD K "__init__" "Map.__init__" (defArgs sInit) (defBody sInit) (defScope sInit) [] [("places", V.ref T1), ("roads", V.ref T2), ("bars", V.ref T)] f fd) :
    ∃ mv : List Value, KBn K fd pInit 1 kMapA (fun us ws => gMapA us mv ws) (fun vs zs => gMapA vs (([] : List (Str × V)).map (·.2)) zs) := by
  refine FunD.kbinds0 F 1 kMapA [] gMapA (by simp) (by simp) ?_ ?_
  · intro vs mz zs us mv ws r1 r2 r3
    unfold gMapA
    refine r1.append (Vals.append ?_ r2)
    cases r3 with
    | nil => exact .nil
    | cons a r3 =>
      cases r3 with
      | nil => exact .nil
      | cons b r3 =>
        cases r3 with
        | nil => exact .nil
        | cons c r3 =>
          cases r3 with
          | nil => exact .nil
          | cons d r3 =>
            cases r3 with
            | nil => exact .nil
            | cons e r3 =>
              cases r3 with
              | nil => exact .cons a (.cons c (.cons b (.cons d (.cons e .nil))))
              | cons g r3 => exact .nil
  · intro D doc pm an cdv ct us mv ws h1 h2 h3
    match us, mv, ws, h1, h2, h3 with
    | [u], [], [a, b, c, d, e], _, _, _ =>
      exact rfl
theorem mapB_binds {f : Addr} {fd : FuncData} {T1 T2 T : Addr} (F : FunD K "__init__" "Map.__init__" (defArgs sInit) (defBody sInit) (defScope sInit) [] [("places", V.ref T1), ("roads", V.ref T2), ("bars", V.ref T)] f fd) :
    ∃ mv : List Value, KBn K fd pInit 1 kMapB (fun us ws => gMapB us mv ws) (fun vs zs => gMapB vs ([(("places" : Str), V.ref T1), ("roads", V.ref T2), ("bars", V.ref T)].map (·.2)) zs) := by
  refine FunD.kbinds0 F 1 kMapB [(("places" : Str), V.ref T1), ("roads", V.ref T2), ("bars", V.ref T)] gMapB (by simp) (by simp) ?_ ?_
  · intro vs mz zs us mv ws r1 r2 r3
    exact r1.append (Vals.append r3 r2)
  · intro D doc pm an cdv ct us mv ws h1 h2 h3
    match us, mv, ws, h1, h2, h3 with
    | [u], [m1, m2, m3], [a, b], _, _, _ =>
      exact ⟨_, _, _, _, _, _, rfl, rfl, _, _, _, _, _, _, rfl, rfl, _, _, _, _, _, _, rfl, rfl, rfl⟩
theorem scLMade : FnScope ["parts"] ["parts"] (defScope sLMade) := ⟨rfl, rfl, rfl, by decide +kernel, rfl, by decide +kernel, by decide +kernel⟩
theorem ok_lmade {f fI M : Addr} {fd fdI : FuncData} {mv : List Value} (F : Fun K "_law_made" "_law_made" sLMade f fd) (TM : TxtM K M) (hls : mg "list" = none) (Mk : L2.Mk K M fI) (gM : mg "Map" = some (.ref M))
    (GI : FnOk Pg w K mg base (L2.CX Pg w) 5 fI fdI pInit (spInitX K M C P)) (kb : KBn K fdI pInit 1 kMapA (fun us ws => gMapA us mv ws) (fun vs zs => gMapA vs (([] : List (Str × V)).map (·.2)) zs)) :
    FnOk Pg w K mg base CX0 7 f fd ["parts"] (spLMade K M P) := by
  refine F.ok scLMade (fun vs H Q E h => ?_) (fun cdv A outer s H vs Q E hr h => ?_)
  · obtain ⟨p, d, ks, ps, rs, bs, rfl, _⟩ := h
    rfl
  · obtain ⟨p, d, ks, ps, rs, bs, rfl, ⟨pl, ki, ro, ba, xs, zs, hp, hpl, hki, hro, hrs, hba, hbs⟩, ok, hP, k⟩ := h
    refine ⟨_, pss_one (ps_ret (pe_makeK0 (E := E0) Mk GI hr (by rfl) gM kb (passF rfl rfl) (pk_cons (pe_ix (r := rIxT K) ix_tup (pv 0) pe_int (fun _ _ => rfl)) (pk_cons (pe_callTy call_list_of (by rfl) hls (by decide +kernel) (pa_cons (pe_ix (r := rIxT K) ix_tup (pv 0) pe_int (fun _ _ => rfl)) pa_nil)) (pk_cons (pe_callTy call_list_of (by rfl) hls (by decide +kernel) (pa_cons (pe_ix (r := rIxT K) ix_tup (pv 0) pe_int (fun _ _ => rfl)) pa_nil))
        (pk_cons (pe_callTy call_list_of (by rfl) hls (by decide +kernel) (pa_cons (pe_ix (r := rIxT K) ix_tup (pv 0) pe_int (fun _ _ => rfl)) pa_nil)) (pk_cons (pe_callTy call_list_of (by rfl) hls (by decide +kernel) (pa_cons (pe_ix (r := rIxT K) ix_tup (pv 0) pe_int (fun _ _ => rfl)) pa_nil)) pk_nil))))))), ?_⟩
    refine ⟨_, rfl, p, _, 0, _, rfl, rfl, SqT.of hp, rfl, ?_⟩
    refine ⟨_, rfl, p, _, 1, _, rfl, rfl, SqT.of hp, rfl, pl, _, rfl, .inl (SqL.of hpl), fun k1 n1 => ?_⟩
    have g1 := Grew.new hP (o := .lst (ps.map V.str)) n1
    refine ⟨_, rfl, p, _, 2, _, rfl, rfl, SqT.of (g1.tup hP hp), rfl, ki, _, rfl, .inl (SqL.of (g1.lst hP hki)), fun k2 n2 => ?_⟩
    have g2 := Grew.new g1.tab (o := .lst (ks.map V.str)) n2
    have g12 := g1.trans g2
    refine ⟨_, rfl, p, _, 3, _, rfl, rfl, SqT.of (g12.tup hP hp), rfl, ro, _, rfl, .inl (SqL.of (g12.lst hP hro)), fun k3 n3 => ?_⟩
    have g3 := Grew.new g12.tab (o := .lst xs) n3
    have g13 := g12.trans g3
    refine ⟨_, rfl, p, _, 4, _, rfl, rfl, SqT.of (g13.tup hP hp), rfl, ba, _, rfl, .inl (SqL.of (g13.lst hP hba)), fun k4 n4 => ?_⟩
    have g4 := Grew.new g13.tab (o := .lst zs) n4
    have g14 := g13.trans g4
    refine ⟨rfl, rfl, fun x dx nx ndx nex => ?_⟩
    have e1 := (g2.trans (g3.trans g4)).lst g1.tab (b := k1) (xs := ps.map V.str) upd_same
    have e2 := (g3.trans g4).lst g12.tab (b := k2) (xs := ks.map V.str) upd_same
    have e3 := g4.lst g13.tab (b := k3) (xs := xs) upd_same
    refine initX_of (ck := true) (cp := true) (cr := true) (cb := true) (xs := xs) (zs := zs) g14.tab nx ndx nex (SqL.of e2) (SqL.of e1) (SqL.of e3) (paired_mapl (fun _ _ m => (m.grew g14 hP).gen) hrs) (SqL.of upd_same) (Paired.map' hbs fun _ _ m => m.grew g14 hP) ok (fun H' ks' ps' rs' bs' g5 nx' q hm => ⟨rfl, ?_⟩)
    exact k x H' ks' ps' rs' bs' (g14.trans g5) (g14.free nx) q hm
end
end W

set_option Elab.async false
set_option linter.all false
set_option maxRecDepth 100000
set_option maxHeartbeats 2000000
namespace W
open PySem PySem.Spec PyProof.Rows L2 GxR MyG MyS SqX
/-! ### parts as a map keeps them, made by the law -/
abbrev sLFrozen : Stmt := top 58
/-- parts as a tuple of tuples -/
def FrozAt (K : PySem.W.Frag) (H : Hp) (p : Addr) (d : Int) (ks ps : List Str) (rs : List RoadD) (bs : List (Str × Str)) : Prop := ∃ pl ki ro ba xs zs, H p = some (.tup [.int d, .ref pl, .ref ki, .ref ro, .ref ba]) ∧
  H pl = some (.tup (ps.map V.str)) ∧ H ki = some (.tup (ks.map V.str)) ∧ H ro = some (.tup xs) ∧ Paired (RoadAt K H) rs xs ∧ H ba = some (.tup zs) ∧ Paired (GBar H) bs zs
theorem FrozAt.grew {K : PySem.W.Frag} {P : Addr} {H H' : Hp} {p : Addr} {d : Int} {ks ps : List Str} {rs : List RoadD} {bs : List (Str × Str)} (m : FrozAt K H p d ks ps rs bs) (g : Grew P H H') (h : TabG H P) : FrozAt K H' p d ks ps rs bs := by
  obtain ⟨pl, ki, ro, ba, xs, zs, e0, e1, e2, e3, e4, e5, e6⟩ := m
  exact ⟨pl, ki, ro, ba, xs, zs, g.tup h e0, g.tup h e1, g.tup h e2, g.tup h e3, Paired.map' e4 fun _ _ m => m.grew g h, g.tup h e5, Paired.map' e6 fun _ _ m => m.grew g h⟩
def spLFrozen (K : PySem.W.Frag) (P : Addr) : Sp := fun vs H Q _ => ∃ (p : Addr) (d : Int) (ks ps : List Str) (rs : List RoadD) (bs : List (Str × Str)), vs = [.ref p] ∧ PartsL H p d ks ps rs bs ∧ PartsOk d ks ps rs bs ∧ TabG H P ∧
  ∀ H' q ks' ps' rs' bs', Grew P H H' → H q = none → Srt ks ps rs bs ks' ps' rs' bs' → FrozAt K H' q d ks' ps' rs' bs' → Q (.ref q) H'
theorem paired_flip {α β : Type} {F : α → β → Prop} {G : β → α → Prop} (u : ∀ a b, F a b → G b a) : ∀ {l : List α} {m : List β}, Paired F l m → Paired G m l
  | _, _, .nil => .nil
  | _, _, .cons a r => .cons (u _ _ a) (paired_flip u r)
def roadOf (rs : List RoadD) (n : Str) : RoadD := match rs.find? (fun r => decide (r.name = n)) with
  | some r => r
  | none => ⟨"", "", "", 0, [], none⟩
theorem roadOf_name {rs : List RoadD} (nd : (rs.map (·.name)).Nodup) {r : RoadD} (h : r ∈ rs) : roadOf rs r.name = r := by
  unfold roadOf
  cases e : rs.find? (fun x => decide (x.name = r.name)) with
  | none =>
    have q := List.find?_eq_none.mp e r h
    simp at q
  | some x =>
    have q : decide (x.name = r.name) = true := List.find?_some (p := fun y : RoadD => decide (y.name = r.name)) e
    show x = r
    exact uniqN nd (List.mem_of_find?_eq_some e) h (of_decide_eq_true q)
theorem back_of {rs l : List RoadD} (nd : (rs.map (·.name)).Nodup) (h : ∀ r ∈ l, r ∈ rs) : (l.map (·.name)).map (roadOf rs) = l := by
  rw [List.map_map]
  conv => rhs; rw [← List.map_id l]
  exact List.map_congr_left fun r hr => roadOf_name nd (h r hr)
theorem keptAll_of {rs l rs1 : List RoadD} (nd : (rs.map (·.name)).Nodup) (hsub : ∀ r ∈ l, r ∈ rs) (pm : (l.map (·.name)).Perm (rs.map (·.name))) (pk : Paired Kept l rs1) : KeptAll rs rs1 := by
  have p : rs.Perm l := by
    have := (pm.map (roadOf rs)).symm
    rw [back_of nd hsub, back_of nd fun r h => h] at this
    exact this
  obtain ⟨l0, p0, q0⟩ := Paired.perm p (paired_flip (G := fun b a => Kept a b) (fun _ _ h => h) pk)
  exact ⟨l0, p0, paired_flip (fun _ _ h => h) q0⟩
theorem paired_names {l rs1 : List RoadD} (pk : Paired Kept l rs1) : rs1.map (·.name) = l.map (·.name) := by
  induction pk with
  | nil => rfl
  | cons a _ ih => rw [List.map_cons, List.map_cons, ih, a.1]
section
variable {Pg : Program} {w : World} {K : PySem.W.Frag} {mg : Str → Option Value} {base : Heap} {C P : Addr}
abbrev nLF : List Str := ["parts", "roads", "road", "name", "hours", "pair", "bar", "bars"]
theorem scLF : FnScope nLF ["parts"] (defScope sLFrozen) := ⟨rfl, rfl, rfl, by decide +kernel, rfl, by decide +kernel, by decide +kernel⟩
theorem ok_lfrozen {f : Addr} {fd : FuncData} (F : Fun K "_law_frozen" "_law_frozen" sLFrozen f fd) (hs : mg "sorted" = none) (ht : mg "tuple" = none) :
    FnOk Pg w K mg base CX0 1 f fd ["parts"] (spLFrozen K P) := by
  refine F.ok scLF (fun vs H Q E h => ?_) (fun cdv A outer s H vs Q E hr h => ?_)
  · obtain ⟨p, d, ks, ps, rs, bs, rfl, _⟩ := h
    rfl
  · obtain ⟨p, d, ks, ps, rs, bs, rfl, ⟨pl, ki, ro, ba, xs, zs, hp, hpl, hki, hro, hrs, hba, hbs⟩, ok, hP, kQ⟩ := h
    refine ⟨_, pss_cons (ps_set (i := 1) scLF.nd rfl (Or.inl rfl) (pe_lst pa_nil))
      (C8.pss_cut (ps_for PassesOwn.never rfl (pi_list (pe_callB cr_sortSQ (by rfl) hs (by decide +kernel) (pa_cons (pe_lc (own := [("road", 2)]) (g := gName 2) (tt := tYes) rfl scLF.nd (pi_list (pe_ix (r := rIxT K) ix_tup (pv 0) pe_int (fun _ _ => rfl))) (blkOk_by (N := nLF) (sc := defScope sLFrozen) (by decide +kernel)) (fun _ _ _ _ _ => pg_name (i := 2) scLF.nd rfl (Or.inl rfl)) (fun _ _ _ _ _ => pts_nil)
            (fun _ _ _ _ _ => pe_ix (r := rIxT K) ix_tup (pv 2) pe_int (fun _ _ => rfl))) pa_nil))) (pg_name (i := 3) scLF.nd rfl (Or.inl rfl))
        (pss_one (ps_for PassesOwn.never rfl (pi_list (pe_ix (r := rIxT K) ix_tup (pv 0) pe_int (fun _ _ => rfl))) (pg_name (i := 2) scLF.nd rfl (Or.inl rfl))
          (pss_one (ps_if (pt_cmpR op_eq (pe_ix (r := rIxT K) ix_tup (pv 2) pe_int (fun _ _ => rfl)) (pv 3) (nomark _))
            (pss_cons (ps_set (i := 4) scLF.nd rfl (Or.inl rfl) (pe_ix (r := rIxT K) ix_tup (pv 2) pe_int (fun _ _ => rfl)))
            (C8.pss_cut (ps_if (pt_cmp (pc_notN (pv 4))) (pss_one (ps_set (i := 4) scLF.nd rfl (Or.inl rfl) (pe_callTy call_tuple_of (by rfl) ht (by decide +kernel) (pa_cons (pe_lc (own := [("pair", 5)]) (g := gName 5) (tt := tYes) rfl scLF.nd (pi_list (pv 4)) (blkOk_by (N := nLF) (sc := defScope sLFrozen) (by decide +kernel)) (fun _ _ _ _ _ => pg_name (i := 5) scLF.nd rfl (Or.inl rfl)) (fun _ _ _ _ _ => pts_nil)
                (fun _ _ _ _ _ => pe_callTy (r := rTupOf K) call_tuple_of (by rfl) ht (by decide +kernel) (pa_cons (pv 5) pa_nil))) pa_nil)))) pss_nil)
            (pss_one (ps_expr (pe_bm PySem.F.plainAttrs_list PySem.F.slot_list_append PySem.F.type_list_append mt_append (pv 1) (pa_cons (pe_op op_catA (pe_slice sl_tupA (pv 2) po_none (po_some pe_int)) (pe_tup (pa_cons (pe_callTy call_tuple_of (by rfl) ht (by decide +kernel) (pa_cons (pe_callB cr_sortSQ (by rfl) hs (by decide +kernel) (pa_cons (pe_ix (r := rIxT K) ix_tup (pv 2) pe_int (fun _ _ => rfl)) pa_nil)) pa_nil)) (pa_cons (pv 4) pa_nil)))) pa_nil))))))
            pss_nil)))))
      (pss_cons (ps_set (i := 7) scLF.nd rfl (Or.inl rfl) (pe_callTy call_tuple_of (by rfl) ht (by decide +kernel) (pa_cons (pe_callB cr_sortB (by rfl) hs (by decide +kernel) (pa_cons (pe_lc (own := [("bar", 6)]) (g := gName 6) (tt := tYes) rfl scLF.nd (pi_list (pe_ix (r := rIxT K) ix_tup (pv 0) pe_int (fun _ _ => rfl))) (blkOk_by (N := nLF) (sc := defScope sLFrozen) (by decide +kernel)) (fun _ _ _ _ _ => pg_name (i := 6) scLF.nd rfl (Or.inl rfl)) (fun _ _ _ _ _ => pts_nil)
            (fun _ _ _ _ _ => pe_callTy (r := rTupOf K) call_tuple_of (by rfl) ht (by decide +kernel) (pa_cons (pv 6) pa_nil))) pa_nil)) pa_nil)))
      (pss_one (ps_ret (pe_tup (pa_cons (pe_ix (r := rIxT K) ix_tup (pv 0) pe_int (fun _ _ => rfl)) (pa_cons (pe_callTy call_tuple_of (by rfl) ht (by decide +kernel) (pa_cons (pe_callB cr_sortSQ (by rfl) hs (by decide +kernel) (pa_cons (pe_ix (r := rIxT K) ix_tup (pv 0) pe_int (fun _ _ => rfl)) pa_nil)) pa_nil)) (pa_cons (pe_callTy call_tuple_of (by rfl) ht (by decide +kernel) (pa_cons (pe_callB cr_sortSQ (by rfl) hs (by decide +kernel) (pa_cons (pe_ix (r := rIxT K) ix_tup (pv 0) pe_int (fun _ _ => rfl)) pa_nil)) pa_nil))
          (pa_cons (pe_callTy call_tuple_of (by rfl) ht (by decide +kernel) (pa_cons (pv 1) pa_nil)) (pa_cons (pv 7) pa_nil)))))))))), ?_⟩
    have hln := Paired.len hrs
    have h60 := ok.r.len
    have hnd := ok.r.nd
    refine ⟨Nat.zero_le _, fun L nL => ?_⟩
    have gL := Grew.new hP (o := .lst []) nL
    have hL0 : (L2.upd H L (.lst [])) L = some (.lst []) := upd_same
    generalize L2.upd H L (.lst []) = H1 at gL hL0 ⊢
    have hro1 := gL.lst hP hro
    refine ⟨fun σ H' => ∃ (v2 v3 v4 : Option V) (rs' : List RoadD) (ys : List V), σ = [some (.ref p), some (.ref L), v2, v3, v4, none, none, none] ∧ Grew P H H' ∧ H' L = some (.lst ys) ∧ Paired (RoadAt K H') rs' ys ∧ KeptAll rs rs' ∧ AscR rs', ?_, ?_⟩
    · refine ⟨_, rfl, p, _, 3, .ref ro, rfl, rfl, SqT.of (gL.tup hP hp), rfl, ro, rfl, ⟨_, SqL.of hro1⟩, fun D nD => lc_list (K := K) (a := ro) (xs := xs) (fun i H' => Grew P H1 H' ∧ H' D = some (.lst (((rs.take i).map (·.name)).map V.str)))
        ⟨Grew.new gL.tab nD, upd_same⟩ (fun i H' _ q => SqL.of (q.1.lst gL.tab hro1)) (fun i v H' hv q => ?_) (fun H' q => ?_)⟩
      · obtain ⟨g, hD⟩ := q
        obtain ⟨r, hr, m⟩ := Paired.at hrs hv
        obtain ⟨t, u, h, rfl, et, _, _⟩ := m.grew (gL.trans g) hP
        have hi := (List.getElem?_eq_some_iff.mp hr).1
        refine ⟨rfl, _, rfl, t, _, 0, .str r.name, rfl, rfl, SqT.of et, rfl, _, hD, ?_, g.write hD (fun _ z => by cases z) nD, ?_⟩
        · rw [List.length_map, List.length_map, List.length_take, sizeLine_eq]; omega
        · rw [upd_same, List.take_succ, hr, List.map_append, List.map_append]; rfl
      obtain ⟨g, hD⟩ := q
      rw [← hln, List.take_length] at hD
      refine ⟨D, rs.map (·.name), rfl, .inl (SqL.of hD), fun nms q pm asc nq => ?_⟩
      have gq := g.put (o := .lst (nms.map V.str)) nq
      have hL2 : (L2.upd H' q (.lst (nms.map V.str))) L = some (.lst []) := gq.lst gL.tab hL0
      have hq : (L2.upd H' q (.lst (nms.map V.str))) q = some (.lst (nms.map V.str)) := upd_same
      have qL : q ≠ L := fun e => by rw [e, g.lst gL.tab hL0] at nq; cases nq
      have g0q := gL.trans gq
      generalize L2.upd H' q (.lst (nms.map V.str)) = H2 at gq hL2 hq g0q ⊢
      have ndn : nms.Nodup := pm.nodup_iff.mpr hnd
      have ln : nms.length ≤ 60 := by rw [pm.length_eq, List.length_map]; exact h60
      refine ⟨q, rfl, ⟨_, SqL.of hq⟩, for_list (K := K) (a := q) (xs := nms.map V.str) (fun i σ H' => ∃ (v2 v3 v4 : Option V) (l rs1 : List RoadD) (ys : List V), σ = [some (.ref p), some (.ref L), v2, v3, v4, none, none, none] ∧ Grew P H H' ∧ H' L = some (.lst ys) ∧ Paired (RoadAt K H') rs1 ys ∧ Paired Kept l rs1 ∧ (∀ r ∈ l, r ∈ rs) ∧ H' q = some (.lst (nms.map V.str)) ∧ l.map (·.name) = nms.take i)
        ⟨none, none, none, [], [], [], rfl, g0q, hL2, .nil, .nil, fun r h => (by cases h), hq, rfl⟩ (fun i σ H' _ h => by obtain ⟨_, _, _, _, _, _, _, _, _, _, _, _, e, _⟩ := h; exact SqL.of e) ?_ ?_⟩
      · rintro i y σ H3 hy ⟨v2, v3, v4, l, rs1, ys, rfl, g3, hL3, hR3, hK3, hl3, hq3, hn3⟩
        rw [List.getElem?_map] at hy
        obtain ⟨nm, hnm, rfl⟩ := Option.map_eq_some_iff.mp hy
        have nmi : nm ∈ rs.map (·.name) := pm.mem_iff.mp (List.mem_of_getElem? hnm)
        have hi := (List.getElem?_eq_some_iff.mp hnm).1
        refine ⟨_, rfl, p, _, 3, .ref ro, rfl, rfl, SqT.of (g3.tup hP hp), rfl, ro, rfl, ⟨_, SqL.of (g3.lst hP hro)⟩, for_list (K := K) (a := ro) (xs := xs) (fun j σ H' => ∃ (v2 v4 : Option V) (l rs1 : List RoadD) (ys : List V), σ = [some (.ref p), some (.ref L), v2, some (.str nm), v4, none, none, none] ∧ Grew P H H' ∧ H' L = some (.lst ys) ∧ Paired (RoadAt K H') rs1 ys ∧ Paired Kept l rs1 ∧ (∀ r ∈ l, r ∈ rs) ∧ H' q = some (.lst (nms.map V.str)) ∧
            ((l.map (·.name) = nms.take i ∧ nm ∉ (rs.take j).map (·.name)) ∨ (l.map (·.name) = nms.take (i + 1) ∧ nm ∈ (rs.take j).map (·.name))))
          ⟨v2, v4, l, rs1, ys, rfl, g3, hL3, hR3, hK3, hl3, hq3, .inl ⟨hn3, by simp⟩⟩ (fun j σ H' _ h => by obtain ⟨_, _, _, _, _, _, g, _⟩ := h; exact SqL.of (g.lst hP hro)) ?_ ?_⟩
        · rintro j y σ H4 hy4 ⟨v2, v4, l, rs1, ys, rfl, g4, hL4, hR4, hK4, hl4, hq4, hc⟩
          obtain ⟨r, hr, m⟩ := Paired.at hrs hy4
          obtain ⟨t, u, h, rfl, et, eu, hh⟩ := m.grew g4 hP
          have tk := take_next hr
          refine ⟨_, rfl, t, _, 0, .str r.name, rfl, rfl, SqT.of et, rfl, _, rfl, rfl, _, rfl, ?_⟩
          by_cases c : r.name = nm
          case neg =>
            refine if_f (decide_eq_false fun e => c (by injection e with e)) ?_
            refine ⟨_, _, l, rs1, ys, rfl, g4, hL4, hR4, hK4, hl4, hq4, ?_⟩
            rw [tk]
            rcases hc with ⟨a, b⟩ | ⟨a, b⟩
            · exact .inl ⟨a, fun z => (List.mem_append.mp z).elim b fun z => c (List.mem_singleton.mp z).symm⟩
            · exact .inr ⟨a, List.mem_append_left _ b⟩
          refine if_t (decide_eq_true (congrArg V.str c)) ?_
          have nah := not_ahead hnd hr
          rw [c] at nah
          have hc' : l.map (·.name) = nms.take i := hc.elim (fun h => h.1) fun h => absurd h.2 nah
          refine ⟨_, rfl, t, _, 5, h, rfl, rfl, SqT.of et, rfl, ?_⟩
          refine ⟨fun σ H' => ∃ hv, σ = [some (.ref p), some (.ref L), some (.ref t), some (.str nm), some hv, none, none, none] ∧ Grew P H4 H' ∧ GHours K H' r.hours hv, ?_, ?_⟩
          · refine ⟨_, rfl, _, rfl, ?_⟩
            obtain ⟨hs0, ehs⟩ : ∃ hs0, hs0 = r.hours := ⟨_, rfl⟩
            rw [← ehs] at hh ⊢
            cases hs0 with
            | none =>
              have eh : h = .non := hh
              subst eh
              exact if_f rfl ⟨_, rfl, Grew.refl g4.tab, rfl⟩
            | some gs =>
              obtain ⟨hl, hx, rfl, ehl, ehx⟩ := hh
              refine if_t rfl ⟨_, rfl, hl, rfl, ⟨_, SqL.of ehl⟩, fun D5 nD5 => lc_list (K := K) (a := hl) (xs := hx) (fun k H' => Grew P H4 H' ∧ H' D5 = some (.lst (hx.take k)))
                ⟨Grew.new g4.tab nD5, upd_same⟩ (fun k H' _ z => SqL.of (z.1.lst g4.tab ehl)) (fun k v H' hv z => ?_) (fun H' z => ?_)⟩
              · obtain ⟨g, hD5⟩ := z
                obtain ⟨pr, hpr, m⟩ := Paired.at ehx hv
                obtain ⟨t5, rfl, et5⟩ := m.grew g g4.tab
                have oh : HoursOk d (some gs) := by rw [ehs]; exact (ok.r.ok r (List.mem_of_getElem? hr)).h
                have gl4 := oh.1
                have glx := Paired.len ehx
                refine ⟨rfl, _, rfl, t5, _, rfl, .inr ⟨SqT.of et5, _, hD5, ?_, g.write hD5 (fun _ z => by cases z) nD5, ?_⟩⟩
                · rw [List.length_take, sizeLine_eq]; omega
                · rw [upd_same, List.take_succ, hv]; rfl
              · obtain ⟨g, hD5⟩ := z
                rw [List.take_length] at hD5
                refine ⟨D5, _, rfl, .inl ⟨SqL.of hD5, fun w nw => ?_⟩⟩
                have gw := g.put (o := .tup hx) nw
                exact ⟨_, rfl, gw, w, hx, rfl, SqT.of upd_same, Paired.map' ehx fun a b m => let ⟨t, e1, e2⟩ := m.grew gw g4.tab; ⟨t, e1, SqT.of e2⟩⟩
          rintro σ H5 ⟨hv, rfl, g5, hg5⟩
          have hL5 := g5.lst g4.tab hL4
          have et5 := g5.tup g4.tab et
          have eu5 := g5.lst g4.tab eu
          refine ⟨_, rfl, .inl ⟨rfl, _, SqL.of hL5⟩, _, rfl, _, rfl, t, _, rfl, SqT.of et5, fun e => absurd e (show ¬ (HT.sIx 6 0 none = 0 ∧ HT.sIx 6 6 (some 4) = 6) by decide), fun _ w1 nw1 => ?_⟩
          have gw1 := Grew.new g5.tab (o := .tup [.str r.name, .str r.start, .str r.goal, .int r.minutes]) nw1
          have ec : cutV [V.str r.name, .str r.start, .str r.goal, .int r.minutes, .ref u, h] none (some 4) = [.str r.name, .str r.start, .str r.goal, .int r.minutes] := rfl
          rw [ec]
          have hw1 : (L2.upd H5 w1 (.tup [.str r.name, .str r.start, .str r.goal, .int r.minutes])) w1 = some (.tup [.str r.name, .str r.start, .str r.goal, .int r.minutes]) := upd_same
          generalize L2.upd H5 w1 (.tup [.str r.name, .str r.start, .str r.goal, .int r.minutes]) = H6 at gw1 hw1 ⊢
          refine ⟨_, rfl, t, _, 4, .ref u, rfl, rfl, SqT.of (gw1.tup g5.tab et5), rfl, u, r.users, rfl, .inl (SqL.of (gw1.lst g5.tab eu5)), fun us q2 pm2 asc2 nq2 => ⟨q2, _, rfl, .inl ⟨SqL.of upd_same, fun w2 nw2 => ?_⟩⟩⟩
          have gq2 := Grew.new gw1.tab (o := .lst (us.map V.str)) nq2
          have gw2 := gq2.put (o := .tup (us.map V.str)) nw2
          have hw2 : (L2.upd (L2.upd H6 q2 (.lst (us.map V.str))) w2 (.tup (us.map V.str))) w2 = some (.tup (us.map V.str)) := upd_same
          generalize L2.upd (L2.upd H6 q2 (.lst (us.map V.str))) w2 (.tup (us.map V.str)) = H7 at gw2 hw2 ⊢
          refine ⟨_, rfl, (show 2 ≤ sizeLine by decide), fun w3 nw3 => ?_⟩
          have gw3 := Grew.new gw2.tab (o := .tup [.ref w2, hv]) nw3
          have hw3 : (L2.upd H7 w3 (.tup [.ref w2, hv])) w3 = some (.tup [.ref w2, hv]) := upd_same
          have g67 := gw2.trans gw3
          have hw1' := g67.tup gw1.tab hw1
          have hw2' := gw3.tup gw2.tab hw2
          generalize L2.upd H7 w3 (.tup [.ref w2, hv]) = H8 at gw3 hw3 g67 hw1' hw2' ⊢
          refine ⟨w1, w3, _, _, rfl, rfl, SqT.of hw1', SqT.of hw3, (show 4 + 2 ≤ sizeLine by decide), fun e => (by cases e), fun _ e => (by cases e), fun _ _ w4 nw4 => ?_⟩
          have g58 := gw1.trans g67
          have gw4 := Grew.new g58.tab (o := .tup [.str r.name, .str r.start, .str r.goal, .int r.minutes, .ref w2, hv]) nw4
          have hw4 : (L2.upd H8 w4 (.tup [.str r.name, .str r.start, .str r.goal, .int r.minutes, .ref w2, hv])) w4 = some (.tup [.str r.name, .str r.start, .str r.goal, .int r.minutes, .ref w2, hv]) := upd_same
          have hw2'' := gw4.tup g58.tab hw2'
          have g59 := g58.trans gw4
          have g49 := g5.trans g59
          have eap : [V.str r.name, .str r.start, .str r.goal, .int r.minutes] ++ [.ref w2, hv] = [.str r.name, .str r.start, .str r.goal, .int r.minutes, .ref w2, hv] := rfl
          rw [eap]
          generalize L2.upd H8 w4 (.tup [.str r.name, .str r.start, .str r.goal, .int r.minutes, .ref w2, hv]) = H9 at gw4 hw4 hw2'' g59 g49 ⊢
          have hL9 := g59.lst g5.tab hL5
          have hR9 : Paired (RoadAt K H9) rs1 ys := Paired.map' hR4 fun _ _ m => m.grew g49 g4.tab
          have hq9 := g49.lst g4.tab hq4
          have kp : Kept r ⟨r.name, r.start, r.goal, r.minutes, us, r.hours⟩ := ⟨rfl, rfl, rfl, rfl, rfl, pm2, asc2⟩
          have at9 : RoadAt K H9 ⟨r.name, r.start, r.goal, r.minutes, us, r.hours⟩ (.ref w4) := ⟨w4, w2, hv, rfl, hw4, hw2'', hg5.keep (KeepT.grew g59 g5.tab)⟩
          have ly := Paired.len hR9
          have lk := Paired.len hK4
          have ll : l.length ≤ 60 := by
            have := congrArg List.length hc'
            rw [List.length_map, List.length_take] at this
            omega
          have nt9 : ∀ xs, H9 L ≠ some (.tup xs) := fun xs z => by rw [hL9] at z; cases z
          refine ⟨L, _, _, rfl, rfl, hL9, by rw [sizeLine_eq]; omega, _, _, l ++ [r], rs1 ++ [⟨r.name, r.start, r.goal, r.minutes, us, r.hours⟩], ys ++ [.ref w4], rfl, (g4.trans g49).write hL9 (fun _ z => by cases z) nL, upd_same, Paired.snoc (Paired.map' hR9 fun _ _ m => m.upd nt9 (KeepT.lst hL9)) (at9.upd nt9 (KeepT.lst hL9)), Paired.snoc hK4 kp, fun r' hr' => ?_, by rw [upd_ne qL]; exact hq9, .inr ⟨?_, ?_⟩⟩
          · rcases List.mem_append.mp hr' with z | z
            · exact hl4 r' z
            · rw [List.mem_singleton.mp z]; exact List.mem_of_getElem? hr
          · rw [List.map_append, hc', List.take_succ, hnm, ← c]; rfl
          · rw [tk, c]; exact List.mem_append_right _ (List.mem_singleton.mpr rfl)
        · rintro σ H4 ⟨v2, v4, l, rs1, ys, rfl, g4, hL4, hR4, hK4, hl4, hq4, hc⟩
          rw [← hln, List.take_length] at hc
          refine ⟨_, _, _, l, rs1, ys, rfl, g4, hL4, hR4, hK4, hl4, hq4, hc.elim (fun h => absurd nmi h.2) fun h => h.1⟩
      · rintro σ H3 ⟨v2, v3, v4, l, rs1, ys, rfl, g3, hL3, hR3, hK3, hl3, hq3, hn3⟩
        rw [List.length_map, List.take_length] at hn3
        refine ⟨v2, v3, v4, rs1, ys, rfl, g3, hL3, hR3, keptAll_of hnd hl3 (by rw [hn3]; exact pm) hK3, ?_⟩
        have : Asc (rs1.map (·.name)) := by rw [paired_names hK3, hn3]; exact asc
        exact List.pairwise_map.mp this
    rintro σ H2 ⟨v2, v3, v4, rs', ys, rfl, g2, hL2, hR2, hK2, hA2⟩
    have hba2 := g2.lst hP hba
    have hbs2 : Paired (GBar H2) bs zs := Paired.map' hbs fun _ _ m => m.grew g2 hP
    have lz := Paired.len hbs
    have b40 := ok.b.len
    refine ⟨_, rfl, p, _, 4, .ref ba, rfl, rfl, SqT.of (g2.tup hP hp), rfl, ba, rfl, ⟨_, SqL.of hba2⟩, fun D nD => lc_list (K := K) (a := ba) (xs := zs) (fun i H' => Grew P H2 H' ∧ H' D = some (.lst (zs.take i)))
      ⟨Grew.new g2.tab nD, upd_same⟩ (fun i H' _ z => SqL.of (z.1.lst g2.tab hba2)) (fun i x H' hx z => ?_) (fun H' z => ?_)⟩
    · obtain ⟨g, hD⟩ := z
      obtain ⟨b, hb, t, rfl, hT⟩ := Paired.at hbs2 hx
      refine ⟨rfl, _, rfl, t, _, rfl, .inr ⟨SqT.of (g.tup g2.tab hT), _, hD, ?_, g.write hD (fun _ z => by cases z) nD, ?_⟩⟩
      · rw [List.length_take, sizeLine_eq]; omega
      · rw [upd_same, List.take_succ, hx]; rfl
    obtain ⟨g, hD⟩ := z
    rw [List.take_length] at hD
    have hG1 : Paired (GBar H') bs zs := Paired.map' hbs2 fun b v m => m.grew g g2.tab
    refine ⟨D, zs, barAt H', rfl, SqL.of hD, fun x hx => ?_, fun zs' l hpm hso hl => ⟨l, _, rfl, .inl ⟨SqL.of upd_same, fun p2 hp2 => ?_⟩⟩⟩
    · obtain ⟨b, _, m⟩ := Paired.mem hG1 hx
      have nm := m.at
      obtain ⟨t, e, q⟩ := m
      exact ⟨t, e, by rw [nm]; exact SqT.of q⟩
    obtain ⟨bs', pm, hr'⟩ := Paired.perm hpm hG1
    have gl := Grew.new g.tab (o := .lst zs') hl
    have gp := gl.put (o := .tup zs') hp2
    have ascb : AscB bs' := Paired.pair (fun a b x y m m' e => by rw [m.at, m'.at] at e; exact e) hr' hso
    have hp2' : (L2.upd (L2.upd H' l (.lst zs')) p2 (.tup zs')) p2 = some (.tup zs') := upd_same
    have g2p := g.trans gp
    have hz3 : Paired (GBar (L2.upd (L2.upd H' l (.lst zs')) p2 (.tup zs'))) bs' zs' := Paired.map' hr' fun _ _ m => m.grew gp g.tab
    generalize L2.upd (L2.upd H' l (.lst zs')) p2 (.tup zs') = H3 at gp hp2' g2p hz3 ⊢
    have g3 := g2.trans g2p
    refine ⟨_, rfl, p, _, 0, .int d, rfl, rfl, SqT.of (g3.tup hP hp), rfl, _, rfl, p, _, 1, .ref pl, rfl, rfl, SqT.of (g3.tup hP hp), rfl, pl, ps, rfl, .inl (SqL.of (g3.lst hP hpl)), fun ps' q1 pm1 as1 nq1 => ⟨q1, _, rfl, .inl ⟨SqL.of upd_same, fun t1 nt1 => ?_⟩⟩⟩
    have h1 := (Grew.new g3.tab (o := .lst (ps'.map V.str)) nq1).put (o := .tup (ps'.map V.str)) nt1
    have ht1 : (L2.upd (L2.upd H3 q1 (.lst (ps'.map V.str))) t1 (.tup (ps'.map V.str))) t1 = some (.tup (ps'.map V.str)) := upd_same
    generalize L2.upd (L2.upd H3 q1 (.lst (ps'.map V.str))) t1 (.tup (ps'.map V.str)) = H4 at h1 ht1 ⊢
    have g4 := g3.trans h1
    refine ⟨_, rfl, p, _, 2, .ref ki, rfl, rfl, SqT.of (g4.tup hP hp), rfl, ki, ks, rfl, .inl (SqL.of (g4.lst hP hki)), fun ks' q2 pm2 as2 nq2 => ⟨q2, _, rfl, .inl ⟨SqL.of upd_same, fun t2 nt2 => ?_⟩⟩⟩
    have h2 := (Grew.new g4.tab (o := .lst (ks'.map V.str)) nq2).put (o := .tup (ks'.map V.str)) nt2
    have ht2 : (L2.upd (L2.upd H4 q2 (.lst (ks'.map V.str))) t2 (.tup (ks'.map V.str))) t2 = some (.tup (ks'.map V.str)) := upd_same
    generalize L2.upd (L2.upd H4 q2 (.lst (ks'.map V.str))) t2 (.tup (ks'.map V.str)) = H5 at h2 ht2 ⊢
    have g25 := g2p.trans (h1.trans h2)
    refine ⟨_, rfl, L, _, rfl, .inl ⟨SqL.of (g25.lst g2.tab hL2), fun t3 nt3 => ?_⟩⟩
    have h3 := Grew.new h2.tab (o := .tup ys) nt3
    have ht3 : (L2.upd H5 t3 (.tup ys)) t3 = some (.tup ys) := upd_same
    generalize L2.upd H5 t3 (.tup ys) = H6 at h3 ht3 ⊢
    refine ⟨_, rfl, (show 5 ≤ sizeLine by decide), fun w nw => ?_⟩
    have h4 := Grew.new h3.tab (o := .tup [.int d, .ref t1, .ref t2, .ref t3, .ref p2]) nw
    have h46 := h3.trans h4
    have h06 := g4.trans (h2.trans h3)
    refine kQ _ w ks' ps' rs' bs' (h06.trans h4) (h06.free nw) ⟨pm2, as2, pm1, as1, hK2, hA2, pm, ascb⟩ ⟨t1, t2, t3, p2, ys, zs', upd_same, (h2.trans h46).tup h1.tab ht1, h46.tup h2.tab ht2, h4.tup h3.tab ht3, Paired.map' hR2 fun _ _ m => m.grew (g25.trans h46) g2.tab, (h1.trans (h2.trans h46)).tup g2p.tab hp2', Paired.map' hz3 fun _ _ m => m.grew (h1.trans (h2.trans h46)) g2p.tab⟩
end
end W

set_option Elab.async false
set_option linter.all false
set_option maxRecDepth 100000
set_option maxHeartbeats 2000000
namespace W
open PySem PySem.Spec PyProof.Rows L2 GxR MyG MyS SqX
/-! ### a map that has the parts told -/
abbrev sLSame : Stmt := top 59
def spLSame (K : PySem.W.Frag) (M P : Addr) : Sp := fun vs H Q _ => ∃ (x p : Addr) (d : Int) (ks ps : List Str) (rs : List RoadD) (bs : List (Str × Str)), vs = [.ref x, .ref p] ∧ MapAt K H M x d ks ps rs bs ∧ FrozAt K H p d ks ps rs bs ∧ TxtP ks ps rs bs ∧ Q (.bl true) H
section
variable {Pg : Program} {w : World} {K : PySem.W.Frag} {mg : Str → Option Value} {base : Heap} {C P : Addr}
theorem scLS : FnScope ["chart", "due"] ["chart", "due"] (defScope sLSame) := ⟨rfl, rfl, rfl, by decide +kernel, rfl, by decide +kernel, by decide +kernel⟩
theorem ok_lsame {f M : Addr} {fd : FuncData} (F : Fun K "_law_same" "_law_same" sLSame f fd) (TM : TxtM K M) (his : mg "isinstance" = none) (hbo : mg "bool" = none) :
    FnOk Pg w K mg base CX0 1 f fd ["chart", "due"] (spLSame K M P) := by
  refine F.ok scLS (fun vs H Q E h => ?_) (fun cdv A outer s H vs Q E hr h => ?_)
  · obtain ⟨x, p, d, ks, ps, rs, bs, rfl, _⟩ := h
    rfl
  · obtain ⟨x, p, d, ks, ps, rs, bs, rfl, ⟨dx, fs, kk, pp, rr, D, bb, D2, ys, zs, hx, m⟩, ⟨pl, ki, ro, ba, xs, ws, hp, hpl, hki, hro, hrs, hba, hbs⟩, tx, kQ⟩ := h
    refine ⟨_, pss_cons (ps_if (PW.pt (pw_or (pt_val (pe_callB call_isi (by rfl) his (by decide +kernel) (pa_cons (pe_fld (pv 0) rfl) (pa_cons (pe_bltn (v := .ty "bool") (by rfl) hbo (by decide +kernel) rfl) pa_nil))))
        (pw_or (pt_cmpR op_ne (pe_fld (pv 0) rfl) (pe_ix (r := rIxT K) ix_tup (pv 1) pe_int (fun _ _ => rfl)) (nomark _))
        (pw_or (pt_cmpR (r := rNeD K) (op_neD hr.units) (pe_fld (pv 0) rfl) (pe_ix (r := rIxT K) ix_tup (pv 1) pe_int (fun _ _ => rfl)) (nomark _))
          (pw_or1 (pt_cmpR (r := rNeD K) (op_neD hr.units) (pe_fld (pv 0) rfl) (pe_ix (r := rIxT K) ix_tup (pv 1) pe_int (fun _ _ => rfl)) (nomark _))))))) (pss_one (ps_ret pe_bl)) pss_nil)
      (pss_one (ps_ret (pe_and (pe_cmpR (r := rEqD K) (op_eqD hr.units) (pe_fld (pv 0) rfl) (pe_ix (r := rIxT K) ix_tup (pv 1) pe_int (fun _ _ => rfl)) (nomark _)) (pe_one (pe_cmpR (r := rEqD K) (op_eqD hr.units) (pe_fld (pv 0) rfl) (pe_ix (r := rIxT K) ix_tup (pv 1) pe_int (fun _ _ => rfl)) (nomark _)))))), ?_⟩
    have lp := lay_strs tx.p
    have lk := lay_strs tx.k
    have lr := lay_roads tx.r
    have lb := lay_bars tx.b
    refine ⟨_, rfl, x, M, dx, fs, _, rfl, hx, TM.cl, TM.n1, m.f1, _, _, _, _, false, rfl, .ty "bool", .base (.int _), rfl, _, rfl, if_f rfl ?_⟩
    refine ⟨_, rfl, x, M, dx, fs, _, rfl, hx, TM.cl, TM.n1, m.f1, _, rfl, p, _, 0, .int d, rfl, rfl, SqT.of hp, rfl, rfl, _, rfl, if_f (by simp) ?_⟩
    refine ⟨_, rfl, x, M, dx, fs, _, rfl, hx, TM.cl, TM.n3, m.f3, _, rfl, p, _, 1, .ref pl, rfl, rfl, SqT.of hp, rfl, .tuple (ps.map .str), .tuple (ps.map .str), .tup (SqT.of m.p) (dpAll_strs ps), .tup (SqT.of hpl) (dpAll_strs ps), lp.shaped (by decide), lp.shaped (by decide), _, rfl, if_f (by rw [lp.refl]; rfl) ?_⟩
    refine ⟨_, rfl, x, M, dx, fs, _, rfl, hx, TM.cl, TM.n2, m.f2, _, rfl, p, _, 2, .ref ki, rfl, rfl, SqT.of hp, rfl, .tuple (ks.map .str), .tuple (ks.map .str), .tup (SqT.of m.k) (dpAll_strs ks), .tup (SqT.of hki) (dpAll_strs ks), lk.shaped (by decide), lk.shaped (by decide), _, rfl, if_f (by rw [lk.refl]; rfl) ?_⟩
    refine ⟨_, rfl, x, M, dx, fs, _, rfl, hx, TM.cl, TM.n4, m.f4, _, rfl, p, _, 3, .ref ro, rfl, rfl, SqT.of hp, rfl, .tuple (rs.map roadP), .tuple (rs.map roadP), .tup (SqT.of m.r) (dpAll_of (fun _ _ q => q.dp) m.ry), .tup (SqT.of hro) (dpAll_of (fun _ _ q => q.dp) hrs), lr.shaped (by decide), lr.shaped (by decide), _, rfl, ?_⟩
    rw [lr.refl]
    refine iteT ?_
    refine ⟨_, rfl, x, M, dx, fs, _, rfl, hx, TM.cl, TM.n6, m.f6, _, rfl, p, _, 4, .ref ba, rfl, rfl, SqT.of hp, rfl, .tuple (bs.map barP), .tuple (bs.map barP), .tup (SqT.of m.b) (dpAll_of (fun _ _ q => q.dp) m.bz), .tup (SqT.of hba) (dpAll_of (fun _ _ q => q.dp) hbs), lb.shaped (by decide), lb.shaped (by decide), ?_⟩
    rw [lb.refl]
    exact kQ
end
end W

set_option Elab.async false
set_option linter.all false
set_option maxRecDepth 100000
set_option maxHeartbeats 1000000
set_option exponentiation.threshold 2000
namespace W
open PySem PySem.Spec PyProof.Rows L2 GxR MyG MyS SqX
/-! ### the written form of a map -/
def zSp : Str := " "
def zNl : Str := "\n"
def zCo : Str := ":"
def zMi : Str := "-"
def zRoad : Str := "road"
def zAlw : Str := "always"
def zKinds : Str := "kinds"
def zPlaces : Str := "places"
def zDay : Str := "day "
def zBar : Str := "bar "
def iS (i : Int) : Str := Str.ofString (toString i)
theorem iS_len {i : Int} (h0 : 0 ≤ i) (h1 : i ≤ 999999) : (iS i).length ≤ 6 := by
  obtain ⟨n, rfl⟩ := Int.eq_ofNat_of_zero_le h0
  have e : (iS (n : Int)).length = (TL.numL n).length := by
    rw [str_len]
    exact congrArg List.length (TL.tl_num n)
  rw [e]
  exact TL.numL_len (by decide) (by omega)
theorem log_small {n : Nat} (h : n ≤ 999999999) : n.log2 < 1920 := by
  by_cases c : n = 0
  · subst c
    decide
  · refine (Nat.log2_lt c).mpr ?_
    have : (999999999 : Nat) < 2 ^ 1920 := by decide
    omega
theorem log_int {i : Int} (h0 : 0 ≤ i) (h1 : i ≤ 999999) : i.natAbs.log2 < 1920 := log_small (by omega)
theorem empty_app (x : Str) : Str.empty ++ x = x := TL.ext_tl (by rw [TL.tl_append]; rfl)
theorem app_assoc (a b c : Str) : (a ++ b) ++ c = a ++ (b ++ c) := TL.ext_tl (by rw [TL.tl_append, TL.tl_append, TL.tl_append, TL.tl_append, List.append_assoc])
theorem joinL_snoc (S p : List Nat) : ∀ {l : List (List Nat)}, l ≠ [] → TL.joinL S (l ++ [p]) = TL.joinL S l ++ (S ++ p)
  | [], h => absurd rfl h
  | [a], _ => rfl
  | a :: b :: r, _ => by
    show a ++ (S ++ TL.joinL S ((b :: r) ++ [p])) = (a ++ (S ++ TL.joinL S (b :: r))) ++ (S ++ p)
    rw [joinL_snoc S p (l := b :: r) (by simp)]
    simp [List.append_assoc]
theorem join_snoc {ws : List Str} (h : ws ≠ []) (w : Str) : Txt.join zSp (ws ++ [w]) = (Txt.join zSp ws ++ zSp) ++ w := by
  apply TL.ext_tl
  rw [TL.join_eq, TL.tl_join, TL.tl_append, TL.tl_append, TL.join_eq, TL.tl_join, List.map_append]
  show TL.joinL (TL.tl zSp) (ws.map TL.tl ++ [TL.tl w]) = _
  rw [joinL_snoc _ _ (by simpa using h), List.append_assoc]
theorem join_one (w : Str) : Txt.join zSp [w] = w := by
  apply TL.ext_tl
  rw [TL.join_eq, TL.tl_join]
  rfl
def pairS (p : Int × Int) : Str := (iS p.1 ++ zMi) ++ iS p.2
def hourW : Option (List (Int × Int)) → List Str
  | none => [zAlw]
  | some gs => gs.map pairS
def headW (r : RoadD) : List Str := [zRoad, r.name, r.start, r.goal, iS r.minutes, zCo] ++ r.users ++ [zCo]
def roadW (r : RoadD) : List Str := headW r ++ hourW r.hours
def roadT (r : RoadD) : Str := Txt.join zSp (roadW r)
def barT (b : Str × Str) : Str := ((zBar ++ b.1) ++ zSp) ++ b.2
def mapL (d : Int) (ks ps : List Str) (rs : List RoadD) (bs : List (Str × Str)) : List Str := [zDay ++ iS d, Txt.join zSp (zKinds :: ks), Txt.join zSp (zPlaces :: ps)] ++ rs.map roadT ++ bs.map barT
/-! ### lengths -/
theorem joinL_len (S : List Nat) : ∀ (l : List (List Nat)) (n : Nat), (∀ p ∈ l, p.length ≤ n) → (TL.joinL S l).length ≤ l.length * (n + S.length)
  | [], _, _ => Nat.zero_le _
  | [a], n, h => by
    have := h a (by simp)
    show a.length ≤ 1 * _
    omega
  | a :: b :: r, n, h => by
    have h1 := h a (by simp)
    have h2 := joinL_len S (b :: r) n fun p hp => h p (List.mem_cons_of_mem _ hp)
    show (a ++ (S ++ TL.joinL S (b :: r))).length ≤ _
    rw [List.length_append, List.length_append, List.length_cons, Nat.succ_mul]
    omega
theorem join_len {ws : List Str} {n : Nat} (h : ∀ w ∈ ws, w.length ≤ n) : (Txt.join zSp ws).length ≤ ws.length * (n + 1) := by
  rw [str_len]
  show (TL.tl (Txt.join zSp ws)).length ≤ _
  rw [TL.join_eq, TL.tl_join]
  have e : (TL.tl zSp).length = 1 := by decide +kernel
  have := joinL_len (TL.tl zSp) (ws.map TL.tl) n fun p hp => by
    obtain ⟨w, hw, rfl⟩ := List.mem_map.mp hp
    have := h w hw
    rw [str_len] at this
    exact this
  rw [List.length_map, e] at this
  exact this
theorem sum_len {n : Nat} : ∀ {ll : List Str}, (∀ x ∈ ll, x.length ≤ n) → (ll.map (·.length)).sum ≤ ll.length * n
  | [], _ => Nat.zero_le _
  | a :: l, h => by
    have h1 := h a List.mem_cons_self
    have h2 := sum_len (n := n) (ll := l) fun x hx => h x (List.mem_cons_of_mem _ hx)
    rw [List.map_cons, List.sum_cons, List.length_cons, Nat.succ_mul]
    omega
theorem join_room {ll : List Str} {sep : Str} {n m : Nat} (hs : sep.length = 1) (h : ∀ x ∈ ll, x.length ≤ n) (hl : ll.length ≤ m) (hb : m * n + m ≤ 16777216) : (ll.map (·.length)).sum + ll.length * sep.length ≤ 16777216 := by
  have h1 := sum_len h
  have h2 : ll.length * n ≤ m * n := Nat.mul_le_mul_right n hl
  rw [hs]
  omega
theorem zSp_len : zSp.length = 1 := by decide +kernel
theorem zNl_len : zNl.length = 1 := by decide +kernel
theorem hours_in {d : Int} (hd : d ≤ 1440) : ∀ {gs : List (Int × Int)} {c : Int}, -1 ≤ c → hoursOk d c gs → ∀ p ∈ gs, 0 ≤ p.1 ∧ p.1 ≤ 1440 ∧ 0 ≤ p.2 ∧ p.2 ≤ 1440
  | [], _, _, _ => fun p hp => by cases hp
  | q :: r, c, h, o => fun p hp => by
    obtain ⟨a, b, e, f⟩ := o
    rcases List.mem_cons.mp hp with rfl | hp
    · exact ⟨by omega, by omega, by omega, by omega⟩
    · exact hours_in hd (c := q.2) (by omega) f p hp
theorem pairS_len {p : Int × Int} (h : 0 ≤ p.1 ∧ p.1 ≤ 1440 ∧ 0 ≤ p.2 ∧ p.2 ≤ 1440) : (pairS p).length ≤ 13 := by
  unfold pairS
  have e : zMi.length = 1 := by decide +kernel
  have h1 := iS_len h.1 (show p.1 ≤ 999999 by omega)
  have h2 := iS_len h.2.2.1 (show p.2 ≤ 999999 by omega)
  rw [PySem.Str.length_append, PySem.Str.length_append]
  omega
/-- roads whose lines are short -/
structure LineOk (r : RoadD) : Prop where
  n : r.name.length ≤ 12
  s : r.start.length ≤ 12
  g : r.goal.length ≤ 12
  m0 : 0 ≤ r.minutes
  m1 : r.minutes ≤ 1000
  ul : r.users.length ≤ 4
  u : ∀ z ∈ r.users, z.length ≤ 12
  hl : ∀ gs, r.hours = some gs → gs.length ≤ 4 ∧ ∀ p ∈ gs, 0 ≤ p.1 ∧ p.1 ≤ 1440 ∧ 0 ≤ p.2 ∧ p.2 ≤ 1440
theorem hourW_len {hs : Option (List (Int × Int))} (h : ∀ gs, hs = some gs → gs.length ≤ 4 ∧ ∀ p ∈ gs, 0 ≤ p.1 ∧ p.1 ≤ 1440 ∧ 0 ≤ p.2 ∧ p.2 ≤ 1440) : (hourW hs).length ≤ 4 ∧ ∀ z ∈ hourW hs, z.length ≤ 13 := by
  cases hs with
  | none => exact ⟨by show 1 ≤ 4; decide, fun z hz => by rw [List.mem_singleton.mp hz]; decide +kernel⟩
  | some gs =>
    obtain ⟨a, b⟩ := h gs rfl
    refine ⟨by show (gs.map pairS).length ≤ 4; rw [List.length_map]; exact a, fun z hz => ?_⟩
    obtain ⟨p, hp, rfl⟩ := List.mem_map.mp hz
    exact pairS_len (b p hp)
theorem headW_len {r : RoadD} (h : LineOk r) : (headW r).length ≤ 11 ∧ ∀ z ∈ headW r, z.length ≤ 13 := by
  have ul := h.ul
  refine ⟨by unfold headW; simp only [List.length_append, List.length_cons, List.length_nil]; omega, fun z hz => ?_⟩
  unfold headW at hz
  simp only [List.mem_append, List.mem_cons, List.not_mem_nil, or_false] at hz
  rcases hz with ((rfl | rfl | rfl | rfl | rfl | rfl) | hz) | rfl
  · decide +kernel
  · have := h.n; omega
  · have := h.s; omega
  · have := h.g; omega
  · have := iS_len h.m0 (show r.minutes ≤ 999999 by have := h.m1; omega); omega
  · decide +kernel
  · have := h.u z hz; omega
  · decide +kernel
theorem roadW_len {r : RoadD} (h : LineOk r) : (roadW r).length ≤ 15 ∧ ∀ z ∈ roadW r, z.length ≤ 13 := by
  obtain ⟨a1, a2⟩ := headW_len h
  obtain ⟨b1, b2⟩ := hourW_len h.hl
  refine ⟨by unfold roadW; rw [List.length_append]; omega, fun z hz => ?_⟩
  unfold roadW at hz
  exact (List.mem_append.mp hz).elim (a2 z) (b2 z)
theorem roadT_len {r : RoadD} (h : LineOk r) : (roadT r).length ≤ 210 := by
  obtain ⟨a, b⟩ := roadW_len h
  have := join_len b
  have h2 : (roadW r).length * (13 + 1) ≤ 15 * 14 := Nat.mul_le_mul_right 14 a
  exact Nat.le_trans this (by omega)
theorem line_ok {d : Int} {ks ps : List Str} {rs : List RoadD} {bs : List (Str × Str)} (h : PartsOk d ks ps rs bs) {r : RoadD} (hr : r ∈ rs) : LineOk r := by
  have o := h.r.ok r hr
  have nm : ∀ {ns : List Str}, ns.all isNm = true → ∀ z ∈ ns, z.length ≤ 12 := fun h z hz => isNm_len (List.all_eq_true.mp h z hz)
  have hd := h.d2
  refine ⟨nm h.r.nm _ (List.mem_map.mpr ⟨r, hr, rfl⟩), nm h.pn _ o.s, nm h.pn _ o.g, by have := o.m1; omega, o.m2, o.un, fun z hz => nm h.kn _ (o.u z hz), fun gs e => ?_⟩
  have oh := o.h
  rw [e] at oh
  exact ⟨oh.1, hours_in hd (by decide) oh.2⟩
end W

set_option Elab.async false
set_option linter.all false
set_option maxRecDepth 100000
set_option maxHeartbeats 4000000
set_option exponentiation.threshold 2000
namespace W
open PySem PySem.Spec PyProof.Rows L2 GxR MyG MyS SqX
/-! ### format_map -/
def mapT (d : Int) (ks ps : List Str) (rs : List RoadD) (bs : List (Str × Str)) : Str := Txt.join zNl (mapL d ks ps rs bs)
theorem nm12 {ns : List Str} (h : ns.all isNm = true) : ∀ z ∈ ns, z.length ≤ 12 := fun z hz => isNm_len (List.all_eq_true.mp h z hz)
theorem bar_len {d : Int} {ks ps : List Str} {rs : List RoadD} {bs : List (Str × Str)} (h : PartsOk d ks ps rs bs) {b : Str × Str} (hb : b ∈ bs) : b.1.length ≤ 12 ∧ b.2.length ≤ 12 := by
  obtain ⟨r1, h1, r2, h2, e1, e2, _⟩ := h.b.ok b hb
  rw [e1, e2]
  exact ⟨(line_ok h h1).n, (line_ok h h2).n⟩
theorem barT_len {b : Str × Str} (h : b.1.length ≤ 12 ∧ b.2.length ≤ 12) : (barT b).length ≤ 29 := by
  have e : zBar.length = 4 := by decide +kernel
  unfold barT
  rw [PySem.Str.length_append, PySem.Str.length_append, PySem.Str.length_append, zSp_len, e]
  omega
theorem names_len {ns : List Str} {h : Str} {k : Nat} (hn : ∀ z ∈ ns, z.length ≤ 12) (hh : h.length ≤ 12) (hk : ns.length ≤ k) : (Txt.join zSp (h :: ns)).length ≤ (k + 1) * 13 ∧ ((h :: ns).map (·.length)).sum + (h :: ns).length * zSp.length ≤ (k + 1) * 13 := by
  have hz : ∀ z ∈ h :: ns, z.length ≤ 12 := fun z hz => (List.mem_cons.mp hz).elim (fun e => by rw [e]; exact hh) (hn z)
  have h1 := join_len hz
  have h2 := sum_len hz
  have h3 : (h :: ns).length * 13 ≤ (k + 1) * 13 := Nat.mul_le_mul_right 13 (by simpa using hk)
  refine ⟨Nat.le_trans h1 h3, ?_⟩
  rw [zSp_len]
  omega
theorem mapL_len {d : Int} {ks ps : List Str} {rs : List RoadD} {bs : List (Str × Str)} (h : PartsOk d ks ps rs bs) : (mapL d ks ps rs bs).length ≤ 103 ∧ ∀ z ∈ mapL d ks ps rs bs, z.length ≤ 403 := by
  have r60 := h.r.len
  have b40 := h.b.len
  refine ⟨by unfold mapL; simp only [List.length_append, List.length_cons, List.length_nil, List.length_map]; omega, fun z hz => ?_⟩
  unfold mapL at hz
  simp only [List.mem_append, List.mem_cons, List.not_mem_nil, or_false, List.mem_map] at hz
  have e : zDay.length = 4 := by decide +kernel
  have ek : zKinds.length ≤ 12 := by decide +kernel
  have ep : zPlaces.length ≤ 12 := by decide +kernel
  rcases hz with ((rfl | rfl | rfl) | ⟨r, hr, rfl⟩) | ⟨b, hb, rfl⟩
  · have := iS_len (show 0 ≤ d by have := h.d1; omega) (show d ≤ 999999 by have := h.d2; omega)
    rw [PySem.Str.length_append]; omega
  · have := (names_len (nm12 h.kn) ek h.k2).1; omega
  · have := (names_len (nm12 h.pn) ep h.p2).1; omega
  · have := roadT_len (line_ok h hr); omega
  · have := barT_len (bar_len h hb); omega
end W

set_option Elab.async false
set_option linter.all false
set_option maxRecDepth 100000
set_option maxHeartbeats 4000000
set_option exponentiation.threshold 2000
namespace W
open PySem PySem.Spec PyProof.Rows L2 GxR MyG MyS SqX
/-! ### the lines that the law writes -/
abbrev sLLine : Stmt := top 60
def head0 (r : RoadD) : List Str := [zRoad, r.name, r.start, r.goal, iS r.minutes, zCo]
theorem head0_eq (r : RoadD) : (((((((Str.ofString "road " ++ r.name) ++ Str.ofString " ") ++ r.start) ++ Str.ofString " ") ++ r.goal) ++ Str.ofString " ") ++ iS r.minutes) ++ Str.ofString " :" = Txt.join zSp (head0 r) := by
  have e1 : Str.ofString "road " = zRoad ++ zSp := TL.ext_tl (by rw [TL.tl_append]; decide +kernel)
  have e2 : Str.ofString " :" = zSp ++ zCo := TL.ext_tl (by rw [TL.tl_append]; decide +kernel)
  have e3 : Str.ofString " " = zSp := rfl
  have h : head0 r = ((((([zRoad] ++ [r.name]) ++ [r.start]) ++ [r.goal]) ++ [iS r.minutes]) ++ [zCo]) := rfl
  rw [h, join_snoc (by simp), join_snoc (by simp), join_snoc (by simp), join_snoc (by simp), join_snoc (by simp), join_one, e1, e2, e3]
  simp only [app_assoc]
end W

set_option Elab.async false
set_option linter.all false
set_option maxRecDepth 100000
set_option maxHeartbeats 2000000
set_option exponentiation.threshold 2000
namespace W
open PySem PySem.Spec PyProof.Rows L2 GxR MyG MyS SqX
/-! ### parts_between_colons -/
abbrev sCol : Stmt := top 40
def RowL (H : Hp) (ws : List Str) (v : V) : Prop := ∃ a, v = .ref a ∧ H a = some (.lst (ws.map V.str))
theorem RowL.grew {P : Addr} {H H' : Hp} {ws : List Str} {v : V} (g : Grew P H H') (hP : TabG H P) (h : RowL H ws v) : RowL H' ws v := let ⟨a, e, q⟩ := h; ⟨a, e, g.lst hP q⟩
/-- a row of words that is not D -/
def RowD (D : Addr) (H : Hp) (ws : List Str) (v : V) : Prop := ∃ a, v = .ref a ∧ a ≠ D ∧ H a = some (.lst (ws.map V.str))
/-- the words between colons: those behind the last colon apart -/
def colS : List (List Str) → List Str → List Str → List (List Str)
  | acc, last, [] => acc ++ [last]
  | acc, last, w :: ws => if w = zCo then colS (acc ++ [last]) [] ws else colS acc (last ++ [w]) ws
def colons (ws : List Str) : List (List Str) := colS [] [] ws
theorem colS_words {acc : List (List Str)} : ∀ {ws last : List Str}, zCo ∉ ws → colS acc last ws = acc ++ [last ++ ws]
  | [], last, _ => by unfold colS; rw [List.append_nil]
  | w :: ws, last, h => by
    unfold colS
    rw [if_neg (fun e => h (by rw [e]; exact List.mem_cons_self)), colS_words (fun z => h (List.mem_cons_of_mem _ z)), List.append_assoc]
    rfl
theorem colS_colon {acc : List (List Str)} : ∀ {ws last rest : List Str}, zCo ∉ ws → colS acc last (ws ++ zCo :: rest) = colS (acc ++ [last ++ ws]) [] rest
  | [], last, rest, _ => by
    show colS acc last (zCo :: rest) = _
    rw [colS, if_pos rfl, List.append_nil]
  | w :: ws, last, rest, h => by
    show colS acc last (w :: (ws ++ zCo :: rest)) = _
    rw [colS, if_neg (fun e => h (by rw [e]; exact List.mem_cons_self)), colS_colon (fun z => h (List.mem_cons_of_mem _ z)), List.append_assoc]
    rfl
/-- the words of a road's line fall into three parts -/
theorem colons_road {r : RoadD} (hn : r.name ≠ zCo) (hs : r.start ≠ zCo) (hg : r.goal ≠ zCo) (hm : iS r.minutes ≠ zCo) (hu : zCo ∉ r.users) (hh : zCo ∉ hourW r.hours) :
    colons (roadW r) = [[zRoad, r.name, r.start, r.goal, iS r.minutes], r.users, hourW r.hours] := by
  have h1 : zCo ∉ [zRoad, r.name, r.start, r.goal, iS r.minutes] := fun h => by
    simp only [List.mem_cons, List.not_mem_nil, or_false] at h
    rcases h with e | e | e | e | e
    · exact absurd e (by decide +kernel)
    · exact hn e.symm
    · exact hs e.symm
    · exact hg e.symm
    · exact hm e.symm
  have e : roadW r = [zRoad, r.name, r.start, r.goal, iS r.minutes] ++ zCo :: (r.users ++ zCo :: hourW r.hours) := by
    unfold roadW headW
    simp
  unfold colons
  rw [e, colS_colon h1, colS_colon hu, colS_words hh]
  rfl
def spCol (K : PySem.W.Frag) (P : Addr) : Sp := fun vs H Q _ => ∃ (a : Addr) (ws : List Str), vs = [.ref a] ∧ SqL K H a (ws.map V.str) ∧ ws.length ≤ 1000 ∧ TabG H P ∧
  ∀ H' p ys, Grew P H H' → H p = none → H' p = some (.lst ys) → Paired (RowL H') (colons ws) ys → Q (.ref p) H'
section
variable {Pg : Program} {w : World} {K : PySem.W.Frag} {mg : Str → Option Value} {base : Heap} {C P : Addr}
/-- a row of words that is neither D nor E -/
def Row2 (D E : Addr) (H : Hp) (ws : List Str) (v : V) : Prop := ∃ a, v = .ref a ∧ a ≠ D ∧ a ≠ E ∧ H a = some (.lst (ws.map V.str))
theorem atI_last (ys : List V) (v : V) : atI (ys ++ [v]) (-1) = some v := by
  unfold atI ixN
  rw [if_neg (by decide), if_pos (by rw [List.length_append]; show -((ys.length + 1 : Nat) : Int) ≤ -1; omega)]
  have e : (-1 + (((ys ++ [v]).length : Nat) : Int)).toNat = ys.length := by
    rw [List.length_append]
    show (-1 + ((ys.length + 1 : Nat) : Int)).toNat = _
    omega
  rw [e]
  show (ys ++ [v])[ys.length]? = some v
  rw [List.getElem?_append_right (Nat.le_refl _), Nat.sub_self]
  rfl
abbrev nCol : List Str := ["words", "parts", "word"]
theorem scCol : FnScope nCol ["words"] (defScope sCol) := ⟨rfl, rfl, rfl, by decide +kernel, rfl, by decide +kernel, by decide +kernel⟩
theorem ok_col {f : Addr} {fd : FuncData} (F : Fun K "parts_between_colons" "parts_between_colons" sCol f fd) : FnOk Pg w K mg base CX0 1 f fd ["words"] (spCol K P) := by
  refine F.ok scCol (fun vs H Q E h => ?_) (fun cdv A outer s H vs Q E hr h => ?_)
  · obtain ⟨a, ws, rfl, _⟩ := h
    rfl
  · obtain ⟨a, ws, rfl, hA, hl, hP, kQ⟩ := h
    refine ⟨_, pss_cons (ps_set (i := 1) scCol.nd rfl (Or.inl rfl) (pe_lst (pa_cons (pe_lst pa_nil) pa_nil)))
      (C8.pss_cut (ps_for PassesOwn.never rfl (pi_list (pv 0)) (pg_name (i := 2) scCol.nd rfl (Or.inl rfl)) (pss_one (ps_if (pt_cmpR op_eq (pv 2) pe_str (nomark _)) (pss_one (ps_expr (pe_bm PySem.F.plainAttrs_list PySem.F.slot_list_append PySem.F.type_list_append mt_append (pv 1) (pa_cons (pe_lst pa_nil) pa_nil))))
        (pss_one (ps_expr (pe_bm PySem.F.plainAttrs_list PySem.F.slot_list_append PySem.F.type_list_append mt_append (pe_ix (r := rIxL K) ix_list (pv 1) (pe_un un_neg pe_int) (fun _ _ => rfl)) (pa_cons (pv 2) pa_nil)))))))
      (pss_one (ps_ret (pv 1)))), ?_⟩
    refine ⟨Nat.zero_le _, fun U nU => ⟨(show 1 ≤ sizeLine by decide), fun L nL => ?_⟩⟩
    have g1 := Grew.new hP (o := .lst []) nU
    have g2 := Grew.new g1.tab (o := .lst [V.ref U]) nL
    have hU := g2.lst g1.tab (b := U) (xs := []) upd_same
    have UL : U ≠ L := fun e => by rw [← e, upd_same] at nL; cases nL
    have hL : (L2.upd (L2.upd H U (.lst [])) L (.lst [V.ref U])) L = some (.lst [V.ref U]) := upd_same
    have fL := g1.free nL
    have g12 := g1.trans g2
    generalize L2.upd (L2.upd H U (.lst [])) L (.lst [V.ref U]) = H1 at hU hL g12
    refine ⟨fun σ H' => ∃ v2 ys, σ = [some (.ref a), some (.ref L), v2] ∧ Grew P H H' ∧ H' L = some (.lst ys) ∧ Paired (RowL H') (colons ws) ys, ?_, ?_⟩
    · refine ⟨_, rfl, a, rfl, ⟨_, g12.sqL hP hA⟩, for_list (K := K) (a := a) (xs := ws.map V.str) (fun i σ H' => ∃ (v2 : Option V) (acc : List (List Str)) (last : List Str) (ys : List V) (u : Addr), σ = [some (.ref a), some (.ref L), v2] ∧ Grew P H H' ∧ H' L = some (.lst (ys ++ [.ref u])) ∧ Paired (Row2 u L H') acc ys ∧ H' u = some (.lst (last.map V.str)) ∧ u ≠ L ∧ H u = none ∧ acc.length ≤ i ∧ last.length ≤ i ∧ colS acc last (ws.drop i) = colons ws)
        ⟨none, [], [], [], U, rfl, g12, hL, .nil, hU, UL, nU, Nat.le_refl _, Nat.le_refl _, rfl⟩ (fun i σ H' _ h => by obtain ⟨_, _, _, _, _, _, g, _⟩ := h; exact g.sqL hP hA) ?_ ?_⟩
      · rintro i y σ H2 hy ⟨v2, acc, last, ys, u, rfl, g, hL2, hr2, hu2, uL, fu, l1, l2, ec⟩
        rw [List.getElem?_map] at hy
        obtain ⟨z, hz, rfl⟩ := Option.map_eq_some_iff.mp hy
        have hi := (List.getElem?_eq_some_iff.mp hz).1
        have ly := Paired.len hr2
        have ed : ws.drop i = z :: ws.drop (i + 1) := by
          rw [List.drop_eq_getElem_cons hi, (List.getElem?_eq_some_iff.mp hz).2]
        rw [ed] at ec
        refine ⟨_, rfl, rfl, _, rfl, ?_⟩
        by_cases c : z = zCo
        · refine if_t (decide_eq_true (congrArg V.str c)) ⟨_, rfl, .inl ⟨rfl, _, SqL.of hL2⟩, Nat.zero_le _, fun U2 n2 => ?_⟩
          have gU := Grew.new g.tab (o := .lst []) n2
          have hL3 := gU.lst g.tab hL2
          have uU2 : u ≠ U2 := fun e => by rw [e, n2] at hu2; cases hu2
          have LU2 : U2 ≠ L := fun e => by rw [e, hL2] at n2; cases n2
          refine ⟨L, _, _, rfl, rfl, hL3, by rw [List.length_append, sizeLine_eq]; show _ + 1 < _; omega, some (.str z), acc ++ [last], [], ys ++ [.ref u], U2, rfl, (g.trans gU).write hL3 (fun _ z => by cases z) fL, upd_same, ?_, by rw [upd_ne LU2]; exact upd_same, LU2, g.free n2, by rw [List.length_append]; show _ + 1 ≤ _; omega, Nat.zero_le _, ?_⟩
          · have up : ∀ {w : List Str} {v : V}, (∃ b, v = .ref b ∧ b ≠ L ∧ H2 b = some (.lst (w.map V.str))) → Row2 U2 L (L2.upd (L2.upd H2 U2 (.lst [])) L (.lst (ys ++ [.ref u] ++ [.ref U2]))) w v := fun ⟨b, e, bL, hb⟩ =>
              ⟨b, e, fun z => (by rw [z, n2] at hb; cases hb), bL, by rw [upd_ne bL]; exact gU.lst g.tab hb⟩
            exact Paired.snoc (Paired.map' hr2 fun _ _ ⟨b, e, _, bL, hb⟩ => up ⟨b, e, bL, hb⟩) (up ⟨u, rfl, uL, hu2⟩)
          · rw [colS, if_pos c] at ec
            exact ec
        · refine if_f (decide_eq_false fun e => c (by injection e)) ⟨_, rfl, _, rfl, L, _, _, .ref u, rfl, rfl, SqL.of hL2, atI_last ys _, .inl ⟨rfl, _, SqL.of hu2⟩, _, rfl, u, _, _, rfl, rfl, hu2, by rw [List.length_map, sizeLine_eq]; omega, some (.str z), acc, last ++ [z], ys, u, rfl, g.write hu2 (fun _ z => by cases z) fu, by rw [upd_ne uL.symm]; exact hL2, Paired.map' hr2 fun _ _ ⟨b, e, bu, bL, hb⟩ => ⟨b, e, bu, bL, by rw [upd_ne bu]; exact hb⟩, by rw [upd_same, List.map_append]; rfl, uL, fu, by omega, by rw [List.length_append]; show _ + 1 ≤ _; omega, ?_⟩
          rw [colS, if_neg c] at ec
          exact ec
      · rintro σ H2 ⟨v2, acc, last, ys, u, rfl, g, hL2, hr2, hu2, uL, fu, l1, l2, ec⟩
        rw [List.length_map, List.drop_length] at ec
        refine ⟨v2, ys ++ [.ref u], rfl, g, hL2, ?_⟩
        rw [← ec]
        show Paired (RowL H2) (acc ++ [last]) (ys ++ [.ref u])
        exact Paired.snoc (Paired.map' hr2 fun _ _ ⟨b, e, _, _, hb⟩ => ⟨b, e, hb⟩) ⟨u, rfl, hu2⟩
    rintro σ H2 ⟨v2, ys, rfl, g, hL2, hy⟩
    exact ⟨_, rfl, kQ _ L ys g fL hL2 hy⟩
end
end W

set_option Elab.async false
set_option linter.all false
set_option maxRecDepth 100000
set_option maxHeartbeats 2000000
set_option exponentiation.threshold 2000
namespace W
open PySem PySem.Spec PyProof.Rows L2 GxR MyG MyS SqX
/-! ### _read_pair -/
abbrev sReadP : Stmt := top 44
def spReadP (P : Addr) : Sp := fun vs H Q _ => ∃ p : Int × Int, vs = [.str (pairS p)] ∧ (0 ≤ p.1 ∧ p.1 ≤ 999999 ∧ 0 ≤ p.2 ∧ p.2 ≤ 999999) ∧ TabG H P ∧ ∀ H' t, Grew P H H' → H t = none → H' t = some (.tup [.int p.1, .int p.2]) → Q (.ref t) H'
theorem iS_tl {i : Int} (h0 : 0 ≤ i) : TL.tl (iS i) = TL.numL i.toNat := by
  obtain ⟨n, rfl⟩ := Int.eq_ofNat_of_zero_le h0
  exact TL.tl_num n
theorem iS_int {i : Int} (h0 : 0 ≤ i) (h1 : i ≤ 999999) : intText? (iS i) = some i := by
  obtain ⟨n, rfl⟩ := Int.eq_ofNat_of_zero_le h0
  exact TL.int_num (Nat.le_trans (TL.numL_len (k := 6) (by decide) (by omega)) (by decide))
theorem iS_free {i : Int} (h0 : 0 ≤ i) : 45 ∉ TL.tl (iS i) := by
  rw [iS_tl h0]
  exact TL.numL_free (by decide)
theorem pair_part {p : Int × Int} (h0 : 0 ≤ p.1) : Txt.partition (pairS p) zMi = (iS p.1, zMi, iS p.2) := by
  unfold pairS
  exact TL.partition_app (s := 45) (S := []) rfl (iS_free h0)
section
variable {Pg : Program} {w : World} {K : PySem.W.Frag} {mg : Str → Option Value} {base : Heap} {C P : Addr}
abbrev nRP : List Str := ["word", "opens", "_", "closes"]
theorem scRP : FnScope nRP ["word"] (defScope sReadP) := ⟨rfl, rfl, rfl, by decide +kernel, rfl, by decide +kernel, by decide +kernel⟩
theorem ok_readP {f : Addr} {fd : FuncData} (F : Fun K "_read_pair" "_read_pair" sReadP f fd) (hi : mg "int" = none) : FnOk Pg w K mg base CX0 1 f fd ["word"] (spReadP P) := by
  refine F.ok scRP (fun vs H Q E h => ?_) (fun cdv A outer s H vs Q E hr h => ?_)
  · obtain ⟨p, rfl, _⟩ := h
    rfl
  · obtain ⟨p, rfl, ⟨p0, p1, p2, p3⟩, hP, kQ⟩ := h
    refine ⟨_, pss_cons (ps_asg (pe_partition (pv 0) pe_str) (pg_tup (by rfl) (pgs_cons (pg_name (i := 1) scRP.nd rfl (.inl rfl)) (pgs_cons (pg_name (i := 2) scRP.nd rfl (.inl rfl)) (pgs_cons (pg_name (i := 3) scRP.nd rfl (.inl rfl)) pgs_nil)))))
      (pss_one (ps_ret (pe_tup (pa_cons (pe_callTy (T := "int") call_int_str (by rfl) hi (by decide +kernel) (pa_cons (pv 1) pa_nil)) (pa_cons (pe_callTy (T := "int") call_int_str (by rfl) hi (by decide +kernel) (pa_cons (pv 3) pa_nil)) pa_nil))))), ?_⟩
    have l1 := iS_len p0 p1
    have l2 := iS_len p2 p3
    have lm : zMi.length = 1 := by decide +kernel
    refine ⟨_, rfl, ⟨_, rfl⟩, pairS p, zMi, rfl, rfl, by decide, ?_, fun t nt => ?_⟩
    · unfold pairS
      rw [PySem.Str.length_append, PySem.Str.length_append, sizeLine_eq]
      omega
    rw [pair_part p0]
    have gt := Grew.new hP (o := .tup [.str (iS p.1), .str zMi, .str (iS p.2)]) nt
    refine ⟨t, _, rfl, SqT.of upd_same, rfl, _, _, rfl, _, _, rfl, _, _, rfl, rfl, ?_⟩
    refine ⟨_, rfl, iS p.1, p.1, rfl, iS_int p0 p1, by omega, _, rfl, iS p.2, p.2, rfl, iS_int p2 p3, by omega, (show 2 ≤ sizeLine by decide), fun t2 nt2 => ?_⟩
    exact kQ _ t2 (gt.put nt2) (gt.free nt2) upd_same
end
end W

set_option Elab.async false
set_option linter.all false
set_option maxRecDepth 100000
set_option maxHeartbeats 2000000
set_option exponentiation.threshold 2000
namespace W
open PySem PySem.Spec PyProof.Rows L2 GxR MyG MyS SqX
/-! ### read_hours -/
abbrev sReadH : Stmt := top 43
theorem eqvAll_strs : ∀ (xs ys : List Str), PyData.eqvAll (xs.map .str) (ys.map .str) = decide (xs = ys)
  | [], [] => by simp [PyData.eqvAll]
  | [], y :: ys => by simp [PyData.eqvAll]
  | x :: xs, [] => by simp [PyData.eqvAll]
  | x :: xs, y :: ys => by
    rw [List.map_cons, List.map_cons, PyData.eqvAll, eqvAll_strs xs ys]
    have e : PyData.eqv (.str x) (.str y) = decide (x = y) := by
      rw [PyData.eqv]
      exact Bool.beq_eq_decide_eq ..
    rw [e, Bool.eq_iff_iff, Bool.and_eq_true, decide_eq_true_eq, decide_eq_true_eq, decide_eq_true_eq, List.cons.injEq]
theorem eqv_lists (xs ys : List Str) : PyData.eqv (.list (xs.map .str)) (.list (ys.map .str)) = decide (xs = ys) := by
  rw [PyData.eqv]
  exact eqvAll_strs xs ys
/-! ### rows -/
/-- a row as it lies: a list of its words -/
def spReadH (K : PySem.W.Frag) (P : Addr) : Sp := fun vs H Q _ => ∃ (a : Addr) (hs : Option (List (Int × Int))), vs = [.ref a] ∧ SqL K H a ((hourW hs).map V.str) ∧ (∀ gs, hs = some gs → gs.length ≤ 100 ∧ ∀ p ∈ gs, 0 ≤ p.1 ∧ p.1 ≤ 999999 ∧ 0 ≤ p.2 ∧ p.2 ≤ 999999) ∧ TabG H P ∧
  ∀ H' v, Grew P H H' → GHours K H' hs v → Q v H'
theorem pair_alw {p : Int × Int} : pairS p ≠ zAlw := fun e => by
  have h : 45 ∈ TL.tl (pairS p) := by
    unfold pairS
    rw [TL.tl_append, TL.tl_append]
    exact List.mem_append_left _ (List.mem_append_right _ (by decide +kernel))
  rw [e] at h
  exact absurd h (by decide +kernel)
theorem iS_ok {i : Int} (h0 : 0 ≤ i) : PyData.strOk (iS i) = true := by
  unfold PyData.strOk
  rw [← Array.all_toList]
  refine List.all_eq_true.mpr fun c hc => decide_eq_true ?_
  have : c ∈ TL.numL i.toNat := by rw [← iS_tl h0]; exact hc
  have := TL.numL_digits i.toNat c this
  omega
theorem app_ok {a b : Str} (h1 : PyData.strOk a = true) (h2 : PyData.strOk b = true) : PyData.strOk (a ++ b) = true := by
  unfold PyData.strOk at *
  rw [← Array.all_toList] at *
  have e : (a ++ b).cps.toList = a.cps.toList ++ b.cps.toList := TL.tl_append a b
  rw [e, List.all_append, h1, h2]
  rfl
theorem pairS_ok {p : Int × Int} (h0 : 0 ≤ p.1) (h1 : 0 ≤ p.2) : PyData.strOk (pairS p) = true := app_ok (app_ok (iS_ok h0) (by decide +kernel)) (iS_ok h1)
theorem lay_listS {ns : List Str} (h : ∀ z ∈ ns, PyData.strOk z = true) : Lay 2 (.list (ns.map .str)) := by
  obtain ⟨a, b⟩ := lay_all (n := 1) (ds := ns.map PyData.str) fun d hd => by
    obtain ⟨z, hz, rfl⟩ := List.mem_map.mp hd
    exact Lay.str (h z hz)
  refine ⟨by simpa [PyData.canLay0] using a, ?_⟩
  simp only [PyData.depth]
  omega
section
variable {Pg : Program} {w : World} {K : PySem.W.Frag} {mg : Str → Option Value} {base : Heap} {C P : Addr}
abbrev nRH : List Str := ["words", "word"]
theorem scRH : FnScope nRH ["words"] (defScope sReadH) := ⟨rfl, rfl, rfl, by decide +kernel, rfl, by decide +kernel, by decide +kernel⟩
theorem ok_readH {f fP : Addr} {fd fdP : FuncData} (F : Fun K "read_hours" "read_hours" sReadH f fd) (ht : mg "tuple" = none)
    (GP : FnOk Pg w K mg base CX0 1 fP fdP ["word"] (spReadP P)) (gP : mg "_read_pair" = some (.ref fP)) (kP : PySem.W.keepIn K (.ref fP) = true) (bP : Binds K fdP ["word"] []) :
    FnOk Pg w K mg base CX0 2 f fd ["words"] (spReadH K P) := by
  refine F.ok scRH (fun vs H Q E h => ?_) (fun cdv A outer s H vs Q E hr h => ?_)
  · obtain ⟨a, hs, rfl, _⟩ := h
    rfl
  · obtain ⟨a, hs, rfl, hA, hb, hP, kQ⟩ := h
    have hr1 : Room 1 _ := hr.mono (by decide)
    refine ⟨_, pss_cons (ps_if (pt_cmpR (r := rEqD K) (op_eqD hr.units) (pv 0) (pe_lst (pa_cons pe_str pa_nil)) (nomark _)) (pss_one (ps_ret pe_non)) pss_nil)
      (pss_one (ps_ret (pe_callTy call_tuple_of (by rfl) ht (by decide +kernel) (pa_cons (pe_lc (own := [("word", 1)]) (g := gName 1) (tt := tYes) rfl scRH.nd (pi_list (pv 0)) (blkOk_by (N := nRH) (sc := defScope sReadH) (by decide +kernel)) (fun _ _ _ _ _ => pg_name (i := 1) scRH.nd rfl (Or.inl rfl)) (fun _ _ _ _ _ => pts_nil)
          (fun _ _ _ _ _ => pe_call GP hr1 (by rfl) gP kP bP .nil pass0 (pa_cons (pv 1) pa_nil))) pa_nil)))), ?_⟩
    refine ⟨_, rfl, (show 1 ≤ sizeLine by decide), fun T nT => ?_⟩
    have gT := Grew.new hP (o := .lst (([zAlw] : List Str).map V.str)) nT
    have hT : (L2.upd H T (.lst [V.str (Str.ofString "always")])) T = some (.lst (([zAlw] : List Str).map V.str)) := upd_same
    have e1 : L2.upd H T (.lst [V.str (Str.ofString "always")]) = L2.upd H T (.lst (([zAlw] : List Str).map V.str)) := rfl
    rw [e1] at hT ⊢
    generalize L2.upd H T (.lst (([zAlw] : List Str).map V.str)) = H1 at gT hT ⊢
    have hA1 := gT.sqL hP hA
    have zok : ∀ z ∈ hourW hs, PyData.strOk z = true := fun z hz => by
      cases hs with
      | none => rw [List.mem_singleton.mp hz]; decide +kernel
      | some gs =>
        obtain ⟨p, hp, rfl⟩ := List.mem_map.mp hz
        obtain ⟨b0, _, b2, _⟩ := (hb gs rfl).2 p hp
        exact pairS_ok b0 b2
    have la := lay_listS zok
    have lb := lay_listS (ns := [zAlw]) (fun z hz => by rw [List.mem_singleton.mp hz]; decide +kernel)
    refine ⟨.list ((hourW hs).map .str), .list (([zAlw] : List Str).map .str), .lst hA1 (dpAll_strs _), .lst (SqL.of hT) (dpAll_strs _), la.shaped (by decide), lb.shaped (by decide), _, rfl, ?_⟩
    rw [eqv_lists]
    cases hs with
    | none => exact if_t (decide_eq_true rfl) (kQ _ .non gT rfl)
    | some gs =>
      obtain ⟨l100, bp⟩ := hb gs rfl
      have ne : ¬ hourW (some gs) = [zAlw] := fun e => by
        cases gs with
        | nil => cases e
        | cons p r =>
          have := (List.cons.inj (show pairS p :: r.map pairS = [zAlw] from e)).1
          exact pair_alw this
      refine if_f (decide_eq_false ne) ⟨_, rfl, a, rfl, ⟨_, hA1⟩, fun D nD => lc_list (K := K) (a := a) (xs := (gs.map pairS).map V.str) (fun i H' => Grew P H1 H' ∧ ∃ ys, H' D = some (.lst ys) ∧ Paired (GPair K H') (gs.take i) ys)
        ⟨Grew.new gT.tab nD, [], upd_same, .nil⟩ (fun i H' _ q => q.1.sqL gT.tab hA1) (fun i v H' hv q => ?_) (fun H' q => ?_)⟩
      · obtain ⟨g, ys, hD, hy⟩ := q
        rw [List.getElem?_map, List.getElem?_map] at hv
        cases qz : gs[i]? with
        | none => rw [qz] at hv; cases hv
        | some p =>
          rw [qz] at hv
          obtain rfl := Option.some.inj hv
          have hi := (List.getElem?_eq_some_iff.mp qz).1
          have ly := Paired.len hy
          rw [List.length_take] at ly
          refine ⟨rfl, _, rfl, p, rfl, bp p (List.mem_of_getElem? qz), g.tab, fun H2 t g2 nt ht2 => ?_⟩
          have hD2 := g2.lst g.tab hD
          refine ⟨_, hD2, by rw [sizeLine_eq]; omega, (g.trans g2).write hD2 (fun _ z => by cases z) nD, ys ++ [.ref t], upd_same, ?_⟩
          rw [List.take_succ, qz]
          have tD : t ≠ D := fun e => by rw [e, hD2] at ht2; cases ht2
          exact Paired.snoc (Paired.map' hy fun _ _ m => (m.keep (KeepT.grew g2 g.tab)).keep (KeepT.lst hD2)) ⟨t, rfl, SqT.of (by rw [upd_ne tD]; exact ht2)⟩
      · obtain ⟨g, ys, hD, hy⟩ := q
        have el : ((gs.map pairS).map V.str).length = gs.length := by rw [List.length_map, List.length_map]
        rw [el, List.take_length] at hy
        refine ⟨D, _, rfl, .inl ⟨SqL.of hD, fun t nt => ?_⟩⟩
        have gt := Grew.new g.tab (o := .tup ys) nt
        exact kQ _ (.ref t) ((gT.trans g).trans gt) ⟨t, ys, rfl, SqT.of upd_same, Paired.map' hy fun _ _ m => m.keep (KeepT.grew gt g.tab)⟩
end
end W

set_option Elab.async false
set_option linter.all false
set_option maxRecDepth 100000
set_option maxHeartbeats 2000000
set_option exponentiation.threshold 2000
namespace W
open PySem PySem.Spec PyProof.Rows L2 GxR MyG MyS SqX
/-! ### read_road -/
abbrev sReadR : Stmt := top 39
def spReadR (K : PySem.W.Frag) (P : Addr) : Sp := fun vs H Q _ => ∃ (a : Addr) (r : RoadD), vs = [.ref a] ∧ SqL K H a ((roadW r).map V.str) ∧ (roadW r).length ≤ 1000 ∧ colons (roadW r) = [[zRoad, r.name, r.start, r.goal, iS r.minutes], r.users, hourW r.hours] ∧ 0 ≤ r.minutes ∧ r.minutes ≤ 999999 ∧
  (∀ gs, r.hours = some gs → gs.length ≤ 100 ∧ ∀ p ∈ gs, 0 ≤ p.1 ∧ p.1 ≤ 999999 ∧ 0 ≤ p.2 ∧ p.2 ≤ 999999) ∧ TabG H P ∧ ∀ H' v, Grew P H H' → RoadAt K H' r v → Q v H'
section
variable {Pg : Program} {w : World} {K : PySem.W.Frag} {mg : Str → Option Value} {base : Heap} {C P : Addr}
abbrev nRR : List Str := ["words", "head", "kinds", "hours"]
theorem scRR : FnScope nRR ["words"] (defScope sReadR) := ⟨rfl, rfl, rfl, by decide +kernel, rfl, by decide +kernel, by decide +kernel⟩
theorem ok_readR {f fC fH : Addr} {fd fdC fdH : FuncData} (F : Fun K "read_road" "read_road" sReadR f fd) (hi : mg "int" = none) (ht : mg "tuple" = none)
    (GC : FnOk Pg w K mg base CX0 1 fC fdC ["words"] (spCol K P)) (gC : mg "parts_between_colons" = some (.ref fC)) (kC : PySem.W.keepIn K (.ref fC) = true) (bC : Binds K fdC ["words"] [])
    (GH : FnOk Pg w K mg base CX0 2 fH fdH ["words"] (spReadH K P)) (gH : mg "read_hours" = some (.ref fH)) (kH : PySem.W.keepIn K (.ref fH) = true) (bH : Binds K fdH ["words"] []) :
    FnOk Pg w K mg base CX0 3 f fd ["words"] (spReadR K P) := by
  refine F.ok scRR (fun vs H Q E h => ?_) (fun cdv A outer s H vs Q E hr h => ?_)
  · obtain ⟨a, r, rfl, _⟩ := h
    rfl
  · obtain ⟨a, r, rfl, hA, hl, hc, m0, m1, hh, hP, kQ⟩ := h
    have hr1 : Room 1 _ := hr.mono (by decide)
    have hr2 : Room 2 _ := hr.mono (by decide)
    refine ⟨_, pss_cons (ps_asg (pe_call GC hr1 (by rfl) gC kC bC .nil pass0 (pa_cons (pv 0) pa_nil)) (pg_lst (by rfl) (pgs_cons (pg_name (i := 1) scRR.nd rfl (.inl rfl)) (pgs_cons (pg_name (i := 2) scRR.nd rfl (.inl rfl)) (pgs_cons (pg_name (i := 3) scRR.nd rfl (.inl rfl)) pgs_nil)))))
      (pss_one (ps_ret (pe_tup (pa_cons (pe_ix (r := rIxL K) ix_list (pv 1) pe_int (fun _ _ => rfl)) (pa_cons (pe_ix (r := rIxL K) ix_list (pv 1) pe_int (fun _ _ => rfl)) (pa_cons (pe_ix (r := rIxL K) ix_list (pv 1) pe_int (fun _ _ => rfl)) (pa_cons (pe_callTy (T := "int") call_int_str (by rfl) hi (by decide +kernel) (pa_cons (pe_ix (r := rIxL K) ix_list (pv 1) pe_int (fun _ _ => rfl)) pa_nil))
          (pa_cons (pe_callTy call_tuple_of (by rfl) ht (by decide +kernel) (pa_cons (pv 2) pa_nil)) (pa_cons (pe_call GH hr2 (by rfl) gH kH bH .nil pass0 (pa_cons (pv 3) pa_nil)) pa_nil))))))))), ?_⟩
    refine ⟨_, rfl, a, roadW r, rfl, hA, hl, hP, fun H1 p ys g1 np hp hy => ?_⟩
    rw [hc] at hy
    cases hy with
    | cons ra hy =>
      cases hy with
      | cons rb hy =>
        cases hy with
        | cons rc hy =>
          cases hy
          obtain ⟨q1, rfl, h1⟩ := ra
          obtain ⟨q2, rfl, h2⟩ := rb
          obtain ⟨q3, rfl, h3⟩ := rc
          have s1 := SqL.of (K := K) h1
          refine ⟨p, _, rfl, SqL.of hp, rfl, _, _, rfl, _, _, rfl, _, _, rfl, rfl, ?_⟩
          refine ⟨_, rfl, q1, _, 1, .str r.name, rfl, rfl, s1, rfl, _, rfl, q1, _, 2, .str r.start, rfl, rfl, s1, rfl, _, rfl, q1, _, 3, .str r.goal, rfl, rfl, s1, rfl, _, rfl, q1, _, 4, .str (iS r.minutes), rfl, rfl, s1, rfl, iS r.minutes, r.minutes, rfl, iS_int m0 m1, by have := iS_len m0 m1; omega, _, rfl, q2, _, rfl, .inl ⟨SqL.of h2, fun u nu => ?_⟩⟩
          have gu := Grew.new g1.tab (o := .tup (r.users.map V.str)) nu
          have hu : (L2.upd H1 u (.tup (r.users.map V.str))) u = some (.tup (r.users.map V.str)) := upd_same
          generalize L2.upd H1 u (.tup (r.users.map V.str)) = H2 at gu hu ⊢
          refine ⟨_, rfl, q3, r.hours, rfl, SqL.of (gu.lst g1.tab h3), hh, gu.tab, fun H3 hv g23 hg => ⟨(show 6 ≤ sizeLine by decide), fun t nt => ?_⟩⟩
          have gt := Grew.new g23.tab (o := .tup [.str r.name, .str r.start, .str r.goal, .int r.minutes, .ref u, hv]) nt
          exact kQ _ (.ref t) ((g1.trans gu).trans (g23.trans gt)) ⟨t, u, hv, rfl, upd_same, (g23.trans gt).tup gu.tab hu, hg.keep (KeepT.grew gt g23.tab)⟩
end
end W

set_option Elab.async false
set_option linter.all false
set_option maxRecDepth 100000
set_option maxHeartbeats 4000000
/-! all(element for x in walked), any(..), where the element is any expression of the layer: it may call, and read names of the def that walks. -/
namespace GenE
open PySem PySem.Spec PyProof.Rows L2 GxR GenW
/-- the generator expression's scope: the walked thing, its one name, captured names -/
structure GnS (x : Str) (sc scope : Scope) : Prop where
  kind : scope.kind = .function
  co : scope.isCoroutine = false
  cell : ∀ y ∈ scope.names, y.2 ≠ .cell
  dot : scope.names.lookup (".0" : Str) = some .local
  par : scope.names.lookup x = some .local
  own : ∀ y ∈ scope.names, y.2 = .local → y.1 = x ∨ y.1 = (".0" : Str)
  free : ∀ y ∈ scope.names, y.2 = .free → sc.names.lookup y.1 = some .cell ∨ sc.names.lookup y.1 = some .free
def gnSB (x : Str) (sc scope : Scope) : Bool :=
  decide (scope.kind = .function) && !scope.isCoroutine && decide (scope.names.lookup (".0" : Str) = some .local) && decide (scope.names.lookup x = some .local) && scope.names.all fun y => !decide (y.2 = .cell) && (!decide (y.2 = .local) || (decide (y.1 = x) || decide (y.1 = (".0" : Str)))) && (!decide (y.2 = .free) || decide (sc.names.lookup y.1 = some .cell) || decide (sc.names.lookup y.1 = some .free))
theorem gnS_by {x : Str} {sc scope : Scope} (h : gnSB x sc scope = true) : GnS x sc scope := by
  unfold gnSB at h
  simp only [Bool.and_eq_true, Bool.or_eq_true, Bool.not_eq_true', decide_eq_true_eq, decide_eq_false_iff_not, List.all_eq_true] at h
  obtain ⟨⟨⟨⟨h1, h2⟩, h3⟩, h4⟩, h5⟩ := h
  refine ⟨h1, h2, fun y hy => (h5 y hy).1.1, h3, h4, fun y hy e => ?_, fun y hy e => ?_⟩
  · rcases (h5 y hy).1.2 with z | z
    · exact absurd e z
    · exact z
  · rcases (h5 y hy).2 with (z | z) | z
    · exact absurd e z
    · exact .inl z
    · exact .inr z
theorem GnS.has {X : Cx} {x : Str} {scope : Scope} (L : GnS x X.env.scope scope) (ok : X.Ok) : ∀ y ∈ scope.names, y.2 = .free → ∃ c, X.env.cells.lookup y.1 = some c := fun y hy e => by
  rcases L.free y hy e with k | k
  · exact ok.has _ (.inl k)
  · exact ok.has _ (.inr k)
/-- the context of the element: the name ahead of the maker's names; fp: the walked iterator's objects -/
def genCx (X : Cx) (x : Str) (A : Around) (ce : Env) (s : Shared) (H : Hp) (fp : List Addr) : Cx where
  prog := X.prog
  w := X.w
  K := X.K
  mg := X.mg
  base := X.base
  A := A
  N := x :: X.N
  s_0 := s
  H_0 := H
  env := ce
  outer := X.stack
  stack := ce :: X.stack
  ex := fp
  fn := fun _ => false
  calm := true
  pn := []
  xe := fun _ _ => False
abbrev gEnv (X : Cx) (scope : Scope) (C : Addr) (code : Value) : Env := genEnv scope (cloFrom X.env.cells scope.names []) C code builtinsNs X.env
section
variable {X : Cx} {pins : List (Addr × Obj)} {σ : L2.St} {H : Hp} {s : Shared}
theorem gen_start {x : Str} {A : Around} {scope : Scope} {code it : Value} {fp : List Addr} {h₁ : Heap} {g₁ : Array GenState} {tk : Nat} (I : Inv X pins σ H s) (L : GnS x X.env.scope scope) (hrow : x ∉ X.N) (hdot : (".0" : Str) ∉ X.N) (hA : A.handled = none) (hfr : A.frames = some (gEnv X scope s.heap.objs.size code :: X.stack))
    (hfp : ∀ b ∈ fp, FpOk X pins H b ∧ b < s.heap.objs.size) (hns : h₁.Ns s.heap.objs.size fun y => if y = (".0" : Str) then some it else none) (kp : ∀ b o, s.heap.get? b = some o → h₁.get? b = some o) (hg : AllBare g₁) :
    Inv (genCx X x A (gEnv X scope s.heap.objs.size code) s H fp) [] (none :: σ) H { s with heap := h₁, gens := g₁, toks := tk } := by
  have hfree := L.has I.ok
  have cm : ∀ {y c}, (cloFrom X.env.cells scope.names []).lookup y = some c → X.env.cells.lookup y = some c := fun {y c} e => by
    rcases cloFrom_mem (PySem.mem_of_lookup e) with hm | ⟨h1, h2⟩
    · cases hm
    · obtain ⟨c1, hc⟩ := hfree _ h1 rfl
      have hc : X.env.cells.lookup y = some c1 := hc
      have e2 : c = c1 := by
        rw [h2, hc] <;> rfl
      rw [e2]
      exact hc
  have look : ∀ {y}, scope.names.lookup y = some .free → ∃ c, (cloFrom X.env.cells scope.names []).lookup y = some c := fun {y} hl => by
    have hy : (y, NameKind.free) ∈ scope.names := PySem.mem_of_lookup hl
    exact mem_lookup (cloFrom_has (cells := X.env.cells) (acc := []) hy)
  have cellK : ∀ {c : Addr} {v : Option Value}, s.heap.IsCell c v → h₁.IsCell c v := fun {c v} ⟨o, ho, hd⟩ => ⟨o, kp c o ho, hd⟩
  refine ⟨⟨I.ok.mod, L.kind, I.ok.glob, rfl, Nat.le_refl _, fun y z c e1 e2 => I.ok.inj y z c (cm e1) (cm e2), fun y hy => ?_, fun y c z _ => ?_, fun _ => hA, hfr, .inr ⟨rfl, rfl⟩, fun b hb => ⟨Nat.ne_of_lt (hfp b hb).2, fun y c e => (hfp b hb).1.2.2.2.2.1 y c (cm e)⟩, I.bs, Nat.le_trans I.ok.bsz I.sz, fun b o e hb => ?_, fun b hb z => ?_, I.stack, I.stkFree⟩,
    rfl, hg, Un.kept kp, ⟨_, hns, fun i y v e1 e2 e3 => ?_⟩, fun y c e => ?_, I.hok.fresh (Nat.le_refl _), fun y c e => ?_, fun q hq => absurd (show q ∈ ([] : List (Addr × Obj)) ++ [] from hq) (by simp), I.hok.kept kp, by show (none :: σ).length = (x :: X.N).length; rw [List.length_cons, List.length_cons, I.len]⟩
  · have hy : scope.names.lookup y = some .cell ∨ scope.names.lookup y = some .free := hy
    rcases hy with hy | hy
    · exact absurd rfl (L.cell _ (PySem.mem_of_lookup hy))
    · exact look hy
  · have z : false = true := z
    cases z
  · rcases (hfp b hb).1.2.2.2.1 with z | z
    · exact I.ok.noex b o e z
    · exact absurd (Nat.lt_of_lt_of_le (Heap.lt_size e) (Nat.le_trans I.ok.bsz z)) (Nat.lt_irrefl _)
  · rcases List.mem_cons.mp (I.stkSub b z) with z | z
    · exact (hfp b hb).1.2.1 z
    · exact (hfp b hb).1.2.2.1 z
  · have e3 : Vis scope y := e3
    have e1 : (x :: X.N)[i]? = some y := e1
    rcases i with _ | i
    · cases e2
    · have e1 : X.N[i]? = some y := e1
      have e2 : σ[i]? = some (some v) := e2
      have ny : y ≠ x := fun z => hrow (z ▸ List.mem_of_getElem? e1)
      have nd : y ≠ (".0" : Str) := fun z => hdot (z ▸ List.mem_of_getElem? e1)
      rcases e3 with k | k | k
      · rcases L.own _ (PySem.mem_of_lookup k) rfl with z | z
        · exact absurd z ny
        · exact absurd z nd
      · exact absurd rfl (L.cell _ (PySem.mem_of_lookup k))
      · obtain ⟨m, hn, hl⟩ := I.loc
        have hvis : Vis X.env.scope y := (L.free _ (PySem.mem_of_lookup k) rfl).elim (fun k => .inr (.inl k)) (fun k => .inr (.inr k))
        obtain ⟨w', r, q⟩ := hl i y v e1 e2 hvis
        obtain ⟨c2, h2⟩ := look k
        refine ⟨w', r, .inr ⟨.inr k, c2, h2, ?_⟩⟩
        have c1 := cm h2
        rcases q with ⟨k', _⟩ | ⟨_, c3, e', z⟩
        · have k' : X.env.scope.names.lookup y = some .local := k'
          rcases L.free _ (PySem.mem_of_lookup k) rfl with k2 | k2 <;> rw [show X.env.scope.names.lookup y = _ from k2] at k' <;> cases k'
        · rw [c1] at e'
          cases e'
          exact cellK z
  · obtain ⟨w', z⟩ := I.cell y c (cm e)
    exact ⟨w', cellK z⟩
  · exact I.freeC y c (cm e)
/-- where it stands behind z: what X wants of it -/
structure Out (X : Cx) (fp : List Addr) (z : Shared) (Hz H : Hp) (s : Shared) : Prop where
  os : s.os = z.os
  bare : AllBare s.gens
  un : Un (frs X.stack) fp Hz H z.heap s.heap
  hok : HOk X.prog X.w H s.heap
/-- an item is handed out: the walk goes on while it is cont -/
def YQ (X : Cx) (fp : List Addr) (z : Shared) (Hz : Hp) (a : Addr) (g : Nat) (cont : Bool) (Q : VK) : Protocol := fun _ _ v s1 kap =>
  ∃ (b : Bool) (H' : Hp), v = .bool b ∧ Out X fp z Hz H' s1 ∧ s1.heap.IsGen a g ∧ s1.heap.NoLimit ∧ (b = cont → ∀ s'' : Shared, s''.heap = s1.heap → s''.os = s1.os → AllBare s''.gens → kap (.send .none) s'') ∧ (b ≠ cont → Q (.bl b) H')
def RQ (X : Cx) (fp : List Addr) (z : Shared) (Hz : Hp) (cont : Bool) (Q : VK) : GenEnd := fun _ _ r s1 => ((r = .ok (.ret .none) ∨ r = .ok .next) ∧ ∃ H', Out X fp z Hz H' s1 ∧ Q (.bl cont) H') ∨ ∃ e, r = .error e ∧ False
/-- the walk, turn by turn -/
def Walked (J : It) (cont : Bool) (Q : VK) (tb : V → Hp → VK → Prop) (W : Nat → Nat → Hp → Prop) : Prop :=
  ∀ i m H, W i m H → (J.stop i H ∧ Q (.bl cont) H) ∨ (J.go i H ∧ ∀ x H', J.yld i H x H' → tb x H' fun v H'' => ∃ b, v = .bl b ∧ (b = cont → ∃ m', m' < m ∧ W (i + 1) m' H'') ∧ (b ≠ cont → Q (.bl b) H''))
theorem Out.of {x : Str} {A : Around} {ce : Env} {fp : List Addr} {pins : List (Addr × Obj)} {σ : L2.St} {H : Hp} {s z : Shared} {Hz : Hp} (I : Inv (genCx X x A ce z Hz fp) pins σ H s) : Out X fp z Hz H s := ⟨I.os, I.bare, I.base, I.hok⟩
section
variable {x : Str} {A : Around} {scope : Scope} {code : Value} {fp : List Addr} {z : Shared} {Hz : Hp} {elt iter : Expr} {px gpos : Pos} {it a : Addr} {g : Nat} {gob : Obj} {J : It} {tn : Nat → Heap → Prop} {cont : Bool} {Q : VK} {t : TE} {W : Nat → Nat → Hp → Prop}
abbrev gAr (A : Around) (elt iter : Expr) (x : Str) (px gpos : Pos) (scope : Scope) (it : Addr) (ce : Env) : Around := A.over (.compLoop (.GeneratorExp elt [⟨.Name x px, iter, [], 0⟩] scope gpos) 0 (.ref it) .none ce) []
abbrev gX (X : Cx) (x : Str) (A : Around) (elt iter : Expr) (px gpos : Pos) (scope : Scope) (it : Addr) (code : Value) (z : Shared) (Hz : Hp) (fp : List Addr) : Cx := genCx X x (gAr A elt iter x px gpos scope it (gEnv X scope z.heap.objs.size code)) (gEnv X scope z.heap.objs.size code) z Hz fp
theorem seg_turns (L : GnS x X.env.scope scope) (hnd : X.N.Nodup) (hrow : x ∉ X.N) (hafp : a ∉ fp)
    (hgen : ∀ h : Heap, h.get? a = some gob → h.IsGen a g)
    (T : Turn X.prog X.w X.K (.Name x px) J fp it tn) (hbody : PE (gX X x A elt iter px gpos scope it code z Hz fp) elt t)
    (turn : Walked J cont Q (fun v H Q => t (some v :: σ) H Q) W)
    (stat : ∀ {H' : Hp}, (∀ b ∈ fp, H' b = none) → ∀ b ∈ fp, FpOk (gX X x A elt iter px gpos scope it code z Hz fp) [(a, gob)] H' b) :
    ∀ (n i m : Nat) (v0 : Option V) (H : Hp) (s s₀ : Shared), m < n → Inv (gX X x A elt iter px gpos scope it code z Hz fp) [(a, gob)] (v0 :: σ) H s → tn i s.heap → (∀ b ∈ fp, H b = none) → W i m H →
      Seg (model X.prog X.w) A (RQ X fp z Hz cont Q) (YQ X fp z Hz a g cont Q) n s₀ (.compLoop (.GeneratorExp elt [⟨.Name x px, iter, [], 0⟩] scope gpos) 0 (.ref it) .none (gEnv X scope z.heap.objs.size code))
        ((model X.prog X.w).den (.compLoop (.GeneratorExp elt [⟨.Name x px, iter, [], 0⟩] scope gpos) 0 (.ref it) .none (gEnv X scope z.heap.objs.size code))) [] s := by
  intro n
  induction n with
  | zero => intro i m v0 H s s₀ h; exact absurd h (Nat.not_lt_zero _)
  | succ n ih =>
    intro i m v0 H s s₀ hm I st fr w
    show Seg _ A _ _ _ s₀ _ ((compTurn (.GeneratorExp elt [⟨.Name x px, iter, [], 0⟩] scope gpos) 0 (.ref it) .none (gEnv X scope z.heap.objs.size code)).onRaise (leaving (gEnv X scope z.heap.objs.size code))) [] s
    rw [compTurn_gen, Sem.onRaise_eq_wrap]
    refine seg_bind_wrap (wpAny_standAt ?_)
    rcases turn i m H w with ⟨stop, qn⟩ | ⟨go, step⟩
    · refine seg_bind_wrap (thn (T.done (gX X x A elt iter px gpos scope it code z Hz fp) rfl rfl rfl rfl i _ s _ H _ I (stat fr) st stop) fun r s4 ⟨hr, I4⟩ => ?_)
      subst hr
      exact seg_end (.ok .next) (.inl ⟨.inr rfl, H, Out.of I4, qn⟩)
    · refine seg_bind_wrap (thn (T.item (gX X x A elt iter px gpos scope it code z Hz fp) rfl rfl rfl rfl i _ s _ H _ I (stat fr) st go) fun r s4 ⟨u, hr, h4⟩ => ?_)
      subst hr
      refine seg_bind_wrap (thn h4 fun _ s5 ⟨v, H5, I5, r5, y5, st5, fr5⟩ => ?_)
      have I5' := I5.pinned (stat fr5) (T.obj _ _ st5)
      have PGn := pg_name (X := genCx X x (gAr A elt iter x px gpos scope it (gEnv X scope z.heap.objs.size code)) (gEnv X scope z.heap.objs.size code) z Hz fp) (pos := px) (i := 0) (x := x) (List.nodup_cons.mpr ⟨hrow, hnd⟩) rfl (.inl L.par) (.inr L.par)
      refine seg_bind_wrap (thnF (PGn.run _ s5 _ H5 v u (fun σ' H' => σ' = some v :: σ ∧ H' = H5) I5' r5 ⟨rfl, rfl⟩) fun _ s6 ⟨σ6, H6, I6, e6, e6'⟩ => ?_)
      subst e6 e6'
      refine seg_bind_wrap (wpAny_tests_nil ?_)
      rw [if_pos rfl]
      have hy : ∀ v, yieldOut (gEnv X scope z.heap.objs.size code) v = yieldValue v := fun v => by
        have hco : (gEnv X scope z.heap.objs.size code).scope.isCoroutine = false := L.co
        simp only [yieldOut, hco, Bool.false_eq_true, if_false]
      simp only [hy]
      rw [Sem.bind_eq_wrap', Sem.bind_eq_wrap', Sem.wrap_wrap, Sem.wrap_wrap]
      refine seg_wrap (thnF (hbody.run _ s6 _ H6 _ I6 (step v H6 y5)) fun y s7 ⟨bv, H7, I7, r7, b, hb, hc, hn⟩ => ?_)
      subst hb
      obtain rfl : y = Value.bool b := r7
      have I7' := I7.unpinned
      have st7 : tn (i + 1) s7.heap := T.keep _ _ _ st5 fun b hb o e => (I7.pin (b, o) (List.mem_append_right _ (List.mem_append_right _ (mem_pinsAt hb e)))).1
      have fr7 : ∀ b ∈ fp, H7 b = none := fun b hb => by
        obtain ⟨o, e, d⟩ := T.obj _ _ st5 b hb
        exact (I7.pin (b, o) (List.mem_append_right _ (List.mem_append_right _ (mem_pinsAt hb e)))).2.1
      have hga := (I7'.pin (a, gob) (List.mem_append_right _ List.mem_cons_self)).1
      refine seg_at (seg_yield rfl rfl rfl ⟨b, H7, rfl, Out.of I7', hgen _ hga, I7'.nolimit, fun hbc s8 e1 e2 e3 => ?_, hn⟩)
      obtain ⟨m', hm', w'⟩ := hc hbc
      have I8 := I7'.call' (s' := s8) (ch := []) e2 (by rw [e1]; exact Un.refl) (by rw [e1]; exact I7'.hok) e3 (fun _ z => nomatch z)
      exact seg_again rfl (ih (i + 1) m' _ H7 s8 s8 (by omega) I8 (by rw [e1]; exact st7) fr7 w')
theorem seg_begin {σ : L2.St} {n : Nat} {s s₀ : Shared} (T : Turn X.prog X.w X.K (.Name x px) J fp it tn) (st : tn 0 s.heap) (ce : Env) (R : GenEnd) (Y : Protocol)
    (loop : Seg (model X.prog X.w) A R Y n s₀ (.compLoop (.GeneratorExp elt [⟨.Name x px, iter, [], 0⟩] scope gpos) 0 (.ref it) .none ce) ((model X.prog X.w).den (.compLoop (.GeneratorExp elt [⟨.Name x px, iter, [], 0⟩] scope gpos) 0 (.ref it) .none ce)) [] s) :
    Seg (model X.prog X.w) A R Y n s₀ (.compStart (.GeneratorExp elt [⟨.Name x px, iter, [], 0⟩] scope gpos) 0 (.ref it) .none ce) ((model X.prog X.w).den (.compStart (.GeneratorExp elt [⟨.Name x px, iter, [], 0⟩] scope gpos) 0 (.ref it) .none ce)) [] s := by
  show Seg _ A _ _ _ s₀ _ ((compStart (.GeneratorExp elt [⟨.Name x px, iter, [], 0⟩] scope gpos) 0 (.ref it) .none ce).onRaise (leaving ce)) [] s
  unfold compStart
  rw [Sem.onRaise_eq_wrap]
  show Seg _ A _ _ _ s₀ _ ((ask >>= _).wrap _ _ _ _) [] s
  refine seg_bind_wrap (wpAny_askSetting ?_)
  split
  · exact seg_again rfl loop
  · first
      | exact seg_bind_wrap (wpAny_rule (seg_bind_wrap (wpAny_standAt (seg_bind_wrap (T.self _ 0 s _ _ st (seg_again rfl loop))))))
      | (refine seg_bind_wrap (wpAny_rule ?_); show Seg _ A _ _ _ s₀ _ ((standAt iter.pos >>= _).wrap _ _ _ _) [] s; exact seg_bind_wrap (wpAny_standAt (seg_bind_wrap (T.self _ 0 s _ _ st (seg_again rfl loop)))))
theorem goesQ {gs : GenState} {B : Around} {n : Nat} {r : Resume} {s : Shared} {M : Model} {Y : Protocol} (h : gs.Goes M B (RQ X fp z Hz cont Q) Y n r s) :
    gs.Goes M B (fun n s₀ r s1 => ((r = .ok (.ret .none) ∨ r = .ok .next) ∧ ∃ H', Out X fp z Hz H' s1 ∧ Q (.bl cont) H') ∨ ∃ e, r = .error e ∧ False) Y n r s := h
theorem Out.gens {H' : Hp} {s s' : Shared} (o : Out X fp z Hz H' s) (e1 : s'.os = s.os) (e2 : AllBare s'.gens) (k : ∀ b o, s.heap.get? b = some o → s'.heap.get? b = some o) : Out X fp z Hz H' s' :=
  ⟨e1.trans o.os, e2, o.un.trans (Un.kept k), o.hok.kept k⟩
theorem all_loop {B : Around} {R : Result → Shared → Prop} (hh : B.handled = none) (hd : B.depth < recursionLimit) (hR : ∀ (b : Bool) s' H', Out X fp z Hz H' s' → Q (.bl b) H' → R (.ok (.ret (.bool b))) s') :
    ∀ (n : Nat) (s : Shared), s.heap.IsGen a g → s.heap.NoLimit → AllBare s.gens → s.os = z.os → (∃ gs, s.gens[g]? = some gs ∧ gs.Goes (model X.prog X.w) B.in1.in1 (RQ X fp z Hz true Q) (YQ X fp z Hz a g true Q) n (.send .none) (s.setGen g .running)) →
      codeAny (model X.prog X.w) B (.builtin "all.loop" ⟨[.ref a], []⟩) R s := by
  intro n
  induction n with
  | zero =>
    intro s hg hl hb hos ⟨gs, hgs, hgo⟩
    refine codeAny_builtin F.entry_all_loop ?_
    rw [Around.under_plainId F.plain_all_loop _]
    show wpAny _ B.in1 (pyNext (.ref a) >>= _) _ _ s
    refine wpAny_bind (next_genG (A := B.in1) hh hl hd hg hgs (goesQ hgo) (fun v s₁ gs' hbare hv => ?_) (fun s₁ hp h' hk => ?_) fun e s₁ he => he.elim)
    · obtain ⟨b, H', rfl, ho, hg1, hl1, hk, hn⟩ := hv
      refine wpAny_bind (wpAny_holding (wpAny_truthy_bool ?_))
      refine wpAny_bind (wpAny_letGo ?_)
      cases b with
      | true => exact (hk rfl s₁ rfl rfl ho.bare).elim
      | false =>
        simp only [Bool.false_eq_true, if_false]
        exact wpAny_bind (wpAny_rule (wpAny_pure (hR false _ H' (ho.gens rfl (allBare_setGen ho.bare hbare) fun _ _ e => e) (hn (by decide)))))
    · obtain ⟨H', ho, q⟩ := hp
      exact wpAny_bind (wpAny_rule (wpAny_pure (hR true _ H' (ho.gens rfl (allBare_setGen ho.bare rfl) hk) q)))
  | succ n ih =>
    intro s hg hl hb hos ⟨gs, hgs, hgo⟩
    have hgl : g < s.gens.size := (Array.getElem?_eq_some_iff.mp hgs).1
    refine codeAny_builtin F.entry_all_loop ?_
    rw [Around.under_plainId F.plain_all_loop _]
    show wpAny _ B.in1 (pyNext (.ref a) >>= _) _ _ s
    refine wpAny_bind (wpAny_gsz (n := g + 1) hgl (next_genG (A := B.in1) hh hl hd hg hgs (goesQ hgo) (fun v s₁ gs' hbare hv => ?_) (fun s₁ hp h' hk => ?_) fun e s₁ he => he.elim))
    · intro hsz
      obtain ⟨b, H', rfl, ho, hg1, hl1, hk, hn⟩ := hv
      refine wpAny_bind (wpAny_holding (wpAny_truthy_bool ?_))
      refine wpAny_bind (wpAny_letGo ?_)
      have hsz1 : g < s₁.gens.size := by
        have q : (s₁.setGen g gs').gens.size = s₁.gens.size := setGen_size _ _ _
        have hsz' : g + 1 ≤ (s₁.setGen g gs').gens.size := hsz
        omega
      cases b with
      | true =>
        simp only [if_true]
        refine wpAny_pure ⟨plainId_quiet F.plain_all_loop _, ?_⟩
        refine ih _ hg1 hl1 (allBare_setGen ho.bare hbare) ho.os ⟨gs', setGen_at hsz1, ?_⟩
        exact hk rfl ((s₁.setGen g gs').setGen g .running) rfl rfl (allBare_setGen (s := s₁.setGen g gs') (allBare_setGen ho.bare hbare) rfl)
      | false =>
        simp only [Bool.false_eq_true, if_false]
        exact wpAny_bind (wpAny_rule (wpAny_pure (hR false _ H' (ho.gens rfl (allBare_setGen ho.bare hbare) fun _ _ e => e) (hn (by decide)))))
    · intro hsz
      obtain ⟨H', ho, q⟩ := hp
      exact wpAny_bind (wpAny_rule (wpAny_pure (hR true _ H' (ho.gens rfl (allBare_setGen ho.bare rfl) hk) q)))
theorem any_loop {B : Around} {R : Result → Shared → Prop} (hh : B.handled = none) (hd : B.depth < recursionLimit) (hR : ∀ (b : Bool) s' H', Out X fp z Hz H' s' → Q (.bl b) H' → R (.ok (.ret (.bool b))) s') :
    ∀ (n : Nat) (s : Shared), s.heap.IsGen a g → s.heap.NoLimit → AllBare s.gens → s.os = z.os → (∃ gs, s.gens[g]? = some gs ∧ gs.Goes (model X.prog X.w) B.in1.in1 (RQ X fp z Hz false Q) (YQ X fp z Hz a g false Q) n (.send .none) (s.setGen g .running)) →
      codeAny (model X.prog X.w) B (.builtin "any.loop" ⟨[.ref a], []⟩) R s := by
  intro n
  induction n with
  | zero =>
    intro s hg hl hb hos ⟨gs, hgs, hgo⟩
    refine codeAny_builtin F.entry_any_loop ?_
    rw [Around.under_plainId F.plain_any_loop _]
    show wpAny _ B.in1 (pyNext (.ref a) >>= _) _ _ s
    refine wpAny_bind (next_genG (A := B.in1) hh hl hd hg hgs (goesQ hgo) (fun v s₁ gs' hbare hv => ?_) (fun s₁ hp h' hk => ?_) fun e s₁ he => he.elim)
    · obtain ⟨b, H', rfl, ho, hg1, hl1, hk, hn⟩ := hv
      refine wpAny_bind (wpAny_holding (wpAny_truthy_bool ?_))
      refine wpAny_bind (wpAny_letGo ?_)
      cases b with
      | false => exact (hk rfl s₁ rfl rfl ho.bare).elim
      | true =>
        simp only [if_true]
        exact wpAny_bind (wpAny_rule (wpAny_pure (hR true _ H' (ho.gens rfl (allBare_setGen ho.bare hbare) fun _ _ e => e) (hn (by decide)))))
    · obtain ⟨H', ho, q⟩ := hp
      exact wpAny_bind (wpAny_rule (wpAny_pure (hR false _ H' (ho.gens rfl (allBare_setGen ho.bare rfl) hk) q)))
  | succ n ih =>
    intro s hg hl hb hos ⟨gs, hgs, hgo⟩
    have hgl : g < s.gens.size := (Array.getElem?_eq_some_iff.mp hgs).1
    refine codeAny_builtin F.entry_any_loop ?_
    rw [Around.under_plainId F.plain_any_loop _]
    show wpAny _ B.in1 (pyNext (.ref a) >>= _) _ _ s
    refine wpAny_bind (wpAny_gsz (n := g + 1) hgl (next_genG (A := B.in1) hh hl hd hg hgs (goesQ hgo) (fun v s₁ gs' hbare hv => ?_) (fun s₁ hp h' hk => ?_) fun e s₁ he => he.elim))
    · intro hsz
      obtain ⟨b, H', rfl, ho, hg1, hl1, hk, hn⟩ := hv
      refine wpAny_bind (wpAny_holding (wpAny_truthy_bool ?_))
      refine wpAny_bind (wpAny_letGo ?_)
      have hsz1 : g < s₁.gens.size := by
        have q : (s₁.setGen g gs').gens.size = s₁.gens.size := setGen_size _ _ _
        have hsz' : g + 1 ≤ (s₁.setGen g gs').gens.size := hsz
        omega
      cases b with
      | false =>
        simp only [Bool.false_eq_true, if_false]
        refine wpAny_pure ⟨plainId_quiet F.plain_any_loop _, ?_⟩
        refine ih _ hg1 hl1 (allBare_setGen ho.bare hbare) ho.os ⟨gs', setGen_at hsz1, ?_⟩
        exact hk rfl ((s₁.setGen g gs').setGen g .running) rfl rfl (allBare_setGen (s := s₁.setGen g gs') (allBare_setGen ho.bare hbare) rfl)
      | true =>
        simp only [if_true]
        exact wpAny_bind (wpAny_rule (wpAny_pure (hR true _ H' (ho.gens rfl (allBare_setGen ho.bare hbare) fun _ _ e => e) (hn (by decide)))))
    · intro hsz
      obtain ⟨H', ho, q⟩ := hp
      exact wpAny_bind (wpAny_rule (wpAny_pure (hR false _ H' (ho.gens rfl (allBare_setGen ho.bare rfl) hk) q)))
/-- H' is H, or the new generator's code object stands in the table -/
def TabM (P : Addr) (gpos : Pos) (H H' : Hp) : Prop := TabG H P ∧ (H' = H ∨ ∃ (ps : Array Value) (c' : Addr), H P = some (.tbl ps) ∧ codeAmong gpos ps.toList = none ∧ TriplesOk (ps ++ #[rawInt gpos.line, rawInt gpos.col, .ref c']).toList ∧ H' = upd H P (.tbl (ps ++ #[rawInt gpos.line, rawInt gpos.col, .ref c'])))
theorem TabM.tabbed {P : Addr} {gpos : Pos} {H H' : Hp} (h : TabM P gpos H H') : Tabbed P H H' := by
  obtain ⟨t, rfl | ⟨ps, c', h1, h2, h3, rfl⟩⟩ := h
  · exact ⟨t, fun _ _ => rfl⟩
  · exact ⟨⟨_, upd_same, h3⟩, fun b hb => upd_ne hb⟩
def tQuant (P : Addr) (gpos : Pos) (cont : Bool) (wi : TI) (t : TE) : TE := fun σ H Q => wi σ H fun J H1 => TabG H1 P ∧ ∀ H2, TabM P gpos H1 H2 → ∃ W : Nat → Nat → Hp → Prop, (∃ m, W 0 m H2) ∧ Walked J cont Q (fun v H Q => t (some v :: σ) H Q) W
theorem pe_allE {c P : Addr} {p pos : Pos} {wi : TI} {k : Nat} (hr : Room (k + 1) X.A) (hg : Gl X "all") (hm : X.mg "all" = none) (TB : GxR.TabB X.base X.mg c P) (hcode : X.env.code = .ref c) (S : GnS x X.env.scope scope) (hnd : X.N.Nodup) (hrow : x ∉ X.N) (hdot : (".0" : Str) ∉ X.N)
    (hi : PI X (.Name x px) iter wi) (hbody : ∀ (A : Around) (C : Addr) (code : Value) (s : Shared) (H : Hp) (fp : List Addr), Room k A → PE (genCx X x A (gEnv X scope C code) s H fp) elt t) (hs : ∀ v, genFold iter X.env v = pure v)
    (he : starEach [.GeneratorExp elt [⟨.Name x px, iter, [], 0⟩] scope gpos] X.env = (false, eval (.GeneratorExp elt [⟨.Name x px, iter, [], 0⟩] scope gpos) X.env) :: starEach [] X.env := by rfl) :
    PE X (.Call (.Name "all" p) [.GeneratorExp elt [⟨.Name x px, iter, [], 0⟩] scope gpos] [] pos) (tQuant P gpos true wi t) := by
  refine ⟨fun pins s σ H Q I h => ?_⟩
  refine wpAny_Call_Name_kw (ld_blt I hg hm (by decide +kernel : bootBuiltins "all" = some (.builtin "all")) ?_)
  refine PyProof.Rows.callWith_builtin1 ?_ he (by rfl)
  rw [he]
  refine Calls.spliced_cons (wpAny_GeneratorExp_make S.co (closure_ok (S.has I.ok)) S.cell S.dot S.kind (by have := hr.dp; omega) ?_ hs)
  refine thn (hi.run pins s σ H _ I h) fun xv s1 h1 => thn h1 fun itv s2 h2 => ?_
  obtain ⟨it, fp, tn, J, H1, rfl, I2, T, st2, f2, tb, q⟩ := h2
  refine ⟨I2.nolimit, ?_⟩
  have step : wpAny (model X.prog X.w) X.A (genexprCode X.env gpos (X.env.qual ++ "<genexpr>") scope) (fun _ z => ∃ Hz, Inv X pins σ Hz z ∧ tn 0 z.heap ∧ (∀ b ∈ fp, FpOk X pins Hz b ∧ b < z.heap.objs.size) ∧ TabM P gpos H1 Hz) X.xe s2 := by
    have lt : ∀ {h : Heap} {i : Nat}, tn i h → ∀ b ∈ fp, b < h.objs.size := fun {h i} st b hb => by
      obtain ⟨o, e, _⟩ := T.obj _ _ st b hb
      exact Heap.lt_size e
    obtain ⟨ps, hP, ht⟩ := tb
    have eP : s2.heap.get? P = some { cls := .none, data := .fields ps } := I2.hok P _ hP
    have cd : PySem.W.CodeHd s2.heap c P := TB.code.keeps I2.bk
    have neP : ∀ b ∈ fp, b ≠ P := fun b hb e => by
      have := (f2 b hb).1
      rw [e, hP] at this; cases this
    cases hf : codeAmong gpos ps.toList with
    | none =>
      refine wpAny_genexprCodeX hcode (cd.code eP ht) (cd.tab eP) hf fun c' h' tk hx hge hlt hco' _ htab' _ => ?_
      obtain ⟨o1, vs, f1, tf, fl, tg, inF, tx, tt, op, _, _, _, _, _, _, _, _, _, htr, _⟩ := hco'
      have st' : tn 0 h' := T.keep _ _ _ st2 fun b hb o e => hx b o (neP b hb) e
      exact ⟨_, inv_tab (more := #[rawInt gpos.line, rawInt gpos.col, .ref c']) (h' := h') (g' := s2.gens) (d' := s2.drawn) (t' := tk) I2 hP (fun b u hb e => hx b u hb e) htab'.2 I2.bare, st', fun b hb => ⟨⟨by rw [upd_ne (neP b hb)]; exact (f2 b hb).1, (f2 b hb).2⟩, lt st' b hb⟩, ⟨ps, hP, ht⟩, .inr ⟨ps, c', hP, hf, htr, rfl⟩⟩
    | some cv => exact wpAny_genexprCode_hit hcode (cd.code eP ht) hf ⟨H1, I2, st2, fun b hb => ⟨f2 b hb, lt st2 b hb⟩, ⟨ps, hP, ht⟩, .inl rfl⟩
  refine thn step fun code z ⟨Hz, Iz, stz, fz, tz⟩ => ?_
  obtain ⟨W, ⟨m0, w0⟩, turn⟩ := q Hz tz
  obtain ⟨bm, ob, b1, b2, b3, b4, b5, b6, b7, b8⟩ := TB.bm
  refine wpAny_builtinsFor (m := X.mg) (by rw [Iz.ok.glob]; exact Iz.mod.glob.keeps Iz.bk) b1 b2 (Iz.bk _ _ b5) b6 b7 b8 ?_
  intro h' hn' hs'
  refine Calls.spliced_nil ?_
  have hsz : h'.objs.size = z.heap.objs.size + 1 := by rw [hs'.1, Heap.size_push]
  have kp' : ∀ b o, z.heap.get? b = some o → h'.get? b = some o := fun b o e => hs'.extBut b o (Nat.ne_of_lt (Heap.lt_size e)) (Heap.get?_push_of_some _ e)
  generalize hgob : ({ cls := .type "generator", data := .fields #[.int z.gens.size 0, .str "<genexpr>" (z.toks + 1), .str (X.env.qual ++ "<genexpr>") (z.toks + 1 + 1)] } : Obj) = gob
  have hgen : ∀ h : Heap, h.get? h'.objs.size = some gob → h.IsGen h'.objs.size z.gens.size := fun h e => by subst hgob; exact ⟨_, _, _, e, rfl, rfl, rfl⟩
  have hat : (h'.push gob).get? h'.objs.size = some gob := Heap.get?_push_size _ (by subst hgob; rfl)
  have kp : ∀ b o, z.heap.get? b = some o → (h'.push gob).get? b = some o := fun b o e => Heap.get?_push_of_some _ (kp' b o e)
  have hbare : AllBare (z.gens.push (.fresh (.compStart (.GeneratorExp elt [⟨.Name x px, iter, [], 0⟩] scope gpos) 0 (.ref it) .none (gEnv X scope z.heap.objs.size code)))) := Iz.bare.push rfl
  refine call_function_tree F.kind_all F.plain_all F.entry_all (F.args_all1 _) ?_
  unfold Builtin.«all»
  refine wpAny_bind (m := oneArg "all" _) (wpAny_pure ?_)
  refine wpAny_bind (wpAny_pyIter_gen (s := { z with gens := _, toks := _, heap := h'.push gob }) (hgen _ hat) ?_)
  have hroom : Room k (gAr X.A.in1.in1 elt iter x px gpos scope it (gEnv X scope z.heap.objs.size code)) := ⟨hr.hd, by have := hr.dp; show X.A.depth + 0 + 1 + 3 * k + 5 < _; omega, by have := hr.un; show X.A.units + 1 + 1 + 0 + 3 + 16 * k + 200 < _; omega⟩
  have hfr : (gAr X.A.in1.in1 elt iter x px gpos scope it (gEnv X scope z.heap.objs.size code)).frames = some (gEnv X scope z.heap.objs.size code :: X.stack) := by
    have e : X.A.in1.in1.frames = some X.stack := Iz.ok.frames
    simp only [gAr, Around.over]
    rw [e]
    first | rfl | done
  have nlt : z.heap.objs.size ≤ h'.objs.size := by rw [hsz]; exact Nat.le_succ _
  have nne : h'.objs.size ≠ z.heap.objs.size := by rw [hsz]; exact Nat.succ_ne_self _
  have afp : h'.objs.size ∉ fp := fun hm => absurd (Nat.lt_of_lt_of_le (fz _ hm).2 nlt) (Nat.lt_irrefl _)
  refine wpAny_pure ⟨plainId_quiet F.plain_all_loop _, all_loop (X := X) (fp := fp) (z := z) (Hz := Hz) (Q := Q) (a := h'.objs.size) (g := z.gens.size) hr.hd (by have := hr.dp; omega) (fun b s' H' o q => ?_) (m0 + 1) _ (hgen _ hat) (Iz.nolimit.keeps kp) hbare rfl ⟨_, Array.getElem?_push_size .., rfl, ?_⟩⟩
  · refine ⟨.bl b, H', Iz.call' (ch := fp) o.os o.un o.hok o.bare fun b hb => ?_, rfl, q⟩
    obtain ⟨_, f1, f2, f3, f4, f5⟩ := (fz b hb).1
    exact ⟨f3, f1, f4, f5⟩
  · have I0 := gen_start (g₁ := (({ z with gens := z.gens.push (.fresh (.compStart (.GeneratorExp elt [⟨.Name x px, iter, [], 0⟩] scope gpos) 0 (.ref it) .none (gEnv X scope z.heap.objs.size code))), toks := z.toks + 1 + 1 + 1, heap := h'.push gob } : Shared).setGen z.gens.size .running).gens) (tk := z.toks + 1 + 1 + 1) (h₁ := h'.push gob) Iz S hrow hdot (A := gAr X.A.in1.in1 elt iter x px gpos scope it (gEnv X scope z.heap.objs.size code)) hr.hd hfr fz (hn'.push _) kp (allBare_setGen hbare rfl)
    have I1 : Inv (gX X x X.A.in1.in1 elt iter px gpos scope it code z Hz fp) [(h'.objs.size, gob)] (none :: σ) Hz _ := I0.pins_of fun p hp => by
      have hp : p ∈ [(h'.objs.size, gob)] := hp
      rw [List.mem_singleton.mp hp]
      refine ⟨hat, Iz.hok.fresh nlt, nne, fun hm => ?_, fun v => by subst hgob; intro e; cases e⟩
      rcases List.mem_cons.mp (Iz.stkSub _ hm) with e | e
      · exact absurd (Nat.lt_of_le_of_lt nlt (by rw [show h'.objs.size = X.env.locals from e]; exact Iz.lt)) (Nat.lt_irrefl _)
      · exact Iz.nofs nlt e
    have stat : ∀ {H' : Hp}, (∀ b ∈ fp, H' b = none) → ∀ b ∈ fp, FpOk (gX X x X.A.in1.in1 elt iter px gpos scope it code z Hz fp) [(h'.objs.size, gob)] H' b := fun {H'} hn b hb => by
      refine ⟨hn b hb, ?_, fun hm => ?_, .inl hb, I1.ok.exf b hb |>.2, fun p hp => ?_⟩
      · exact (I1.ok.exf b hb).1
      · exact I1.ok.exfs b hb hm
      · have hp : p ∈ [(h'.objs.size, gob)] := hp
        rw [List.mem_singleton.mp hp]
        exact fun e => afp (by have e : h'.objs.size = b := e; rw [e]; exact hb)
    exact seg_begin (σ := σ) T (T.keep _ _ _ stz fun b _ o e => kp b o e) _ _ _ (seg_turns S hnd hrow afp hgen T (hbody _ _ _ _ _ _ hroom) turn stat (m0 + 1) 0 m0 none Hz _ _ (Nat.lt_succ_self _) I1 (T.keep _ _ _ stz fun b _ o e => kp b o e) (fun b hb => (fz b hb).1.1) w0)
theorem pe_anyE {c P : Addr} {p pos : Pos} {wi : TI} {k : Nat} (hr : Room (k + 1) X.A) (hg : Gl X "any") (hm : X.mg "any" = none) (TB : GxR.TabB X.base X.mg c P) (hcode : X.env.code = .ref c) (S : GnS x X.env.scope scope) (hnd : X.N.Nodup) (hrow : x ∉ X.N) (hdot : (".0" : Str) ∉ X.N)
    (hi : PI X (.Name x px) iter wi) (hbody : ∀ (A : Around) (C : Addr) (code : Value) (s : Shared) (H : Hp) (fp : List Addr), Room k A → PE (genCx X x A (gEnv X scope C code) s H fp) elt t) (hs : ∀ v, genFold iter X.env v = pure v)
    (he : starEach [.GeneratorExp elt [⟨.Name x px, iter, [], 0⟩] scope gpos] X.env = (false, eval (.GeneratorExp elt [⟨.Name x px, iter, [], 0⟩] scope gpos) X.env) :: starEach [] X.env := by rfl) :
    PE X (.Call (.Name "any" p) [.GeneratorExp elt [⟨.Name x px, iter, [], 0⟩] scope gpos] [] pos) (tQuant P gpos false wi t) := by
  refine ⟨fun pins s σ H Q I h => ?_⟩
  refine wpAny_Call_Name_kw (ld_blt I hg hm (by decide +kernel : bootBuiltins "any" = some (.builtin "any")) ?_)
  refine PyProof.Rows.callWith_builtin1 ?_ he (by rfl)
  rw [he]
  refine Calls.spliced_cons (wpAny_GeneratorExp_make S.co (closure_ok (S.has I.ok)) S.cell S.dot S.kind (by have := hr.dp; omega) ?_ hs)
  refine thn (hi.run pins s σ H _ I h) fun xv s1 h1 => thn h1 fun itv s2 h2 => ?_
  obtain ⟨it, fp, tn, J, H1, rfl, I2, T, st2, f2, tb, q⟩ := h2
  refine ⟨I2.nolimit, ?_⟩
  have step : wpAny (model X.prog X.w) X.A (genexprCode X.env gpos (X.env.qual ++ "<genexpr>") scope) (fun _ z => ∃ Hz, Inv X pins σ Hz z ∧ tn 0 z.heap ∧ (∀ b ∈ fp, FpOk X pins Hz b ∧ b < z.heap.objs.size) ∧ TabM P gpos H1 Hz) X.xe s2 := by
    have lt : ∀ {h : Heap} {i : Nat}, tn i h → ∀ b ∈ fp, b < h.objs.size := fun {h i} st b hb => by
      obtain ⟨o, e, _⟩ := T.obj _ _ st b hb
      exact Heap.lt_size e
    obtain ⟨ps, hP, ht⟩ := tb
    have eP : s2.heap.get? P = some { cls := .none, data := .fields ps } := I2.hok P _ hP
    have cd : PySem.W.CodeHd s2.heap c P := TB.code.keeps I2.bk
    have neP : ∀ b ∈ fp, b ≠ P := fun b hb e => by
      have := (f2 b hb).1
      rw [e, hP] at this; cases this
    cases hf : codeAmong gpos ps.toList with
    | none =>
      refine wpAny_genexprCodeX hcode (cd.code eP ht) (cd.tab eP) hf fun c' h' tk hx hge hlt hco' _ htab' _ => ?_
      obtain ⟨o1, vs, f1, tf, fl, tg, inF, tx, tt, op, _, _, _, _, _, _, _, _, _, htr, _⟩ := hco'
      have st' : tn 0 h' := T.keep _ _ _ st2 fun b hb o e => hx b o (neP b hb) e
      exact ⟨_, inv_tab (more := #[rawInt gpos.line, rawInt gpos.col, .ref c']) (h' := h') (g' := s2.gens) (d' := s2.drawn) (t' := tk) I2 hP (fun b u hb e => hx b u hb e) htab'.2 I2.bare, st', fun b hb => ⟨⟨by rw [upd_ne (neP b hb)]; exact (f2 b hb).1, (f2 b hb).2⟩, lt st' b hb⟩, ⟨ps, hP, ht⟩, .inr ⟨ps, c', hP, hf, htr, rfl⟩⟩
    | some cv => exact wpAny_genexprCode_hit hcode (cd.code eP ht) hf ⟨H1, I2, st2, fun b hb => ⟨f2 b hb, lt st2 b hb⟩, ⟨ps, hP, ht⟩, .inl rfl⟩
  refine thn step fun code z ⟨Hz, Iz, stz, fz, tz⟩ => ?_
  obtain ⟨W, ⟨m0, w0⟩, turn⟩ := q Hz tz
  obtain ⟨bm, ob, b1, b2, b3, b4, b5, b6, b7, b8⟩ := TB.bm
  refine wpAny_builtinsFor (m := X.mg) (by rw [Iz.ok.glob]; exact Iz.mod.glob.keeps Iz.bk) b1 b2 (Iz.bk _ _ b5) b6 b7 b8 ?_
  intro h' hn' hs'
  refine Calls.spliced_nil ?_
  have hsz : h'.objs.size = z.heap.objs.size + 1 := by rw [hs'.1, Heap.size_push]
  have kp' : ∀ b o, z.heap.get? b = some o → h'.get? b = some o := fun b o e => hs'.extBut b o (Nat.ne_of_lt (Heap.lt_size e)) (Heap.get?_push_of_some _ e)
  generalize hgob : ({ cls := .type "generator", data := .fields #[.int z.gens.size 0, .str "<genexpr>" (z.toks + 1), .str (X.env.qual ++ "<genexpr>") (z.toks + 1 + 1)] } : Obj) = gob
  have hgen : ∀ h : Heap, h.get? h'.objs.size = some gob → h.IsGen h'.objs.size z.gens.size := fun h e => by subst hgob; exact ⟨_, _, _, e, rfl, rfl, rfl⟩
  have hat : (h'.push gob).get? h'.objs.size = some gob := Heap.get?_push_size _ (by subst hgob; rfl)
  have kp : ∀ b o, z.heap.get? b = some o → (h'.push gob).get? b = some o := fun b o e => Heap.get?_push_of_some _ (kp' b o e)
  have hbare : AllBare (z.gens.push (.fresh (.compStart (.GeneratorExp elt [⟨.Name x px, iter, [], 0⟩] scope gpos) 0 (.ref it) .none (gEnv X scope z.heap.objs.size code)))) := Iz.bare.push rfl
  refine call_function_tree F.kind_any F.plain_any F.entry_any (F.args_any1 _) ?_
  unfold Builtin.«any»
  refine wpAny_bind (m := oneArg "any" _) (wpAny_pure ?_)
  refine wpAny_bind (wpAny_pyIter_gen (s := { z with gens := _, toks := _, heap := h'.push gob }) (hgen _ hat) ?_)
  have hroom : Room k (gAr X.A.in1.in1 elt iter x px gpos scope it (gEnv X scope z.heap.objs.size code)) := ⟨hr.hd, by have := hr.dp; show X.A.depth + 0 + 1 + 3 * k + 5 < _; omega, by have := hr.un; show X.A.units + 1 + 1 + 0 + 3 + 16 * k + 200 < _; omega⟩
  have hfr : (gAr X.A.in1.in1 elt iter x px gpos scope it (gEnv X scope z.heap.objs.size code)).frames = some (gEnv X scope z.heap.objs.size code :: X.stack) := by
    have e : X.A.in1.in1.frames = some X.stack := Iz.ok.frames
    simp only [gAr, Around.over]
    rw [e]
    first | rfl | done
  have nlt : z.heap.objs.size ≤ h'.objs.size := by rw [hsz]; exact Nat.le_succ _
  have nne : h'.objs.size ≠ z.heap.objs.size := by rw [hsz]; exact Nat.succ_ne_self _
  have afp : h'.objs.size ∉ fp := fun hm => absurd (Nat.lt_of_lt_of_le (fz _ hm).2 nlt) (Nat.lt_irrefl _)
  refine wpAny_pure ⟨plainId_quiet F.plain_any_loop _, any_loop (X := X) (fp := fp) (z := z) (Hz := Hz) (Q := Q) (a := h'.objs.size) (g := z.gens.size) hr.hd (by have := hr.dp; omega) (fun b s' H' o q => ?_) (m0 + 1) _ (hgen _ hat) (Iz.nolimit.keeps kp) hbare rfl ⟨_, Array.getElem?_push_size .., rfl, ?_⟩⟩
  · refine ⟨.bl b, H', Iz.call' (ch := fp) o.os o.un o.hok o.bare fun b hb => ?_, rfl, q⟩
    obtain ⟨_, f1, f2, f3, f4, f5⟩ := (fz b hb).1
    exact ⟨f3, f1, f4, f5⟩
  · have I0 := gen_start (g₁ := (({ z with gens := z.gens.push (.fresh (.compStart (.GeneratorExp elt [⟨.Name x px, iter, [], 0⟩] scope gpos) 0 (.ref it) .none (gEnv X scope z.heap.objs.size code))), toks := z.toks + 1 + 1 + 1, heap := h'.push gob } : Shared).setGen z.gens.size .running).gens) (tk := z.toks + 1 + 1 + 1) (h₁ := h'.push gob) Iz S hrow hdot (A := gAr X.A.in1.in1 elt iter x px gpos scope it (gEnv X scope z.heap.objs.size code)) hr.hd hfr fz (hn'.push _) kp (allBare_setGen hbare rfl)
    have I1 : Inv (gX X x X.A.in1.in1 elt iter px gpos scope it code z Hz fp) [(h'.objs.size, gob)] (none :: σ) Hz _ := I0.pins_of fun p hp => by
      have hp : p ∈ [(h'.objs.size, gob)] := hp
      rw [List.mem_singleton.mp hp]
      refine ⟨hat, Iz.hok.fresh nlt, nne, fun hm => ?_, fun v => by subst hgob; intro e; cases e⟩
      rcases List.mem_cons.mp (Iz.stkSub _ hm) with e | e
      · exact absurd (Nat.lt_of_le_of_lt nlt (by rw [show h'.objs.size = X.env.locals from e]; exact Iz.lt)) (Nat.lt_irrefl _)
      · exact Iz.nofs nlt e
    have stat : ∀ {H' : Hp}, (∀ b ∈ fp, H' b = none) → ∀ b ∈ fp, FpOk (gX X x X.A.in1.in1 elt iter px gpos scope it code z Hz fp) [(h'.objs.size, gob)] H' b := fun {H'} hn b hb => by
      refine ⟨hn b hb, ?_, fun hm => ?_, .inl hb, I1.ok.exf b hb |>.2, fun p hp => ?_⟩
      · exact (I1.ok.exf b hb).1
      · exact I1.ok.exfs b hb hm
      · have hp : p ∈ [(h'.objs.size, gob)] := hp
        rw [List.mem_singleton.mp hp]
        exact fun e => afp (by have e : h'.objs.size = b := e; rw [e]; exact hb)
    exact seg_begin (σ := σ) T (T.keep _ _ _ stz fun b _ o e => kp b o e) _ _ _ (seg_turns S hnd hrow afp hgen T (hbody _ _ _ _ _ _ hroom) turn stat (m0 + 1) 0 m0 none Hz _ _ (Nat.lt_succ_self _) I1 (T.keep _ _ _ stz fun b _ o e => kp b o e) (fun b hb => (fz b hb).1.1) w0)
end
end
/-- over a list that the elements leave as it is -/
theorem walk_list {K : PySem.W.Frag} {a : Addr} {xs : List V} {cont : Bool} {Q : VK} {tb : V → Hp → VK → Prop} (Pv : Nat → Hp → Prop) {H0 : Hp} (h0 : Pv 0 H0) (hl : ∀ i H, i ≤ xs.length → Pv i H → SqL K H a xs)
    (hs : ∀ i x H (N : Hp → Prop), (∀ H'', Pv (i + 1) H'' → N H'') → xs[i]? = some x → Pv i H → tb x H fun v H'' => ∃ b, v = .bl b ∧ (b = cont → N H'') ∧ (b ≠ cont → Q (.bl b) H'')) (hd : ∀ H, Pv xs.length H → Q (.bl cont) H) :
    ∃ W : Nat → Nat → Hp → Prop, (∃ m, W 0 m H0) ∧ Walked (Itl K a) cont Q tb W := by
  refine ⟨fun i m H => m = xs.length - i ∧ i ≤ xs.length ∧ Pv i H, ⟨xs.length, by simp, Nat.zero_le _, h0⟩, ?_⟩
  rintro i m H ⟨rfl, hi, p⟩
  have q := hl i H hi p
  by_cases e : i = xs.length
  · exact .inl ⟨⟨xs, q, by omega⟩, hd H (by rw [← e]; exact p)⟩
  · have hi' : i < xs.length := by omega
    refine .inr ⟨⟨xs, xs[i], q, List.getElem?_eq_getElem hi'⟩, fun x H' ⟨e1, e2⟩ => ?_⟩
    subst e1
    exact hs i x H' _ (fun H'' h => ⟨_, by omega, rfl, hi', h⟩) (e2 xs q) p
theorem walk_tup {K : PySem.W.Frag} {a : Addr} {xs : List V} {cont : Bool} {Q : VK} {tb : V → Hp → VK → Prop} (Pv : Nat → Hp → Prop) {H0 : Hp} (h0 : Pv 0 H0) (hl : ∀ i H, i ≤ xs.length → Pv i H → SqT K H a xs)
    (hs : ∀ i x H (N : Hp → Prop), (∀ H'', Pv (i + 1) H'' → N H'') → xs[i]? = some x → Pv i H → tb x H fun v H'' => ∃ b, v = .bl b ∧ (b = cont → N H'') ∧ (b ≠ cont → Q (.bl b) H'')) (hd : ∀ H, Pv xs.length H → Q (.bl cont) H) :
    ∃ W : Nat → Nat → Hp → Prop, (∃ m, W 0 m H0) ∧ Walked (Itt K a) cont Q tb W := by
  refine ⟨fun i m H => m = xs.length - i ∧ i ≤ xs.length ∧ Pv i H, ⟨xs.length, by simp, Nat.zero_le _, h0⟩, ?_⟩
  rintro i m H ⟨rfl, hi, p⟩
  have q := hl i H hi p
  by_cases e : i = xs.length
  · exact .inl ⟨⟨xs, q, by omega⟩, hd H (by rw [← e]; exact p)⟩
  · have hi' : i < xs.length := by omega
    refine .inr ⟨⟨xs, xs[i], q, List.getElem?_eq_getElem hi'⟩, fun x H' ⟨e1, e2⟩ => ?_⟩
    subst e1
    exact hs i x H' _ (fun H'' h => ⟨_, by omega, rfl, hi', h⟩) (e2 xs q) p
end GenE

set_option Elab.async false
set_option linter.all false
set_option maxRecDepth 100000
set_option maxHeartbeats 4000000
/-! all(test for x in list of ints), where the test reads a name of the def that walks. -/
namespace MyG
open PySem PySem.Spec PyProof.Rows L2 GxR
/-- what the element's evaluation may lean on: what stood when the walk began, but the table; the scope's cells -/
def EltN (prog : Program) (w : World) (h0 : Heap) (P : Addr) (cl : List (Str × Addr)) (scope : Scope) (x : Str) (elt : Expr) (pb : Int → Bool) : Prop :=
  ∀ (ce : Env) (B : Around) (F : Value → Shared → Prop) (n : Int) (t : Tok) (z : Shared) (m : Str → Option Value),
    ce.scope = scope → ce.cells = cl → B.handled = none → (∀ b o, b ≠ P → h0.get? b = some o → z.heap.get? b = some o) →
    z.heap.Ns ce.locals m → m x = some (.int n t) → wpAny (model prog w) B (eval elt ce) (fun y z' => y = .bool (pb n) ∧ Keeps z z') F z
def trN (pb : Int → Bool) (l : List Int) (j : Nat) : Bool := match l[j]? with
  | some b => pb b
  | none => false
theorem trN_some {pb : Int → Bool} {l : List Int} {j : Nat} {b : Int} (h : l[j]? = some b) : trN pb l j = pb b := by
  unfold trN
  rw [h]
theorem all_trN (l : List Int) (pb : Int → Bool) : (List.range l.length).all (trN pb l) = l.all pb := by
  rw [Bool.eq_iff_iff, List.all_eq_true, List.all_eq_true]
  constructor
  · intro h b hb
    obtain ⟨j, hj, e⟩ := List.getElem_of_mem hb
    have q := h j (List.mem_range.mpr hj)
    rw [trN_some (List.getElem?_eq_getElem hj), e] at q
    exact q
  · intro h j hj
    have hj' := List.mem_range.mp hj
    rw [trN_some (List.getElem?_eq_getElem hj')]
    exact h _ (List.getElem_mem hj')
section
variable {X : Cx} {pins : List (Addr × Obj)} {σ : L2.St} {H : Hp} {s : Shared}
def ReadyN (X : Cx) (pins : List (Addr × Obj)) (σ : L2.St) (H1 : Hp) (P : Addr) (ns : List Int) (pb : Int → Bool) (g : Addr) (z : Shared) : Prop :=
  ∃ (fp wr : List Addr) (G : Array GenState → Array GenState → Prop) (F : Nat → Value → Prop) (St : Nat → Shared → Prop),
    WalksS X.prog X.w X.A.in1 g fp wr G ns.length F St ∧ St 0 z ∧ TruthOf X.prog X.w X.A.in1 F (trN pb ns) ∧ ∀ s', Moved wr G z s' → ∃ H2, Tabbed P H1 H2 ∧ Inv X pins σ H2 s'
theorem genN {c P : Addr} {elt iter : Expr} {x : Str} {px gpos : Pos} {scope : Scope} {te : TE} {k : Nat} {Q' : Value → Shared → Prop} {R : List Int → (Int → Bool) → Hp → Prop}
    (hr : Room k X.A) (TB : TabB X.base X.mg c P) (hcode : X.env.code = .ref c) (S : GenS X.env scope x) (hi : PE X iter te)
    (hel : ∀ ns pb H1 s1, Inv X pins σ H1 s1 → TabG H1 P → R ns pb H1 → EltN X.prog X.w s1.heap P (cloFrom X.env.cells scope.names []) scope x elt pb)
    (hs : ∀ v, genFold iter X.env v = pure v) (I : Inv X pins σ H s) (h : te σ H fun v H1 => ∃ (yl : Addr) (ns : List Int) (pb : Int → Bool), v = .ref yl ∧ SqL X.K H1 yl (ns.map V.int) ∧ TabG H1 P ∧ R ns pb H1)
    (hQ : ∀ ns pb H1 g z, R ns pb H1 → ReadyN X pins σ H1 P ns pb g z → Q' (.ref g) z) :
    wpAny (model X.prog X.w) X.A (eval (.GeneratorExp elt [⟨.Name x px, iter, [], 0⟩] scope gpos) X.env) Q' X.xe s := by
  refine wpAny_GeneratorExp_walksQ hr.hd S.co (closure_ok S.free) S.cell S.dot S.loc S.kind (by have := hr.dp; omega) ?_ hs
  refine thn (hi.run pins s σ H _ I h) fun xv s1 ⟨v, H1, I1, r1, q1⟩ => ?_
  obtain ⟨yl, ns, pb, rfl, hyl, tb, q1⟩ := q1
  have hel := hel ns pb H1 s1 I1 tb q1
  obtain ⟨ps, hP, ht⟩ := tb
  obtain rfl : xv = Value.ref yl := r1
  obtain ⟨its, rv, hl, hz⟩ := I1.list hyl
  have hIL := hl.isList
  have hlen : its.length = ns.length := by rw [← rv.length, List.length_map]
  have hat : ∀ (i : Nat) (v : Value), its.toArray[i]? = some v → ∃ (a : Int) (u : Tok), ns[i]? = some a ∧ v = .int a u := fun i v hv => by
    have hv2 : its[i]? = some v := by simpa using hv
    have hi2 : i < its.length := (List.getElem?_eq_some_iff.mp hv2).1
    obtain ⟨a, ha⟩ : ∃ a, ns[i]? = some a := ⟨ns[i]'(by omega), List.getElem?_eq_getElem _⟩
    have hb : (ns.map V.int)[i]? = some (V.int a) := by rw [List.getElem?_map, ha] <;> rfl
    obtain ⟨u, hu, ru⟩ := rv.get hb
    rw [hv2] at hu
    cases hu
    obtain ⟨t, e⟩ := (show ∃ t, v = Value.int a t from ru)
    exact ⟨a, t, ha, e⟩
  refine wpAny_pyIter_list hIL ?_
  generalize ho : ({ cls := .type "list_iterator", data := .fields #[.ref yl, .int 0 0] } : Obj) = o
  have hitr : (s1.heap.push o).IsListIter s1.heap.objs.size yl 0 := by
    subst ho
    exact ⟨_, Heap.get?_push_size _ rfl, rfl, rfl⟩
  have hylt : yl < s1.heap.objs.size := by
    obtain ⟨_, e, _⟩ := _root_.id hIL
    exact Heap.lt_size e
  have eP : s1.heap.get? P = some { cls := .none, data := .fields ps } := I1.hok P _ hP
  have ltP : P < s1.heap.objs.size := Heap.lt_size eP
  have eP2 := Heap.get?_push_of_some o eP
  have cd : PySem.W.CodeHd (s1.heap.push o) c P := TB.code.keeps fun b u e => Heap.get?_push_of_some _ (I1.bk b u e)
  have lim := I1.nolimit.push o
  have szp : (s1.heap.push o).objs.size = s1.heap.objs.size + 1 := Heap.size_push ..
  have stP : cStatics ≠ P := fun e => by
    obtain ⟨_, ⟨o', es, ep, ho, hd, _⟩, _⟩ := I1.nolimit
    rw [e, eP] at ho
    cases ho
    cases hd
  have stlt : cStatics < s1.heap.objs.size := let ⟨_, hns, _⟩ := I1.nolimit; hns.lt
  have hylP : yl ≠ P := fun z => by
    obtain ⟨_, e, hc1, _, hd1⟩ := _root_.id hIL
    rw [z, eP] at e
    cases e
    cases hd1
  have go : ∀ (code : Value) (h3 : Heap) (tk : Nat) (more : Array Value), Heap.ExtBut P (s1.heap.push o) h3 → (s1.heap.push o).objs.size ≤ h3.objs.size → h3.get? P = some { cls := .none, data := .fields (ps ++ more) } → TriplesOk (ps ++ more).toList →
      wpAny (model X.prog X.w) X.A (builtinsFor X.env.globals X.env.builtins) (fun bi s₄ =>
        ∃ Ia fp wr n₀ Pf St₀ pz F, Value.ref s1.heap.objs.size = .ref Ia ∧ (∀ A' : Around, A'.handled = none → Walks X.prog X.w A' Ia fp wr n₀ Pf St₀) ∧ St₀ 0 s₄.heap ∧ (∀ b ∈ fp, b < s₄.heap.objs.size) ∧ s₄.heap.NoLimit ∧ cStatics ∉ wr ∧
          (∀ href : Heap, (∀ b o, s₄.heap.get? b = some o → href.get? b = some o) →
            QuietGen X.prog X.w (genEnv scope (cloFrom X.env.cells scope.names []) s₄.heap.objs.size code bi X.env) x [] elt (List.range s₄.heap.objs.size) wr Pf pz F href) ∧
          (∀ a h₅ tk gs, gs.bare = true → s₄.heap.objs.size < a → h₅.objs.size = a + 1 → (∀ b o, s₄.heap.get? b = some o → h₅.get? b = some o) →
            WalksS X.prog X.w X.A.in4 a (a :: s₄.heap.objs.size :: List.range s₄.heap.objs.size) (s₄.heap.objs.size :: wr) (GenOnlyQ s₄.gens.size) (passing pz n₀ 0).length
              (fun j y => ∃ i, (passing pz n₀ 0)[j]? = some i ∧ F i y) (GenAt X.prog X.w X.A.in4 a s₄.gens.size s₄.heap.objs.size (List.range s₄.heap.objs.size) wr pz n₀ F) →
            GenAt X.prog X.w X.A.in4 a s₄.gens.size s₄.heap.objs.size (List.range s₄.heap.objs.size) wr pz n₀ F 0 { s₄ with gens := s₄.gens.push gs, toks := tk, heap := h₅ } →
            Q' (.ref a) { s₄ with gens := s₄.gens.push gs, toks := tk, heap := h₅ })) X.xe { s1 with heap := h3, toks := tk } := by
    intro code h3 tk more hx hsz e3 ht3
    obtain ⟨bm, ob, b1, b2, b3, b4, b5, b6, b7, b8⟩ := TB.bm
    have old : ∀ b u, b ≠ P → s1.heap.get? b = some u → h3.get? b = some u := fun b u hb e => hx b u hb (Heap.get?_push_of_some _ e)
    refine wpAny_builtinsFor (m := X.mg) (by rw [I1.ok.glob]; exact ((I1.mod.glob.keeps I1.bk).push o).extBut hx TB.gP) b1 b2 (old _ _ b4 (I1.bk _ _ b5)) b6 b7 b8 ?_
    have hIL3 : h3.IsList yl its.toArray := by
      obtain ⟨ob, e, r⟩ := _root_.id hIL
      exact ⟨ob, old _ _ hylP e, r⟩
    have hItr3 : h3.IsListIter s1.heap.objs.size yl 0 := hitr.at fun u e => hx _ u (Nat.ne_of_gt ltP) e
    refine ⟨s1.heap.objs.size, [s1.heap.objs.size, yl], [s1.heap.objs.size], its.toArray.size, (fun i v => its.toArray[i]? = some v), (fun i h => h.IsListIter s1.heap.objs.size yl i ∧ h.IsList yl its.toArray), (fun _ => true),
      (fun i y => ∃ a : Int, ns[i]? = some a ∧ y = .bool (pb a)), rfl, (fun A' hA => Walks.list hA _ _ (Nat.ne_of_lt hylt) _), ⟨hItr3, hIL3⟩, ?_, lim.extBut hx stP, ?_, ?_, ?_⟩
    · intro b hb
      rcases List.mem_cons.mp hb with z | z
      · rw [z]
        exact Nat.lt_of_lt_of_le (by rw [szp]; exact Nat.lt_succ_self _) hsz
      · rw [List.mem_singleton.mp z]
        exact Nat.lt_of_lt_of_le (Nat.lt_of_lt_of_le hylt (by rw [szp]; exact Nat.le_succ _)) hsz
    · intro z
      exact Nat.ne_of_lt stlt (List.mem_singleton.mp z)
    · intro href hk
      constructor
      · intro A' E' i v s₂ m₂ hA hPv hn hm hk2
        simp only [List.forIn_nil]
        exact wpAny_pure ⟨rfl, keeps_refl _⟩
      · intro A' E' i v s₂ m₂ hA hPv hp hn hm hk2
        obtain ⟨a, u, ha, rfl⟩ := hat i v hPv
        refine wpAny_mono (hel _ A' E' a u s₂ m₂ rfl rfl hA (fun b w' hb e1 => ?_) hn hm) (fun y s3 r => ⟨⟨a, ha, r.1⟩, r.2⟩) fun _ _ e => e
        have e2 := old b w' hb e1
        have l1 : b < s1.heap.objs.size := Heap.lt_size e1
        refine hk2 b (List.mem_range.mpr (Heap.lt_size e2)) (fun z => ?_) w' (hk b w' e2)
        exact Nat.ne_of_lt l1 (List.mem_singleton.mp z)
    · intro g h5 tk5 gs hgb hag hsz5 hk5 W5 hgat
      simp only [GxR.passing_true, List.length_range] at W5
      have hn5 : its.toArray.size = ns.length := by rw [List.size_toArray, hlen]
      rw [hn5] at W5 hgat
      refine hQ ns pb H1 g _ q1 ⟨_, _, _, _, _, W5.in4_1, hgat, ?_, fun s' hm => ?_⟩
      · intro j y sj Qj Ej hy hQj
        obtain ⟨i, hij, a, ha, rfl⟩ := hy
        obtain ⟨hj, ej⟩ := List.getElem?_eq_some_iff.mp hij
        rw [List.getElem_range] at ej
        subst ej
        have hQ2 : Qj (trN pb ns j) sj := hQj
        rw [trN_some ha] at hQ2
        exact wpAny_truthy_bool hQ2
      · have nwr : ∀ b u, s1.heap.get? b = some u → b ∉ h3.objs.size :: [s1.heap.objs.size] := fun b u e hb => by
          have hl := Heap.lt_size e
          rcases List.mem_cons.mp hb with z | z
          · exact Nat.ne_of_lt (Nat.lt_of_lt_of_le (Nat.lt_trans hl (Nat.lt_succ_self _)) (Nat.le_trans (Nat.le_of_eq szp.symm) hsz)) z
          · exact Nat.ne_of_lt hl (List.mem_singleton.mp z)
        have J := inv_tab (more := more) (h' := s'.heap) (g' := s'.gens) (d' := s'.drawn) (t' := s'.toks) I1 hP (fun b u hb e => hm.heap b u (nwr b u e) (hk5 b u (old b u hb e)))
          (hm.heap P _ (nwr P _ eP) (hk5 P _ e3)) (AllBare.movedS (I1.bare.push hgb) hm)
        rw [sh_eta s1 s' hm.os] at J
        exact ⟨upd H1 P (.tbl (ps ++ more)), ⟨⟨ps ++ more, upd_same, ht3⟩, fun b hb => upd_ne hb⟩, J⟩
  refine ⟨lim, ?_⟩
  cases hf : codeAmong gpos ps.toList with
  | none =>
    refine wpAny_genexprCodeX hcode (cd.code eP2 ht) (cd.tab eP2) hf fun c' h' tk hx hge hlt hco' _ htab' _ => ?_
    obtain ⟨o1, vs, f1, tf, fl, tg, inF, tx, tt, op, _, _, _, _, _, _, _, _, _, htr, _⟩ := hco'
    exact go _ h' tk _ hx (Nat.le_trans hge (Nat.le_of_lt hlt)) htab'.2 htr
  | some cv =>
    refine wpAny_genexprCode_hit hcode (cd.code eP2 ht) hf ?_
    refine go cv (s1.heap.push o) s1.toks #[] (Heap.ExtBut.refl _ _) (Nat.le_refl _) ?_ ?_
    · rw [Array.append_empty]; exact eP2
    · rw [Array.append_empty]; exact ht

theorem clo_last {x y : Str} {names : List (Str × NameKind)} (hnm : names = [((".0" : Str), NameKind.local), (x, NameKind.local), (y, NameKind.free)]) (cells : List (Str × Addr)) (c : Addr) (h : cells.lookup y = some c) : (cloFrom cells names []).lookup y = some c := by
  subst hnm
  show List.lookup y [(y, (cells.lookup y).getD 0)] = some c
  rw [h]
  simp
theorem free_one {x : Str} {names : List (Str × NameKind)} {cells : List (Str × Addr)} (h : names.all (fun y => y.2 != .free || y.1 == x) = true) (hc : ∃ c, cells.lookup x = some c) : ∀ y ∈ names, y.2 = .free → ∃ c, cells.lookup y.1 = some c := fun y hy e => by
  have q := List.all_eq_true.mp h y hy
  rw [e] at q
  have q2 : (y.1 == x) = true := by simpa using q
  rw [beq_iff_eq.mp q2]
  exact hc
/-- all(x >= y.f for x in te), y a name of the def (its slot i), te a list of ints -/
def tAllGe (K : PySem.W.Frag) (P : Addr) (i : Nat) (f : Str) (te : TE) : TE := fun σ H Q => te σ H fun v H1 => ∃ (yl : Addr) (ns : List Int) (y C dx : Addr) (fs : List (Str × V)) (a : Int), v = .ref yl ∧ SqL K H1 yl (ns.map V.int) ∧ TabG H1 P ∧
  σ[i]? = some (some (.ref y)) ∧ H1 y = some (.ins C dx fs) ∧ Cls K C ∧ NoAttr K C f ∧ fs.lookup f = some (.int a) ∧ ∀ H2, Tabbed P H1 H2 → Q (.bl (ns.all fun n => decide (a ≤ n))) H2
theorem elt_ge {x y f : Str} {i : Nat} {scope : Scope} {p1 p2 p3 p4 : Pos} {H1 : Hp} {s1 : Shared} {c P a dx C : Addr} {fs : List (Str × V)} {n0 : Int} (I : Inv X pins σ H1 s1) (hkf : scope.kind = .function) (hlx : scope.names.lookup x = some .local) (hly : scope.names.lookup y = some .free)
    (hcl : ∀ (cells : List (Str × Addr)) c, cells.lookup y = some c → (cloFrom cells scope.names []).lookup y = some c) (hN : X.N[i]? = some y) (hv : X.env.scope.names.lookup y = some .cell) (tb : TabG H1 P)
    (hσ : σ[i]? = some (some (.ref a))) (hy : H1 a = some (.ins C dx fs)) (cl : Cls X.K C) (na : NoAttr X.K C f) (hf : fs.lookup f = some (.int n0))
    (hb : ∀ env, attributeBase (.Name y p2) f env (eval (.Name y p2) env) = eval (.Name y p2) env) (hd : (x == ("__debug__" : Str)) = false := by decide) (hdy : (y == ("__debug__" : Str)) = false := by decide) (hcd : (y == ("__classdict__" : Str)) = false := by decide) :
    EltN X.prog X.w s1.heap P (cloFrom X.env.cells scope.names []) scope x (.Compare (.Name x p1) [.GtE] [.Attribute (.Name y p2) f p3] p4) (fun n => decide (n0 ≤ n)) := by
  obtain ⟨m1, hn1, hl1⟩ := I.loc
  obtain ⟨u, ru, lk⟩ := hl1 i y _ hN hσ (.inr (.inl hv))
  obtain rfl : u = Value.ref a := ru
  obtain ⟨ps, hP, _⟩ := tb
  intro ce B F n t z m hs hc hh hk hn hm
  obtain ⟨cy, hcy, hcell⟩ : ∃ c, X.env.cells.lookup y = some c ∧ s1.heap.IsCell c (some (.ref a)) := by
    rcases lk with ⟨e, _⟩ | ⟨_, q⟩
    · have e' : X.env.scope.names.lookup y = some .local := e
      rw [hv] at e'
      cases e'
    · exact q
  have ncP : cy ≠ P := fun e => by
    have := I.freeC y cy hcy
    rw [e, hP] at this
    cases this
  have hcell2 : z.heap.IsCell cy (some (.ref a)) := by
    obtain ⟨o, ho, hd'⟩ := hcell
    exact ⟨o, hk cy o ncP ho, hd'⟩
  obtain ⟨mA, O, r, wi, _, ho⟩ := ins_get I.hok hy
  have naP : a ≠ P := fun e => by
    rw [e, hP] at hy
    cases hy
  have ndP : dx ≠ P := fun e => by
    rw [e, hP] at ho
    cases ho
  have O2 : ObjM z.heap a dx C mA := by
    obtain ⟨o1, ⟨od, es, ep, e2, c2⟩, ne⟩ := O
    exact ⟨hk a _ naP o1, ⟨od, es, ep, hk dx _ ndP e2, c2⟩, ne⟩
  obtain ⟨v, hvf, rvf⟩ := RelO.some_of (v := V.int n0) (o := mA f) (by rw [← hf]; exact r f)
  have KI : X.K.In z.heap := I.mod.kin.keeps fun b o e => hk b o (fun q => by
    have := (I.bs b o e).2
    rw [q, hP] at this
    cases this) (I.bk b o e)
  refine wpAny_Compare1 ?_
  refine wpAny_Name (wpAny_loadName_local (by rw [hs]; exact hkf) (show ce.scope.names.lookup x = some .local by rw [hs]; exact hlx) hn hm ?_) hd
  refine attr_of (hb ce) ?_
  refine wpAny_Name (wpAny_loadName_free (by rw [hs]; exact hkf) (show ce.scope.names.lookup y = some .free by rw [hs]; exact hly) (by rw [hc]; exact hcl _ _ hcy) hcell2 ?_ hcd) hdy
  refine get_map KI O2 (cl.get f) cl.hd na hvf (handed_of rvf) ?_
  obtain ⟨t0, rfl⟩ := (show ∃ t, v = Value.int n0 t from rvf)
  exact ge_int ⟨rfl, keeps_tok _ _⟩
theorem pe_allGe {c P : Addr} {iter : Expr} {x y f : Str} {i : Nat} {px p p1 p2 p3 p4 pos gpos : Pos} {scope : Scope} {te : TE} {k : Nat}
    (hr : Room k X.A) (hg : Gl X "all") (hm : X.mg "all" = none) (TB : TabB X.base X.mg c P) (hcode : X.env.code = .ref c) (S : GenS X.env scope x) (hi : PE X iter te) (hkf : scope.kind = .function) (hlx : scope.names.lookup x = some .local) (hly : scope.names.lookup y = some .free)
    (hcl : ∀ (cells : List (Str × Addr)) c, cells.lookup y = some c → (cloFrom cells scope.names []).lookup y = some c) (hN : X.N[i]? = some y) (hv : X.env.scope.names.lookup y = some .cell)
    (hb : ∀ env, attributeBase (.Name y p2) f env (eval (.Name y p2) env) = eval (.Name y p2) env) (hs : ∀ v, genFold iter X.env v = pure v) (hd : (x == ("__debug__" : Str)) = false := by decide) (hdy : (y == ("__debug__" : Str)) = false := by decide) (hcd : (y == ("__classdict__" : Str)) = false := by decide)
    (he : starEach [.GeneratorExp (.Compare (.Name x p1) [.GtE] [.Attribute (.Name y p2) f p3] p4) [⟨.Name x px, iter, [], 0⟩] scope gpos] X.env = (false, eval (.GeneratorExp (.Compare (.Name x p1) [.GtE] [.Attribute (.Name y p2) f p3] p4) [⟨.Name x px, iter, [], 0⟩] scope gpos) X.env) :: starEach [] X.env := by rfl) :
    PE X (.Call (.Name "all" p) [.GeneratorExp (.Compare (.Name x p1) [.GtE] [.Attribute (.Name y p2) f p3] p4) [⟨.Name x px, iter, [], 0⟩] scope gpos] [] pos) (tAllGe X.K P i f te) := by
  refine ⟨fun pins s σ H Q I h => ?_⟩
  refine wpAny_Call_Name_kw (ld_blt I hg hm (by decide +kernel : bootBuiltins "all" = some (.builtin "all")) ?_)
  refine PyProof.Rows.callWith_builtin1 ?_ he (by rfl)
  rw [he]
  let R : List Int → (Int → Bool) → Hp → Prop := fun ns pb H1 => ∃ (a C dx : Addr) (fs : List (Str × V)) (n0 : Int), pb = (fun n => decide (n0 ≤ n)) ∧ σ[i]? = some (some (.ref a)) ∧ H1 a = some (.ins C dx fs) ∧ Cls X.K C ∧ NoAttr X.K C f ∧ fs.lookup f = some (.int n0) ∧ ∀ H2, Tabbed P H1 H2 → Q (.bl (ns.all pb)) H2
  refine Calls.spliced_cons (genN (R := R) hr TB hcode S hi (fun ns pb H1 s1 I1 tb hR => ?_) hs I ?_ fun ns pb H1 g z hR hG => Calls.spliced_nil ?_)
  · obtain ⟨a, C, dx, fs, n0, rfl, hσ, hy, cl, na, hf, _⟩ := hR
    exact elt_ge (c := c) I1 hkf hlx hly hcl hN hv tb hσ hy cl na hf hb hd hdy hcd
  · have mono : ∀ (v : V) (H1 : Hp), (∃ (yl : Addr) (ns : List Int) (y C dx : Addr) (fs : List (Str × V)) (a : Int), v = .ref yl ∧ SqL X.K H1 yl (ns.map V.int) ∧ TabG H1 P ∧
        σ[i]? = some (some (.ref y)) ∧ H1 y = some (.ins C dx fs) ∧ Cls X.K C ∧ NoAttr X.K C f ∧ fs.lookup f = some (.int a) ∧ ∀ H2, Tabbed P H1 H2 → Q (.bl (ns.all fun n => decide (a ≤ n))) H2) →
        ∃ (yl : Addr) (ns : List Int) (pb : Int → Bool), v = .ref yl ∧ SqL X.K H1 yl (ns.map V.int) ∧ TabG H1 P ∧ R ns pb H1 := fun v H1 ⟨yl, ns, y, C, dx, fs, a, e, h1, h2, h3, h4, h5, h6, h7, h8⟩ =>
      ⟨yl, ns, _, e, h1, h2, y, C, dx, fs, a, rfl, h3, h4, h5, h6, h7, h8⟩
    have e : (fun (v : V) (H1 : Hp) => ∃ (yl : Addr) (ns : List Int) (y C dx : Addr) (fs : List (Str × V)) (a : Int), v = .ref yl ∧ SqL X.K H1 yl (ns.map V.int) ∧ TabG H1 P ∧
        σ[i]? = some (some (.ref y)) ∧ H1 y = some (.ins C dx fs) ∧ Cls X.K C ∧ NoAttr X.K C f ∧ fs.lookup f = some (.int a) ∧ ∀ H2, Tabbed P H1 H2 → Q (.bl (ns.all fun n => decide (a ≤ n))) H2) =
        (fun (v : V) (H1 : Hp) => ∃ (yl : Addr) (ns : List Int) (pb : Int → Bool), v = .ref yl ∧ SqL X.K H1 yl (ns.map V.int) ∧ TabG H1 P ∧ R ns pb H1) := by
      funext v H1
      refine propext ⟨mono v H1, ?_⟩
      rintro ⟨yl, ns, pb, e, h1, h2, a, C, dx, fs, n0, rfl, h3, h4, h5, h6, h7, h8⟩
      exact ⟨yl, ns, a, C, dx, fs, n0, e, h1, h2, h3, h4, h5, h6, h7, h8⟩
    have h' : te σ H _ := h
    rw [e] at h'
    exact h'
  obtain ⟨fp, wr, G, F, St, W, hst, htr, hI⟩ := hG
  obtain ⟨a, C, dx, fs, n0, rfl, _, _, _, _, _, hR⟩ := hR
  refine call_all_walkS (W.self 0 _ _ _ hst ⟨g, fp, wr, G, _, F, St, _, rfl, W, hst, htr, fun s' hmv => ?_⟩)
  obtain ⟨H2, hT, J⟩ := hI s' hmv
  exact ⟨.bl _, H2, J, rfl, by rw [all_trN]; exact hR H2 hT⟩
end
end MyG
namespace L2
open PySem PySem.Spec PyProof.Rows
/-- as Fun.okX, where the def's code object is known -/
theorem Fun.okC {P : Program} {w : World} {K : PySem.W.Frag} {mg : Str → Option Value} {base : Heap} {x qual : Str} {st : Stmt} {f c : Addr} {fd : FuncData} {N ps : List Str} {k : Nat} {sp : Sp} (F : Fun K x qual st f fd) (hfc : fd.code = Value.ref c) (S : FnScope N ps (defScope st)) (len : ∀ vs H Q E, sp vs H Q E → vs.length = ps.length)
    (hbody : ∀ (A : Around) (outer : List Env) (s : Shared) (H : Hp) (vs : List V) (Q : VK) (E : XK), Room k (A.deeper (envOfC qual (defScope st) s.heap.objs.size f (Value.ref c))) → sp vs H Q E →
      ∃ t, PSs (cxOf (L2.CX P w) P w K mg base N qual (defScope st) f (Value.ref c) A outer s H E) (defBody st) t ∧ t { nx := fun _ H' => Q .non H', rt := Q } (start N vs) H) : FnOk P w K mg base (L2.CX P w) (k + 1) f fd ps sp := by
  obtain ⟨oc, od, kV, doc, pm, an, cdv, ct, osl, efd, lk, hcd⟩ := F.ex
  subst efd
  have ecd : cdv = Value.ref c := hfc
  subst ecd
  exact fn_of lk hcd S len fun A outer s H vs Q E hr hsp => hbody A outer s H vs Q E hr hsp
end L2

set_option Elab.async false
set_option linter.all false
set_option maxRecDepth 100000
set_option maxHeartbeats 2000000
namespace W
open PySem PySem.Spec PyProof.Rows L2 GxR MyG MyS SqX
/-! ### are_names -/
abbrev sAreN : Stmt := top 45
def spAreN (K : PySem.W.Frag) (P Pa : Addr) : Sp := fun vs H Q _ => ∃ (a : Addr) (ws : List Str), vs = [.ref a] ∧ SqL K H a (ws.map V.str) ∧ (∀ z ∈ ws, z.length ≤ 1000) ∧ TabG H P ∧ TabG H Pa ∧ ∀ H', Grew P H H' → TabG H' Pa → Q (.bl (ws.all isNm)) H'
section
variable {Pg : Program} {w : World} {K : PySem.W.Frag} {mg : Str → Option Value} {base : Heap} {C P Pa : Addr}
abbrev nAN : List Str := ["words"]
theorem scAN : FnScope nAN ["words"] (defScope sAreN) := ⟨rfl, rfl, rfl, by decide +kernel, rfl, by decide +kernel, by decide +kernel⟩
theorem ok_areN {f c fN : Addr} {fd fdN : FuncData} (F : Fun K "are_names" "are_names" sAreN f fd) (hfc : fd.code = .ref c) (TB : TabB base mg c Pa) (hall : mg "all" = none)
    (GN : FnOk Pg w K mg base CX0 2 fN fdN ["text"] (spIsName P)) (gN : mg "is_name" = some (.ref fN)) (kN : PySem.W.keepIn K (.ref fN) = true) (bN : Binds K fdN ["text"] []) :
    FnOk Pg w K mg base (L2.CX Pg w) 4 f fd ["words"] (spAreN K P Pa) := by
  refine F.okC hfc scAN (fun vs H Q E h => ?_) (fun A outer s H vs Q E hr h => ?_)
  · obtain ⟨a, ws, rfl, _⟩ := h
    rfl
  · obtain ⟨a, ws, rfl, hA, hz, hP, hPa, kQ⟩ := h
    refine ⟨_, pss_one (ps_ret (GenE.pe_allE (P := Pa) (k := 2) (by exact hr) (by rfl) hall ⟨TB.code, TB.bm, TB.gP⟩ rfl (GenE.gnS_by (sc := defScope sAreN) (by decide +kernel)) scAN.nd (show ("word" : Str) ∉ nAN by decide +kernel) (show (".0" : Str) ∉ nAN by decide +kernel) (pi_list (pv 0))
        (fun A C code s H fp hr2 => by exact pe_call GN hr2 (by rfl) gN kN bN .nil pass0 (pa_cons (pv 0) pa_nil)) (fun _ => rfl))), ?_⟩
    refine ⟨_, rfl, a, rfl, ⟨_, hA⟩, hPa, fun H2 tm => ?_⟩
    have g2 : Grew P H H2 := Grew.of2 hP hPa (GenE.TabM.tabbed tm)
    have hPa2 : TabG H2 Pa := (GenE.TabM.tabbed tm).1
    refine GenE.walk_list (K := K) (a := a) (xs := ws.map V.str) (fun i H' => Grew P H H' ∧ TabG H' Pa ∧ ∀ z ∈ ws.take i, isNm z = true) ⟨g2, hPa2, fun z hz => absurd hz (by simp)⟩ (fun i H' _ p => p.1.sqL hP hA) (fun i v H' N nx hv p => ?_) (fun H' p => ?_)
    · obtain ⟨g, pa, hno⟩ := p
      rw [List.getElem?_map] at hv
      obtain ⟨z, hzi, rfl⟩ := Option.map_eq_some_iff.mp hv
      have hzm := List.mem_of_getElem? hzi
      refine ⟨_, rfl, z, rfl, Nat.le_trans (hz z hzm) (by rw [sizeLine_eq]; decide), g.tab, fun H3 tb => ?_⟩
      have g3 := Grew.of tb
      refine ⟨_, rfl, fun e => nx H3 ⟨g.trans g3, g3.tabs _ pa, fun y hy => ?_⟩, fun e => ?_⟩
      · rw [List.take_succ, hzi] at hy
        rcases List.mem_append.mp hy with q | q
        · exact hno y q
        · have : y = z := by simpa using q
          rw [this]; exact e
      · have ef : isNm z = false := by simpa using e
        have ea : ws.all isNm = false := by
          cases c : ws.all isNm with
          | false => rfl
          | true => exact absurd (List.all_eq_true.mp c z hzm) (by rw [ef]; decide)
        rw [ef, ← ea]
        exact kQ H3 (g.trans g3) (g3.tabs _ pa)
    · obtain ⟨g, pa, hno⟩ := p
      rw [List.length_map, List.take_length] at hno
      have := kQ H' g pa
      rw [List.all_eq_true.mpr hno] at this
      exact this
end
end W

set_option Elab.async false
set_option linter.all false
set_option maxRecDepth 100000
set_option maxHeartbeats 2000000
/-! a text times an int -/
namespace MyG
open PySem PySem.Spec PyProof.Rows L2
/-- n times the sign c -/
def sgns (c : Nat) (n : Nat) : Str := ⟨(List.replicate n c).toArray⟩
def rMulS (c : Nat) : R2 := fun x y H Q => ∃ n : Int, x = .str ⟨#[c]⟩ ∧ y = .int n ∧ 0 ≤ n ∧ n ≤ 1000 ∧ Q (.str (sgns c n.toNat)) H
theorem foldl_one (c : Nat) : ∀ (m : Nat) (a : Array Nat), (List.replicate m #[c]).foldl (· ++ ·) a = a ++ (List.replicate m c).toArray
  | 0, a => by simp
  | m + 1, a => by
    rw [List.replicate_succ, List.foldl_cons, foldl_one c m, List.replicate_succ]
    apply Array.toList_inj.mp
    simp
theorem mul_one {c : Nat} {n : Int} (h : 0 ≤ n) : Txt.mul ⟨#[c]⟩ n = sgns c n.toNat := by
  unfold Txt.mul sgns
  by_cases h1 : n < 1
  · rw [if_pos h1]
    have : n = 0 := by omega
    subst this
    rfl
  · rw [if_neg h1]
    by_cases h2 : n = 1
    · subst h2
      rfl
    · have e : (n == 1 || (⟨#[c]⟩ : Str).length == 0) = false := by
        have : (n == 1) = false := by simp [h2]
        rw [this]
        rfl
      rw [e, if_neg Bool.false_ne_true, foldl_one]
      simp
theorem op_mulS {X : Cx} {c : Nat} : OpR X (binaryOp .Mult) (rMulS c) := by
  intro pins s σ H x y v u Q I rx ry h
  obtain ⟨n, rfl, rfl, h0, h1, q⟩ := h
  obtain ⟨t, rfl⟩ := rx
  obtain ⟨t2, rfl⟩ := ry
  have hl : (⟨#[c]⟩ : Str).length = 1 := rfl
  refine SB.mul ⟨?_, fun h2 _ => ?_, fun h2 _ => ?_⟩ fun t' k => ⟨.str (sgns c n.toNat), H, I.tok k, ⟨t', by rw [mul_one h0]⟩, q⟩
  · have a1 : ¬ n < -(2 ^ 63 : Int) := by omega
    have a2 : ¬ n ≥ 2 ^ 63 := by omega
    rw [decide_eq_false a1, decide_eq_false a2]
    rfl
  · rw [hl]
    have : (1 : Int) ≤ (2 ^ 63 - 1) / n := by
      rw [Int.le_ediv_iff_mul_le (by omega)]
      omega
    omega
  · rw [hl, Nat.one_mul]
    unfold Builtin.Str.tooLong
    exact decide_eq_false (by have := sizeLine_eq; omega)
end MyG

set_option Elab.async false
set_option linter.all false
set_option maxRecDepth 100000
set_option maxHeartbeats 4000000
namespace W
open PySem PySem.Spec PyProof.Rows L2 GxR MyG
abbrev sIsNr : Stmt := top 46
def digC (c : Nat) : Bool := decide (c ∈ zDig.cps.toList)
def z0 : Str := "0"
def isNr (lim : Nat) (z : Str) : Bool := decide (1 ≤ z.length) && decide (z.length ≤ lim) && z.cps.toList.all digC && (decide (z = z0) || !decide (z.cps.toList.head? = some 48))
/-- the element of the generator: x in A -/
theorem elt_one {prog : Program} {w : World} {base : Heap} {mg : Str → Option Value} {scope : Scope} {x A : Str} {a : Str} {ta : Tok} {p1 p2 p3 : Pos} (hk : scope.kind = .function) (hl : scope.names.lookup x = some .local)
    (hA : scope.names.lookup A = some .globalImplicit) (hns : base.Ns mainGlobals mg) (eA : mg A = some (.str a ta))
    (hd : (x == ("__debug__" : Str)) = false := by decide) (hdA : (A == ("__debug__" : Str)) = false := by decide) :
    EltB prog w base scope x (.Compare (.Name x p1) [.In] [.Name A p2] p3) (fun c => decide (c ∈ a.cps.toList)) := by
  intro ce B' F c t z m hs hg hh hb hn hm
  have kf : ce.scope.kind = .function := by rw [hs]; exact hk
  have kx : ce.kindOf x = some .local := by show ce.scope.names.lookup x = _; rw [hs]; exact hl
  have nsz : ∀ (z' : Shared), Keeps z z' → z'.heap.Ns ce.globals mg := fun z' k => by
    rw [hg]
    obtain ⟨h', tk, rfl, kk⟩ := k
    exact (hns.keeps hb).keeps kk
  refine wpAny_Compare1 ?_
  refine wpAny_Name (wpAny_loadName_local kf kx hn hm ?_) hd
  refine Calls.Name_function_global kf (by show ce.scope.names.lookup A = _; rw [hs]; exact hA) (Calls.loadGlobal_global (nsz z (keeps_refl z)) eA ?_) hdA
  refine PyProof.Rows.in_str ?_
  rw [PySem.StrLaws.found_one a c]
  exact ⟨rfl, keeps_refl z⟩
def spIsNr (P : Addr) : Sp := fun vs H Q _ => ∃ (z : Str) (lim : Nat), vs = [.str z, .int (lim : Int)] ∧ z.length ≤ sizeLine ∧ TabG H P ∧ ∀ H', Tabbed P H H' → Q (.bl (isNr lim z)) H'
section
variable {Pg : Program} {w : World} {K : PySem.W.Frag} {mg : Str → Option Value} {base : Heap} {C P : Addr}
theorem scIsNr : FnScope ["word", "longest"] ["word", "longest"] (defScope sIsNr) := ⟨rfl, rfl, rfl, by decide +kernel, rfl, by decide +kernel, by decide +kernel⟩
theorem ok_isNr {f c : Addr} {fd : FuncData} {td : Tok} (F : FunD K "is_number" "is_number" (defArgs sIsNr) (defBody sIsNr) (defScope sIsNr) [.int 6] [] f fd) (hlen : mg "len" = none) (hall : mg "all" = none) (ed : mg "DIGITS" = some (.str zDig td)) (TB : TabB base mg c P) (hfc : fd.code = .ref c) (hns : base.Ns mainGlobals mg) :
    FnOk Pg w K mg base CX0 2 f fd ["word", "longest"] (spIsNr P) := by
  obtain ⟨oc, od, dV, kV, doc, pm, an, cdv, ct, osl, efd, lk, hcd, _, _⟩ := F.ex
  subst efd
  have ecd : cdv = .ref c := hfc
  subst ecd
  refine fn_of lk hcd scIsNr (fun vs H Q E h => ?_) (fun A outer s H vs Q E hr h => ?_)
  · obtain ⟨z, lim, rfl, _⟩ := h
    rfl
  · obtain ⟨z, lim, rfl, hz, hP, k⟩ := h
    refine ⟨_, PSs.nox (pss_cons (ps_if (pt_not (pt_chain op_le op_le pe_int (pe_callB call_len_str (by rfl) hlen PySem.boot_len (pa_cons (pv 0) pa_nil)) (pv 1)))
        (pss_one (ps_ret pe_bl)) pss_nil)
      (pss_one (ps_ret (pe_and (pe_allB (scope := _) (P := P) hr rfl hall TB rfl ⟨rfl, rfl, by decide +kernel, by decide +kernel, by decide +kernel, nofree (by decide +kernel)⟩ (pv 0) (elt_one rfl (by decide +kernel) (by decide +kernel) hns ed) (fun _ => rfl))
        (pe_one (pe_or (pe_cmpR op_eq (pv 0) pe_str (nomark _)) (pe_one (pe_cmpR op_ne (pe_ix ix_str (pv 0) pe_int (fun _ _ => rfl)) pe_str (nomark _))))))))), ?_⟩
    have zl : z.length = z.cps.toList.length := by simp [Str.length]
    refine ⟨_, rfl, z, rfl, hz, 1, _, rfl, rfl, _, rfl, ?_⟩
    have off : isNr lim z = false → Q (.bl false) H := fun e => by
      have := k H ⟨hP, fun _ _ => rfl⟩
      rw [e] at this
      exact this
    by_cases h1 : (1 : Int) ≤ (z.length : Int)
    · refine if_t (decide_eq_true h1) ⟨_, rfl, _, _, rfl, rfl, _, rfl, ?_⟩
      by_cases h2 : (z.length : Int) ≤ (lim : Int)
      · rw [decide_eq_true h2]
        refine iteF ?_
        have hp : 0 < z.cps.toList.length := by omega
        have e0 : atI z.cps.toList 0 = some (z.cps.toList[0]'hp) := atI_nat (j := 0) (List.getElem?_eq_getElem hp)
        refine ⟨_, rfl, z, rfl, hP, fun H2 hH => ⟨_, rfl, ?_⟩⟩
        have e := k H2 hH
        have b1 : decide (1 ≤ z.length) = true := decide_eq_true (by omega)
        have b2 : decide (z.length ≤ lim) = true := decide_eq_true (by omega)
        have ez : isNr lim z = (z.cps.toList.all digC && (decide (z = z0) || !decide (z.cps.toList.head? = some 48))) := by
          unfold isNr
          rw [b1, b2, Bool.true_and, Bool.true_and]
        rw [ez] at e
        refine ite2 (fun ha => ?_) (fun ha => ?_)
        · have ha' : z.cps.toList.all digC = true := ha
          rw [ha', Bool.true_and] at e
          refine ⟨_, rfl, rfl, _, rfl, ?_⟩
          by_cases h3 : z = z0
          · rw [decide_eq_true h3] at e
            have q : decide (V.str z = V.str z0) = true := decide_eq_true (congrArg V.str h3)
            exact if_t q e
          · rw [decide_eq_false h3, Bool.false_or] at e
            have q : decide (V.str z = V.str z0) = false := decide_eq_false fun e2 => h3 (by injection e2)
            refine if_f q ⟨_, rfl, z, 0, _, rfl, rfl, hz, e0, rfl, ?_⟩
            have q2 : (!decide (V.str ⟨#[z.cps.toList[0]'hp]⟩ = V.str z0)) = !decide (z.cps.toList.head? = some 48) := by
              refine congrArg Bool.not (decide_eq_decide.mpr ?_)
              rw [List.head?_eq_getElem?, List.getElem?_eq_getElem hp]
              constructor
              · intro e3
                injection e3 with e4
                have e5 : (#[z.cps.toList[0]'hp] : Array Nat) = #[48] := congrArg Str.cps e4
                have e6 := congrArg Array.toList e5
                injection e6 with e7
                rw [e7]
              · intro e3
                injection e3 with e4
                rw [e4]
                rfl
            exact q2.symm ▸ e
        · have ha' : z.cps.toList.all digC = false := Bool.eq_false_iff.mpr ha
          rw [ha', Bool.false_and] at e
          exact e
      · rw [decide_eq_false h2]
        refine iteT (off ?_)
        unfold isNr
        have : ¬ z.length ≤ lim := by omega
        simp [this]
    · refine if_f (decide_eq_false h1) ⟨_, rfl, ?_⟩
      refine iteT (off ?_)
      unfold isNr
      have : ¬ 1 ≤ z.length := by omega
      simp [this]
end
end W

set_option Elab.async false
set_option linter.all false
set_option maxRecDepth 100000
set_option maxHeartbeats 1000000
set_option exponentiation.threshold 2000
namespace W
open PySem PySem.Spec PyProof.Rows L2 GxR MyG MyS SqX
/-! ### written numbers are numbers -/
theorem iS_lenE (n : Nat) : (iS (n : Int)).length = (TL.numL n).length := by
  rw [str_len]
  exact congrArg List.length (TL.tl_num n)
theorem dig_iff (c : Nat) : c ∈ zDig.cps.toList ↔ 48 ≤ c ∧ c ≤ 57 := by
  have e : zDig.cps.toList = [48, 49, 50, 51, 52, 53, 54, 55, 56, 57] := by decide +kernel
  rw [e]
  simp only [List.mem_cons, List.not_mem_nil, or_false]
  omega
theorem numL_head : ∀ (n : Nat), 0 < n → (TL.numL n).head? ≠ some 48 := by
  intro n
  induction n using Nat.strongRecOn with
  | _ n ih =>
    intro hn h
    by_cases c : n < 10
    · rw [TL.numL_lt c] at h
      simp at h
      omega
    · rw [TL.numL_step (by omega)] at h
      have hne := TL.numL_ne (n / 10)
      have h2 : (TL.numL (n / 10)).head? = some 48 := by
        cases q : TL.numL (n / 10) with
        | nil => exact absurd q hne
        | cons a r => rw [q] at h; exact h
      exact ih (n / 10) (by omega) (by omega) h2
theorem num_nr {n : Nat} (h : n ≤ 999999) : isNr 6 (iS (n : Int)) = true := by
  unfold isNr
  have e := (TL.tl_num n : TL.tl (iS (n : Int)) = TL.numL n)
  have e1 : (iS (n : Int)).cps.toList = TL.numL n := e
  have hl := TL.numL_len (n := n) (k := 6) (by decide) (by omega)
  have hp : 1 ≤ (TL.numL n).length := List.length_pos_iff.mpr (TL.numL_ne n)
  rw [iS_lenE, e1]
  have a1 : (TL.numL n).all digC = true := List.all_eq_true.mpr fun c hc => by
    have hd := TL.numL_digits n c hc
    unfold digC
    exact decide_eq_true ((dig_iff c).mpr (by first | exact hd | (simpa using hd)))
  rw [decide_eq_true hp, decide_eq_true hl, a1]
  by_cases c : n = 0
  · subst c
    have : iS ((0 : Nat) : Int) = z0 := by decide +kernel
    rw [decide_eq_true this]
    rfl
  · have := numL_head n (by omega)
    rw [decide_eq_false this]
    simp
theorem iS_nr {i : Int} (h0 : 0 ≤ i) (h1 : i ≤ 999999) : isNr 6 (iS i) = true := by
  obtain ⟨n, rfl⟩ := Int.eq_ofNat_of_zero_le h0
  exact num_nr (by omega)
end W

set_option Elab.async false
set_option linter.all false
set_option maxRecDepth 100000
set_option maxHeartbeats 1000000
namespace W
open PySem PySem.Spec PyProof.Rows L2 GxR MyG MyS SqX
/-! ### rows_of -/
abbrev sRowsT : Stmt := top 34
def spRowsT (P : Addr) : Sp := fun vs H Q _ => ∃ (z : Str) (ls : List Str), vs = [.str z] ∧ Txt.split z zNl = ls ∧ z.length ≤ 100000 ∧ ls.length ≤ 1000 ∧ (∀ l ∈ ls, l.length ≤ 1000) ∧ TabG H P ∧
  ∀ (H' : Hp) (p : Addr) (rs : List V), Grew P H H' → H p = none → H' p = some (.lst rs) → Paired (RowL H') (ls.map fun l => Txt.split l zSp) rs → Q (.ref p) H'
section
variable {Pg : Program} {w : World} {K : PySem.W.Frag} {mg : Str → Option Value} {base : Heap} {C P Pn : Addr}
abbrev nRowsT : List Str := ["text", "line"]
theorem scRowsT : FnScope nRowsT ["text"] (defScope sRowsT) := ⟨rfl, rfl, rfl, by decide +kernel, rfl, by decide +kernel, by decide +kernel⟩
theorem ok_rowsT {f : Addr} {fd : FuncData} (F : Fun K "rows_of" "rows_of" sRowsT f fd) : FnOk Pg w K mg base CX0 1 f fd ["text"] (spRowsT P) := by
  refine F.ok scRowsT (fun vs H Q E h => ?_) (fun cdv A outer s H vs Q E hr h => ?_)
  · obtain ⟨z, ls, rfl, _⟩ := h
    rfl
  · obtain ⟨z, ls, rfl, els, hz, ll, hlen, hP, k⟩ := h
    refine ⟨_, pss_one (ps_ret (pe_lc (own := [("line", 1)]) (g := gName 1) (tt := tYes) rfl scRowsT.nd (pi_list (pe_split (pv 0) pe_str)) (blkOk_by (N := nRowsT) (sc := defScope sRowsT) (by decide +kernel)) (fun _ _ _ _ _ => pg_name (i := 1) scRowsT.nd rfl (Or.inl rfl))
        (fun _ _ _ _ _ => pts_nil) (fun _ _ _ _ _ => pe_split (pv 1) pe_str))), ?_⟩
    refine ⟨_, rfl, ⟨_, rfl⟩, _, _, rfl, rfl, rfl, by rw [sizeLine_eq]; omega, fun l nl => ?_⟩
    have el : Txt.split z (Str.ofString "\n") = ls := els
    rw [el]
    have g1 := Grew.new hP (o := .lst (ls.map V.str)) nl
    refine ⟨l, rfl, ⟨_, SqL.of upd_same⟩, fun D nD => lc_list (K := K) (a := l) (xs := ls.map V.str) (fun i H' => Grew P H H' ∧ D ≠ l ∧ H l = none ∧ H' l = some (.lst (ls.map V.str)) ∧ H D = none ∧ ∃ acc, H' D = some (.lst acc) ∧ Paired (RowD D H') ((ls.map fun l => Txt.split l zSp).take i) acc)
      ⟨g1.put nD, fun e => (by rw [e, upd_same] at nD; cases nD), nl, by rw [upd_ne (ne_of_none upd_same nD)]; exact upd_same, g1.free nD, [], upd_same, .nil⟩ (fun i H' _ h => SqL.of h.2.2.2.1) (fun i v H1 hv h => ?_) (fun H1 h => ?_)⟩
    · obtain ⟨g, nDl, n1, hl, nD', acc, hD, hacc⟩ := h
      rw [List.getElem?_map] at hv
      cases q : ls[i]? with
      | none => rw [q] at hv; cases hv
      | some x =>
        rw [q] at hv
        obtain rfl := Option.some.inj hv
        have hx := hlen x (List.mem_of_getElem? q)
        have hil := (List.getElem?_eq_some_iff.mp q).1
        have la := Paired.len hacc
        rw [List.length_take, List.length_map] at la
        have et : (ls.map fun l => Txt.split l zSp).take (i + 1) = (ls.map fun l => Txt.split l zSp).take i ++ [Txt.split x zSp] := by rw [List.take_succ, List.getElem?_map, q]; rfl
        refine ⟨rfl, _, rfl, ⟨_, rfl⟩, _, _, rfl, rfl, rfl, by rw [sizeLine_eq]; omega, fun r nr => ?_⟩
        have gr := Grew.new g.tab (o := .lst ((Txt.split x zSp).map V.str)) nr
        have hD2 := gr.lst g.tab hD
        have hl2 := gr.lst g.tab hl
        have nrD : r ≠ D := fun e => by rw [e, hD] at nr; cases nr
        have gw := (g.trans gr).write (o := .lst (acc ++ [.ref r])) hD2 (fun _ z => by cases z) nD'
        refine ⟨_, hD2, by rw [sizeLine_eq]; omega, gw, nDl, n1, by rw [upd_ne (Ne.symm nDl)]; exact hl2, nD', acc ++ [.ref r], upd_same, ?_⟩
        rw [et]
        refine Paired.snoc (Paired.map' hacc fun ws v hw => ?_) ⟨r, rfl, nrD, by rw [upd_ne nrD]; exact upd_same⟩
        obtain ⟨a, e, na, qa⟩ := hw
        exact ⟨a, e, na, by rw [upd_ne na]; exact gr.lst g.tab qa⟩
    · obtain ⟨g, nDl, n1, hl, nD', acc, hD, hacc⟩ := h
      have et : (ls.map fun l => Txt.split l zSp).take (ls.map V.str).length = ls.map fun l => Txt.split l zSp := List.take_of_length_le (by simp)
      rw [et] at hacc
      exact k H1 D acc g nD' hD (Paired.map' hacc fun _ _ hw => let ⟨a, e, _, qa⟩ := hw; ⟨a, e, qa⟩)
end
end W

set_option Elab.async false
set_option linter.all false
set_option maxRecDepth 100000
set_option maxHeartbeats 2000000
namespace W
open PySem PySem.Spec PyProof.Rows L2 GxR MyG MyS SqX
/-! ### _is_pair of any word -/
abbrev sIsPair : Stmt := top 42
def isPairW (z : Str) : Bool := isNr 6 (Txt.partition z zMi).1 && isNr 6 (Txt.partition z zMi).2.2
theorem pairS_isPair {p : Int × Int} (h : 0 ≤ p.1 ∧ p.1 ≤ 999999 ∧ 0 ≤ p.2 ∧ p.2 ≤ 999999) : isPairW (pairS p) = true := by
  unfold isPairW
  rw [pair_part h.1, iS_nr h.1 h.2.1, iS_nr h.2.2.1 h.2.2.2]
  rfl
def spIsPair (P Pn : Addr) : Sp := fun vs H Q _ => ∃ z : Str, vs = [.str z] ∧ z.length ≤ 1000 ∧ TabG H P ∧ TabG H Pn ∧ ∀ H', Grew P H H' → TabG H' Pn → Q (.bl (isPairW z)) H'
section
variable {Pg : Program} {w : World} {K : PySem.W.Frag} {mg : Str → Option Value} {base : Heap} {C P Pn : Addr}
theorem scIP : FnScope nRP ["word"] (defScope sIsPair) := ⟨rfl, rfl, rfl, by decide +kernel, rfl, by decide +kernel, by decide +kernel⟩
theorem ok_isPair {f fN : Addr} {fd fdN : FuncData} {ds : List Value} (F : Fun K "_is_pair" "_is_pair" sIsPair f fd)
    (GN : FnOk Pg w K mg base CX0 2 fN fdN ["word", "longest"] (spIsNr Pn)) (gN : mg "is_number" = some (.ref fN)) (kN : PySem.W.keepIn K (.ref fN) = true) (bN : Binds K fdN ["word", "longest"] ds) (hd : Vals [.int 6] ds) :
    FnOk Pg w K mg base CX0 3 f fd ["word"] (spIsPair P Pn) := by
  refine F.ok scIP (fun vs H Q E h => ?_) (fun cdv A outer s H vs Q E hr h => ?_)
  · obtain ⟨p, rfl, _⟩ := h
    rfl
  · obtain ⟨z, rfl, hz, hP, hPn, kQ⟩ := h
    have hr2 : Room 2 _ := hr.mono (by decide)
    refine ⟨_, pss_cons (ps_asg (pe_partition (pv 0) pe_str) (pg_tup (by rfl) (pgs_cons (pg_name (i := 1) scIP.nd rfl (.inl rfl)) (pgs_cons (pg_name (i := 2) scIP.nd rfl (.inl rfl)) (pgs_cons (pg_name (i := 3) scIP.nd rfl (.inl rfl)) pgs_nil)))))
      (pss_one (ps_ret (pe_and (pe_call GN hr2 (by rfl) gN kN bN hd pass0 (pa_cons (pv 1) pa_nil)) (pe_one (pe_call GN hr2 (by rfl) gN kN bN hd pass0 (pa_cons (pv 3) pa_nil)))))), ?_⟩
    refine ⟨_, rfl, ⟨_, rfl⟩, z, zMi, rfl, rfl, by decide, by rw [sizeLine_eq]; omega, fun t nt => ?_⟩
    obtain ⟨f1, _, f3⟩ := fact_partition z zMi
    have ez : isPairW z = (isNr 6 (Txt.partition z zMi).1 && isNr 6 (Txt.partition z zMi).2.2) := rfl
    rw [ez] at kQ
    obtain ⟨⟨a, m, c⟩, ep⟩ : ∃ q, Txt.partition z zMi = q := ⟨_, rfl⟩
    rw [ep] at f1 f3 kQ ⊢
    have l1 : a.length ≤ z.length := f1
    have l3 : c.length ≤ z.length := f3
    have gt := Grew.new hP (o := .tup [.str a, .str m, .str c]) nt
    refine ⟨t, _, rfl, SqT.of upd_same, rfl, _, _, rfl, _, _, rfl, _, _, rfl, rfl, ?_⟩
    refine ⟨_, rfl, a, 6, rfl, by rw [sizeLine_eq]; omega, gt.tabs _ hPn, fun H2 tb => ?_⟩
    have g2 := gt.trans (Grew.of2 gt.tab (gt.tabs _ hPn) tb)
    have kQ' : ∀ H', Grew P H H' → TabG H' Pn → Q (.bl (isNr 6 a && isNr 6 c)) H' := kQ
    cases c1 : isNr 6 a with
    | false =>
      rw [c1] at kQ'
      exact ⟨_, rfl, iteF (kQ' H2 g2 tb.1)⟩
    | true =>
      rw [c1] at kQ'
      exact ⟨_, rfl, iteT ⟨_, rfl, c, 6, rfl, by rw [sizeLine_eq]; omega, tb.1, fun H3 tb3 => kQ' H3 (g2.trans (Grew.of2 g2.tab tb.1 tb3)) tb3.1⟩⟩
end
end W

set_option Elab.async false
set_option linter.all false
set_option maxRecDepth 100000
set_option maxHeartbeats 2000000
namespace W
open PySem PySem.Spec PyProof.Rows L2 GxR MyG MyS SqX
/-! ### are_hours of any words -/
abbrev sAreH : Stmt := top 41
def areHoursW (ws : List Str) : Bool := decide (ws = [zAlw]) || ws.all isPairW
/-- words as they lie in the rows of a text -/
def WordsOk (ws : List Str) : Prop := ∀ z ∈ ws, PyData.strOk z = true ∧ z.length ≤ 1000
def spAreH (K : PySem.W.Frag) (P Pn Ph : Addr) : Sp := fun vs H Q _ => ∃ (a : Addr) (ws : List Str), vs = [.ref a] ∧ SqL K H a (ws.map V.str) ∧ WordsOk ws ∧ TabG H P ∧ TabG H Pn ∧ TabG H Ph ∧
  ∀ H', Grew P H H' → TabG H' Pn → TabG H' Ph → Q (.bl (areHoursW ws)) H'
section
variable {Pg : Program} {w : World} {K : PySem.W.Frag} {mg : Str → Option Value} {base : Heap} {C P Pn Ph : Addr}
theorem scAH : FnScope nAN ["words"] (defScope sAreH) := ⟨rfl, rfl, rfl, by decide +kernel, rfl, by decide +kernel, by decide +kernel⟩
theorem ok_areH {f c fI : Addr} {fd fdI : FuncData} (F : Fun K "are_hours" "are_hours" sAreH f fd) (hfc : fd.code = .ref c) (TB : TabB base mg c Ph) (hall : mg "all" = none)
    (GI : FnOk Pg w K mg base CX0 3 fI fdI ["word"] (spIsPair P Pn)) (gI : mg "_is_pair" = some (.ref fI)) (kI : PySem.W.keepIn K (.ref fI) = true) (bI : Binds K fdI ["word"] []) :
    FnOk Pg w K mg base (L2.CX Pg w) 5 f fd ["words"] (spAreH K P Pn Ph) := by
  refine F.okC hfc scAH (fun vs H Q E h => ?_) (fun A outer s H vs Q E hr h => ?_)
  · obtain ⟨a, ws, rfl, _⟩ := h
    rfl
  · obtain ⟨a, ws, rfl, hA, hb, hP, hPn, hPh, kQ⟩ := h
    refine ⟨_, pss_one (ps_ret (pe_or (pe_cmpR (r := rEqD K) (op_eqD hr.units) (pv 0) (pe_lst (pa_cons pe_str pa_nil)) (nomark _)) (pe_one (GenE.pe_allE (P := Ph) (k := 3) (by exact hr) (by rfl) hall ⟨TB.code, TB.bm, TB.gP⟩ rfl (GenE.gnS_by (sc := defScope sAreH) (by decide +kernel)) scAH.nd (show ("word" : Str) ∉ nAN by decide +kernel) (show (".0" : Str) ∉ nAN by decide +kernel) (pi_list (pv 0))
        (fun A C code s H fp hr2 => by exact pe_call GI hr2 (by rfl) gI kI bI .nil pass0 (pa_cons (pv 0) pa_nil)) (fun _ => rfl))))), ?_⟩
    refine ⟨_, rfl, (show 1 ≤ sizeLine by decide), fun T nT => ?_⟩
    have gT := Grew.new hP (o := .lst (([zAlw] : List Str).map V.str)) nT
    have hT : (L2.upd H T (.lst [V.str (Str.ofString "always")])) T = some (.lst (([zAlw] : List Str).map V.str)) := upd_same
    have e1 : L2.upd H T (.lst [V.str (Str.ofString "always")]) = L2.upd H T (.lst (([zAlw] : List Str).map V.str)) := rfl
    rw [e1] at hT ⊢
    generalize L2.upd H T (.lst (([zAlw] : List Str).map V.str)) = H1 at gT hT ⊢
    have hA1 := gT.sqL hP hA
    have la := lay_listS fun z hz => (hb z hz).1
    have lb := lay_listS (ns := [zAlw]) (fun z hz => by rw [List.mem_singleton.mp hz]; decide +kernel)
    refine ⟨.list (ws.map .str), .list (([zAlw] : List Str).map .str), .lst hA1 (dpAll_strs _), .lst (SqL.of hT) (dpAll_strs _), la.shaped (by decide), lb.shaped (by decide), _, rfl, ?_⟩
    rw [eqv_lists]
    have ew : areHoursW ws = (decide (ws = [zAlw]) || ws.all isPairW) := rfl
    rw [ew] at kQ
    by_cases ca : ws = [zAlw]
    · rw [decide_eq_true ca] at kQ ⊢
      exact iteT (kQ _ gT (gT.tabs _ hPn) (gT.tabs _ hPh))
    · rw [decide_eq_false ca] at kQ ⊢
      have hPh1 := gT.tabs _ hPh
      refine iteF ⟨_, rfl, a, rfl, ⟨_, hA1⟩, hPh1, fun H2 tm => ?_⟩
      have tb := GenE.TabM.tabbed tm
      have g2 : Grew P H H2 := gT.trans (Grew.of2 gT.tab hPh1 tb)
      have hPn2 : TabG H2 Pn := (Grew.of2 gT.tab hPh1 tb).tabs _ (gT.tabs _ hPn)
      refine GenE.walk_list (K := K) (a := a) (xs := ws.map V.str) (fun i H' => Grew P H H' ∧ TabG H' Pn ∧ TabG H' Ph ∧ ∀ z ∈ ws.take i, isPairW z = true) ⟨g2, hPn2, tb.1, fun z hz => absurd hz (by simp)⟩ (fun i H' _ p => p.1.sqL hP hA) (fun i v H' N nx hv p => ?_) (fun H' p => ?_)
      · obtain ⟨g, pn, ph, hno⟩ := p
        rw [List.getElem?_map] at hv
        obtain ⟨z, hzi, rfl⟩ := Option.map_eq_some_iff.mp hv
        have hzm := List.mem_of_getElem? hzi
        refine ⟨_, rfl, z, rfl, (hb z hzm).2, g.tab, pn, fun H3 g3 pn3 => ⟨_, rfl, fun e => nx H3 ⟨g.trans g3, pn3, g3.tabs _ ph, fun y hy => ?_⟩, fun e => ?_⟩⟩
        · rw [List.take_succ, hzi] at hy
          rcases List.mem_append.mp hy with q | q
          · exact hno y q
          · have : y = z := by simpa using q
            rw [this]; exact e
        · have ef : isPairW z = false := by simpa using e
          have ea : ws.all isPairW = false := by
            cases c : ws.all isPairW with
            | false => rfl
            | true => exact absurd (List.all_eq_true.mp c z hzm) (by rw [ef]; decide)
          rw [ef, ← ea]
          exact kQ H3 (g.trans g3) pn3 (g3.tabs _ ph)
      · obtain ⟨g, pn, ph, hno⟩ := p
        rw [List.length_map, List.take_length] at hno
        have := kQ H' g pn ph
        rw [List.all_eq_true.mpr hno] at this
        exact this
end
end W

set_option Elab.async false
set_option linter.all false
set_option maxRecDepth 100000
set_option maxHeartbeats 2000000
namespace W
open PySem PySem.Spec PyProof.Rows L2 GxR MyG MyS SqX
/-! ### is_road of any words -/
abbrev sIsRoad : Stmt := top 38
/-- the four tables -/
structure Tab4 (H : Hp) (P Pa Pn Ph : Addr) : Prop where
  p : TabG H P
  a : TabG H Pa
  n : TabG H Pn
  h : TabG H Ph
theorem Tab4.grew {H H' : Hp} {P Pa Pn Ph : Addr} (t : Tab4 H P Pa Pn Ph) (g : Grew P H H') : Tab4 H' P Pa Pn Ph := ⟨g.tab, g.tabs _ t.a, g.tabs _ t.n, g.tabs _ t.h⟩
/-- three lists between colons that make a road -/
def roadParts : List (List Str) → Bool
  | [hd, ks, hs] => decide (hd.length = 5) && (((hd.drop 1).take 3).all isNm && (isNr 6 (hd.getD 4 Str.empty) && (ks.all isNm && areHoursW hs)))
  | _ => false
def isRoadW (ws : List Str) : Bool := roadParts (colons ws)
theorem colS_mem {z : Str} : ∀ {ws last : List Str} {acc : List (List Str)}, (∃ l ∈ colS acc last ws, z ∈ l) → (∃ l ∈ acc, z ∈ l) ∨ z ∈ last ∨ z ∈ ws
  | [], last, acc, ⟨l, hl, hz⟩ => by
    unfold colS at hl
    rcases List.mem_append.mp hl with h | h
    · exact .inl ⟨l, h, hz⟩
    · rw [List.mem_singleton.mp h] at hz; exact .inr (.inl hz)
  | w :: ws, last, acc, h => by
    unfold colS at h
    by_cases c : w = zCo
    · rw [if_pos c] at h
      rcases colS_mem h with ⟨l, hl, hz⟩ | hz | hz
      · rcases List.mem_append.mp hl with h | h
        · exact .inl ⟨l, h, hz⟩
        · rw [List.mem_singleton.mp h] at hz; exact .inr (.inl hz)
      · cases hz
      · exact .inr (.inr (List.mem_cons_of_mem _ hz))
    · rw [if_neg c] at h
      rcases colS_mem h with h | hz | hz
      · exact .inl h
      · rcases List.mem_append.mp hz with h | h
        · exact .inr (.inl h)
        · rw [List.mem_singleton.mp h]; exact .inr (.inr List.mem_cons_self)
      · exact .inr (.inr (List.mem_cons_of_mem _ hz))
theorem colons_mem {z : Str} {ws l : List Str} (hl : l ∈ colons ws) (hz : z ∈ l) : z ∈ ws := by
  rcases colS_mem ⟨l, hl, hz⟩ with ⟨l, h, _⟩ | h | h
  · cases h
  · cases h
  · exact h
theorem colS_ne {ws last : List Str} {acc : List (List Str)} : 1 ≤ (colS acc last ws).length := by
  induction ws generalizing acc last with
  | nil => unfold colS; rw [List.length_append]; show 1 ≤ _ + 1; omega
  | cons w ws ih => unfold colS; split <;> exact ih
theorem roadParts_ne {l : List (List Str)} (h : l.length ≠ 3) : roadParts l = false := by
  match l with
  | [] => rfl
  | [_] => rfl
  | [_, _] => rfl
  | [_, _, _] => exact absurd rfl h
  | _ :: _ :: _ :: _ :: _ => rfl
def spIsRoad (K : PySem.W.Frag) (P Pa Pn Ph : Addr) : Sp := fun vs H Q _ => ∃ (a : Addr) (ws : List Str), vs = [.ref a] ∧ SqL K H a (ws.map V.str) ∧ ws.length ≤ 1000 ∧ WordsOk ws ∧ Tab4 H P Pa Pn Ph ∧ ∀ H', Grew P H H' → Q (.bl (isRoadW ws)) H'
section
variable {Pg : Program} {w : World} {K : PySem.W.Frag} {mg : Str → Option Value} {base : Heap} {C P Pa Pn Ph : Addr}
abbrev nIR : List Str := ["words", "parts", "head", "kinds", "hours"]
theorem scIR : FnScope nIR ["words"] (defScope sIsRoad) := ⟨rfl, rfl, rfl, by decide +kernel, rfl, by decide +kernel, by decide +kernel⟩
theorem ok_isRoad {f fC fA fN fH : Addr} {fd fdC fdA fdN fdH : FuncData} {ds : List Value} (F : Fun K "is_road" "is_road" sIsRoad f fd) (hl : mg "len" = none)
    (GC : FnOk Pg w K mg base CX0 1 fC fdC ["words"] (spCol K P)) (gC : mg "parts_between_colons" = some (.ref fC)) (kC : PySem.W.keepIn K (.ref fC) = true) (bC : Binds K fdC ["words"] [])
    (GA : FnOk Pg w K mg base (L2.CX Pg w) 4 fA fdA ["words"] (spAreN K P Pa)) (gA : mg "are_names" = some (.ref fA)) (kA : PySem.W.keepIn K (.ref fA) = true) (bA : Binds K fdA ["words"] [])
    (GN : FnOk Pg w K mg base CX0 2 fN fdN ["word", "longest"] (spIsNr Pn)) (gN : mg "is_number" = some (.ref fN)) (kN : PySem.W.keepIn K (.ref fN) = true) (bN : Binds K fdN ["word", "longest"] ds) (hd : Vals [.int 6] ds)
    (GH : FnOk Pg w K mg base (L2.CX Pg w) 5 fH fdH ["words"] (spAreH K P Pn Ph)) (gH : mg "are_hours" = some (.ref fH)) (kH : PySem.W.keepIn K (.ref fH) = true) (bH : Binds K fdH ["words"] []) :
    FnOk Pg w K mg base CX0 6 f fd ["words"] (spIsRoad K P Pa Pn Ph) := by
  refine F.ok scIR (fun vs H Q E h => ?_) (fun cdv A outer s H vs Q E hr h => ?_)
  · obtain ⟨a, r, rfl, _⟩ := h
    rfl
  · obtain ⟨a, ws, rfl, hA, hlen, hw, t4, kQ⟩ := h
    have hP := t4.p
    have hr1 : Room 1 _ := hr.mono (by decide)
    have hr2 : Room 2 _ := hr.mono (by decide)
    have hr4 : Room 4 _ := hr.mono (by decide)
    have hr5 : Room 5 _ := hr.mono (by decide)
    refine ⟨_, pss_cons (ps_set (i := 1) scIR.nd rfl (Or.inl rfl) (pe_call GC hr1 (by rfl) gC kC bC .nil pass0 (pa_cons (pv 0) pa_nil)))
      (pss_cons (ps_if (PW.pt (pw_or (pt_cmpR op_ne (pe_callB (r := rLenK K) call_len_seq (by rfl) hl PySem.boot_len (pa_cons (pv 1) pa_nil)) pe_int (nomark _)) (pw_or1 (pt_cmpR op_ne (pe_callB (r := rLenK K) call_len_seq (by rfl) hl PySem.boot_len (pa_cons (pe_ix (r := rIxL K) ix_list (pv 1) pe_int (fun _ _ => rfl)) pa_nil)) pe_int (nomark _))))) (pss_one (ps_ret pe_bl)) pss_nil)
      (pss_cons (ps_asg (pv 1) (pg_lst (by rfl) (pgs_cons (pg_name (i := 2) scIR.nd rfl (.inl rfl)) (pgs_cons (pg_name (i := 3) scIR.nd rfl (.inl rfl)) (pgs_cons (pg_name (i := 4) scIR.nd rfl (.inl rfl)) pgs_nil)))))
      (pss_one (ps_ret (pe_and (pe_call (E := E0) GA hr4 (by rfl) gA kA bA .nil (passF rfl rfl) (pa_cons (pe_slice sl_list (pv 2) (po_some pe_int) (po_some pe_int)) pa_nil)) (pe_and (pe_call GN hr2 (by rfl) gN kN bN hd pass0 (pa_cons (pe_ix (r := rIxL K) ix_list (pv 2) pe_int (fun _ _ => rfl)) pa_nil))
        (pe_and (pe_call (E := E0) GA hr4 (by rfl) gA kA bA .nil (passF rfl rfl) (pa_cons (pv 3) pa_nil)) (pe_one (pe_call (E := E0) GH hr5 (by rfl) gH kH bH .nil (passF rfl rfl) (pa_cons (pv 4) pa_nil)))))))))), ?_⟩
    refine ⟨_, rfl, a, ws, rfl, hA, hlen, hP, fun H1 p ys g1 np hp hy => ?_⟩
    have ew : isRoadW ws = roadParts (colons ws) := rfl
    rw [ew] at kQ
    have hm : ∀ l ∈ colons ws, WordsOk l := fun l hl z hz => hw z (colons_mem hl hz)
    have hly := Paired.len hy
    generalize colons ws = cs at hy kQ hm hly
    by_cases c3 : cs.length = 3
    case neg =>
      rw [roadParts_ne c3] at kQ
      refine ⟨_, rfl, p, _, rfl, .inl (SqL.of hp), rfl, _, rfl, if_t ?_ (kQ _ g1)⟩
      have : ¬ (V.int (ys.length : Int) = V.int 3) := fun e => c3 (by injection e with e; omega)
      rw [decide_eq_false this]
      rfl
    obtain ⟨x0, x1, x2, rfl⟩ : ∃ x0 x1 x2, cs = [x0, x1, x2] := by
      match cs, c3 with
      | [x0, x1, x2], _ => exact ⟨x0, x1, x2, rfl⟩
    cases hy with
    | cons ra hy =>
      cases hy with
      | cons rb hy =>
        cases hy with
        | cons rc hy =>
          cases hy
          obtain ⟨q1, rfl, h1⟩ := ra
          obtain ⟨q2, rfl, h2⟩ := rb
          obtain ⟨q3, rfl, h3⟩ := rc
          have t1 := t4.grew g1
          have w0 := hm x0 (by simp)
          have w1 := hm x1 (by simp)
          have w2 := hm x2 (by simp)
          have kQ' : ∀ H', Grew P H H' → Q (.bl (decide (x0.length = 5) && (((x0.drop 1).take 3).all isNm && (isNr 6 (x0.getD 4 Str.empty) && (x1.all isNm && areHoursW x2))))) H' := kQ
          refine ⟨_, rfl, p, _, rfl, .inl (SqL.of hp), rfl, _, rfl, if_f (by simp) ?_⟩
          refine ⟨_, rfl, p, _, 0, .ref q1, rfl, rfl, SqL.of hp, rfl, q1, _, rfl, .inl (SqL.of h1), rfl, _, rfl, ?_⟩
          rw [List.length_map]
          by_cases c5 : x0.length = 5
          case neg =>
            rw [decide_eq_false c5] at kQ'
            have : ¬ (V.int (x0.length : Int) = V.int 5) := fun e => c5 (by injection e with e; omega)
            exact if_t (by rw [decide_eq_false this]; rfl) (kQ' _ g1)
          rw [decide_eq_true c5] at kQ'
          obtain ⟨b0, b1, b2, b3, b4, rfl⟩ : ∃ b0 b1 b2 b3 b4, x0 = [b0, b1, b2, b3, b4] := by
            match x0, c5 with
            | [b0, b1, b2, b3, b4], _ => exact ⟨b0, b1, b2, b3, b4, rfl⟩
          refine if_f (by simp) ?_
          refine ⟨_, rfl, p, _, rfl, SqL.of hp, rfl, _, _, rfl, _, _, rfl, _, _, rfl, rfl, ?_⟩
          refine ⟨_, rfl, _, rfl, _, rfl, q1, _, rfl, SqL.of h1, fun U nU => ?_⟩
          have ec : cutV (([b0, b1, b2, b3, b4] : List Str).map V.str) (some 1) (some 4) = ([b1, b2, b3] : List Str).map V.str := rfl
          rw [ec]
          have gU := Grew.new g1.tab (o := .lst (([b1, b2, b3] : List Str).map V.str)) nU
          have hU : (L2.upd H1 U (.lst (([b1, b2, b3] : List Str).map V.str))) U = some (.lst (([b1, b2, b3] : List Str).map V.str)) := upd_same
          have t2 := t1.grew gU
          have g2 := g1.trans gU
          have h1' := gU.lst g1.tab h1
          have h2' := gU.lst g1.tab h2
          have h3' := gU.lst g1.tab h3
          generalize L2.upd H1 U (.lst (([b1, b2, b3] : List Str).map V.str)) = H2 at gU hU t2 g2 h1' h2' h3' ⊢
          have kQ2 : ∀ H', Grew P H H' → Q (.bl (([b1, b2, b3] : List Str).all isNm && (isNr 6 b4 && (x1.all isNm && areHoursW x2)))) H' := kQ'
          refine ⟨U, [b1, b2, b3], rfl, SqL.of hU, fun z hz => (w0 z (by simp only [List.mem_cons, List.not_mem_nil, or_false] at hz ⊢; rcases hz with e | e | e <;> simp [e])).2, t2.p, t2.a, fun H3 g23 _ => ?_⟩
          have t3 := t2.grew g23
          have g3 := g2.trans g23
          have l4 := (w0 b4 (by simp)).2
          cases k1 : ([b1, b2, b3] : List Str).all isNm with
          | false =>
            rw [k1] at kQ2
            exact ⟨_, rfl, iteF (kQ2 _ g3)⟩
          | true =>
            rw [k1] at kQ2
            refine ⟨_, rfl, iteT ⟨_, rfl, q1, _, 4, .str b4, rfl, rfl, SqL.of (g23.lst t2.p h1'), rfl, b4, 6, rfl, by rw [sizeLine_eq]; omega, t3.n, fun H4 tb => ?_⟩⟩
            have g34 := Grew.of2 g3.tab t3.n tb
            have t4' := t3.grew g34
            have g4 := g3.trans g34
            have g24 := g23.trans g34
            have kQ3 : ∀ H', Grew P H H' → Q (.bl (isNr 6 b4 && (x1.all isNm && areHoursW x2))) H' := kQ2
            cases k2 : isNr 6 b4 with
            | false =>
              rw [k2] at kQ3
              exact ⟨_, rfl, iteF (kQ3 _ g4)⟩
            | true =>
              rw [k2] at kQ3
              refine ⟨_, rfl, iteT ⟨_, rfl, q2, x1, rfl, SqL.of (g24.lst t2.p h2'), fun z hz => (w1 z hz).2, t4'.p, t4'.a, fun H5 g45 _ => ?_⟩⟩
              have t5 := t4'.grew g45
              have g25 := g24.trans g45
              have kQ4 : ∀ H', Grew P H H' → Q (.bl (x1.all isNm && areHoursW x2)) H' := kQ3
              cases k3 : x1.all isNm with
              | false =>
                rw [k3] at kQ4
                exact ⟨_, rfl, iteF (kQ4 _ (g4.trans g45))⟩
              | true =>
                rw [k3] at kQ4
                refine ⟨_, rfl, iteT ⟨_, rfl, q3, x2, rfl, SqL.of (g25.lst t2.p h3'), w2, t5.p, t5.n, t5.h, fun H6 g56 _ _ => ?_⟩⟩
                exact kQ4 H6 ((g4.trans g45).trans g56)
end
/-- a written road has the form of one -/
theorem isRoad_written {r : RoadD} (hc : colons (roadW r) = [[zRoad, r.name, r.start, r.goal, iS r.minutes], r.users, hourW r.hours]) (m0 : 0 ≤ r.minutes) (m1 : r.minutes ≤ 999999) (hh : ∀ gs, r.hours = some gs → ∀ p ∈ gs, 0 ≤ p.1 ∧ p.1 ≤ 999999 ∧ 0 ≤ p.2 ∧ p.2 ≤ 999999)
    (hn : [r.name, r.start, r.goal].all isNm = true) (hu : r.users.all isNm = true) : isRoadW (roadW r) = true := by
  unfold isRoadW
  rw [hc]
  show (decide (([zRoad, r.name, r.start, r.goal, iS r.minutes] : List Str).length = 5) && ([r.name, r.start, r.goal].all isNm && (isNr 6 (iS r.minutes) && (r.users.all isNm && areHoursW (hourW r.hours))))) = true
  rw [hn, hu, iS_nr m0 m1]
  have : areHoursW (hourW r.hours) = true := by
    unfold areHoursW
    cases e : r.hours with
    | none => show (decide ([zAlw] = [zAlw]) || _) = true; rw [decide_eq_true rfl]; rfl
    | some gs =>
      have : (hourW (some gs)).all isPairW = true := List.all_eq_true.mpr fun z hz => by
        obtain ⟨p, hp, rfl⟩ := List.mem_map.mp hz
        exact pairS_isPair (hh gs e p hp)
      rw [this, Bool.or_true]
  rw [this]
  rfl
end W

set_option Elab.async false
set_option linter.all false
set_option maxRecDepth 100000
set_option maxHeartbeats 2000000
namespace W
open PySem PySem.Spec PyProof.Rows L2 GxR MyG MyS SqX
/-! ### _is_head -/
abbrev sIsHead : Stmt := top 37
def zDayW : Str := "day"
def zBarW : Str := "bar"
def isHeadW (ws : List Str) : Bool := if ws.getD 0 Str.empty = zDayW then decide (ws.length = 2) && isNr 6 (ws.getD 1 Str.empty) else (ws.drop 1).all isNm
theorem at_cons {xs : List Str} {i : Nat} (h : i < xs.length) : atI (xs.map V.str) (i : Int) = some (.str (xs.getD i Str.empty)) := atI_nat (by rw [List.getElem?_map, List.getD_eq_getElem?_getD, List.getElem?_eq_getElem h]; rfl)
theorem decS (x y : Str) : decide (V.str x = V.str y) = decide (x = y) := by rw [decide_eq_decide]; exact ⟨fun e => by injection e, fun e => by rw [e]⟩
theorem decN (x : Nat) (y : Nat) : decide (V.int (x : Int) = V.int (y : Int)) = decide (x = y) := by rw [decide_eq_decide]; exact ⟨fun e => by injection e; omega, fun e => by rw [e]⟩
theorem drop1_lst (xs : List V) : cutV xs (some 1) none = xs.drop 1 := cutV_suf xs 1
def spIsHead (K : PySem.W.Frag) (P Pa Pn Ph : Addr) : Sp := fun vs H Q _ => ∃ (a : Addr) (w0 : Str) (r : List Str), vs = [.ref a] ∧ SqL K H a ((w0 :: r).map V.str) ∧ r.length ≤ 1000 ∧ WordsOk (w0 :: r) ∧ Tab4 H P Pa Pn Ph ∧ ∀ H', Grew P H H' → Q (.bl (isHeadW (w0 :: r))) H'
section
variable {Pg : Program} {w : World} {K : PySem.W.Frag} {mg : Str → Option Value} {base : Heap} {C P Pa Pn Ph : Addr}
theorem scIH : FnScope nAN ["words"] (defScope sIsHead) := ⟨rfl, rfl, rfl, by decide +kernel, rfl, by decide +kernel, by decide +kernel⟩
theorem ok_isHead {f fA fN : Addr} {fd fdA fdN : FuncData} {ds : List Value} (F : Fun K "_is_head" "_is_head" sIsHead f fd) (hl : mg "len" = none)
    (GA : FnOk Pg w K mg base (L2.CX Pg w) 4 fA fdA ["words"] (spAreN K P Pa)) (gA : mg "are_names" = some (.ref fA)) (kA : PySem.W.keepIn K (.ref fA) = true) (bA : Binds K fdA ["words"] [])
    (GN : FnOk Pg w K mg base CX0 2 fN fdN ["word", "longest"] (spIsNr Pn)) (gN : mg "is_number" = some (.ref fN)) (kN : PySem.W.keepIn K (.ref fN) = true) (bN : Binds K fdN ["word", "longest"] ds) (hd : Vals [.int 6] ds) :
    FnOk Pg w K mg base CX0 5 f fd ["words"] (spIsHead K P Pa Pn Ph) := by
  refine F.ok scIH (fun vs H Q E h => ?_) (fun cdv A outer s H vs Q E hr h => ?_)
  · obtain ⟨a, w0, r, rfl, _⟩ := h
    rfl
  · obtain ⟨a, w0, r, rfl, hA, hlen, hw, t4, kQ⟩ := h
    have hP := t4.p
    have hr2 : Room 2 _ := hr.mono (by decide)
    have hr4 : Room 4 _ := hr.mono (by decide)
    refine ⟨_, pss_cons (ps_if (pt_cmpR op_eq (pe_ix (r := rIxL K) ix_list (pv 0) pe_int (fun _ _ => rfl)) pe_str (nomark _))
        (pss_one (ps_ret (pe_and (pe_cmpR op_eq (pe_callB (r := rLenK K) call_len_seq (by rfl) hl PySem.boot_len (pa_cons (pv 0) pa_nil)) pe_int (nomark _)) (pe_one (pe_call GN hr2 (by rfl) gN kN bN hd pass0 (pa_cons (pe_ix (r := rIxL K) ix_list (pv 0) pe_int (fun _ _ => rfl)) pa_nil)))))) pss_nil)
      (pss_one (ps_ret (pe_call (E := E0) GA hr4 (by rfl) gA kA bA .nil (passF rfl rfl) (pa_cons (pe_slice sl_list (pv 0) (po_some pe_int) po_none) pa_nil)))), ?_⟩
    have a0 : atI ((w0 :: r).map V.str) 0 = some (.str w0) := at_cons (xs := w0 :: r) (i := 0) (by simp)
    have eh : isHeadW (w0 :: r) = if w0 = zDayW then decide ((w0 :: r).length = 2) && isNr 6 ((w0 :: r).getD 1 Str.empty) else r.all isNm := rfl
    rw [eh] at kQ
    have gr := Grew.refl hP
    refine ⟨_, rfl, a, _, 0, _, rfl, rfl, hA, a0, rfl, _, rfl, ?_⟩
    by_cases c : w0 = zDayW
    · rw [if_pos c] at kQ
      refine if_t (decide_eq_true (congrArg V.str c)) ⟨_, rfl, a, _, rfl, .inl hA, rfl, _, rfl, ?_⟩
      have lm : ((w0 :: r).map V.str).length = (w0 :: r).length := List.length_map ..
      rw [lm, show (V.int 2) = V.int ((2 : Nat) : Int) from rfl, decN]
      by_cases c2 : (w0 :: r).length = 2
      · rw [decide_eq_true c2] at kQ ⊢
        have h1 : 1 < (w0 :: r).length := by omega
        have l1 : ((w0 :: r).getD 1 Str.empty).length ≤ 1000 := by
          rw [List.getD_eq_getElem?_getD, List.getElem?_eq_getElem h1]
          exact (hw _ (List.getElem_mem h1)).2
        exact iteT ⟨_, rfl, a, _, 1, _, rfl, rfl, hA, at_cons h1, _, 6, rfl, Nat.le_trans l1 (by rw [sizeLine_eq]; decide), t4.n, fun H2 tb => kQ H2 (Grew.of2 hP t4.n tb)⟩
      · rw [decide_eq_false c2] at kQ ⊢
        exact iteF (kQ _ gr)
    · rw [if_neg c] at kQ
      refine if_f (decide_eq_false fun e => c (by injection e)) ⟨_, rfl, _, rfl, a, _, rfl, hA, fun U nU => ?_⟩
      rw [drop1_lst]
      have gU := Grew.new hP (o := .lst (r.map V.str)) nU
      refine ⟨U, r, rfl, SqL.of upd_same, fun z hz => (hw z (List.mem_cons_of_mem _ hz)).2, gU.tab, gU.tabs _ t4.a, fun H2 g2 _ => kQ H2 (gU.trans g2)⟩
end
end W

set_option Elab.async false
set_option linter.all false
set_option maxRecDepth 100000
set_option maxHeartbeats 2000000
namespace W
open PySem PySem.Spec PyProof.Rows L2 GxR MyG MyS SqX
/-! ### _can_stand -/
abbrev sCan : Stmt := top 36
def headsL : List Str := [zDayW, zKinds, zPlaces]
def canM (rss : List (List Str)) (i : Nat) : Bool :=
  let ws := rss.getD i []
  if i < 3 then decide (ws.getD 0 Str.empty = headsL.getD i Str.empty) && isHeadW ws
  else if ws.getD 0 Str.empty = zRoad then !decide ((rss.getD (i - 1) []).getD 0 Str.empty = zBarW) && isRoadW ws
  else decide (ws.getD 0 Str.empty = zBarW) && (decide (ws.length = 3) && (ws.drop 1).all isNm)
structure RowsIn (H : Hp) (p : Addr) (rss : List (List Str)) : Prop where
  ex : ∃ rs : List V, H p = some (.lst rs) ∧ Paired (RowL H) rss rs
  ne : ∀ ws ∈ rss, ws ≠ []
  ok : ∀ ws ∈ rss, WordsOk ws ∧ ws.length ≤ 1000
theorem RowsIn.grew {P : Addr} {H H' : Hp} {p : Addr} {rss : List (List Str)} (g : Grew P H H') (hP : TabG H P) (h : RowsIn H p rss) : RowsIn H' p rss := by
  obtain ⟨rs, e, q⟩ := h.ex
  exact ⟨⟨rs, g.lst hP e, Paired.map' q fun _ _ r => r.grew g hP⟩, h.ne, h.ok⟩
theorem RowsIn.at {H : Hp} {p : Addr} {rss : List (List Str)} (h : RowsIn H p rss) {i : Nat} (hi : i < rss.length) : ∃ (rs : List V) (a : Addr) (w : Str) (r : List Str), H p = some (.lst rs) ∧ atI rs (i : Int) = some (.ref a) ∧ rss.getD i [] = w :: r ∧ H a = some (.lst ((w :: r).map V.str)) ∧ WordsOk (w :: r) ∧ (w :: r).length ≤ 1000 := by
  obtain ⟨rs, e, q⟩ := h.ex
  have ei := List.getElem?_eq_getElem hi
  have hm : rss[i] ∈ rss := List.getElem_mem hi
  have hne := h.ne _ hm
  have hok := h.ok _ hm
  have eg : rss.getD i [] = rss[i] := by rw [List.getD_eq_getElem?_getD, ei]; rfl
  obtain ⟨v, ev, a, rfl, ha⟩ := Paired.to q ei
  cases c : rss[i] with
  | nil => exact absurd c hne
  | cons w r =>
    rw [c] at hok ha
    exact ⟨rs, a, w, r, e, atI_nat ev, eg.trans c, ha, hok.1, hok.2⟩
/-- HEADS as the top leaves it -/
def TupK (K : PySem.W.Frag) (T : Addr) (xs : List V) : Prop := ∃ (o : Obj) (its : Array Value) (n : Nat), K.lookup T = some o ∧ o.cls = .type "tuple" ∧ o.data = .seq its n ∧ its.size ≤ sizeLine ∧ Vals xs its.toList
theorem TupK.sq {K : PySem.W.Frag} {H : Hp} {T : Addr} {xs : List V} (h : TupK K T xs) : SqT K H T xs := .inr h
def spCan (P Pa Pn Ph : Addr) : Sp := fun vs H Q _ => ∃ (p : Addr) (rss : List (List Str)) (i : Nat), vs = [.ref p, .int (i : Int)] ∧ RowsIn H p rss ∧ i < rss.length ∧ Tab4 H P Pa Pn Ph ∧ ∀ H', Grew P H H' → Q (.bl (canM rss i)) H'
section
variable {Pg : Program} {w : World} {K : PySem.W.Frag} {mg : Str → Option Value} {base : Heap} {C P Pa Pn Ph HD : Addr}
abbrev nCan : List Str := ["rows", "at", "words"]
theorem scCan : FnScope nCan ["rows", "at"] (defScope sCan) := ⟨rfl, rfl, rfl, by decide +kernel, rfl, by decide +kernel, by decide +kernel⟩
theorem ok_can {f fA fH fR : Addr} {fd fdA fdH fdR : FuncData} (F : Fun K "_can_stand" "_can_stand" sCan f fd) (hl : mg "len" = none) (hH : mg "HEADS" = some (.ref HD)) (HK : TupK K HD (headsL.map V.str))
    (GA : FnOk Pg w K mg base (L2.CX Pg w) 4 fA fdA ["words"] (spAreN K P Pa)) (gA : mg "are_names" = some (.ref fA)) (kA : PySem.W.keepIn K (.ref fA) = true) (bA : Binds K fdA ["words"] [])
    (GH : FnOk Pg w K mg base CX0 5 fH fdH ["words"] (spIsHead K P Pa Pn Ph)) (gH : mg "_is_head" = some (.ref fH)) (kH : PySem.W.keepIn K (.ref fH) = true) (bH : Binds K fdH ["words"] [])
    (GR : FnOk Pg w K mg base CX0 6 fR fdR ["words"] (spIsRoad K P Pa Pn Ph)) (gR : mg "is_road" = some (.ref fR)) (kR : PySem.W.keepIn K (.ref fR) = true) (bR : Binds K fdR ["words"] []) :
    FnOk Pg w K mg base CX0 7 f fd ["rows", "at"] (spCan P Pa Pn Ph) := by
  refine F.ok scCan (fun vs H Q E h => ?_) (fun cdv A outer s H vs Q E hr h => ?_)
  · obtain ⟨p, rss, i, rfl, _⟩ := h
    rfl
  · obtain ⟨p, rss, i, rfl, hR, hi, t4, k⟩ := h
    have hP := t4.p
    refine ⟨_, pss_cons (ps_set (i := 2) scCan.nd rfl (Or.inl rfl) (pe_ix (r := rIxL K) ix_list (pv 0) (pv 1) (fun _ _ => rfl)))
      (pss_cons (ps_if (pt_cmpR op_lt (pv 1) (pe_callB (r := rLenK K) call_len_seq (by rfl) hl PySem.boot_len (pa_cons (pe_glob (v := .ref HD) (by rfl) hH rfl) pa_nil)) (nomark _)) (pss_one (ps_ret (pe_and (pe_cmpR op_eq (pe_ix (r := rIxL K) ix_list (pv 2) pe_int (fun _ _ => rfl)) (pe_ix (r := rIxT K) ix_tup (pe_glob (v := .ref HD) (by rfl) hH rfl) (pv 1) (fun _ _ => rfl)) (nomark _))
          (pe_one (pe_call GH (hr.mono (by decide)) (by rfl) gH kH bH .nil pass0 (pa_cons (pv 2) pa_nil)))))) pss_nil)
      (pss_cons (ps_if (pt_cmpR op_eq (pe_ix (r := rIxL K) ix_list (pv 2) pe_int (fun _ _ => rfl)) pe_str (nomark _)) (pss_one (ps_ret (pe_and (pe_cmpR op_ne (pe_ix (r := rIxL K) ix_list (pe_ix (r := rIxL K) ix_list (pv 0) (pe_op op_sub (pv 1) pe_int) (fun _ _ => rfl)) pe_int (fun _ _ => rfl)) pe_str (nomark _))
          (pe_one (pe_call GR (hr.mono (by decide)) (by rfl) gR kR bR .nil pass0 (pa_cons (pv 2) pa_nil)))))) pss_nil)
      (pss_one (ps_ret (pe_and (pe_cmpR op_eq (pe_ix (r := rIxL K) ix_list (pv 2) pe_int (fun _ _ => rfl)) pe_str (nomark _)) (pe_and (pe_cmpR op_eq (pe_callB (r := rLenK K) call_len_seq (by rfl) hl PySem.boot_len (pa_cons (pv 2) pa_nil)) pe_int (nomark _))
          (pe_one (pe_call (E := E0) GA (hr.mono (by decide)) (by rfl) gA kA bA .nil (passF rfl rfl) (pa_cons (pe_slice sl_list (pv 2) (po_some pe_int) po_none) pa_nil))))))))), ?_⟩
    obtain ⟨rs, a, w0, r, hp, hat, ews, ha, hok, hlr⟩ := hR.at hi
    have lm : ((w0 :: r).map V.str).length = (w0 :: r).length := List.length_map ..
    have gr := Grew.refl hP
    have a0 : atI ((w0 :: r).map V.str) 0 = some (.str w0) := at_cons (xs := w0 :: r) (i := 0) (by simp)
    have cs : canM rss i = (if i < 3 then decide (w0 = headsL.getD i Str.empty) && isHeadW (w0 :: r)
      else if w0 = zRoad then !decide ((rss.getD (i - 1) []).getD 0 Str.empty = zBarW) && isRoadW (w0 :: r)
      else decide (w0 = zBarW) && (decide ((w0 :: r).length = 3) && r.all isNm)) := by
      unfold canM
      rw [ews]
      rfl
    rw [cs] at k
    refine ⟨_, rfl, _, rfl, p, _, _, _, rfl, rfl, SqL.of hp, hat, _, rfl, HD, _, rfl, .inr HK.sq, _, _, rfl, rfl, _, rfl, ?_⟩
    have eL : (headsL.map V.str).length = 3 := rfl
    rw [eL]
    by_cases c : i < 3
    · rw [if_pos c] at k
      refine if_t (decide_eq_true (by omega)) ?_
      have hhd : atI (headsL.map V.str) (i : Int) = some (.str (headsL.getD i Str.empty)) := at_cons c
      refine ⟨_, rfl, a, _, 0, _, rfl, rfl, SqL.of ha, a0, _, rfl, HD, _, _, _, rfl, rfl, HK.sq, hhd, rfl, _, rfl, ?_⟩
      rw [decS]
      by_cases c1 : w0 = headsL.getD i Str.empty
      · rw [decide_eq_true c1] at k ⊢
        exact iteT ⟨_, rfl, a, w0, r, rfl, SqL.of ha, Nat.le_of_succ_le hlr, hok, t4, k⟩
      · rw [decide_eq_false c1] at k ⊢
        exact iteF (k _ gr)
    · rw [if_neg c] at k
      refine if_f (decide_eq_false (by omega)) ?_
      refine ⟨_, rfl, a, _, 0, _, rfl, rfl, SqL.of ha, a0, rfl, _, rfl, ?_⟩
      by_cases cb : w0 = zRoad
      · rw [if_pos cb] at k
        refine if_t (decide_eq_true (congrArg V.str cb)) ?_
        have hi1 : i - 1 < rss.length := by omega
        obtain ⟨rs1, a', w1, r1, hp1, hat1, ews1, ha1, _⟩ := hR.at hi1
        rw [ews1] at k
        have ers : rs1 = rs := by rw [hp] at hp1; injection hp1 with e; injection e with e; exact e.symm
        rw [ers] at hat1
        have ei : ((i - 1 : Nat) : Int) = (i : Int) - 1 := by omega
        rw [ei] at hat1
        have a01 : atI ((w1 :: r1).map V.str) 0 = some (.str w1) := at_cons (xs := w1 :: r1) (i := 0) (by simp)
        have e1 : (w1 :: r1).getD 0 Str.empty = w1 := rfl
        rw [e1] at k
        refine ⟨_, rfl, _, rfl, _, _, rfl, rfl, p, _, _, _, rfl, rfl, SqL.of hp, hat1, a', _, 0, _, rfl, rfl, SqL.of ha1, a01, rfl, _, rfl, ?_⟩
        rw [show decide (V.str w1 = V.str (Str.ofString "bar")) = decide (w1 = zBarW) from decS w1 zBarW]
        by_cases c1 : w1 = zBarW
        · rw [decide_eq_true c1] at k ⊢
          exact iteF (k _ gr)
        · rw [decide_eq_false c1] at k ⊢
          exact iteT ⟨_, rfl, a, w0 :: r, rfl, SqL.of ha, hlr, hok, t4, k⟩
      · rw [if_neg cb] at k
        refine if_f (decide_eq_false fun e => cb (by injection e)) ?_
        refine ⟨_, rfl, a, _, 0, _, rfl, rfl, SqL.of ha, a0, rfl, _, rfl, ?_⟩
        rw [show decide (V.str w0 = V.str (Str.ofString "bar")) = decide (w0 = zBarW) from decS w0 zBarW]
        by_cases c1 : w0 = zBarW
        · rw [decide_eq_true c1] at k ⊢
          refine iteT ⟨_, rfl, a, _, rfl, .inl (SqL.of ha), rfl, _, rfl, ?_⟩
          rw [lm, show (V.int 3) = V.int ((3 : Nat) : Int) from rfl, decN]
          by_cases c2 : (w0 :: r).length = 3
          · rw [decide_eq_true c2] at k ⊢
            refine iteT ⟨_, rfl, _, rfl, a, _, rfl, SqL.of ha, fun U nU => ?_⟩
            rw [drop1_lst]
            have gU := Grew.new hP (o := .lst (r.map V.str)) nU
            exact ⟨U, r, rfl, SqL.of upd_same, fun z hz => (hok z (List.mem_cons_of_mem _ hz)).2, gU.tab, gU.tabs _ t4.a, fun H2 g2 _ => k H2 (gU.trans g2)⟩
          · rw [decide_eq_false c2] at k ⊢
            exact iteF (k _ gr)
        · rw [decide_eq_false c1] at k ⊢
          exact iteF (k _ gr)
end
end W

set_option Elab.async false
set_option linter.all false
set_option maxRecDepth 100000
set_option maxHeartbeats 2000000
namespace W
open PySem PySem.Spec PyProof.Rows L2 GxR MyG MyS SqX
/-! ### _check_form of rows that can stand -/
abbrev sForm : Stmt := top 35
def spForm (P Pa Pn Ph : Addr) : Sp := fun vs H Q _ => ∃ (p : Addr) (rss : List (List Str)), vs = [.ref p] ∧ RowsIn H p rss ∧ 3 ≤ rss.length ∧ rss.length ≤ 1000 ∧ (∀ i, i < rss.length → canM rss i = true) ∧ Tab4 H P Pa Pn Ph ∧ ∀ H', Grew P H H' → Q .non H'
section
variable {Pg : Program} {w : World} {K : PySem.W.Frag} {mg : Str → Option Value} {base : Heap} {C P Pa Pn Ph HD : Addr}
abbrev nForm : List Str := ["rows", "at"]
theorem scForm : FnScope nForm ["rows"] (defScope sForm) := ⟨rfl, rfl, rfl, by decide +kernel, rfl, by decide +kernel, by decide +kernel⟩
theorem ok_form {f fC : Addr} {fd fdC : FuncData} (F : Fun K "_check_form" "_check_form" sForm f fd) (hl : mg "len" = none) (hrg : mg "range" = none) (hH : mg "HEADS" = some (.ref HD)) (HK : TupK K HD (headsL.map V.str))
    (GC : FnOk Pg w K mg base CX0 7 fC fdC ["rows", "at"] (spCan P Pa Pn Ph)) (gC : mg "_can_stand" = some (.ref fC)) (kC : PySem.W.keepIn K (.ref fC) = true) (bC : Binds K fdC ["rows", "at"] []) :
    FnOk Pg w K mg base CX0 8 f fd ["rows"] (spForm P Pa Pn Ph) := by
  refine F.ok scForm (fun vs H Q E h => ?_) (fun cdv A outer s H vs Q E hr h => ?_)
  · obtain ⟨p, rss, rfl, _⟩ := h
    rfl
  · obtain ⟨p, rss, rfl, hR, h3, h1000, hgood, t4, k⟩ := h
    have hP := t4.p
    refine ⟨_, pss_cons (ps_for PassesOwn.never rfl (pi_range1 rfl hrg (pa_cons (pe_callB (r := rLenK K) call_len_seq (by rfl) hl PySem.boot_len (pa_cons (pv 0) pa_nil)) pa_nil)) (pg_name (i := 1) scForm.nd rfl (Or.inl rfl))
        (pss_one (ps_if (pt_not (pt_val (pe_call GC (hr.mono (by decide)) (by rfl) gC kC bC .nil pass0 (pa_cons (pv 0) (pa_cons (pv 1) pa_nil))))) (pss_one ps_never) pss_nil)))
      (pss_one (ps_if (pt_cmpR op_lt (pe_callB (r := rLenK K) call_len_seq (by rfl) hl PySem.boot_len (pa_cons (pv 0) pa_nil)) (pe_callB (r := rLenK K) call_len_seq (by rfl) hl PySem.boot_len (pa_cons (pe_glob (v := .ref HD) (by rfl) hH rfl) pa_nil)) (nomark _)) (pss_one ps_never) pss_nil)), ?_⟩
    obtain ⟨rs, hp, hrs⟩ := hR.ex
    have hlr := Paired.len hrs
    refine ⟨_, rfl, p, _, rfl, .inl (SqL.of hp), _, rfl, by omega, by omega, for_range (n := rs.length) (fun j σ H' => ∃ kv : Option V, σ = [some (.ref p), kv] ∧ Grew P H H' ∧ RowsIn H' p rss ∧ Tab4 H' P Pa Pn Ph) ⟨none, rfl, Grew.refl hP, hR, t4⟩ ?_ ?_⟩
    · rintro j σ H2 hj ⟨kv, rfl, g2, R2, t2⟩
      have hj2 : j < rss.length := by omega
      refine ⟨_, rfl, _, rfl, p, _, j, by rw [Int.zero_add]; rfl, R2, hj2, t2, fun H3 g3 => ⟨_, rfl, ?_⟩⟩
      rw [hgood j hj2]
      exact iteF ⟨_, rfl, g2.trans g3, R2.grew g3 g2.tab, t2.grew g3⟩
    · rintro σ H2 ⟨kv, rfl, g2, R2, t2⟩
      obtain ⟨rs2, hp2, hrs2⟩ := R2.ex
      have hl2 := Paired.len hrs2
      refine ⟨_, rfl, p, _, rfl, .inl (SqL.of hp2), HD, _, rfl, .inr HK.sq, _, _, rfl, rfl, _, rfl, if_f ?_ (k H2 g2)⟩
      rw [show (headsL.map V.str).length = 3 from rfl]
      exact decide_eq_false (by omega)
end
end W

set_option Elab.async false
set_option linter.all false
set_option maxRecDepth 100000
set_option maxHeartbeats 2000000
set_option exponentiation.threshold 2000
namespace W
open PySem PySem.Spec PyProof.Rows L2 GxR MyG MyS SqX
/-! ### the rows of the written form -/
/-- signs between the blank and the tilde -/
def Plain (z : Str) : Prop := ∀ c ∈ TL.tl z, 33 ≤ c ∧ c ≤ 126
theorem nm_plain {z : Str} (h : isNm z = true) : Plain z := fun c hc => by
  unfold isNm at h
  simp only [Bool.and_eq_true] at h
  have hg := List.all_eq_true.mp h.2 c hc
  unfold goodC at hg
  rw [Bool.or_eq_true, decide_eq_true_eq, decide_eq_true_eq] at hg
  rcases hg with hg | hg
  · have a1 : ∀ c ∈ zLet.cps.toList, 33 ≤ c ∧ c ≤ 126 := by decide +kernel
    exact a1 c hg
  · have := (dig_iff c).mp hg
    omega
theorem iS_plain {i : Int} (h0 : 0 ≤ i) : Plain (iS i) := fun c hc => by
  rw [iS_tl h0] at hc
  have := TL.numL_digits i.toNat c hc
  omega
theorem app_plain {a b : Str} (ha : Plain a) (hb : Plain b) : Plain (a ++ b) := fun c hc => by
  rw [TL.tl_append] at hc
  exact (List.mem_append.mp hc).elim (ha c) (hb c)
theorem pairS_plain {p : Int × Int} (h0 : 0 ≤ p.1) (h1 : 0 ≤ p.2) : Plain (pairS p) := app_plain (app_plain (iS_plain h0) (by unfold Plain; decide +kernel)) (iS_plain h1)
theorem Plain.ok {z : Str} (h : Plain z) : PyData.strOk z = true := by
  unfold PyData.strOk
  rw [← Array.all_toList]
  refine List.all_eq_true.mpr fun c hc => decide_eq_true ?_
  have := h c hc
  omega
theorem joinL_mem {S : List Nat} {c : Nat} : ∀ {l : List (List Nat)}, c ∈ TL.joinL S l → c ∈ S ∨ ∃ p ∈ l, c ∈ p
  | [], h => by cases h
  | [a], h => .inr ⟨a, by simp, h⟩
  | a :: b :: r, h => by
    have h' : c ∈ a ++ (S ++ TL.joinL S (b :: r)) := h
    rcases List.mem_append.mp h' with h | h
    · exact .inr ⟨a, by simp, h⟩
    · rcases List.mem_append.mp h with h | h
      · exact .inl h
      · rcases joinL_mem h with h | ⟨p, hp, hc⟩
        · exact .inl h
        · exact .inr ⟨p, List.mem_cons_of_mem _ hp, hc⟩
theorem join_mem {y : Str} {ws : List Str} {c : Nat} (h : c ∈ TL.tl (Txt.join y ws)) : c ∈ TL.tl y ∨ ∃ z ∈ ws, c ∈ TL.tl z := by
  rw [TL.join_eq, TL.tl_join] at h
  rcases joinL_mem h with h | ⟨p, hp, hc⟩
  · exact .inl h
  · obtain ⟨z, hz, rfl⟩ := List.mem_map.mp hp
    exact .inr ⟨z, hz, hc⟩
/-- a line of plain words, split -/
theorem split_line {ws : List Str} (hn : ws ≠ []) (h : ∀ z ∈ ws, Plain z) : Txt.split (Txt.join zSp ws) zSp = ws := by
  refine TL.split_join (s := 32) (S := []) rfl (by decide +kernel) hn fun p hp m => ?_
  have := h p hp 32 m
  omega
/-- lines of plain words, split -/
theorem split_text {rss : List (List Str)} (hn : rss ≠ []) (h : ∀ ws ∈ rss, ∀ z ∈ ws, Plain z) : Txt.split (Txt.join zNl (rss.map (Txt.join zSp))) zNl = rss.map (Txt.join zSp) := by
  refine TL.split_join (s := 10) (S := []) rfl (by decide +kernel) (by simpa using hn) fun p hp m => ?_
  obtain ⟨ws, hw, rfl⟩ := List.mem_map.mp hp
  rcases join_mem m with m | ⟨z, hz, m⟩
  · exact absurd m (by decide +kernel)
  · have := h ws hw z hz 10 m
    omega
theorem rows_text {rss : List (List Str)} (hne : ∀ ws ∈ rss, ws ≠ []) (h : ∀ ws ∈ rss, ∀ z ∈ ws, Plain z) : ((rss.map (Txt.join zSp)).map fun l => Txt.split l zSp) = rss := by
  rw [List.map_map]
  have : rss.map ((fun l => Txt.split l zSp) ∘ Txt.join zSp) = rss.map id := List.map_congr_left fun ws hw => split_line (hne ws hw) (h ws hw)
  rw [this, List.map_id]
/-- the rows of a map's text -/
def barW (b : Str × Str) : List Str := [zBarW, b.1, b.2]
def rowsL (d : Int) (ks ps : List Str) (rs : List RoadD) (bs : List (Str × Str)) : List (List Str) := [[zDayW, iS d], zKinds :: ks, zPlaces :: ps] ++ rs.map roadW ++ bs.map barW
theorem barT_join (b : Str × Str) : barT b = Txt.join zSp (barW b) := by
  unfold barW
  have e : ([zBarW, b.1, b.2] : List Str) = ([zBarW] ++ [b.1]) ++ [b.2] := rfl
  rw [e, join_snoc (by simp), join_snoc (by simp), join_one]
  unfold barT
  have : zBar = zBarW ++ zSp := by decide +kernel
  rw [this]
theorem dayT_join (d : Int) : zDay ++ iS d = Txt.join zSp [zDayW, iS d] := by
  have e : ([zDayW, iS d] : List Str) = [zDayW] ++ [iS d] := rfl
  rw [e, join_snoc (by simp), join_one]
  have : zDay = zDayW ++ zSp := by decide +kernel
  rw [this]
theorem mapL_rows (d : Int) (ks ps : List Str) (rs : List RoadD) (bs : List (Str × Str)) : mapL d ks ps rs bs = (rowsL d ks ps rs bs).map (Txt.join zSp) := by
  unfold mapL rowsL
  rw [List.map_append, List.map_append, List.map_map, List.map_map]
  have e1 : bs.map barT = bs.map (Txt.join zSp ∘ barW) := List.map_congr_left fun b _ => barT_join b
  have e2 : rs.map roadT = rs.map (Txt.join zSp ∘ roadW) := rfl
  rw [e1, e2, dayT_join]
  rfl
/-- a road whose line has the right form -/
structure RoadForm (r : RoadD) : Prop where
  n : isNm r.name = true
  s : isNm r.start = true
  g : isNm r.goal = true
  m0 : 0 ≤ r.minutes
  m1 : r.minutes ≤ 999999
  u : r.users.all isNm = true
  h : ∀ gs, r.hours = some gs → gs.length ≤ 100 ∧ ∀ p ∈ gs, 0 ≤ p.1 ∧ p.1 ≤ 999999 ∧ 0 ≤ p.2 ∧ p.2 ≤ 999999
/-- parts whose text has the right form -/
structure FormP (d : Int) (ks ps : List Str) (rs : List RoadD) (bs : List (Str × Str)) : Prop where
  d0 : 0 ≤ d
  d1 : d ≤ 999999
  kn : ks.all isNm = true
  pn : ps.all isNm = true
  r : ∀ r ∈ rs, RoadForm r
  b : ∀ b ∈ bs, isNm b.1 = true ∧ isNm b.2 = true
  ll : ∀ l ∈ mapL d ks ps rs bs, l.length ≤ 1000
  ln : (mapL d ks ps rs bs).length ≤ 1000
  zl : (Txt.join zNl (mapL d ks ps rs bs)).length ≤ 100000
  wl : ∀ ws ∈ rowsL d ks ps rs bs, ws.length ≤ 1000 ∧ ∀ z ∈ ws, z.length ≤ 1000
  sm : PartsSm d ks ps rs bs
theorem co_nm {z : Str} (h : isNm z = true) : z ≠ zCo := fun e => by rw [e] at h; revert h; decide +kernel
theorem co_iS {i : Int} (h : 0 ≤ i) : iS i ≠ zCo := fun e => by
  have := iS_plain h
  have hd : ∀ c ∈ TL.tl (iS i), 48 ≤ c ∧ c ≤ 57 := fun c hc => by
    rw [iS_tl h] at hc
    have := TL.numL_digits i.toNat c hc
    omega
  rw [e] at hd
  have := hd 58 (by decide +kernel)
  omega
theorem RoadForm.hourW {r : RoadD} (h : RoadForm r) : ∀ z ∈ hourW r.hours, Plain z ∧ z ≠ zCo := fun z hz => by
  cases e : r.hours with
  | none =>
    rw [e] at hz
    rw [List.mem_singleton.mp hz]
    exact ⟨by unfold Plain; decide +kernel, by decide +kernel⟩
  | some gs =>
    rw [e] at hz
    obtain ⟨p, hp, rfl⟩ := List.mem_map.mp hz
    obtain ⟨a, _, c, _⟩ := (h.h gs e).2 p hp
    refine ⟨pairS_plain a c, fun e2 => ?_⟩
    have hm : 45 ∈ TL.tl (pairS p) := by
      unfold pairS
      rw [TL.tl_append, TL.tl_append]
      exact List.mem_append_left _ (List.mem_append_right _ (by decide +kernel))
    rw [e2] at hm
    exact absurd hm (by decide +kernel)
theorem RoadForm.colons {r : RoadD} (h : RoadForm r) : colons (roadW r) = [[zRoad, r.name, r.start, r.goal, iS r.minutes], r.users, W.hourW r.hours] :=
  colons_road (co_nm h.n) (co_nm h.s) (co_nm h.g) (co_iS h.m0) (fun m => co_nm (List.all_eq_true.mp h.u _ m) rfl) (fun m => (h.hourW _ m).2 rfl)
theorem RoadForm.plain {r : RoadD} (h : RoadForm r) : ∀ z ∈ roadW r, Plain z := fun z hz => by
  unfold roadW headW at hz
  simp only [List.mem_append, List.mem_cons, List.not_mem_nil, or_false] at hz
  rcases hz with (((rfl | rfl | rfl | rfl | rfl | rfl) | hz) | rfl) | hz
  · unfold Plain; decide +kernel
  · exact nm_plain h.n
  · exact nm_plain h.s
  · exact nm_plain h.g
  · exact iS_plain h.m0
  · unfold Plain; decide +kernel
  · exact nm_plain (List.all_eq_true.mp h.u z hz)
  · unfold Plain; decide +kernel
  · exact (h.hourW z hz).1
theorem RoadForm.isRoad {r : RoadD} (h : RoadForm r) : isRoadW (roadW r) = true :=
  isRoad_written h.colons h.m0 h.m1 (fun gs e => (h.h gs e).2) (by simp [h.n, h.s, h.g]) h.u
theorem rowsL_ne {d : Int} {ks ps : List Str} {rs : List RoadD} {bs : List (Str × Str)} : ∀ ws ∈ rowsL d ks ps rs bs, ws ≠ [] := fun ws hw => by
  unfold rowsL at hw
  simp only [List.mem_append, List.mem_cons, List.not_mem_nil, or_false, List.mem_map] at hw
  rcases hw with ((rfl | rfl | rfl) | ⟨r, hr, rfl⟩) | ⟨b, hb, rfl⟩
  · simp
  · simp
  · simp
  · unfold roadW headW; simp
  · unfold barW; simp
theorem FormP.plain {d : Int} {ks ps : List Str} {rs : List RoadD} {bs : List (Str × Str)} (h : FormP d ks ps rs bs) : ∀ ws ∈ rowsL d ks ps rs bs, ∀ z ∈ ws, Plain z := fun ws hw z hz => by
  unfold rowsL at hw
  simp only [List.mem_append, List.mem_cons, List.not_mem_nil, or_false, List.mem_map] at hw
  rcases hw with ((rfl | rfl | rfl) | ⟨r, hr, rfl⟩) | ⟨b, hb, rfl⟩
  · simp only [List.mem_cons, List.not_mem_nil, or_false] at hz
    rcases hz with rfl | rfl
    · unfold Plain; decide +kernel
    · exact iS_plain h.d0
  · rcases List.mem_cons.mp hz with rfl | hz
    · unfold Plain; decide +kernel
    · exact nm_plain (List.all_eq_true.mp h.kn z hz)
  · rcases List.mem_cons.mp hz with rfl | hz
    · unfold Plain; decide +kernel
    · exact nm_plain (List.all_eq_true.mp h.pn z hz)
  · exact (h.r r hr).plain z hz
  · unfold barW at hz
    simp only [List.mem_cons, List.not_mem_nil, or_false] at hz
    obtain ⟨b1, b2⟩ := h.b b hb
    rcases hz with rfl | rfl | rfl
    · unfold Plain; decide +kernel
    · exact nm_plain b1
    · exact nm_plain b2
theorem FormP.wordsOk {d : Int} {ks ps : List Str} {rs : List RoadD} {bs : List (Str × Str)} (h : FormP d ks ps rs bs) : ∀ ws ∈ rowsL d ks ps rs bs, WordsOk ws ∧ ws.length ≤ 1000 := fun ws hw =>
  ⟨fun z hz => ⟨(h.plain ws hw z hz).ok, (h.wl ws hw).2 z hz⟩, (h.wl ws hw).1⟩
theorem rowsL_len (d : Int) (ks ps : List Str) (rs : List RoadD) (bs : List (Str × Str)) : (rowsL d ks ps rs bs).length = 3 + rs.length + bs.length := by
  unfold rowsL
  simp only [List.length_append, List.length_map, List.length_cons, List.length_nil]
theorem rowsL_drop (d : Int) (ks ps : List Str) (rs : List RoadD) (bs : List (Str × Str)) : (rowsL d ks ps rs bs).drop 3 = rs.map roadW ++ bs.map barW := rfl
theorem getD_road {d : Int} {ks ps : List Str} {rs : List RoadD} {bs : List (Str × Str)} {j : Nat} (h : j < rs.length) : (rowsL d ks ps rs bs).getD (j + 3) [] = roadW (rs[j]) := by
  have e : (rowsL d ks ps rs bs)[j + 3]? = some (roadW rs[j]) := by
    show (rs.map roadW ++ bs.map barW)[j]? = _
    rw [List.getElem?_append_left (by rw [List.length_map]; exact h), List.getElem?_map, List.getElem?_eq_getElem h]
    rfl
  rw [List.getD_eq_getElem?_getD, e]
  rfl
theorem getD_bar {d : Int} {ks ps : List Str} {rs : List RoadD} {bs : List (Str × Str)} {j : Nat} (h : j < bs.length) : (rowsL d ks ps rs bs).getD (j + rs.length + 3) [] = barW (bs[j]) := by
  have e : (rowsL d ks ps rs bs)[j + rs.length + 3]? = some (barW bs[j]) := by
    show (rs.map roadW ++ bs.map barW)[j + rs.length]? = _
    rw [List.getElem?_append_right (by rw [List.length_map]; omega), List.length_map, Nat.add_sub_cancel, List.getElem?_map, List.getElem?_eq_getElem h]
    rfl
  rw [List.getD_eq_getElem?_getD, e]
  rfl
/-- all rows of a written form can stand -/
theorem FormP.stands {d : Int} {ks ps : List Str} {rs : List RoadD} {bs : List (Str × Str)} (h : FormP d ks ps rs bs) : ∀ i, i < (rowsL d ks ps rs bs).length → canM (rowsL d ks ps rs bs) i = true := fun i hi => by
  rw [rowsL_len] at hi
  match i, hi with
  | 0, _ =>
    show (decide (zDayW = zDayW) && (if zDayW = zDayW then decide (([zDayW, iS d] : List Str).length = 2) && isNr 6 (iS d) else (([zDayW, iS d] : List Str).drop 1).all isNm)) = true
    rw [if_pos rfl, iS_nr h.d0 h.d1]
    simp
  | 1, _ =>
    show (decide (zKinds = zKinds) && (if zKinds = zDayW then decide ((zKinds :: ks).length = 2) && isNr 6 ((zKinds :: ks).getD 1 Str.empty) else ks.all isNm)) = true
    rw [if_neg (by decide +kernel), h.kn]
    simp
  | 2, _ =>
    show (decide (zPlaces = zPlaces) && (if zPlaces = zDayW then decide ((zPlaces :: ps).length = 2) && isNr 6 ((zPlaces :: ps).getD 1 Str.empty) else ps.all isNm)) = true
    rw [if_neg (by decide +kernel), h.pn]
    simp
  | j + 3, hi =>
    unfold canM
    dsimp only []
    by_cases c : j < rs.length
    · rw [getD_road c]
      have e0 : (roadW rs[j]).getD 0 Str.empty = zRoad := rfl
      rw [e0, if_neg (by omega), if_pos rfl, (h.r _ (List.getElem_mem c)).isRoad]
      have : ¬ ((rowsL d ks ps rs bs).getD (j + 3 - 1) []).getD 0 Str.empty = zBarW := by
        cases j with
        | zero => show ¬ zPlaces = zBarW; decide +kernel
        | succ j =>
          show ¬ ((rowsL d ks ps rs bs).getD (j + 3) []).getD 0 Str.empty = zBarW
          rw [getD_road (by omega)]
          show ¬ zRoad = zBarW
          decide +kernel
      rw [decide_eq_false this]
      rfl
    · obtain ⟨k, rfl⟩ : ∃ k, j = k + rs.length := ⟨j - rs.length, by omega⟩
      have hk : k < bs.length := by omega
      rw [getD_bar hk]
      obtain ⟨b1, b2⟩ := h.b _ (List.getElem_mem hk)
      have e0 : (barW bs[k]).getD 0 Str.empty = zBarW := rfl
      rw [e0, if_neg (by omega), if_neg (by decide +kernel)]
      show (decide (zBarW = zBarW) && (decide (([zBarW, bs[k].1, bs[k].2] : List Str).length = 3) && ([bs[k].1, bs[k].2] : List Str).all isNm)) = true
      simp [b1, b2]
end W

set_option Elab.async false
set_option linter.all false
set_option maxRecDepth 100000
set_option maxHeartbeats 1000000
/-! min(l, default=d) of a list of ints: a rule over the layer -/
namespace MyH
open PySem PySem.Spec PyProof.Rows L2
def rMinDef : List V → List V → Hp → VK → Prop := fun vs zs H Q => ∃ (l : Addr) (ns : List Int) (d : V), vs = [.ref l] ∧ zs = [d] ∧ H l = some (.lst (ns.map V.int)) ∧
  (ns = [] → Q d H) ∧ ∀ n ns', ns = n :: ns' → Q (.int (ns'.foldl min n)) H
theorem reads_ints {h : Heap} : ∀ {ns : List Int} {us : List Value}, IntsAre us ns → ∃ as, ReadsAll h us (ns.map PyData.int) as
  | _, _, .nil => ⟨_, .nil⟩
  | _, _, .cons n t r => by
    obtain ⟨as, q⟩ := reads_ints r
    exact ⟨_, .cons (.int n t) q⟩
theorem alike_ints (ns : List Int) : PySem.W.AlikeAll (ns.map PyData.int) := ⟨fun x hx y hy => by
  obtain ⟨p, _, rfl⟩ := List.mem_map.mp hx
  obtain ⟨q, _, rfl⟩ := List.mem_map.mp hy
  rfl, fun x hx => by
  obtain ⟨p, _, rfl⟩ := List.mem_map.mp hx
  exact fun z => nomatch z⟩
theorem depth_ints : ∀ ns : List Int, PyData.depthAll (ns.map PyData.int) ≤ 1
  | [] => by simp [PyData.depthAll]
  | n :: ns => by
    have i := depth_ints ns
    simp only [List.map_cons, PyData.depthAll, PyData.depth]
    omega
section
variable {X : Cx}
theorem cr_minDef (hh : X.A.handled = none) (hu : X.A.units + 8 < cLine) : CallRK X (.builtin "min") [Str.ofString "default"] rMinDef := by
  intro pins s σ H vs zs us ws Q I r rz h
  obtain ⟨l, ns, d, rfl, rfl, hH, q0, q⟩ := h
  obtain rfl := Vals.ref1 r
  obtain ⟨w1, rfl, e1⟩ := vals1 rz
  obtain ⟨z, its, n, rv, hl, e⟩ := I.lstM hH
  have hi := ints_vals rv
  obtain ⟨as, ra⟩ := reads_ints (h := s.heap) hi
  refine PySem.W.min_list_default (vs := its.toArray) (xs := ns.map PyData.int) (as := as) hh ?_ (by simpa using ra) (alike_ints ns) (by have := depth_ints ns; omega) (fun hz h' tk mo => ?_) fun y ys i v h' tk bs hy hi' rd mo => ?_
  · exact ⟨_, e, rfl, _, rfl⟩
  · exact ⟨d, H, I.kept (t' := tk) mo, e1, q0 (List.map_eq_nil_iff.mp hz)⟩
  · cases ns with
    | nil => cases hy
    | cons m ms =>
      rw [List.map_cons] at hy
      injection hy with h1 h2
      subst h1 h2
      rw [PySem.W.minD_ints] at rd
      cases rd with
      | int _ t => exact ⟨.int _, H, I.kept (t' := tk) mo, ⟨t, rfl⟩, q m ms rfl⟩
end
theorem foldl_min : ∀ (ns : List Int) (n : Int), (ns.foldl min n ∈ n :: ns) ∧ ∀ m ∈ n :: ns, ns.foldl min n ≤ m
  | [], n => ⟨List.mem_cons_self, fun m hm => by rw [List.mem_singleton.mp hm]; exact Int.le_refl _⟩
  | k :: ns, n => by
    obtain ⟨h1, h2⟩ := foldl_min ns (min n k)
    rw [List.foldl_cons]
    refine ⟨?_, fun m hm => ?_⟩
    · rcases List.mem_cons.mp h1 with e | h
      · rw [e]
        by_cases c : n ≤ k
        · rw [Int.min_eq_left c]; exact List.mem_cons_self
        · rw [Int.min_eq_right (by omega)]; exact List.mem_cons_of_mem _ List.mem_cons_self
      · exact List.mem_cons_of_mem _ (List.mem_cons_of_mem _ h)
    · have h0 := h2 (min n k) List.mem_cons_self
      rcases List.mem_cons.mp hm with e | h
      · rw [e]; omega
      · rcases List.mem_cons.mp h with e | h
        · rw [e]; omega
        · exact h2 m (List.mem_cons_of_mem _ h)
end MyH

set_option Elab.async false
set_option linter.all false
set_option maxRecDepth 100000
set_option maxHeartbeats 1000000
/-! max(l, default=d) of a list of ints: a rule over the layer -/
namespace MyH
open PySem PySem.Spec PyProof.Rows L2
def rMaxDef : List V → List V → Hp → VK → Prop := fun vs zs H Q => ∃ (l : Addr) (ns : List Int) (d : V), vs = [.ref l] ∧ zs = [d] ∧ H l = some (.lst (ns.map V.int)) ∧
  (ns = [] → Q d H) ∧ ∀ n ns', ns = n :: ns' → Q (.int (ns'.foldl max n)) H
section
variable {X : Cx}
theorem cr_maxDef (hh : X.A.handled = none) (hu : X.A.units + 8 < cLine) : CallRK X (.builtin "max") [Str.ofString "default"] rMaxDef := by
  intro pins s σ H vs zs us ws Q I r rz h
  obtain ⟨l, ns, d, rfl, rfl, hH, q0, q⟩ := h
  obtain rfl := Vals.ref1 r
  obtain ⟨w1, rfl, e1⟩ := vals1 rz
  obtain ⟨z, its, n, rv, hl, e⟩ := I.lstM hH
  have hi := ints_vals rv
  obtain ⟨as, ra⟩ := reads_ints (h := s.heap) hi
  refine PySem.W.max_list_default (vs := its.toArray) (xs := ns.map PyData.int) (as := as) hh ?_ (by simpa using ra) (alike_ints ns) (by have := depth_ints ns; omega) (fun hz h' tk mo => ?_) fun y ys i v h' tk bs hy hi' rd mo => ?_
  · exact ⟨_, e, rfl, _, rfl⟩
  · exact ⟨d, H, I.kept (t' := tk) mo, e1, q0 (List.map_eq_nil_iff.mp hz)⟩
  · cases ns with
    | nil => cases hy
    | cons m ms =>
      rw [List.map_cons] at hy
      injection hy with h1 h2
      subst h1 h2
      rw [PySem.W.maxD_ints] at rd
      cases rd with
      | int _ t => exact ⟨.int _, H, I.kept (t' := tk) mo, ⟨t, rfl⟩, q m ms rfl⟩
end
theorem foldl_max : ∀ (ns : List Int) (n : Int), (ns.foldl max n ∈ n :: ns) ∧ ∀ m ∈ n :: ns, m ≤ ns.foldl max n
  | [], n => ⟨List.mem_cons_self, fun m hm => by rw [List.mem_singleton.mp hm]; exact Int.le_refl _⟩
  | k :: ns, n => by
    obtain ⟨h1, h2⟩ := foldl_max ns (max n k)
    rw [List.foldl_cons]
    refine ⟨?_, fun m hm => ?_⟩
    · rcases List.mem_cons.mp h1 with e | h
      · rw [e]
        by_cases c : k ≤ n
        · rw [Int.max_eq_left c]; exact List.mem_cons_self
        · rw [Int.max_eq_right (by omega)]; exact List.mem_cons_of_mem _ List.mem_cons_self
      · exact List.mem_cons_of_mem _ (List.mem_cons_of_mem _ h)
    · have h0 := h2 (max n k) List.mem_cons_self
      rcases List.mem_cons.mp hm with e | h
      · rw [e]; omega
      · rcases List.mem_cons.mp h with e | h
        · rw [e]; omega
        · exact h2 m (List.mem_cons_of_mem _ h)
end MyH

set_option Elab.async false
set_option linter.all false
set_option maxRecDepth 100000
set_option maxHeartbeats 4000000
set_option exponentiation.threshold 2000
namespace W
open PySem PySem.Spec PyProof.Rows L2 GxR MyG MyS SqX
/-! ### parse_map of a text of the right form -/
abbrev sParse : Stmt := top 33
abbrev kMapC : List Str := ["day", "kinds", "places", "roads", "bars"]
def gMapC {α : Type} (us mv ws : List α) : List α := us ++ (ws ++ mv)
def spParse (K : PySem.W.Frag) (M C P Pa Pn Ph : Addr) : Sp := fun vs H Q E => ∃ (d : Int) (ks ps : List Str) (rs : List RoadD) (bs : List (Str × Str)), vs = [.str (Txt.join zNl (mapL d ks ps rs bs))] ∧ FormP d ks ps rs bs ∧ Tab4 H P Pa Pn Ph ∧
  (PartsOk d ks ps rs bs → ∀ x, MadeQ K M P x H d ks ps rs bs fun H' => Q (.ref x) H') ∧ (¬ PartsOk d ks ps rs bs → BadM C P H E)
theorem take_all {α : Type} {l : List α} {i : Nat} (h : l.length ≤ i) : l.take (i + 1) = l.take i := by rw [List.take_of_length_le h, List.take_of_length_le (by omega)]
theorem app_at {α : Type} {l m : List α} {i : Nat} {x : α} (h : (l ++ m)[i]? = some x) : (i < l.length ∧ l[i]? = some x) ∨ (l.length ≤ i ∧ m[i - l.length]? = some x) := by
  by_cases c : i < l.length
  · rw [List.getElem?_append_left c] at h; exact .inl ⟨c, h⟩
  · rw [List.getElem?_append_right (by omega)] at h; exact .inr ⟨by omega, h⟩
section
variable {Pg : Program} {w : World} {K : PySem.W.Frag} {mg : Str → Option Value} {base : Heap} {C P Pa Pn Ph HD : Addr}
theorem mapC_binds {f : Addr} {fd : FuncData} {T1 T2 T : Addr} (F : FunD K "__init__" "Map.__init__" (defArgs sInit) (defBody sInit) (defScope sInit) [] [("places", V.ref T1), ("roads", V.ref T2), ("bars", V.ref T)] f fd) :
    ∃ mv : List Value, KBn K fd pInit 1 kMapC (fun us ws => gMapC us mv ws) (fun vs zs => gMapC vs (([] : List (Str × V)).map (·.2)) zs) := by
  refine FunD.kbinds0 F 1 kMapC [] gMapC (by simp) (by simp) ?_ ?_
  · intro vs mz zs us mv ws r1 r2 r3
    exact r1.append (Vals.append r3 r2)
  · intro D doc pm an cdv ct us mv ws h1 h2 h3
    match us, mv, ws, h1, h2, h3 with
    | [u], [], [a, b, c, d, e], _, _, _ => exact rfl
abbrev nParse : List Str := ["text", "rows", "parts", "words"]
theorem scParse : FnScope nParse ["text"] (defScope sParse) := ⟨rfl, rfl, rfl, by decide +kernel, rfl, by decide +kernel, by decide +kernel⟩
theorem ok_parse {f fR fF fD fI M : Addr} {fd fdR fdF fdD fdI : FuncData} {mv : List Value} (F : Fun K "parse_map" "parse_map" sParse f fd) (hl : mg "len" = none) (hi : mg "int" = none) (hH : mg "HEADS" = some (.ref HD)) (HK : TupK K HD (headsL.map V.str))
    (GR : FnOk Pg w K mg base CX0 1 fR fdR ["text"] (spRowsT P)) (gR : mg "rows_of" = some (.ref fR)) (kR : PySem.W.keepIn K (.ref fR) = true) (bR : Binds K fdR ["text"] [])
    (GF : FnOk Pg w K mg base CX0 8 fF fdF ["rows"] (spForm P Pa Pn Ph)) (gF : mg "_check_form" = some (.ref fF)) (kF : PySem.W.keepIn K (.ref fF) = true) (bF : Binds K fdF ["rows"] [])
    (GD : FnOk Pg w K mg base CX0 3 fD fdD ["words"] (spReadR K P)) (gD : mg "read_road" = some (.ref fD)) (kD : PySem.W.keepIn K (.ref fD) = true) (bD : Binds K fdD ["words"] [])
    (Mk : L2.Mk K M fI) (gM : mg "Map" = some (.ref M)) (GI : FnOk Pg w K mg base (L2.CX Pg w) 5 fI fdI pInit (spInitX K M C P)) (kb : KBn K fdI pInit 1 kMapC (fun us ws => gMapC us mv ws) (fun vs zs => gMapC vs (([] : List (Str × V)).map (·.2)) zs)) :
    FnOk Pg w K mg base (L2.CX Pg w) 9 f fd ["text"] (spParse K M C P Pa Pn Ph) := by
  refine F.okX scParse (fun vs H Q E h => ?_) (fun cdv A outer s H vs Q E hr h => ?_)
  · obtain ⟨d, ks, ps, rs, bs, rfl, _⟩ := h
    rfl
  · obtain ⟨d, ks, ps, rs, bs, rfl, fo, t4, kQ, kE⟩ := h
    have hP := t4.p
    refine ⟨_, pss_cons (ps_set (i := 1) scParse.nd rfl (Or.inl rfl) (pe_call GR (hr.mono (by decide)) (by rfl) gR kR bR .nil pass0 (pa_cons (pv 0) pa_nil)))
      (pss_cons (ps_expr (pe_call GF (hr.mono (by decide)) (by rfl) gF kF bF .nil pass0 (pa_cons (pv 1) pa_nil)))
      (pss_cons (ps_set (i := 2) scParse.nd rfl (Or.inl rfl) (pe_slice sl_list (pv 1) (po_some (pe_callB (r := rLenK K) call_len_seq (by rfl) hl PySem.boot_len (pa_cons (pe_glob (v := .ref HD) (by rfl) hH rfl) pa_nil))) po_none))
      (pss_one (ps_ret (pe_makeK0 (E := E) Mk GI (hr.mono (by decide)) (by rfl) gM kb (passes_call (takes_of rfl rfl rfl rfl) (fun _ _ _ _ h => h))
        (pk_cons (pe_callTy (T := "int") call_int_str (by rfl) hi (by decide +kernel) (pa_cons (pe_ix (r := rIxL K) ix_list (pe_ix (r := rIxL K) ix_list (pv 1) pe_int (fun _ _ => rfl)) pe_int (fun _ _ => rfl)) pa_nil))
        (pk_cons (pe_slice sl_list (pe_ix (r := rIxL K) ix_list (pv 1) pe_int (fun _ _ => rfl)) (po_some pe_int) po_none)
        (pk_cons (pe_slice sl_list (pe_ix (r := rIxL K) ix_list (pv 1) pe_int (fun _ _ => rfl)) (po_some pe_int) po_none)
        (pk_cons (pe_lc (own := [("words", 3)]) (g := gName 3) rfl scParse.nd (pi_list (pv 2)) (blkOk_by (N := nParse) (sc := defScope sParse) (by decide +kernel)) (fun _ _ _ _ _ => pg_name (i := 3) scParse.nd rfl (Or.inl rfl))
            (fun _ _ _ _ _ => pts_one (pt_cmpR (r := rEq) op_eq (pe_ix (r := rIxL K) ix_list (pv 3) pe_int (fun _ _ => rfl)) pe_str (nomark _)))
            (fun _ _ _ _ _ => pe_call GD (hr.mono (by decide)) (by rfl) gD kD bD .nil pass0 (pa_cons (pv 3) pa_nil)))
        (pk_cons (pe_lc (own := [("words", 3)]) (g := gName 3) rfl scParse.nd (pi_list (pv 2)) (blkOk_by (N := nParse) (sc := defScope sParse) (by decide +kernel)) (fun _ _ _ _ _ => pg_name (i := 3) scParse.nd rfl (Or.inl rfl))
            (fun _ _ _ _ _ => pts_one (pt_cmpR (r := rEq) op_eq (pe_ix (r := rIxL K) ix_list (pv 3) pe_int (fun _ _ => rfl)) pe_str (nomark _)))
            (fun _ _ _ _ _ => pe_slice (r := rSlL K) sl_list (pv 3) (po_some pe_int) po_none)) pk_nil)))))))))), ?_⟩
    have els : Txt.split (Txt.join zNl (mapL d ks ps rs bs)) zNl = mapL d ks ps rs bs := by
      rw [mapL_rows]
      exact split_text (by unfold rowsL; simp) fo.plain
    have erw : ((mapL d ks ps rs bs).map fun l => Txt.split l zSp) = rowsL d ks ps rs bs := by
      rw [mapL_rows]
      exact rows_text rowsL_ne fo.plain
    have hll : (rowsL d ks ps rs bs).length ≤ 1000 := by rw [← erw, List.length_map]; exact fo.ln
    have hl3 := rowsL_len d ks ps rs bs
    refine ⟨_, rfl, _, _, rfl, els, fo.zl, fo.ln, fo.ll, hP, fun H1 p rv g1 np hp hrs => ?_⟩
    rw [erw] at hrs
    have R1 : RowsIn H1 p (rowsL d ks ps rs bs) := ⟨⟨rv, hp, hrs⟩, rowsL_ne, fo.wordsOk⟩
    refine ⟨_, rfl, p, _, rfl, R1, by omega, hll, fo.stands, t4.grew g1, fun H2 g12 => ?_⟩
    have g2 := g1.trans g12
    have hp2 := g12.lst g1.tab hp
    have hrs2 : Paired (RowL H2) (rowsL d ks ps rs bs) rv := Paired.map' hrs fun _ _ m => m.grew g12 g1.tab
    refine ⟨_, rfl, HD, _, rfl, .inr HK.sq, _, rfl, p, _, rfl, SqL.of hp2, fun U nU => ?_⟩
    have ec : cutV rv (some ((headsL.map V.str).length : Int)) none = rv.drop 3 := cutV_suf rv 3
    rw [ec]
    have hrs3 : Paired (RowL H2) ([zDayW, iS d] :: (zKinds :: ks) :: (zPlaces :: ps) :: (rs.map roadW ++ bs.map barW)) rv := hrs2
    obtain ⟨v0, rv1, erv, ra, hrs4⟩ : ∃ v0 rv1, rv = v0 :: rv1 ∧ RowL H2 [zDayW, iS d] v0 ∧ Paired (RowL H2) ((zKinds :: ks) :: (zPlaces :: ps) :: (rs.map roadW ++ bs.map barW)) rv1 := by
      cases hrs3 with
      | cons ra r => exact ⟨_, _, rfl, ra, r⟩
    obtain ⟨v1, rv2, erv1, rb, hrs5⟩ : ∃ v1 rv2, rv1 = v1 :: rv2 ∧ RowL H2 (zKinds :: ks) v1 ∧ Paired (RowL H2) ((zPlaces :: ps) :: (rs.map roadW ++ bs.map barW)) rv2 := by
      cases hrs4 with
      | cons ra r => exact ⟨_, _, rfl, ra, r⟩
    obtain ⟨v2, tl, erv2, rc, htl⟩ : ∃ v2 tl, rv2 = v2 :: tl ∧ RowL H2 (zPlaces :: ps) v2 ∧ Paired (RowL H2) (rs.map roadW ++ bs.map barW) tl := by
      cases hrs5 with
      | cons ra r => exact ⟨_, _, rfl, ra, r⟩
    subst erv2 erv1 erv
    obtain ⟨q0, rfl, h0⟩ := ra
    obtain ⟨q1, rfl, h1⟩ := rb
    obtain ⟨q2, rfl, h2⟩ := rc
    have etl : ([V.ref q0, V.ref q1, V.ref q2] ++ tl).drop 3 = tl := rfl
    have ed3 : (V.ref q0 :: V.ref q1 :: V.ref q2 :: tl).drop 3 = tl := rfl
    rw [ed3]
    have ltl := Paired.len htl
    rw [List.length_append, List.length_map, List.length_map] at ltl
    have gU := Grew.new g2.tab (o := .lst tl) nU
    have g3 := g2.trans gU
    have hU : (L2.upd H2 U (.lst tl)) U = some (.lst tl) := upd_same
    have hp3 := gU.lst g2.tab hp2
    have h0' := gU.lst g2.tab h0
    have h1' := gU.lst g2.tab h1
    have h2' := gU.lst g2.tab h2
    have htl3 : Paired (RowL (L2.upd H2 U (.lst tl))) (rs.map roadW ++ bs.map barW) tl := Paired.map' htl fun _ _ m => m.grew gU g2.tab
    generalize L2.upd H2 U (.lst tl) = H3 at gU g3 hU hp3 h0' h1' h2' htl3 ⊢
    have at0 : atI (V.ref q0 :: V.ref q1 :: V.ref q2 :: tl) 0 = some (V.ref q0) := atI_nat (xs := V.ref q0 :: V.ref q1 :: V.ref q2 :: tl) (j := 0) (v := V.ref q0) rfl
    have at1 : atI (V.ref q0 :: V.ref q1 :: V.ref q2 :: tl) 1 = some (V.ref q1) := atI_nat (xs := V.ref q0 :: V.ref q1 :: V.ref q2 :: tl) (j := 1) (v := V.ref q1) rfl
    have at2 : atI (V.ref q0 :: V.ref q1 :: V.ref q2 :: tl) 2 = some (V.ref q2) := atI_nat (xs := V.ref q0 :: V.ref q1 :: V.ref q2 :: tl) (j := 2) (v := V.ref q2) rfl
    -- day
    have ld := iS_len fo.d0 fo.d1
    refine ⟨_, rfl, p, _, 0, .ref q0, rfl, rfl, SqL.of hp3, at0, q0, _, 1, .str (iS d), rfl, rfl, SqL.of h0', rfl, iS d, d, rfl, iS_int fo.d0 fo.d1, by omega, ?_⟩
    -- kinds
    refine ⟨_, rfl, p, _, 1, .ref q1, rfl, rfl, SqL.of hp3, at1, _, rfl, q1, _, rfl, SqL.of h1', fun KI nKI => ?_⟩
    rw [drop1_lst]
    have gK := Grew.new g3.tab (o := .lst (ks.map V.str)) nKI
    have hKI : (L2.upd H3 KI (.lst (((zKinds :: ks).map V.str).drop 1))) KI = some (.lst (ks.map V.str)) := upd_same
    have gK' : Grew P H3 (L2.upd H3 KI (.lst (((zKinds :: ks).map V.str).drop 1))) := gK
    generalize L2.upd H3 KI (.lst (((zKinds :: ks).map V.str).drop 1)) = H4 at hKI gK' ⊢
    clear gK
    have g4 := g3.trans gK'
    have hp4 := gK'.lst g3.tab hp3
    have h2'' := gK'.lst g3.tab h2'
    -- places
    refine ⟨_, rfl, p, _, 2, .ref q2, rfl, rfl, SqL.of hp4, at2, _, rfl, q2, _, rfl, SqL.of h2'', fun PL nPL => ?_⟩
    rw [drop1_lst]
    have gL : Grew P H4 (L2.upd H4 PL (.lst (((zPlaces :: ps).map V.str).drop 1))) := Grew.new g4.tab (o := .lst (((zPlaces :: ps).map V.str).drop 1)) nPL
    have hPL : (L2.upd H4 PL (.lst (((zPlaces :: ps).map V.str).drop 1))) PL = some (.lst (ps.map V.str)) := upd_same
    have hKI5 := gL.lst g4.tab hKI
    generalize L2.upd H4 PL (.lst (((zPlaces :: ps).map V.str).drop 1)) = H5 at gL hPL hKI5 ⊢
    have g5 := g4.trans gL
    have g35 := gK'.trans gL
    have hU5 := g35.lst g3.tab hU
    have htl5 : Paired (RowL H5) (rs.map roadW ++ bs.map barW) tl := Paired.map' htl3 fun _ _ m => m.grew g35 g3.tab
    have first : ∀ {i : Nat} {v : V}, tl[i]? = some v → ∃ (a : Addr) (ws : List Str), v = .ref a ∧ (rs.map roadW ++ bs.map barW)[i]? = some ws ∧ H5 a = some (.lst (ws.map V.str)) := fun hv => by
      obtain ⟨ws, hws, a, e, ha⟩ := Paired.at htl5 hv
      exact ⟨a, ws, e, hws, ha⟩
    -- roads
    refine ⟨_, rfl, U, rfl, ⟨_, SqL.of hU5⟩, fun D nD => lc_list (K := K) (a := U) (xs := tl) (fun i H' => Grew P H5 H' ∧ ∃ acc, H' D = some (.lst acc) ∧ acc.length ≤ i ∧ Paired (RoadAt K H') (rs.take i) acc)
      ⟨Grew.new g5.tab nD, [], upd_same, Nat.le_refl _, .nil⟩ (fun i H' _ h => SqL.of (h.1.lst g5.tab hU5)) (fun i v H' hv h => ?_) (fun H6 h => ?_)⟩
    · obtain ⟨g, acc, hD, hla, hacc⟩ := h
      obtain ⟨a, ws, rfl, hws, ha⟩ := first hv
      have hi : i < tl.length := (List.getElem?_eq_some_iff.mp hv).1
      have ha' := g.lst g5.tab ha
      rcases app_at hws with ⟨li, hr⟩ | ⟨li, hr⟩
      · rw [List.length_map] at li
        rw [List.getElem?_map, List.getElem?_eq_getElem li] at hr
        obtain rfl := Option.some.inj hr
        have fr := fo.r _ (List.getElem_mem li)
        have hm : roadW rs[i] ∈ rowsL d ks ps rs bs := by
          unfold rowsL
          exact List.mem_append_left _ (List.mem_append_right _ (List.mem_map.mpr ⟨_, List.getElem_mem li, rfl⟩))
        have hwl := (fo.wl _ hm).1
        have a0 : atI ((roadW rs[i]).map V.str) 0 = some (.str zRoad) := at_cons (xs := roadW rs[i]) (i := 0) (by unfold roadW headW; simp)
        have et : rs.take (i + 1) = rs.take i ++ [rs[i]] := by rw [List.take_succ, List.getElem?_eq_getElem li]; rfl
        refine ⟨rfl, _, rfl, a, _, 0, _, rfl, rfl, SqL.of ha', a0, rfl, _, rfl, iteT ?_⟩
        refine ⟨_, rfl, a, rs[i], rfl, SqL.of ha', hwl, fr.colons, fr.m0, fr.m1, fr.h, g.tab, fun H7 v g7 hv7 => ?_⟩
        have hD7 := g7.lst g.tab hD
        refine ⟨_, hD7, by rw [sizeLine_eq]; omega, (g.trans g7).write hD7 (fun _ z => by cases z) nD, acc ++ [v], upd_same, by rw [List.length_append]; show _ + 1 ≤ _; omega, ?_⟩
        rw [et]
        have up : ∀ {r : RoadD} {v : V}, RoadAt K H7 r v → RoadAt K (L2.upd H7 D (.lst (acc ++ [v]))) r v := fun m => m.upd (fun xs z => by rw [hD7] at z; cases z) (KeepT.lst hD7)
        exact Paired.snoc (Paired.map' hacc fun _ _ m => (m.grew g7 g.tab).upd (fun xs z => by rw [hD7] at z; cases z) (KeepT.lst hD7)) (hv7.upd (fun xs z => by rw [hD7] at z; cases z) (KeepT.lst hD7))
      · rw [List.length_map] at li hr
        rw [List.getElem?_map] at hr
        obtain ⟨b, hb, rfl⟩ := Option.map_eq_some_iff.mp hr
        have a0 : atI ((barW b).map V.str) 0 = some (.str zBarW) := at_cons (xs := barW b) (i := 0) (by unfold barW; simp)
        refine ⟨rfl, _, rfl, a, _, 0, _, rfl, rfl, SqL.of ha', a0, rfl, _, rfl, ?_⟩
        rw [show decide (V.str zBarW = V.str (Str.ofString "road")) = false by decide +kernel]
        refine iteF ⟨g, acc, hD, by omega, ?_⟩
        rw [take_all li]
        exact hacc
    obtain ⟨g56, accR, hDR, hlR, hpR⟩ := h
    rw [List.take_of_length_le (by omega)] at hpR
    have g6 := g5.trans g56
    have hU6 := g56.lst g5.tab hU5
    have hKI6 := g56.lst g5.tab hKI5
    have hPL6 := g56.lst g5.tab hPL
    -- bars
    refine ⟨_, rfl, U, rfl, ⟨_, SqL.of hU6⟩, fun D2 nD2 => lc_list (K := K) (a := U) (xs := tl) (fun i H' => Grew P H6 H' ∧ ∃ acc, H' D2 = some (.lst acc) ∧ acc.length ≤ i ∧ Paired (fun b v => RowD D2 H' (p2 b) v) (bs.take (i - rs.length)) acc)
      ⟨Grew.new g6.tab nD2, [], upd_same, Nat.le_refl _, by rw [Nat.zero_sub]; exact .nil⟩ (fun i H' _ h => SqL.of (h.1.lst g6.tab hU6)) (fun i v H' hv h => ?_) (fun H7 h => ?_)⟩
    · obtain ⟨g, acc, hD, hla, hacc⟩ := h
      obtain ⟨a, ws, rfl, hws, ha⟩ := first hv
      have hi : i < tl.length := (List.getElem?_eq_some_iff.mp hv).1
      have ha' := g.lst g6.tab (g56.lst g5.tab ha)
      rcases app_at hws with ⟨li, hr⟩ | ⟨li, hr⟩
      · rw [List.length_map] at li
        rw [List.getElem?_map, List.getElem?_eq_getElem li] at hr
        obtain rfl := Option.some.inj hr
        have a0 : atI ((roadW rs[i]).map V.str) 0 = some (.str zRoad) := at_cons (xs := roadW rs[i]) (i := 0) (by unfold roadW headW; simp)
        refine ⟨rfl, _, rfl, a, _, 0, _, rfl, rfl, SqL.of ha', a0, rfl, _, rfl, ?_⟩
        rw [show decide (V.str zRoad = V.str (Str.ofString "bar")) = false by decide +kernel]
        refine iteF ⟨g, acc, hD, by omega, ?_⟩
        have e1 : i + 1 - rs.length = 0 := by omega
        have e2 : i - rs.length = 0 := by omega
        rw [e2] at hacc
        rw [e1]
        exact hacc
      · rw [List.length_map] at li hr
        rw [List.getElem?_map] at hr
        obtain ⟨b, hb, rfl⟩ := Option.map_eq_some_iff.mp hr
        have a0 : atI ((barW b).map V.str) 0 = some (.str zBarW) := at_cons (xs := barW b) (i := 0) (by unfold barW; simp)
        refine ⟨rfl, _, rfl, a, _, 0, _, rfl, rfl, SqL.of ha', a0, rfl, _, rfl, iteT ?_⟩
        refine ⟨_, rfl, _, rfl, a, _, rfl, SqL.of ha', fun u nu => ?_⟩
        rw [drop1_lst]
        have gu : Grew P H' (L2.upd H' u (.lst (((barW b).map V.str).drop 1))) := Grew.new g.tab (o := .lst (((barW b).map V.str).drop 1)) nu
        have hu : (L2.upd H' u (.lst (((barW b).map V.str).drop 1))) u = some (.lst ((p2 b).map V.str)) := upd_same
        have hD7 := gu.lst g.tab hD
        have uD : u ≠ D2 := fun e => by rw [e, hD] at nu; cases nu
        have hacc7 : Paired (fun b v => RowD D2 (L2.upd H' u (.lst (((barW b).map V.str).drop 1))) (p2 b) v) (bs.take (i - rs.length)) acc → True := fun _ => trivial
        refine ⟨_, hD7, by rw [sizeLine_eq]; omega, (g.trans gu).write hD7 (fun _ z => by cases z) nD2, acc ++ [.ref u], upd_same, by rw [List.length_append]; show _ + 1 ≤ _; omega, ?_⟩
        have e1 : i + 1 - rs.length = (i - rs.length) + 1 := by omega
        rw [e1, List.take_succ, hb]
        refine Paired.snoc (Paired.map' hacc fun b' v hw => ?_) ⟨u, rfl, uD, by rw [upd_ne uD]; exact hu⟩
        obtain ⟨a', e, na, qa⟩ := hw
        exact ⟨a', e, na, by rw [upd_ne na]; exact gu.lst g.tab qa⟩
    obtain ⟨g67, accB, hDB, hlB, hpB⟩ := h
    rw [List.take_of_length_le (by omega)] at hpB
    have g7 := g6.trans g67
    refine ⟨rfl, rfl, fun x dx nx ndx nex => ?_⟩
    refine initG_of (ck := true) (cp := true) (cr := true) (cb := true) (xs := accR) (zs := accB) g7.tab nx ndx nex (SqL.of (g67.lst g6.tab hKI6)) (SqL.of (g67.lst g6.tab hPL6)) (SqL.of (g67.lst g6.tab hDR)) (paired_mapl (fun _ _ m => (m.grew g67 g6.tab).gen) hpR) (SqL.of hDB) (Paired.map' hpB fun b v hw => let ⟨a, e, _, qa⟩ := hw; ⟨a, e, .inl qa⟩) fo.sm
      (fun ok H' ks' ps' rs' bs' g nx' q hm => ⟨rfl, kQ ok x H' ks' ps' rs' bs' (g7.trans g) (g7.free nx) q hm⟩) (fun no => (kE no).on g7)
end
end W

set_option Elab.async false
set_option linter.all false
set_option maxRecDepth 100000
set_option maxHeartbeats 4000000
set_option exponentiation.threshold 2000
namespace W
open PySem PySem.Spec PyProof.Rows L2 GxR MyG MyS SqX
/-! ### the lines that the law writes, of roads in lists or in tuples, whatever their numbers -/
structure LineF (r : RoadD) : Prop where
  n : r.name.length ≤ 12
  s : r.start.length ≤ 12
  g : r.goal.length ≤ 12
  m0 : 0 ≤ r.minutes
  m1 : r.minutes ≤ 999999
  ul : r.users.length ≤ 10
  u : ∀ z ∈ r.users, z.length ≤ 12
  hl : ∀ gs, r.hours = some gs → gs.length ≤ 10 ∧ ∀ p ∈ gs, 0 ≤ p.1 ∧ p.1 ≤ 999999 ∧ 0 ≤ p.2 ∧ p.2 ≤ 999999
theorem LineOk.f {r : RoadD} (h : LineOk r) : LineF r := ⟨h.n, h.s, h.g, h.m0, by have := h.m1; omega, by have := h.ul; omega, h.u, fun gs e => ⟨by have := (h.hl gs e).1; omega, fun p hp => by have := (h.hl gs e).2 p hp; omega⟩⟩
theorem pairS_lenF {p : Int × Int} (h : 0 ≤ p.1 ∧ p.1 ≤ 999999 ∧ 0 ≤ p.2 ∧ p.2 ≤ 999999) : (pairS p).length ≤ 13 := by
  unfold pairS
  have e : zMi.length = 1 := by decide +kernel
  have h1 := iS_len h.1 h.2.1
  have h2 := iS_len h.2.2.1 h.2.2.2
  rw [PySem.Str.length_append, PySem.Str.length_append]
  omega
theorem hourW_lenF {hs : Option (List (Int × Int))} (h : ∀ gs, hs = some gs → gs.length ≤ 10 ∧ ∀ p ∈ gs, 0 ≤ p.1 ∧ p.1 ≤ 999999 ∧ 0 ≤ p.2 ∧ p.2 ≤ 999999) : (hourW hs).length ≤ 10 ∧ ∀ z ∈ hourW hs, z.length ≤ 13 := by
  cases hs with
  | none => exact ⟨by show 1 ≤ 10; decide, fun z hz => by rw [List.mem_singleton.mp hz]; decide +kernel⟩
  | some gs =>
    obtain ⟨a, b⟩ := h gs rfl
    refine ⟨by show (gs.map pairS).length ≤ 10; rw [List.length_map]; exact a, fun z hz => ?_⟩
    obtain ⟨p, hp, rfl⟩ := List.mem_map.mp hz
    exact pairS_lenF (b p hp)
theorem headW_lenF {r : RoadD} (h : LineF r) : (headW r).length ≤ 17 ∧ ∀ z ∈ headW r, z.length ≤ 13 := by
  have ul := h.ul
  refine ⟨by unfold headW; simp only [List.length_append, List.length_cons, List.length_nil]; omega, fun z hz => ?_⟩
  unfold headW at hz
  simp only [List.mem_append, List.mem_cons, List.not_mem_nil, or_false] at hz
  rcases hz with ((rfl | rfl | rfl | rfl | rfl | rfl) | hz) | rfl
  · decide +kernel
  · have := h.n; omega
  · have := h.s; omega
  · have := h.g; omega
  · have := iS_len h.m0 h.m1; omega
  · decide +kernel
  · have := h.u z hz; omega
  · decide +kernel
theorem roadW_lenF {r : RoadD} (h : LineF r) : (roadW r).length ≤ 27 ∧ ∀ z ∈ roadW r, z.length ≤ 13 := by
  obtain ⟨a1, a2⟩ := headW_lenF h
  obtain ⟨b1, b2⟩ := hourW_lenF h.hl
  refine ⟨by unfold roadW; rw [List.length_append]; omega, fun z hz => ?_⟩
  unfold roadW at hz
  exact (List.mem_append.mp hz).elim (a2 z) (b2 z)
theorem roadT_lenF {r : RoadD} (h : LineF r) : (roadT r).length ≤ 400 := by
  obtain ⟨a, b⟩ := roadW_lenF h
  have := join_len b
  have h2 : (roadW r).length * (13 + 1) ≤ 27 * 14 := Nat.mul_le_mul_right 14 a
  exact Nat.le_trans this (by omega)
def spLLineG (K : PySem.W.Frag) (P : Addr) : Sp := fun vs H Q _ => ∃ (v : V) (r : RoadD), vs = [v] ∧ GRoadX K H (rG r) v ∧ LineF r ∧ Q (.str (roadT r)) H
section
variable {Pg : Program} {w : World} {K : PySem.W.Frag} {mg : Str → Option Value} {base : Heap} {C P : Addr}
abbrev nLLG : List Str := ["road", "line", "kind", "opened", "closed"]
theorem scLLG : FnScope nLLG ["road"] (defScope sLLine) := ⟨rfl, rfl, rfl, by decide +kernel, rfl, by decide +kernel, by decide +kernel⟩
theorem ok_llineG {f : Addr} {fd : FuncData} (F : Fun K "_law_line" "_law_line" sLLine f fd) (hst : mg "str" = none) : FnOk Pg w K mg base CX0 1 f fd ["road"] (spLLineG K P) := by
  refine F.ok scLLG (fun vs H Q E h => ?_) (fun cdv A outer s H vs Q E hr h => ?_)
  · obtain ⟨v, r, rfl, _⟩ := h
    rfl
  · obtain ⟨v, r, rfl, ⟨t, u, hv, cu, rfl, et, eu, hg⟩, lo, kQ⟩ := h
    refine ⟨_, pss_cons (ps_set (i := 1) scLLG.nd rfl (Or.inl rfl) (pe_op op_add_str (pe_op op_add_str (pe_op op_add_str (pe_op op_add_str (pe_op op_add_str (pe_op op_add_str (pe_op op_add_str (pe_op op_add_str pe_str (pe_ix (r := rIxT K) ix_tup (pv 0) pe_int (fun _ _ => rfl))) pe_str) (pe_ix (r := rIxT K) ix_tup (pv 0) pe_int (fun _ _ => rfl))) pe_str) (pe_ix (r := rIxT K) ix_tup (pv 0) pe_int (fun _ _ => rfl))) pe_str)
          (pe_callTy (T := "str") call_str_int (by rfl) hst (by decide +kernel) (pa_cons (pe_ix (r := rIxT K) ix_tup (pv 0) pe_int (fun _ _ => rfl)) pa_nil))) pe_str))
      (C8.pss_cut (ps_for PassesOwn.never rfl (pi_sq (pe_ix (r := rIxT K) ix_tup (pv 0) pe_int (fun _ _ => rfl))) (pg_name (i := 2) scLLG.nd rfl (Or.inl rfl)) (pss_one (ps_set (i := 1) scLLG.nd rfl (Or.inl rfl) (pe_op op_add_str (pe_op op_add_str (pv 1) pe_str) (pv 2)))))
      (pss_cons (ps_set (i := 1) scLLG.nd rfl (Or.inl rfl) (pe_op op_add_str (pv 1) pe_str))
      (pss_cons (ps_if (pt_cmp (pc_isN (pe_ix (r := rIxT K) ix_tup (pv 0) pe_int (fun _ _ => rfl)))) (pss_one (ps_ret (pe_op op_add_str (pv 1) pe_str))) pss_nil)
      (C8.pss_cut (ps_for PassesOwn.never rfl (pi_sq (pe_ix (r := rIxT K) ix_tup (pv 0) pe_int (fun _ _ => rfl))) (pg_tup (by rfl) (pgs_cons (pg_name (i := 3) scLLG.nd rfl (.inl rfl)) (pgs_cons (pg_name (i := 4) scLLG.nd rfl (.inl rfl)) pgs_nil)))
        (pss_one (ps_set (i := 1) scLLG.nd rfl (Or.inl rfl) (pe_op op_add_str (pe_op op_add_str (pe_op op_add_str (pe_op op_add_str (pv 1) pe_str) (pe_callTy (T := "str") call_str_int (by rfl) hst (by decide +kernel) (pa_cons (pv 3) pa_nil))) pe_str) (pe_callTy (T := "str") call_str_int (by rfl) hst (by decide +kernel) (pa_cons (pv 4) pa_nil))))))
      (pss_one (ps_ret (pv 1))))))), ?_⟩
    have q1 : (Str.ofString "road ").length = 5 := by decide +kernel
    have q2 : (Str.ofString " ").length = 1 := by decide +kernel
    have q3 : (Str.ofString " :").length = 2 := by decide +kernel
    have q4 : (Str.ofString " always").length = 7 := by decide +kernel
    have q5 : (Str.ofString "-").length = 1 := by decide +kernel
    have ln := lo.n
    have ls := lo.s
    have lg := lo.g
    have lm := iS_len lo.m0 lo.m1
    have lm' : (Str.ofString (toString r.minutes)).length ≤ 6 := lm
    have ul := lo.ul
    refine ⟨_, rfl, t, _, 0, .str r.name, rfl, rfl, et, rfl, _, _, rfl, rfl, ?_, _, _, rfl, rfl, ?_, _, rfl, t, _, 1, .str r.start, rfl, rfl, et, rfl, _, _, rfl, rfl, ?_, _, _, rfl, rfl, ?_, _, rfl, t, _, 2, .str r.goal, rfl, rfl, et, rfl, _, _, rfl, rfl, ?_, _, _, rfl, rfl, ?_, _, rfl, t, _, 3, .int r.minutes, rfl, rfl, et, rfl, r.minutes, rfl, log_int lo.m0 lo.m1, _, _, rfl, rfl, ?_, _, _, rfl, rfl, ?_, ?_⟩
    iterate 8
      · try simp only [PySem.Str.length_append]
        rw [sizeLine_eq]
        omega
    have eh := head0_eq r
    obtain ⟨a1, a2⟩ := roadW_lenF lo
    have lj : ∀ {ws : List Str}, ws.length ≤ 27 → (∀ z ∈ ws, z.length ≤ 13) → (Txt.join zSp ws).length ≤ 400 := fun h1 h2 => by
      have := join_len h2
      have h3 := Nat.mul_le_mul_right 14 h1
      omega
    have h0 : ∀ z ∈ head0 r, z.length ≤ 13 := fun z hz => by
      unfold head0 at hz
      simp only [List.mem_cons, List.not_mem_nil, or_false] at hz
      rcases hz with rfl | rfl | rfl | rfl | rfl | rfl
      · decide +kernel
      · omega
      · omega
      · omega
      · omega
      · decide +kernel
    have hu : ∀ (i : Nat), ∀ z ∈ head0 r ++ r.users.take i, z.length ≤ 13 := fun i z hz => by
      rcases List.mem_append.mp hz with h | h
      · exact h0 z h
      · have := lo.u z (List.mem_of_mem_take h); omega
    refine ⟨fun σ H' => H' = H ∧ ∃ v2, σ = [some (.ref t), some (.str (Txt.join zSp (head0 r ++ r.users))), v2, none, none], ?_, ?_⟩
    · refine ⟨_, rfl, t, _, 4, .ref u, rfl, rfl, et, rfl, cu, u, rfl, ⟨_, eu⟩, for_sq (K := K) (c := cu) (a := u) (xs := r.users.map V.str) (fun i σ H' => H' = H ∧ ∃ v2, σ = [some (.ref t), some (.str (Txt.join zSp (head0 r ++ r.users.take i))), v2, none, none])
        ⟨rfl, none, ?_⟩ (fun i σ H' _ h => by rw [h.1]; exact eu) ?_ ?_⟩
      · rw [List.take_zero, List.append_nil, ← eh]
        rfl
      · rintro i y σ H' hy ⟨rfl, v2, rfl⟩
        rw [List.getElem?_map] at hy
        obtain ⟨k, hk, rfl⟩ := Option.map_eq_some_iff.mp hy
        have hlj := lj (ws := head0 r ++ r.users.take i) (by rw [List.length_append, List.length_take]; show 6 + _ ≤ _; omega) (hu i)
        have lk := lo.u k (List.mem_of_getElem? hk)
        refine ⟨_, rfl, _, _, rfl, rfl, by rw [q2, sizeLine_eq]; omega, _, rfl, _, _, rfl, rfl, by rw [PySem.Str.length_append, q2, sizeLine_eq]; omega, rfl, some (.str k), ?_⟩
        have e : head0 r ++ r.users.take (i + 1) = (head0 r ++ r.users.take i) ++ [k] := by rw [List.take_succ, hk, List.append_assoc]; rfl
        rw [e, join_snoc (by unfold head0; simp)]
        rfl
      · rintro σ H' ⟨rfl, v2, rfl⟩
        rw [List.length_map, List.take_length]
        exact ⟨rfl, v2, rfl⟩
    rintro σ H' ⟨rfl, v2, rfl⟩
    have hw : ∀ z ∈ head0 r ++ r.users, z.length ≤ 13 := fun z hz => hu r.users.length z (by rw [List.take_length]; exact hz)
    have l1 := lj (ws := head0 r ++ r.users) (by rw [List.length_append]; show 6 + _ ≤ _; omega) hw
    have eW : headW r = (head0 r ++ r.users) ++ [zCo] := rfl
    have e2 : Str.ofString " :" = zSp ++ zCo := TL.ext_tl (by rw [TL.tl_append]; decide +kernel)
    have eJ : Txt.join zSp (head0 r ++ r.users) ++ Str.ofString " :" = Txt.join zSp (headW r) := by
      rw [eW, join_snoc (by unfold head0; simp), e2, app_assoc]
    have l2 := roadT_lenF lo
    obtain ⟨b1, b2⟩ := headW_lenF lo
    have l3 := lj (ws := headW r) (by omega) b2
    refine ⟨_, rfl, _, _, rfl, rfl, by rw [q3, sizeLine_eq]; omega, ?_⟩
    rw [eJ]
    refine ⟨_, rfl, t, _, 5, hv, rfl, rfl, et, rfl, _, rfl, ?_⟩
    have hg : GHoursX K H' (hoursG r.hours) hv := hg
    obtain ⟨hs0, ehs⟩ : ∃ hs0, hs0 = r.hours := ⟨_, rfl⟩
    cases hs0 with
    | none =>
      rw [← ehs] at hg
      have ev : hv = .non := hg
      subst ev
      refine if_t rfl ⟨_, rfl, _, _, rfl, rfl, by rw [q4, sizeLine_eq]; omega, ?_⟩
      have e4 : Str.ofString " always" = zSp ++ zAlw := TL.ext_tl (by rw [TL.tl_append]; decide +kernel)
      have eR : Txt.join zSp (headW r) ++ Str.ofString " always" = roadT r := by
        unfold roadT roadW
        rw [← ehs, e4]
        show _ = Txt.join zSp (headW r ++ [zAlw])
        rw [join_snoc (by unfold headW; simp), app_assoc]
      rw [eR]
      exact kQ
    | some gs =>
      obtain ⟨g4, gp⟩ := lo.hl gs ehs.symm
      rw [← ehs] at hg
      obtain ⟨l, xs, ch, rfl, hl, hx⟩ := hg
      have lx := Paired.len hx
      rw [List.length_map] at lx
      refine if_f rfl ?_
      have hp : ∀ (i : Nat), ∀ z ∈ headW r ++ (gs.map pairS).take i, z.length ≤ 13 := fun i z hz => by
        rcases List.mem_append.mp hz with h | h
        · exact b2 z h
        · obtain ⟨p, hp, rfl⟩ := List.mem_map.mp (List.mem_of_mem_take h)
          exact pairS_lenF (gp p hp)
      refine ⟨fun σ H1 => H1 = H' ∧ ∃ v2 v3 v4, σ = [some (.ref t), some (.str (Txt.join zSp (headW r ++ gs.map pairS))), v2, v3, v4], ?_, ?_⟩
      · refine ⟨_, rfl, t, _, 5, .ref l, rfl, rfl, et, rfl, ch, l, rfl, ⟨_, hl⟩, for_sq (K := K) (c := ch) (a := l) (xs := xs) (fun i σ H1 => H1 = H' ∧ ∃ v2 v3 v4, σ = [some (.ref t), some (.str (Txt.join zSp (headW r ++ (gs.map pairS).take i))), v2, v3, v4])
          ⟨rfl, v2, none, none, by rw [List.take_zero, List.append_nil]; rfl⟩ (fun i σ H1 _ h => by rw [h.1]; exact hl) ?_ ?_⟩
        · rintro i y σ H1 hy ⟨rfl, v2, v3, v4, rfl⟩
          obtain ⟨p', hpi', tp, rfl, htp⟩ := Paired.at hx hy
          rw [List.getElem?_map] at hpi'
          obtain ⟨p, hpi, rfl⟩ := Option.map_eq_some_iff.mp hpi'
          obtain ⟨p0, p1, p2, p3⟩ := gp p (List.mem_of_getElem? hpi)
          have hi := (List.getElem?_eq_some_iff.mp hpi).1
          have hlj := lj (ws := headW r ++ (gs.map pairS).take i) (by rw [List.length_append, List.length_take, List.length_map]; omega) (hp i)
          have n1 : (Str.ofString (toString p.1)).length ≤ 6 := iS_len p0 p1
          have n2 : (Str.ofString (toString p.2)).length ≤ 6 := iS_len p2 p3
          refine ⟨tp, _, rfl, htp, rfl, _, _, rfl, _, _, rfl, rfl, _, rfl, _, _, rfl, rfl, ?_, _, rfl, p.1, rfl, log_int p0 p1, _, _, rfl, rfl, ?_, _, _, rfl, rfl, ?_, _, rfl, p.2, rfl, log_int p2 p3, _, _, rfl, rfl, ?_, rfl, v2, some (.int p.1), some (.int p.2), ?_⟩
          iterate 4
            · try simp only [PySem.Str.length_append]
              rw [sizeLine_eq]
              omega
          have e : (gs.map pairS).take (i + 1) = (gs.map pairS).take i ++ [pairS p] := by rw [List.take_succ, List.getElem?_map, hpi]; rfl
          rw [e, ← List.append_assoc, join_snoc (by unfold headW; simp)]
          unfold pairS
          rw [← app_assoc, ← app_assoc]
          rfl
        · rintro σ H1 ⟨rfl, v2, v3, v4, rfl⟩
          have e : (gs.map pairS).take xs.length = gs.map pairS := List.take_of_length_le (by rw [List.length_map]; omega)
          rw [e]
          exact ⟨rfl, v2, v3, v4, rfl⟩
      rintro σ H1 ⟨rfl, v2, v3, v4, rfl⟩
      have eR : Txt.join zSp (headW r ++ gs.map pairS) = roadT r := by
        unfold roadT roadW
        rw [← ehs]
        rfl
      rw [eR]
      exact ⟨_, rfl, kQ⟩
end
theorem GRoadX.ofAt {K : PySem.W.Frag} {H : Hp} {r : RoadD} {v : V} (m : RoadAt K H r v) : GRoadX K H (rG r) v := m.gen
theorem GRoadX.ofL {K : PySem.W.Frag} {H : Hp} {r : RoadD} {v : V} (m : RoadL H r v) : GRoadX K H (rG r) v := m.gen
end W

set_option Elab.async false
set_option linter.all false
set_option maxRecDepth 100000
set_option maxHeartbeats 4000000
set_option exponentiation.threshold 2000
namespace W
open PySem PySem.Spec PyProof.Rows L2 GxR MyG MyS SqX
/-! ### all lines that the law writes -/
abbrev sLLines : Stmt := top 61
/-- parts in lists or in tuples -/
def PartsG (K : PySem.W.Frag) (H : Hp) (p : Addr) (d : Int) (ks ps : List Str) (rs : List RoadD) (bs : List (Str × Str)) : Prop := ∃ pl ki ro ba c1 c2 c3 c4 xs zs, H p = some (.tup [.int d, .ref pl, .ref ki, .ref ro, .ref ba]) ∧
  SqK c1 K H pl (ps.map V.str) ∧ SqK c2 K H ki (ks.map V.str) ∧ SqK c3 K H ro xs ∧ Paired (fun r v => GRoadX K H (rG r) v) rs xs ∧ SqK c4 K H ba zs ∧ Paired (GBar H) bs zs
theorem FrozAt.g {K : PySem.W.Frag} {H : Hp} {p : Addr} {d : Int} {ks ps : List Str} {rs : List RoadD} {bs : List (Str × Str)} (m : FrozAt K H p d ks ps rs bs) : PartsG K H p d ks ps rs bs := by
  obtain ⟨pl, ki, ro, ba, xs, zs, e0, e1, e2, e3, e4, e5, e6⟩ := m
  exact ⟨pl, ki, ro, ba, false, false, false, false, xs, zs, e0, SqT.of e1, SqT.of e2, SqT.of e3, Paired.map' e4 fun _ _ m => m.gen, SqT.of e5, e6⟩
theorem PartsL.g {K : PySem.W.Frag} {H : Hp} {p : Addr} {d : Int} {ks ps : List Str} {rs : List RoadD} {bs : List (Str × Str)} (m : PartsL H p d ks ps rs bs) : PartsG K H p d ks ps rs bs := by
  obtain ⟨pl, ki, ro, ba, xs, zs, e0, e1, e2, e3, e4, e5, e6⟩ := m
  exact ⟨pl, ki, ro, ba, true, true, true, true, xs, zs, e0, SqL.of e1, SqL.of e2, SqL.of e3, Paired.map' e4 fun _ _ m => m.gen, SqL.of e5, e6⟩
/-- parts whose lines are short -/
structure LinesF (d : Int) (ks ps : List Str) (rs : List RoadD) (bs : List (Str × Str)) : Prop where
  d0 : 0 ≤ d
  d1 : d ≤ 999999
  k : ∀ z ∈ ks, z.length ≤ 12
  kl : ks.length ≤ 40
  p : ∀ z ∈ ps, z.length ≤ 12
  pl : ps.length ≤ 40
  r : ∀ r ∈ rs, LineF r
  rl : rs.length ≤ 70
  b : ∀ b ∈ bs, b.1.length ≤ 12 ∧ b.2.length ≤ 12
  bl : bs.length ≤ 50
theorem PartsOk.linesF {d : Int} {ks ps : List Str} {rs : List RoadD} {bs : List (Str × Str)} (h : PartsOk d ks ps rs bs) : LinesF d ks ps rs bs :=
  ⟨by have := h.d1; omega, by have := h.d2; omega, nm12 h.kn, by have := h.k2; omega, nm12 h.pn, by have := h.p2; omega, fun r hr => (line_ok h hr).f, by have := h.r.len; omega, fun b hb => bar_len h hb, by have := h.b.len; omega⟩
def spLLinesG (K : PySem.W.Frag) (P : Addr) : Sp := fun vs H Q _ => ∃ (p : Addr) (d : Int) (ks ps : List Str) (rs : List RoadD) (bs : List (Str × Str)), vs = [.ref p] ∧ PartsG K H p d ks ps rs bs ∧ LinesF d ks ps rs bs ∧ TabG H P ∧
  ∀ H' L, Grew P H H' → H L = none → H' L = some (.lst ((mapL d ks ps rs bs).map V.str)) → Q (.ref L) H'
section
variable {Pg : Program} {w : World} {K : PySem.W.Frag} {mg : Str → Option Value} {base : Heap} {C P : Addr}
abbrev nLi : List Str := ["parts", "lines", "kind", "place", "road", "bar"]
theorem scLi : FnScope nLi ["parts"] (defScope sLLines) := ⟨rfl, rfl, rfl, by decide +kernel, rfl, by decide +kernel, by decide +kernel⟩
theorem names_step {h : Str} {ns : List Str} {i : Nat} {z : Str} (hz : ns[i]? = some z) : (Txt.join zSp (h :: ns.take i) ++ zSp) ++ z = Txt.join zSp (h :: ns.take (i + 1)) := by
  have e : h :: ns.take (i + 1) = (h :: ns.take i) ++ [z] := by rw [List.take_succ, hz]; rfl
  rw [e, join_snoc (by simp)]
theorem names_short {h : Str} {ns : List Str} (i : Nat) (hn : ∀ z ∈ ns, z.length ≤ 12) (hh : h.length ≤ 12) (hl : ns.length ≤ 40) : (Txt.join zSp (h :: ns.take i)).length ≤ 533 := by
  have := (names_len (ns := ns.take i) (h := h) (k := 40) (fun z hz => hn z (List.mem_of_mem_take hz)) hh (by rw [List.length_take]; omega)).1
  omega
theorem ok_llinesG {f fL : Addr} {fd fdL : FuncData} (F : Fun K "_law_lines" "_law_lines" sLLines f fd) (hst : mg "str" = none)
    (GL : FnOk Pg w K mg base CX0 1 fL fdL ["road"] (spLLineG K P)) (gL : mg "_law_line" = some (.ref fL)) (kL : PySem.W.keepIn K (.ref fL) = true) (bL : Binds K fdL ["road"] []) :
    FnOk Pg w K mg base CX0 2 f fd ["parts"] (spLLinesG K P) := by
  refine F.ok scLi (fun vs H Q E h => ?_) (fun cdv A outer s H vs Q E hr h => ?_)
  · obtain ⟨p, d, ks, ps, rs, bs, rfl, _⟩ := h
    rfl
  · obtain ⟨p, d, ks, ps, rs, bs, rfl, ⟨pl, ki, ro, ba, c1, c2, c3, c4, xs, zs, e0, e1, e2, e3, e4, e5, e6⟩, ok, hP, kQ⟩ := h
    have hr1 : Room 1 _ := hr.mono (by decide)
    refine ⟨_, pss_cons (ps_set (i := 1) scLi.nd rfl (Or.inl rfl) (pe_lst (pa_cons (pe_op op_add_str pe_str (pe_callTy (T := "str") call_str_int (by rfl) hst (by decide +kernel) (pa_cons (pe_ix (r := rIxT K) ix_tup (pv 0) pe_int (fun _ _ => rfl)) pa_nil))) (pa_cons pe_str (pa_cons pe_str pa_nil)))))
      (C8.pss_cut (ps_for PassesOwn.never rfl (pi_sq (pe_ix (r := rIxT K) ix_tup (pv 0) pe_int (fun _ _ => rfl))) (pg_name (i := 2) scLi.nd rfl (Or.inl rfl)) (pss_one (ps_asg (pe_op op_add_str (pe_op op_add_str (pe_ix (r := rIxL K) ix_list (pv 1) pe_int (fun _ _ => rfl)) pe_str) (pv 2)) (pg_sub (pv 1) pe_int set_list))))
      (C8.pss_cut (ps_for PassesOwn.never rfl (pi_sq (pe_ix (r := rIxT K) ix_tup (pv 0) pe_int (fun _ _ => rfl))) (pg_name (i := 3) scLi.nd rfl (Or.inl rfl)) (pss_one (ps_asg (pe_op op_add_str (pe_op op_add_str (pe_ix (r := rIxL K) ix_list (pv 1) pe_int (fun _ _ => rfl)) pe_str) (pv 3)) (pg_sub (pv 1) pe_int set_list))))
      (C8.pss_cut (ps_for PassesOwn.never rfl (pi_sq (pe_ix (r := rIxT K) ix_tup (pv 0) pe_int (fun _ _ => rfl))) (pg_name (i := 4) scLi.nd rfl (Or.inl rfl)) (pss_one (ps_expr (pe_bm PySem.F.plainAttrs_list PySem.F.slot_list_append PySem.F.type_list_append mt_append (pv 1) (pa_cons (pe_call GL hr1 (by rfl) gL kL bL .nil pass0 (pa_cons (pv 4) pa_nil)) pa_nil)))))
      (C8.pss_cut (ps_for PassesOwn.never rfl (pi_sq (pe_ix (r := rIxT K) ix_tup (pv 0) pe_int (fun _ _ => rfl))) (pg_name (i := 5) scLi.nd rfl (Or.inl rfl)) (pss_one (ps_expr (pe_bm PySem.F.plainAttrs_list PySem.F.slot_list_append PySem.F.type_list_append mt_append (pv 1) (pa_cons (pe_op op_add_str (pe_op op_add_str (pe_op op_add_str pe_str (pe_ix (r := rIxT K) ix_tup (pv 5) pe_int (fun _ _ => rfl))) pe_str) (pe_ix (r := rIxT K) ix_tup (pv 5) pe_int (fun _ _ => rfl))) pa_nil)))))
      (pss_one (ps_ret (pv 1))))))), ?_⟩
    have r60 := ok.rl
    have b40 := ok.bl
    have d0 := ok.d0
    have d6 := ok.d1
    have k4 := ok.kl
    have p30 := ok.pl
    have lxs := Paired.len e4
    have lzs := Paired.len e6
    have lid : (Str.ofString (toString d)).length ≤ 6 := iS_len d0 d6
    have q0 : (Str.ofString "day ").length = 4 := by decide +kernel
    have q1 : (Str.ofString "bar ").length = 4 := by decide +kernel
    have q2 : (Str.ofString " ").length = 1 := by decide +kernel
    have ek : zKinds.length ≤ 12 := by decide +kernel
    have ep : zPlaces.length ≤ 12 := by decide +kernel
    refine ⟨_, rfl, p, _, 0, .int d, rfl, rfl, SqT.of e0, rfl, d, rfl, log_int d0 d6, _, _, rfl, rfl, by rw [q0, sizeLine_eq]; omega, (show 3 ≤ sizeLine by decide), fun L nL => ?_⟩
    obtain ⟨l0, el0⟩ : ∃ l0, l0 = zDay ++ iS d := ⟨_, rfl⟩
    have f1 : L2.upd H L (.lst [V.str (Str.ofString "day " ++ Str.ofString (toString d)), V.str (Str.ofString "kinds"), V.str (Str.ofString "places")]) = L2.upd H L (.lst [V.str l0, V.str zKinds, V.str zPlaces]) := by rw [el0]; rfl
    rw [f1]
    have g1 := Grew.new hP (o := .lst [V.str l0, V.str zKinds, V.str zPlaces]) nL
    have hL1 : (L2.upd H L (.lst [V.str l0, V.str zKinds, V.str zPlaces])) L = some (.lst [V.str l0, V.str zKinds, V.str zPlaces]) := upd_same
    generalize L2.upd H L (.lst [V.str l0, V.str zKinds, V.str zPlaces]) = H1 at g1 hL1 ⊢
    -- kinds
    refine ⟨fun σ H' => ∃ v2, σ = [some (.ref p), some (.ref L), v2, none, none, none] ∧ Grew P H H' ∧ H' L = some (.lst [V.str l0, V.str (Txt.join zSp (zKinds :: ks)), V.str zPlaces]), ?_, ?_⟩
    · refine ⟨_, rfl, p, _, 2, .ref ki, rfl, rfl, SqT.of (g1.tup hP e0), rfl, c2, ki, rfl, ⟨_, e2.grew g1 hP⟩, for_sq (K := K) (c := c2) (a := ki) (xs := ks.map V.str) (fun i σ H' => ∃ v2, σ = [some (.ref p), some (.ref L), v2, none, none, none] ∧ Grew P H H' ∧ H' L = some (.lst [V.str l0, V.str (Txt.join zSp (zKinds :: ks.take i)), V.str zPlaces]))
        ⟨none, rfl, g1, by rw [List.take_zero, join_one]; exact hL1⟩ (fun i σ H' _ h => by obtain ⟨_, _, g, _⟩ := h; exact e2.grew g hP) ?_ ?_⟩
      · rintro i y σ H2 hy ⟨v2, rfl, g2, hL2⟩
        rw [List.getElem?_map] at hy
        obtain ⟨z, hz, rfl⟩ := Option.map_eq_some_iff.mp hy
        have lz := ok.k z (List.mem_of_getElem? hz)
        have lj := names_short (h := zKinds) i ok.k ek (by omega)
        refine ⟨_, rfl, L, _, 1, _, rfl, rfl, SqL.of hL2, rfl, _, _, rfl, rfl, by rw [q2, sizeLine_eq]; omega, _, rfl, _, _, rfl, rfl, by rw [PySem.Str.length_append, q2, sizeLine_eq]; omega, _, rfl, L, _, 1, 1, rfl, rfl, hL2, rfl, some (.str z), rfl, g2.write hL2 (fun _ z => by cases z) nL, ?_⟩
        rw [upd_same, ← names_step hz]
        rfl
      · rintro σ H2 ⟨v2, rfl, g2, hL2⟩
        rw [List.length_map, List.take_length] at hL2
        exact ⟨v2, rfl, g2, hL2⟩
    rintro σ H2 ⟨v2, rfl, g2, hL2⟩
    obtain ⟨l1, el1⟩ : ∃ l1, l1 = Txt.join zSp (zKinds :: ks) := ⟨_, rfl⟩
    rw [← el1] at hL2
    -- places
    refine ⟨fun σ H' => ∃ v3, σ = [some (.ref p), some (.ref L), v2, v3, none, none] ∧ Grew P H H' ∧ H' L = some (.lst [V.str l0, V.str l1, V.str (Txt.join zSp (zPlaces :: ps))]), ?_, ?_⟩
    · refine ⟨_, rfl, p, _, 1, .ref pl, rfl, rfl, SqT.of (g2.tup hP e0), rfl, c1, pl, rfl, ⟨_, e1.grew g2 hP⟩, for_sq (K := K) (c := c1) (a := pl) (xs := ps.map V.str) (fun i σ H' => ∃ v3, σ = [some (.ref p), some (.ref L), v2, v3, none, none] ∧ Grew P H H' ∧ H' L = some (.lst [V.str l0, V.str l1, V.str (Txt.join zSp (zPlaces :: ps.take i))]))
        ⟨none, rfl, g2, by rw [List.take_zero, join_one]; exact hL2⟩ (fun i σ H' _ h => by obtain ⟨_, _, g, _⟩ := h; exact e1.grew g hP) ?_ ?_⟩
      · rintro i y σ H3 hy ⟨v3, rfl, g3, hL3⟩
        rw [List.getElem?_map] at hy
        obtain ⟨z, hz, rfl⟩ := Option.map_eq_some_iff.mp hy
        have lz := ok.p z (List.mem_of_getElem? hz)
        have lj := names_short (h := zPlaces) i ok.p ep (by omega)
        refine ⟨_, rfl, L, _, 2, _, rfl, rfl, SqL.of hL3, rfl, _, _, rfl, rfl, by rw [q2, sizeLine_eq]; omega, _, rfl, _, _, rfl, rfl, by rw [PySem.Str.length_append, q2, sizeLine_eq]; omega, _, rfl, L, _, 2, 2, rfl, rfl, hL3, rfl, some (.str z), rfl, g3.write hL3 (fun _ z => by cases z) nL, ?_⟩
        rw [upd_same, ← names_step hz]
        rfl
      · rintro σ H3 ⟨v3, rfl, g3, hL3⟩
        rw [List.length_map, List.take_length] at hL3
        exact ⟨v3, rfl, g3, hL3⟩
    rintro σ H3 ⟨v3, rfl, g3, hL3⟩
    obtain ⟨l3, el3⟩ : ∃ l3, l3 = [l0, l1, Txt.join zSp (zPlaces :: ps)] := ⟨_, rfl⟩
    have ll3 : l3.length = 3 := by rw [el3]; rfl
    have hL3' : H3 L = some (.lst (l3.map V.str)) := by rw [hL3, el3]; rfl
    -- roads
    refine ⟨fun σ H' => ∃ v4, σ = [some (.ref p), some (.ref L), v2, v3, v4, none] ∧ Grew P H H' ∧ H' L = some (.lst ((l3 ++ rs.map roadT).map V.str)), ?_, ?_⟩
    · refine ⟨_, rfl, p, _, 3, .ref ro, rfl, rfl, SqT.of (g3.tup hP e0), rfl, c3, ro, rfl, ⟨_, e3.grew g3 hP⟩, for_sq (K := K) (c := c3) (a := ro) (xs := xs) (fun i σ H' => ∃ v4, σ = [some (.ref p), some (.ref L), v2, v3, v4, none] ∧ Grew P H H' ∧ H' L = some (.lst ((l3 ++ (rs.take i).map roadT).map V.str)))
        ⟨none, rfl, g3, by rw [List.take_zero, List.map_nil, List.append_nil]; exact hL3'⟩ (fun i σ H' _ h => by obtain ⟨_, _, g, _⟩ := h; exact e3.grew g hP) ?_ ?_⟩
      · rintro i y σ H4 hy ⟨v4, rfl, g4, hL4⟩
        obtain ⟨r, hr1, m⟩ := Paired.at e4 hy
        have hi := (List.getElem?_eq_some_iff.mp hr1).1
        refine ⟨_, rfl, .inl ⟨rfl, _, SqL.of hL4⟩, _, rfl, y, r, rfl, m.grew g4 hP, ok.r r (List.mem_of_getElem? hr1), L, _, _, rfl, rfl, hL4, by simp only [List.length_map, List.length_append, List.length_take]; rw [sizeLine_eq]; omega, some y, rfl, g4.write hL4 (fun _ z => by cases z) nL, ?_⟩
        rw [upd_same, List.take_succ, hr1, List.map_append (f := roadT), ← List.append_assoc]
        exact congrArg (fun z => some (HO.lst z)) (List.map_append (f := V.str) (l₁ := l3 ++ (rs.take i).map roadT) (l₂ := [roadT r])).symm
      · rintro σ H4 ⟨v4, rfl, g4, hL4⟩
        rw [← lxs, List.take_length] at hL4
        exact ⟨v4, rfl, g4, hL4⟩
    rintro σ H4 ⟨v4, rfl, g4, hL4⟩
    obtain ⟨l4, el4⟩ : ∃ l4, l4 = l3 ++ rs.map roadT := ⟨_, rfl⟩
    have ll4 : l4.length ≤ 73 := by rw [el4, List.length_append, List.length_map]; omega
    rw [← el4] at hL4
    -- bars
    refine ⟨fun σ H' => ∃ v5, σ = [some (.ref p), some (.ref L), v2, v3, v4, v5] ∧ Grew P H H' ∧ H' L = some (.lst ((mapL d ks ps rs bs).map V.str)), ?_, ?_⟩
    · refine ⟨_, rfl, p, _, 4, .ref ba, rfl, rfl, SqT.of (g4.tup hP e0), rfl, c4, ba, rfl, ⟨_, e5.grew g4 hP⟩, for_sq (K := K) (c := c4) (a := ba) (xs := zs) (fun i σ H' => ∃ v5, σ = [some (.ref p), some (.ref L), v2, v3, v4, v5] ∧ Grew P H H' ∧ H' L = some (.lst ((l4 ++ (bs.take i).map barT).map V.str)))
        ⟨none, rfl, g4, by rw [List.take_zero, List.map_nil, List.append_nil]; exact hL4⟩ (fun i σ H' _ h => by obtain ⟨_, _, g, _⟩ := h; exact e5.grew g hP) ?_ ?_⟩
      · rintro i y σ H5 hy ⟨v5, rfl, g5, hL5⟩
        obtain ⟨b, hb1, m⟩ := Paired.at e6 hy
        have hi := (List.getElem?_eq_some_iff.mp hb1).1
        obtain ⟨n1, n2⟩ := ok.b b (List.mem_of_getElem? hb1)
        obtain ⟨t, rfl, et⟩ := m.grew g5 hP
        refine ⟨_, rfl, .inl ⟨rfl, _, SqL.of hL5⟩, _, rfl, t, _, 0, .str b.1, rfl, rfl, SqT.of et, rfl, _, _, rfl, rfl, by rw [q1, sizeLine_eq]; omega, _, _, rfl, rfl, by rw [PySem.Str.length_append, q1, q2, sizeLine_eq]; omega, _, rfl, t, _, 1, .str b.2, rfl, rfl, SqT.of et, rfl, _, _, rfl, rfl, by rw [PySem.Str.length_append, PySem.Str.length_append, q1, q2, sizeLine_eq]; omega, L, _, _, rfl, rfl, hL5, by simp only [List.length_map, List.length_append, List.length_take]; rw [sizeLine_eq]; omega, some (.ref t), rfl, g5.write hL5 (fun _ z => by cases z) nL, ?_⟩
        rw [upd_same, List.take_succ, hb1, List.map_append (f := barT), ← List.append_assoc]
        exact congrArg (fun z => some (HO.lst z)) (List.map_append (f := V.str) (l₁ := l4 ++ (bs.take i).map barT) (l₂ := [barT b])).symm
      · rintro σ H5 ⟨v5, rfl, g5, hL5⟩
        rw [← lzs, List.take_length, el4, el3, el0, el1] at hL5
        exact ⟨v5, rfl, g5, hL5⟩
    rintro σ H5 ⟨v5, rfl, g5, hL5⟩
    exact ⟨_, rfl, kQ _ L g5 nL hL5⟩
end
/-! ### sizes of the text -/
theorem mapL_lenF {d : Int} {ks ps : List Str} {rs : List RoadD} {bs : List (Str × Str)} (h : LinesF d ks ps rs bs) : (mapL d ks ps rs bs).length ≤ 123 ∧ ∀ z ∈ mapL d ks ps rs bs, z.length ≤ 533 := by
  have r60 := h.rl
  have b40 := h.bl
  refine ⟨by unfold mapL; simp only [List.length_append, List.length_cons, List.length_nil, List.length_map]; omega, fun z hz => ?_⟩
  unfold mapL at hz
  simp only [List.mem_append, List.mem_cons, List.not_mem_nil, or_false, List.mem_map] at hz
  have e : zDay.length = 4 := by decide +kernel
  have ek : zKinds.length ≤ 12 := by decide +kernel
  have ep : zPlaces.length ≤ 12 := by decide +kernel
  rcases hz with ((rfl | rfl | rfl) | ⟨r, hr, rfl⟩) | ⟨b, hb, rfl⟩
  · have := iS_len h.d0 h.d1
    rw [PySem.Str.length_append]; omega
  · have := (names_len h.k ek h.kl).1; omega
  · have := (names_len h.p ep h.pl).1; omega
  · have := roadT_lenF (h.r r hr); omega
  · have := barT_len (h.b b hb); omega
theorem mapT_lenF {d : Int} {ks ps : List Str} {rs : List RoadD} {bs : List (Str × Str)} (h : LinesF d ks ps rs bs) : (Txt.join zNl (mapL d ks ps rs bs)).length ≤ 100000 := by
  obtain ⟨a, b⟩ := mapL_lenF h
  have h1 : (Txt.join zNl (mapL d ks ps rs bs)).length ≤ (mapL d ks ps rs bs).length * (533 + 1) := by
    rw [str_len]
    show (TL.tl (Txt.join zNl _)).length ≤ _
    rw [TL.join_eq, TL.tl_join]
    have e : (TL.tl zNl).length = 1 := by decide +kernel
    have := joinL_len (TL.tl zNl) ((mapL d ks ps rs bs).map TL.tl) 533 fun p hp => by
      obtain ⟨w, hw, rfl⟩ := List.mem_map.mp hp
      have := b w hw
      rw [str_len] at this
      exact this
    rw [List.length_map, e] at this
    exact this
  have h2 : (mapL d ks ps rs bs).length * (533 + 1) ≤ 123 * 534 := Nat.mul_le_mul_right 534 a
  omega
theorem LinesF.sm {d : Int} {ks ps : List Str} {rs : List RoadD} {bs : List (Str × Str)} (h : LinesF d ks ps rs bs) : PartsSm d ks ps rs bs := by
  have h1 := h.d0
  have h2 := h.d1
  have h3 := h.kl
  have h4 := h.pl
  have h5 := h.rl
  have h6 := h.bl
  refine ⟨⟨by omega, by omega, fun z hz => by have := h.k z hz; omega, by omega, fun z hz => by have := h.p z hz; omega, by rw [List.length_map]; omega, fun r hr => ?_, by rw [List.length_map]; omega, fun b hb z hz => ?_⟩⟩
  · obtain ⟨r0, hr0, e⟩ := List.mem_map.mp hr
    have e' : r = rG r0 := (Sum.inl.inj e).symm
    subst e'
    have l := h.r r0 hr0
    have l1 := l.n
    have l2 := l.s
    have l3 := l.g
    have l4 := l.m0
    have l5 := l.m1
    have l6 := l.ul
    refine ⟨by show r0.name.length ≤ _; omega, by show r0.start.length ≤ _; omega, by show r0.goal.length ≤ _; omega, by show r0.minutes.natAbs < _; omega, by show r0.users.length ≤ _; omega, fun z hz => by have := l.u z hz; omega, fun ps e => ?_⟩
    have e2 : hoursG r0.hours = some ps := e
    cases c : r0.hours with
    | none => rw [c] at e2; cases e2
    | some gs =>
      rw [c] at e2
      have e3 : gs.map (fun p : Int × Int => [p.1, p.2]) = ps := Option.some.inj e2
      rw [← e3, List.length_map]
      have := (l.hl gs c).1
      omega
  · obtain ⟨b0, hb0, rfl⟩ := List.mem_map.mp hb
    obtain ⟨a1, a2⟩ := h.b b0 hb0
    unfold p2 at hz
    simp only [List.mem_cons, List.not_mem_nil, or_false] at hz
    rcases hz with rfl | rfl <;> omega
/-- names everywhere, and short: the text has the right form -/
theorem LinesF.form {d : Int} {ks ps : List Str} {rs : List RoadD} {bs : List (Str × Str)} (h : LinesF d ks ps rs bs) (kn : ks.all isNm = true) (pn : ps.all isNm = true) (rn : ∀ r ∈ rs, isNm r.name = true ∧ isNm r.start = true ∧ isNm r.goal = true ∧ r.users.all isNm = true) (bn : ∀ b ∈ bs, isNm b.1 = true ∧ isNm b.2 = true) : FormP d ks ps rs bs := by
  obtain ⟨a, b⟩ := mapL_lenF h
  refine ⟨h.d0, h.d1, kn, pn, fun r hr => ?_, bn, fun l hl => by have := b l hl; omega, by omega, mapT_lenF h, fun ws hw => ?_, h.sm⟩
  · obtain ⟨n1, n2, n3, n4⟩ := rn r hr
    have l := h.r r hr
    exact ⟨n1, n2, n3, l.m0, l.m1, n4, fun gs e => ⟨by have := (l.hl gs e).1; omega, (l.hl gs e).2⟩⟩
  · have h3 := h.kl
    have h4 := h.pl
    unfold rowsL at hw
    simp only [List.mem_append, List.mem_cons, List.not_mem_nil, or_false, List.mem_map] at hw
    have c1 : zDayW.length ≤ 12 := by decide +kernel
    have c2 : zKinds.length ≤ 12 := by decide +kernel
    have c3 : zPlaces.length ≤ 12 := by decide +kernel
    have c4 : zBarW.length ≤ 12 := by decide +kernel
    rcases hw with ((rfl | rfl | rfl) | ⟨r, hr, rfl⟩) | ⟨b, hb, rfl⟩
    · refine ⟨by simp, fun z hz => ?_⟩
      have := iS_len h.d0 h.d1
      simp only [List.mem_cons, List.not_mem_nil, or_false] at hz
      rcases hz with rfl | rfl <;> omega
    · refine ⟨by rw [List.length_cons]; omega, fun z hz => ?_⟩
      rcases List.mem_cons.mp hz with rfl | hz
      · omega
      · have := h.k z hz; omega
    · refine ⟨by rw [List.length_cons]; omega, fun z hz => ?_⟩
      rcases List.mem_cons.mp hz with rfl | hz
      · omega
      · have := h.p z hz; omega
    · obtain ⟨q1, q2⟩ := roadW_lenF (h.r r hr)
      exact ⟨by omega, fun z hz => by have := q2 z hz; omega⟩
    · obtain ⟨q1, q2⟩ := h.b b hb
      refine ⟨by show 3 ≤ 1000; decide, fun z hz => ?_⟩
      unfold barW at hz
      simp only [List.mem_cons, List.not_mem_nil, or_false] at hz
      rcases hz with rfl | rfl | rfl <;> omega
theorem PartsOk.form {d : Int} {ks ps : List Str} {rs : List RoadD} {bs : List (Str × Str)} (h : PartsOk d ks ps rs bs) : FormP d ks ps rs bs := by
  refine h.linesF.form h.kn h.pn (fun r hr => ?_) fun b hb => ?_
  · have o := h.r.ok r hr
    exact ⟨List.all_eq_true.mp h.r.nm _ (List.mem_map.mpr ⟨r, hr, rfl⟩), List.all_eq_true.mp h.pn _ o.s, List.all_eq_true.mp h.pn _ o.g, List.all_eq_true.mpr fun z hz => List.all_eq_true.mp h.kn _ (o.u z hz)⟩
  · obtain ⟨r1, h1, r2, h2, e1, e2, _⟩ := h.b.ok b hb
    rw [e1, e2]
    exact ⟨List.all_eq_true.mp h.r.nm _ (List.mem_map.mpr ⟨r1, h1, rfl⟩), List.all_eq_true.mp h.r.nm _ (List.mem_map.mpr ⟨r2, h2, rfl⟩)⟩
end W

set_option Elab.async false
set_option linter.all false
set_option maxRecDepth 100000
set_option maxHeartbeats 2000000
namespace W
open PySem PySem.Spec PyProof.Rows L2 GxR MyG MyS SqX
theorem MapAt.grew {K : PySem.W.Frag} {H H' : Hp} {M x P : Addr} {d : Int} {ks ps : List Str} {rs : List RoadD} {bs : List (Str × Str)} (g : Grew P H H') (h : TabG H P) (m : MapAt K H M x d ks ps rs bs) : MapAt K H' M x d ks ps rs bs := by
  obtain ⟨dx, fs, kk, pp, rr, D, bb, D2, ys, zs, hx, F⟩ := m
  obtain ⟨kvs, hd, hin⟩ := F.db
  exact ⟨dx, fs, kk, pp, rr, D, bb, D2, ys, zs, g.get h hx (fun _ z => by cases z), ⟨F.f0, F.f1, F.f2, F.f3, F.f4, F.f5, F.f6, F.f7, g.tup h F.k, g.tup h F.p, g.tup h F.r, Paired.map' F.ry (fun _ _ m => m.grew g h), F.d.grew g h, g.tup h F.b, Paired.map' F.bz (fun _ _ m => m.grew g h), ⟨kvs, g.get h hd (fun _ z => by cases z), hin⟩⟩⟩
/-! ### parts in another order, parts as a map keeps them -/
theorem paired_rev {α β : Type} {F : α → β → Prop} {l : List α} {m : List β} (h : Paired F l m) : Paired F l.reverse m.reverse := by
  induction h with
  | nil => exact .nil
  | cons a _ ih =>
    rw [List.reverse_cons, List.reverse_cons]
    exact Paired.snoc ih a
theorem all_perm {α : Type} {f : α → Bool} {l m : List α} (p : l.Perm m) (h : m.all f = true) : l.all f = true := List.all_eq_true.mpr fun x hx => List.all_eq_true.mp h x (p.mem_iff.mp hx)
theorem roadOk_in {d : Int} {ps ks ps' ks' : List Str} {r : RoadD} (h : RoadOk d ps ks r) (hp : ∀ z ∈ ps, z ∈ ps') (hk : ∀ z ∈ ks, z ∈ ks') : RoadOk d ps' ks' r := ⟨hp _ h.s, hp _ h.g, h.m1, h.m2, fun z hz => hk _ (h.u z hz), h.un, h.ud, h.h⟩
theorem partsOk_perm {d : Int} {ks ps ks' ps' : List Str} {rs rs' : List RoadD} {bs bs' : List (Str × Str)} (h : PartsOk d ks ps rs bs) (hk : ks'.Perm ks) (hp : ps'.Perm ps) (hr : rs'.Perm rs) (hb : bs'.Perm bs) : PartsOk d ks' ps' rs' bs' := by
  refine ⟨h.d1, h.d2, by rw [hk.length_eq]; exact h.k1, by rw [hk.length_eq]; exact h.k2, by rw [hp.length_eq]; exact h.p2, all_perm hk h.kn, all_perm hp h.pn, hk.nodup_iff.mpr h.kd, hp.nodup_iff.mpr h.pd, ⟨by rw [hr.length_eq]; exact h.r.len, all_perm (hr.map _) h.r.nm, (hr.map _).nodup_iff.mpr h.r.nd, fun r m => roadOk_in (h.r.ok r (hr.mem_iff.mp m)) (fun z => hp.mem_iff.mpr) (fun z => hk.mem_iff.mpr)⟩, ⟨by rw [hb.length_eq]; exact h.b.len, hb.nodup_iff.mpr h.b.nd, fun b m => ?_⟩⟩
  obtain ⟨r1, m1, r2, m2, q⟩ := h.b.ok b (hb.mem_iff.mp m)
  exact ⟨r1, hr.mem_iff.mpr m1, r2, hr.mem_iff.mpr m2, q⟩
theorem partsOk_srt {d : Int} {ks ps ks' ps' : List Str} {rs rs' : List RoadD} {bs bs' : List (Str × Str)} (h : PartsOk d ks ps rs bs) (s : Srt ks ps rs bs ks' ps' rs' bs') : PartsOk d ks' ps' rs' bs' := by
  have ek : ∀ r' ∈ rs', ∃ r ∈ rs, Kept r r' := fun r' hr' => by
    obtain ⟨l, pm, q⟩ := s.r
    exact Paired.mem q (pm.mem_iff.mpr hr')
  have ke : ∀ r ∈ rs, ∃ r' ∈ rs', Kept r r' := fun r hr => by
    obtain ⟨l, pm, q⟩ := s.r
    obtain ⟨i, hi, e⟩ := List.getElem_of_mem hr
    obtain ⟨v, hv, m⟩ := Paired.to q (List.getElem?_eq_some_iff.mpr ⟨hi, e⟩)
    exact ⟨v, pm.mem_iff.mp (List.mem_of_getElem? hv), m⟩
  refine ⟨h.d1, h.d2, by rw [s.k.length_eq]; exact h.k1, by rw [s.k.length_eq]; exact h.k2, by rw [s.p.length_eq]; exact h.p2, all_perm s.k h.kn, all_perm s.p h.pn, s.k.nodup_iff.mpr h.kd, s.p.nodup_iff.mpr h.pd, ⟨by rw [s.r.len]; exact h.r.len, List.all_eq_true.mpr fun z hz => ?_, s.r.nodup h.r.nd, fun r' m => ?_⟩, ⟨by rw [s.b.length_eq]; exact h.b.len, s.b.nodup_iff.mpr h.b.nd, fun b m => ?_⟩⟩
  · obtain ⟨r', hr', rfl⟩ := List.mem_map.mp hz
    obtain ⟨r, hr, k⟩ := ek r' hr'
    show isNm r'.name = true
    rw [k.1]
    exact List.all_eq_true.mp h.r.nm _ (List.mem_map.mpr ⟨r, hr, rfl⟩)
  · obtain ⟨r, hr, k1, k2, k3, k4, k5, k6, k7⟩ := ek r' m
    have o := h.r.ok r hr
    exact ⟨s.p.mem_iff.mpr (by rw [k2]; exact o.s), s.p.mem_iff.mpr (by rw [k3]; exact o.g), by rw [k4]; exact o.m1, by rw [k4]; exact o.m2, fun z hz => s.k.mem_iff.mpr (o.u z (k6.mem_iff.mp hz)), by rw [k6.length_eq]; exact o.un, k6.nodup_iff.mpr o.ud, by rw [k5]; exact o.h⟩
  · obtain ⟨r1, m1, r2, m2, e1, e2, e3⟩ := h.b.ok b (s.b.mem_iff.mp m)
    obtain ⟨s1, n1, k1⟩ := ke r1 m1
    obtain ⟨s2, n2, k2⟩ := ke r2 m2
    exact ⟨s1, n1, s2, n2, by rw [k1.1]; exact e1, by rw [k2.1]; exact e2, by rw [k1.2.2.1, k2.2.1]; exact e3⟩
theorem kept_trans {a b c : RoadD} (h1 : Kept a b) (h2 : Kept b c) : Kept a c := ⟨h2.1.trans h1.1, h2.2.1.trans h1.2.1, h2.2.2.1.trans h1.2.2.1, h2.2.2.2.1.trans h1.2.2.2.1, h2.2.2.2.2.1.trans h1.2.2.2.2.1, h2.2.2.2.2.2.1.trans h1.2.2.2.2.2.1, h2.2.2.2.2.2.2⟩
theorem paired_trans {α β γ : Type} {F : α → β → Prop} {G : β → γ → Prop} {R : α → γ → Prop} (u : ∀ a b c, F a b → G b c → R a c) : ∀ {l : List α} {m : List β} {n : List γ}, Paired F l m → Paired G m n → Paired R l n
  | _, _, _, .nil, h => by cases h; exact .nil
  | _, _, _, .cons a r, h => by
    cases h with
    | cons b s => exact .cons (u _ _ _ a b) (paired_trans u r s)
theorem keptAll_trans {a b c : List RoadD} (h1 : KeptAll a b) (h2 : KeptAll b c) : KeptAll a c := by
  obtain ⟨l, p, q⟩ := h1
  obtain ⟨m, p2, q2⟩ := h2
  -- a ~Kept~ l, l ~ b, b ~Kept~ m, m ~ c
  obtain ⟨m', p3, q3⟩ := Paired.perm p (paired_flip (G := fun y x => Kept x y) (fun _ _ h => h) q2)
  have q4 : Paired Kept l m' := paired_flip (fun _ _ h => h) q3
  exact ⟨m', p3.trans p2, paired_trans (F := Kept) (G := Kept) (R := Kept) (fun _ _ _ h1 h2 => kept_trans h1 h2) q q4⟩
theorem Srt.trans {ks ps ks1 ps1 ks2 ps2 : List Str} {rs rs1 rs2 : List RoadD} {bs bs1 bs2 : List (Str × Str)} (h1 : Srt ks ps rs bs ks1 ps1 rs1 bs1) (h2 : Srt ks1 ps1 rs1 bs1 ks2 ps2 rs2 bs2) : Srt ks ps rs bs ks2 ps2 rs2 bs2 :=
  ⟨h2.k.trans h1.k, h2.ka, h2.p.trans h1.p, h2.pa, keptAll_trans h1.r h2.r, h2.ra, h2.b.trans h1.b, h2.ba⟩
theorem Srt.rev {ks ps ks2 ps2 : List Str} {rs rs2 : List RoadD} {bs bs2 : List (Str × Str)} (h : Srt ks.reverse ps.reverse rs.reverse bs.reverse ks2 ps2 rs2 bs2) : Srt ks ps rs bs ks2 ps2 rs2 bs2 := by
  refine ⟨h.k.trans (List.reverse_perm _), h.ka, h.p.trans (List.reverse_perm _), h.pa, ?_, h.ra, h.b.trans (List.reverse_perm _), h.ba⟩
  obtain ⟨l, p, q⟩ := h.r
  have q2 := paired_rev q
  rw [List.reverse_reverse] at q2
  exact ⟨l.reverse, (List.reverse_perm l).trans p, q2⟩
theorem srt_bare {ks ks2 ps2 : List Str} {rs2 : List RoadD} {bs2 : List (Str × Str)} (h : Srt ks [] [] [] ks2 ps2 rs2 bs2) : ps2 = [] ∧ rs2 = [] ∧ bs2 = [] := by
  obtain ⟨l, p, q⟩ := h.r
  cases q
  exact ⟨List.perm_nil.mp h.p, List.nil_perm.mp p, List.perm_nil.mp h.b⟩
theorem partsOk_bare {d : Int} {ks ps : List Str} {rs : List RoadD} {bs : List (Str × Str)} (h : PartsOk d ks ps rs bs) : PartsOk d ks [] [] [] :=
  ⟨h.d1, h.d2, h.k1, h.k2, Nat.zero_le _, h.kn, rfl, h.kd, List.nodup_nil, ⟨Nat.zero_le _, rfl, List.nodup_nil, fun r h => (by cases h)⟩, ⟨Nat.zero_le _, List.nodup_nil, fun r h => (by cases h)⟩⟩
end W

set_option Elab.async false
set_option linter.all false
set_option maxRecDepth 100000
set_option maxHeartbeats 800000
namespace MyR
open PySem PySem.Spec PyProof.Rows L2
/-! ### repr of data, where no repr is under way -/
def rRep (K : PySem.W.Frag) : List V → Hp → VK → Prop := fun xs H Q => ∃ (a : Addr) (d : PyData), xs = [.ref a] ∧ Dp K H (.ref a) d ∧ d.showable = true ∧ d.hasDict = false ∧ d.depth ≤ 8 ∧ d.shown.length ≤ sizeLine ∧ Q (.str d.shown) H
theorem call_repD {X : Cx} (hg : X.A.guards = some []) (hu : X.A.units + 64 < cLine) : CallR X (.builtin "repr") (rRep X.K) := by
  intro pins s σ H xs us Q I r h
  obtain ⟨a, d, rfl, hd, hs, hn, hp, hz, q⟩ := h
  obtain ⟨u, rfl, r1⟩ := vals1 r
  obtain rfl : u = Value.ref a := r1
  obtain ⟨as, rd⟩ := Dp.reads I d _ _ hd rfl
  exact repr_of_reads' rd hs (fun e => by rw [hn] at e; cases e) hg (by omega) (fun _ _ e => e) (fun h' u tk k => ⟨.str _, H, I.kept k, ⟨u, rfl⟩, q⟩) hz
end MyR

set_option Elab.async false
set_option linter.all false
set_option maxRecDepth 100000
set_option maxHeartbeats 2000000
namespace MyR
open PySem PySem.Spec PyProof.Rows L2
/-! ### the law's own call: here, and only here, it is known that no repr is under way -/
/-- f called by the caller of the law keeps sp -/
def RunG (P : Program) (w : World) (K : PySem.W.Frag) (mg : Str → Option Value) (base : Heap) (CX : CXT) (f : Addr) (sp : Sp) : Prop :=
  ∀ (s : Shared) (H : Hp) (a : Addr) (Q : VK) (E : XK), Env0 P w K mg base callerA [] s H → sp [.ref a] H Q E → codeAny (model P w) callerA (.call (.ref f) ⟨[.ref a], []⟩) (CR CX [] P w H s Q E) s
section
variable {P : Program} {w : World} {K : PySem.W.Frag} {mg : Str → Option Value} {base : Heap}
theorem runG_of {CX : CXT} {f : Addr} {name qual x : Str} {params : Arguments} {body : List Stmt} {scope : Scope} {dV kV doc pm cdv ct oc : Value} {an od : Option Addr} {osl : Array (Option Value)} {N : List Str} {sp : Sp}
    (lk : K.lookup f = some ⟨oc, od, .func (PySem.W.fnOf name qual params body scope dV kV doc pm an cdv ct), osl⟩) (hcd : PySem.W.codeIn K cdv qual = true) (S : FnScope N [x] scope)
    (hb : ∀ (s : Shared) (u : Value), BindsTo s (PySem.W.fnOf name qual params body scope dV kV doc pm an cdv ct) ⟨[u], []⟩ [(x, u)]) (hr : Room 8 callerA)
    (hbody : ∀ (s : Shared) (H : Hp) (a : Addr) (Q : VK) (E : XK), sp [.ref a] H Q E → ∃ t, PSs (cxOf CX P w K mg base N qual scope f cdv callerA [] s H E) body t ∧ t { nx := fun _ H' => Q .non H', rt := Q } (start N [.ref a]) H) :
    RunG P w K mg base CX f sp := fun s H a Q E e0 hsp => by
  have up : ∀ b o, base.get? b = some o → s.heap.get? b = some o := fun b o e => (e0.bs b o e).1
  have KX : K.In s.heap := e0.mod.kin.keeps up
  have hx : scope.names.lookup x = some .local ∨ (scope.names.lookup x = some .cell ∧ ((cellsFrom (s.heap.objs.size + 1) scope.names []).lookup x).isSome = true) :=
    (S.par x (List.mem_singleton.mpr rfl)).imp id fun q => ⟨q, PySem.W.cellsFrom_some _ _ _ (.inl q)⟩
  refine codeAny_call_function hr.depth (KX _ _ lk) rfl S.co S.gen rfl (PySem.W.codeRec_of KX hcd) (hb s (.ref a) _ _ _ _ ?_)
  refine wpAny_newFunctionEnv_cells S.kind (fun y hy => by rw [List.mem_singleton.mp hy]; exact hx) fun env he s1 st => ?_
  subst he
  refine ⟨(e0.mod.nolimit.keeps up).keeps st.toInCall.keep, codeAny_func ?_⟩
  obtain ⟨t, ht, hq⟩ := hbody s H a Q E hsp
  have I : Inv (cxOf CX P w K mg base N qual scope f cdv callerA [] s H E) [] (start N [.ref a]) H s1 := inv_start S hr.hd e0 rfl (.cons rfl .nil) st
  have out : ∀ {σ2 : L2.St} {H2 : Hp} {s2 : Shared} {v : V} {u : Value}, Inv (cxOf CX P w K mg base N qual scope f cdv callerA [] s H E) [] σ2 H2 s2 → RelV v u → Q v H2 → CE [] P w H s Q u s2 :=
    fun {σ2 H2 s2 v u} J rv q => ⟨v, H2, J.os, J.bare, J.base, J.hok, rv, q⟩
  refine wpAny_mono (ht.run [] s1 _ H _ I hq) (fun fl s2 hs => ?_) fun _ _ z => z
  match fl, hs with
  | .ret u, ⟨v, σ2, H2, J, rv, q⟩ => exact out J rv q
  | .next, ⟨σ2, H2, J, q⟩ => exact out (v := V.non) (u := Value.none) J rfl q
  | .brk, ⟨_, _, _, z⟩ => exact z.elim
  | .cont, ⟨_, _, _, z⟩ => exact z.elim
/-- what is tracked at the top: the one table, and the script where it is not written down -/
def topH (K : PySem.W.Frag) (T a : Addr) (o : Obj) (xs : List V) : Hp := fun b => if b = T then some (.tbl #[]) else if b = a ∧ K.lookup a = none then some (.frz o (.lst xs)) else none
theorem topH_cases {T a b : Addr} {o : Obj} {xs : List V} {u : HO} (h : topH K T a o xs b = some u) : (b = T ∧ u = .tbl #[]) ∨ (b ≠ T ∧ b = a ∧ K.lookup a = none ∧ u = .frz o (.lst xs)) := by
  unfold topH at h
  by_cases h1 : b = T
  · rw [if_pos h1] at h
    exact .inl ⟨h1, (Option.some.inj h).symm⟩
  · rw [if_neg h1] at h
    by_cases h2 : b = a ∧ K.lookup a = none
    · rw [if_pos h2] at h
      exact .inr ⟨h1, h2.1, h2.2, (Option.some.inj h).symm⟩
    · rw [if_neg h2] at h
      cases h
theorem top_call {mb : Str → Option Value} {CX : CXT} {f a c T : Addr} {sp : Sp} {s : Shared} {vs : List Value} {ns : List Int} (KX : K.In s.heap) (G : s.heap.Ns mainGlobals mg) (B : s.heap.Ns builtinsNs mb) (hB : ∀ x : Str, x ≠ "__name__" → mb x = bootBuiltins x) (lim : s.heap.NoLimit) (ng : s.gens = #[])
    (eT : s.heap.get? T = some { cls := .none, data := .fields #[] }) (nT : K.lookup T = none) (C : PySem.W.CodeHd s.heap c T)
    (hbm : ∃ (bm : Addr) (ob : Obj), mg "__builtins__" = some (.ref bm) ∧ bm ≠ builtinsNs ∧ s.heap.get? bm = some ob ∧ ob.cls = .type "module" ∧ ob.dict = some builtinsNs ∧ ob.data = .plain)
    (ea : s.heap.get? a = some { cls := .type "list", data := .seq vs.toArray }) (hi : IntsAre vs ns) (hl : ns.length ≤ sizeLine)
    (R : ∀ base : Heap, K.In base → base.Ns mainGlobals mg → LamX.TabB base mg c T → RunG P w K mg base CX f sp)
    (hsp : ∀ H : Hp, H T = some (.tbl #[]) → SqL K H a (ns.map V.int) → sp [.ref a] H (fun v _ => v = .bl true) fun _ _ _ => False)
    (no : ∀ H e s', CX [] H s (fun _ _ _ => False) e s' → False) :
    codeAny (model P w) callerA (.call (.ref f) ⟨[.ref a], []⟩) (fun r s' => r = .ok (.ret (.bool true)) ∧ OldK s.heap s'.heap ∧ s'.os = s.os ∧ AllBare s'.gens) s := by
  have rv := vals_ints hi
  have nz : a ≠ T := fun z => by
    rw [z, eT] at ea
    cases ea
  obtain ⟨H, eH⟩ : ∃ H, H = topH K T a { cls := .type "list", data := .seq vs.toArray } (ns.map V.int) := ⟨_, rfl⟩
  have tr : ∀ {b : Addr} {u : HO}, H b = some u → _ := fun {b u} h => topH_cases (by rw [eH] at h; exact h)
  have HT : H T = some (.tbl #[]) := by
    rw [eH]
    exact if_pos rfl
  have hS : SqL K H a (ns.map V.int) := by
    cases q : K.lookup a with
    | none => exact .inl (.inr ⟨_, by rw [eH]; exact (if_neg nz).trans (if_pos ⟨rfl, q⟩)⟩)
    | some o =>
      have e := KX a o q
      rw [ea] at e
      cases e
      exact .inr ⟨_, vs.toArray, _, q, rfl, rfl, rfl, by rw [List.size_toArray, hi.length]; exact hl, by simpa using rv⟩
  have ok : HOk P w H s.heap := fun b u h => by
    rcases tr h with ⟨rfl, rfl⟩ | ⟨_, rfl, _, rfl⟩
    · exact eT
    · exact ⟨ea, by rw [List.length_map]; exact hl, vs, _, rv, ea⟩
  have gone : ∀ {b : Addr} {o : Obj}, s.heap.get? b = some o → (∀ xs n, o.data ≠ .seq xs n) → o.data ≠ .fields #[] → H b = none := fun {b o} e d1 d2 => by
    cases h : H b with
    | none => rfl
    | some u =>
      rcases tr h with ⟨rfl, _⟩ | ⟨_, rfl, _, _⟩
      · rw [eT] at e
        cases e
        exact (d2 rfl).elim
      · rw [ea] at e
        cases e
        exact (d1 _ _ rfl).elim
  have toB : ∀ {b : Addr} {m : Str → Option Value}, s.heap.Ns b m → (hidT s.heap H).Ns b m := fun {b m} ⟨o, es, ep, e, d, r⟩ =>
    ⟨o, es, ep, hidT_get e (gone e (fun xs n z => by rw [d] at z; cases z) (fun z => by rw [d] at z; cases z)), d, r⟩
  have KB : K.In (hidT s.heap H) := fun b o e => hidT_get (KX b o e) (by
    cases h : H b with
    | none => rfl
    | some u =>
      rcases tr h with ⟨rfl, _⟩ | ⟨_, rfl, k, _⟩
      · rw [nT] at e; cases e
      · rw [k] at e; cases e)
  have TB : LamX.TabB (hidT s.heap H) mg c T := by
    refine ⟨?_, ?_, fun z => ?_⟩
    · obtain ⟨o, us, file, tf, flags, tg, inF, text, tt, e1, r1, r2, r3, r⟩ := C
      exact ⟨o, us, file, tf, flags, tg, inF, text, tt, hidT_get e1 (gone e1 (fun xs n z => by rw [r2] at z; cases z) (fun z => by rw [r2] at z; cases z; simp at r3)), r1, r2, r3, r⟩
    · obtain ⟨bm, ob, b1, b2, b3, b4, b5, b6⟩ := hbm
      refine ⟨bm, ob, b1, b2, fun z => ?_, fun z => ?_, hidT_get b3 (gone b3 (fun xs n z => by rw [b6] at z; cases z) (fun z => by rw [b6] at z; cases z)), b4, b5, b6⟩
      · obtain ⟨o, es, ep, e, d, _⟩ := G
        rw [z, e] at b3
        cases b3
        rw [d] at b6
        cases b6
      · rw [z, eT] at b3
        cases b3
        cases b6
    · obtain ⟨o, es, ep, e, d, _⟩ := G
      rw [z, eT] at e
      cases e
      cases d
  have e0 : Env0 P w K mg (hidT s.heap H) callerA [] s H :=
    ⟨rfl, ⟨KB, toB G, ⟨mb, toB B, hB⟩, let ⟨mc, h1, h2⟩ := lim; ⟨mc, toB h1, h2⟩⟩, fun b o e => of_hidT e, Nat.le_of_eq (hidT_size _ _), trivial, fun b hb => absurd (show b ∈ ([] : List Addr) from hb) (by simp), ok, .of_eq ng⟩
  refine codeAny_mono (R _ KB (toB G) TB s H a _ _ e0 (hsp H HT hS)) fun r s' h => ?_
  match r, h with
  | .error e, h => exact (no H e s' h).elim
  | .ok .next, h => exact False.elim h
  | .ok .brk, h => exact False.elim h
  | .ok .cont, h => exact False.elim h
  | .ok (.ret u), ⟨v, H', os, bare, un, ok', r', q⟩ =>
    obtain rfl : v = .bl true := q
    obtain rfl : u = Value.bool true := r'
    obtain ⟨more, hm⟩ : ∃ more : Array Value, s'.heap.get? T = some { cls := .none, data := .fields more } := by
      obtain ⟨more, z⟩ := un.tbls T #[] HT
      exact ⟨_, ok' T _ z⟩
    have old : ∀ b o, b ≠ T → s.heap.get? b = some o → s'.heap.get? b = some o := fun b o ne e => by
      cases h : H b with
      | none => exact un.keep b o e h (fun z => absurd (show b ∈ ([] : List Addr) from z) (by simp)) (by simp)
      | some u =>
        rcases tr h with ⟨z, _⟩ | ⟨_, rfl, _, rfl⟩
        · exact absurd z ne
        · obtain ⟨e2, _⟩ := ok' b _ (un.frzs b _ _ h)
          rw [ea] at e
          cases e
          exact e2
    refine ⟨rfl, ⟨fun b o e => ?_, fun b o e => ?_⟩, os, bare⟩
    · by_cases hb : b = T
      · subst hb
        rw [eT] at e
        cases e
        exact .inr (.inl ⟨(C.tab eT).isCodeTable, rfl, #[], more, rfl, by rw [Array.empty_append]; exact hm⟩)
      · exact .inl (old b o hb e)
    · by_cases hb : b = T
      · rw [hb]
        exact ⟨_, hm⟩
      · exact ⟨o, old b o hb e⟩
end

/-- what the law's end asks: the table T of the code object c, and the promise sp -/
def LawG (l : PySem.W.OpenLaw) (w : World) (K : PySem.W.Frag) (CX : CXT) (n : Nat) (mg : Str → Option Value) (fa : Addr) (h : Heap) : Prop :=
  ∃ (c T : Addr) (sp : Sp), h.get? T = some { cls := .none, data := .fields #[] } ∧ K.lookup T = none ∧ PySem.W.CodeHd h c T ∧
    (∀ (H : Hp) (a : Addr) (ns : List Int), ns.length ≤ n → H T = some (.tbl #[]) → SqL K H a (ns.map V.int) → sp [.ref a] H (fun v _ => v = .bl true) fun _ _ _ => False) ∧
    ∀ base : Heap, K.In base → base.Ns mainGlobals mg → LamX.TabB base mg c T → RunG l.prog w K mg base CX fa sp
theorem walk_ofG {l : PySem.W.OpenLaw} {n : Nat} {q : Program} {loose : List Str} {XP : (Str → Option Value) → Heap → Prop} {YP : World → Heap → Prop} {d : DefRec} {K : Params → PySem.W.Frag} {CX : World → CXT} (names : List Str)
    (hn : l.most = some n) (hn2 : n ≤ sizeLine) (hdf : d.params.defaults = []) (hrec : names.all (fun y => (recsOf q).any fun e => e.name == y) = true) (hY : ∀ (w : World) (h : Heap), YP w h → (K w.params).In h)
    (F : ∀ (w : World) (mg : Str → Option Value) (fa : Addr) (h : Heap), YP w h → (K w.params).In h → h.Ns mainGlobals mg → mg d.name = some (.ref fa) → (∀ y ∈ names, ∀ f, mg y = some (.ref f) → LamX.OwnTab (K w.params) f h) → LawG l w (K w.params) (CX w) n mg fa h)
    (no : ∀ (w : World) (H : Hp) (s : Shared) (e : Value) (s' : Shared), CX w [] H s (fun _ _ _ => False) e s' → False) :
    PySem.W.WalkO q loose XP YP l.row.toRowW d [] (fun f vs => PySem.call f vs) := by
  refine Att.attach_callB hn hdf fun w s₀ s₁ mg mb fa o pm cd doc a vs ns G Y ho hd hcd hmg hobj hints hlen hbits hg => ?_
  have KX := hY w _ Y
  obtain ⟨c, T, sp, eT, nT, C, hsp, R⟩ := F w mg fa _ Y KX G.T.g hmg (fun y hy f hf c P o1 fd1 e dd vs1 sl k1 k2 k3 k4 k5 => by
    obtain ⟨dL, hm, hn1⟩ := List.any_eq_true.mp (List.all_eq_true.mp hrec y hy)
    obtain ⟨a', o', fd', c', P', h1, h2, h3, h4, h5, h6⟩ := G.T.tab dL hm
    rw [beq_iff_eq.mp hn1, hf] at h1
    cases h1
    have g1 := KX _ _ k1
    rw [g1] at h2
    cases h2
    rw [k2] at h3
    cases h3
    rw [k3] at h4
    cases h4
    obtain ⟨⟨oc, vc, e1, _, e3, e4⟩, hP⟩ := h6
    have g2 := KX _ _ k4
    rw [g2] at e1
    cases e1
    cases e3
    rw [k5] at e4
    cases e4
    exact hP)
  exact top_call KX G.T.g G.T.b G.T.builtins G.T.nolimit hg eT nT C G.T.bmain hobj hints (Nat.le_trans hlen hn2) R (fun H hH hS => hsp H a ns hlen hH hS) fun H e s' => no w H s₁ e s'
end MyR

set_option Elab.async false
set_option linter.all false
set_option maxRecDepth 100000
set_option maxHeartbeats 800000
namespace W
open PySem PySem.Spec PyProof.Rows L2 GxR MyG MyS
/-! ### isinstance of a caught error with fields -/
structure ExcD (K : PySem.W.Frag) (D : Addr) : Prop where
  cl : (PySem.W.clsIn K D).isSome = true
  hg : PySem.W.findIn K (.ref D) "__getattribute__" = some (some (.builtin "BaseException.__getattribute__"))
  hk : PySem.W.findIn K (.ref D) "__getattr__" = some none
  hs : PySem.W.subIn K (.ref D) (.type "BaseException") = some true
  ha : PySem.W.findIn K (.ref D) "__class__" = some (some (.builtin "object.__class__"))
  hn : PySem.W.specialIn K (.builtin "object.__class__") "__get__" = some (some (.builtin "getset_descriptor.__get__"))
  ht : PySem.W.takesIn K (.builtin "object.__class__") = some true
  hm : PySem.W.mroIn K D (.type "object") = some true
def rIsD (K : PySem.W.Frag) (D a : Addr) (cls : Value) (d : Option Addr) : List V → Hp → VK → Prop := fun xs H Q => ∃ (c : V) (cv : Value) (dd : Addr) (fs : List (Str × V)) (b : Bool), xs = [.ref a, c] ∧ cls = .ref D ∧ d = some dd ∧ (∀ u, RelV c u → u = cv) ∧ H dd = some (.xd fs) ∧ PySem.W.kitOne K (.ref D) cv = some b ∧ Q (.bl b) H
theorem call_isD {X : Cx} {a D : Addr} {cls : Value} {d : Option Addr} {oe : Obj} {pn : List (Addr × Obj)} (C : ExcD X.K D) (hz : Zc cls d oe) (hf : ∃ vs, oe.data = .fields vs) : CallR (X.suite a ((a, oe) :: pn)) (.builtin "isinstance") (rIsD X.K D a cls d) := by
  intro pins s σ H xs us Q I r h
  obtain ⟨c, cv, dd, fs, b, rfl, rfl, rfl, hcv, ed, e, q⟩ := h
  obtain ⟨u1, u2, rfl, r1, r2⟩ := vals2 r
  obtain rfl : u1 = Value.ref a := r1
  obtain rfl : u2 = cv := hcv _ r2
  obtain ⟨hget, _⟩ := I.pin (a, oe) (List.mem_append.mpr (.inl List.mem_cons_self))
  obtain ⟨vs, hd⟩ := hf
  have hx : ObjOk X.prog X.w H s.heap dd (.xd fs) := I.hok dd _ ed
  obtain ⟨mA, hns, hr⟩ := hx
  obtain ⟨od, ho, hl⟩ := lookIn_ns hns
  have J : PySem.W.InstAt s.heap a oe D (some od) := ⟨hget, hz.1, by unfold PySem.W.notCls; rw [hd] <;> rfl, by rw [hz.2]; exact ho⟩
  exact PySem.W.kia_one (PySem.W.kitx_exc C.cl C.hg C.hk C.hs C.ha C.hn C.ht C.hm) I.kIn J e (fun z => nomatch z) fun tk => ⟨.bl b, H, I.kept (t' := tk) fun _ _ z => z, rfl, q⟩
/-! ### super().__init__(..) of an own error: the bound __init__ called -/
section
variable {prog : Program} {w : World} {A : Around} {E : Value → Shared → Prop} {h : Heap} {g : Array GenState} {d : Drawn} {t : Nat} {os : OsState}
variable {nm q : Str} {C N : Addr} {bs bm bmB : List Value} {hdct : Bool} {sn : List Str} {sub : List Value} {ab : Bool} {col : Option Bool} {dd : Option Addr} {k0 k1 k2 k3 k5 : Option Value} {newId initId : String} {B : String}
theorem call_mw (FB : ExcBaseFacts B newId initId bmB) {u a t0 : Addr} {rest : List Value} {Q : Value → Shared → Prop} (hu : h.get? u = some (PySem.W.kxs_mw initId a)) (hC : h.get? C = some (excClassObj nm q C N bs bm hdct sn sub ab col dd k0 k1 k2 k3 k5 newId)) (he : h.get? a = some (PySem.HandSPX.excO C t0)) (hz : rest.length ≤ sizeLine)
    (hq : ∀ h' t1, (∀ b o, b ≠ a → h.get? b = some o → h'.get? b = some o) → h'.get? a = some (PySem.HandSPX.excO C t1) → Q .none ⟨h', g, d, t, os⟩) :
    wpAny (model prog w) A (call (.ref u) rest) Q E ⟨h, g, d, t, os⟩ := by
  refine wpAny_call (codeAny_of_tree ?_)
  show wpAny _ A.in1 (callAny (.ref u) ⟨rest, []⟩) _ _ _
  simp only [callAny]
  refine wpAny_bind (wpAny_load hu ?_)
  simp only [PySem.W.kxs_mw, show (Value.type "method-wrapper" == Value.type "method" || Value.type "method-wrapper" == Value.type "builtin_function_or_method" || Value.type "method-wrapper" == Value.type "method-wrapper") = true by decide, if_true]
  refine PySem.W.KFB.if_so (by decide) ?_
  refine wpAny_bind (PySem.W.check_bound_init FB.toExcCallFacts hC he rfl ?_)
  refine wpAny_bind (wpAny_pure (wpAny_pure ?_))
  refine ⟨plainId_quiet FB.init.plain _, codeAny_builtin FB.initEntry ?_⟩
  exact PySem.W.exc_init_tree (cls := .ref C) (t0 := t0) (dv := none) (c2 := .none) (c3 := .none) (b4 := .bool false) he hz fun h' k e1 _ => hq h' _ k e1
end
end W

set_option Elab.async false
set_option linter.all false
set_option maxRecDepth 100000
set_option maxHeartbeats 1000000
namespace W
open PySem PySem.Spec PyProof.Rows L2 GxR MyG MyS MyR
/-! ### InvalidNotation.__init__ -/
abbrev sIPInit : Stmt := inClass (top 5) 0
def spPInit (K : PySem.W.Frag) (R : Addr) : Sp := fun vs H Q _ => ∃ (a : Addr) (n : Int), vs = [.ref a, .int n] ∧ 0 ≤ n ∧ n ≤ 1000 ∧ H a = some (exo a R none) ∧ ∀ dx, H dx = none → dx ≠ a → Q .non (L2.upd (L2.upd H dx (exd dx [("line", V.int n)])) a (exo a R (some dx)))
def scFakeL : Scope := { kind := .function, names := [("self", .local), ("line", .local)], isGenerator := false, isCoroutine := false, more := [] }
theorem scFakeLOk : FnScope ["self", "line"] ["self", "line"] scFakeL := ⟨rfl, rfl, rfl, by decide +kernel, rfl, by decide +kernel, by decide +kernel⟩
abbrev fdIP (dV kV doc pm : Value) (an : Option Addr) (cda : Addr) (ct : Value) (cc : Addr) : FuncData := PySem.W.fnX "__init__" "InvalidNotation.__init__" (defArgs sIPInit) (defBody sIPInit) (defScope sIPInit) [("__class__", cc)] dV kV doc pm an (.ref cda) ct
section
variable {Pg : Program} {w : World} {K : PySem.W.Frag} {mg : Str → Option Value} {base : Heap} {C P : Addr}
theorem ok_pinit {CX : CXT} {f U cc cda : Addr} {oc ccl cl dV kV doc pm ct : Value} {od cdd cld an : Option Addr} {osl ccs csl : Array (Option Value)} {vs : Array Value} {file : Str} {tf : Tok}
    (lk : K.lookup f = some ⟨oc, od, .func (fdIP dV kV doc pm an cda ct cc), osl⟩) (hcd : PySem.W.codeIn K (.ref cda) "InvalidNotation.__init__" = true) (hcode : K.lookup cda = some ⟨ccl, cdd, .fields vs, ccs⟩) (hvs : vs[2]? = some (.str file tf)) (hfile : ((Pg.main.file : Str) == file) = true)
    (hcell : K.lookup cc = some ⟨cl, cld, .cell (some (.ref U)), csl⟩) (hsuper : mg "super" = none) (htop : (Pg.main.scope.names.lookup ("super" : Str)).isSome = false)
    (TU : OexC K U) (hmU : PySem.W.mroIn K U (.ref U) = some true) (hop : PySem.W.nsIn K cStatics "thirdparty.any" = some none) (hsi : PySem.W.ks_superIn K U U "__init__" = some (some (.builtin "ValueError.__init__"))) (hsV : PySem.W.subIn K (.ref U) (.type "ValueError") = some true)
    (hno : PySem.W.findIn K (.ref U) "line" = some none) : FnOk Pg w K mg base CX 1 f (fdIP dV kV doc pm an cda ct cc) ["self", "line"] (spPInit K U) := by
  have len : ∀ vs H Q E, spPInit K U vs H Q E → vs.length = 2 := by
    rintro vs H Q E ⟨a, z, rfl, _⟩
    rfl
  refine ⟨len, fun A outer s H args us vs2 Q E hr e0 hb r hsp => ?_⟩
  obtain ⟨a, z, rfl, hz0, hz, ea, kq⟩ := hsp
  obtain ⟨u1, u2, rfl, r1, r2⟩ := vals2 r
  obtain rfl : u1 = Value.ref a := r1
  obtain ⟨tk, rfl⟩ := r2
  have KX : K.In s.heap := e0.mod.kin.keeps fun b o e => (e0.bs b o e).1
  have lim : s.heap.NoLimit := e0.mod.nolimit.keeps fun b o e => (e0.bs b o e).1
  obtain ⟨cnm, cq, cN, cbs, cbm, csn, csub, cab, ccol, cdd2, c0, c1, c2, c3, c5, hC, hbm⟩ := TU.cls
  refine PySem.ks_codeAny_call_defAt (body := defBody sIPInit) (binds := (["self", "line"] : List Str).zip [Value.ref a, Value.int z tk]) hr.depth (KX _ _ lk) rfl lim (PySem.W.codeRec_of KX hcd) rfl hb (show ∀ x ∈ (defScope sIPInit).names, x.2 ≠ .cell by decide +kernel) (by
    intro y hy
    rcases List.mem_cons.mp hy with e | hy
    · subst e; show (defScope sIPInit).names.lookup ("self" : Str) = some .local; decide +kernel
    · rw [List.mem_singleton.mp hy]; show (defScope sIPInit).names.lookup ("line" : Str) = some .local; decide +kernel) (fun h0 hns hk => ?_) rfl rfl rfl
  have em : (fun x => ((["self", "line"] : List Str).zip [Value.ref a, Value.int z tk]).reverse.lookup x) = bindL (envOfC "InvalidNotation.__init__" scFakeL s.heap.objs.size f (.ref cda)).kindOf ((["self", "line"] : List Str).zip [Value.ref a, Value.int z tk]) fun _ => none := by
    funext y
    show ([(("line" : Str), Value.int z tk), ("self", Value.ref a)] : List (Str × Value)).lookup y = if y = "line" then some (Value.int z tk) else if y = "self" then some (Value.ref a) else none
    by_cases h1 : y = ("line" : Str)
    · subst h1; rw [if_pos rfl]; rfl
    · rw [if_neg h1]
      by_cases h2 : y = ("self" : Str)
      · subst h2; rw [if_pos rfl]; rfl
      · rw [if_neg h2]
        simp [List.lookup, h1, h2, beq_eq_false_iff_ne.mpr h1, beq_eq_false_iff_ne.mpr h2]
  have I : Inv (cxOf CX Pg w K mg base ["self", "line"] "InvalidNotation.__init__" scFakeL f (.ref cda) A outer s H E) [] (L2.start ["self", "line"] [.ref a, .int z]) H { s with heap := h0, toks := s.toks + 2 } :=
    inv_start scFakeLOk hr.hd e0 rfl (.cons rfl (.cons ⟨tk, rfl⟩ .nil)) ⟨⟨⟨h0, s.toks + 2, rfl⟩, by rw [← em]; exact hns, hk, Nat.le_refl _⟩, fun n c e => (by cases e), List.Pairwise.nil, fun n c e => (by cases e)⟩
  refine PySem.ks_wpAt_execs_cons (PySem.ks_wpAt_Expr_any (PySem.ks_wpAt_MethodCall ?_))
  have K0 : K.In h0 := KX.keeps hk
  obtain ⟨t1, ho⟩ := exo_at e0.hok ea
  have ho0 : h0.get? a = some (PySem.HandSPX.excO U t1) := hk a _ ho
  have hcl : PySem.W.clsIn K U = some { name := cnm, bases := cbs, mro := .ref U :: cbm, ns := cN, qualname := cq, hasDict := true, slotNames := csn, subclasses := csub, abstract := cab, collection := ccol, hasDel := false } := by unfold PySem.W.clsIn; rw [hC] <;> rfl
  obtain ⟨mb, hb1, hb2⟩ := e0.mod.blt
  have bk0 : ∀ b o, base.get? b = some o → h0.get? b = some o := fun b o e => hk b o (e0.bs b o e).1
  have m1 : (fun x => ((["self", "line"] : List Str).zip [Value.ref a, Value.int z tk]).reverse.lookup x) "self" = some (Value.ref a) := rfl
  refine PySem.ks_wpAt_super_base (f := f) (fd := fdIP dV kV doc pm an cda ct cc) (show (defScope sIPInit).names.lookup ("super" : Str) = some .globalImplicit by decide +kernel) (show (defScope sIPInit).names.lookup ("__class__" : Str) = some .free by decide +kernel) (by decide) rfl (hk _ _ (KX _ _ lk)) rfl rfl rfl (K0 _ _ hcode) rfl hvs hfile htop ?_
  refine PySem.W.ks_loadName_global rfl (show (defScope sIPInit).names.lookup ("super" : Str) = some .globalImplicit by decide +kernel) (Calls.loadGlobal_builtin (e0.mod.glob.keeps bk0) hsuper (hb1.keeps bk0) ((hb2 "super" (by decide)).trans (by decide +kernel)) ⟨rfl, ?_⟩)
  refine wpAny_loadName_free rfl (show (defScope sIPInit).names.lookup ("__class__" : Str) = some .free by decide +kernel) rfl ⟨_, K0 _ _ hcell, rfl⟩ ?_
  refine wpAny_loadName_local rfl (show (defScope sIPInit).names.lookup ("self" : Str) = some .local by decide +kernel) hns m1 ?_
  refine PySem.ks_wpAny_isType_cls (K0 _ _ hC) rfl ⟨rfl, ?_⟩
  refine PySem.ks_wpAny_call_super (K0 _ _ hC) rfl ho0 rfl (fun c e => by cases e) (PySem.W.looks_mroIn K0 hmU) (fun h1 e1 k1 => ?_)
  have K1 : K.In h1 := K0.keeps k1
  have J1 : PySem.W.InstAt h1 a (PySem.HandSPX.excO U t1) U none := ⟨k1 _ _ ho0, rfl, rfl, trivial⟩
  have hsi' := hsi
  unfold PySem.W.ks_superIn at hsi'
  rw [hcl] at hsi'
  refine PySem.W.kxs_getMethod PySem.W.kxs_ValueError e1 (PySem.W.looks_opaque K1 hop) (l₀ := .ref U :: cbm) (fun A Q E s k q => wpAny_bind ((PySem.W.looks_clsIn K1 hcl) A _ E s k (wpAny_pure q))) rfl K1 hsi' (J1.type.andThen (PySem.W.looks_subIn K1 hsV)) (PySem.W.ks_ne K1 J1 hcl) (by decide) ?_
  have I1 : Inv (cxOf CX Pg w K mg base ["self", "line"] "InvalidNotation.__init__" scFakeL f (.ref cda) A outer s H E) [] (L2.start ["self", "line"] [.ref a, .int z]) H ⟨h1.push (PySem.W.kxs_mw "ValueError.__init__" a), s.gens, s.drawn, s.toks + 2 + 1, s.os⟩ :=
    I.kept (t' := s.toks + 2 + 1) fun b o q => Heap.get?_push_of_some _ (k1 b o q)
  have hu1 : (h1.push (PySem.W.kxs_mw "ValueError.__init__" a)).get? h1.objs.size = some (PySem.W.kxs_mw "ValueError.__init__" a) := Heap.get?_push_size _ rfl
  have look : ∀ {x : Str} {v : V} {st : Shared} {σ0 : L2.St} {H0 : Hp} (j : Nat), Inv (cxOf CX Pg w K mg base ["self", "line"] "InvalidNotation.__init__" scFakeL f (.ref cda) A outer s H E) [] σ0 H0 st → (["self", "line"] : List Str)[j]? = some x → σ0[j]? = some (some v) → scFakeL.names.lookup x = some .local → (defScope sIPInit).names.lookup x = some .local →
      (x == ("__debug__" : Str)) = false → ∀ (p : Pos) (Q' : Value → Shared → Prop) (E' : Value → Shared → Prop) (A' : Around), (∀ u, RelV v u → Q' u st) → wpAny (model Pg w) A' (eval (.Name x p) (callEnv (fdIP dV kV doc pm an cda ct cc) s.heap.objs.size f)) Q' E' st := by
    intro x v st σ0 H0 j J e1 e2 e3 e4 hdb p Q' E' A' hQ
    obtain ⟨m, hn, hm⟩ := J.loc
    obtain ⟨u, ru, lu⟩ := hm j x v e1 e2 (.inl e3)
    have e5 : m x = some u := by
      rcases lu with ⟨_, q⟩ | ⟨q, _⟩
      · exact q
      · have q' : scFakeL.names.lookup x = some .cell ∨ scFakeL.names.lookup x = some .free := q
        rw [e3] at q'
        rcases q' with q' | q' <;> cases q'
    exact wpAny_Name (wpAny_loadName_local rfl e4 hn e5 (hQ u ru)) hdb
  refine PySem.W.kxs_callWith (i := "ValueError.__init__") (x := a) (by rfl) (Calls.evalArgs_plain ?_)
  refine PyProof.Rows.args_cons (wpAny_JoinedStr ?_) rfl
  refine Calls.Constant_str ⟨_, _, rfl, (show (Str.empty ++ Str.ofString "invalid notation in line ").length ≤ sizeLine by decide +kernel), ?_⟩
  have I2 := I1.tok (s.toks + 2 + 1 + 1)
  refine wpAny_FormattedValue_plain (look 1 I2 rfl rfl rfl (by decide +kernel) (by decide) _ _ _ _ fun u ru => ?_)
  obtain ⟨tk2, rfl⟩ := ru
  have hlz : (((toString z : String) : Str)).length ≤ 13 := by
    have q := PyData.shown_int_le (i := z) (by omega)
    rw [PyData.shown_int] at q
    exact q
  have hlen : ((Str.empty ++ Str.ofString "invalid notation in line ") ++ ((toString z : String) : Str)).length ≤ 200 := by
    rw [PySem.Str.length_append]
    have e : (Str.empty ++ (Str.ofString "invalid notation in line ")).length ≤ 100 := by decide +kernel
    omega
  have eu : L2.upd H a (exo a U none) = H := by
    funext b
    by_cases hb : b = a
    · rw [hb, upd_same, ea]
    · rw [upd_ne hb]
  have hC1 : (h1.push (PySem.W.kxs_mw "ValueError.__init__" a)).get? U = _ := Heap.get?_push_of_some _ (K1 _ _ hC)
  have he1 : (h1.push (PySem.W.kxs_mw "ValueError.__init__" a)).get? a = some (PySem.HandSPX.excO U t1) := Heap.get?_push_of_some _ (k1 _ _ ho0)
  refine wpAny_formatField_int (Nat.lt_of_le_of_lt (Nat.log2_le_self _) (by omega)) ⟨_, _, rfl, by rw [sizeLine_eq]; omega, by rw [sizeLine_eq]; omega, PyProof.Rows.args_nil ⟨hu1, ?_⟩⟩
  refine call_mw PySem.F.excBase_ValueError hu1 hC1 he1 (by show 1 ≤ sizeLine; decide) (fun h5 t5 k5 e5 => ?_)
  have J5 := I1.write (t' := s.toks + 2 + 1 + 1 + 1) (x := a) (e := a) (o := exo a U none) (by rw [ea]; exact True.intro) (.inl rfl) k5 ⟨_, e5⟩ (exo_ok e5)
  rw [eu] at J5
  have J6 := fun tk => J5.tok tk
  refine PySem.ks_wpAt_execs_cons (PySem.ks_wpAt_Assign_Attr (PySem.wpAt_of_wpAny (look 1 (J6 _) rfl rfl rfl (by decide +kernel) (by decide) _ _ _ _ fun u2 r2 => look 0 (J6 _) rfl rfl rfl (by decide +kernel) (by decide) _ _ _ _ fun u3 r3 => ?_)))
  obtain rfl : u3 = Value.ref a := r3
  refine ost_new TU (J6 _) ea hno r2 fun dx s' nd ne J' => ?_
  refine PySem.wpAt_of_wpAny (wpAny_pure ?_)
  exact ⟨.non, _, J'.os, J'.bare, J'.base, J'.hok, rfl, kq dx nd ne⟩
end
end W

set_option Elab.async false
set_option linter.all false
set_option maxRecDepth 100000
set_option maxHeartbeats 4000000
set_option exponentiation.threshold 2000
namespace W
open PySem PySem.Spec PyProof.Rows L2 GxR MyG MyS SqX MyR
/-! ### _check_form and parse_map of rows that cannot stand -/
/-- the error of a line -/
def BadL (IP P : Addr) (H : Hp) (E : XK) (n : Int) : Prop := ∀ H', Grew P H H' → ∀ e, H' e = none → E (.ref IP) (some e) (L2.upd H' e (.xd [("line", V.int n)]))
theorem BadL.on {IP P : Addr} {H H1 : Hp} {E : XK} {n : Int} (h : BadL IP P H E n) (g : Grew P H H1) : BadL IP P H1 E n := fun H' g' => h H' (g.trans g')
/-- the first line (from 0) that is not as it should be: one that cannot stand, or the one behind the last -/
def FirstBad (rss : List (List Str)) (i : Nat) : Prop := (∀ j, j < i → j < rss.length → canM rss j = true) ∧ ((i < rss.length ∧ canM rss i = false) ∨ (i = rss.length ∧ rss.length < 3))
def spFormX (IP P Pa Pn Ph : Addr) : Sp := fun vs H Q E => ∃ (p : Addr) (rss : List (List Str)) (i : Nat), vs = [.ref p] ∧ RowsIn H p rss ∧ rss.length ≤ 900 ∧ FirstBad rss i ∧ Tab4 H P Pa Pn Ph ∧ BadL IP P H E ((i : Int) + 1)
theorem flown {H : Hp} {U a dx : Addr} {fs : List (Str × V)} (na : H a = none) (ndx : (L2.upd H a (exo a U none)) dx = none) : L2.upd (del (L2.upd (L2.upd (L2.upd H a (exo a U none)) dx (exd dx fs)) a (exo a U (some dx))) a) dx (.xd fs) = L2.upd H dx (.xd fs) := by
  funext b
  by_cases h1 : b = dx
  · subst h1; rw [upd_same, upd_same]
  · rw [upd_ne h1, upd_ne h1]
    by_cases h2 : b = a
    · subst h2; rw [del_same, na]
    · rw [del_ne h2, upd_ne h2, upd_ne h1, upd_ne h2]
section
variable {Pg : Program} {w : World} {K : PySem.W.Frag} {mg : Str → Option Value} {base : Heap} {C P Pa Pn Ph HD IP : Addr}
theorem ok_formX {f fC fX : Addr} {fd fdC fdX : FuncData} (F : Fun K "_check_form" "_check_form" sForm f fd) (hl : mg "len" = none) (hrg : mg "range" = none) (hH : mg "HEADS" = some (.ref HD)) (HK : TupK K HD (headsL.map V.str))
    (GC : FnOk Pg w K mg base CX0 7 fC fdC ["rows", "at"] (spCan P Pa Pn Ph)) (gC : mg "_can_stand" = some (.ref fC)) (kC : PySem.W.keepIn K (.ref fC) = true) (bC : Binds K fdC ["rows", "at"] [])
    (gX : mg "InvalidNotation" = some (.ref IP)) (TX : OexC K IP) (iX : PySem.W.findIn K (.ref IP) "__init__" = some (some (.ref fX))) (tX : PySem.W.typeIn K (.ref fX) = some (.type "function"))
    (GX : FnOk Pg w K mg base CX0 1 fX fdX ["self", "line"] (spPInit K IP)) (bX : Binds K fdX ["self", "line"] []) :
    FnOk Pg w K mg base (L2.CX Pg w) 8 f fd ["rows"] (spFormX IP P Pa Pn Ph) := by
  refine F.okX scForm (fun vs H Q E h => ?_) (fun cdv A outer s H vs Q E hr h => ?_)
  · obtain ⟨p, rss, i, rfl, _⟩ := h
    rfl
  · obtain ⟨p, rss, i, rfl, hR, h900, ⟨hgood, hbad⟩, t4, k⟩ := h
    have hP := t4.p
    refine ⟨_, C8.pss_cut (ps_for (passes_of rfl) rfl (pi_range1 rfl hrg (pa_cons (pe_callB (r := rLenK K) call_len_seq (by rfl) hl PySem.boot_len (pa_cons (pv 0) pa_nil)) pa_nil)) (pg_name (i := 1) scForm.nd rfl (Or.inl rfl))
        (pss_one (ps_if (pt_not (pt_val (pe_call GC (hr.mono (by decide)) (by rfl) gC kC bC .nil pass0 (pa_cons (pv 0) (pa_cons (pv 1) pa_nil)))))
          (pss_one (ps_raise rfl (takes_of rfl rfl rfl rfl) (pmk_oex TX iX tX GX (hr.mono (by decide)) bX .nil pass0 (by rfl) gX (pa_cons (pe_op op_add (pv 1) pe_int) pa_nil)))) pss_nil)))
      (pss_one (ps_if (pt_cmpR op_lt (pe_callB (r := rLenK K) call_len_seq (by rfl) hl PySem.boot_len (pa_cons (pv 0) pa_nil)) (pe_callB (r := rLenK K) call_len_seq (by rfl) hl PySem.boot_len (pa_cons (pe_glob (v := .ref HD) (by rfl) hH rfl) pa_nil)) (nomark _))
        (pss_one (ps_raise rfl (takes_of rfl rfl rfl rfl) (pmk_oex TX iX tX GX (hr.mono (by decide)) bX .nil pass0 (by rfl) gX (pa_cons (pe_op op_add (pe_callB (r := rLenK K) call_len_seq (by rfl) hl PySem.boot_len (pa_cons (pv 0) pa_nil)) pe_int) pa_nil)))) pss_nil)), ?_⟩
    obtain ⟨rs, hp, hrs⟩ := hR.ex
    have hlr := Paired.len hrs
    have raise : ∀ {H3 : Hp} {n : Int}, Grew P H H3 → n = (i : Int) + 1 → BadL IP P H3 E n := fun g e => by rw [e]; exact k.on g
    refine ⟨fun σ H' => i = rss.length ∧ rss.length < 3 ∧ ∃ kv : Option V, σ = [some (.ref p), kv] ∧ Grew P H H' ∧ RowsIn H' p rss, ?_, ?_⟩
    · refine ⟨_, rfl, p, _, rfl, .inl (SqL.of hp), _, rfl, by omega, by omega, for_range (n := rs.length) (fun j σ H' => j ≤ i ∧ ∃ kv : Option V, σ = [some (.ref p), kv] ∧ Grew P H H' ∧ RowsIn H' p rss ∧ Tab4 H' P Pa Pn Ph) ⟨Nat.zero_le _, none, rfl, Grew.refl hP, hR, t4⟩ ?_ ?_⟩
      · rintro j σ H2 hj ⟨hji, kv, rfl, g2, R2, t2⟩
        have hj2 : j < rss.length := by omega
        refine ⟨_, rfl, _, rfl, p, _, j, by rw [Int.zero_add]; rfl, R2, hj2, t2, fun H3 g3 => ⟨_, rfl, ?_⟩⟩
        by_cases c : j = i
        · subst c
          have hb : canM rss j = false := by
            rcases hbad with ⟨_, q⟩ | ⟨q, _⟩
            · exact q
            · omega
          rw [hb]
          have e1 : (0 : Int) + (j : Int) + 1 = (j : Int) + 1 := by omega
          refine iteT ⟨_, rfl, _, _, rfl, rfl, by simp, fun a na => ⟨a, (j : Int) + 1, by rw [← e1]; rfl, by omega, by omega, upd_same, fun dx2 nd ne => ⟨rfl, dx2, [("line", .int ((j : Int) + 1))], upd_same, ?_, ?_, ?_⟩⟩⟩
          · rw [upd_ne ne]; exact upd_same
          · rw [upd_ne ne] at nd; exact nd
          · rw [flown na nd]
            rw [upd_ne ne] at nd
            exact k H3 (g2.trans g3) dx2 nd
        · rw [hgood j (by omega) hj2]
          exact iteF ⟨by omega, _, rfl, g2.trans g3, R2.grew g3 g2.tab, t2.grew g3⟩
      · rintro σ H2 ⟨hji, kv, rfl, g2, R2, t2⟩
        have : i = rss.length ∧ rss.length < 3 := by
          rcases hbad with ⟨q, _⟩ | q
          · omega
          · exact q
        exact ⟨this.1, this.2, kv, rfl, g2, R2⟩
    rintro σ H2 ⟨ei, l3, kv, rfl, g2, R2⟩
    obtain ⟨rs2, hp2, hrs2⟩ := R2.ex
    have hl2 := Paired.len hrs2
    refine ⟨_, rfl, p, _, rfl, .inl (SqL.of hp2), HD, _, rfl, .inr HK.sq, _, _, rfl, rfl, _, rfl, if_t ?_ ?_⟩
    · rw [show (headsL.map V.str).length = 3 from rfl]
      exact decide_eq_true (by omega)
    refine ⟨_, rfl, p, _, rfl, .inl (SqL.of hp2), _, _, rfl, rfl, by simp, fun a na => ⟨a, (i : Int) + 1, by rw [hl2.symm, ei]; rfl, by omega, by omega, upd_same, fun dx2 nd ne => ⟨rfl, dx2, [("line", .int ((i : Int) + 1))], upd_same, ?_, ?_, ?_⟩⟩⟩
    · rw [upd_ne ne]; exact upd_same
    · rw [upd_ne ne] at nd; exact nd
    · rw [flown na nd]
      rw [upd_ne ne] at nd
      exact k H2 g2 dx2 nd
end
end W

set_option Elab.async false
set_option linter.all false
set_option maxRecDepth 100000
set_option maxHeartbeats 4000000
set_option exponentiation.threshold 2000
namespace W
open PySem PySem.Spec PyProof.Rows L2 GxR MyG MyS SqX MyR
/-- a text one of whose lines is not as it should be -/
structure BadText (z : Str) (ls : List Str) (i : Nat) : Prop where
  els : Txt.split z zNl = ls
  zl : z.length ≤ 100000
  ln : ls.length ≤ 900
  ll : ∀ l ∈ ls, l.length ≤ 1000
  wl : ∀ ws ∈ ls.map (fun l => Txt.split l zSp), ws ≠ [] ∧ WordsOk ws ∧ ws.length ≤ 1000
  bad : FirstBad (ls.map fun l => Txt.split l zSp) i
def spParseX (IP P Pa Pn Ph : Addr) : Sp := fun vs H Q E => ∃ (z : Str) (ls : List Str) (i : Nat), vs = [.str z] ∧ BadText z ls i ∧ Tab4 H P Pa Pn Ph ∧ BadL IP P H E ((i : Int) + 1)
def spParseB (K : PySem.W.Frag) (M C IP P Pa Pn Ph : Addr) : Sp := fun vs H Q E => spParse K M C P Pa Pn Ph vs H Q E ∨ spParseX IP P Pa Pn Ph vs H Q E
theorem FnOk.orC {Pg : Program} {w : World} {K : PySem.W.Frag} {mg : Str → Option Value} {base : Heap} {CX : CXT} {k : Nat} {f : Addr} {fd : FuncData} {ps : List Str} {sp1 sp2 : Sp} (F : FnOk Pg w K mg base CX k f fd ps sp1) (G : FnOk Pg w K mg base CX k f fd ps sp2) :
    FnOk Pg w K mg base CX k f fd ps (fun vs H Q E => sp1 vs H Q E ∨ sp2 vs H Q E) := by
  refine ⟨fun vs H Q E h => h.elim (F.len vs H Q E) (G.len vs H Q E), fun A outer s H args us vs Q E hr e0 hb r hsp => ?_⟩
  rcases hsp with h | h
  · exact F.run A outer s H args us vs Q E hr e0 hb r h
  · exact G.run A outer s H args us vs Q E hr e0 hb r h
section
variable {Pg : Program} {w : World} {K : PySem.W.Frag} {mg : Str → Option Value} {base : Heap} {C P Pa Pn Ph HD IP : Addr}
theorem ok_parseX {f fR fF fD fI M : Addr} {fd fdR fdF fdD fdI : FuncData} {mv : List Value} (F : Fun K "parse_map" "parse_map" sParse f fd) (hl : mg "len" = none) (hi : mg "int" = none) (hH : mg "HEADS" = some (.ref HD))
    (GR : FnOk Pg w K mg base CX0 1 fR fdR ["text"] (spRowsT P)) (gR : mg "rows_of" = some (.ref fR)) (kR : PySem.W.keepIn K (.ref fR) = true) (bR : Binds K fdR ["text"] [])
    (GF : FnOk Pg w K mg base (L2.CX Pg w) 8 fF fdF ["rows"] (spFormX IP P Pa Pn Ph)) (gF : mg "_check_form" = some (.ref fF)) (kF : PySem.W.keepIn K (.ref fF) = true) (bF : Binds K fdF ["rows"] [])
    (GD : FnOk Pg w K mg base CX0 3 fD fdD ["words"] (spReadR K P)) (gD : mg "read_road" = some (.ref fD)) (kD : PySem.W.keepIn K (.ref fD) = true) (bD : Binds K fdD ["words"] [])
    (Mk : L2.Mk K M fI) (gM : mg "Map" = some (.ref M)) (GI : FnOk Pg w K mg base (L2.CX Pg w) 5 fI fdI pInit (spInitX K M C P)) (kb : KBn K fdI pInit 1 kMapC (fun us ws => gMapC us mv ws) (fun vs zs => gMapC vs (([] : List (Str × V)).map (·.2)) zs)) :
    FnOk Pg w K mg base (L2.CX Pg w) 9 f fd ["text"] (spParseX IP P Pa Pn Ph) := by
  refine F.okX scParse (fun vs H Q E h => ?_) (fun cdv A outer s H vs Q E hr h => ?_)
  · obtain ⟨z, ls, i, rfl, _⟩ := h
    rfl
  · obtain ⟨z, ls, i, rfl, b, t4, k⟩ := h
    have hP := t4.p
    refine ⟨_, pss_cons (ps_set (i := 1) scParse.nd rfl (Or.inl rfl) (pe_call GR (hr.mono (by decide)) (by rfl) gR kR bR .nil pass0 (pa_cons (pv 0) pa_nil)))
      (C8.pss_cut (ps_expr (pe_call (E := E) GF (hr.mono (by decide)) (by rfl) gF kF bF .nil (passes_call (takes_of rfl rfl rfl rfl) (fun _ _ _ _ h => h)) (pa_cons (pv 1) pa_nil)))
      (pss_cons (ps_set (i := 2) scParse.nd rfl (Or.inl rfl) (pe_slice sl_list (pv 1) (po_some (pe_callB (r := rLenK K) call_len_seq (by rfl) hl PySem.boot_len (pa_cons (pe_glob (v := .ref HD) (by rfl) hH rfl) pa_nil))) po_none))
      (pss_one (ps_ret (pe_makeK0 (E := E) Mk GI (hr.mono (by decide)) (by rfl) gM kb (passes_call (takes_of rfl rfl rfl rfl) (fun _ _ _ _ h => h))
        (pk_cons (pe_callTy (T := "int") call_int_str (by rfl) hi (by decide +kernel) (pa_cons (pe_ix (r := rIxL K) ix_list (pe_ix (r := rIxL K) ix_list (pv 1) pe_int (fun _ _ => rfl)) pe_int (fun _ _ => rfl)) pa_nil))
        (pk_cons (pe_slice sl_list (pe_ix (r := rIxL K) ix_list (pv 1) pe_int (fun _ _ => rfl)) (po_some pe_int) po_none)
        (pk_cons (pe_slice sl_list (pe_ix (r := rIxL K) ix_list (pv 1) pe_int (fun _ _ => rfl)) (po_some pe_int) po_none)
        (pk_cons (pe_lc (own := [("words", 3)]) (g := gName 3) rfl scParse.nd (pi_list (pv 2)) (blkOk_by (N := nParse) (sc := defScope sParse) (by decide +kernel)) (fun _ _ _ _ _ => pg_name (i := 3) scParse.nd rfl (Or.inl rfl))
            (fun _ _ _ _ _ => pts_one (pt_cmpR (r := rEq) op_eq (pe_ix (r := rIxL K) ix_list (pv 3) pe_int (fun _ _ => rfl)) pe_str (nomark _)))
            (fun _ _ _ _ _ => pe_call GD (hr.mono (by decide)) (by rfl) gD kD bD .nil pass0 (pa_cons (pv 3) pa_nil)))
        (pk_cons (pe_lc (own := [("words", 3)]) (g := gName 3) rfl scParse.nd (pi_list (pv 2)) (blkOk_by (N := nParse) (sc := defScope sParse) (by decide +kernel)) (fun _ _ _ _ _ => pg_name (i := 3) scParse.nd rfl (Or.inl rfl))
            (fun _ _ _ _ _ => pts_one (pt_cmpR (r := rEq) op_eq (pe_ix (r := rIxL K) ix_list (pv 3) pe_int (fun _ _ => rfl)) pe_str (nomark _)))
            (fun _ _ _ _ _ => pe_slice (r := rSlL K) sl_list (pv 3) (po_some pe_int) po_none)) pk_nil)))))))))), ?_⟩
    refine ⟨_, rfl, z, ls, rfl, b.els, b.zl, Nat.le_trans b.ln (by decide), b.ll, hP, fun H1 p rv g1 np hp hrs => ?_⟩
    have R1 : RowsIn H1 p (ls.map fun l => Txt.split l zSp) := ⟨⟨rv, hp, hrs⟩, fun ws h => (b.wl ws h).1, fun ws h => (b.wl ws h).2⟩
    refine ⟨fun _ _ => False, ?_, fun σ H' h => h.elim⟩
    exact ⟨_, rfl, p, _, i, rfl, R1, by rw [List.length_map]; exact b.ln, b.bad, t4.grew g1, k.on g1⟩
end
end W

set_option Elab.async false
set_option linter.all false
set_option maxRecDepth 100000
set_option maxHeartbeats 1000000
namespace MyR
open PySem PySem.Spec PyProof.Rows L2
/-! ### try: .. except A as n: .. except B as n: .. -/
/-- the ends of a clause's suite: n is gone behind it -/
def offS (i : Nat) (D : Ends) : Ends := { nx := fun σ H => D.nx (σ.set i none) H, rt := D.rt, bk := fun σ H => D.bk (σ.set i none) H, ct := fun σ H => D.ct (σ.set i none) H }
abbrev Suite := Addr → Value → Option Addr → TS
def wAll (K : PySem.W.Frag) (i : Nat) (Wout : WX) (D : Ends) : List (Value × Suite) → WX
  | [] => Wout
  | p :: l => fun cls d σ H => ∃ b, PySem.W.exmOne K cls p.1 = some b ∧ (b = true → ∀ a, H a = none → p.2 a cls d (offS i D) (σ.set i (some (.ref a))) H) ∧ (b = false → wAll K i Wout D l cls d σ H)
inductive Clauses (X : Cx) (n : Str) : List ExceptHandler → List (Value × Suite) → Prop
  | nil : Clauses X n [] []
  | cons {x : Str} {c : Value} {ts : Suite} {s0 : Stmt} {ss : List Stmt} {p1 p2 : Pos} {hs : List ExceptHandler} {l : List (Value × Suite)} (hc : Names X x c)
      (run : ∀ (a : Addr) (o : Obj) (cls : Value) (d : Option Addr) (pn : List (Addr × Obj)), Zc cls d o → (∃ vs, o.data = .fields vs) → PSs (X.suite a ((a, o) :: pn)) (s0 :: ss) (ts a cls d)) (r : Clauses X n hs l) :
      Clauses X n (.ExceptHandler (some (.Name x p1)) (some n) (s0 :: ss) p2 :: hs) ((c, ts) :: l)
section
variable {X : Cx} {n : Str} {i : Nat} {body : List Stmt} {h0 : ExceptHandler} {hs : List ExceptHandler} {l : List (Value × Suite)} {pos : Pos} {tb : WX → TS} {Wout : WX}
theorem ps_try_all (st : X.stack = X.env :: X.outer) (fr : X.env.frame = some X.env.locals) (nd : X.N.Nodup) (at_ : X.N[i]? = some n) (loc : X.env.kindOf n = some .local) (tk : Takes X Wout)
    (hb : ∀ (W : WX) (pn : List (Addr × Obj)) (xe : Value → Shared → Prop), Takes (X.tr pn xe) W → PassesOwn (model X.prog X.w) X.A X.env xe → PSs (X.tr pn xe) body (tb W)) (hh : Clauses X n (h0 :: hs) l) :
    PS X (.Try body (h0 :: hs) [] [] pos) (fun D σ H => tb (wAll X.K i Wout D l) D σ H) := by
  refine ⟨fun pins s σ H D I h => wpAny_Try_except ?_⟩
  have ok := I.ok
  have af : X.A.frames = some (X.env :: X.outer) := by rw [ok.frames, st]
  -- what the catch does with an exception
  obtain ⟨catch_, ec⟩ : ∃ c : Value → Shared → Prop, c = fun e z => wpAny (model X.prog X.w) X.A (noteFrame e X.env) (fun _ z2 => wpAny (model X.prog X.w) X.A (setFlight e none) (fun _ z3 =>
    wpAny (model X.prog X.w) X.A (handleBy e X.env (h0 :: hs)) (SP X pins D) X.xe z3) X.xe z2) X.xe z := ⟨_, rfl⟩
  have T : Takes (X.tr (X.pn ++ pins) catch_) (wAll X.K i Wout D l) := fun u z thrown => by
    obtain ⟨a, B, zI, pins', σ', H', cls, d, rfl, J0, nb, up, sky0, na, os, ag, wish⟩ := thrown
    have J : Inv X pins σ' H' zI := J0.ofTry ok
    have sky : Sky B (X.env :: X.outer) a (Zc cls d) X.env.locals z.heap := by rw [← st]; exact sky0
    rw [ec]
    refine Sky.land Zc.steady af fr sky fun k1 fl1 up1 => ?_
    have J1 : Inv X pins σ' H' { z with heap := k1 } := J.landed nb fl1.1 (up.trans up1) os ag
    obtain ⟨o1, vs1, g1, z1, d1⟩ := fl1.there
    have out : a ∉ frs (X.env :: X.outer) := fun hm => by
      obtain ⟨_, o', e', hnf⟩ := fl1.2.2.1.mem hm
      rw [g1] at e'
      cases e'
      exact hnf _ d1
    have neL : a ≠ X.env.locals := fun e => out (List.mem_filterMap.mpr ⟨X.env, List.mem_cons_self, by rw [fr, e]⟩)
    have neF : a ∉ X.fs := fun hm => by
      obtain ⟨e, he, q⟩ := List.mem_filterMap.mp hm
      exact out (List.mem_filterMap.mpr ⟨e, List.mem_cons_of_mem _ he, q⟩)
    have S1 := J1.suite g1 d1 na neL neF
    suffices go : ∀ {hs' : List ExceptHandler} {l' : List (Value × Suite)}, Clauses X n hs' l' → wAll X.K i Wout D l' cls d σ' H' → wpAny (model X.prog X.w) X.A (handleBy (.ref a) X.env hs') (SP X pins D) X.xe { z with heap := k1 } from go hh wish
    intro hs' l' hk
    induction hk with
    | nil =>
      intro wo
      refine wpAny_handleBy_nil ?_
      obtain ⟨_, _, _, o2, vs2, T2, oT2, ts2, g2, z2, d2, f2, _⟩ := id fl1
      unfold PySem.passOn
      refine wpAny_bind (wpAny_field g2 d2 f2 ?_)
      rw [if_neg (show ¬ ((Value.ref T2 == Value.none) = true) from by simp)]
      have last : wpAny (model X.prog X.w) X.A (setFlight (.ref a) X.env.frame) (fun _ z4 => wpAny (model X.prog X.w) X.A (throw (.ref a) : Sem Flow) (SP X pins D) X.xe z4) X.xe { z with heap := k1 } := by
        rw [fr]
        exact HandSPX.setFlight_upZ fl1 fun k2 sky2 up2 => wpAny_throw (tk _ _ ⟨a, B, zI, pins, σ', H', cls, d, rfl, J, nb, (up.trans up1).trans up2, .inr (.inr (by rw [st]; exact sky2)), na, os, ag, wo⟩)
      first
        | exact wpAny_bind (wpAny_pure (wpAny_bind last))
        | exact wpAny_bind last
    | @cons x c ts s0 ss p1 p2 hs2 l2 hc run r ih =>
      rintro ⟨b, eb, yes, no⟩
      refine wpAny_handleBy_cons (codeAny_handlers_test ?_) (by intro q; cases q)
      have fits := PySem.W.exm_one (M := model X.prog X.w) J1.kIn (fun A Q E z k q => wpAny_typeOf_ref (k _ _ g1) (by rw [z1.1]; exact q)) eb
      have named : ∀ {Q E : Value → Shared → Prop}, Q c { z with heap := k1 } → wpAny (model X.prog X.w) (X.A.mark (some (.ref a))) (eval (.Name x p1) X.env) Q E { z with heap := k1 } := fun {Q E} q => by
        obtain ⟨gl, db, m | ⟨m, v, nn⟩⟩ := hc
        · exact ld_glob (X := X.suite a ((a, o1) :: (X.pn ++ pins))) S1 gl m q db
        · exact ld_blt (X := X.suite a ((a, o1) :: (X.pn ++ pins))) S1 gl m v q nn db
      refine named (fits.here ?_)
      cases b with
      | false => exact ih (no rfl)
      | true =>
        refine codeAny_handlers_suite_as (HandSPX.lands_againZ fl1 fun k2 fl2 up2 => ?_)
        have J2 : Inv X pins σ' H' { z with heap := k2 } := J.landed nb fl2.1 ((up.trans up1).trans up2) os ag
        obtain ⟨o2, vs2, g2, z2, d2⟩ := fl2.there
        refine store_ok (X := X.suite a ((a, o2) :: (X.pn ++ pins))) (v := .ref a) (J2.suite g2 d2 na neL neF) nd at_ (.inl loc) rfl (fun z5 S5 => ?_) (.inr loc)
        refine wpAny_mono ((run a o2 cls d (X.pn ++ pins) z2 ⟨_, d2⟩).run [] z5 _ H' _ S5 (yes rfl a na)) (fun fl z6 hs6 => ?_) (fun _ _ q => False.elim q)
        have bare : ∀ {σ6 : L2.St} {H6 : Hp} {R : Shared → Prop}, Inv (X.suite a ((a, o2) :: (X.pn ++ pins))) [] σ6 H6 z6 → (∀ z7, Inv X pins (σ6.set i none) H6 z7 → R z7) →
          wpAny (model X.prog X.w) X.A (do bindName X.env n .none; unbindBehindTheSuite X.env n p2) (fun _ z7 => R z7) X.xe z6 := fun {σ6 H6 R} S6 q => gone_ok (S6.unsuite ok) nd at_ loc q
        match fl, hs6 with
        | .next, ⟨_, _, S6, q⟩ => exact bare S6 fun _ J7 => ⟨_, _, J7, q⟩
        | .brk, ⟨_, _, S6, q⟩ => exact bare S6 fun _ J7 => ⟨_, _, J7, q⟩
        | .cont, ⟨_, _, S6, q⟩ => exact bare S6 fun _ J7 => ⟨_, _, J7, q⟩
        | .ret u, ⟨_, _, _, S6, rv, q⟩ => exact bare S6 fun _ J7 => ⟨_, _, _, J7, rv, q⟩
  have P : PassesOwn (model X.prog X.w) X.A X.env catch_ := by
    rw [ec]
    exact PassesOwn.looking
  refine wpAny_mono (((hb _ (X.pn ++ pins) catch_ T P).run [] s σ H D (I.toTry _) h)) (fun fl z hsp => ?_) (fun e z he => by
    have he' : catch_ e z := he
    rw [ec] at he'
    exact he')
  match fl, hsp with
  | .next, ⟨_, _, J, q⟩ => exact wpAny_execs_nil ⟨_, _, J.ofTry ok, q⟩
  | .brk, ⟨_, _, J, q⟩ => exact ⟨_, _, J.ofTry ok, q⟩
  | .cont, ⟨_, _, J, q⟩ => exact ⟨_, _, J.ofTry ok, q⟩
  | .ret u, ⟨_, _, _, J, rv, q⟩ => exact ⟨_, _, _, J.ofTry ok, rv, q⟩
end
end MyR

set_option Elab.async false
set_option linter.all false
set_option maxRecDepth 100000
set_option maxHeartbeats 1000000
namespace MyR
open PySem PySem.Spec PyProof.Rows L2
/-! ### as TryM's, where what stands behind the named clauses (a clause without a name, say) is never reached -/
inductive ClausesL (X : Cx) (n : Str) : List ExceptHandler → List (Value × Suite) → Prop
  | nil {hs : List ExceptHandler} : ClausesL X n hs []
  | cons {x : Str} {c : Value} {ts : Suite} {s0 : Stmt} {ss : List Stmt} {p1 p2 : Pos} {hs : List ExceptHandler} {l : List (Value × Suite)} (hc : Names X x c)
      (run : ∀ (a : Addr) (o : Obj) (cls : Value) (d : Option Addr) (pn : List (Addr × Obj)), Zc cls d o → (∃ vs, o.data = .fields vs) → PSs (X.suite a ((a, o) :: pn)) (s0 :: ss) (ts a cls d)) (r : ClausesL X n hs l) :
      ClausesL X n (.ExceptHandler (some (.Name x p1)) (some n) (s0 :: ss) p2 :: hs) ((c, ts) :: l)
section
variable {X : Cx} {n : Str} {i : Nat} {body : List Stmt} {h0 : ExceptHandler} {hs : List ExceptHandler} {l : List (Value × Suite)} {pos : Pos} {tb : WX → TS}
theorem ps_try_low (st : X.stack = X.env :: X.outer) (fr : X.env.frame = some X.env.locals) (nd : X.N.Nodup) (at_ : X.N[i]? = some n) (loc : X.env.kindOf n = some .local) 
    (hb : ∀ (W : WX) (pn : List (Addr × Obj)) (xe : Value → Shared → Prop), Takes (X.tr pn xe) W → PassesOwn (model X.prog X.w) X.A X.env xe → PSs (X.tr pn xe) body (tb W)) (hh : ClausesL X n (h0 :: hs) l) :
    PS X (.Try body (h0 :: hs) [] [] pos) (fun D σ H => tb (wAll X.K i (fun _ _ _ _ => False) D l) D σ H) := by
  refine ⟨fun pins s σ H D I h => wpAny_Try_except ?_⟩
  have ok := I.ok
  have af : X.A.frames = some (X.env :: X.outer) := by rw [ok.frames, st]
  -- what the catch does with an exception
  obtain ⟨catch_, ec⟩ : ∃ c : Value → Shared → Prop, c = fun e z => wpAny (model X.prog X.w) X.A (noteFrame e X.env) (fun _ z2 => wpAny (model X.prog X.w) X.A (setFlight e none) (fun _ z3 =>
    wpAny (model X.prog X.w) X.A (handleBy e X.env (h0 :: hs)) (SP X pins D) X.xe z3) X.xe z2) X.xe z := ⟨_, rfl⟩
  have T : Takes (X.tr (X.pn ++ pins) catch_) (wAll X.K i (fun _ _ _ _ => False) D l) := fun u z thrown => by
    obtain ⟨a, B, zI, pins', σ', H', cls, d, rfl, J0, nb, up, sky0, na, os, ag, wish⟩ := thrown
    have J : Inv X pins σ' H' zI := J0.ofTry ok
    have sky : Sky B (X.env :: X.outer) a (Zc cls d) X.env.locals z.heap := by rw [← st]; exact sky0
    rw [ec]
    refine Sky.land Zc.steady af fr sky fun k1 fl1 up1 => ?_
    have J1 : Inv X pins σ' H' { z with heap := k1 } := J.landed nb fl1.1 (up.trans up1) os ag
    obtain ⟨o1, vs1, g1, z1, d1⟩ := fl1.there
    have out : a ∉ frs (X.env :: X.outer) := fun hm => by
      obtain ⟨_, o', e', hnf⟩ := fl1.2.2.1.mem hm
      rw [g1] at e'
      cases e'
      exact hnf _ d1
    have neL : a ≠ X.env.locals := fun e => out (List.mem_filterMap.mpr ⟨X.env, List.mem_cons_self, by rw [fr, e]⟩)
    have neF : a ∉ X.fs := fun hm => by
      obtain ⟨e, he, q⟩ := List.mem_filterMap.mp hm
      exact out (List.mem_filterMap.mpr ⟨e, List.mem_cons_of_mem _ he, q⟩)
    have S1 := J1.suite g1 d1 na neL neF
    suffices go : ∀ {hs' : List ExceptHandler} {l' : List (Value × Suite)}, ClausesL X n hs' l' → wAll X.K i (fun _ _ _ _ => False) D l' cls d σ' H' → wpAny (model X.prog X.w) X.A (handleBy (.ref a) X.env hs') (SP X pins D) X.xe { z with heap := k1 } from go hh wish
    intro hs' l' hk
    induction hk with
    | nil =>
      intro wo
      exact False.elim wo
    | @cons x c ts s0 ss p1 p2 hs2 l2 hc run r ih =>
      rintro ⟨b, eb, yes, no⟩
      refine wpAny_handleBy_cons (codeAny_handlers_test ?_) (by intro q; cases q)
      have fits := PySem.W.exm_one (M := model X.prog X.w) J1.kIn (fun A Q E z k q => wpAny_typeOf_ref (k _ _ g1) (by rw [z1.1]; exact q)) eb
      have named : ∀ {Q E : Value → Shared → Prop}, Q c { z with heap := k1 } → wpAny (model X.prog X.w) (X.A.mark (some (.ref a))) (eval (.Name x p1) X.env) Q E { z with heap := k1 } := fun {Q E} q => by
        obtain ⟨gl, db, m | ⟨m, v, nn⟩⟩ := hc
        · exact ld_glob (X := X.suite a ((a, o1) :: (X.pn ++ pins))) S1 gl m q db
        · exact ld_blt (X := X.suite a ((a, o1) :: (X.pn ++ pins))) S1 gl m v q nn db
      refine named (fits.here ?_)
      cases b with
      | false => exact ih (no rfl)
      | true =>
        refine codeAny_handlers_suite_as (HandSPX.lands_againZ fl1 fun k2 fl2 up2 => ?_)
        have J2 : Inv X pins σ' H' { z with heap := k2 } := J.landed nb fl2.1 ((up.trans up1).trans up2) os ag
        obtain ⟨o2, vs2, g2, z2, d2⟩ := fl2.there
        refine store_ok (X := X.suite a ((a, o2) :: (X.pn ++ pins))) (v := .ref a) (J2.suite g2 d2 na neL neF) nd at_ (.inl loc) rfl (fun z5 S5 => ?_) (.inr loc)
        refine wpAny_mono ((run a o2 cls d (X.pn ++ pins) z2 ⟨_, d2⟩).run [] z5 _ H' _ S5 (yes rfl a na)) (fun fl z6 hs6 => ?_) (fun _ _ q => False.elim q)
        have bare : ∀ {σ6 : L2.St} {H6 : Hp} {R : Shared → Prop}, Inv (X.suite a ((a, o2) :: (X.pn ++ pins))) [] σ6 H6 z6 → (∀ z7, Inv X pins (σ6.set i none) H6 z7 → R z7) →
          wpAny (model X.prog X.w) X.A (do bindName X.env n .none; unbindBehindTheSuite X.env n p2) (fun _ z7 => R z7) X.xe z6 := fun {σ6 H6 R} S6 q => gone_ok (S6.unsuite ok) nd at_ loc q
        match fl, hs6 with
        | .next, ⟨_, _, S6, q⟩ => exact bare S6 fun _ J7 => ⟨_, _, J7, q⟩
        | .brk, ⟨_, _, S6, q⟩ => exact bare S6 fun _ J7 => ⟨_, _, J7, q⟩
        | .cont, ⟨_, _, S6, q⟩ => exact bare S6 fun _ J7 => ⟨_, _, J7, q⟩
        | .ret u, ⟨_, _, _, S6, rv, q⟩ => exact bare S6 fun _ J7 => ⟨_, _, _, J7, rv, q⟩
  have P : PassesOwn (model X.prog X.w) X.A X.env catch_ := by
    rw [ec]
    exact PassesOwn.looking
  refine wpAny_mono (((hb _ (X.pn ++ pins) catch_ T P).run [] s σ H D (I.toTry _) h)) (fun fl z hsp => ?_) (fun e z he => by
    have he' : catch_ e z := he
    rw [ec] at he'
    exact he')
  match fl, hsp with
  | .next, ⟨_, _, J, q⟩ => exact wpAny_execs_nil ⟨_, _, J.ofTry ok, q⟩
  | .brk, ⟨_, _, J, q⟩ => exact ⟨_, _, J.ofTry ok, q⟩
  | .cont, ⟨_, _, J, q⟩ => exact ⟨_, _, J.ofTry ok, q⟩
  | .ret u, ⟨_, _, _, J, rv, q⟩ => exact ⟨_, _, _, J.ofTry ok, rv, q⟩
end
end MyR

set_option Elab.async false
set_option linter.all false
set_option maxRecDepth 100000
set_option maxHeartbeats 4000000
set_option exponentiation.threshold 2000
namespace W
open PySem PySem.Spec PyProof.Rows L2 GxR MyG MyS SqX MyR
/-! ### _law_told -/
theorem pe_gC {X : Cx} {x : Str} {A : Addr} {pos : Pos} (hm : X.mg x = some (.ref A)) (hg : Gl X x := by rfl) (hd : (x == ("__debug__" : Str)) = false := by decide) : PE X (.Name x pos) (tC (.ref A)) := pe_glob hg hm rfl hd
theorem pe_gV {X : Cx} {pos : Pos} (hm : X.mg "ValueError" = none) (hg : Gl X "ValueError" := by rfl) : PE X (.Name "ValueError" pos) (tC (.ty "ValueError")) := pe_bltn (v := .ty "ValueError") hg hm (by decide +kernel) rfl
theorem pe_joinK {X : Cx} {K : PySem.W.Frag} (hK : X.K = K) {o e : Expr} {to te : TE} {apos pos : Pos} (ho : PE X o to) (he : PE X e te) (hs : starEach [e] X.env = [(false, eval e X.env)] := by rfl) (hbase : attributeBase o "join" X.env (eval o X.env) = eval o X.env := by rfl) (hline : (apos.endLine == pos.line) = true := by rfl) :
    PE X (.Call (.Attribute o "join" apos) [e] [] pos) (tM1 (fun x xs H Q => ∃ a p, ∃ ys : List Str, x = .str a ∧ xs = [.ref p] ∧ (SqL K H p (ys.map V.str) ∨ SqT K H p (ys.map V.str)) ∧
      (ys.map (·.length)).sum + ys.length * a.length ≤ 16777216 ∧ Q (.str (Txt.join a ys)) H) to te) := by
  subst hK
  exact pe_join ho he hs hbase hline
abbrev sTold : Stmt := top 62
def spTold (P Pa Pn Ph : Addr) : Sp := fun vs H Q _ => ∃ (p : Addr) (ls : List Str), vs = [.ref p] ∧ H p = some (.lst (ls.map V.str)) ∧ ls.length ≤ 900 ∧ (∀ l ∈ ls, l.length ≤ 1000) ∧ Tab4 H P Pa Pn Ph ∧
  ((∃ (d : Int) (ks ps : List Str) (rs : List RoadD) (bs : List (Str × Str)), ls = mapL d ks ps rs bs ∧ FormP d ks ps rs bs ∧ PartsOk d ks ps rs bs ∧ ∀ H', Grew P H H' → Q (.int 0) H') ∨ ∃ i : Nat, BadText (Txt.join zNl ls) ls i ∧ ∀ H', Grew P H H' → Q (.int ((i : Int) + 1)) H')
section
variable {Pg : Program} {w : World} {K : PySem.W.Frag} {mg : Str → Option Value} {base : Heap} {C P Pa Pn Ph IP B M : Addr}
abbrev nTd : List Str := ["lines", "e"]
theorem scTd : FnScope nTd ["lines"] (defScope sTold) := ⟨rfl, rfl, rfl, by decide +kernel, rfl, by decide +kernel, by decide +kernel⟩
theorem ok_told {f fP : Addr} {fd fdP : FuncData} (F : Fun K "_law_told" "_law_told" sTold f fd) (hs : mg "isinstance" = none) (hV : mg "ValueError" = none) (hi : mg "int" = none) (hbo : mg "bool" = none) (gI : mg "InvalidNotation" = some (.ref IP)) (gB : mg "WaypapersError" = some (.ref B)) (gC : mg "InvalidMap" = some (.ref C))
    (XI : XfC K IP) (DI : ExcD K IP) (nI : PySem.W.findIn K (.ref IP) "line" = some none) (eI : PySem.W.exmOne K (.ref IP) (.ref IP) = some true)
    (iB : PySem.W.kitOne K (.ref IP) (.ref B) = some true) (iV : PySem.W.kitOne K (.ref IP) (.type "ValueError") = some true) (iC : PySem.W.kitOne K (.ref IP) (.ref C) = some false)
    (GP : FnOk Pg w K mg base (L2.CX Pg w) 9 fP fdP ["text"] (spParseB K M C IP P Pa Pn Ph)) (gP : mg "parse_map" = some (.ref fP)) (kP : PySem.W.keepIn K (.ref fP) = true) (bP : Binds K fdP ["text"] []) :
    FnOk Pg w K mg base CX0 10 f fd ["lines"] (spTold P Pa Pn Ph) := by
  refine F.ok scTd (fun vs H Q E h => ?_) (fun cdv A outer s H vs Q E hr h => ?_)
  · obtain ⟨p, ls, rfl, _⟩ := h
    rfl
  · obtain ⟨p, ls, rfl, hp, ll, lz, t4, hz⟩ := h
    have hP := t4.p
    refine ⟨_, pss_cons (ps_try_low (i := 1) (n := "e") rfl rfl scTd.nd rfl rfl
        (fun W pn xe tk _ => pss_one (ps_expr (pe_callS GP (hr.mono (by decide)) rfl gP kP bP (fun σ => passAt tk σ) (pa_cons (pe_joinK (K := K) rfl pe_str (pv 0)) pa_nil))))
        (ClausesL.cons (c := .ref IP) ⟨rfl, by decide, .inl gI⟩ (fun a oe cls dd pn hz hf => pss_cons (ps_if (PW.pt (pw_and (pt_val (pe_callB (call_isD DI hz hf) (by rfl) hs (by decide +kernel) (pa_cons (pv 1) (pa_cons (pe_gC gB) pa_nil))))
              (pw_and (pt_val (pe_callB (call_isD DI hz hf) (by rfl) hs (by decide +kernel) (pa_cons (pv 1) (pa_cons (pe_gV hV) pa_nil))))
              (pw_and1 (pt_not (pt_val (pe_callB (call_isD DI hz hf) (by rfl) hs (by decide +kernel) (pa_cons (pv 1) (pa_cons (pe_gC gC) pa_nil)))))))))
              (pss_one (ps_if (PW.pt (pw_and (pt_val (pe_callB (r := rIsi K) call_isi (by rfl) hs (by decide +kernel) (pa_cons (pe_xf XI nI hz hf (pv 1)) (pa_cons (pe_bltn (v := .ty "int") (by rfl) hi (by decide +kernel) rfl) pa_nil))))
                (pw_and1 (pt_not (pt_val (pe_callB (r := rIsi K) call_isi (by rfl) hs (by decide +kernel) (pa_cons (pe_xf XI nI hz hf (pv 1)) (pa_cons (pe_bltn (v := .ty "bool") (by rfl) hbo (by decide +kernel) rfl) pa_nil))))))))
                (pss_one (ps_ret (pe_xf XI nI hz hf (pv 1)))) pss_nil)) pss_nil)
            (pss_one (ps_ret (pe_un un_neg pe_int)))) ClausesL.nil))
      (pss_one (ps_ret pe_int)), ?_⟩
    refine ⟨⟨_, rfl⟩, _, rfl, zNl, p, ls, rfl, rfl, .inl (SqL.of hp), join_room zNl_len lz ll (by decide), ?_⟩
    rcases hz with ⟨d, ks, ps, rs, bs, e, fo, ok, k⟩ | ⟨i, hb, k⟩
    · exact .inl ⟨d, ks, ps, rs, bs, by rw [e], fo, t4, fun _ x H' ks' ps' rs' bs' g _ _ _ => k _ g, fun no => absurd ok no⟩
    · refine .inr ⟨_, ls, i, rfl, hb, t4, fun H2 g9 e ne => ?_⟩
      refine ⟨true, eI, fun _ a na => ?_, fun q => Bool.noConfusion q⟩
      have gE := g9.put (o := .xd [("line", V.int ((i : Int) + 1))]) ne
      refine ⟨_, rfl, .ref B, .ref B, e, _, true, rfl, rfl, rfl, fun u h => h, upd_same, iB, _, rfl, if_t rfl ?_⟩
      refine ⟨_, rfl, .ty "ValueError", .type "ValueError", e, _, true, rfl, rfl, rfl, fun u h => h, upd_same, iV, _, rfl, if_t rfl ?_⟩
      refine ⟨_, rfl, .ref C, .ref C, e, _, false, rfl, rfl, rfl, fun u h => h, upd_same, iC, _, rfl, if_t rfl ?_⟩
      refine ⟨_, rfl, rfl, rfl, e, _, .int ((i : Int) + 1), rfl, upd_same, rfl, _, _, _, _, true, rfl, .ty "int", .base (.int _), rfl, _, rfl, if_t rfl ?_⟩
      refine ⟨_, rfl, rfl, rfl, e, _, .int ((i : Int) + 1), rfl, upd_same, rfl, _, _, _, _, false, rfl, .ty "bool", .base (.int _), rfl, _, rfl, if_t rfl ?_⟩
      exact ⟨_, rfl, rfl, rfl, e, _, .int ((i : Int) + 1), rfl, upd_same, rfl, k _ gE⟩
end
end W

set_option Elab.async false
set_option linter.all false
set_option maxRecDepth 100000
set_option maxHeartbeats 4000000
set_option exponentiation.threshold 2000
namespace W
open PySem PySem.Spec PyProof.Rows L2 GxR MyG MyS SqX MyR
/-! ### _law_bad_word -/
abbrev sBw : Stmt := top 63
def badNs : List Str := ["", "0a", "A", "abcdefghijklm", "a_b", "a-b", "7"]
def badIs : List Str := ["", "00", "-1", "1.0", "a", "1000000", "+1", "07"]
def badHs : List Str := ["", "1", "-", "1-", "-1", "1-2-3", "01-2", "1-a", "1-1000000", "Always", "1--2", "1:2"]
theorem badNs_f : ∀ w ∈ badNs, isNm w = false ∧ w ≠ zCo ∧ w.length ≤ 13 := by decide +kernel
theorem badIs_f : ∀ w ∈ badIs, isNr 6 w = false ∧ w ≠ zCo ∧ w.length ≤ 13 := by decide +kernel
theorem badHs_f : ∀ w ∈ badHs, isPairW w = false ∧ w ≠ zCo ∧ w ≠ zAlw ∧ w.length ≤ 13 := by decide +kernel
theorem bad_plain : ∀ w ∈ badNs ++ (badIs ++ badHs), ∀ c ∈ TL.tl w, 33 ≤ c ∧ c ≤ 126 := by decide +kernel
theorem atI_in {α : Type} {xs : List α} {i : Int} (h0 : 0 ≤ i) (h1 : i < xs.length) : ∃ c, atI xs i = some c ∧ c ∈ xs := by
  obtain ⟨n, rfl⟩ := Int.eq_ofNat_of_zero_le h0
  have hn : n < xs.length := by omega
  exact ⟨xs[n], atI_nat (List.getElem?_eq_getElem hn), List.getElem_mem hn⟩
theorem atI_mod {α : Type} {xs : List α} {n : Int} (hl : 0 < xs.length) : ∃ c, atI xs (n % (xs.length : Int)) = some c ∧ c ∈ xs :=
  atI_in (Int.emod_nonneg _ (by omega)) (Int.emod_lt_of_pos _ (by omega))
def zSoN : Str := "name"
def zSoI : Str := "integer"
def zSoH : Str := "hours"
def badOf (z : Str) : List Str := if z = zSoN then badNs else if z = zSoI then badIs else badHs
def spBadWord (P : Addr) : Sp := fun vs H Q _ => ∃ (z : Str) (n : Int), vs = [.str z, .int n] ∧ TabG H P ∧ ∀ H' w, Grew P H H' → w ∈ badOf z → Q (.str w) H'
abbrev nBw : List Str := ["sort", "number"]
theorem scBw : FnScope nBw ["sort", "number"] (defScope sBw) := ⟨rfl, rfl, rfl, by decide +kernel, rfl, by decide +kernel, by decide +kernel⟩
section
variable {Pg : Program} {w : World} {K : PySem.W.Frag} {mg : Str → Option Value} {base : Heap} {C P : Addr}
theorem ok_badWord {f : Addr} {fd : FuncData} (F : Fun K "_law_bad_word" "_law_bad_word" sBw f fd) : FnOk Pg w K mg base CX0 1 f fd ["sort", "number"] (spBadWord P) := by
  refine F.ok scBw (fun vs H Q E h => ?_) (fun cdv A outer s H vs Q E hr h => ?_)
  · obtain ⟨z, n, rfl, _⟩ := h
    rfl
  · obtain ⟨z, n, rfl, hP, kQ⟩ := h
    refine ⟨_, (pss_cons (ps_if (pt_cmpR op_eq (pv 0) pe_str (nomark _)) (pss_one (ps_ret (pe_ix (r := rIxL K) ix_list (pe_lst (pa_cons pe_str (pa_cons pe_str (pa_cons pe_str (pa_cons pe_str (pa_cons pe_str (pa_cons pe_str (pa_cons pe_str pa_nil)))))))) (pe_op op_mod (pv 1) pe_int) (fun _ _ => rfl))))
        pss_nil)
      (pss_cons (ps_if (pt_cmpR op_eq (pv 0) pe_str (nomark _)) (pss_one (ps_ret (pe_ix (r := rIxL K) ix_list (pe_lst (pa_cons pe_str (pa_cons pe_str (pa_cons pe_str (pa_cons pe_str (pa_cons pe_str (pa_cons pe_str (pa_cons pe_str (pa_cons pe_str pa_nil))))))))) (pe_op op_mod (pv 1) pe_int) (fun _ _ => rfl))))
        pss_nil)
      (pss_one (ps_ret (pe_ix (r := rIxL K) ix_list (pe_lst (pa_cons pe_str (pa_cons pe_str (pa_cons pe_str (pa_cons pe_str (pa_cons pe_str (pa_cons pe_str (pa_cons pe_str (pa_cons pe_str (pa_cons pe_str (pa_cons pe_str (pa_cons pe_str (pa_cons pe_str pa_nil))))))))))))) (pe_op op_mod (pv 1) pe_int) (fun _ _ => rfl)))))), ?_⟩
    refine ⟨_, rfl, rfl, _, rfl, ?_⟩
    by_cases c : z = zSoN
    · refine if_t (decide_eq_true (congrArg V.str c)) ?_
      refine ⟨(show 7 ≤ sizeLine by decide), fun L nL => ?_⟩
      obtain ⟨v, ev, hv⟩ := atI_mod (xs := badNs.map V.str) (n := n) (by decide)
      obtain ⟨x, hx, rfl⟩ := List.mem_map.mp hv
      refine ⟨_, rfl, _, _, rfl, rfl, (show (0 : Int) < 7 by decide), L, _, _, .str x, rfl, rfl, SqL.of upd_same, ev, ?_⟩
      exact kQ _ x (Grew.new hP nL) (by unfold badOf; rw [if_pos c]; exact hx)
    refine if_f (decide_eq_false fun e => c (by injection e)) ?_
    refine ⟨_, rfl, rfl, _, rfl, ?_⟩
    by_cases c2 : z = zSoI
    · refine if_t (decide_eq_true (congrArg V.str c2)) ?_
      refine ⟨(show 8 ≤ sizeLine by decide), fun L nL => ?_⟩
      obtain ⟨v, ev, hv⟩ := atI_mod (xs := badIs.map V.str) (n := n) (by decide)
      obtain ⟨x, hx, rfl⟩ := List.mem_map.mp hv
      refine ⟨_, rfl, _, _, rfl, rfl, (show (0 : Int) < 8 by decide), L, _, _, .str x, rfl, rfl, SqL.of upd_same, ev, ?_⟩
      exact kQ _ x (Grew.new hP nL) (by unfold badOf; rw [if_neg c, if_pos c2]; exact hx)
    refine if_f (decide_eq_false fun e => c2 (by injection e)) ?_
    refine ⟨(show 12 ≤ sizeLine by decide), fun L nL => ?_⟩
    obtain ⟨v, ev, hv⟩ := atI_mod (xs := badHs.map V.str) (n := n) (by decide)
    obtain ⟨x, hx, rfl⟩ := List.mem_map.mp hv
    refine ⟨_, rfl, _, _, rfl, rfl, (show (0 : Int) < 12 by decide), L, _, _, .str x, rfl, rfl, SqL.of upd_same, ev, ?_⟩
    exact kQ _ x (Grew.new hP nL) (by unfold badOf; rw [if_neg c, if_neg c2]; exact hx)
end
end W

set_option Elab.async false
set_option linter.all false
set_option maxRecDepth 100000
set_option maxHeartbeats 4000000
set_option exponentiation.threshold 2000
namespace W
open PySem PySem.Spec PyProof.Rows L2 GxR MyG MyS SqX MyR
/-! ### rows that stand nowhere -/
def w0 (ws : List Str) : Str := ws.getD 0 Str.empty
structure Dead (ws : List Str) : Prop where
  hd : w0 ws ∈ headsL → isHeadW ws = false
  rd : w0 ws = zRoad → isRoadW ws = false
  br : w0 ws = zBarW → ws.length = 3 → (ws.drop 1).all isNm = false
theorem Dead.can {ws : List Str} (h : Dead ws) {rss : List (List Str)} {i : Nat} (e : rss.getD i [] = ws) : canM rss i = false := by
  have c : canM rss i = (if i < 3 then decide (w0 ws = headsL.getD i Str.empty) && isHeadW ws
    else if w0 ws = zRoad then !decide ((rss.getD (i - 1) []).getD 0 Str.empty = zBarW) && isRoadW ws
    else decide (w0 ws = zBarW) && (decide (ws.length = 3) && (ws.drop 1).all isNm)) := by
    unfold canM w0
    rw [e]
  rw [c]
  by_cases i3 : i < 3
  · rw [if_pos i3]
    by_cases q : w0 ws = headsL.getD i Str.empty
    · have hm : w0 ws ∈ headsL := by
        rw [q, List.getD_eq_getElem?_getD, List.getElem?_eq_getElem (show i < headsL.length from i3)]
        exact List.getElem_mem _
      rw [h.hd hm, Bool.and_false]
    · rw [decide_eq_false q, Bool.false_and]
  · rw [if_neg i3]
    by_cases q : w0 ws = zRoad
    · rw [if_pos q, h.rd q, Bool.and_false]
    · rw [if_neg q]
      by_cases q2 : w0 ws = zBarW
      · by_cases q3 : ws.length = 3
        · rw [h.br q2 q3, Bool.and_false, Bool.and_false]
        · rw [decide_eq_false q3, Bool.false_and, Bool.and_false]
      · rw [decide_eq_false q2, Bool.false_and]
theorem all_no {ws : List Str} {x : Str} (hx : x ∈ ws) (h : isNm x = false) : ws.all isNm = false := by
  cases e : ws.all isNm with
  | false => rfl
  | true =>
    have := List.all_eq_true.mp e x hx
    rw [h] at this
    exact Bool.noConfusion this
theorem dead_first {w : Str} {r : List Str} (h : w ∉ headsL) (h1 : w ≠ zRoad) (h2 : w ≠ zBarW) : Dead (w :: r) := ⟨fun e => absurd e h, fun e => absurd e h1, fun e => absurd e h2⟩
theorem dead_day {r : List Str} (h : r.length ≠ 1 ∨ isNr 6 (r.getD 0 Str.empty) = false) : Dead (zDayW :: r) := by
  refine ⟨fun _ => ?_, fun e => absurd (show zDayW = zRoad from e) (by decide +kernel), fun e => absurd (show zDayW = zBarW from e) (by decide +kernel)⟩
  have e : isHeadW (zDayW :: r) = (decide ((zDayW :: r).length = 2) && isNr 6 ((zDayW :: r).getD 1 Str.empty)) := by
    unfold isHeadW
    rw [if_pos (show (zDayW :: r).getD 0 Str.empty = zDayW from rfl)]
  rw [e]
  rcases h with h | h
  · rw [decide_eq_false (show ¬ (zDayW :: r).length = 2 from fun q => h (by simpa using q)), Bool.false_and]
  · rw [show (zDayW :: r).getD 1 Str.empty = r.getD 0 Str.empty from by simp [List.getD], h, Bool.and_false]
theorem dead_names {w : Str} {r : List Str} {x : Str} (hw : w = zKinds ∨ w = zPlaces) (hx : x ∈ r) (h : isNm x = false) : Dead (w :: r) := by
  have hd : w ≠ zDayW := by rcases hw with rfl | rfl <;> decide +kernel
  have hr : w ≠ zRoad := by rcases hw with rfl | rfl <;> decide +kernel
  have hb : w ≠ zBarW := by rcases hw with rfl | rfl <;> decide +kernel
  refine ⟨fun _ => ?_, fun e => absurd e hr, fun e => absurd e hb⟩
  have e : isHeadW (w :: r) = ((w :: r).drop 1).all isNm := by
    unfold isHeadW
    rw [if_neg (show ¬ (w :: r).getD 0 Str.empty = zDayW from hd)]
  rw [e]
  exact all_no (ws := r) hx h
theorem dead_bar {r : List Str} (h : r.length ≠ 2 ∨ ∃ x ∈ r, isNm x = false) : Dead (zBarW :: r) := by
  refine ⟨fun e => absurd (show zBarW ∈ headsL from e) (by decide +kernel), fun e => absurd (show zBarW = zRoad from e) (by decide +kernel), fun _ l => ?_⟩
  rcases h with h | ⟨x, hx, h⟩
  · exact absurd (by simpa using l) h
  · exact all_no (ws := r) hx h
theorem dead_road {r : List Str} (h : isRoadW (zRoad :: r) = false) : Dead (zRoad :: r) :=
  ⟨fun e => absurd (show zRoad ∈ headsL from e) (by decide +kernel), fun _ => h, fun e => absurd (show zRoad = zBarW from e) (by decide +kernel)⟩
/-! ### the lists between colons -/
theorem colons2 {a b : List Str} (ha : zCo ∉ a) (hb : zCo ∉ b) : colons (a ++ zCo :: b) = [a, b] := by
  unfold colons
  rw [colS_colon ha, colS_words hb]
  rfl
theorem colons3 {a b c : List Str} (ha : zCo ∉ a) (hb : zCo ∉ b) (hc : zCo ∉ c) : colons (a ++ zCo :: (b ++ zCo :: c)) = [a, b, c] := by
  unfold colons
  rw [colS_colon ha, colS_colon hb, colS_words hc]
  rfl
theorem colons4 {a b c e : List Str} (ha : zCo ∉ a) (hb : zCo ∉ b) (hc : zCo ∉ c) (he : zCo ∉ e) : colons (a ++ zCo :: (b ++ zCo :: (c ++ zCo :: e))) = [a, b, c, e] := by
  unfold colons
  rw [colS_colon ha, colS_colon hb, colS_colon hc, colS_words he]
  rfl
theorem road2 {a b : List Str} (ha : zCo ∉ a) (hb : zCo ∉ b) : isRoadW (a ++ zCo :: b) = false := by
  unfold isRoadW
  rw [colons2 ha hb]
  rfl
theorem road4 {a b c e : List Str} (ha : zCo ∉ a) (hb : zCo ∉ b) (hc : zCo ∉ c) (he : zCo ∉ e) : isRoadW (a ++ zCo :: (b ++ zCo :: (c ++ zCo :: e))) = false := by
  unfold isRoadW
  rw [colons4 ha hb hc he]
  rfl
theorem road3 {a b c : List Str} (ha : zCo ∉ a) (hb : zCo ∉ b) (hc : zCo ∉ c) (h : a.length ≠ 5 ∨ (∃ x ∈ (a.drop 1).take 3, isNm x = false) ∨ isNr 6 (a.getD 4 Str.empty) = false ∨ (∃ x ∈ b, isNm x = false) ∨ areHoursW c = false) : isRoadW (a ++ zCo :: (b ++ zCo :: c)) = false := by
  unfold isRoadW
  rw [colons3 ha hb hc]
  show (decide (a.length = 5) && (((a.drop 1).take 3).all isNm && (isNr 6 (a.getD 4 Str.empty) && (b.all isNm && areHoursW c)))) = false
  rcases h with h | ⟨x, hx, h⟩ | h | ⟨x, hx, h⟩ | h
  · rw [decide_eq_false h, Bool.false_and]
  · rw [all_no hx h]; simp
  · rw [h]; simp
  · rw [all_no hx h]; simp
  · rw [h]; simp
theorem hours_no {hs : List Str} {w : Str} (h : isPairW w = false) (hn : hs ≠ [] ∨ w ≠ zAlw) : areHoursW (hs ++ [w]) = false := by
  unfold areHoursW
  have e1 : (hs ++ [w]).all isPairW = false := by
    cases e : (hs ++ [w]).all isPairW with
    | false => rfl
    | true =>
      have := List.all_eq_true.mp e w (List.mem_append.mpr (.inr List.mem_cons_self))
      rw [h] at this
      exact Bool.noConfusion this
  have e2 : ¬ (hs ++ [w] = [zAlw]) := fun e => by
    rcases hn with q | q
    · cases hs with
      | nil => exact q rfl
      | cons a b =>
        have := congrArg List.length e
        simp at this
    · cases hs with
      | nil => exact q (by injection e)
      | cons a b =>
        have := congrArg List.length e
        simp at this
  rw [e1, decide_eq_false e2]
  rfl
end W

set_option Elab.async false
set_option linter.all false
set_option maxRecDepth 100000
set_option maxHeartbeats 4000000
set_option exponentiation.threshold 2000
namespace W
open PySem PySem.Spec PyProof.Rows L2 GxR MyG MyS SqX MyR
/-! ### the rows of a map, and what each fault makes of their words -/
structure PW20 (w : Str) : Prop where
  p : Plain w
  l : w.length ≤ 20
theorem pw_nm {w : Str} (h : isNm w = true) : PW20 w := ⟨nm_plain h, by have := isNm_len h; omega⟩
inductive MRow : List Str → Prop
  | day {x : Str} (hx : PW20 x) : MRow [zDayW, x]
  | names {w : Str} {r : List Str} (hw : w = zKinds ∨ w = zPlaces) (hr : r.all isNm = true) (hl : r.length ≤ 30) : MRow (w :: r)
  | road {n s g m : Str} {us hs : List Str} (hn : isNm n = true) (hs' : isNm s = true) (hg : isNm g = true) (hm : PW20 m) (mc : m ≠ zCo) (hu : us.all isNm = true) (hul : us.length ≤ 4) (hh : ∀ z ∈ hs, PW20 z ∧ z ≠ zCo) (hhl : hs.length ≤ 4) :
      MRow ([zRoad, n, s, g, m] ++ zCo :: (us ++ zCo :: hs))
  | bar {a b : Str} (ha : isNm a = true) (hb : isNm b = true) : MRow [zBarW, a, b]
theorem pw_lit (w : Str) (h : (w.cps.toList.all (fun c => decide (33 ≤ c) && decide (c ≤ 126)) && decide (w.length ≤ 20)) = true) : PW20 w := by
  simp only [Bool.and_eq_true, List.all_eq_true, decide_eq_true_eq] at h
  exact ⟨fun c hc => h.1 c hc, h.2⟩
theorem pw_co : PW20 zCo := pw_lit _ (by decide +kernel)
theorem pw_e : PW20 "" := pw_lit _ (by decide +kernel)
theorem MRow.pw {ws : List Str} (h : MRow ws) : ws ≠ [] ∧ (∀ w ∈ ws, PW20 w) ∧ ws.length ≤ 31 := by
  cases h with
  | day hx =>
    refine ⟨by simp, fun w hw => ?_, by simp⟩
    simp only [List.mem_cons, List.not_mem_nil, or_false] at hw
    rcases hw with rfl | rfl
    · exact pw_lit _ (by decide +kernel)
    · exact hx
  | names hw hr hl =>
    refine ⟨by simp, fun w h => ?_, by rw [List.length_cons]; omega⟩
    rcases List.mem_cons.mp h with rfl | h
    · rcases hw with rfl | rfl <;> exact pw_lit _ (by decide +kernel)
    · exact pw_nm (List.all_eq_true.mp hr w h)
  | road hn hs hg hm mc hu hul hh hhl =>
    refine ⟨by simp, fun w h => ?_, by simp; omega⟩
    rcases List.mem_append.mp h with h | h
    · simp only [List.mem_cons, List.not_mem_nil, or_false] at h
      rcases h with rfl | rfl | rfl | rfl | rfl
      · exact pw_lit _ (by decide +kernel)
      · exact pw_nm hn
      · exact pw_nm hs
      · exact pw_nm hg
      · exact hm
    · rcases List.mem_cons.mp h with rfl | h
      · exact pw_co
      · rcases List.mem_append.mp h with h | h
        · exact pw_nm (List.all_eq_true.mp hu w h)
        · rcases List.mem_cons.mp h with rfl | h
          · exact pw_co
          · exact (hh w h).1
  | bar ha hb =>
    refine ⟨by simp, fun w hw => ?_, by simp⟩
    simp only [List.mem_cons, List.not_mem_nil, or_false] at hw
    rcases hw with rfl | rfl | rfl
    · exact pw_lit _ (by decide +kernel)
    · exact pw_nm ha
    · exact pw_nm hb
theorem e_no : isNm "" = false := by decide +kernel
theorem co_no : isNm zCo = false := by decide +kernel
theorem e_co : (Str.empty : Str) ≠ zCo := by decide +kernel
theorem road_first {n s g m : Str} (hn : isNm n = true) (hs : isNm s = true) (hg : isNm g = true) (mc : m ≠ zCo) : zCo ∉ [zRoad, n, s, g, m] := fun h => by
  simp only [List.mem_cons, List.not_mem_nil, or_false] at h
  rcases h with e | e | e | e | e
  · exact absurd e (by decide +kernel)
  · exact co_nm hn e.symm
  · exact co_nm hs e.symm
  · exact co_nm hg e.symm
  · exact mc e.symm
theorem users_co {us : List Str} (h : us.all isNm = true) : zCo ∉ us := fun m => co_nm (List.all_eq_true.mp h _ m) rfl
theorem snoc_co {hs : List Str} {w : Str} (h : zCo ∉ hs) (hw : w ≠ zCo) : zCo ∉ hs ++ [w] := fun m => by
  rcases List.mem_append.mp m with m | m
  · exact h m
  · exact hw (List.mem_singleton.mp m).symm
/-- a word behind the last one: none, a colon -/
theorem dead_snoc {ws : List Str} (h : MRow ws) {w : Str} (hn : isNm w = false) (hp : w = zCo ∨ (w ≠ zCo ∧ isPairW w = false ∧ w ≠ zAlw)) : Dead (ws ++ [w]) := by
  cases h with
  | day hx => exact dead_day (.inl (by simp))
  | @names w' r hw hr hl => exact dead_names (r := r ++ [w]) hw (List.mem_append.mpr (.inr List.mem_cons_self)) hn
  | @road n s g m us hs h1 h2 h3 hm mc hu hul hh hhl =>
    have c1 := road_first h1 h2 h3 mc
    have c2 := users_co hu
    have c3 : zCo ∉ hs := fun q => (hh _ q).2 rfl
    refine dead_road (r := [n, s, g, m] ++ zCo :: (us ++ zCo :: hs) ++ [w]) ?_
    rcases hp with rfl | ⟨q1, q2, q3⟩
    · have e : zRoad :: ([n, s, g, m] ++ zCo :: (us ++ zCo :: hs) ++ [zCo]) = [zRoad, n, s, g, m] ++ zCo :: (us ++ zCo :: (hs ++ zCo :: [])) := by simp
      rw [e]
      exact road4 c1 c2 c3 (by simp)
    · have e : zRoad :: ([n, s, g, m] ++ zCo :: (us ++ zCo :: hs) ++ [w]) = [zRoad, n, s, g, m] ++ zCo :: (us ++ zCo :: (hs ++ [w])) := by simp
      rw [e]
      exact road3 c1 c2 (snoc_co c3 q1) (.inr (.inr (.inr (.inr (hours_no q2 (.inr q3))))))
  | bar ha hb => exact dead_bar (.inl (by simp))
/-- a word more behind the first -/
theorem dead_second {w : Str} {r : List Str} (h : MRow (w :: r)) {x : Str} (hx : isNm x = false ∨ w = zRoad ∨ w = zBarW ∨ w = zDayW) (xc : x ≠ zCo) : Dead (w :: x :: r) := by
  generalize e0 : w :: r = ws at h
  cases h with
  | day h =>
    injection e0 with e1 e2
    subst e1 e2
    exact dead_day (.inl (by simp))
  | @names w' r' hw hr hl =>
    injection e0 with e1 e2
    subst e1 e2
    rcases hx with q | q | q | q
    · exact dead_names hw List.mem_cons_self q
    · exact absurd q (by rcases hw with rfl | rfl <;> decide +kernel)
    · exact absurd q (by rcases hw with rfl | rfl <;> decide +kernel)
    · exact absurd q (by rcases hw with rfl | rfl <;> decide +kernel)
  | @road n s g m us hs h1 h2 h3 hm mc hu hul hh hhl =>
    injection e0 with e1 e2
    subst e1 e2
    have c1 := road_first h1 h2 h3 mc
    have c3 : zCo ∉ hs := fun q => (hh _ q).2 rfl
    refine dead_road ?_
    have c0 : zCo ∉ [zRoad, x, n, s, g, m] := fun q => by
      simp only [List.mem_cons, List.not_mem_nil, or_false] at q c1
      rcases q with q | q | q
      · exact c1 (.inl q)
      · exact xc q.symm
      · exact c1 (.inr q)
    exact road3 (a := [zRoad, x, n, s, g, m]) c0 (users_co hu) c3 (.inl (by simp))
  | bar ha hb =>
    injection e0 with e1 e2
    subst e1 e2
    exact dead_bar (.inl (by simp))
/-- the second word left out -/
theorem dead_less {w : Str} {r : List Str} (h : MRow (w :: r)) (hx : w = zRoad ∨ w = zBarW ∨ w = zDayW) : Dead (w :: r.drop 1) := by
  generalize e0 : w :: r = ws at h
  cases h with
  | day h =>
    injection e0 with e1 e2
    subst e1 e2
    exact dead_day (.inl (by simp))
  | @names w' r' hw hr hl =>
    injection e0 with e1 e2
    subst e1 e2
    rcases hx with q | q | q
    · exact absurd q (by rcases hw with rfl | rfl <;> decide +kernel)
    · exact absurd q (by rcases hw with rfl | rfl <;> decide +kernel)
    · exact absurd q (by rcases hw with rfl | rfl <;> decide +kernel)
  | @road n s g m us hs h1 h2 h3 hm mc hu hul hh hhl =>
    injection e0 with e1 e2
    subst e1 e2
    have c1 := road_first h1 h2 h3 mc
    have c3 : zCo ∉ hs := fun q => (hh _ q).2 rfl
    refine dead_road ?_
    have c0 : zCo ∉ [zRoad, s, g, m] := fun q => by
      simp only [List.mem_cons, List.not_mem_nil, or_false] at q c1
      rcases q with q | q
      · exact c1 (.inl q)
      · exact c1 (.inr (.inr q))
    exact road3 (a := [zRoad, s, g, m]) c0 (users_co hu) c3 (.inl (by simp))
  | bar ha hb =>
    injection e0 with e1 e2
    subst e1 e2
    exact dead_bar (.inl (by simp))
end W

set_option Elab.async false
set_option linter.all false
set_option maxRecDepth 100000
set_option maxHeartbeats 4000000
set_option exponentiation.threshold 2000
namespace W
open PySem PySem.Spec PyProof.Rows L2 GxR MyG MyS SqX MyR
/-! ### spoilt words -/
/-- the words of a line that stands nowhere -/
structure BadRow (ws : List Str) : Prop where
  ne : ws ≠ []
  pw : ∀ w ∈ ws, PW20 w
  l : ws.length ≤ 40
  d : Dead ws
/-- a line that stands nowhere -/
def Brk (z : Str) : Prop := ∃ ws, z = Txt.join zSp ws ∧ BadRow ws
theorem bad_pw {z : Str} {w : Str} (h : w ∈ badOf z) : PW20 w := by
  have hm : w ∈ badNs ++ (badIs ++ badHs) := by
    unfold badOf at h
    split at h
    · exact List.mem_append.mpr (.inl h)
    · split at h
      · exact List.mem_append.mpr (.inr (List.mem_append.mpr (.inl h)))
      · exact List.mem_append.mpr (.inr (List.mem_append.mpr (.inr h)))
  refine ⟨fun c hc => bad_plain w hm c hc, ?_⟩
  rcases List.mem_append.mp hm with q | q
  · have := (badNs_f w q).2.2; omega
  · rcases List.mem_append.mp q with q | q
    · have := (badIs_f w q).2.2; omega
    · have := (badHs_f w q).2.2.2; omega
/-- a word put in the place of one behind the first: heads of names, bars -/
theorem spoil_names {w : Str} {r : List Str} (h : MRow (w :: r)) (hw : w = zKinds ∨ w = zPlaces ∨ w = zBarW) {k : Nat} {x : Str} (hx : isNm x = false) : Dead (w :: (r.take k ++ [x] ++ r.drop (k + 1))) := by
  have hm : x ∈ r.take k ++ [x] ++ r.drop (k + 1) := List.mem_append.mpr (.inl (List.mem_append.mpr (.inr List.mem_cons_self)))
  rcases hw with rfl | rfl | rfl
  · exact dead_names (.inl rfl) hm hx
  · exact dead_names (.inr rfl) hm hx
  · exact dead_bar (.inr ⟨x, hm, hx⟩)
/-- the parts of a road's row -/
structure RoadRow (n s g m : Str) (us hs : List Str) : Prop where
  n1 : isNm n = true
  s1 : isNm s = true
  g1 : isNm g = true
  m1 : PW20 m
  mc : m ≠ zCo
  u1 : us.all isNm = true
  ul : us.length ≤ 4
  h1 : ∀ z ∈ hs, PW20 z ∧ z ≠ zCo
  hl : hs.length ≤ 4
def roadR (n s g m : Str) (us hs : List Str) : List Str := [zRoad, n, s, g, m] ++ zCo :: (us ++ zCo :: hs)
theorem MRow.inv {r : List Str} (h : MRow (zRoad :: r)) : ∃ n s g m us hs, zRoad :: r = roadR n s g m us hs ∧ RoadRow n s g m us hs := by
  generalize e0 : zRoad :: r = ws at h
  cases h with
  | day h => injection e0 with e1 _; exact absurd e1 (by decide +kernel)
  | names hw => injection e0 with e1 _; exact absurd e1 (by rcases hw with rfl | rfl <;> decide +kernel)
  | @road n s g m us hs h1 h2 h3 hm mc hu hul hh hhl => exact ⟨n, s, g, m, us, hs, rfl, h1, h2, h3, hm, mc, hu, hul, hh, hhl⟩
  | bar => injection e0 with e1 _; exact absurd e1 (by decide +kernel)
variable {n s g m : Str} {us hs : List Str}
theorem RoadRow.row (h : RoadRow n s g m us hs) : MRow (roadR n s g m us hs) := .road h.n1 h.s1 h.g1 h.m1 h.mc h.u1 h.ul h.h1 h.hl
theorem RoadRow.hc (h : RoadRow n s g m us hs) : zCo ∉ hs := fun q => (h.h1 _ q).2 rfl
theorem RoadRow.uc (h : RoadRow n s g m us hs) : zCo ∉ us := users_co h.u1
theorem dead_of {a b c : List Str} (e : ∃ r, a = zRoad :: r) (h : isRoadW (a ++ zCo :: (b ++ zCo :: c)) = false) : Dead (a ++ zCo :: (b ++ zCo :: c)) := by
  obtain ⟨r, rfl⟩ := e
  exact dead_road (r := r ++ zCo :: (b ++ zCo :: c)) h
/-- one of the three names -/
theorem spoil_name (h : RoadRow n s g m us hs) {c : Nat} (hc : c < 3) {x : Str} (hx : isNm x = false) (xc : x ≠ zCo) : Dead ((roadR n s g m us hs).take (1 + c) ++ [x] ++ (roadR n s g m us hs).drop (2 + c)) := by
  have h4 := h.mc
  have c1 := road_first h.n1 h.s1 h.g1 h.mc
  simp only [List.mem_cons, List.not_mem_nil, or_false, not_or] at c1
  obtain ⟨k0, k1, k2, k3, k4⟩ := c1
  have key : ∀ a b d : Str, zCo ≠ a → zCo ≠ b → zCo ≠ d → (x = a ∨ x = b ∨ x = d) → Dead ([zRoad, a, b, d, m] ++ zCo :: (us ++ zCo :: hs)) := fun a b d q1 q2 q3 hm => by
    refine dead_of ⟨_, rfl⟩ (road3 (fun q => ?_) h.uc h.hc (.inr (.inl ⟨x, ?_, hx⟩)))
    · simp only [List.mem_cons, List.not_mem_nil, or_false] at q
      rcases q with q | q | q | q | q
      · exact k0 q
      · exact q1 q
      · exact q2 q
      · exact q3 q
      · exact k4 q
    · simpa using hm
  match c, hc with
  | 0, _ => exact key x s g (Ne.symm xc) k2 k3 (.inl rfl)
  | 1, _ => exact key n x g k1 (Ne.symm xc) k3 (.inr (.inl rfl))
  | 2, _ => exact key n s x k1 k2 (Ne.symm xc) (.inr (.inr rfl))
/-- the minutes -/
theorem spoil_minutes (h : RoadRow n s g m us hs) {x : Str} (hx : isNr 6 x = false) (xc : x ≠ zCo) : Dead ((roadR n s g m us hs).take 4 ++ [x] ++ (roadR n s g m us hs).drop 5) := by
  have c1 := road_first h.n1 h.s1 h.g1 (m := x) xc
  exact dead_of (a := [zRoad, n, s, g, x]) ⟨_, rfl⟩ (road3 c1 h.uc h.hc (.inr (.inr (.inl hx))))
theorem roadR_len : (roadR n s g m us hs).length = 7 + us.length + hs.length := by unfold roadR; simp; omega
theorem roadR_take : (roadR n s g m us hs).take (6 + us.length) = [zRoad, n, s, g, m] ++ zCo :: us := by
  unfold roadR
  have e : [zRoad, n, s, g, m] ++ zCo :: (us ++ zCo :: hs) = ([zRoad, n, s, g, m] ++ zCo :: us) ++ zCo :: hs := by simp
  rw [e]
  exact List.take_left' (by simp; omega)
theorem roadR_drop : (roadR n s g m us hs).drop (6 + us.length) = zCo :: hs := by
  unfold roadR
  have e : [zRoad, n, s, g, m] ++ zCo :: (us ++ zCo :: hs) = ([zRoad, n, s, g, m] ++ zCo :: us) ++ zCo :: hs := by simp
  rw [e]
  exact List.drop_left' (by simp; omega)
/-- a user more -/
theorem spoil_user (h : RoadRow n s g m us hs) {x : Str} (hx : isNm x = false) (xc : x ≠ zCo) : Dead ((roadR n s g m us hs).take (6 + us.length) ++ [x] ++ (roadR n s g m us hs).drop (6 + us.length)) := by
  rw [roadR_take, roadR_drop]
  have e : [zRoad, n, s, g, m] ++ zCo :: us ++ [x] ++ zCo :: hs = [zRoad, n, s, g, m] ++ zCo :: ((us ++ [x]) ++ zCo :: hs) := by simp
  rw [e]
  exact dead_of ⟨_, rfl⟩ (road3 (road_first h.n1 h.s1 h.g1 h.mc) (snoc_co h.uc xc) h.hc (.inr (.inr (.inr (.inl ⟨x, List.mem_append.mpr (.inr List.mem_cons_self), hx⟩)))))
/-- hours and a word more -/
theorem spoil_hours (h : RoadRow n s g m us hs) {x : Str} (hx : isPairW x = false) (xc : x ≠ zCo) (hn : hs ≠ [] ∨ x ≠ zAlw) : Dead (roadR n s g m us hs ++ [x]) := by
  have e : roadR n s g m us hs ++ [x] = [zRoad, n, s, g, m] ++ zCo :: (us ++ zCo :: (hs ++ [x])) := by unfold roadR; simp
  rw [e]
  exact dead_of ⟨_, rfl⟩ (road3 (road_first h.n1 h.s1 h.g1 h.mc) h.uc (snoc_co h.hc xc) (.inr (.inr (.inr (.inr (hours_no hx hn))))))
/-- the last of the hours left out -/
theorem RoadRow.less (h : RoadRow n s g m us hs) : RoadRow n s g m us hs.dropLast := ⟨h.n1, h.s1, h.g1, h.m1, h.mc, h.u1, h.ul, fun z hz => h.h1 z (List.dropLast_subset hs hz), by rw [List.length_dropLast]; have := h.hl; omega⟩
theorem roadR_less (hh : hs ≠ []) : (roadR n s g m us hs).take ((roadR n s g m us hs).length - 1) = roadR n s g m us hs.dropLast := by
  have e : roadR n s g m us hs = roadR n s g m us hs.dropLast ++ [hs.getLast hh] := by
    unfold roadR
    conv => lhs; rw [← List.dropLast_concat_getLast hh]
    simp
  rw [roadR_len]
  conv => lhs; rw [e]
  refine List.take_left' ?_
  rw [roadR_len, List.length_dropLast]
  have : hs.length ≠ 0 := fun q => hh (List.length_eq_zero_iff.mp q)
  omega
/-- one of the two colons left out -/
theorem spoil_colon (h : RoadRow n s g m us hs) {k : Nat} (hk : k = 5 ∨ k = 6 + us.length) : Dead ((roadR n s g m us hs).take k ++ (roadR n s g m us hs).drop (k + 1)) := by
  have c1 := road_first h.n1 h.s1 h.g1 h.mc
  rcases hk with rfl | rfl
  · have e : (roadR n s g m us hs).take 5 ++ (roadR n s g m us hs).drop (5 + 1) = zRoad :: (([n, s, g, m] ++ us) ++ zCo :: hs) := by unfold roadR; simp
    rw [e]
    refine dead_road ?_
    have : zRoad :: (([n, s, g, m] ++ us) ++ zCo :: hs) = ([zRoad, n, s, g, m] ++ us) ++ zCo :: hs := by simp
    rw [this]
    exact road2 (fun q => (List.mem_append.mp q).elim c1 h.uc) h.hc
  · have ed : (roadR n s g m us hs).drop (6 + us.length + 1) = hs := by
      rw [← List.drop_drop, roadR_drop]
      rfl
    rw [roadR_take, ed]
    have e : [zRoad, n, s, g, m] ++ zCo :: us ++ hs = [zRoad, n, s, g, m] ++ zCo :: (us ++ hs) := by simp
    rw [e]
    exact dead_road (r := [n, s, g, m] ++ zCo :: (us ++ hs)) (road2 c1 (fun q => (List.mem_append.mp q).elim h.uc h.hc))
end W

set_option Elab.async false
set_option linter.all false
set_option maxRecDepth 100000
set_option maxHeartbeats 2000000
/-! x.replace(y, z, 1) of written texts; a first statement behind which a token is out -/
namespace MyN
open PySem PySem.Spec PyProof.Rows L2 Builtin Builtin.Str
theorem gives_repl1 (x y z : Str) (t u v k : Tok) (h0 : (u == 0 || v == 0) = false) (huv : (u == v) = false) (hyz : (y == z) = false)
    (hc : ((occurrences x y 0 x.length 1).isEmpty || (y.length == 0 && z.length == 0)) = false) (hl : tooLong (x.length + (occurrences x y 0 x.length 1).length * z.length) = false) :
    Gives (Builtin.«str.replace» ⟨[.str x t, .str y u, .str z v, .int 1 k], []⟩) (.str (glued z (partsBetween x (occurrences x y 0 x.length 1) y.length))) := by
  show Gives (do let limit ← countLimit "str.replace" (some (.int 1 k)) (x.length + 1)
                 let cuts := occurrences x y 0 x.length limit
                 if (cuts.isEmpty || (y.length == 0 && z.length == 0)) = true then (do rule "str.replace.nothing"; ret (.str x t)) else
                  (do let same ← isSame (.str y u) (.str z v)
                      if same = true then (do rule "str.replace.old-is-new"; ret (.str x t)) else
                      if tooLong (x.length + cuts.length * z.length) = true then unsupported "str.replace:memory" else
                      retStr (glued z (partsBetween x cuts y.length)))) _
  rw [countLimit_int "str.replace" 1 k (x.length + 1) (by decide)]
  show Gives (if ((occurrences x y 0 x.length 1).isEmpty || (y.length == 0 && z.length == 0)) = true then (do rule "str.replace.nothing"; ret (.str x t)) else
          (do let same ← isSame (.str y u) (.str z v)
              if same = true then (do rule "str.replace.old-is-new"; ret (.str x t)) else
              if tooLong (x.length + (occurrences x y 0 x.length 1).length * z.length) = true then unsupported "str.replace:memory" else
              retStr (glued z (partsBetween x (occurrences x y 0 x.length 1) y.length)))) _
  rw [hc, isSame_str_other y z u v h0 huv hyz, hl]
  exact .of_eq rfl
/-- what it gives -/
theorem repl1_val {x y a b z : Str} {s : Nat} {S : List Nat} (ey : TL.tl y = s :: S) (hx : x = a ++ y ++ b) (ha : s ∉ TL.tl a) :
    (occurrences x y 0 x.length 1).isEmpty = false ∧ (occurrences x y 0 x.length 1).length = 1 ∧ glued z (partsBetween x (occurrences x y 0 x.length 1) y.length) = a ++ z ++ b := by
  have p := TL.partition_app ey (a := a) (b := b) ha
  rw [← hx] at p
  have hl := StrLaws.occ_length_le x y 0 x.length 1
  unfold Txt.partition at p
  cases e : occurrences x y 0 x.length 1 with
  | nil =>
    rw [e] at p
    have q : Str.empty = y := congrArg (fun w : Str × Str × Str => w.2.1) p
    rw [← q] at ey
    cases ey
  | cons i r =>
    rw [e] at p hl
    cases r with
    | cons _ _ => simp at hl
    | nil =>
      have q1 : strSub x 0 i = a := congrArg (fun w : Str × Str × Str => w.1) p
      have q2 : strSub x (i + y.length) x.length = b := congrArg (fun w : Str × Str × Str => w.2.2) p
      refine ⟨rfl, rfl, ?_⟩
      rw [StrLaws.partsBetween_eq]
      show glued z [strSub x 0 i, strSub x (i + y.length) x.length] = _
      rw [q1, q2]
      rfl
def tRepl1 (to : TE) (y z : Str) : TE := fun σ H Q => to σ H fun v H1 => ∃ (x a b : Str) (s : Nat) (S : List Nat), v = .str x ∧ TL.tl y = s :: S ∧ x = a ++ y ++ b ∧ s ∉ TL.tl a ∧ x.length + z.length ≤ 1000000 ∧ Q (.str (a ++ z ++ b)) H1
section
variable {X : Cx} {o e f : Expr} {te tf : TE} {to : TE} {y z : Str} {j k l : Nat} {c0 c1 c2 apos pos p p' : Pos}
theorem pet_repl1 (ho : PE X o to) (hyz : (y == z) = false := by decide)
    (hbase : attributeBase o "replace" X.env (eval o X.env) = eval o X.env := by rfl)
    (hfew : ((backTo pos (starEach [.Constant (.str y) j c0, .Constant (.str z) k c1, .Constant (.int 1) l c2] X.env)).all (fun x => !x.1) && (backToKw pos (keywordEach [] X.env)).all (fun x => x.1.isSome)
      && decide (([.Constant (.str y) j c0, .Constant (.str z) k c1, .Constant (.int 1) l c2] : List Expr).length + ([] : List Keyword).length + (if ([] : List Keyword).isEmpty then 0 else 1) < 30)) = true := by rfl)
    (hline : (apos.endLine == pos.line) = true := by rfl) :
    PET X (.Call (.Attribute o "replace" apos) [.Constant (.str y) j c0, .Constant (.str z) k c1, .Constant (.int 1) l c2] [] pos) (tRepl1 to y z) := by
  intro pins s σ H Q h0 I h
  refine wpAny_Call_method_late hbase hfew hline rfl (wpAny_mono (PySem.wpAny_toks (ho.run pins s σ H _ I h)) (fun v s1 q => ?_) fun _ _ z => z.2)
  obtain ⟨hk, v', H1, I1, r1, x, a, b, sg, S, e1, ey, hx, ha, hb, q⟩ := q
  have hk' : s.toks ≤ s1.toks := hk
  have u0 : (s1.toks == 0) = false := beq_eq_false_iff_ne.mpr (by omega)
  have v0 : (s1.toks + 1 == 0) = false := beq_eq_false_iff_ne.mpr (by omega)
  have uv : (s1.toks == s1.toks + 1) = false := beq_eq_false_iff_ne.mpr (by omega)
  subst e1
  obtain ⟨tx, e2⟩ := r1
  subst e2
  refine ⟨"str", _, PySem.F.plainAttrs_str, PySem.F.slot_str_replace, PySem.F.type_str_replace, typeIs_str _ _ _, (fun _ e => nomatch e), Calls.callWith_builtin rfl (Calls.evalArgs_plain ?_)⟩
  show wpAny _ _ (spliced ((false, eval (.Constant (.str y) j c0) X.env) :: (false, eval (.Constant (.str z) k c1) X.env) :: (false, eval (.Constant (.int 1) l c2) X.env) :: [])) _ _ _
  refine Calls.spliced_cons (Calls.Constant_str (Calls.spliced_cons (Calls.Constant_str (Calls.spliced_cons (wpAny_Constant_int (Calls.spliced_nil ?_))))))
  obtain ⟨v1, v2, v3⟩ := repl1_val (z := z) ey hx ha
  have hy0 : (y.length == 0) = false := by
    have : (TL.tl y).length = y.length := by simp [TL.tl, Str.length]
    rw [ey] at this
    exact beq_eq_false_iff_ne.mpr (by rw [← this]; simp)
  refine call_gives F.slot_str_replace (typeIs_str _ _ _) F.entry_str_replace (F.args_str_replace_4 _ _ _ _)
    (gives_repl1 x y z tx s1.toks (s1.toks + 1) (s1.toks + 1 + 1) (by show (s1.toks == 0 || s1.toks + 1 == 0) = false; rw [u0, v0]; rfl) uv hyz (by rw [v1, hy0]; rfl) (by unfold tooLong; rw [v2]; exact decide_eq_false (by rw [sizeLine_eq]; omega))) ?_
  rw [v3]
  refine ⟨?_, ⟨.str (a ++ z ++ b), H1, I1.tok _, ⟨_, rfl⟩, q⟩⟩
  rw [hx] at hb
  simp only [PySem.Str.length_append] at hb ⊢
  rw [sizeLine_eq]
  omega
end
def tSplitC (to : TE) (y : Str) : TE := fun σ H Q => to σ H fun v H1 => ∃ a, v = .str a ∧ (y.length == 0) = false ∧ a.length + 2 ≤ sizeLine ∧ rNewStrs (Txt.split a y) H1 Q
section
variable {X : Cx} {o : Expr} {to : TE} {y : Str} {j : Nat} {c0 apos pos : Pos}
theorem pss_split {i : Nat} {x : Str} {apos cpos pos' pos : Pos} {rest : List Stmt} {u : TS} (hN : X.N.Nodup) (hi : X.N[i]? = some x) (hx : Loc X.env.scope x) (ho : PE X o to) (h2 : PSsT X rest u)
    (hst : starEach [.Constant (.str y) j c0] X.env = [(false, eval (.Constant (.str y) j c0) X.env)] := by rfl)
    (hbase : attributeBase o "split" X.env (eval o X.env) = eval o X.env := by rfl) (hline : (apos.endLine == cpos.line) = true := by rfl)
    (hs : swapsWith (.Call (.Attribute o "split" apos) [.Constant (.str y) j c0] [] cpos) (some (.Name x pos')) pos.line X.env = pure false := by rfl) (hf : X.fn x = true ∨ X.env.scope.names.lookup x = some .local := by first | exact .inl rfl | exact .inr rfl | assumption) :
    PSs X (.Assign [.Name x pos'] (.Call (.Attribute o "split" apos) [.Constant (.str y) j c0] [] cpos) pos :: rest) (tSeq (tAsg (tSplitC to y) (gName i)) u) := by
  refine ⟨fun pins s σ H D I h => ?_⟩
  refine wpAny_execs_cons (wpAny_Assign_Name ?_ hs)
  refine PySem.Call_method1 hbase hst hline (thn (ho.run pins s σ H _ I h) fun v s1 ⟨v', H1, I1, r1, a, e1, hy, hz, q⟩ => ?_)
  subst e1
  refine ⟨"str", _, PySem.F.plainAttrs_str, PySem.F.slot_str_split, PySem.F.type_str_split, (by obtain ⟨t, rfl⟩ := r1; exact typeIs_str _ _ _), (fun _ e => by obtain ⟨t, rfl⟩ := r1; cases e), Calls.callWith_builtin rfl (Calls.evalArgs_plain (Calls.spliced_cons ?_))⟩
  refine Calls.Constant_str (Calls.spliced_nil ?_)
  refine wpAny_mono (PySem.wpAny_toks (mt_split pins _ σ H1 (.str a) [.str y] v [.str y s1.toks] _ (I1.tok (s1.toks + 1)) r1 (.cons ⟨_, rfl⟩ .nil) ⟨a, y, rfl, rfl, hy, hz, q⟩)) (fun v2 s2 ⟨hk, w, H2, I2, r2, q2⟩ => ?_) fun _ _ z => z.2
  have hk' : s1.toks + 1 ≤ s2.toks := hk
  refine wpAny_mono (PySem.wpAny_toks (store_ok (v := w) (u := v2) (Q := fun _ s3 => Inv X pins (σ.set i (some w)) H2 s3) I2 hN hi hx r2 (fun _ I3 => I3) hf)) (fun _ s3 q => ?_) fun _ _ z => z.2
  have hk2 : s2.toks ≤ s3.toks := q.1
  exact h2 pins s3 _ H2 D (by omega) q.2 q2
theorem psst_cut {st : Stmt} {rest : List Stmt} {t u : TS} (h1 : PST X st t) (h2 : PSs X rest u) : PSsT X (st :: rest) (C8.tCut t u) := by
  intro pins s σ H D h0 I h
  obtain ⟨Mid, hm, hu⟩ := h
  refine wpAny_execs_cons (thn (h1 pins s σ H { D with nx := Mid } h0 I hm) fun f s1 q => ?_)
  cases f with
  | next =>
    obtain ⟨σ', H', I', q⟩ := q
    exact h2.run pins s1 σ' H' D I' (hu σ' H' q)
  | ret v => exact q
  | brk => exact q
  | cont => exact q
end
end MyN

set_option Elab.async false
set_option linter.all false
set_option maxRecDepth 100000
set_option maxHeartbeats 4000000
set_option exponentiation.threshold 2000
namespace W
open PySem PySem.Spec PyProof.Rows L2 GxR MyG MyS SqX MyR
/-! ### broken lines as texts -/
theorem join_head (w0 : Str) (ws : List Str) : ∃ r : List Nat, TL.tl (Txt.join zSp (w0 :: ws)) = TL.tl w0 ++ r ∧ ∀ v, TL.tl (Txt.join zSp (v :: ws)) = TL.tl v ++ r := by
  have e : ∀ v, ∃ r, TL.tl (Txt.join zSp (v :: ws)) = TL.tl v ++ r ∧ r = StrLaws.glueL zSp.cps.toList ws := fun v => ⟨_, StrLaws.glued_list zSp v ws, rfl⟩
  obtain ⟨r, h1, h2⟩ := e w0
  refine ⟨r, h1, fun v => ?_⟩
  obtain ⟨r', h3, h4⟩ := e v
  rw [h3, h4, h2]
theorem join_cons (v w : Str) (r : List Str) : Txt.join zSp (v :: w :: r) = v ++ zSp ++ Txt.join zSp (w :: r) := by
  refine TL.ext_tl ?_
  rw [TL.tl_append, TL.tl_append]
  have e1 : TL.tl (Txt.join zSp (v :: w :: r)) = TL.tl v ++ StrLaws.glueL zSp.cps.toList (w :: r) := StrLaws.glued_list zSp v (w :: r)
  have e2 : TL.tl (Txt.join zSp (w :: r)) = TL.tl w ++ StrLaws.glueL zSp.cps.toList r := StrLaws.glued_list zSp w r
  rw [e1, e2]
  show TL.tl v ++ StrLaws.glueL zSp.cps.toList (w :: r) = TL.tl v ++ TL.tl zSp ++ (TL.tl w ++ StrLaws.glueL zSp.cps.toList r)
  have e3 : StrLaws.glueL zSp.cps.toList (w :: r) = TL.tl zSp ++ (TL.tl w ++ StrLaws.glueL zSp.cps.toList r) := rfl
  rw [e3, List.append_assoc]
variable {ws : List Str}
theorem MRow.more (h : MRow ws) {ws' : List Str} (hm : ∀ w ∈ ws', w ∈ ws ∨ PW20 w) (hl : ws'.length ≤ ws.length + 1) (hn : ws' ≠ []) (d : Dead ws') : BadRow ws' :=
  ⟨hn, fun w hw => (hm w hw).elim (h.pw.2.1 w) id, by have := h.pw.2.2; omega, d⟩
theorem brk_of {ws' : List Str} (h : BadRow ws') : Brk (Txt.join zSp ws') := ⟨ws', rfl, h⟩
/-- the first word another one that begins no line -/
theorem brk_first {w v : Str} {r : List Str} (h : MRow (w :: r)) (pv : PW20 v) (h0 : v ∉ headsL) (h1 : v ≠ zRoad) (h2 : v ≠ zBarW) : Brk (Txt.join zSp (v :: r)) :=
  brk_of (h.more (fun x hx => (List.mem_cons.mp hx).elim (fun e => .inr (by rw [e]; exact pv)) (fun q => .inl (List.mem_cons_of_mem _ q))) (by simp) (by simp) (dead_first h0 h1 h2))
theorem brk_front (h : MRow ws) : Brk (zSp ++ Txt.join zSp ws) := by
  cases ws with
  | nil => exact absurd rfl h.pw.1
  | cons w r =>
    have e : zSp ++ Txt.join zSp (w :: r) = Txt.join zSp ("" :: w :: r) := by rw [join_cons]; rfl
    rw [e]
    exact brk_of (h.more (fun x hx => (List.mem_cons.mp hx).elim (fun e => .inr (by rw [e]; exact pw_e)) .inl) (by simp) (by simp) (dead_first (by decide +kernel) (by decide +kernel) (by decide +kernel)))
theorem brk_snoc (h : MRow ws) {w : Str} (pw : PW20 w) (d : Dead (ws ++ [w])) : Brk ((Txt.join zSp ws ++ zSp) ++ w) := by
  rw [← join_snoc h.pw.1]
  exact brk_of (h.more (fun x hx => (List.mem_append.mp hx).elim .inl (fun q => .inr (by rw [List.mem_singleton.mp q]; exact pw))) (by simp) (by simp) d)
/-- line + ' ' -/
theorem brk_space (h : MRow ws) : Brk (Txt.join zSp ws ++ zSp) := by
  have e : Txt.join zSp ws ++ zSp = (Txt.join zSp ws ++ zSp) ++ "" := TL.ext_tl (by rw [TL.tl_append (Txt.join zSp ws ++ zSp) ""]; exact (List.append_nil _).symm)
  rw [e]
  exact brk_snoc h pw_e (dead_snoc h e_no (.inr ⟨by decide +kernel, by decide +kernel, by decide +kernel⟩))
/-- line + ' :' -/
theorem brk_colon (h : MRow ws) : Brk (Txt.join zSp ws ++ (" :" : Str)) := by
  have e : Txt.join zSp ws ++ (" :" : Str) = (Txt.join zSp ws ++ zSp) ++ zCo := by
    rw [app_assoc]
    rfl
  rw [e]
  exact brk_snoc h pw_co (dead_snoc h co_no (.inl rfl))
/-- two spaces for the first one -/
theorem brk_two {w v : Str} {r : List Str} (h : MRow (w :: v :: r)) : Txt.join zSp (w :: v :: r) = w ++ zSp ++ Txt.join zSp (v :: r) ∧ Brk (w ++ ("  " : Str) ++ Txt.join zSp (v :: r)) := by
  refine ⟨join_cons w v r, ?_⟩
  have e : w ++ ("  " : Str) ++ Txt.join zSp (v :: r) = Txt.join zSp (w :: "" :: v :: r) := by
    rw [join_cons, join_cons]
    refine TL.ext_tl ?_
    simp only [TL.tl_append, List.append_assoc]
    rfl
  rw [e]
  exact brk_of (h.more (fun x hx => (List.mem_cons.mp hx).elim (fun e => .inl (by rw [e]; exact List.mem_cons_self)) (fun q => (List.mem_cons.mp q).elim (fun e => .inr (by rw [e]; exact pw_e)) (fun q => .inl (List.mem_cons_of_mem _ q)))) (by simp) (by simp) (dead_second h (.inl e_no) (by decide +kernel)))
theorem brk_empty : Brk "" := ⟨[""], by rw [join_one], ⟨by simp, fun w hw => by rw [List.mem_singleton.mp hw]; exact pw_e, by simp, dead_first (by decide +kernel) (by decide +kernel) (by decide +kernel)⟩⟩
end W

set_option Elab.async false
set_option linter.all false
set_option maxRecDepth 100000
set_option maxHeartbeats 4000000
set_option exponentiation.threshold 2000
namespace W
open PySem PySem.Spec PyProof.Rows L2 GxR MyG MyS SqX MyR
/-! ### the first sign made great, an s behind the first word -/
theorem MRow.first {w : Str} {r : List Str} (h : MRow (w :: r)) : w = zDayW ∨ w = zKinds ∨ w = zPlaces ∨ w = zRoad ∨ w = zBarW := by
  generalize e : w :: r = ws at h
  cases h with
  | day => injection e with e _; exact .inl e
  | names hw => injection e with e _; exact hw.elim (fun q => .inr (.inl (e.trans q))) (fun q => .inr (.inr (.inl (e.trans q))))
  | road => injection e with e _; exact .inr (.inr (.inr (.inl e)))
  | bar => injection e with e _; exact .inr (.inr (.inr (.inr e)))
theorem brk_up {w : Str} {r : List Str} (h : MRow (w :: r)) : Brk (Txt.upper (cutS (Txt.join zSp (w :: r)) none (some 1)) ++ cutS (Txt.join zSp (w :: r)) (some 1) none) ∧ (cutS (Txt.join zSp (w :: r)) none (some 1)).length ≤ 5592405 ∧ (Txt.upper (cutS (Txt.join zSp (w :: r)) none (some 1))).length ≤ 100 := by
  have main : ∀ (v : Str) (c : Nat) (t : List Nat) (d : Str), TL.tl w = c :: t → Txt.upper ⟨#[c]⟩ = d → TL.tl v = TL.tl d ++ t → PW20 v → v ∉ headsL → v ≠ zRoad → v ≠ zBarW → d.length ≤ 100 →
      Brk (Txt.upper (cutS (Txt.join zSp (w :: r)) none (some 1)) ++ cutS (Txt.join zSp (w :: r)) (some 1) none) ∧ (cutS (Txt.join zSp (w :: r)) none (some 1)).length ≤ 5592405 ∧ (Txt.upper (cutS (Txt.join zSp (w :: r)) none (some 1))).length ≤ 100 := by
    intro v c t d e0 eu ev pv n1 n2 n3 hd
    obtain ⟨q, e1, e2⟩ := join_head w r
    have hl : 1 ≤ (Txt.join zSp (w :: r)).length := by
      rw [TL.len_tl, e1, e0]
      simp
    have a1 : cutS (Txt.join zSp (w :: r)) none (some 1) = ⟨#[c]⟩ := by
      refine TL.ext_tl ?_
      rw [show TL.tl (cutS (Txt.join zSp (w :: r)) none (some 1)) = (TL.tl (Txt.join zSp (w :: r))).take 1 from cut_pre (k := 1) hl, e1, e0]
      rfl
    have a2 : TL.tl (cutS (Txt.join zSp (w :: r)) (some 1) none) = t ++ q := by
      rw [show TL.tl (cutS (Txt.join zSp (w :: r)) (some 1) none) = (TL.tl (Txt.join zSp (w :: r))).drop 1 from cut_suf (k := 1) hl, e1, e0]
      rfl
    refine ⟨?_, by rw [a1]; show 1 ≤ 5592405; decide, by rw [a1, eu]; exact hd⟩
    have e3 : Txt.upper (cutS (Txt.join zSp (w :: r)) none (some 1)) ++ cutS (Txt.join zSp (w :: r)) (some 1) none = Txt.join zSp (v :: r) := by
      refine TL.ext_tl ?_
      rw [TL.tl_append, a2, a1, eu, e2 v, ev, List.append_assoc]
    rw [e3]
    exact brk_first h pv n1 n2 n3
  rcases h.first with rfl | rfl | rfl | rfl | rfl
  · exact main "Day" 100 [97, 121] "D" (by decide +kernel) (by decide +kernel) (by decide +kernel) (pw_lit _ (by decide +kernel)) (by decide +kernel) (by decide +kernel) (by decide +kernel) (by decide +kernel)
  · exact main "Kinds" 107 [105, 110, 100, 115] "K" (by decide +kernel) (by decide +kernel) (by decide +kernel) (pw_lit _ (by decide +kernel)) (by decide +kernel) (by decide +kernel) (by decide +kernel) (by decide +kernel)
  · exact main "Places" 112 [108, 97, 99, 101, 115] "P" (by decide +kernel) (by decide +kernel) (by decide +kernel) (pw_lit _ (by decide +kernel)) (by decide +kernel) (by decide +kernel) (by decide +kernel) (by decide +kernel)
  · exact main "Road" 114 [111, 97, 100] "R" (by decide +kernel) (by decide +kernel) (by decide +kernel) (pw_lit _ (by decide +kernel)) (by decide +kernel) (by decide +kernel) (by decide +kernel) (by decide +kernel)
  · exact main "Bar" 98 [97, 114] "B" (by decide +kernel) (by decide +kernel) (by decide +kernel) (pw_lit _ (by decide +kernel)) (by decide +kernel) (by decide +kernel) (by decide +kernel) (by decide +kernel)
def zs : Str := "s"
theorem brk_s {w : Str} {r : List Str} (h : MRow (w :: r)) : Brk (w ++ zs ++ cutS (Txt.join zSp (w :: r)) (some (w.length : Int)) none) := by
  obtain ⟨q, e1, e2⟩ := join_head w r
  have hl : w.length ≤ (Txt.join zSp (w :: r)).length := by
    rw [TL.len_tl (Txt.join zSp (w :: r)), e1, List.length_append, ← TL.len_tl]
    omega
  have a2 : TL.tl (cutS (Txt.join zSp (w :: r)) (some (w.length : Int)) none) = q := by
    rw [show TL.tl (cutS (Txt.join zSp (w :: r)) (some (w.length : Int)) none) = (TL.tl (Txt.join zSp (w :: r))).drop w.length from cut_suf hl, e1]
    exact List.drop_left' (TL.len_tl w).symm
  have e3 : w ++ zs ++ cutS (Txt.join zSp (w :: r)) (some (w.length : Int)) none = Txt.join zSp ((w ++ zs) :: r) := by
    refine TL.ext_tl ?_
    rw [TL.tl_append, a2, e2]
  rw [e3]
  have key : PW20 (w ++ zs) ∧ w ++ zs ∉ headsL ∧ w ++ zs ≠ zRoad ∧ w ++ zs ≠ zBarW := by
    rcases h.first with rfl | rfl | rfl | rfl | rfl <;> exact ⟨pw_lit _ (by decide +kernel), by decide +kernel, by decide +kernel, by decide +kernel⟩
  exact brk_first h key.1 key.2.1 key.2.2.1 key.2.2.2
end W

set_option Elab.async false
set_option linter.all false
set_option maxRecDepth 100000
set_option maxHeartbeats 4000000
set_option exponentiation.threshold 2000
namespace W
open PySem PySem.Spec PyProof.Rows L2 GxR MyG MyS SqX MyR
/-! ### _law_spoilt -/
def spSpoilt (P : Addr) : Sp := fun vs H Q _ => ∃ (ws : List Str) (n pl : Int), vs = [.str (Txt.join zSp ws), .int n, .int pl] ∧ MRow ws ∧ TabG H P ∧ ∀ H' z, Grew P H H' → Brk z → Q (.str z) H'
abbrev sSp : Stmt := top 64
abbrev nSp : List Str := ["line", "number", "place", "words", "at", "split", "choice"]
theorem scSp : FnScope nSp ["line", "number", "place"] (defScope sSp) := ⟨rfl, rfl, rfl, by decide +kernel, rfl, by decide +kernel, by decide +kernel⟩
theorem join_small {ws : List Str} (h : MRow ws) : (Txt.join zSp ws).length ≤ 651 := by
  have := join_len (n := 20) fun w hw => (h.pw.2.1 w hw).l
  have l := h.pw.2.2
  have : ws.length * (20 + 1) ≤ 31 * 21 := Nat.mul_le_mul_right 21 l
  omega
section
variable {Pg : Program} {w : World} {K : PySem.W.Frag} {mg : Str → Option Value} {base : Heap} {C P : Addr}
theorem ok_spoilt {f fBw : Addr} {fd fdBw : FuncData} (F : Fun K "_law_spoilt" "_law_spoilt" sSp f fd) (hl : mg "len" = none) (hm : mg "max" = none)
    (GBw : FnOk Pg w K mg base CX0 1 fBw fdBw ["sort", "number"] (spBadWord P)) (gBw : mg "_law_bad_word" = some (.ref fBw)) (kBw : PySem.W.keepIn K (.ref fBw) = true) (bBw : Binds K fdBw ["sort", "number"] []) :
    FnOk Pg w K mg base CX0 2 f fd ["line", "number", "place"] (spSpoilt P) := by
  refine F.ok scSp (fun vs H Q E h => ?_) (fun cdv A outer s H vs Q E hr h => ?_)
  · obtain ⟨ws, n, pl, rfl, _⟩ := h
    rfl
  · obtain ⟨ws, n, pl, rfl, hw, hP, kQ⟩ := h
    refine ⟨_, (pss_cons (ps_set (i := 3) scSp.nd rfl (Or.inl rfl) (pe_split (pv 0) pe_str))
      (pss_cons (ps_if (pt_cmpR op_eq (pe_ix (r := rIxL K) ix_list (pv 3) pe_int (fun _ _ => rfl)) pe_str (nomark _)) (pss_one (ps_ret (pe_op op_add_str pe_str (pe_call GBw (hr.mono (by decide)) (by rfl) gBw kBw bBw .nil pass0 (pa_cons pe_str (pa_cons (pv 1) pa_nil))))))
        pss_nil)
      (pss_cons (ps_if (pt_cmpR op_ne (pe_ix (r := rIxL K) ix_list (pv 3) pe_int (fun _ _ => rfl)) pe_str (nomark _)) (pss_cons (ps_set (i := 4) scSp.nd rfl (Or.inl rfl) (pe_op op_add pe_int (pe_op op_mod (pv 2) (pe_callB (call_max2 rfl) (by rfl) hm (by decide +kernel) (pa_cons pe_int (pa_cons (pe_op op_sub (pe_callB (r := rLenK K) call_len_seq (by rfl) hl PySem.boot_len (pa_cons (pv 3) pa_nil)) pe_int) pa_nil))))))
      (pss_one (ps_ret (pe_join pe_str (pe_op op_cat (pe_op op_cat (pe_slice sl_list (pv 3) po_none (po_some (pv 4))) (pe_lst (pa_cons (pe_call GBw (hr.mono (by decide)) (by rfl) gBw kBw bBw .nil pass0 (pa_cons pe_str (pa_cons (pv 1) pa_nil))) pa_nil))) (pe_slice sl_list (pv 3) (po_some (pe_op op_add (pv 4) pe_int)) po_none))))))
        pss_nil)
      (pss_cons (ps_set (i := 5) scSp.nd rfl (Or.inl rfl) (pe_op op_add pe_int (pe_bm PySem.F.plainAttrs_list PySem.F.slot_list_index PySem.F.type_list_index mt_index (pe_slice sl_list (pv 3) (po_some pe_int) po_none) (pa_cons pe_str pa_nil))))
      (pss_cons (ps_set (i := 6) scSp.nd rfl (Or.inl rfl) (pe_op op_mod (pv 2) pe_int))
      (pss_cons (ps_if (pt_cmpR op_lt (pv 6) pe_int (nomark _)) (pss_one (ps_ret (pe_join pe_str (pe_op op_cat (pe_op op_cat (pe_slice sl_list (pv 3) po_none (po_some (pe_op op_add pe_int (pv 6)))) (pe_lst (pa_cons (pe_call GBw (hr.mono (by decide)) (by rfl) gBw kBw bBw .nil pass0 (pa_cons pe_str (pa_cons (pv 1) pa_nil))) pa_nil))) (pe_slice sl_list (pv 3) (po_some (pe_op op_add pe_int (pv 6))) po_none)))))
        pss_nil)
      (pss_cons (ps_if (pt_cmpR op_eq (pv 6) pe_int (nomark _)) (pss_one (ps_ret (pe_join pe_str (pe_op op_cat (pe_op op_cat (pe_slice sl_list (pv 3) po_none (po_some pe_int)) (pe_lst (pa_cons (pe_call GBw (hr.mono (by decide)) (by rfl) gBw kBw bBw .nil pass0 (pa_cons pe_str (pa_cons (pv 1) pa_nil))) pa_nil))) (pe_slice sl_list (pv 3) (po_some pe_int) po_none)))))
        pss_nil)
      (pss_cons (ps_if (pt_cmpR op_eq (pv 6) pe_int (nomark _)) (pss_one (ps_ret (pe_join pe_str (pe_op op_cat (pe_op op_cat (pe_slice sl_list (pv 3) po_none (po_some (pv 5))) (pe_lst (pa_cons (pe_call GBw (hr.mono (by decide)) (by rfl) gBw kBw bBw .nil pass0 (pa_cons pe_str (pa_cons (pv 1) pa_nil))) pa_nil))) (pe_slice sl_list (pv 3) (po_some (pv 5)) po_none)))))
        pss_nil)
      (C8.pss_cut (ps_if (PW.pt (pw_and (pt_cmpR op_eq (pe_ix (r := rIxL K) ix_list (pv 3) (pe_op op_sub (pe_callB (r := rLenK K) call_len_seq (by rfl) hl PySem.boot_len (pa_cons (pv 3) pa_nil)) pe_int) (fun _ _ => rfl)) pe_str (nomark _)) (pw_and1 (pt_cmpR op_eq (pe_op op_mod (pv 1) pe_int) pe_int (nomark _))))) (pss_one (ps_ret (pe_op op_add_str (pv 0) pe_str)))
        pss_nil)
      (C8.pss_cut (ps_if (pt_cmpR op_eq (pe_ix (r := rIxL K) ix_list (pv 3) (pe_op op_sub (pe_callB (r := rLenK K) call_len_seq (by rfl) hl PySem.boot_len (pa_cons (pv 3) pa_nil)) pe_int) (fun _ _ => rfl)) pe_str (nomark _)) (pss_one (ps_set (i := 3) scSp.nd rfl (Or.inl rfl) (pe_slice sl_list (pv 3) po_none (po_some (pe_op op_sub (pe_callB (r := rLenK K) call_len_seq (by rfl) hl PySem.boot_len (pa_cons (pv 3) pa_nil)) pe_int)))))
        pss_nil)
      (pss_one (ps_ret (pe_join pe_str (pe_op op_cat (pv 3) (pe_lst (pa_cons (pe_call GBw (hr.mono (by decide)) (by rfl) gBw kBw bBw .nil pass0 (pa_cons pe_str (pa_cons (pv 1) pa_nil))) pa_nil)))))))))))))))), ?_⟩
    have hpl := hw.pw
    have hjl := join_small hw
    have ew : Txt.split (Txt.join zSp ws) (Str.ofString " ") = ws := split_line hpl.1 fun z hz => (hpl.2.1 z hz).p
    have eN : badOf zSoN = badNs := by unfold badOf; rw [if_pos rfl]
    have eI : badOf zSoI = badIs := by unfold badOf; rw [if_neg (by decide +kernel), if_pos rfl]
    have eH : badOf zSoH = badHs := by unfold badOf; rw [if_neg (by decide +kernel), if_neg (by decide +kernel)]
    obtain ⟨w, r, rfl⟩ : ∃ w r, ws = w :: r := by
      cases ws with
      | nil => exact absurd rfl hpl.1
      | cons a b => exact ⟨a, b, rfl⟩
    refine ⟨_, rfl, ⟨_, rfl⟩, _, _, rfl, rfl, rfl, by rw [sizeLine_eq]; omega, fun W nW => ?_⟩
    rw [ew]
    have gW := Grew.new hP (o := .lst ((w :: r).map V.str)) nW
    have hW : (L2.upd H W (.lst ((w :: r).map V.str))) W = some (.lst ((w :: r).map V.str)) := upd_same
    generalize L2.upd H W (.lst ((w :: r).map V.str)) = H1 at gW hW ⊢
    have at0 : atI ((w :: r).map V.str) 0 = some (.str w) := atI_nat (j := 0) rfl
    refine ⟨_, rfl, W, _, 0, .str w, rfl, rfl, SqL.of hW, at0, rfl, _, rfl, ?_⟩
    by_cases c : w = zDayW
    · refine if_t (decide_eq_true (congrArg V.str c)) ?_
      refine ⟨_, rfl, zSoI, n, rfl, gW.tab, fun H2 b g2 hb => ?_⟩
      have pb := bad_pw hb
      rw [eI] at hb
      have e : ("day " : Str) ++ b = Txt.join zSp [zDayW, b] := by rw [join_cons, join_one]; rfl
      have lb := pb.l
      refine ⟨_, _, rfl, rfl, by rw [sizeLine_eq]; have : (Str.ofString "day ").length = 4 := rfl; omega, kQ _ _ (gW.trans g2) ?_⟩
      rw [show (Str.ofString "day " ++ b) = Txt.join zSp [zDayW, b] from e]
      exact brk_of (hw.more (fun x hx => by
        rcases List.mem_cons.mp hx with rfl | hx
        · exact .inl (by rw [c]; exact List.mem_cons_self)
        · exact .inr (by rw [List.mem_singleton.mp hx]; exact pb)) (by simp) (by simp) (dead_day (.inr (badIs_f b hb).1)))
    refine if_f (decide_eq_false fun e => c (by injection e)) ?_
    refine ⟨_, rfl, W, _, 0, .str w, rfl, rfl, SqL.of hW, at0, rfl, _, rfl, ?_⟩
    have small : ∀ {l : List Str}, (∀ x ∈ l, PW20 x) → l.length ≤ 100 → (l.map (·.length)).sum + l.length * zSp.length ≤ 16777216 := fun h1 h2 => join_room zSp_len (fun x hx => (h1 x hx).l) h2 (by decide)
    by_cases c2 : w = zRoad
    case neg =>
      refine if_t (by rw [decide_eq_false (fun e => c2 (by injection e))]; rfl) ?_
      have hnb : w = zKinds ∨ w = zPlaces ∨ w = zBarW := by
        rcases hw.first with q | q | q | q | q
        · exact absurd q c
        · exact .inl q
        · exact .inr (.inl q)
        · exact absurd q c2
        · exact .inr (.inr q)
      obtain ⟨mx, emx, m1⟩ : ∃ mx : Int, (if (((w :: r).map V.str).length : Int) - 1 > 1 then (((w :: r).map V.str).length : Int) - 1 else 1) = mx ∧ 1 ≤ mx := by
        by_cases q : (((w :: r).map V.str).length : Int) - 1 > 1
        · exact ⟨_, if_pos q, by omega⟩
        · exact ⟨1, if_neg q, by omega⟩
      refine ⟨_, rfl, _, rfl, W, _, rfl, .inl (SqL.of hW), _, _, rfl, rfl, _, _, rfl, ?_⟩
      dsimp only []
      rw [emx]
      obtain ⟨k, ek⟩ := Int.eq_ofNat_of_zero_le (Int.emod_nonneg pl (show mx ≠ 0 by omega))
      refine ⟨_, _, rfl, rfl, (by omega), _, _, rfl, rfl, ?_⟩
      dsimp only []
      rw [ek, show (1 : Int) + (k : Int) = ((1 + k : Nat) : Int) from by omega]
      refine ⟨⟨_, rfl⟩, _, rfl, _, rfl, _, rfl, W, _, rfl, SqL.of hW, fun U1 n1 => ?_⟩
      rw [cutV_pre']
      have gA := Grew.new gW.tab (o := .lst (((w :: r).map V.str).take (1 + k))) n1
      have gWA := gW.trans gA
      refine ⟨_, rfl, zSoN, n, rfl, gA.tab, fun H2 b g2 hb => ⟨(show 1 ≤ sizeLine by decide), fun U2 n2 => ?_⟩⟩
      have pb := bad_pw hb
      rw [eN] at hb
      have gB := Grew.new g2.tab (o := .lst [V.str b]) n2
      have g2B := g2.trans gB
      refine ⟨U1, U2, _, _, rfl, rfl, g2B.lst gA.tab upd_same, upd_same, (by rw [List.length_take, List.length_map, sizeLine_eq]; show _ + 1 ≤ _; have := hpl.2.2; omega), fun U3 n3 => ?_⟩
      have gC := Grew.new gB.tab (o := .lst (((w :: r).map V.str).take (1 + k) ++ [V.str b])) n3
      have gT := (gA.trans g2B).trans gC
      refine ⟨_, rfl, _, rfl, _, _, rfl, rfl, _, rfl, W, _, rfl, SqL.of (gT.lst gW.tab hW), fun U4 n4 => ?_⟩
      dsimp only []
      rw [show ((1 + k : Nat) : Int) + 1 = ((1 + k + 1 : Nat) : Int) from rfl]
      rw [cutV_suf]
      have gD := Grew.new gC.tab (o := .lst (((w :: r).map V.str).drop (1 + k + 1))) n4
      refine ⟨U3, U4, _, _, rfl, rfl, gD.lst gC.tab upd_same, upd_same, (by rw [List.length_append, List.length_take, List.length_drop, List.length_map, sizeLine_eq]; show _ + 1 + _ ≤ _; have := hpl.2.2; omega), fun U5 n5 => ?_⟩
      have gE := Grew.new gD.tab (o := .lst (((w :: r).map V.str).take (1 + k) ++ [V.str b] ++ ((w :: r).map V.str).drop (1 + k + 1))) n5
      have el : ((w :: r).map V.str).take (1 + k) ++ [V.str b] ++ ((w :: r).map V.str).drop (1 + k + 1) = ((w :: r).take (1 + k) ++ [b] ++ (w :: r).drop (1 + k + 1)).map V.str := by rw [List.map_append, List.map_append, List.map_take, List.map_drop]; rfl
      have bad : BadRow ((w :: r).take (1 + k) ++ [b] ++ (w :: r).drop (1 + k + 1)) := hw.more (fun x hx => by
        rcases List.mem_append.mp hx with q | q
        · rcases List.mem_append.mp q with q | q
          · exact .inl (List.mem_of_mem_take q)
          · exact .inr (by rw [List.mem_singleton.mp q]; exact pb)
        · exact .inl (List.mem_of_mem_drop q)) (by rw [List.length_append, List.length_append, List.length_take, List.length_drop]; show _ + 1 + _ ≤ _; omega) (by simp) (by
        have q := spoil_names hw hnb (k := k) (badNs_f b hb).1
        have e : (w :: r).take (1 + k) ++ [b] ++ (w :: r).drop (1 + k + 1) = w :: (r.take k ++ [b] ++ r.drop (k + 1)) := by rw [show 1 + k = k + 1 from by omega]; simp
        rw [e]
        exact q)
      refine ⟨zSp, U5, _, rfl, rfl, .inl (SqL.of (by rw [← el]; exact upd_same)), small bad.pw (Nat.le_trans bad.l (by decide)), ?_⟩
      exact kQ _ _ (gW.trans ((gT.trans gD).trans gE)) (brk_of bad)
    refine if_f (by rw [c2]; simp; rfl) ?_
    subst c2
    obtain ⟨na, sa, ga, ma, us, hs, er, rr⟩ := hw.inv
    have d6 : (zRoad :: r).drop 6 = us ++ zCo :: hs := by rw [er]; unfold roadR; simp
    have ul := rr.ul
    have c6 : cutV ((zRoad :: r).map V.str) (some 6) none = (us ++ zCo :: hs).map V.str := by
      rw [show cutV ((zRoad :: r).map V.str) (some 6) none = ((zRoad :: r).map V.str).drop 6 from cutV_suf _ 6, ← List.map_drop, d6]
    refine ⟨_, rfl, _, rfl, W, _, rfl, SqL.of hW, fun V1 nV1 => ?_⟩
    rw [c6]
    have hV := Grew.new gW.tab (o := .lst ((us ++ zCo :: hs).map V.str)) nV1
    have gV := gW.trans hV
    have hWV := hV.lst gW.tab hW
    have hV1 : (L2.upd H1 V1 (.lst ((us ++ zCo :: hs).map V.str))) V1 = some (.lst ((us ++ zCo :: hs).map V.str)) := upd_same
    generalize L2.upd H1 V1 (.lst ((us ++ zCo :: hs).map V.str)) = HV at hV gV hWV hV1 ⊢
    refine ⟨.inl ⟨rfl, _, SqL.of hV1⟩, V1, _, .str zCo, us.length, .str zCo, rfl, rfl, SqL.of hV1, rfl, ?_, ?_, ?_, ?_, ?_⟩
    · rw [List.all_eq_true]
      intro v hv
      obtain ⟨z, _, rfl⟩ := List.mem_map.mp hv
      rfl
    · rw [List.getElem?_map, List.getElem?_append_right (Nat.le_refl _), Nat.sub_self]
      rfl
    · decide +kernel
    · intro k z' hk hz
      rw [List.getElem?_map, List.getElem?_append_left hk] at hz
      obtain ⟨u, hu, rfl⟩ := Option.map_eq_some_iff.mp hz
      have : u ≠ zCo := fun e => rr.uc (by rw [← e]; exact List.mem_of_getElem? hu)
      show decide (u = zCo) = false
      exact decide_eq_false this
    refine ⟨_, _, rfl, rfl, _, rfl, _, _, rfl, rfl, (show (0 : Int) < 6 by decide), ?_⟩
    have p0 := Int.emod_nonneg pl (show (6 : Int) ≠ 0 by decide)
    have p1 := Int.emod_lt_of_pos pl (show (0 : Int) < 6 by decide)
    dsimp only []
    obtain ⟨ch, ech⟩ := Int.eq_ofNat_of_zero_le p0
    rw [ech] at p1 ⊢
    rw [show (6 : Int) + (us.length : Int) = ((6 + us.length : Nat) : Int) from by omega]
    refine ⟨_, rfl, _, _, rfl, rfl, _, rfl, ?_⟩
    by_cases q3 : (ch : Int) < 3
    · refine if_t (decide_eq_true q3) ?_
      refine ⟨⟨_, rfl⟩, _, rfl, _, rfl, _, _, rfl, rfl, _, rfl, W, _, rfl, SqL.of hWV, fun U1 n1 => ?_⟩
      dsimp only []
      rw [show (1 : Int) + (ch : Int) = ((1 + ch : Nat) : Int) from by omega, cutV_pre']
      have gA := Grew.new gV.tab (o := .lst (((zRoad :: r).map V.str).take (1 + ch))) n1
      have gWA := gV.trans gA
      refine ⟨_, rfl, zSoN, n, rfl, gA.tab, fun H2 b g2 hb => ⟨(show 1 ≤ sizeLine by decide), fun U2 n2 => ?_⟩⟩
      have pb := bad_pw hb
      rw [eN] at hb
      have gB := Grew.new g2.tab (o := .lst [V.str b]) n2
      have g2B := g2.trans gB
      refine ⟨U1, U2, _, _, rfl, rfl, g2B.lst gA.tab upd_same, upd_same, (by rw [List.length_take, List.length_map, sizeLine_eq]; show _ + 1 ≤ _; have := hpl.2.2; omega), fun U3 n3 => ?_⟩
      have gC := Grew.new gB.tab (o := .lst (((zRoad :: r).map V.str).take (1 + ch) ++ [V.str b])) n3
      have gT := (gA.trans g2B).trans gC
      refine ⟨_, rfl, _, rfl, _, _, rfl, rfl, _, rfl, W, _, rfl, SqL.of (gT.lst gV.tab hWV), fun U4 n4 => ?_⟩
      dsimp only []
      rw [show (2 : Int) + (ch : Int) = ((2 + ch : Nat) : Int) from by omega]
      rw [cutV_suf]
      have gD := Grew.new gC.tab (o := .lst (((zRoad :: r).map V.str).drop (2 + ch))) n4
      refine ⟨U3, U4, _, _, rfl, rfl, gD.lst gC.tab upd_same, upd_same, (by rw [List.length_append, List.length_take, List.length_drop, List.length_map, sizeLine_eq]; show _ + 1 + _ ≤ _; have := hpl.2.2; omega), fun U5 n5 => ?_⟩
      have gE := Grew.new gD.tab (o := .lst (((zRoad :: r).map V.str).take (1 + ch) ++ [V.str b] ++ ((zRoad :: r).map V.str).drop (2 + ch))) n5
      have el : ((zRoad :: r).map V.str).take (1 + ch) ++ [V.str b] ++ ((zRoad :: r).map V.str).drop (2 + ch) = ((zRoad :: r).take (1 + ch) ++ [b] ++ (zRoad :: r).drop (2 + ch)).map V.str := by rw [List.map_append, List.map_append, List.map_take, List.map_drop]; rfl
      have bad : BadRow ((zRoad :: r).take (1 + ch) ++ [b] ++ (zRoad :: r).drop (2 + ch)) := hw.more (fun x hx => by
        rcases List.mem_append.mp hx with q | q
        · rcases List.mem_append.mp q with q | q
          · exact .inl (List.mem_of_mem_take q)
          · exact .inr (by rw [List.mem_singleton.mp q]; exact pb)
        · exact .inl (List.mem_of_mem_drop q)) (by rw [List.length_append, List.length_append, List.length_take, List.length_drop]; show _ + 1 + _ ≤ _; omega) (by simp) (by rw [er]; exact spoil_name rr (by omega) (badNs_f b hb).1 (badNs_f b hb).2.1)
      refine ⟨zSp, U5, _, rfl, rfl, .inl (SqL.of (by rw [← el]; exact upd_same)), small bad.pw (Nat.le_trans bad.l (by decide)), ?_⟩
      exact kQ _ _ (gV.trans ((gT.trans gD).trans gE)) (brk_of bad)
    refine if_f (decide_eq_false q3) ?_
    refine ⟨_, rfl, rfl, _, rfl, ?_⟩
    by_cases q4 : (ch : Int) = 3
    · refine if_t (decide_eq_true (congrArg V.int q4)) ?_
      refine ⟨⟨_, rfl⟩, _, rfl, _, rfl, W, _, rfl, SqL.of hWV, fun U1 n1 => ?_⟩
      rw [show cutV ((zRoad :: r).map V.str) none (some 4) = ((zRoad :: r).map V.str).take 4 from cutV_pre' _ 4]
      have gA := Grew.new gV.tab (o := .lst (((zRoad :: r).map V.str).take (4))) n1
      have gWA := gV.trans gA
      refine ⟨_, rfl, zSoI, n, rfl, gA.tab, fun H2 b g2 hb => ⟨(show 1 ≤ sizeLine by decide), fun U2 n2 => ?_⟩⟩
      have pb := bad_pw hb
      rw [eI] at hb
      have gB := Grew.new g2.tab (o := .lst [V.str b]) n2
      have g2B := g2.trans gB
      refine ⟨U1, U2, _, _, rfl, rfl, g2B.lst gA.tab upd_same, upd_same, (by rw [List.length_take, List.length_map, sizeLine_eq]; show _ + 1 ≤ _; have := hpl.2.2; omega), fun U3 n3 => ?_⟩
      have gC := Grew.new gB.tab (o := .lst (((zRoad :: r).map V.str).take (4) ++ [V.str b])) n3
      have gT := (gA.trans g2B).trans gC
      refine ⟨_, rfl, _, rfl, W, _, rfl, SqL.of (gT.lst gV.tab hWV), fun U4 n4 => ?_⟩
      rw [show cutV ((zRoad :: r).map V.str) (some 5) none = ((zRoad :: r).map V.str).drop 5 from cutV_suf _ 5]
      have gD := Grew.new gC.tab (o := .lst (((zRoad :: r).map V.str).drop (5))) n4
      refine ⟨U3, U4, _, _, rfl, rfl, gD.lst gC.tab upd_same, upd_same, (by rw [List.length_append, List.length_take, List.length_drop, List.length_map, sizeLine_eq]; show _ + 1 + _ ≤ _; have := hpl.2.2; omega), fun U5 n5 => ?_⟩
      have gE := Grew.new gD.tab (o := .lst (((zRoad :: r).map V.str).take (4) ++ [V.str b] ++ ((zRoad :: r).map V.str).drop (5))) n5
      have el : ((zRoad :: r).map V.str).take (4) ++ [V.str b] ++ ((zRoad :: r).map V.str).drop (5) = ((zRoad :: r).take (4) ++ [b] ++ (zRoad :: r).drop (5)).map V.str := by rw [List.map_append, List.map_append, List.map_take, List.map_drop]; rfl
      have bad : BadRow ((zRoad :: r).take (4) ++ [b] ++ (zRoad :: r).drop (5)) := hw.more (fun x hx => by
        rcases List.mem_append.mp hx with q | q
        · rcases List.mem_append.mp q with q | q
          · exact .inl (List.mem_of_mem_take q)
          · exact .inr (by rw [List.mem_singleton.mp q]; exact pb)
        · exact .inl (List.mem_of_mem_drop q)) (by rw [List.length_append, List.length_append, List.length_take, List.length_drop]; show _ + 1 + _ ≤ _; omega) (by simp) (by rw [er]; exact spoil_minutes rr (badIs_f b hb).1 (badIs_f b hb).2.1)
      refine ⟨zSp, U5, _, rfl, rfl, .inl (SqL.of (by rw [← el]; exact upd_same)), small bad.pw (Nat.le_trans bad.l (by decide)), ?_⟩
      exact kQ _ _ (gV.trans ((gT.trans gD).trans gE)) (brk_of bad)
    refine if_f (decide_eq_false fun e => q4 (by injection e)) ?_
    refine ⟨_, rfl, rfl, _, rfl, ?_⟩
    by_cases q5 : (ch : Int) = 4
    · refine if_t (decide_eq_true (congrArg V.int q5)) ?_
      refine ⟨⟨_, rfl⟩, _, rfl, _, rfl, _, rfl, W, _, rfl, SqL.of hWV, fun U1 n1 => ?_⟩
      rw [cutV_pre']
      have gA := Grew.new gV.tab (o := .lst (((zRoad :: r).map V.str).take (6 + us.length))) n1
      have gWA := gV.trans gA
      refine ⟨_, rfl, zSoN, n, rfl, gA.tab, fun H2 b g2 hb => ⟨(show 1 ≤ sizeLine by decide), fun U2 n2 => ?_⟩⟩
      have pb := bad_pw hb
      rw [eN] at hb
      have gB := Grew.new g2.tab (o := .lst [V.str b]) n2
      have g2B := g2.trans gB
      refine ⟨U1, U2, _, _, rfl, rfl, g2B.lst gA.tab upd_same, upd_same, (by rw [List.length_take, List.length_map, sizeLine_eq]; show _ + 1 ≤ _; have := hpl.2.2; omega), fun U3 n3 => ?_⟩
      have gC := Grew.new gB.tab (o := .lst (((zRoad :: r).map V.str).take (6 + us.length) ++ [V.str b])) n3
      have gT := (gA.trans g2B).trans gC
      refine ⟨_, rfl, _, rfl, _, rfl, W, _, rfl, SqL.of (gT.lst gV.tab hWV), fun U4 n4 => ?_⟩
      rw [cutV_suf]
      have gD := Grew.new gC.tab (o := .lst (((zRoad :: r).map V.str).drop (6 + us.length))) n4
      refine ⟨U3, U4, _, _, rfl, rfl, gD.lst gC.tab upd_same, upd_same, (by rw [List.length_append, List.length_take, List.length_drop, List.length_map, sizeLine_eq]; show _ + 1 + _ ≤ _; have := hpl.2.2; omega), fun U5 n5 => ?_⟩
      have gE := Grew.new gD.tab (o := .lst (((zRoad :: r).map V.str).take (6 + us.length) ++ [V.str b] ++ ((zRoad :: r).map V.str).drop (6 + us.length))) n5
      have el : ((zRoad :: r).map V.str).take (6 + us.length) ++ [V.str b] ++ ((zRoad :: r).map V.str).drop (6 + us.length) = ((zRoad :: r).take (6 + us.length) ++ [b] ++ (zRoad :: r).drop (6 + us.length)).map V.str := by rw [List.map_append, List.map_append, List.map_take, List.map_drop]; rfl
      have bad : BadRow ((zRoad :: r).take (6 + us.length) ++ [b] ++ (zRoad :: r).drop (6 + us.length)) := hw.more (fun x hx => by
        rcases List.mem_append.mp hx with q | q
        · rcases List.mem_append.mp q with q | q
          · exact .inl (List.mem_of_mem_take q)
          · exact .inr (by rw [List.mem_singleton.mp q]; exact pb)
        · exact .inl (List.mem_of_mem_drop q)) (by rw [List.length_append, List.length_append, List.length_take, List.length_drop]; show _ + 1 + _ ≤ _; omega) (by simp) (by rw [er]; exact spoil_user rr (badNs_f b hb).1 (badNs_f b hb).2.1)
      refine ⟨zSp, U5, _, rfl, rfl, .inl (SqL.of (by rw [← el]; exact upd_same)), small bad.pw (Nat.le_trans bad.l (by decide)), ?_⟩
      exact kQ _ _ (gV.trans ((gT.trans gD).trans gE)) (brk_of bad)
    refine if_f (decide_eq_false fun e => q5 (by injection e)) ?_
    -- the hours
    obtain ⟨lw, elw⟩ : ∃ lw, (zRoad :: r)[(zRoad :: r).length - 1]? = some lw := ⟨_, List.getElem?_eq_getElem (by simp)⟩
    have alw : lw = zAlw → hs ≠ [] := fun e q => by
      rw [er, q] at elw
      have e1 : roadR na sa ga ma us [] = ([zRoad, na, sa, ga, ma] ++ zCo :: us) ++ [zCo] := by unfold roadR; simp
      rw [e1, List.length_append, List.getElem?_append_right (by simp)] at elw
      simp at elw
      rw [← elw] at e
      exact absurd e (by decide +kernel)
    have ill : ((((zRoad :: r).map V.str).length : Int) - 1) = (((zRoad :: r).length - 1 : Nat) : Int) := by rw [List.length_map]; simp
    have al : atI ((zRoad :: r).map V.str) ((((zRoad :: r).map V.str).length : Int) - 1) = some (.str lw) := by rw [ill]; exact atI_nat (by rw [List.getElem?_map, elw]; rfl)
    refine ⟨fun σ H' => H' = HV ∧ σ = [some (.str (Txt.join zSp (zRoad :: r))), some (.int n), some (.int pl), some (.ref W), none, some (.int ((6 + us.length : Nat) : Int)), some (.int (ch : Int))], ?_, ?_⟩
    · refine ⟨_, rfl, _, rfl, W, _, rfl, .inl (SqL.of hWV), _, _, rfl, rfl, W, _, _, .str lw, rfl, rfl, SqL.of hWV, al, rfl, _, rfl, ?_⟩
      by_cases cl : lw = zAlw
      · refine if_t (decide_eq_true (congrArg V.str cl)) ?_
        refine ⟨_, rfl, _, _, rfl, rfl, (show (0 : Int) < 13 by decide), rfl, _, rfl, ?_⟩
        by_cases c13 : n % 13 = 12
        · refine if_t (decide_eq_true (congrArg V.int c13)) ?_
          refine ⟨_, rfl, _, _, rfl, rfl, (by rw [sizeLine_eq]; have : (Str.ofString " always").length = 7 := rfl; omega), kQ _ _ gV ?_⟩
          have e : Txt.join zSp (zRoad :: r) ++ Str.ofString " always" = (Txt.join zSp (zRoad :: r) ++ zSp) ++ zAlw := by rw [app_assoc]; rfl
          rw [e]
          exact brk_snoc hw (pw_lit _ (by decide +kernel)) (by rw [er]; exact spoil_hours rr (by decide +kernel) (by decide +kernel) (.inl (alw cl)))
        · exact if_f (decide_eq_false fun e => c13 (by injection e)) ⟨rfl, rfl⟩
      · exact if_f (decide_eq_false fun e => cl (by injection e)) (if_f rfl ⟨rfl, rfl⟩)
    rintro σ H' ⟨rfl, rfl⟩
    refine ⟨fun σ H' => ∃ (W2 : Addr) (hs' : List Str), σ = [some (.str (Txt.join zSp (zRoad :: r))), some (.int n), some (.int pl), some (.ref W2), none, some (.int ((6 + us.length : Nat) : Int)), some (.int (ch : Int))] ∧ Grew P H H' ∧ H' W2 = some (.lst ((roadR na sa ga ma us hs').map V.str)) ∧ RoadRow na sa ga ma us hs', ?_, ?_⟩
    · refine ⟨_, rfl, _, rfl, W, _, rfl, .inl (SqL.of hWV), _, _, rfl, rfl, W, _, _, .str lw, rfl, rfl, SqL.of hWV, al, rfl, _, rfl, ?_⟩
      by_cases cl : lw = zAlw
      · refine if_t (decide_eq_true (congrArg V.str cl)) ?_
        refine ⟨_, rfl, _, rfl, W, _, rfl, .inl (SqL.of hWV), _, _, rfl, rfl, _, rfl, W, _, rfl, SqL.of hWV, fun U nU => ?_⟩
        refine ⟨U, hs.dropLast, rfl, gV.trans (Grew.new gV.tab nU), ?_, rr.less⟩
        rw [upd_same, ill, cutV_pre', ← List.map_take, er, roadR_less (alw cl)]
      · exact if_f (decide_eq_false fun e => cl (by injection e)) ⟨W, hs, rfl, gV, by rw [← er]; exact hWV, rr⟩
    rintro σ H5 ⟨W2, hs', rfl, g5, hW2, rr'⟩
    refine ⟨⟨_, rfl⟩, _, rfl, _, rfl, zSoH, n, rfl, g5.tab, fun H6 b g6 hb => ⟨(show 1 ≤ sizeLine by decide), fun U2 n2 => ?_⟩⟩
    have pb := bad_pw hb
    rw [eH] at hb
    have g56 := g5.trans g6
    have gB := Grew.new g56.tab (o := .lst [V.str b]) n2
    have hl5 := rr'.row.pw.2.2
    refine ⟨W2, U2, _, _, rfl, rfl, (g6.trans gB).lst g5.tab hW2, upd_same, (by rw [List.length_map, sizeLine_eq]; show _ + 1 ≤ _; omega), fun U5 n5 => ?_⟩
    have gE := Grew.new (g56.trans gB).tab (o := .lst ((roadR na sa ga ma us hs').map V.str ++ [V.str b])) n5
    have el : (roadR na sa ga ma us hs').map V.str ++ [V.str b] = (roadR na sa ga ma us hs' ++ [b]).map V.str := by rw [List.map_append]; rfl
    have bad : BadRow (roadR na sa ga ma us hs' ++ [b]) := rr'.row.more (fun x hx => (List.mem_append.mp hx).elim .inl (fun q => .inr (by rw [List.mem_singleton.mp q]; exact pb))) (by simp) (by simp) (spoil_hours rr' (badHs_f b hb).1 (badHs_f b hb).2.1 (.inr (badHs_f b hb).2.2.1))
    refine ⟨zSp, U5, _, rfl, rfl, .inl (SqL.of (by rw [← el]; exact upd_same)), small bad.pw (Nat.le_trans bad.l (by decide)), ?_⟩
    exact kQ _ _ ((g56.trans gB).trans gE) (brk_of bad)
end
end W

set_option Elab.async false
set_option linter.all false
set_option maxRecDepth 100000
set_option maxHeartbeats 4000000
set_option exponentiation.threshold 2000
namespace W
open PySem PySem.Spec PyProof.Rows L2 GxR MyG MyS SqX MyR
/-! ### _law_broken -/
def spBroken (P : Addr) : Sp := fun vs H Q _ => ∃ (ws : List Str) (fa n pl : Int), vs = [.str (Txt.join zSp ws), .int fa, .int n, .int pl] ∧ MRow ws ∧ TabG H P ∧ ∀ H' z, Grew P H H' → Brk z → Q (.str z) H'
abbrev sBk : Stmt := top 65
abbrev nBk : List Str := ["line", "fault", "number", "place", "words", "at"]
theorem scBk : FnScope nBk ["line", "fault", "number", "place"] (defScope sBk) := ⟨rfl, rfl, rfl, by decide +kernel, rfl, by decide +kernel, by decide +kernel⟩
section
variable {Pg : Program} {w : World} {K : PySem.W.Frag} {mg : Str → Option Value} {base : Heap} {C P : Addr}
theorem ok_broken {f fSp : Addr} {fd fdSp : FuncData} (F : Fun K "_law_broken" "_law_broken" sBk f fd) (hl : mg "len" = none)
    (GSp : FnOk Pg w K mg base CX0 2 fSp fdSp ["line", "number", "place"] (spSpoilt P)) (gSp : mg "_law_spoilt" = some (.ref fSp)) (kSp : PySem.W.keepIn K (.ref fSp) = true) (bSp : Binds K fdSp ["line", "number", "place"] []) :
    FnOk Pg w K mg base CX0 3 f fd ["line", "fault", "number", "place"] (spBroken P) := by
  refine F.ok scBk (fun vs H Q E h => ?_) (fun cdv A outer s H vs Q E hr h => ?_)
  · obtain ⟨ws, fa, n, pl, rfl, _⟩ := h
    rfl
  · obtain ⟨ws, fa, n, pl, rfl, hw, hP, kQ⟩ := h
    refine ⟨_, MyN.pss_split (i := 4) scBk.nd rfl (Or.inl rfl) (pv 0)
      (psst_cons (PST.of (ps_if (pt_cmpR op_eq (pv 1) pe_int (nomark _)) (pss_one (ps_ret (pe_op op_add_str pe_str (pv 0))))
        pss_nil))
      (MyN.psst_cut (CwR.pst_if (PW.pt (pw_and (pt_cmpR op_eq (pv 1) pe_int (nomark _)) (pw_and1 (pt_cmpR op_gt (pe_callB (r := rLenK K) call_len_seq (by rfl) hl PySem.boot_len (pa_cons (pv 4) pa_nil)) pe_int (nomark _))))) (CwR.psst_one (CwR.pst_ret (MyN.pet_repl1 (pv 0) (by decide +kernel)))) CwR.psst_nil)
      (pss_cons (ps_if (pt_cmpR op_eq (pv 1) pe_int (nomark _)) (pss_one (ps_ret (pe_op op_add_str (pe_upper (pe_slice sl_str (pv 0) po_none (po_some pe_int))) (pe_slice sl_str (pv 0) (po_some pe_int) po_none))))
        pss_nil)
      (pss_cons (ps_if (pt_cmpR op_eq (pv 1) pe_int (nomark _)) (pss_one (ps_ret pe_str))
        pss_nil)
      (pss_cons (ps_if (pt_cmpR op_eq (pv 1) pe_int (nomark _)) (pss_one (ps_ret (pe_op op_add_str (pv 0) pe_str)))
        pss_nil)
      (C8.pss_cut (ps_if (PW.pt (pw_and (pt_cmpR op_eq (pv 1) pe_int (nomark _)) (pw_and1 (pt_cmpR op_eq (pe_ix (r := rIxL K) ix_list (pv 4) pe_int (fun _ _ => rfl)) pe_str (nomark _))))) (pss_cons (ps_set (i := 5) scBk.nd rfl (Or.inl rfl) (pe_ix (r := rIxL K) ix_list (pe_lst (pa_cons pe_int (pa_cons (pe_op op_add pe_int (pe_bm PySem.F.plainAttrs_list PySem.F.slot_list_index PySem.F.type_list_index mt_index (pe_slice sl_list (pv 4) (po_some pe_int) po_none) (pa_cons pe_str pa_nil))) pa_nil))) (pe_op op_mod (pv 2) pe_int) (fun _ _ => rfl)))
      (pss_one (ps_ret (pe_join pe_str (pe_op op_cat (pe_slice sl_list (pv 4) po_none (po_some (pv 5))) (pe_slice sl_list (pv 4) (po_some (pe_op op_add (pv 5) pe_int)) po_none))))))
        pss_nil)
      (C8.pss_cut (ps_if (PW.pt (pw_and (pt_cmpR op_eq (pv 1) pe_int (nomark _)) (pw_and1 (pt_cmpR (r := rIn K false) op_in_seq (pe_ix (r := rIxL K) ix_list (pv 4) pe_int (fun _ _ => rfl)) (pe_lst (pa_cons pe_str (pa_cons pe_str (pa_cons pe_str pa_nil)))) (by rfl))))) (pss_one (ps_ret (pe_join pe_str (pe_op op_cat (pe_op op_cat (pe_slice sl_list (pv 4) po_none (po_some pe_int)) (pe_lst (pa_cons pe_str pa_nil))) (pe_slice sl_list (pv 4) (po_some pe_int) po_none)))))
        pss_nil)
      (C8.pss_cut (ps_if (PW.pt (pw_and (pt_cmpR op_eq (pv 1) pe_int (nomark _)) (pw_and1 (pt_cmpR (r := rIn K false) op_in_seq (pe_ix (r := rIxL K) ix_list (pv 4) pe_int (fun _ _ => rfl)) (pe_lst (pa_cons pe_str (pa_cons pe_str (pa_cons pe_str pa_nil)))) (by rfl))))) (pss_one (ps_ret (pe_join pe_str (pe_op op_cat (pe_slice sl_list (pv 4) po_none (po_some pe_int)) (pe_slice sl_list (pv 4) (po_some pe_int) po_none)))))
        pss_nil)
      (pss_cons (ps_if (pt_cmpR op_eq (pv 1) pe_int (nomark _)) (pss_one (ps_ret (pe_op op_add_str (pe_op op_add_str (pe_ix (r := rIxL K) ix_list (pv 4) pe_int (fun _ _ => rfl)) pe_str) (pe_slice sl_str (pv 0) (po_some (pe_callB call_len_str (by rfl) hl PySem.boot_len (pa_cons (pe_ix (r := rIxL K) ix_list (pv 4) pe_int (fun _ _ => rfl)) pa_nil))) po_none))))
        pss_nil)
      (pss_cons (ps_if (pt_cmpR op_ge (pv 1) pe_int (nomark _)) (pss_one (ps_ret (pe_call GSp (hr.mono (by decide)) (by rfl) gSp kSp bSp .nil pass0 (pa_cons (pv 0) (pa_cons (pv 2) (pa_cons (pv 3) pa_nil))))))
        pss_nil)
      (pss_one (ps_ret (pe_op op_add_str (pv 0) pe_str))))))))))))), ?_⟩
    have hpl := hw.pw
    have hjl := join_small hw
    have ew : Txt.split (Txt.join zSp ws) (Str.ofString " ") = ws := split_line hpl.1 fun z hz => (hpl.2.1 z hz).p
    obtain ⟨w, r, rfl⟩ : ∃ w r, ws = w :: r := by
      cases ws with
      | nil => exact absurd rfl hpl.1
      | cons a b => exact ⟨a, b, rfl⟩
    refine ⟨_, rfl, _, rfl, rfl, by rw [sizeLine_eq]; omega, fun W nW => ?_⟩
    rw [ew]
    have gW := Grew.new hP (o := .lst ((w :: r).map V.str)) nW
    have hW : (L2.upd H W (.lst ((w :: r).map V.str))) W = some (.lst ((w :: r).map V.str)) := upd_same
    generalize L2.upd H W (.lst ((w :: r).map V.str)) = H1 at gW hW ⊢
    have at0 : atI ((w :: r).map V.str) 0 = some (.str w) := atI_nat (j := 0) rfl
    have small : ∀ {l : List Str}, (∀ x ∈ l, PW20 x) → l.length ≤ 100 → (l.map (·.length)).sum + l.length * zSp.length ≤ 16777216 := fun h1 h2 => join_room zSp_len (fun x hx => (h1 x hx).l) h2 (by decide)
    obtain ⟨S, eS⟩ : ∃ S : L2.St, S = [some (V.str (Txt.join zSp (w :: r))), some (.int fa), some (.int n), some (.int pl), some (.ref W), none] := ⟨_, rfl⟩
    -- ' ' + line
    refine ⟨_, rfl, rfl, _, rfl, ?_⟩
    by_cases c1 : fa = 1
    · refine if_t (decide_eq_true (congrArg V.int c1)) ?_
      exact ⟨_, rfl, _, _, rfl, rfl, by rw [sizeLine_eq]; have : (Str.ofString " ").length = 1 := rfl; omega, kQ _ _ gW (brk_front hw)⟩
    refine if_f (decide_eq_false fun e => c1 (by injection e)) ?_
    refine ⟨fun σ H' => σ = S ∧ H' = H1, ?_, ?_⟩
    · refine ⟨_, rfl, rfl, _, rfl, ?_⟩
      by_cases c2 : fa = 2
      case neg => exact if_f (decide_eq_false fun e => c2 (by injection e)) (if_f rfl ⟨eS.symm, rfl⟩)
      refine if_t (decide_eq_true (congrArg V.int c2)) ?_
      refine ⟨_, rfl, W, _, rfl, .inl (SqL.of hW), _, _, rfl, rfl, _, rfl, ?_⟩
      by_cases cl : (1 : Int) < (((w :: r).map V.str).length : Int)
      case neg => exact if_f (decide_eq_false cl) ⟨eS.symm, rfl⟩
      refine if_t (decide_eq_true cl) ?_
      obtain ⟨v, r', rfl⟩ : ∃ v r', r = v :: r' := by
        cases r with
        | nil => simp at cl
        | cons a b => exact ⟨a, b, rfl⟩
      obtain ⟨e, bk⟩ := brk_two hw
      refine ⟨_, rfl, _, w, Txt.join zSp (v :: r'), 32, [], rfl, by decide +kernel, e, fun hm => ?_, ?_, kQ _ _ gW bk⟩
      · have := (hpl.2.1 w List.mem_cons_self).p 32 hm
        omega
      · have e2 : (Str.ofString "  ").length = 2 := by decide +kernel
        rw [e2]
        omega
    rintro σ H' ⟨eσ, eH⟩
    rw [eσ, eS, eH]
    -- the first sign
    refine ⟨_, rfl, rfl, _, rfl, ?_⟩
    by_cases c3 : fa = 3
    · refine if_t (decide_eq_true (congrArg V.int c3)) ?_
      obtain ⟨b1, b2, b3⟩ := brk_up hw
      refine ⟨_, rfl, _, rfl, _, rfl, by rw [sizeLine_eq]; omega, ⟨_, rfl⟩, _, rfl, rfl, b2, _, rfl, _, rfl, _, rfl, by rw [sizeLine_eq]; omega, _, _, rfl, rfl, ?_, kQ _ _ gW b1⟩
      have := cutS_length (Txt.join zSp (w :: r)) (some 1) none
      rw [sizeLine_eq]
      omega
    refine if_f (decide_eq_false fun e => c3 (by injection e)) ?_
    refine ⟨_, rfl, rfl, _, rfl, ?_⟩
    by_cases c4 : fa = 4
    · exact if_t (decide_eq_true (congrArg V.int c4)) (kQ _ _ gW brk_empty)
    refine if_f (decide_eq_false fun e => c4 (by injection e)) ?_
    refine ⟨_, rfl, rfl, _, rfl, ?_⟩
    by_cases c5 : fa = 5
    · refine if_t (decide_eq_true (congrArg V.int c5)) ?_
      exact ⟨_, rfl, _, _, rfl, rfl, by rw [sizeLine_eq]; have : (Str.ofString " :").length = 2 := rfl; omega, kQ _ _ gW (brk_colon hw)⟩
    refine if_f (decide_eq_false fun e => c5 (by injection e)) ?_
    -- a colon left out
    refine ⟨fun σ H' => σ = S ∧ H' = H1, ?_, ?_⟩
    · refine ⟨_, rfl, rfl, _, rfl, ?_⟩
      by_cases c6 : fa = 6
      case neg => exact if_f (decide_eq_false fun e => c6 (by injection e)) (if_f rfl ⟨eS.symm, rfl⟩)
      refine if_t (decide_eq_true (congrArg V.int c6)) ?_
      refine ⟨_, rfl, W, _, 0, .str w, rfl, rfl, SqL.of hW, at0, rfl, _, rfl, ?_⟩
      by_cases cr : w = zRoad
      case neg => exact if_f (decide_eq_false fun e => cr (by injection e)) ⟨eS.symm, rfl⟩
      refine if_t (decide_eq_true (congrArg V.str cr)) ?_
      subst cr
      obtain ⟨na, sa, ga, ma, us, hs, er, rr⟩ := hw.inv
      have d6 : (zRoad :: r).drop 6 = us ++ zCo :: hs := by rw [er]; unfold roadR; simp
      have c6x : cutV ((zRoad :: r).map V.str) (some 6) none = (us ++ zCo :: hs).map V.str := by
        rw [show cutV ((zRoad :: r).map V.str) (some 6) none = ((zRoad :: r).map V.str).drop 6 from cutV_suf _ 6, ← List.map_drop, d6]
      refine ⟨_, rfl, _, rfl, W, _, rfl, SqL.of hW, fun V1 nV1 => ?_⟩
      rw [c6x]
      have hV := Grew.new gW.tab (o := .lst ((us ++ zCo :: hs).map V.str)) nV1
      have gV := gW.trans hV
      have hWV := hV.lst gW.tab hW
      have hV1 : (L2.upd H1 V1 (.lst ((us ++ zCo :: hs).map V.str))) V1 = some (.lst ((us ++ zCo :: hs).map V.str)) := upd_same
      generalize L2.upd H1 V1 (.lst ((us ++ zCo :: hs).map V.str)) = HV at hV gV hWV hV1 ⊢
      refine ⟨.inl ⟨rfl, _, SqL.of hV1⟩, V1, _, .str zCo, us.length, .str zCo, rfl, rfl, SqL.of hV1, rfl, ?_, ?_, ?_, ?_, ?_⟩
      · rw [List.all_eq_true]
        intro v hv
        obtain ⟨z, _, rfl⟩ := List.mem_map.mp hv
        rfl
      · rw [List.getElem?_map, List.getElem?_append_right (Nat.le_refl _), Nat.sub_self]
        rfl
      · decide +kernel
      · intro k z' hk hz
        rw [List.getElem?_map, List.getElem?_append_left hk] at hz
        obtain ⟨u, hu, rfl⟩ := Option.map_eq_some_iff.mp hz
        have : u ≠ zCo := fun e => rr.uc (by rw [← e]; exact List.mem_of_getElem? hu)
        show decide (u = zCo) = false
        exact decide_eq_false this
      refine ⟨_, _, rfl, rfl, (show 2 ≤ sizeLine by decide), fun M nM => ?_⟩
      have hM := Grew.new gV.tab (o := .lst [V.int 5, V.int (6 + (us.length : Int))]) nM
      have hWM := hM.lst gV.tab hWV
      obtain ⟨v, ev, hv⟩ := atI_mod (xs := [V.int 5, V.int (6 + (us.length : Int))]) (n := n) (by simp)
      obtain ⟨kk, rfl, hkk⟩ : ∃ kk : Nat, v = .int (kk : Int) ∧ (kk = 5 ∨ kk = 6 + us.length) := by
        simp only [List.mem_cons, List.not_mem_nil, or_false] at hv
        rcases hv with rfl | rfl
        · exact ⟨5, rfl, .inl rfl⟩
        · exact ⟨6 + us.length, by rw [show ((6 + us.length : Nat) : Int) = 6 + (us.length : Int) from by omega], .inr rfl⟩
      refine ⟨_, rfl, _, _, rfl, rfl, (show (0 : Int) < 2 by decide), M, _, _, _, rfl, rfl, SqL.of upd_same, ev, ?_⟩
      refine ⟨⟨_, rfl⟩, _, rfl, _, rfl, _, rfl, W, _, rfl, SqL.of hWM, fun U1 n1 => ?_⟩
      rw [cutV_pre']
      have gA := Grew.new hM.tab (o := .lst (((zRoad :: r).map V.str).take kk)) n1
      refine ⟨_, rfl, _, rfl, _, _, rfl, rfl, _, rfl, W, _, rfl, SqL.of (gA.lst hM.tab hWM), fun U2 n2 => ?_⟩
      dsimp only []
      rw [show (kk : Int) + 1 = ((kk + 1 : Nat) : Int) from rfl, cutV_suf]
      have gB := Grew.new gA.tab (o := .lst (((zRoad :: r).map V.str).drop (kk + 1))) n2
      refine ⟨U1, U2, _, _, rfl, rfl, gB.lst gA.tab upd_same, upd_same, (by rw [List.length_take, List.length_drop, List.length_map, sizeLine_eq]; have := hpl.2.2; omega), fun U5 n5 => ?_⟩
      have gE := Grew.new gB.tab (o := .lst (((zRoad :: r).map V.str).take kk ++ ((zRoad :: r).map V.str).drop (kk + 1))) n5
      have el : ((zRoad :: r).map V.str).take kk ++ ((zRoad :: r).map V.str).drop (kk + 1) = ((zRoad :: r).take kk ++ (zRoad :: r).drop (kk + 1)).map V.str := by rw [List.map_append, List.map_take, List.map_drop]
      have bad : BadRow ((zRoad :: r).take kk ++ (zRoad :: r).drop (kk + 1)) := hw.more (fun x hx => (List.mem_append.mp hx).elim (fun q => .inl (List.mem_of_mem_take q)) (fun q => .inl (List.mem_of_mem_drop q))) (by rw [List.length_append, List.length_take, List.length_drop]; omega) (by rcases hkk with rfl | rfl <;> simp) (by rw [er]; exact spoil_colon rr hkk)
      refine ⟨zSp, U5, _, rfl, rfl, .inl (SqL.of (by rw [← el]; exact upd_same)), small bad.pw (Nat.le_trans bad.l (by decide)), ?_⟩
      exact kQ _ _ (((gV.trans hM).trans (gA.trans gB)).trans gE) (brk_of bad)
    rintro σ H' ⟨eσ, eH⟩
    rw [eσ, eS, eH]
    -- a word more, a word less
    refine ⟨fun σ H' => σ = S ∧ Grew P H1 H', ?_, ?_⟩
    · refine ⟨_, rfl, rfl, _, rfl, ?_⟩
      by_cases c7 : fa = 7
      case neg => exact if_f (decide_eq_false fun e => c7 (by injection e)) (if_f rfl ⟨eS.symm, Grew.refl gW.tab⟩)
      refine if_t (decide_eq_true (congrArg V.int c7)) ?_
      refine ⟨_, rfl, W, _, 0, .str w, rfl, rfl, SqL.of hW, at0, (show 3 ≤ sizeLine by decide), fun T nT => ?_⟩
      have gT := Grew.new gW.tab (o := .lst (([zRoad, zBarW, zDayW] : List Str).map V.str)) nT
      refine ⟨T, ([zRoad, zBarW, zDayW] : List Str).map V.str, rfl, .inl (SqL.of upd_same), rfl, by decide +kernel, _, rfl, ?_⟩
      rw [inV_dec]
      by_cases ci : w ∈ ([zRoad, zBarW, zDayW] : List Str)
      case neg => exact if_f (by simp only [Bool.false_eq_true, if_false]; exact decide_eq_false ci) ⟨eS.symm, gT⟩
      refine if_t (by simp only [Bool.false_eq_true, if_false]; exact decide_eq_true ci) ?_
      refine ⟨⟨_, rfl⟩, _, rfl, _, rfl, W, _, rfl, SqL.of (gT.lst gW.tab hW), fun U1 n1 => ?_⟩
      rw [show cutV ((w :: r).map V.str) none (some 1) = [V.str w] from cutV_pre' _ 1]
      have gA := Grew.new gT.tab (o := .lst [V.str w]) n1
      refine ⟨(show 1 ≤ sizeLine by decide), fun U2 n2 => ?_⟩
      have gB := Grew.new gA.tab (o := .lst [V.str "extra"]) n2
      refine ⟨U1, U2, _, _, rfl, rfl, gB.lst gA.tab upd_same, upd_same, (show 2 ≤ sizeLine by decide), fun U3 n3 => ?_⟩
      have gC := Grew.new gB.tab (o := .lst ([V.str w] ++ [V.str "extra"])) n3
      have gTC := gT.trans ((gA.trans gB).trans gC)
      refine ⟨_, rfl, _, rfl, W, _, rfl, SqL.of (gTC.lst gW.tab hW), fun U4 n4 => ?_⟩
      rw [show cutV ((w :: r).map V.str) (some 1) none = r.map V.str from cutV_suf _ 1]
      have gD := Grew.new gC.tab (o := .lst (r.map V.str)) n4
      refine ⟨U3, U4, _, _, rfl, rfl, gD.lst gC.tab upd_same, upd_same, (by rw [List.length_map, sizeLine_eq]; show 2 + _ ≤ _; have := hpl.2.2; rw [List.length_cons] at this; omega), fun U5 n5 => ?_⟩
      have gE := Grew.new gD.tab (o := .lst ([V.str w] ++ [V.str "extra"] ++ r.map V.str)) n5
      have bad : BadRow (w :: "extra" :: r) := hw.more (fun x hx => (List.mem_cons.mp hx).elim (fun e => .inl (by rw [e]; exact List.mem_cons_self)) (fun q => (List.mem_cons.mp q).elim (fun e => .inr (by rw [e]; exact pw_lit _ (by decide +kernel))) (fun q => .inl (List.mem_cons_of_mem _ q)))) (by simp) (by simp) (dead_second hw (.inr (by simpa using ci)) (by decide +kernel))
      refine ⟨zSp, U5, w :: "extra" :: r, rfl, rfl, .inl (SqL.of upd_same), small bad.pw (Nat.le_trans bad.l (by decide)), ?_⟩
      exact kQ _ _ ((gW.trans gTC).trans (gD.trans gE)) (brk_of bad)
    rintro σ H2 ⟨eσ, g2⟩
    rw [eσ, eS]
    have hW2 := g2.lst gW.tab hW
    refine ⟨fun σ H' => σ = S ∧ Grew P H1 H', ?_, ?_⟩
    · refine ⟨_, rfl, rfl, _, rfl, ?_⟩
      by_cases c8 : fa = 8
      case neg => exact if_f (decide_eq_false fun e => c8 (by injection e)) (if_f rfl ⟨eS.symm, g2⟩)
      refine if_t (decide_eq_true (congrArg V.int c8)) ?_
      refine ⟨_, rfl, W, _, 0, .str w, rfl, rfl, SqL.of hW2, at0, (show 3 ≤ sizeLine by decide), fun T nT => ?_⟩
      have gT := Grew.new g2.tab (o := .lst (([zRoad, zBarW, zDayW] : List Str).map V.str)) nT
      refine ⟨T, ([zRoad, zBarW, zDayW] : List Str).map V.str, rfl, .inl (SqL.of upd_same), rfl, by decide +kernel, _, rfl, ?_⟩
      rw [inV_dec]
      by_cases ci : w ∈ ([zRoad, zBarW, zDayW] : List Str)
      case neg => exact if_f (by simp only [Bool.false_eq_true, if_false]; exact decide_eq_false ci) ⟨eS.symm, g2.trans gT⟩
      refine if_t (by simp only [Bool.false_eq_true, if_false]; exact decide_eq_true ci) ?_
      refine ⟨⟨_, rfl⟩, _, rfl, _, rfl, W, _, rfl, SqL.of (gT.lst g2.tab hW2), fun U1 n1 => ?_⟩
      rw [show cutV ((w :: r).map V.str) none (some 1) = [V.str w] from cutV_pre' _ 1]
      have gA := Grew.new gT.tab (o := .lst [V.str w]) n1
      have gTA := gT.trans gA
      refine ⟨_, rfl, _, rfl, W, _, rfl, SqL.of (gTA.lst g2.tab hW2), fun U4 n4 => ?_⟩
      rw [show cutV ((w :: r).map V.str) (some 2) none = (r.drop 1).map V.str from (cutV_suf _ 2).trans (by rw [← List.map_drop]; rfl)]
      have gD := Grew.new gA.tab (o := .lst ((r.drop 1).map V.str)) n4
      refine ⟨U1, U4, _, _, rfl, rfl, gD.lst gA.tab upd_same, upd_same, (by rw [List.length_map, List.length_drop, sizeLine_eq]; show 1 + _ ≤ _; have := hpl.2.2; rw [List.length_cons] at this; omega), fun U5 n5 => ?_⟩
      have gE := Grew.new gD.tab (o := .lst ([V.str w] ++ (r.drop 1).map V.str)) n5
      have bad : BadRow (w :: r.drop 1) := hw.more (fun x hx => (List.mem_cons.mp hx).elim (fun e => .inl (by rw [e]; exact List.mem_cons_self)) (fun q => .inl (List.mem_cons_of_mem _ (List.mem_of_mem_drop q)))) (by simp; omega) (by simp) (dead_less hw (by simpa using ci))
      refine ⟨zSp, U5, w :: r.drop 1, rfl, rfl, .inl (SqL.of upd_same), small bad.pw (Nat.le_trans bad.l (by decide)), ?_⟩
      exact kQ _ _ ((gW.trans g2).trans (gTA.trans (gD.trans gE))) (brk_of bad)
    rintro σ H3 ⟨eσ, g3⟩
    rw [eσ, eS]
    have hW3 := g3.lst gW.tab hW
    have gW3 := gW.trans g3
    have wl := (hpl.2.1 w List.mem_cons_self).l
    refine ⟨_, rfl, rfl, _, rfl, ?_⟩
    by_cases c9 : fa = 9
    · refine if_t (decide_eq_true (congrArg V.int c9)) ?_
      have hcl := cutS_length (Txt.join zSp (w :: r)) (some (w.length : Int)) none
      refine ⟨_, rfl, W, _, 0, .str w, rfl, rfl, SqL.of hW3, at0, _, _, rfl, rfl, by rw [sizeLine_eq]; have : (Str.ofString "s").length = 1 := rfl; omega, _, rfl, _, rfl, W, _, 0, .str w, rfl, rfl, SqL.of hW3, at0, w, rfl, by rw [sizeLine_eq]; omega, _, rfl, _, rfl, by rw [sizeLine_eq]; omega, _, _, rfl, rfl, ?_, kQ _ _ gW3 (brk_s hw)⟩
      rw [PySem.Str.length_append, sizeLine_eq]
      have : (Str.ofString "s").length = 1 := rfl
      omega
    refine if_f (decide_eq_false fun e => c9 (by injection e)) ?_
    refine ⟨_, rfl, _, _, rfl, rfl, _, rfl, ?_⟩
    by_cases c10 : (10 : Int) ≤ fa
    · refine if_t (decide_eq_true c10) ?_
      exact ⟨_, rfl, _, rfl, _, rfl, w :: r, n, pl, rfl, hw, g3.tab, fun H4 z g4 hb => kQ _ _ (gW3.trans g4) hb⟩
    refine if_f (decide_eq_false c10) ?_
    exact ⟨_, rfl, _, _, rfl, rfl, by rw [sizeLine_eq]; have : (Str.ofString " ").length = 1 := rfl; omega, kQ _ _ gW3 (brk_space hw)⟩
end
end W

set_option Elab.async false
set_option linter.all false
set_option maxRecDepth 100000
set_option maxHeartbeats 4000000
set_option exponentiation.threshold 2000
namespace W
open PySem PySem.Spec PyProof.Rows L2 GxR MyG MyS SqX MyR
/-! ### a text with a broken line -/
theorem canM_congr {A B : List (List Str)} {i : Nat} (h1 : A.getD i [] = B.getD i []) (h2 : A.getD (i - 1) [] = B.getD (i - 1) []) : canM A i = canM B i := by
  unfold canM
  rw [h1, h2]
theorem first_bad {R : List (List Str)} (hR : ∀ i, i < R.length → canM R i = true) {k : Nat} (hk : k ≤ R.length) {ws : List Str} (hd : Dead ws) (tail : List (List Str)) : FirstBad (R.take k ++ ws :: tail) k := by
  have hl : (R.take k).length = k := by rw [List.length_take]; omega
  have ge : ∀ j, j < k → (R.take k ++ ws :: tail).getD j [] = R.getD j [] := fun j hj => by
    rw [List.getD_eq_getElem?_getD, List.getD_eq_getElem?_getD, List.getElem?_append_left (by omega), List.getElem?_take, if_pos hj]
  refine ⟨fun j hj _ => ?_, .inl ⟨by rw [List.length_append, hl]; simp, hd.can (rss := R.take k ++ ws :: tail) ?_⟩⟩
  · rw [canM_congr (ge j hj) (ge (j - 1) (by omega))]
    exact hR j (by omega)
  · rw [List.getD_eq_getElem?_getD, List.getElem?_append_right (by omega), hl, Nat.sub_self]
    rfl
theorem rows_mrow {d : Int} {ks ps : List Str} {rs : List RoadD} {bs : List (Str × Str)} (ok : PartsOk d ks ps rs bs) (fo : FormP d ks ps rs bs) : ∀ ws ∈ rowsL d ks ps rs bs, MRow ws := by
  intro ws hw
  unfold rowsL at hw
  rcases List.mem_append.mp hw with hw | hw
  · rcases List.mem_append.mp hw with hw | hw
    · simp only [List.mem_cons, List.not_mem_nil, or_false] at hw
      rcases hw with rfl | rfl | rfl
      · exact .day ⟨iS_plain fo.d0, by have := iS_len fo.d0 fo.d1; omega⟩
      · exact .names (.inl rfl) ok.kn (by have := ok.k2; omega)
      · exact .names (.inr rfl) ok.pn ok.p2
    · obtain ⟨r, hr, rfl⟩ := List.mem_map.mp hw
      have ro := ok.r.ok r hr
      have rf := fo.r r hr
      have lo := line_ok ok hr
      have e : roadW r = [zRoad, r.name, r.start, r.goal, iS r.minutes] ++ zCo :: (r.users ++ zCo :: hourW r.hours) := by unfold roadW headW; simp
      have hm1 := ro.m1
      have hm2 := ro.m2
      have rl := roadW_len lo
      have hin : ∀ z ∈ hourW r.hours, z ∈ roadW r := fun z hz => by rw [e]; exact List.mem_append.mpr (.inr (List.mem_cons_of_mem _ (List.mem_append.mpr (.inr (List.mem_cons_of_mem _ hz)))))
      have hhl : (hourW r.hours).length ≤ 4 := by
        cases eh : r.hours with
        | none => simp [hourW]
        | some gs =>
          have q := ro.h
          rw [eh] at q
          have : (hourW (some gs)).length = gs.length := by simp [hourW]
          rw [this]
          exact q.1
      rw [e]
      exact .road rf.n rf.s rf.g ⟨iS_plain rf.m0, by have := iS_len rf.m0 rf.m1; omega⟩ (co_iS rf.m0) rf.u ro.un (fun z hz => ⟨⟨(rf.hourW z hz).1, by have := rl.2 z (hin z hz); omega⟩, (rf.hourW z hz).2⟩) hhl
  · obtain ⟨b, hb, rfl⟩ := List.mem_map.mp hw
    obtain ⟨q1, q2⟩ := fo.b b hb
    exact .bar q1 q2
end W

set_option Elab.async false
set_option linter.all false
set_option maxRecDepth 100000
set_option maxHeartbeats 4000000
set_option exponentiation.threshold 2000
namespace W
open PySem PySem.Spec PyProof.Rows L2 GxR MyG MyS SqX MyR
/-! ### the text of rows one of which cannot stand -/
theorem joinN_len {ls : List Str} {n : Nat} (h : ∀ w ∈ ls, w.length ≤ n) : (Txt.join zNl ls).length ≤ ls.length * (n + 1) := by
  rw [str_len]
  show (TL.tl (Txt.join zNl ls)).length ≤ _
  rw [TL.join_eq, TL.tl_join]
  have e : (TL.tl zNl).length = 1 := by decide +kernel
  have := joinL_len (TL.tl zNl) (ls.map TL.tl) n fun p hp => by
    obtain ⟨w, hw, rfl⟩ := List.mem_map.mp hp
    have := h w hw
    rw [str_len] at this
    exact this
  rw [List.length_map, e] at this
  exact this
/-- a row of a text, whatever it says -/
structure AnyRow (ws : List Str) : Prop where
  ne : ws ≠ []
  pw : ∀ w ∈ ws, PW20 w
  l : ws.length ≤ 40
theorem MRow.any {ws : List Str} (h : MRow ws) : AnyRow ws := ⟨h.pw.1, h.pw.2.1, by have := h.pw.2.2; omega⟩
theorem BadRow.any {ws : List Str} (h : BadRow ws) : AnyRow ws := ⟨h.ne, h.pw, h.l⟩
theorem AnyRow.len {ws : List Str} (h : AnyRow ws) : (Txt.join zSp ws).length ≤ 840 := by
  have := join_len (n := 20) fun w hw => (h.pw w hw).l
  have q : ws.length * (20 + 1) ≤ 40 * 21 := Nat.mul_le_mul_right 21 h.l
  omega
theorem bad_text {rss : List (List Str)} {k : Nat} (h : ∀ ws ∈ rss, AnyRow ws) (hl : rss.length ≤ 110) (hn : rss ≠ []) (hb : FirstBad rss k) : BadText (Txt.join zNl (rss.map (Txt.join zSp))) (rss.map (Txt.join zSp)) k := by
  have pl : ∀ ws ∈ rss, ∀ z ∈ ws, Plain z := fun ws hw z hz => ((h ws hw).pw z hz).p
  have er : ((rss.map (Txt.join zSp)).map fun l => Txt.split l zSp) = rss := rows_text (fun ws hw => (h ws hw).ne) pl
  have ll : ∀ l ∈ rss.map (Txt.join zSp), l.length ≤ 840 := fun l hl' => by
    obtain ⟨ws, hw, rfl⟩ := List.mem_map.mp hl'
    exact (h ws hw).len
  refine ⟨split_text hn pl, ?_, by rw [List.length_map]; omega, fun l hl' => Nat.le_trans (ll l hl') (by decide), ?_, by rw [er]; exact hb⟩
  · have q := joinN_len ll
    rw [List.length_map] at q
    have q2 : rss.length * (840 + 1) ≤ 110 * 841 := Nat.mul_le_mul_right 841 hl
    omega
  · rw [er]
    exact fun ws hw => ⟨(h ws hw).ne, fun z hz => ⟨((h ws hw).pw z hz).p.ok, by have := ((h ws hw).pw z hz).l; omega⟩, by have := (h ws hw).l; omega⟩
/-- the lines of a map, one of which is broken, and lines behind them -/
theorem broken_text {d : Int} {ks ps : List Str} {rs : List RoadD} {bs : List (Str × Str)} (ok : PartsOk d ks ps rs bs) {k : Nat} (hk : k < (mapL d ks ps rs bs).length) {z : Str} (hz : Brk z) {X : List (List Str)} (hX : ∀ ws ∈ X, AnyRow ws) (hXl : X.length ≤ 1) :
    BadText (Txt.join zNl ((mapL d ks ps rs bs).take k ++ [z] ++ (mapL d ks ps rs bs).drop (k + 1) ++ X.map (Txt.join zSp))) ((mapL d ks ps rs bs).take k ++ [z] ++ (mapL d ks ps rs bs).drop (k + 1) ++ X.map (Txt.join zSp)) k := by
  have fo := ok.form
  obtain ⟨ws, rfl, hb⟩ := hz
  rw [mapL_rows] at hk ⊢
  rw [List.length_map] at hk
  have hlen : (rowsL d ks ps rs bs).length ≤ 103 := by
    have := (mapL_len ok).1
    rw [mapL_rows, List.length_map] at this
    exact this
  have e : ((rowsL d ks ps rs bs).map (Txt.join zSp)).take k ++ [Txt.join zSp ws] ++ ((rowsL d ks ps rs bs).map (Txt.join zSp)).drop (k + 1) ++ X.map (Txt.join zSp) = ((rowsL d ks ps rs bs).take k ++ ws :: ((rowsL d ks ps rs bs).drop (k + 1) ++ X)).map (Txt.join zSp) := by
    simp [List.map_append, List.map_take, List.map_drop]
  rw [e]
  have mr := rows_mrow ok fo
  refine bad_text (fun x hx => ?_) ?_ (by simp) (first_bad fo.stands (by omega) hb.d _)
  · rcases List.mem_append.mp hx with q | q
    · exact (mr x (List.mem_of_mem_take q)).any
    · rcases List.mem_cons.mp q with rfl | q
      · exact hb.any
      · rcases List.mem_append.mp q with q | q
        · exact (mr x (List.mem_of_mem_drop q)).any
        · exact hX x q
  · rw [List.length_append, List.length_cons, List.length_append, List.length_take, List.length_drop]
    omega
end W

set_option Elab.async false
set_option linter.all false
set_option maxRecDepth 100000
set_option maxHeartbeats 4000000
set_option exponentiation.threshold 2000
namespace W
open PySem PySem.Spec PyProof.Rows L2 GxR MyG MyS SqX MyR
/-! ### rows out of their order -/
theorem canM_head {rss : List (List Str)} {i : Nat} (hi : i < 3) (h : w0 (rss.getD i []) ≠ headsL.getD i Str.empty) : canM rss i = false := by
  have c : canM rss i = (if i < 3 then decide (w0 (rss.getD i []) = headsL.getD i Str.empty) && isHeadW (rss.getD i [])
    else if w0 (rss.getD i []) = zRoad then !decide ((rss.getD (i - 1) []).getD 0 Str.empty = zBarW) && isRoadW (rss.getD i [])
    else decide (w0 (rss.getD i []) = zBarW) && (decide ((rss.getD i []).length = 3) && ((rss.getD i []).drop 1).all isNm)) := rfl
  rw [c, if_pos hi, decide_eq_false h, Bool.false_and]
theorem canM_late {rss : List (List Str)} {i : Nat} (hi : ¬ i < 3) (h : w0 (rss.getD i []) ∈ headsL) : canM rss i = false := by
  have c : canM rss i = (if i < 3 then decide (w0 (rss.getD i []) = headsL.getD i Str.empty) && isHeadW (rss.getD i [])
    else if w0 (rss.getD i []) = zRoad then !decide ((rss.getD (i - 1) []).getD 0 Str.empty = zBarW) && isRoadW (rss.getD i [])
    else decide (w0 (rss.getD i []) = zBarW) && (decide ((rss.getD i []).length = 3) && ((rss.getD i []).drop 1).all isNm)) := rfl
  have h1 : w0 (rss.getD i []) ≠ zRoad := fun e => by rw [e] at h; exact absurd h (by decide +kernel)
  have h2 : w0 (rss.getD i []) ≠ zBarW := fun e => by rw [e] at h; exact absurd h (by decide +kernel)
  rw [c, if_neg hi, if_neg h1, decide_eq_false h2, Bool.false_and]
theorem canM_behind {rss : List (List Str)} {i : Nat} (hi : ¬ i < 3) (h : w0 (rss.getD i []) = zRoad) (hb : w0 (rss.getD (i - 1) []) = zBarW) : canM rss i = false := by
  have c : canM rss i = (if i < 3 then decide (w0 (rss.getD i []) = headsL.getD i Str.empty) && isHeadW (rss.getD i [])
    else if w0 (rss.getD i []) = zRoad then !decide (w0 (rss.getD (i - 1) []) = zBarW) && isRoadW (rss.getD i [])
    else decide (w0 (rss.getD i []) = zBarW) && (decide ((rss.getD i []).length = 3) && ((rss.getD i []).drop 1).all isNm)) := rfl
  rw [c, if_neg hi, if_pos h, decide_eq_true hb]
  rfl
section
variable {R : List (List Str)} (hR : ∀ i, i < R.length → canM R i = true) {k : Nat} (hk : k ≤ R.length) {ws : List Str} {tail : List (List Str)}
include hk
theorem getD_at : (R.take k ++ ws :: tail).getD k [] = ws := by
  have hl : (R.take k).length = k := by rw [List.length_take]; omega
  rw [List.getD_eq_getElem?_getD, List.getElem?_append_right (by omega), hl, Nat.sub_self]
  rfl
theorem getD_before {j : Nat} (hj : j < k) : (R.take k ++ ws :: tail).getD j [] = R.getD j [] := by
  have hl : (R.take k).length = k := by rw [List.length_take]; omega
  rw [List.getD_eq_getElem?_getD, List.getD_eq_getElem?_getD, List.getElem?_append_left (by omega), List.getElem?_take, if_pos hj]
include hR
theorem first_at (h : canM (R.take k ++ ws :: tail) k = false) : FirstBad (R.take k ++ ws :: tail) k := by
  have hl : (R.take k).length = k := by rw [List.length_take]; omega
  refine ⟨fun j hj _ => ?_, .inl ⟨by rw [List.length_append, hl]; simp, h⟩⟩
  rw [canM_congr (getD_before hk hj) (getD_before hk (show j - 1 < k by omega))]
  exact hR j (by omega)
theorem first_short (h3 : k < 3) : FirstBad (R.take k) k := by
  have hl : (R.take k).length = k := by rw [List.length_take]; omega
  have ge : ∀ j, j < k → (R.take k).getD j [] = R.getD j [] := fun j hj => by
    rw [List.getD_eq_getElem?_getD, List.getD_eq_getElem?_getD, List.getElem?_take, if_pos hj]
  refine ⟨fun j hj _ => ?_, .inr ⟨hl.symm, by omega⟩⟩
  rw [canM_congr (ge j hj) (ge (j - 1) (by omega))]
  exact hR j (by omega)
end
/-! ### the lines that the law puts behind -/
def badLast : List (List Str) := [["road", "zz", "a", "b", "1", ":", "always"], ["road", "zz", "a", "b", ":", ":", "always"], ["road", "zz", "a", "1", ":", ":", "always"], ["bar", "zz"], ["bar", "a", "b", "c"], ["road", "zz", "a", "b", "1", ":", ":", "always", "0-1"], ["road"]]
def badTail : List (List Str) := [[""], ["road"], ["bar", "A", "b"], ["places", "A"]]
def rowB (ws : List Str) : Bool := (!decide (w0 ws ∈ headsL) || !isHeadW ws) && (!decide (w0 ws = zRoad) || !isRoadW ws) && (!decide (w0 ws = zBarW) || !decide (ws.length = 3) || !(ws.drop 1).all isNm) && !ws.isEmpty && decide (ws.length ≤ 40) && ws.all (fun w => w.cps.toList.all (fun c => decide (33 ≤ c) && decide (c ≤ 126)) && decide (w.length ≤ 20))
theorem rowB_bad {ws : List Str} (h : rowB ws = true) : BadRow ws := by
  unfold rowB at h
  simp only [Bool.and_eq_true, Bool.or_eq_true, Bool.not_eq_true', decide_eq_false_iff_not, decide_eq_true_eq, List.all_eq_true] at h
  obtain ⟨⟨⟨⟨⟨h1, h2⟩, h3⟩, h4⟩, h5⟩, h6⟩ := h
  refine ⟨fun e => (by rw [e] at h4; cases h4), fun w hw => ⟨fun c hc => (h6 w hw).1 c hc, (h6 w hw).2⟩, h5, ⟨fun q => h1.elim (fun n => absurd q n) id, fun q => h2.elim (fun n => absurd q n) id, fun q l => ?_⟩⟩
  rcases h3 with (n | n) | n
  · exact absurd q n
  · exact absurd l n
  · exact n
theorem badLast_f : ∀ ws ∈ badLast, rowB ws = true := by decide +kernel
theorem badTail_f : ∀ ws ∈ badTail, rowB ws = true := by decide +kernel
end W

set_option Elab.async false
set_option linter.all false
set_option maxRecDepth 100000
set_option maxHeartbeats 4000000
set_option exponentiation.threshold 2000
namespace W
open PySem PySem.Spec PyProof.Rows L2 GxR MyG MyS SqX MyR
/-! ### _law_order -/
def lastS : List Str := ["road zz a b 1 : always", "road zz a b : : always", "road zz a 1 : : always", "bar zz", "bar a b c", "road zz a b 1 : : always 0-1", "road"]
theorem lastS_e : badLast.map (Txt.join zSp) = lastS := by decide +kernel
def BadLines (H : Hp) (t : Addr) : Prop := ∃ (a : Addr) (rss : List (List Str)) (k : Nat), H t = some (.tup [.ref a, .int ((k : Int) + 1)]) ∧ H a = some (.lst ((rss.map (Txt.join zSp)).map V.str)) ∧ (∀ ws ∈ rss, AnyRow ws) ∧ (0 < rss.length ∧ rss.length ≤ 105) ∧ ∀ X : List (List Str), X = [] ∨ (∃ x, BadRow x ∧ X = [x]) → FirstBad (rss ++ X) k
def spOrder (P : Addr) : Sp := fun vs H Q _ => ∃ (p q : Addr) (fa n : Int) (d0 d : Int) (ks0 ps0 ks ps : List Str) (rs0 rs : List RoadD) (bs0 bs : List (Str × Str)), vs = [.ref p, .ref q, .int fa, .int n] ∧ PartsL H p d0 ks0 ps0 rs0 bs0 ∧ rs0.length = rs.length ∧ bs0.length = bs.length ∧ H q = some (.lst ((mapL d ks ps rs bs).map V.str)) ∧ PartsOk d ks ps rs bs ∧ 0 ≤ fa ∧ 0 ≤ n ∧ TabG H P ∧
  ∀ H' t, Grew P H H' → BadLines H' t → Q (.ref t) H'
abbrev sOr : Stmt := top 66
abbrev nOr : List Str := ["parts", "lines", "fault", "number", "roads", "many", "at", "bad"]
theorem scOr : FnScope nOr ["parts", "lines", "fault", "number"] (defScope sOr) := ⟨rfl, rfl, rfl, by decide +kernel, rfl, by decide +kernel, by decide +kernel⟩
section
variable {Pg : Program} {w : World} {K : PySem.W.Frag} {mg : Str → Option Value} {base : Heap} {C P : Addr}
theorem ok_order {f : Addr} {fd : FuncData} (F : Fun K "_law_order" "_law_order" sOr f fd) (hl : mg "len" = none) :
    FnOk Pg w K mg base CX0 1 f fd ["parts", "lines", "fault", "number"] (spOrder P) := by
  refine F.ok scOr (fun vs H Q E h => ?_) (fun cdv A outer s H vs Q E hr h => ?_)
  · obtain ⟨p, q, fa, n, _, _, _, _, _, _, _, _, _, _, rfl, _⟩ := h
    rfl
  · obtain ⟨p, q, fa, n, d0, d, ks0, ps0, ks, ps, rs0, rs, bs0, bs, rfl, ⟨pl, ki, ro, ba, xs, zs, e0, e1, e2, e3, e4, e5, e6⟩, hrl, hbl, hq, ok, f0, n0, hP, kQ⟩ := h
    refine ⟨_, (pss_cons (ps_set (i := 4) scOr.nd rfl (Or.inl rfl) (pe_op op_add pe_int (pe_callB (r := rLenK K) call_len_seq (by rfl) hl PySem.boot_len (pa_cons (pe_ix (r := rIxT K) ix_tup (pv 0) pe_int (fun _ _ => rfl)) pa_nil))))
      (pss_cons (ps_if (pt_cmpR op_lt (pv 2) pe_int (nomark _)) (pss_one (ps_ret (pe_tup (pa_cons (pe_op op_cat (pe_slice sl_list (pv 1) po_none (po_some (pv 2))) (pe_slice sl_list (pv 1) (po_some (pe_op op_add (pv 2) pe_int)) po_none)) (pa_cons (pe_op op_add (pv 2) pe_int) pa_nil)))))
        pss_nil)
      (pss_cons (ps_if (pt_cmpR op_eq (pv 2) pe_int (nomark _)) (pss_cons (ps_set (i := 5) scOr.nd rfl (Or.inl rfl) (pe_op op_add pe_int (pe_op op_mod (pv 3) pe_int)))
      (pss_one (ps_ret (pe_tup (pa_cons (pe_slice sl_list (pv 1) po_none (po_some (pv 5))) (pa_cons (pe_op op_add (pv 5) pe_int) pa_nil))))))
        pss_nil)
      (pss_cons (ps_if (pt_cmpR op_eq (pv 2) pe_int (nomark _)) (pss_cons (ps_set (i := 6) scOr.nd rfl (Or.inl rfl) (pe_op op_add pe_int (pe_op op_mod (pv 3) (pe_op op_sub (pe_callB (r := rLenK K) call_len_seq (by rfl) hl PySem.boot_len (pa_cons (pv 1) pa_nil)) pe_int))))
      (pss_one (ps_ret (pe_tup (pa_cons (pe_op op_cat (pe_op op_cat (pe_slice sl_list (pv 1) po_none (po_some (pv 6))) (pe_lst (pa_cons (pe_ix (r := rIxL K) ix_list (pv 1) (pe_op op_mod (pe_op op_fdiv (pv 3) pe_int) pe_int) (fun _ _ => rfl)) pa_nil))) (pe_slice sl_list (pv 1) (po_some (pv 6)) po_none)) (pa_cons (pe_op op_add (pv 6) pe_int) pa_nil))))))
        pss_nil)
      (C8.pss_cut (ps_if (PW.pt (pw_and (pt_cmpR op_eq (pv 2) pe_int (nomark _)) (pw_and1 (pt_cmpR op_gt (pe_callB (r := rLenK K) call_len_seq (by rfl) hl PySem.boot_len (pa_cons (pe_ix (r := rIxT K) ix_tup (pv 0) pe_int (fun _ _ => rfl)) pa_nil)) pe_int (nomark _))))) (pss_cons (ps_set (i := 6) scOr.nd rfl (Or.inl rfl) (pe_op op_add (pe_op op_add (pv 4) pe_int) (pe_op op_mod (pv 3) (pe_callB (r := rLenK K) call_len_seq (by rfl) hl PySem.boot_len (pa_cons (pe_ix (r := rIxT K) ix_tup (pv 0) pe_int (fun _ _ => rfl)) pa_nil)))))
      (pss_one (ps_ret (pe_tup (pa_cons (pe_op op_cat (pe_op op_cat (pe_slice sl_list (pv 1) po_none (po_some (pv 6))) (pe_lst (pa_cons pe_str pa_nil))) (pe_slice sl_list (pv 1) (po_some (pv 6)) po_none)) (pa_cons (pe_op op_add (pv 6) pe_int) pa_nil))))))
        pss_nil)
      (pss_cons (ps_set (i := 7) scOr.nd rfl (Or.inl rfl) (pe_lst (pa_cons pe_str (pa_cons pe_str (pa_cons pe_str (pa_cons pe_str (pa_cons pe_str (pa_cons pe_str (pa_cons pe_str pa_nil)))))))))
      (pss_one (ps_ret (pe_tup (pa_cons (pe_op op_cat (pv 1) (pe_lst (pa_cons (pe_ix (r := rIxL K) ix_list (pv 7) (pe_op op_mod (pv 3) pe_int) (fun _ _ => rfl)) pa_nil))) (pa_cons (pe_op op_add (pe_callB (r := rLenK K) call_len_seq (by rfl) hl PySem.boot_len (pa_cons (pv 1) pa_nil)) pe_int) pa_nil))))))))))), ?_⟩
    have fo := ok.form
    have mr := rows_mrow ok fo
    have st := fo.stands
    have hlen : (mapL d ks ps rs bs).length ≤ 103 := (mapL_len ok).1
    rw [mapL_rows] at hq hlen
    have hR3 := rowsL_len d ks ps rs bs
    obtain ⟨R, eR⟩ : ∃ R, R = rowsL d ks ps rs bs := ⟨_, rfl⟩
    rw [← eR] at hq hlen mr st hR3
    rw [List.length_map] at hlen
    have hxl := Paired.len e4
    have hzl := Paired.len e6
    obtain ⟨ls, els⟩ : ∃ ls : List V, ls = (R.map (Txt.join zSp)).map V.str := ⟨_, rfl⟩
    rw [← els] at hq
    have hls : ls.length = R.length := by rw [els, List.length_map, List.length_map]
    have any : ∀ ws ∈ R, AnyRow ws := fun ws hw => (mr ws hw).any
    refine ⟨_, rfl, p, _, 3, _, rfl, rfl, SqT.of e0, rfl, ro, _, rfl, .inl (SqL.of e3), _, _, rfl, rfl, ?_⟩
    dsimp only []
    refine ⟨_, rfl, _, _, rfl, rfl, _, rfl, ?_⟩
    by_cases c3 : fa < 3
    · refine if_t (decide_eq_true c3) ?_
      obtain ⟨k, rfl⟩ := Int.eq_ofNat_of_zero_le f0
      refine ⟨_, rfl, _, rfl, _, rfl, q, _, rfl, SqL.of hq, fun U1 n1 => ?_⟩
      rw [cutV_pre']
      have gA := Grew.new hP (o := .lst (ls.take k)) n1
      refine ⟨_, rfl, _, rfl, _, _, rfl, rfl, _, rfl, q, _, rfl, SqL.of (gA.lst hP hq), fun U2 n2 => ?_⟩
      dsimp only []
      rw [show (k : Int) + 1 = ((k + 1 : Nat) : Int) from rfl, cutV_suf]
      have gB := Grew.new gA.tab (o := .lst (ls.drop (k + 1))) n2
      refine ⟨U1, U2, _, _, rfl, rfl, gB.lst gA.tab upd_same, upd_same, (by rw [List.length_take, List.length_drop, sizeLine_eq]; omega), fun U3 n3 => ?_⟩
      have gC := Grew.new gB.tab (o := .lst (ls.take k ++ ls.drop (k + 1))) n3
      refine ⟨_, rfl, _, _, rfl, rfl, (show 2 ≤ sizeLine by decide), fun T nT => ?_⟩
      have gD := Grew.new gC.tab (o := .tup [.ref U3, .int ((k : Int) + 1)]) nT
      refine kQ _ T (((gA.trans gB).trans gC).trans gD) ⟨U3, R.take k ++ R.drop (k + 1), k, upd_same, ?_, fun ws hw => ?_, by rw [List.length_append, List.length_take, List.length_drop]; omega, fun X hX => ?_⟩
      · rw [List.map_append, List.map_append, List.map_take, List.map_drop, List.map_take, List.map_drop, ← els]
        exact gD.lst gC.tab upd_same
      · rcases List.mem_append.mp hw with q | q
        · exact any ws (List.mem_of_mem_take q)
        · exact any ws (List.mem_of_mem_drop q)
      · have ass : (R.take k ++ R.drop (k + 1)) ++ X = R.take k ++ (R.drop (k + 1) ++ X) := List.append_assoc ..
        have hkR : k ≤ R.length := by omega
        cases ed : R.drop (k + 1) with
        | cons x tl =>
          rw [ed] at ass
          rw [ass]
          refine first_at st hkR (ws := x) (tail := tl ++ X) (canM_head (by omega) ?_)
          rw [getD_at hkR]
          have hx : R.getD (k + 1) [] = x := by
            have q : (R.drop (k + 1))[0]? = some x := by rw [ed]; rfl
            rw [List.getElem?_drop] at q
            rw [List.getD_eq_getElem?_getD, show k + 1 = k + 1 + 0 from rfl, q]
            rfl
          have hk1 : k + 1 < R.length := by
            have := congrArg List.length ed
            rw [List.length_drop] at this
            simp at this
            omega
          match k, c3 with
          | 0, _ => rw [← hx, eR]; show zKinds ≠ zDayW; decide +kernel
          | 1, _ => rw [← hx, eR]; show zPlaces ≠ zKinds; decide +kernel
          | 2, _ =>
            intro e
            have q := st 3 hk1
            rw [canM_late (by decide) (by rw [hx, e]; decide +kernel)] at q
            exact Bool.noConfusion q
        | nil =>
          rw [ed] at ass
          rw [ass]
          have k2 : k = 2 ∧ R.length = 3 := by
            have := congrArg List.length ed
            rw [List.length_drop] at this
            simp at this
            omega
          rcases hX with rfl | ⟨x, hx, rfl⟩
          · rw [List.append_nil, List.append_nil]
            exact first_short st hkR (by omega)
          · exact first_at st hkR (ws := x) (tail := []) (hx.d.can (getD_at hkR))
    refine if_f (decide_eq_false c3) ?_
    refine ⟨_, rfl, rfl, _, rfl, ?_⟩
    by_cases c4 : fa = 3
    · refine if_t (decide_eq_true (congrArg V.int c4)) ?_
      refine ⟨_, rfl, _, _, rfl, rfl, (show (0 : Int) < 2 by decide), _, _, rfl, rfl, ?_⟩
      dsimp only []
      obtain ⟨m, em, m1, m2⟩ : ∃ m : Nat, 1 + n % 2 = (m : Int) ∧ 1 ≤ m ∧ m ≤ 2 := ⟨(1 + n % 2).toNat, by omega, by omega, by omega⟩
      rw [em]
      refine ⟨_, rfl, _, rfl, _, rfl, q, _, rfl, SqL.of hq, fun U1 n1 => ?_⟩
      rw [cutV_pre']
      have gA := Grew.new hP (o := .lst (ls.take m)) n1
      refine ⟨_, rfl, _, _, rfl, rfl, (show 2 ≤ sizeLine by decide), fun T nT => ?_⟩
      have gD := Grew.new gA.tab (o := .tup [.ref U1, .int ((m : Int) + 1)]) nT
      refine kQ _ T (gA.trans gD) ⟨U1, R.take m, m, upd_same, ?_, fun ws hw => any ws (List.mem_of_mem_take hw), by rw [List.length_take]; omega, fun X hX => ?_⟩
      · rw [List.map_take, List.map_take, ← els]
        exact gD.lst gA.tab upd_same
      · rcases hX with rfl | ⟨x, hx, rfl⟩
        · rw [List.append_nil]
          exact first_short st (by omega) (by omega)
        · exact first_at st (by omega) (ws := x) (tail := []) (hx.d.can (getD_at (by omega)))
    refine if_f (decide_eq_false fun e => c4 (by injection e)) ?_
    refine ⟨_, rfl, rfl, _, rfl, ?_⟩
    by_cases c5 : fa = 4
    · refine if_t (decide_eq_true (congrArg V.int c5)) ?_
      refine ⟨_, rfl, _, rfl, q, _, rfl, .inl (SqL.of hq), _, _, rfl, rfl, _, _, rfl, rfl, (by omega), _, _, rfl, rfl, ?_⟩
      dsimp only []
      have q0 := Int.emod_nonneg n (show (ls.length : Int) - 2 ≠ 0 by omega)
      have q1 := Int.emod_lt_of_pos n (show (0 : Int) < (ls.length : Int) - 2 by omega)
      obtain ⟨m, em, m1, m2⟩ : ∃ m : Nat, 3 + n % ((ls.length : Int) - 2) = (m : Int) ∧ 3 ≤ m ∧ m ≤ R.length := ⟨(3 + n % ((ls.length : Int) - 2)).toNat, by omega, by omega, by omega⟩
      rw [em]
      refine ⟨_, rfl, _, rfl, _, rfl, q, _, rfl, SqL.of hq, fun U1 n1 => ?_⟩
      rw [cutV_pre']
      have gA := Grew.new hP (o := .lst (ls.take m)) n1
      refine ⟨_, rfl, _, rfl, _, _, rfl, rfl, ⟨by decide, by decide⟩, _, _, rfl, rfl, (show (0 : Int) < 3 by decide), ?_⟩
      dsimp only []
      obtain ⟨hh, eh, h3⟩ : ∃ hh : Nat, n / 7 % 3 = (hh : Int) ∧ hh < 3 := ⟨(n / 7 % 3).toNat, by omega, by omega⟩
      have hx0 : hh < R.length := by omega
      obtain ⟨x, ex⟩ : ∃ x, R[hh]? = some x := ⟨_, List.getElem?_eq_getElem hx0⟩
      have hxa := any x (List.mem_of_getElem? ex)
      have hxd : R.getD hh [] = x := by rw [List.getD_eq_getElem?_getD, ex]; rfl
      rw [eh]
      refine ⟨q, _, _, .str (Txt.join zSp x), rfl, rfl, SqL.of (gA.lst hP hq), atI_nat (by rw [els, List.getElem?_map, List.getElem?_map, ex]; rfl), (show 1 ≤ sizeLine by decide), fun U2 n2 => ?_⟩
      have gB := Grew.new gA.tab (o := .lst [V.str (Txt.join zSp x)]) n2
      refine ⟨U1, U2, _, _, rfl, rfl, gB.lst gA.tab upd_same, upd_same, (by rw [List.length_take, sizeLine_eq]; show _ + 1 ≤ _; omega), fun U3 n3 => ?_⟩
      have gC := Grew.new gB.tab (o := .lst (ls.take m ++ [V.str (Txt.join zSp x)])) n3
      have gAC := (gA.trans gB).trans gC
      refine ⟨_, rfl, _, rfl, _, rfl, q, _, rfl, SqL.of (gAC.lst hP hq), fun U4 n4 => ?_⟩
      rw [cutV_suf]
      have gD := Grew.new gC.tab (o := .lst (ls.drop m)) n4
      refine ⟨U3, U4, _, _, rfl, rfl, gD.lst gC.tab upd_same, upd_same, (by rw [List.length_append, List.length_take, List.length_drop, sizeLine_eq]; show _ + 1 + _ ≤ _; omega), fun U5 n5 => ?_⟩
      have gE := Grew.new gD.tab (o := .lst (ls.take m ++ [V.str (Txt.join zSp x)] ++ ls.drop m)) n5
      refine ⟨_, rfl, _, _, rfl, rfl, (show 2 ≤ sizeLine by decide), fun T nT => ?_⟩
      have gF := Grew.new gE.tab (o := .tup [.ref U5, .int ((m : Int) + 1)]) nT
      refine kQ _ T (((gAC.trans gD).trans gE).trans gF) ⟨U5, R.take m ++ x :: R.drop m, m, upd_same, ?_, fun ws hw => ?_, by rw [List.length_append, List.length_cons, List.length_take, List.length_drop]; omega, fun X hX => ?_⟩
      · have el : ((R.take m ++ x :: R.drop m).map (Txt.join zSp)).map V.str = ls.take m ++ [V.str (Txt.join zSp x)] ++ ls.drop m := by
          rw [els]
          simp [List.map_append, List.map_take, List.map_drop]
        rw [el]
        exact gF.lst gE.tab upd_same
      · rcases List.mem_append.mp hw with q | q
        · exact any ws (List.mem_of_mem_take q)
        · rcases List.mem_cons.mp q with rfl | q
          · exact hxa
          · exact any ws (List.mem_of_mem_drop q)
      · have ass : (R.take m ++ x :: R.drop m) ++ X = R.take m ++ x :: (R.drop m ++ X) := by simp
        rw [ass]
        refine first_at st m2 ?_
        refine canM_late (by omega) ?_
        rw [getD_at m2, ← hxd, eR]
        match hh, h3 with
        | 0, _ => show zDayW ∈ headsL; decide +kernel
        | 1, _ => show zKinds ∈ headsL; decide +kernel
        | 2, _ => show zPlaces ∈ headsL; decide +kernel
    refine if_f (decide_eq_false fun e => c5 (by injection e)) ?_
    obtain ⟨S, eS⟩ : ∃ S : L2.St, S = [some (V.ref p), some (.ref q), some (.int fa), some (.int n), some (.int (3 + (xs.length : Int))), none, none, none] := ⟨_, rfl⟩
    refine ⟨fun σ H' => σ = S ∧ H' = H, ?_, ?_⟩
    · refine ⟨_, rfl, rfl, _, rfl, ?_⟩
      by_cases c6 : fa = 5
      case neg => exact if_f (decide_eq_false fun e => c6 (by injection e)) (if_f rfl ⟨eS.symm, rfl⟩)
      refine if_t (decide_eq_true (congrArg V.int c6)) ?_
      refine ⟨_, rfl, p, _, 4, _, rfl, rfl, SqT.of e0, rfl, ba, _, rfl, .inl (SqL.of e5), _, _, rfl, rfl, _, rfl, ?_⟩
      by_cases cb : (0 : Int) < (zs.length : Int)
      case neg => exact if_f (decide_eq_false cb) ⟨eS.symm, rfl⟩
      refine if_t (decide_eq_true cb) ?_
      refine ⟨_, rfl, _, _, rfl, rfl, _, rfl, _, rfl, p, _, 4, _, rfl, rfl, SqT.of e0, rfl, ba, _, rfl, .inl (SqL.of e5), _, _, rfl, rfl, (by omega), _, _, rfl, rfl, ?_⟩
      dsimp only []
      have q0 := Int.emod_nonneg n (show (zs.length : Int) ≠ 0 by omega)
      have q1 := Int.emod_lt_of_pos n (show (0 : Int) < (zs.length : Int) by omega)
      obtain ⟨m, em, m1, m2⟩ : ∃ m : Nat, 3 + (xs.length : Int) + 1 + n % (zs.length : Int) = (m : Int) ∧ 3 + rs.length + 1 ≤ m ∧ m ≤ R.length := ⟨(3 + (xs.length : Int) + 1 + n % (zs.length : Int)).toNat, by omega, by omega, by omega⟩
      rw [em]
      refine ⟨_, rfl, _, rfl, _, rfl, q, _, rfl, SqL.of hq, fun U1 n1 => ?_⟩
      rw [cutV_pre']
      have gA := Grew.new hP (o := .lst (ls.take m)) n1
      obtain ⟨x, hxe, hxa, hxw⟩ : ∃ x : List Str, ("road zz a b 1 : : always" : Str) = Txt.join zSp x ∧ AnyRow x ∧ w0 x = zRoad := ⟨["road", "zz", "a", "b", "1", ":", ":", "always"], by decide +kernel, ⟨by simp, fun w hw => by
        have q : (["road", "zz", "a", "b", "1", ":", ":", "always"] : List Str).all (fun w => w.cps.toList.all (fun c => decide (33 ≤ c) && decide (c ≤ 126)) && decide (w.length ≤ 20)) = true := by decide +kernel
        exact pw_lit w (List.all_eq_true.mp q w hw), by decide⟩, rfl⟩
      refine ⟨(show 1 ≤ sizeLine by decide), fun U2 n2 => ?_⟩
      rw [show Str.ofString "road zz a b 1 : : always" = Txt.join zSp x from hxe]
      have gB := Grew.new gA.tab (o := .lst [V.str (Txt.join zSp x)]) n2
      refine ⟨U1, U2, _, _, rfl, rfl, gB.lst gA.tab upd_same, upd_same, (by rw [List.length_take, sizeLine_eq]; show _ + 1 ≤ _; omega), fun U3 n3 => ?_⟩
      have gC := Grew.new gB.tab (o := .lst (ls.take m ++ [V.str (Txt.join zSp x)])) n3
      have gAC := (gA.trans gB).trans gC
      refine ⟨_, rfl, _, rfl, _, rfl, q, _, rfl, SqL.of (gAC.lst hP hq), fun U4 n4 => ?_⟩
      rw [cutV_suf]
      have gD := Grew.new gC.tab (o := .lst (ls.drop m)) n4
      refine ⟨U3, U4, _, _, rfl, rfl, gD.lst gC.tab upd_same, upd_same, (by rw [List.length_append, List.length_take, List.length_drop, sizeLine_eq]; show _ + 1 + _ ≤ _; omega), fun U5 n5 => ?_⟩
      have gE := Grew.new gD.tab (o := .lst (ls.take m ++ [V.str (Txt.join zSp x)] ++ ls.drop m)) n5
      refine ⟨_, rfl, _, _, rfl, rfl, (show 2 ≤ sizeLine by decide), fun T nT => ?_⟩
      have gF := Grew.new gE.tab (o := .tup [.ref U5, .int ((m : Int) + 1)]) nT
      refine kQ _ T (((gAC.trans gD).trans gE).trans gF) ⟨U5, R.take m ++ x :: R.drop m, m, upd_same, ?_, fun ws hw => ?_, by rw [List.length_append, List.length_cons, List.length_take, List.length_drop]; omega, fun X hX => ?_⟩
      · have el : ((R.take m ++ x :: R.drop m).map (Txt.join zSp)).map V.str = ls.take m ++ [V.str (Txt.join zSp x)] ++ ls.drop m := by
          rw [els]
          simp [List.map_append, List.map_take, List.map_drop]
        rw [el]
        exact gF.lst gE.tab upd_same
      · rcases List.mem_append.mp hw with q | q
        · exact any ws (List.mem_of_mem_take q)
        · rcases List.mem_cons.mp q with rfl | q
          · exact hxa
          · exact any ws (List.mem_of_mem_drop q)
      · have ass : (R.take m ++ x :: R.drop m) ++ X = R.take m ++ x :: (R.drop m ++ X) := by simp
        rw [ass]
        refine first_at st m2 ?_
        refine canM_behind (by omega) (by rw [getD_at m2]; exact hxw) ?_
        rw [getD_before m2 (show m - 1 < m by omega), eR]
        have ei : m - 1 = (m - 1 - rs.length - 3) + rs.length + 3 := by omega
        rw [ei, getD_bar (by omega)]
        rfl
    rintro σ H' ⟨eσ, eH⟩
    rw [eσ, eS, eH]
    refine ⟨(show 7 ≤ sizeLine by decide), fun B nB => ?_⟩
    have g0 := Grew.new hP (o := .lst (lastS.map V.str)) nB
    have hq0 := g0.lst hP hq
    obtain ⟨v, ev, hv⟩ := atI_mod (xs := lastS.map V.str) (n := n) (by decide)
    obtain ⟨y, hy, rfl⟩ := List.mem_map.mp hv
    rw [← lastS_e] at hy
    obtain ⟨x, hx, rfl⟩ := List.mem_map.mp hy
    have hb := rowB_bad (badLast_f x hx)
    refine ⟨_, rfl, _, rfl, _, rfl, _, _, rfl, rfl, (show (0 : Int) < 7 by decide), B, _, _, _, rfl, rfl, SqL.of upd_same, ev, (show 1 ≤ sizeLine by decide), fun U2 n2 => ?_⟩
    have gB := Grew.new g0.tab (o := .lst [V.str (Txt.join zSp x)]) n2
    refine ⟨q, U2, _, _, rfl, rfl, gB.lst g0.tab hq0, upd_same, (by rw [sizeLine_eq]; show _ + 1 ≤ _; omega), fun U5 n5 => ?_⟩
    have gE := Grew.new gB.tab (o := .lst (ls ++ [V.str (Txt.join zSp x)])) n5
    have g0E := (g0.trans gB).trans gE
    refine ⟨_, rfl, q, _, rfl, .inl (SqL.of (g0E.lst hP hq)), _, _, rfl, rfl, (show 2 ≤ sizeLine by decide), fun T nT => ?_⟩
    have gF := Grew.new gE.tab (o := .tup [.ref U5, .int ((ls.length : Int) + 1)]) nT
    refine kQ _ T (g0E.trans gF) ⟨U5, R ++ [x], R.length, by rw [← hls]; exact upd_same, ?_, fun ws hw => ?_, by rw [List.length_append, List.length_singleton]; omega, fun X hX => ?_⟩
    · have el : ((R ++ [x]).map (Txt.join zSp)).map V.str = ls ++ [V.str (Txt.join zSp x)] := by rw [els]; simp
      rw [el]
      exact gF.lst gE.tab upd_same
    · rcases List.mem_append.mp hw with q | q
      · exact any ws q
      · rw [List.mem_singleton.mp q]
        exact hb.any
    · have ass : (R ++ [x]) ++ X = R.take R.length ++ x :: X := by rw [List.take_length]; simp
      rw [ass]
      exact first_at st (Nat.le_refl _) (hb.d.can (getD_at (Nat.le_refl _)))
end
end W

set_option Elab.async false
set_option linter.all false
set_option maxRecDepth 100000
set_option maxHeartbeats 2000000
namespace MyR
open PySem PySem.Spec PyProof.Rows L2
/-! ### the law's own call, where several defs hold a generator expression -/
section
variable {P : Program} {w : World} {K : PySem.W.Frag} {mg : Str → Option Value} {base : Heap}
def topL (K : PySem.W.Frag) (cs : List (Addr × Addr)) (a : Addr) (o : Obj) (xs : List V) : Hp := fun b => if b ∈ cs.map (·.2) then some (.tbl #[]) else if b = a ∧ K.lookup a = none then some (.frz o (.lst xs)) else none
theorem topL_cases {cs : List (Addr × Addr)} {a b : Addr} {o : Obj} {xs : List V} {u : HO} (h : topL K cs a o xs b = some u) : (b ∈ cs.map (·.2) ∧ u = .tbl #[]) ∨ (b ∉ cs.map (·.2) ∧ b = a ∧ K.lookup a = none ∧ u = .frz o (.lst xs)) := by
  unfold topL at h
  by_cases h1 : b ∈ cs.map (·.2)
  · rw [if_pos h1] at h
    exact .inl ⟨h1, (Option.some.inj h).symm⟩
  · rw [if_neg h1] at h
    by_cases h2 : b = a ∧ K.lookup a = none
    · rw [if_pos h2] at h
      exact .inr ⟨h1, h2.1, h2.2, (Option.some.inj h).symm⟩
    · rw [if_neg h2] at h
      cases h
theorem top_callL {mb : Str → Option Value} {CX : CXT} {f a : Addr} {cs : List (Addr × Addr)} {sp : Sp} {s : Shared} {vs : List Value} {ns : List Int} (KX : K.In s.heap) (G : s.heap.Ns mainGlobals mg) (B : s.heap.Ns builtinsNs mb) (hB : ∀ x : Str, x ≠ "__name__" → mb x = bootBuiltins x) (lim : s.heap.NoLimit) (ng : s.gens = #[])
    (hcs : ∀ p ∈ cs, s.heap.get? p.2 = some { cls := .none, data := .fields #[] } ∧ K.lookup p.2 = none ∧ PySem.W.CodeHd s.heap p.1 p.2)
    (hbm : ∃ (bm : Addr) (ob : Obj), mg "__builtins__" = some (.ref bm) ∧ bm ≠ builtinsNs ∧ s.heap.get? bm = some ob ∧ ob.cls = .type "module" ∧ ob.dict = some builtinsNs ∧ ob.data = .plain)
    (ea : s.heap.get? a = some { cls := .type "list", data := .seq vs.toArray }) (hi : IntsAre vs ns) (hl : ns.length ≤ sizeLine)
    (R : ∀ base : Heap, K.In base → base.Ns mainGlobals mg → (∀ p ∈ cs, LamX.TabB base mg p.1 p.2) → RunG P w K mg base CX f sp)
    (hsp : ∀ H : Hp, (∀ p ∈ cs, H p.2 = some (.tbl #[])) → SqL K H a (ns.map V.int) → sp [.ref a] H (fun v _ => v = .bl true) fun _ _ _ => False)
    (no : ∀ H e s', CX [] H s (fun _ _ _ => False) e s' → False) :
    codeAny (model P w) callerA (.call (.ref f) ⟨[.ref a], []⟩) (fun r s' => r = .ok (.ret (.bool true)) ∧ OldK s.heap s'.heap ∧ s'.os = s.os ∧ AllBare s'.gens) s := by
  have rv := vals_ints hi
  have mem : ∀ {b : Addr}, b ∈ cs.map (·.2) → ∃ c, (c, b) ∈ cs := fun {b} h => by
    obtain ⟨⟨c, b'⟩, hp, e⟩ := List.mem_map.mp h
    have e' : b' = b := e
    exact ⟨c, e' ▸ hp⟩
  have eT : ∀ {b : Addr}, b ∈ cs.map (·.2) → s.heap.get? b = some { cls := .none, data := .fields #[] } := fun h => let ⟨c, hp⟩ := mem h; (hcs _ hp).1
  have nT : ∀ {b : Addr}, b ∈ cs.map (·.2) → K.lookup b = none := fun h => let ⟨c, hp⟩ := mem h; (hcs _ hp).2.1
  have nz : a ∉ cs.map (·.2) := fun z => by
    rw [eT z] at ea
    cases ea
  obtain ⟨H, eH⟩ : ∃ H, H = topL K cs a { cls := .type "list", data := .seq vs.toArray } (ns.map V.int) := ⟨_, rfl⟩
  have tr : ∀ {b : Addr} {u : HO}, H b = some u → _ := fun {b u} h => topL_cases (by rw [eH] at h; exact h)
  have HT : ∀ p ∈ cs, H p.2 = some (.tbl #[]) := fun p hp => by
    rw [eH]
    exact if_pos (List.mem_map.mpr ⟨p, hp, rfl⟩)
  have hS : SqL K H a (ns.map V.int) := by
    cases q : K.lookup a with
    | none => exact .inl (.inr ⟨_, by rw [eH]; exact (if_neg nz).trans (if_pos ⟨rfl, q⟩)⟩)
    | some o =>
      have e := KX a o q
      rw [ea] at e
      cases e
      exact .inr ⟨_, vs.toArray, _, q, rfl, rfl, rfl, by rw [List.size_toArray, hi.length]; exact hl, by simpa using rv⟩
  have ok : HOk P w H s.heap := fun b u h => by
    rcases tr h with ⟨hb, rfl⟩ | ⟨_, rfl, _, rfl⟩
    · exact eT hb
    · exact ⟨ea, by rw [List.length_map]; exact hl, vs, _, rv, ea⟩
  have gone : ∀ {b : Addr} {o : Obj}, s.heap.get? b = some o → (∀ xs n, o.data ≠ .seq xs n) → o.data ≠ .fields #[] → H b = none := fun {b o} e d1 d2 => by
    cases h : H b with
    | none => rfl
    | some u =>
      rcases tr h with ⟨hb, _⟩ | ⟨_, rfl, _, _⟩
      · rw [eT hb] at e
        cases e
        exact (d2 rfl).elim
      · rw [ea] at e
        cases e
        exact (d1 _ _ rfl).elim
  have toB : ∀ {b : Addr} {m : Str → Option Value}, s.heap.Ns b m → (hidT s.heap H).Ns b m := fun {b m} ⟨o, es, ep, e, d, r⟩ =>
    ⟨o, es, ep, hidT_get e (gone e (fun xs n z => by rw [d] at z; cases z) (fun z => by rw [d] at z; cases z)), d, r⟩
  have KB : K.In (hidT s.heap H) := fun b o e => hidT_get (KX b o e) (by
    cases h : H b with
    | none => rfl
    | some u =>
      rcases tr h with ⟨hb, _⟩ | ⟨_, rfl, k, _⟩
      · rw [nT hb] at e; cases e
      · rw [k] at e; cases e)
  have TB : ∀ p ∈ cs, LamX.TabB (hidT s.heap H) mg p.1 p.2 := fun p hp => by
    obtain ⟨eT, nT, C⟩ := hcs p hp
    refine ⟨?_, ?_, fun z => ?_⟩
    · obtain ⟨o, us, file, tf, flags, tg, inF, text, tt, e1, r1, r2, r3, r⟩ := C
      exact ⟨o, us, file, tf, flags, tg, inF, text, tt, hidT_get e1 (gone e1 (fun xs n z => by rw [r2] at z; cases z) (fun z => by rw [r2] at z; cases z; simp at r3)), r1, r2, r3, r⟩
    · obtain ⟨bm, ob, b1, b2, b3, b4, b5, b6⟩ := hbm
      refine ⟨bm, ob, b1, b2, fun z => ?_, fun z => ?_, hidT_get b3 (gone b3 (fun xs n z => by rw [b6] at z; cases z) (fun z => by rw [b6] at z; cases z)), b4, b5, b6⟩
      · obtain ⟨o, es, ep, e, d, _⟩ := G
        rw [z, e] at b3
        cases b3
        rw [d] at b6
        cases b6
      · rw [z, eT] at b3
        cases b3
        cases b6
    · obtain ⟨o, es, ep, e, d, _⟩ := G
      rw [z, eT] at e
      cases e
      cases d
  have e0 : Env0 P w K mg (hidT s.heap H) callerA [] s H :=
    ⟨rfl, ⟨KB, toB G, ⟨mb, toB B, hB⟩, let ⟨mc, h1, h2⟩ := lim; ⟨mc, toB h1, h2⟩⟩, fun b o e => of_hidT e, Nat.le_of_eq (hidT_size _ _), trivial, fun b hb => absurd (show b ∈ ([] : List Addr) from hb) (by simp), ok, .of_eq ng⟩
  refine codeAny_mono (R _ KB (toB G) TB s H a _ _ e0 (hsp H HT hS)) fun r s' h => ?_
  match r, h with
  | .error e, h => exact (no H e s' h).elim
  | .ok .next, h => exact False.elim h
  | .ok .brk, h => exact False.elim h
  | .ok .cont, h => exact False.elim h
  | .ok (.ret u), ⟨v, H', os, bare, un, ok', r', q⟩ =>
    obtain rfl : v = .bl true := q
    obtain rfl : u = Value.bool true := r'
    have hm : ∀ p ∈ cs, ∃ more : Array Value, s'.heap.get? p.2 = some { cls := .none, data := .fields more } := fun p hp => by
      obtain ⟨more, z⟩ := un.tbls p.2 #[] (HT p hp)
      exact ⟨_, ok' p.2 _ z⟩
    have old : ∀ b o, b ∉ cs.map (·.2) → s.heap.get? b = some o → s'.heap.get? b = some o := fun b o ne e => by
      cases h : H b with
      | none => exact un.keep b o e h (fun z => absurd (show b ∈ ([] : List Addr) from z) (by simp)) (by simp)
      | some u =>
        rcases tr h with ⟨z, _⟩ | ⟨_, rfl, _, rfl⟩
        · exact absurd z ne
        · obtain ⟨e2, _⟩ := ok' b _ (un.frzs b _ _ h)
          rw [ea] at e
          cases e
          exact e2
    refine ⟨rfl, ⟨fun b o e => ?_, fun b o e => ?_⟩, os, bare⟩
    · by_cases hb : b ∈ cs.map (·.2)
      · obtain ⟨c, hp⟩ := mem hb
        obtain ⟨eT, _, C⟩ := hcs _ hp
        obtain ⟨more, hm⟩ := hm _ hp
        have eT' : s.heap.get? b = some { cls := .none, data := .fields #[] } := eT
        rw [eT'] at e
        cases e
        exact .inr (.inl ⟨(C.tab eT).isCodeTable, rfl, #[], more, rfl, by rw [Array.empty_append]; exact hm⟩)
      · exact .inl (old b o hb e)
    · by_cases hb : b ∈ cs.map (·.2)
      · obtain ⟨c, hp⟩ := mem hb
        obtain ⟨more, hm⟩ := hm _ hp
        exact ⟨_, hm⟩
      · exact ⟨o, old b o hb e⟩
end
/-- what the law's end asks: the tables of the code objects, and the promise sp -/
def LawL (l : PySem.W.OpenLaw) (w : World) (K : PySem.W.Frag) (CX : CXT) (n : Nat) (mg : Str → Option Value) (fa : Addr) (h : Heap) : Prop :=
  ∃ (cs : List (Addr × Addr)) (sp : Sp), (∀ p ∈ cs, h.get? p.2 = some { cls := .none, data := .fields #[] } ∧ K.lookup p.2 = none ∧ PySem.W.CodeHd h p.1 p.2) ∧
    (∀ (H : Hp) (a : Addr) (ns : List Int), ns.length ≤ n → (∀ p ∈ cs, H p.2 = some (.tbl #[])) → SqL K H a (ns.map V.int) → sp [.ref a] H (fun v _ => v = .bl true) fun _ _ _ => False) ∧
    ∀ base : Heap, K.In base → base.Ns mainGlobals mg → (∀ p ∈ cs, LamX.TabB base mg p.1 p.2) → RunG l.prog w K mg base CX fa sp
theorem walk_ofL {l : PySem.W.OpenLaw} {n : Nat} {q : Program} {loose : List Str} {XP : (Str → Option Value) → Heap → Prop} {YP : World → Heap → Prop} {d : DefRec} {K : Params → PySem.W.Frag} {CX : World → CXT} (names : List Str)
    (hn : l.most = some n) (hn2 : n ≤ sizeLine) (hdf : d.params.defaults = []) (hrec : names.all (fun y => (recsOf q).any fun e => e.name == y) = true) (hY : ∀ (w : World) (h : Heap), YP w h → (K w.params).In h)
    (F : ∀ (w : World) (mg : Str → Option Value) (fa : Addr) (h : Heap), YP w h → (K w.params).In h → h.Ns mainGlobals mg → mg d.name = some (.ref fa) → (∀ y ∈ names, ∀ f, mg y = some (.ref f) → LamX.OwnTab (K w.params) f h) → LawL l w (K w.params) (CX w) n mg fa h)
    (no : ∀ (w : World) (H : Hp) (s : Shared) (e : Value) (s' : Shared), CX w [] H s (fun _ _ _ => False) e s' → False) :
    PySem.W.WalkO q loose XP YP l.row.toRowW d [] (fun f vs => PySem.call f vs) := by
  refine Att.attach_callB hn hdf fun w s₀ s₁ mg mb fa o pm cd doc a vs ns G Y ho hd hcd hmg hobj hints hlen hbits hg => ?_
  have KX := hY w _ Y
  obtain ⟨cs, sp, hcs, hsp, R⟩ := F w mg fa _ Y KX G.T.g hmg (fun y hy f hf c P o1 fd1 e dd vs1 sl k1 k2 k3 k4 k5 => by
    obtain ⟨dL, hm, hn1⟩ := List.any_eq_true.mp (List.all_eq_true.mp hrec y hy)
    obtain ⟨a', o', fd', c', P', h1, h2, h3, h4, h5, h6⟩ := G.T.tab dL hm
    rw [beq_iff_eq.mp hn1, hf] at h1
    cases h1
    have g1 := KX _ _ k1
    rw [g1] at h2
    cases h2
    rw [k2] at h3
    cases h3
    rw [k3] at h4
    cases h4
    obtain ⟨⟨oc, vc, e1, _, e3, e4⟩, hP⟩ := h6
    have g2 := KX _ _ k4
    rw [g2] at e1
    cases e1
    cases e3
    rw [k5] at e4
    cases e4
    exact hP)
  exact top_callL KX G.T.g G.T.b G.T.builtins G.T.nolimit hg hcs G.T.bmain hobj hints (Nat.le_trans hlen hn2) R (fun H hH hS => hsp H a ns hlen hH hS) fun H e s' => no w H s₁ e s'
end MyR

set_option Elab.async false
set_option linter.all false
set_option maxRecDepth 100000
set_option maxHeartbeats 8000000
set_option exponentiation.threshold 2000
namespace W
open PySem PySem.Spec PyProof.Rows L2 GxR MyG MyS SqX MyR
/-! ### the law -/
abbrev sLaw : Stmt := top 67
def spLaw (K : PySem.W.Frag) (P Pa Ph Pn : Addr) : Sp := fun vs H Q _ => ∃ (a : Addr) (zs : List Int), vs = [.ref a] ∧ SqL K H a (zs.map V.int) ∧ zs.length ≤ 63 ∧ TabG H P ∧ TabG H Pa ∧ TabG H Ph ∧ TabG H Pn ∧ ∀ H', Q (.bl true) H'
abbrev nLaw : List Str := ["script", "numbers", "parts", "due", "lines", "choice", "at", "number", "bad", "line"]
theorem room11 {q : Str} {sc : Scope} {n : Nat} {f : Addr} {cd : Value} : Room 11 (callerA.deeper (envOfC q sc n f cd)) := ⟨rfl, by show 1 + claimMargin + 1 + 3 * 11 + 5 < _; decide, by show 4 + 3 + 16 * 11 + 200 < _; decide⟩
theorem num_at {ns : List Int} (hs : Sm ns) {k : Nat} (h : k < ns.length) : ∃ n : Int, atI (ns.map V.int) (k : Int) = some (.int n) ∧ 0 ≤ n ∧ n < 1009 := by
  obtain ⟨a, b⟩ := hs _ (List.getElem_mem h)
  exact ⟨ns[k], atI_nat (by rw [List.getElem?_map, List.getElem?_eq_getElem h]; rfl), a, b⟩
def tlsS : List Str := ["", "road", "bar A b", "places A"]
theorem tlsS_e : badTail.map (Txt.join zSp) = tlsS := by decide +kernel
/-- a list of lines, the first bad one of which is told, whatever stands behind them -/
def BadT (H : Hp) (a : Addr) (k : Nat) : Prop := ∃ ls : List Str, H a = some (.lst (ls.map V.str)) ∧ ls.length ≤ 110 ∧ (∀ l ∈ ls, l.length ≤ 900) ∧ ∀ X : List (List Str), X = [] ∨ (∃ x ∈ badTail, X = [x]) → BadText (Txt.join zNl (ls ++ X.map (Txt.join zSp))) (ls ++ X.map (Txt.join zSp)) k
theorem BadT.grew {P : Addr} {H H' : Hp} {a : Addr} {k : Nat} (m : BadT H a k) (g : Grew P H H') (h : TabG H P) : BadT H' a k := by
  obtain ⟨ls, e, r⟩ := m
  exact ⟨ls, g.lst h e, r⟩
theorem tail_any {X : List (List Str)} (h : X = [] ∨ (∃ x ∈ badTail, X = [x])) : (∀ ws ∈ X, AnyRow ws) ∧ X.length ≤ 1 ∧ (X = [] ∨ ∃ x, BadRow x ∧ X = [x]) := by
  rcases h with rfl | ⟨x, hx, rfl⟩
  · exact ⟨fun w hw => (by cases hw), by decide, .inl rfl⟩
  · have b := rowB_bad (badTail_f x hx)
    exact ⟨fun w hw => by rw [List.mem_singleton.mp hw]; exact b.any, Nat.le_refl _, .inr ⟨x, b, rfl⟩⟩
theorem badT_lines {H : Hp} {t : Addr} (h : BadLines H t) : ∃ (a : Addr) (k : Nat), H t = some (.tup [.ref a, .int ((k : Int) + 1)]) ∧ BadT H a k := by
  obtain ⟨a, rss, k, ht, ha, an, hl, hb⟩ := h
  refine ⟨a, k, ht, rss.map (Txt.join zSp), ha, by rw [List.length_map]; omega, fun l hl' => ?_, fun X hX => ?_⟩
  · obtain ⟨ws, hw, rfl⟩ := List.mem_map.mp hl'
    have := (an ws hw).len
    omega
  · obtain ⟨x1, x2, x3⟩ := tail_any hX
    rw [← List.map_append]
    refine bad_text (fun ws hw => ?_) ?_ ?_ (hb X x3)
    · rcases List.mem_append.mp hw with q | q
      · exact an ws q
      · exact x1 ws q
    · rw [List.length_append]; omega
    · intro e
      have q := congrArg List.length e
      rw [List.length_append, List.length_nil] at q
      omega
theorem badT_one {H : Hp} {a : Addr} {d : Int} {ks ps : List Str} {rs : List RoadD} {bs : List (Str × Str)} (ok : PartsOk d ks ps rs bs) {k : Nat} (hk : k < (mapL d ks ps rs bs).length) {z : Str} (hz : Brk z)
    (h : H a = some (.lst (((mapL d ks ps rs bs).take k ++ [z] ++ (mapL d ks ps rs bs).drop (k + 1)).map V.str))) : BadT H a k := by
  obtain ⟨m1, m2⟩ := mapL_len ok
  refine ⟨_, h, ?_, fun l hl => ?_, fun X hX => ?_⟩
  · simp only [List.length_append, List.length_take, List.length_drop, List.length_cons, List.length_nil]; omega
  · rcases List.mem_append.mp hl with q | q
    · rcases List.mem_append.mp q with q | q
      · have := m2 l (List.mem_of_mem_take q); omega
      · rw [List.mem_singleton.mp q]
        obtain ⟨ws, rfl, hb⟩ := hz
        have := hb.any.len
        omega
    · have := m2 l (List.mem_of_mem_drop q); omega
  · obtain ⟨x1, x2, _⟩ := tail_any hX
    exact broken_text ok hk hz x1 x2
theorem bad_empty : BadText (Txt.join zNl [Str.ofString ""]) [Str.ofString ""] 0 := by
  have b := rowB_bad (badTail_f [Str.ofString ""] (by decide +kernel))
  have q := bad_text (rss := [[Str.ofString ""]]) (k := 0) (fun ws hw => by rw [List.mem_singleton.mp hw]; exact b.any) (by decide) (by simp) ⟨fun j hj => absurd hj (by omega), .inl ⟨by decide, b.d.can rfl⟩⟩
  have e : [[Str.ofString ""]].map (Txt.join zSp) = [Str.ofString ""] := by decide +kernel
  rw [e] at q
  exact q
section
variable {Pg : Program} {w : World} {K : PySem.W.Frag} {mg : Str → Option Value} {base : Heap} {C P Pa Ph Pn IP : Addr}
theorem scLaw : FnScope nLaw ["script"] (defScope sLaw) := ⟨rfl, rfl, rfl, by decide +kernel, rfl, by decide +kernel, by decide +kernel⟩
theorem ok_law {f fNu fPa fFr fLi fTo fBk fOr fSa fPs M : Addr} {fdNu fdPa fdFr fdLi fdTo fdBk fdOr fdSa fdPs : FuncData} {dV kV doc pm cdv ct oc : Value} {an od : Option Addr} {osl : Array (Option Value)}
    (lk : K.lookup f = some ⟨oc, od, .func (PySem.W.fnOf "law" "law" (defArgs sLaw) (defBody sLaw) (defScope sLaw) dV kV doc pm an cdv ct), osl⟩) (hcd : PySem.W.codeIn K cdv "law" = true)
    (hb : ∀ (s : Shared) (u : Value), BindsTo s (PySem.W.fnOf "law" "law" (defArgs sLaw) (defBody sLaw) (defScope sLaw) dV kV doc pm an cdv ct) ⟨[u], []⟩ [("script", u)])
    (hi : mg "int" = none) (hl : mg "len" = none)
    (GNu : FnOk Pg w K mg base CX0 2 fNu fdNu ["script", "many"] (spNumbers K P)) (gNu : mg "_law_numbers" = some (.ref fNu)) (kNu : PySem.W.keepIn K (.ref fNu) = true) (bNu : Binds K fdNu ["script", "many"] [])
    (GPa : FnOk Pg w K mg base CX0 4 fPa fdPa ["numbers"] (spLParts K P)) (gPa : mg "_law_parts" = some (.ref fPa)) (kPa : PySem.W.keepIn K (.ref fPa) = true) (bPa : Binds K fdPa ["numbers"] [])
    (GFr : FnOk Pg w K mg base CX0 1 fFr fdFr ["parts"] (spLFrozen K P)) (gFr : mg "_law_frozen" = some (.ref fFr)) (kFr : PySem.W.keepIn K (.ref fFr) = true) (bFr : Binds K fdFr ["parts"] [])
    (GLi : FnOk Pg w K mg base CX0 2 fLi fdLi ["parts"] (spLLinesG K P)) (gLi : mg "_law_lines" = some (.ref fLi)) (kLi : PySem.W.keepIn K (.ref fLi) = true) (bLi : Binds K fdLi ["parts"] [])
    (GTo : FnOk Pg w K mg base CX0 10 fTo fdTo ["lines"] (spTold P Pa Pn Ph)) (gTo : mg "_law_told" = some (.ref fTo)) (kTo : PySem.W.keepIn K (.ref fTo) = true) (bTo : Binds K fdTo ["lines"] [])
    (GBk : FnOk Pg w K mg base CX0 3 fBk fdBk ["line", "fault", "number", "place"] (spBroken P)) (gBk : mg "_law_broken" = some (.ref fBk)) (kBk : PySem.W.keepIn K (.ref fBk) = true) (bBk : Binds K fdBk ["line", "fault", "number", "place"] [])
    (GOr : FnOk Pg w K mg base CX0 1 fOr fdOr ["parts", "lines", "fault", "number"] (spOrder P)) (gOr : mg "_law_order" = some (.ref fOr)) (kOr : PySem.W.keepIn K (.ref fOr) = true) (bOr : Binds K fdOr ["parts", "lines", "fault", "number"] [])
    (GSa : FnOk Pg w K mg base CX0 1 fSa fdSa ["chart", "due"] (spLSame K M P)) (gSa : mg "_law_same" = some (.ref fSa)) (kSa : PySem.W.keepIn K (.ref fSa) = true) (bSa : Binds K fdSa ["chart", "due"] [])
    (GPs : FnOk Pg w K mg base (L2.CX Pg w) 9 fPs fdPs ["text"] (spParseB K M C IP P Pa Pn Ph)) (gPs : mg "parse_map" = some (.ref fPs)) (kPs : PySem.W.keepIn K (.ref fPs) = true) (bPs : Binds K fdPs ["text"] []) :
    RunG Pg w K mg base (L2.CX Pg w) f (spLaw K P Pa Ph Pn) := by
  refine runG_of lk hcd scLaw hb ⟨rfl, by decide, by decide⟩ fun s H a Q E h => ?_
  obtain ⟨a1, zs, ea, hS, hz, hP, hPa, hPh, hPn, kQ⟩ := h
  cases ea
  have hr : Room 11 (callerA.deeper (envOfC "law" (defScope sLaw) s.heap.objs.size f cdv)) := room11
  refine ⟨_, (pss_cons (ps_set (i := 1) scLaw.nd rfl (Or.inl rfl) (pe_call GNu (hr.mono (by decide)) (by rfl) gNu kNu bNu .nil pass0 (pa_cons (pv 0) (pa_cons pe_int pa_nil))))
      (pss_cons (ps_set (i := 2) scLaw.nd rfl (Or.inl rfl) (pe_call GPa (hr.mono (by decide)) (by rfl) gPa kPa bPa .nil pass0 (pa_cons (pv 1) pa_nil)))
      (pss_cons (ps_set (i := 3) scLaw.nd rfl (Or.inl rfl) (pe_call GFr (hr.mono (by decide)) (by rfl) gFr kFr bFr .nil pass0 (pa_cons (pv 2) pa_nil)))
      (pss_cons (ps_set (i := 4) scLaw.nd rfl (Or.inl rfl) (pe_call GLi (hr.mono (by decide)) (by rfl) gLi kLi bLi .nil pass0 (pa_cons (pv 3) pa_nil)))
      (pss_cons (ps_if (pt_cmpR op_ne (pe_call GTo (hr.mono (by decide)) (by rfl) gTo kTo bTo .nil pass0 (pa_cons (pv 4) pa_nil)) pe_int (nomark _)) (pss_one (ps_ret pe_bl))
        pss_nil)
      (pss_cons (ps_set (i := 5) scLaw.nd rfl (Or.inl rfl) (pe_op op_mod (pe_callTy (r := rInt1) call_int1 (by rfl) hi (by decide +kernel) (pa_cons (pe_ix (r := rIxL K) ix_list (pv 1) pe_int (fun _ _ => rfl)) pa_nil)) pe_int))
      (pss_cons (ps_set (i := 6) scLaw.nd rfl (Or.inl rfl) (pe_op op_mod (pe_callTy (r := rInt1) call_int1 (by rfl) hi (by decide +kernel) (pa_cons (pe_ix (r := rIxL K) ix_list (pv 1) pe_int (fun _ _ => rfl)) pa_nil)) (pe_callB (r := rLenK K) call_len_seq (by rfl) hl PySem.boot_len (pa_cons (pv 4) pa_nil))))
      (pss_cons (ps_set (i := 7) scLaw.nd rfl (Or.inl rfl) (pe_callTy (r := rInt1) call_int1 (by rfl) hi (by decide +kernel) (pa_cons (pe_ix (r := rIxL K) ix_list (pv 1) pe_int (fun _ _ => rfl)) pa_nil)))
      (C8.pss_cut (ps_set (i := 8) scLaw.nd rfl (Or.inl rfl) (pe_op op_cat (pe_op op_cat (pe_slice sl_list (pv 4) po_none (po_some (pv 6))) (pe_lst (pa_cons (pe_call GBk (hr.mono (by decide)) (by rfl) gBk kBk bBk .nil pass0 (pa_cons (pe_ix (r := rIxL K) ix_list (pv 4) (pv 6) (fun _ _ => rfl)) (pa_cons (pv 5) (pa_cons (pv 7) (pa_cons (pe_callTy (r := rInt1) call_int1 (by rfl) hi (by decide +kernel) (pa_cons (pe_ix (r := rIxL K) ix_list (pv 1) pe_int (fun _ _ => rfl)) pa_nil)) pa_nil))))) pa_nil))) (pe_slice sl_list (pv 4) (po_some (pe_op op_add (pv 6) pe_int)) po_none)))
      (pss_cons (ps_set (i := 9) scLaw.nd rfl (Or.inl rfl) (pe_op op_add (pv 6) pe_int))
      (C8.pss_cut (ps_if (pt_cmpR op_ge (pv 5) pe_int (nomark _)) (pss_one (ps_asg (pe_call GOr (hr.mono (by decide)) (by rfl) gOr kOr bOr .nil pass0 (pa_cons (pv 2) (pa_cons (pv 4) (pa_cons (pe_op op_sub (pv 5) pe_int) (pa_cons (pv 7) pa_nil))))) (pg_tup (by rfl) (pgs_cons (pg_name (i := 8) scLaw.nd rfl (Or.inl rfl)) (pgs_cons (pg_name (i := 9) scLaw.nd rfl (Or.inl rfl)) pgs_nil)))))
        pss_nil)
      (C8.pss_cut (ps_if (pt_cmpR op_eq (pe_op op_mod (pe_callTy (r := rInt1) call_int1 (by rfl) hi (by decide +kernel) (pa_cons (pe_ix (r := rIxL K) ix_list (pv 1) pe_int (fun _ _ => rfl)) pa_nil)) pe_int) pe_int (nomark _)) (pss_one (ps_set (i := 8) scLaw.nd rfl (Or.inl rfl) (pe_op op_cat (pv 8) (pe_lst (pa_cons (pe_ix (r := rIxL K) ix_list (pe_lst (pa_cons pe_str (pa_cons pe_str (pa_cons pe_str (pa_cons pe_str pa_nil))))) (pe_op op_mod (pe_op op_fdiv (pe_callTy (r := rInt1) call_int1 (by rfl) hi (by decide +kernel) (pa_cons (pe_ix (r := rIxL K) ix_list (pv 1) pe_int (fun _ _ => rfl)) pa_nil)) pe_int) pe_int) (fun _ _ => rfl)) pa_nil)))))
        pss_nil)
      (pss_cons (ps_if (PW.pt (pw_or (pt_cmpR op_ne (pe_call GTo (hr.mono (by decide)) (by rfl) gTo kTo bTo .nil pass0 (pa_cons (pv 8) pa_nil)) (pv 9) (nomark _)) (pw_or1 (pt_cmpR op_ne (pe_call GTo (hr.mono (by decide)) (by rfl) gTo kTo bTo .nil pass0 (pa_cons (pe_lst (pa_cons pe_str pa_nil)) pa_nil)) pe_int (nomark _))))) (pss_one (ps_ret pe_bl))
        pss_nil)
      (pss_one (ps_ret (pe_and (pe_cmpR op_eq (pe_call GTo (hr.mono (by decide)) (by rfl) gTo kTo bTo .nil pass0 (pa_cons (pv 4) pa_nil)) pe_int (nomark _)) (pe_one (pe_call GSa (hr.mono (by decide)) (by rfl) gSa kSa bSa .nil pass0 (pa_cons (pe_call (E := E0) GPs (hr.mono (by decide)) (by rfl) gPs kPs bPs .nil (passF rfl rfl) (pa_cons (pe_join pe_str (pv 4)) pa_nil)) (pa_cons (pv 3) pa_nil)))))))))))))))))))), ?_⟩
  refine ⟨_, rfl, a, zs, 156, rfl, hS, hz, by decide, hP, fun H1 N ns g1 nN hN hlen hsm => ?_⟩
  refine ⟨_, rfl, N, ns, rfl, SqL.of hN, hsm, by omega, by omega, g1.tab, fun H2 p d ks ps rs bs g2 np hp2 ok _ _ _ => ?_⟩
  have nd := ok.r.nd
  refine ⟨_, rfl, p, d, ks, ps, rs, bs, rfl, hp2, ok, g2.tab, fun H3 q ks' ps' rs' bs' g3 nq S1 hq3 => ?_⟩
  have hp3 := hp2.grew g3 g2.tab
  have tx := ok.txt.srt S1
  have ok' := partsOk_srt ok S1
  have g03 := g1.trans (g2.trans g3)
  refine ⟨_, rfl, q, d, ks', ps', rs', bs', rfl, hq3.g, ok'.linesF, g3.tab, fun H4 L g4 nL hL => ?_⟩
  obtain ⟨T, eT⟩ : ∃ T, T = mapL d ks' ps' rs' bs' := ⟨_, rfl⟩
  obtain ⟨m1, m2⟩ := mapL_len ok'
  have m3 : 3 ≤ (mapL d ks' ps' rs' bs').length := by unfold mapL; simp
  rw [← eT] at hL m1 m2 m3
  have g04 := g03.trans g4
  have t0 : Tab4 H P Pa Pn Ph := ⟨hP, hPa, hPn, hPh⟩
  refine ⟨_, rfl, L, T, rfl, hL, by omega, fun l hl => Nat.le_trans (m2 l hl) (by decide), t0.grew g04, .inl ⟨d, ks', ps', rs', bs', eT, ok'.form, ok', fun H5 g5 => ?_⟩⟩
  have g05 := g04.trans g5
  have hL5 := g5.lst g04.tab hL
  have hN5 : H5 N = some (.lst (ns.map V.int)) := (g2.trans (g3.trans (g4.trans g5))).lst g1.tab hN
  have hp5 := hp3.grew (g4.trans g5) g03.tab
  have hq5 := hq3.grew (g4.trans g5) g03.tab
  refine ⟨rfl, _, rfl, if_f rfl ?_⟩
  obtain ⟨n0, en0, z0, _⟩ := num_at hsm (k := 150) (by omega)
  obtain ⟨n1, en1, z1, _⟩ := num_at hsm (k := 151) (by omega)
  obtain ⟨n2, en2, z2, _⟩ := num_at hsm (k := 152) (by omega)
  obtain ⟨n3, en3, z3, _⟩ := num_at hsm (k := 153) (by omega)
  obtain ⟨n4, en4, z4, _⟩ := num_at hsm (k := 154) (by omega)
  have sN : ∀ {H' : Hp}, Grew P H5 H' → SqL K H' N (ns.map V.int) := fun g => SqL.of (g.lst g05.tab hN5)
  refine ⟨_, rfl, N, _, 150, .int n0, rfl, rfl, sN (Grew.refl g05.tab), en0, .inl ⟨n0, rfl, _, _, rfl, rfl, (show (0 : Int) < 21 by decide), ?_⟩⟩
  dsimp only []
  refine ⟨_, rfl, N, _, 151, .int n1, rfl, rfl, sN (Grew.refl g05.tab), en1, .inl ⟨n1, rfl, _, rfl, L, _, rfl, .inl (SqL.of hL5), _, _, rfl, rfl, (by rw [List.length_map]; omega), ?_⟩⟩
  dsimp only []
  rw [List.length_map]
  obtain ⟨m, em, hm⟩ : ∃ m : Nat, n1 % (T.length : Int) = (m : Int) ∧ m < T.length := by
    have q0 := Int.emod_nonneg n1 (show (T.length : Int) ≠ 0 by omega)
    have q1 := Int.emod_lt_of_pos n1 (show (0 : Int) < (T.length : Int) by omega)
    exact ⟨(n1 % (T.length : Int)).toNat, by omega, by omega⟩
  rw [em]
  refine ⟨_, rfl, N, _, 152, .int n2, rfl, rfl, sN (Grew.refl g05.tab), en2, .inl ⟨n2, rfl, ?_⟩⟩
  have mr := rows_mrow ok' ok'.form
  have er : T = (rowsL d ks' ps' rs' bs').map (Txt.join zSp) := by rw [eT, mapL_rows]
  obtain ⟨ls, els⟩ : ∃ ls : List V, ls = T.map V.str := ⟨_, rfl⟩
  have hls : ls.length = T.length := by rw [els, List.length_map]
  have hL5' : H5 L = some (.lst ls) := by rw [els]; exact hL5
  obtain ⟨ws, hws⟩ : ∃ ws, (rowsL d ks' ps' rs' bs')[m]? = some ws := ⟨_, List.getElem?_eq_getElem (by rw [er, List.length_map] at hm; exact hm)⟩
  have hwT : T[m]? = some (Txt.join zSp ws) := by rw [er, List.getElem?_map, hws]; rfl
  have hwl : ls[m]? = some (.str (Txt.join zSp ws)) := by rw [els, List.getElem?_map, hwT]; rfl
  have hwm := mr ws (List.mem_of_getElem? hws)
  refine ⟨fun σ H' => ∃ B : Addr, σ = [some (.ref a), some (.ref N), some (.ref p), some (.ref q), some (.ref L), some (.int (n0 % 21)), some (.int (m : Int)), some (.int n2), some (.ref B), none] ∧ Grew P H5 H' ∧ BadT H' B m, ?_, ?_⟩
  · refine ⟨_, rfl, _, rfl, _, rfl, L, _, rfl, SqL.of hL5', fun U1 u1 => ?_⟩
    rw [cutV_pre']
    have gA := Grew.new g05.tab (o := .lst (ls.take m)) u1
    refine ⟨_, rfl, _, rfl, L, _, _, .str (Txt.join zSp ws), rfl, rfl, SqL.of (gA.lst g05.tab hL5'), atI_nat hwl, _, rfl, _, rfl, _, rfl, N, _, 153, .int n3, rfl, rfl, sN gA, en3, .inl ⟨n3, rfl, ws, n0 % 21, n2, n3, rfl, hwm, gA.tab, fun H6 z g6 bz => ?_⟩⟩
    have gB := gA.trans g6
    refine ⟨(show 1 ≤ sizeLine by decide), fun U2 u2 => ?_⟩
    have gC := Grew.new gB.tab (o := .lst [V.str z]) u2
    refine ⟨U1, U2, _, _, rfl, rfl, (g6.trans gC).lst gA.tab upd_same, upd_same, (by rw [List.length_take, sizeLine_eq]; show _ + 1 ≤ _; omega), fun U3 u3 => ?_⟩
    have gD := Grew.new gC.tab (o := .lst (ls.take m ++ [V.str z])) u3
    have gAD := gB.trans (gC.trans gD)
    refine ⟨_, rfl, _, rfl, _, _, rfl, rfl, _, rfl, L, _, rfl, SqL.of (gAD.lst g05.tab hL5'), fun U4 u4 => ?_⟩
    dsimp only []
    rw [show (m : Int) + 1 = ((m + 1 : Nat) : Int) from rfl, cutV_suf]
    have gE := Grew.new gD.tab (o := .lst (ls.drop (m + 1))) u4
    refine ⟨U3, U4, _, _, rfl, rfl, gE.lst gD.tab upd_same, upd_same, (by rw [List.length_append, List.length_take, List.length_drop, sizeLine_eq]; show _ + 1 + _ ≤ _; omega), fun U5 u5 => ?_⟩
    have gF := Grew.new gE.tab (o := .lst (ls.take m ++ [V.str z] ++ ls.drop (m + 1))) u5
    refine ⟨U5, rfl, gAD.trans (gE.trans gF), badT_one ok' (by rw [← eT]; exact hm) bz ?_⟩
    rw [← eT]
    have el : (T.take m ++ [z] ++ T.drop (m + 1)).map V.str = ls.take m ++ [V.str z] ++ ls.drop (m + 1) := by
      rw [els]
      simp [List.map_append, List.map_take, List.map_drop]
    rw [el]
    exact upd_same
  rintro σ H6 ⟨B, eσ, g56, hB⟩
  rw [eσ]
  refine ⟨_, rfl, _, _, rfl, rfl, ?_⟩
  dsimp only []
  obtain ⟨qn, eqn, qlt, qge⟩ : ∃ z : Int, z = n0 % 21 ∧ z < 21 ∧ 0 ≤ z := ⟨_, rfl, by omega, by omega⟩
  rw [← eqn]
  have g06 := g05.trans g56
  have hrl : rs.length = rs'.length := by
    obtain ⟨l, pm, pk⟩ := S1.r
    rw [← pm.length_eq]
    exact Paired.len pk
  refine ⟨fun σ H' => ∃ (B : Addr) (k : Nat), σ = [some (.ref a), some (.ref N), some (.ref p), some (.ref q), some (.ref L), some (.int qn), some (.int (m : Int)), some (.int n2), some (.ref B), some (.int ((k : Int) + 1))] ∧ Grew P H5 H' ∧ BadT H' B k, ?_, ?_⟩
  · refine ⟨_, rfl, _, _, rfl, rfl, _, rfl, ?_⟩
    by_cases c : 14 ≤ qn
    case neg => exact if_f (decide_eq_false c) ⟨B, m, rfl, g56, hB⟩
    refine if_t (decide_eq_true c) ?_
    refine ⟨_, rfl, _, rfl, _, rfl, _, _, rfl, rfl, _, rfl, p, L, qn - 14, n2, d, d, ks, ps, ks', ps', rs, rs', bs, bs', rfl, hp5.grew g56 g05.tab, hrl, S1.b.length_eq.symm, (by rw [← eT]; exact g56.lst g05.tab hL5), ok', by omega, z2, g06.tab, fun H7 t g7 hBL => ?_⟩
    obtain ⟨B2, k, ht, hB2⟩ := badT_lines hBL
    exact ⟨t, _, rfl, SqT.of ht, rfl, _, _, rfl, _, _, rfl, rfl, B2, k, rfl, g56.trans g7, hB2⟩
  rintro σ H7 ⟨B2, k, eσ2, g57, hB2⟩
  rw [eσ2]
  have g07 := g05.trans g57
  refine ⟨fun σ H' => ∃ B : Addr, σ = [some (.ref a), some (.ref N), some (.ref p), some (.ref q), some (.ref L), some (.int qn), some (.int (m : Int)), some (.int n2), some (.ref B), some (.int ((k : Int) + 1))] ∧ Grew P H5 H' ∧ ∃ ls : List Str, H' B = some (.lst (ls.map V.str)) ∧ ls.length ≤ 900 ∧ (∀ l ∈ ls, l.length ≤ 1000) ∧ BadText (Txt.join zNl ls) ls k, ?_, ?_⟩
  · obtain ⟨bl, hbl, l1, l2, hX⟩ := hB2
    refine ⟨_, rfl, N, _, 154, .int n4, rfl, rfl, sN g57, en4, .inl ⟨n4, rfl, _, _, rfl, rfl, (show (0 : Int) < 3 by decide), rfl, _, rfl, ?_⟩⟩
    by_cases c : n4 % 3 = 1
    case neg =>
      refine if_f (decide_eq_false fun e => c (by injection e)) ⟨B2, rfl, g57, bl, hbl, by omega, fun l hl' => Nat.le_trans (l2 l hl') (by decide), ?_⟩
      have q := hX [] (.inl rfl)
      rw [List.map_nil, List.append_nil] at q
      exact q
    refine if_t (decide_eq_true (congrArg V.int c)) ?_
    obtain ⟨v, ev, hv⟩ := atI_mod (xs := tlsS.map V.str) (n := n4 / 3) (by decide)
    obtain ⟨y, hy, rfl⟩ := List.mem_map.mp hv
    rw [← tlsS_e] at hy
    obtain ⟨x, hx, rfl⟩ := List.mem_map.mp hy
    refine ⟨_, rfl, (show 4 ≤ sizeLine by decide), fun U1 u1 => ?_⟩
    have gA := Grew.new g07.tab (o := .lst (tlsS.map V.str)) u1
    refine ⟨_, rfl, N, _, 154, .int n4, rfl, rfl, sN (g57.trans gA), en4, .inl ⟨n4, rfl, _, _, rfl, rfl, ⟨by decide, by decide⟩, _, _, rfl, rfl, (show (0 : Int) < 4 by decide), U1, _, _, _, rfl, rfl, SqL.of upd_same, ev, (show 1 ≤ sizeLine by decide), fun U2 u2 => ?_⟩⟩
    have gB := Grew.new gA.tab (o := .lst [V.str (Txt.join zSp x)]) u2
    refine ⟨B2, U2, _, _, rfl, rfl, (gA.trans gB).lst g07.tab hbl, upd_same, (by rw [List.length_map, sizeLine_eq]; show _ + 1 ≤ _; omega), fun U3 u3 => ?_⟩
    have gC := Grew.new gB.tab (o := .lst (bl.map V.str ++ [V.str (Txt.join zSp x)])) u3
    refine ⟨U3, rfl, g57.trans (gA.trans (gB.trans gC)), bl ++ [Txt.join zSp x], by rw [List.map_append]; exact upd_same, by rw [List.length_append, List.length_singleton]; omega, fun l hl' => ?_, hX [x] (.inr ⟨x, hx, rfl⟩)⟩
    rcases List.mem_append.mp hl' with q | q
    · exact Nat.le_trans (l2 l q) (by decide)
    · rw [List.mem_singleton.mp q]
      have := (rowB_bad (badTail_f x hx)).any.len
      omega
  rintro σ H8 ⟨B3, eσ3, g58, bl, hbl, l1, l2, hb3⟩
  rw [eσ3]
  have g08 := g05.trans g58
  refine ⟨_, rfl, B3, bl, rfl, hbl, l1, l2, t0.grew g08, .inr ⟨k, hb3, fun H9 g9 => ?_⟩⟩
  have g09 := g08.trans g9
  refine ⟨_, rfl, rfl, _, rfl, if_f (by simp) ?_⟩
  refine ⟨(show 1 ≤ sizeLine by decide), fun U1 u1 => ?_⟩
  have gA := Grew.new g09.tab (o := .lst [V.str (Str.ofString "")]) u1
  refine ⟨U1, [Str.ofString ""], rfl, upd_same, by decide, fun l hl' => by rw [List.mem_singleton.mp hl']; decide, t0.grew (g09.trans gA), .inr ⟨0, bad_empty, fun HA g10 => ?_⟩⟩
  have gB := g9.trans (gA.trans g10)
  have g0A := g08.trans gB
  have g5A := g58.trans gB
  refine ⟨rfl, _, rfl, if_f rfl ?_⟩
  have hLA := g5A.lst g05.tab hL5
  refine ⟨_, rfl, L, T, rfl, hLA, by omega, fun l hl => Nat.le_trans (m2 l hl) (by decide), t0.grew g0A, .inl ⟨d, ks', ps', rs', bs', eT, ok'.form, ok', fun HC gC => ?_⟩⟩
  refine ⟨rfl, _, rfl, if_t (decide_eq_true rfl) ?_⟩
  have g5C := g5A.trans gC
  have g0C := g0A.trans gC
  refine ⟨⟨_, rfl⟩, _, rfl, _, L, _, rfl, rfl, .inl (SqL.of (gC.lst g0A.tab hLA)), join_room zNl_len m2 m1 (by decide), ?_⟩
  refine .inl ⟨d, ks', ps', rs', bs', by rw [eT]; rfl, ok'.form, t0.grew g0C, fun _ x HD k6 p6 r6 b6 gD nx S6 hm6 => ?_, fun no => absurd ok' no⟩
  obtain ⟨rfl, rfl, rfl, rfl⟩ := Srt.one nd S1 (S1.trans S6)
  exact ⟨_, rfl, x, q, d, ks', ps', rs', bs', rfl, hm6, hq5.grew (g5C.trans gD) g05.tab, tx, kQ _⟩
end
end W

set_option Elab.async false
set_option linter.all false
set_option maxRecDepth 100000
set_option maxHeartbeats 4000000
namespace W
open PySem PySem.Spec PyProof.Rows L2 GxR MyG MyS MyR
theorem exm_two {K : PySem.W.Frag} {A S : Addr} {b : Bool} (h1 : PySem.W.subIn K (.ref S) (.type "BaseException") = some true) (h2 : PySem.W.isClsIn K S = true) (h3 : PySem.W.typeIn K (.ref S) = some (.type "type")) (h4 : PySem.W.subIn K (.ref A) (.ref S) = some b) :
    PySem.W.exmOne K (.ref A) (.ref S) = some b := by
  have e1 : (PySem.W.subIn K (.ref S) (.type "BaseException") == some true) = true := by rw [h1]; rfl
  have e2 : ((PySem.W.clsIn K S).isSome && PySem.W.typeIn K (.ref S) == some (.type "type")) = true := by
    have q : (PySem.W.clsIn K S).isSome = true := h2
    rw [q, h3]; rfl
  show (if (PySem.W.subIn K (.ref S) (.type "BaseException") == some true) = true then (if ((PySem.W.clsIn K S).isSome && PySem.W.typeIn K (.ref S) == some (.type "type")) = true then PySem.W.subIn K (.ref A) (.ref S) else none) else none) = some b
  rw [if_pos e1, if_pos e2, h4]
theorem no_fly {P : Program} (w : World) (H : Hp) (s : Shared) (e : Value) (s' : Shared) (h : L2.CX P w [] H s (fun _ _ _ => False) e s') : False := by
  obtain ⟨_, _, _, _, _, _, _, _, _, _, _, _, q⟩ := h
  exact q
theorem all_mk {l : PySem.W.OpenLaw} {w : World} {K : PySem.W.Frag} {h : Heap} {mg : Str → Option Value} {fa fNm fDy fNa fDf fRs fRd fHr fBr fRw fNu fLp fLn fLc fLh fLr fLq fMp fFz fAn fAh fRo fCl fIr fIp fRp fRh fRr fIh fCs fCf fPs fLl fLi fSa fLt fBw fSp fBk fOr fLw C HD fI M R fXR cdaXR ccXR B P qN qAn PAn qAh PAh qNr PNr fNr TDNr D0 T0 T1 T2 : Addr} (X : K.In h) (G : h.Ns mainGlobals mg) (hfa : mg "law" = some (.ref fa)) (own : ∀ y ∈ ([("is_name" : Str), ("are_names" : Str), ("are_hours" : Str)] : List Str), ∀ f, mg y = some (.ref f) → LamX.OwnTab K f h)
    {odNm anNm : Option Addr} {slNm : Array (Option Value)} {ocNm kVNm dcNm pmNm ctNm : Value}
    {odDy anDy : Option Addr} {slDy : Array (Option Value)} {ocDy kVDy dcDy pmDy cdDy ctDy : Value}
    {odNa anNa : Option Addr} {slNa : Array (Option Value)} {ocNa kVNa dcNa pmNa cdNa ctNa : Value}
    {odDf anDf : Option Addr} {slDf : Array (Option Value)} {ocDf kVDf dcDf pmDf cdDf ctDf : Value}
    {odRs anRs : Option Addr} {slRs : Array (Option Value)} {ocRs kVRs dcRs pmRs cdRs ctRs : Value}
    {odRd anRd : Option Addr} {slRd : Array (Option Value)} {ocRd kVRd dcRd pmRd cdRd ctRd : Value}
    {odHr anHr : Option Addr} {slHr : Array (Option Value)} {ocHr kVHr dcHr pmHr cdHr ctHr : Value}
    {odBr anBr : Option Addr} {slBr : Array (Option Value)} {ocBr kVBr dcBr pmBr cdBr ctBr : Value}
    {odRw anRw : Option Addr} {slRw : Array (Option Value)} {ocRw kVRw dcRw pmRw cdRw ctRw : Value}
    {odNu anNu : Option Addr} {slNu : Array (Option Value)} {ocNu kVNu dcNu pmNu cdNu ctNu : Value}
    {odLp anLp : Option Addr} {slLp : Array (Option Value)} {ocLp kVLp dcLp pmLp cdLp ctLp : Value}
    {odLn anLn : Option Addr} {slLn : Array (Option Value)} {ocLn kVLn dcLn pmLn cdLn ctLn : Value}
    {odLc anLc : Option Addr} {slLc : Array (Option Value)} {ocLc kVLc dcLc pmLc cdLc ctLc : Value}
    {odLh anLh : Option Addr} {slLh : Array (Option Value)} {ocLh kVLh dcLh pmLh cdLh ctLh : Value}
    {odLr anLr : Option Addr} {slLr : Array (Option Value)} {ocLr kVLr dcLr pmLr cdLr ctLr : Value}
    {odLq anLq : Option Addr} {slLq : Array (Option Value)} {ocLq kVLq dcLq pmLq cdLq ctLq : Value}
    {odMp anMp : Option Addr} {slMp : Array (Option Value)} {ocMp kVMp dcMp pmMp cdMp ctMp : Value}
    {odFz anFz : Option Addr} {slFz : Array (Option Value)} {ocFz kVFz dcFz pmFz cdFz ctFz : Value}
    {odAn anAn : Option Addr} {slAn : Array (Option Value)} {ocAn kVAn dcAn pmAn ctAn : Value}
    {odAh anAh : Option Addr} {slAh : Array (Option Value)} {ocAh kVAh dcAh pmAh ctAh : Value}
    {odRo anRo : Option Addr} {slRo : Array (Option Value)} {ocRo kVRo dcRo pmRo cdRo ctRo : Value}
    {odCl anCl : Option Addr} {slCl : Array (Option Value)} {ocCl kVCl dcCl pmCl cdCl ctCl : Value}
    {odIr anIr : Option Addr} {slIr : Array (Option Value)} {ocIr kVIr dcIr pmIr cdIr ctIr : Value}
    {odIp anIp : Option Addr} {slIp : Array (Option Value)} {ocIp kVIp dcIp pmIp cdIp ctIp : Value}
    {odRp anRp : Option Addr} {slRp : Array (Option Value)} {ocRp kVRp dcRp pmRp cdRp ctRp : Value}
    {odRh anRh : Option Addr} {slRh : Array (Option Value)} {ocRh kVRh dcRh pmRh cdRh ctRh : Value}
    {odRr anRr : Option Addr} {slRr : Array (Option Value)} {ocRr kVRr dcRr pmRr cdRr ctRr : Value}
    {odIh anIh : Option Addr} {slIh : Array (Option Value)} {ocIh kVIh dcIh pmIh cdIh ctIh : Value}
    {odCs anCs : Option Addr} {slCs : Array (Option Value)} {ocCs kVCs dcCs pmCs cdCs ctCs : Value}
    {odCf anCf : Option Addr} {slCf : Array (Option Value)} {ocCf kVCf dcCf pmCf cdCf ctCf : Value}
    {odPs anPs : Option Addr} {slPs : Array (Option Value)} {ocPs kVPs dcPs pmPs cdPs ctPs : Value}
    {odLl anLl : Option Addr} {slLl : Array (Option Value)} {ocLl kVLl dcLl pmLl cdLl ctLl : Value}
    {odLi anLi : Option Addr} {slLi : Array (Option Value)} {ocLi kVLi dcLi pmLi cdLi ctLi : Value}
    {odSa anSa : Option Addr} {slSa : Array (Option Value)} {ocSa kVSa dcSa pmSa cdSa ctSa : Value}
    {odLt anLt : Option Addr} {slLt : Array (Option Value)} {ocLt kVLt dcLt pmLt cdLt ctLt : Value}
    {odBw anBw : Option Addr} {slBw : Array (Option Value)} {ocBw kVBw dcBw pmBw cdBw ctBw : Value}
    {odSp anSp : Option Addr} {slSp : Array (Option Value)} {ocSp kVSp dcSp pmSp cdSp ctSp : Value}
    {odBk anBk : Option Addr} {slBk : Array (Option Value)} {ocBk kVBk dcBk pmBk cdBk ctBk : Value}
    {odOr anOr : Option Addr} {slOr : Array (Option Value)} {ocOr kVOr dcOr pmOr cdOr ctOr : Value}
    {odLw anLw : Option Addr} {slLw : Array (Option Value)} {ocLw kVLw dcLw pmLw cdLw ctLw : Value}
    {eN : Value} {dN : Option Addr} {vsN : Array Value} {slcN : Array (Option Value)}
    {eAn : Value} {dAn : Option Addr} {vsAn : Array Value} {slcAn : Array (Option Value)}
    {eAh : Value} {dAh : Option Addr} {vsAh : Array Value} {slcAh : Array (Option Value)}
    {odNr anNr odTNr : Option Addr} {slNr slTNr : Array (Option Value)} {ocNr kVNr dcNr pmNr ctNr ocTNr : Value} {nTNr : Nat} {t6Nr : Tok}
    {eNr : Value} {dNr : Option Addr} {vsNr : Array Value} {slcNr : Array (Option Value)}
    {odI anI : Option Addr} {slI : Array (Option Value)} {ocI dcI pmI cdI ctI : Value}
    {nmR qR : Str} {NR : Addr} {bsR bmR : List Value} {snR : List Str} {subR : List Value} {abR : Bool} {colR : Option Bool} {ddR : Option Addr} {x0R x1R x2R x3R x5R : Option Value}
    {odXR anXR cddXR cldXR : Option Addr} {slXR ccsXR cslXR : Array (Option Value)} {ocXR kVXR dcXR pmXR ctXR cclXR clXR : Value} {vsXR : Array Value} {fileXR : Str} {tfXR : Tok}
    {odH : Option Addr} {nH : Nat} {slH : Array (Option Value)} {tH0 tH1 tH2 : Tok}
    {t_LONGEST_NAME t_LONGEST_DAY t_MOST_PLACES t_MOST_KINDS t_MOST_ROADS t_MOST_MINUTES t_MOST_PAIRS t_MOST_BARS t_NAME t_START t_END t_PARTS t_LETTERS t_DIGITS : Tok}
    (aM : PySem.W.nsIn K mainGlobals "Map" = some (some (.ref M)))
    (gR : PySem.W.nsIn K mainGlobals "InvalidNotation" = some (some (.ref R)))
    (gB : PySem.W.nsIn K mainGlobals "WaypapersError" = some (some (.ref B)))
    (aNm : PySem.W.nsIn K mainGlobals "is_name" = some (some (.ref fNm)))
    (lNm : K.lookup fNm = some ⟨ocNm, odNm, .func (PySem.W.fnOf "is_name" "is_name" (defArgs sIsName) (defBody sIsName) (defScope sIsName) .none kVNm dcNm pmNm anNm (.ref qN) ctNm), slNm⟩)
    (cNm : PySem.W.codeIn K (.ref qN) "is_name" = true)
    (kNm : PySem.W.keepIn K (.ref fNm) = true)
    (aDy : PySem.W.nsIn K mainGlobals "_checked_day" = some (some (.ref fDy)))
    (lDy : K.lookup fDy = some ⟨ocDy, odDy, .func (PySem.W.fnOf "_checked_day" "_checked_day" (defArgs sDay) (defBody sDay) (defScope sDay) .none kVDy dcDy pmDy anDy (cdDy) ctDy), slDy⟩)
    (cDy : PySem.W.codeIn K (cdDy) "_checked_day" = true)
    (kDy : PySem.W.keepIn K (.ref fDy) = true)
    (aNa : PySem.W.nsIn K mainGlobals "_checked_names" = some (some (.ref fNa)))
    (lNa : K.lookup fNa = some ⟨ocNa, odNa, .func (PySem.W.fnOf "_checked_names" "_checked_names" (defArgs sNames) (defBody sNames) (defScope sNames) .none kVNa dcNa pmNa anNa (cdNa) ctNa), slNa⟩)
    (cNa : PySem.W.codeIn K (cdNa) "_checked_names" = true)
    (kNa : PySem.W.keepIn K (.ref fNa) = true)
    (aDf : PySem.W.nsIn K mainGlobals "_check_different" = some (some (.ref fDf)))
    (lDf : K.lookup fDf = some ⟨ocDf, odDf, .func (PySem.W.fnOf "_check_different" "_check_different" (defArgs sDiff) (defBody sDiff) (defScope sDiff) .none kVDf dcDf pmDf anDf (cdDf) ctDf), slDf⟩)
    (cDf : PySem.W.codeIn K (cdDf) "_check_different" = true)
    (kDf : PySem.W.keepIn K (.ref fDf) = true)
    (aRs : PySem.W.nsIn K mainGlobals "_checked_roads" = some (some (.ref fRs)))
    (lRs : K.lookup fRs = some ⟨ocRs, odRs, .func (PySem.W.fnOf "_checked_roads" "_checked_roads" (defArgs sRoads) (defBody sRoads) (defScope sRoads) .none kVRs dcRs pmRs anRs (cdRs) ctRs), slRs⟩)
    (cRs : PySem.W.codeIn K (cdRs) "_checked_roads" = true)
    (kRs : PySem.W.keepIn K (.ref fRs) = true)
    (aRd : PySem.W.nsIn K mainGlobals "_checked_road" = some (some (.ref fRd)))
    (lRd : K.lookup fRd = some ⟨ocRd, odRd, .func (PySem.W.fnOf "_checked_road" "_checked_road" (defArgs sRoad) (defBody sRoad) (defScope sRoad) .none kVRd dcRd pmRd anRd (cdRd) ctRd), slRd⟩)
    (cRd : PySem.W.codeIn K (cdRd) "_checked_road" = true)
    (kRd : PySem.W.keepIn K (.ref fRd) = true)
    (aHr : PySem.W.nsIn K mainGlobals "_checked_hours" = some (some (.ref fHr)))
    (lHr : K.lookup fHr = some ⟨ocHr, odHr, .func (PySem.W.fnOf "_checked_hours" "_checked_hours" (defArgs sHours) (defBody sHours) (defScope sHours) .none kVHr dcHr pmHr anHr (cdHr) ctHr), slHr⟩)
    (cHr : PySem.W.codeIn K (cdHr) "_checked_hours" = true)
    (kHr : PySem.W.keepIn K (.ref fHr) = true)
    (aBr : PySem.W.nsIn K mainGlobals "_checked_bars" = some (some (.ref fBr)))
    (lBr : K.lookup fBr = some ⟨ocBr, odBr, .func (PySem.W.fnOf "_checked_bars" "_checked_bars" (defArgs sBars) (defBody sBars) (defScope sBars) .none kVBr dcBr pmBr anBr (cdBr) ctBr), slBr⟩)
    (cBr : PySem.W.codeIn K (cdBr) "_checked_bars" = true)
    (kBr : PySem.W.keepIn K (.ref fBr) = true)
    (aRw : PySem.W.nsIn K mainGlobals "_law_row" = some (some (.ref fRw)))
    (lRw : K.lookup fRw = some ⟨ocRw, odRw, .func (PySem.W.fnOf "_law_row" "_law_row" (defArgs sRow) (defBody sRow) (defScope sRow) .none kVRw dcRw pmRw anRw (cdRw) ctRw), slRw⟩)
    (cRw : PySem.W.codeIn K (cdRw) "_law_row" = true)
    (kRw : PySem.W.keepIn K (.ref fRw) = true)
    (aNu : PySem.W.nsIn K mainGlobals "_law_numbers" = some (some (.ref fNu)))
    (lNu : K.lookup fNu = some ⟨ocNu, odNu, .func (PySem.W.fnOf "_law_numbers" "_law_numbers" (defArgs sNumbers) (defBody sNumbers) (defScope sNumbers) .none kVNu dcNu pmNu anNu (cdNu) ctNu), slNu⟩)
    (cNu : PySem.W.codeIn K (cdNu) "_law_numbers" = true)
    (kNu : PySem.W.keepIn K (.ref fNu) = true)
    (aLp : PySem.W.nsIn K mainGlobals "_law_pick" = some (some (.ref fLp)))
    (lLp : K.lookup fLp = some ⟨ocLp, odLp, .func (PySem.W.fnOf "_law_pick" "_law_pick" (defArgs sLPick) (defBody sLPick) (defScope sLPick) .none kVLp dcLp pmLp anLp (cdLp) ctLp), slLp⟩)
    (cLp : PySem.W.codeIn K (cdLp) "_law_pick" = true)
    (kLp : PySem.W.keepIn K (.ref fLp) = true)
    (aLn : PySem.W.nsIn K mainGlobals "_law_names" = some (some (.ref fLn)))
    (lLn : K.lookup fLn = some ⟨ocLn, odLn, .func (PySem.W.fnOf "_law_names" "_law_names" (defArgs sLNames) (defBody sLNames) (defScope sLNames) .none kVLn dcLn pmLn anLn (cdLn) ctLn), slLn⟩)
    (cLn : PySem.W.codeIn K (cdLn) "_law_names" = true)
    (kLn : PySem.W.keepIn K (.ref fLn) = true)
    (aLc : PySem.W.nsIn K mainGlobals "_law_count" = some (some (.ref fLc)))
    (lLc : K.lookup fLc = some ⟨ocLc, odLc, .func (PySem.W.fnOf "_law_count" "_law_count" (defArgs sLCount) (defBody sLCount) (defScope sLCount) .none kVLc dcLc pmLc anLc (cdLc) ctLc), slLc⟩)
    (cLc : PySem.W.codeIn K (cdLc) "_law_count" = true)
    (kLc : PySem.W.keepIn K (.ref fLc) = true)
    (aLh : PySem.W.nsIn K mainGlobals "_law_hours" = some (some (.ref fLh)))
    (lLh : K.lookup fLh = some ⟨ocLh, odLh, .func (PySem.W.fnOf "_law_hours" "_law_hours" (defArgs sLHours) (defBody sLHours) (defScope sLHours) .none kVLh dcLh pmLh anLh (cdLh) ctLh), slLh⟩)
    (cLh : PySem.W.codeIn K (cdLh) "_law_hours" = true)
    (kLh : PySem.W.keepIn K (.ref fLh) = true)
    (aLr : PySem.W.nsIn K mainGlobals "_law_road" = some (some (.ref fLr)))
    (lLr : K.lookup fLr = some ⟨ocLr, odLr, .func (PySem.W.fnOf "_law_road" "_law_road" (defArgs sLRoad) (defBody sLRoad) (defScope sLRoad) .none kVLr dcLr pmLr anLr (cdLr) ctLr), slLr⟩)
    (cLr : PySem.W.codeIn K (cdLr) "_law_road" = true)
    (kLr : PySem.W.keepIn K (.ref fLr) = true)
    (aLq : PySem.W.nsIn K mainGlobals "_law_bars" = some (some (.ref fLq)))
    (lLq : K.lookup fLq = some ⟨ocLq, odLq, .func (PySem.W.fnOf "_law_bars" "_law_bars" (defArgs sLBars) (defBody sLBars) (defScope sLBars) .none kVLq dcLq pmLq anLq (cdLq) ctLq), slLq⟩)
    (cLq : PySem.W.codeIn K (cdLq) "_law_bars" = true)
    (kLq : PySem.W.keepIn K (.ref fLq) = true)
    (aMp : PySem.W.nsIn K mainGlobals "_law_parts" = some (some (.ref fMp)))
    (lMp : K.lookup fMp = some ⟨ocMp, odMp, .func (PySem.W.fnOf "_law_parts" "_law_parts" (defArgs sLParts) (defBody sLParts) (defScope sLParts) .none kVMp dcMp pmMp anMp (cdMp) ctMp), slMp⟩)
    (cMp : PySem.W.codeIn K (cdMp) "_law_parts" = true)
    (kMp : PySem.W.keepIn K (.ref fMp) = true)
    (aFz : PySem.W.nsIn K mainGlobals "_law_frozen" = some (some (.ref fFz)))
    (lFz : K.lookup fFz = some ⟨ocFz, odFz, .func (PySem.W.fnOf "_law_frozen" "_law_frozen" (defArgs sLFrozen) (defBody sLFrozen) (defScope sLFrozen) .none kVFz dcFz pmFz anFz (cdFz) ctFz), slFz⟩)
    (cFz : PySem.W.codeIn K (cdFz) "_law_frozen" = true)
    (kFz : PySem.W.keepIn K (.ref fFz) = true)
    (aAn : PySem.W.nsIn K mainGlobals "are_names" = some (some (.ref fAn)))
    (lAn : K.lookup fAn = some ⟨ocAn, odAn, .func (PySem.W.fnOf "are_names" "are_names" (defArgs sAreN) (defBody sAreN) (defScope sAreN) .none kVAn dcAn pmAn anAn (.ref qAn) ctAn), slAn⟩)
    (cAn : PySem.W.codeIn K (.ref qAn) "are_names" = true)
    (kAn : PySem.W.keepIn K (.ref fAn) = true)
    (aAh : PySem.W.nsIn K mainGlobals "are_hours" = some (some (.ref fAh)))
    (lAh : K.lookup fAh = some ⟨ocAh, odAh, .func (PySem.W.fnOf "are_hours" "are_hours" (defArgs sAreH) (defBody sAreH) (defScope sAreH) .none kVAh dcAh pmAh anAh (.ref qAh) ctAh), slAh⟩)
    (cAh : PySem.W.codeIn K (.ref qAh) "are_hours" = true)
    (kAh : PySem.W.keepIn K (.ref fAh) = true)
    (aRo : PySem.W.nsIn K mainGlobals "rows_of" = some (some (.ref fRo)))
    (lRo : K.lookup fRo = some ⟨ocRo, odRo, .func (PySem.W.fnOf "rows_of" "rows_of" (defArgs sRowsT) (defBody sRowsT) (defScope sRowsT) .none kVRo dcRo pmRo anRo (cdRo) ctRo), slRo⟩)
    (cRo : PySem.W.codeIn K (cdRo) "rows_of" = true)
    (kRo : PySem.W.keepIn K (.ref fRo) = true)
    (aCl : PySem.W.nsIn K mainGlobals "parts_between_colons" = some (some (.ref fCl)))
    (lCl : K.lookup fCl = some ⟨ocCl, odCl, .func (PySem.W.fnOf "parts_between_colons" "parts_between_colons" (defArgs sCol) (defBody sCol) (defScope sCol) .none kVCl dcCl pmCl anCl (cdCl) ctCl), slCl⟩)
    (cCl : PySem.W.codeIn K (cdCl) "parts_between_colons" = true)
    (kCl : PySem.W.keepIn K (.ref fCl) = true)
    (aIr : PySem.W.nsIn K mainGlobals "is_road" = some (some (.ref fIr)))
    (lIr : K.lookup fIr = some ⟨ocIr, odIr, .func (PySem.W.fnOf "is_road" "is_road" (defArgs sIsRoad) (defBody sIsRoad) (defScope sIsRoad) .none kVIr dcIr pmIr anIr (cdIr) ctIr), slIr⟩)
    (cIr : PySem.W.codeIn K (cdIr) "is_road" = true)
    (kIr : PySem.W.keepIn K (.ref fIr) = true)
    (aIp : PySem.W.nsIn K mainGlobals "_is_pair" = some (some (.ref fIp)))
    (lIp : K.lookup fIp = some ⟨ocIp, odIp, .func (PySem.W.fnOf "_is_pair" "_is_pair" (defArgs sIsPair) (defBody sIsPair) (defScope sIsPair) .none kVIp dcIp pmIp anIp (cdIp) ctIp), slIp⟩)
    (cIp : PySem.W.codeIn K (cdIp) "_is_pair" = true)
    (kIp : PySem.W.keepIn K (.ref fIp) = true)
    (aRp : PySem.W.nsIn K mainGlobals "_read_pair" = some (some (.ref fRp)))
    (lRp : K.lookup fRp = some ⟨ocRp, odRp, .func (PySem.W.fnOf "_read_pair" "_read_pair" (defArgs sReadP) (defBody sReadP) (defScope sReadP) .none kVRp dcRp pmRp anRp (cdRp) ctRp), slRp⟩)
    (cRp : PySem.W.codeIn K (cdRp) "_read_pair" = true)
    (kRp : PySem.W.keepIn K (.ref fRp) = true)
    (aRh : PySem.W.nsIn K mainGlobals "read_hours" = some (some (.ref fRh)))
    (lRh : K.lookup fRh = some ⟨ocRh, odRh, .func (PySem.W.fnOf "read_hours" "read_hours" (defArgs sReadH) (defBody sReadH) (defScope sReadH) .none kVRh dcRh pmRh anRh (cdRh) ctRh), slRh⟩)
    (cRh : PySem.W.codeIn K (cdRh) "read_hours" = true)
    (kRh : PySem.W.keepIn K (.ref fRh) = true)
    (aRr : PySem.W.nsIn K mainGlobals "read_road" = some (some (.ref fRr)))
    (lRr : K.lookup fRr = some ⟨ocRr, odRr, .func (PySem.W.fnOf "read_road" "read_road" (defArgs sReadR) (defBody sReadR) (defScope sReadR) .none kVRr dcRr pmRr anRr (cdRr) ctRr), slRr⟩)
    (cRr : PySem.W.codeIn K (cdRr) "read_road" = true)
    (kRr : PySem.W.keepIn K (.ref fRr) = true)
    (aIh : PySem.W.nsIn K mainGlobals "_is_head" = some (some (.ref fIh)))
    (lIh : K.lookup fIh = some ⟨ocIh, odIh, .func (PySem.W.fnOf "_is_head" "_is_head" (defArgs sIsHead) (defBody sIsHead) (defScope sIsHead) .none kVIh dcIh pmIh anIh (cdIh) ctIh), slIh⟩)
    (cIh : PySem.W.codeIn K (cdIh) "_is_head" = true)
    (kIh : PySem.W.keepIn K (.ref fIh) = true)
    (aCs : PySem.W.nsIn K mainGlobals "_can_stand" = some (some (.ref fCs)))
    (lCs : K.lookup fCs = some ⟨ocCs, odCs, .func (PySem.W.fnOf "_can_stand" "_can_stand" (defArgs sCan) (defBody sCan) (defScope sCan) .none kVCs dcCs pmCs anCs (cdCs) ctCs), slCs⟩)
    (cCs : PySem.W.codeIn K (cdCs) "_can_stand" = true)
    (kCs : PySem.W.keepIn K (.ref fCs) = true)
    (aCf : PySem.W.nsIn K mainGlobals "_check_form" = some (some (.ref fCf)))
    (lCf : K.lookup fCf = some ⟨ocCf, odCf, .func (PySem.W.fnOf "_check_form" "_check_form" (defArgs sForm) (defBody sForm) (defScope sForm) .none kVCf dcCf pmCf anCf (cdCf) ctCf), slCf⟩)
    (cCf : PySem.W.codeIn K (cdCf) "_check_form" = true)
    (kCf : PySem.W.keepIn K (.ref fCf) = true)
    (aPs : PySem.W.nsIn K mainGlobals "parse_map" = some (some (.ref fPs)))
    (lPs : K.lookup fPs = some ⟨ocPs, odPs, .func (PySem.W.fnOf "parse_map" "parse_map" (defArgs sParse) (defBody sParse) (defScope sParse) .none kVPs dcPs pmPs anPs (cdPs) ctPs), slPs⟩)
    (cPs : PySem.W.codeIn K (cdPs) "parse_map" = true)
    (kPs : PySem.W.keepIn K (.ref fPs) = true)
    (aLl : PySem.W.nsIn K mainGlobals "_law_line" = some (some (.ref fLl)))
    (lLl : K.lookup fLl = some ⟨ocLl, odLl, .func (PySem.W.fnOf "_law_line" "_law_line" (defArgs sLLine) (defBody sLLine) (defScope sLLine) .none kVLl dcLl pmLl anLl (cdLl) ctLl), slLl⟩)
    (cLl : PySem.W.codeIn K (cdLl) "_law_line" = true)
    (kLl : PySem.W.keepIn K (.ref fLl) = true)
    (aLi : PySem.W.nsIn K mainGlobals "_law_lines" = some (some (.ref fLi)))
    (lLi : K.lookup fLi = some ⟨ocLi, odLi, .func (PySem.W.fnOf "_law_lines" "_law_lines" (defArgs sLLines) (defBody sLLines) (defScope sLLines) .none kVLi dcLi pmLi anLi (cdLi) ctLi), slLi⟩)
    (cLi : PySem.W.codeIn K (cdLi) "_law_lines" = true)
    (kLi : PySem.W.keepIn K (.ref fLi) = true)
    (aSa : PySem.W.nsIn K mainGlobals "_law_same" = some (some (.ref fSa)))
    (lSa : K.lookup fSa = some ⟨ocSa, odSa, .func (PySem.W.fnOf "_law_same" "_law_same" (defArgs sLSame) (defBody sLSame) (defScope sLSame) .none kVSa dcSa pmSa anSa (cdSa) ctSa), slSa⟩)
    (cSa : PySem.W.codeIn K (cdSa) "_law_same" = true)
    (kSa : PySem.W.keepIn K (.ref fSa) = true)
    (aLt : PySem.W.nsIn K mainGlobals "_law_told" = some (some (.ref fLt)))
    (lLt : K.lookup fLt = some ⟨ocLt, odLt, .func (PySem.W.fnOf "_law_told" "_law_told" (defArgs sTold) (defBody sTold) (defScope sTold) .none kVLt dcLt pmLt anLt (cdLt) ctLt), slLt⟩)
    (cLt : PySem.W.codeIn K (cdLt) "_law_told" = true)
    (kLt : PySem.W.keepIn K (.ref fLt) = true)
    (aBw : PySem.W.nsIn K mainGlobals "_law_bad_word" = some (some (.ref fBw)))
    (lBw : K.lookup fBw = some ⟨ocBw, odBw, .func (PySem.W.fnOf "_law_bad_word" "_law_bad_word" (defArgs sBw) (defBody sBw) (defScope sBw) .none kVBw dcBw pmBw anBw (cdBw) ctBw), slBw⟩)
    (cBw : PySem.W.codeIn K (cdBw) "_law_bad_word" = true)
    (kBw : PySem.W.keepIn K (.ref fBw) = true)
    (aSp : PySem.W.nsIn K mainGlobals "_law_spoilt" = some (some (.ref fSp)))
    (lSp : K.lookup fSp = some ⟨ocSp, odSp, .func (PySem.W.fnOf "_law_spoilt" "_law_spoilt" (defArgs sSp) (defBody sSp) (defScope sSp) .none kVSp dcSp pmSp anSp (cdSp) ctSp), slSp⟩)
    (cSp : PySem.W.codeIn K (cdSp) "_law_spoilt" = true)
    (kSp : PySem.W.keepIn K (.ref fSp) = true)
    (aBk : PySem.W.nsIn K mainGlobals "_law_broken" = some (some (.ref fBk)))
    (lBk : K.lookup fBk = some ⟨ocBk, odBk, .func (PySem.W.fnOf "_law_broken" "_law_broken" (defArgs sBk) (defBody sBk) (defScope sBk) .none kVBk dcBk pmBk anBk (cdBk) ctBk), slBk⟩)
    (cBk : PySem.W.codeIn K (cdBk) "_law_broken" = true)
    (kBk : PySem.W.keepIn K (.ref fBk) = true)
    (aOr : PySem.W.nsIn K mainGlobals "_law_order" = some (some (.ref fOr)))
    (lOr : K.lookup fOr = some ⟨ocOr, odOr, .func (PySem.W.fnOf "_law_order" "_law_order" (defArgs sOr) (defBody sOr) (defScope sOr) .none kVOr dcOr pmOr anOr (cdOr) ctOr), slOr⟩)
    (cOr : PySem.W.codeIn K (cdOr) "_law_order" = true)
    (kOr : PySem.W.keepIn K (.ref fOr) = true)
    (aLw : PySem.W.nsIn K mainGlobals "law" = some (some (.ref fLw)))
    (lLw : K.lookup fLw = some ⟨ocLw, odLw, .func (PySem.W.fnOf "law" "law" (defArgs sLaw) (defBody sLaw) (defScope sLaw) .none kVLw dcLw pmLw anLw (cdLw) ctLw), slLw⟩)
    (cLw : PySem.W.codeIn K (cdLw) "law" = true)
    (kLw : PySem.W.keepIn K (.ref fLw) = true)
    (lcN : K.lookup qN = some ⟨eN, dN, .fields vsN, slcN⟩)
    (v11 : vsN[11]? = some (.ref P))
    (hcN : PySem.W.codeHdIn K qN P = true)
    (nP : K.lookup P = none)
    (lcAn : K.lookup qAn = some ⟨eAn, dAn, .fields vsAn, slcAn⟩)
    (v11An : vsAn[11]? = some (.ref PAn))
    (hcAn : PySem.W.codeHdIn K qAn PAn = true)
    (nPAn : K.lookup PAn = none)
    (lcAh : K.lookup qAh = some ⟨eAh, dAh, .fields vsAh, slcAh⟩)
    (v11Ah : vsAh[11]? = some (.ref PAh))
    (hcAh : PySem.W.codeHdIn K qAh PAh = true)
    (nPAh : K.lookup PAh = none)
    (tabPNr : h.get? PNr = some { cls := .none, data := .fields #[] })
    (aNr : PySem.W.nsIn K mainGlobals "is_number" = some (some (.ref fNr)))
    (lNr : K.lookup fNr = some ⟨ocNr, odNr, .func (PySem.W.fnOf "is_number" "is_number" (defArgs sIsNr) (defBody sIsNr) (defScope sIsNr) (.ref TDNr) kVNr dcNr pmNr anNr (.ref qNr) ctNr), slNr⟩)
    (cNr : PySem.W.codeIn K (.ref qNr) "is_number" = true)
    (kNr : PySem.W.keepIn K (.ref fNr) = true)
    (lTNr : K.lookup TDNr = some ⟨ocTNr, odTNr, .seq #[.int 6 t6Nr] nTNr, slTNr⟩)
    (lcNr : K.lookup qNr = some ⟨eNr, dNr, .fields vsNr, slcNr⟩)
    (v11Nr : vsNr[11]? = some (.ref PNr))
    (hcNr : PySem.W.codeHdIn K qNr PNr = true)
    (nPNr : K.lookup PNr = none)
    (aI : PySem.W.findIn K (.ref M) "__init__" = some (some (.ref fI)))
    (iI : PySem.W.isFn K (.ref fI) = true)
    (lI : K.lookup fI = some ⟨ocI, odI, .func (PySem.W.fnOf "__init__" "Map.__init__" (defArgs sInit) (defBody sInit) (defScope sInit) .none (.ref D0) dcI pmI anI cdI ctI), slI⟩)
    (cI : PySem.W.codeIn K cdI "Map.__init__" = true)
    (kI : PySem.W.keepIn K (.ref fI) = true)
    (d_places : PySem.W.nsIn K D0 "places" = some (some (.ref T1)))
    (d_roads : PySem.W.nsIn K D0 "roads" = some (some (.ref T2)))
    (d_bars : PySem.W.nsIn K D0 "bars" = some (some (.ref T0)))
    (pg : PySem.W.plainGet K M Str.empty = true)
    (hd : PySem.W.hasDictIn K M = true)
    (po : PySem.W.plainOver K M = true)
    (sa : PySem.W.findIn K (.ref M) "__setattr__" = some (some (.builtin "object.__setattr__")))
    (mk : PySem.W.makesIn K M = true)
    (kM : PySem.W.keepIn K (.ref M) = true)
    (n_day : PySem.W.findIn K (.ref M) "day" = some none)
    (n_kinds : PySem.W.findIn K (.ref M) "kinds" = some none)
    (n_places : PySem.W.findIn K (.ref M) "places" = some none)
    (n_roads : PySem.W.findIn K (.ref M) "roads" = some none)
    (n__roads_by_name : PySem.W.findIn K (.ref M) "_roads_by_name" = some none)
    (n_bars : PySem.W.findIn K (.ref M) "bars" = some none)
    (n__barred : PySem.W.findIn K (.ref M) "_barred" = some none)
    (snU1 : PySem.W.specialIn K (.builtin "object.__class__") "__get__" = some (some (.builtin "getset_descriptor.__get__")))
    (tkU : PySem.W.takesIn K (.builtin "object.__class__") = some true)
    (opU : PySem.W.nsIn K cStatics "thirdparty.any" = some none)
    (toX : (l.prog.main.scope.names.lookup ("super" : Str)).isSome = false)
    (lR : K.lookup R = some (excClassObj nmR qR R NR bsR bmR true snR subR abR colR ddR x0R x1R x2R x3R x5R "ValueError.__new__"))
    (rvR : PySem.HandSPX.refsVE bmR = true)
    (saR : PySem.W.findIn K (.ref R) "__setattr__" = some (some (.builtin "object.__setattr__")))
    (bR : PySem.W.subIn K (.ref R) (.type "BaseException") = some true)
    (tR : PySem.W.typeIn K (.ref R) = some (.type "type"))
    (kR : PySem.W.keepIn K (.ref R) = true)
    (iR : PySem.W.isClsIn K R = true)
    (sR : PySem.W.subIn K (.ref R) (.ref R) = some true)
    (xR : xfB K R = true)
    (clR : (PySem.W.clsIn K R).isSome = true)
    (gaR : PySem.W.findIn K (.ref R) "__getattribute__" = some (some (.builtin "BaseException.__getattribute__")))
    (ggR : PySem.W.findIn K (.ref R) "__getattr__" = some none)
    (ccR : PySem.W.findIn K (.ref R) "__class__" = some (some (.builtin "object.__class__")))
    (moR : PySem.W.mroIn K R (.type "object") = some true)
    (muR : PySem.W.mroIn K R (.ref R) = some true)
    (suR : PySem.W.ks_superIn K R R "__init__" = some (some (.builtin "ValueError.__init__")))
    (svR : PySem.W.subIn K (.ref R) (.type "ValueError") = some true)
    (nnR : PySem.W.findIn K (.ref R) "line" = some none)
    (aXR : PySem.W.findIn K (.ref R) "__init__" = some (some (.ref fXR)))
    (tXR : PySem.W.typeIn K (.ref fXR) = some (.type "function"))
    (lXR : K.lookup fXR = some ⟨ocXR, odXR, .func (fdIP .none kVXR dcXR pmXR anXR cdaXR ctXR ccXR), slXR⟩)
    (cXR : PySem.W.codeIn K (.ref cdaXR) "InvalidNotation.__init__" = true)
    (coXR : K.lookup cdaXR = some ⟨cclXR, cddXR, .fields vsXR, ccsXR⟩)
    (v2XR : vsXR[2]? = some (.str fileXR tfXR))
    (fiXR : ((l.prog.main.file : Str) == fileXR) = true)
    (ceXR : K.lookup ccXR = some ⟨clXR, cldXR, .cell (some (.ref R)), cslXR⟩)
    (gC : PySem.W.nsIn K mainGlobals "InvalidMap" = some (some (.ref C)))
    (xC : PySem.W.excIn K C [.type "ValueError", .type "Exception", .type "BaseException", .type "object"] "ValueError.__new__" = true)
    (kC : PySem.W.keepIn K (.ref C) = true)
    (bC : PySem.W.subIn K (.ref C) (.type "BaseException") = some true)
    (gHD : PySem.W.nsIn K mainGlobals "HEADS" = some (some (.ref HD)))
    (lHD : K.lookup HD = some ⟨.type "tuple", odH, .seq #[.str zDayW tH0, .str zKinds tH1, .str zPlaces tH2] nH, slH⟩)
    (tC : PySem.W.typeIn K (.ref C) = some (.type "type"))
    (kiB : PySem.W.kitOne K (.ref R) (.ref B) = some true)
    (kiV : PySem.W.kitOne K (.ref R) (.type "ValueError") = some true)
    (kiC : PySem.W.kitOne K (.ref R) (.ref C) = some false)
    (g_LONGEST_NAME : PySem.W.nsIn K mainGlobals "LONGEST_NAME" = some (some (.int 12 t_LONGEST_NAME)))
    (g_LONGEST_DAY : PySem.W.nsIn K mainGlobals "LONGEST_DAY" = some (some (.int 1440 t_LONGEST_DAY)))
    (g_MOST_PLACES : PySem.W.nsIn K mainGlobals "MOST_PLACES" = some (some (.int 30 t_MOST_PLACES)))
    (g_MOST_KINDS : PySem.W.nsIn K mainGlobals "MOST_KINDS" = some (some (.int 4 t_MOST_KINDS)))
    (g_MOST_ROADS : PySem.W.nsIn K mainGlobals "MOST_ROADS" = some (some (.int 60 t_MOST_ROADS)))
    (g_MOST_MINUTES : PySem.W.nsIn K mainGlobals "MOST_MINUTES" = some (some (.int 1000 t_MOST_MINUTES)))
    (g_MOST_PAIRS : PySem.W.nsIn K mainGlobals "MOST_PAIRS" = some (some (.int 4 t_MOST_PAIRS)))
    (g_MOST_BARS : PySem.W.nsIn K mainGlobals "MOST_BARS" = some (some (.int 40 t_MOST_BARS)))
    (g_NAME : PySem.W.nsIn K mainGlobals "NAME" = some (some (.int 0 t_NAME)))
    (g_START : PySem.W.nsIn K mainGlobals "START" = some (some (.int 1 t_START)))
    (g_END : PySem.W.nsIn K mainGlobals "END" = some (some (.int 2 t_END)))
    (g_PARTS : PySem.W.nsIn K mainGlobals "PARTS" = some (some (.int 6 t_PARTS)))
    (g_LETTERS : PySem.W.nsIn K mainGlobals "LETTERS" = some (some (.str zLet t_LETTERS)))
    (g_DIGITS : PySem.W.nsIn K mainGlobals "DIGITS" = some (some (.str zDig t_DIGITS)))
    (z_isinstance : PySem.W.nsIn K mainGlobals "isinstance" = some none)
    (z_bool : PySem.W.nsIn K mainGlobals "bool" = some none)
    (z_ValueError : PySem.W.nsIn K mainGlobals "ValueError" = some none)
    (z_len : PySem.W.nsIn K mainGlobals "len" = some none)
    (z_all : PySem.W.nsIn K mainGlobals "all" = some none)
    (z_set : PySem.W.nsIn K mainGlobals "set" = some none)
    (z_tuple : PySem.W.nsIn K mainGlobals "tuple" = some none)
    (z_list : PySem.W.nsIn K mainGlobals "list" = some none)
    (z_sorted : PySem.W.nsIn K mainGlobals "sorted" = some none)
    (z_abs : PySem.W.nsIn K mainGlobals "abs" = some none)
    (z_int : PySem.W.nsIn K mainGlobals "int" = some none)
    (z_range : PySem.W.nsIn K mainGlobals "range" = some none)
    (z_max : PySem.W.nsIn K mainGlobals "max" = some none)
    (z_min : PySem.W.nsIn K mainGlobals "min" = some none)
    (z_super : PySem.W.nsIn K mainGlobals "super" = some none)
    (z_str : PySem.W.nsIn K mainGlobals "str" = some none) :
    LawL l w K (L2.CX l.prog w) 63 mg fa h := by
  have e := hfa.symm.trans (PySem.W.mg_of X G aLw)
  cases e
  have FNm := fun_mk (st := sIsName) lNm cNm kNm
  have bNm := FNm.binds (ps := ["text"]) fun _ _ _ _ _ _ us hl => match us, hl with | [_], _ => rfl
  have mNm := PySem.W.mg_of X G aNm
  have FDy := fun_mk (st := sDay) lDy cDy kDy
  have bDy := FDy.binds (ps := ["day"]) fun _ _ _ _ _ _ us hl => match us, hl with | [_], _ => rfl
  have mDy := PySem.W.mg_of X G aDy
  have FNa := fun_mk (st := sNames) lNa cNa kNa
  have bNa := FNa.binds (ps := ["names", "least", "most"]) fun _ _ _ _ _ _ us hl => match us, hl with | [_, _, _], _ => rfl
  have mNa := PySem.W.mg_of X G aNa
  have FDf := fun_mk (st := sDiff) lDf cDf kDf
  have bDf := FDf.binds (ps := ["parts"]) fun _ _ _ _ _ _ us hl => match us, hl with | [_], _ => rfl
  have mDf := PySem.W.mg_of X G aDf
  have FRs := fun_mk (st := sRoads) lRs cRs kRs
  have bRs := FRs.binds (ps := ["roads", "day", "places", "kinds"]) fun _ _ _ _ _ _ us hl => match us, hl with | [_, _, _, _], _ => rfl
  have mRs := PySem.W.mg_of X G aRs
  have FRd := fun_mk (st := sRoad) lRd cRd kRd
  have bRd := FRd.binds (ps := ["road", "day", "places", "kinds"]) fun _ _ _ _ _ _ us hl => match us, hl with | [_, _, _, _], _ => rfl
  have mRd := PySem.W.mg_of X G aRd
  have FHr := fun_mk (st := sHours) lHr cHr kHr
  have bHr := FHr.binds (ps := ["hours", "day"]) fun _ _ _ _ _ _ us hl => match us, hl with | [_, _], _ => rfl
  have mHr := PySem.W.mg_of X G aHr
  have FBr := fun_mk (st := sBars) lBr cBr kBr
  have bBr := FBr.binds (ps := ["bars", "roads_by_name"]) fun _ _ _ _ _ _ us hl => match us, hl with | [_, _], _ => rfl
  have mBr := PySem.W.mg_of X G aBr
  have FRw := fun_mk (st := sRow) lRw cRw kRw
  have bRw := FRw.binds (ps := ["cell", "many"]) fun _ _ _ _ _ _ us hl => match us, hl with | [_, _], _ => rfl
  have mRw := PySem.W.mg_of X G aRw
  have FNu := fun_mk (st := sNumbers) lNu cNu kNu
  have bNu := FNu.binds (ps := ["script", "many"]) fun _ _ _ _ _ _ us hl => match us, hl with | [_, _], _ => rfl
  have mNu := PySem.W.mg_of X G aNu
  have FLp := fun_mk (st := sLPick) lLp cLp kLp
  have bLp := FLp.binds (ps := ["numbers", "k"]) fun _ _ _ _ _ _ us hl => match us, hl with | [_, _], _ => rfl
  have mLp := PySem.W.mg_of X G aLp
  have FLn := fun_mk (st := sLNames) lLn cLn kLn
  have bLn := FLn.binds (ps := ["numbers", "at", "many"]) fun _ _ _ _ _ _ us hl => match us, hl with | [_, _, _], _ => rfl
  have mLn := PySem.W.mg_of X G aLn
  have FLc := fun_mk (st := sLCount) lLc cLc kLc
  have bLc := FLc.binds (ps := ["number", "least", "most"]) fun _ _ _ _ _ _ us hl => match us, hl with | [_, _, _], _ => rfl
  have mLc := PySem.W.mg_of X G aLc
  have FLh := fun_mk (st := sLHours) lLh cLh kLh
  have bLh := FLh.binds (ps := ["numbers", "k", "day"]) fun _ _ _ _ _ _ us hl => match us, hl with | [_, _, _], _ => rfl
  have mLh := PySem.W.mg_of X G aLh
  have FLr := fun_mk (st := sLRoad) lLr cLr kLr
  have bLr := FLr.binds (ps := ["numbers", "k", "name", "places", "kinds", "day"]) fun _ _ _ _ _ _ us hl => match us, hl with | [_, _, _, _, _, _], _ => rfl
  have mLr := PySem.W.mg_of X G aLr
  have FLq := fun_mk (st := sLBars) lLq cLq kLq
  have bLq := FLq.binds (ps := ["numbers", "k", "roads", "many"]) fun _ _ _ _ _ _ us hl => match us, hl with | [_, _, _, _], _ => rfl
  have mLq := PySem.W.mg_of X G aLq
  have FMp := fun_mk (st := sLParts) lMp cMp kMp
  have bMp := FMp.binds (ps := ["numbers"]) fun _ _ _ _ _ _ us hl => match us, hl with | [_], _ => rfl
  have mMp := PySem.W.mg_of X G aMp
  have FFz := fun_mk (st := sLFrozen) lFz cFz kFz
  have bFz := FFz.binds (ps := ["parts"]) fun _ _ _ _ _ _ us hl => match us, hl with | [_], _ => rfl
  have mFz := PySem.W.mg_of X G aFz
  have FAn := fun_mk (st := sAreN) lAn cAn kAn
  have bAn := FAn.binds (ps := ["words"]) fun _ _ _ _ _ _ us hl => match us, hl with | [_], _ => rfl
  have mAn := PySem.W.mg_of X G aAn
  have FAh := fun_mk (st := sAreH) lAh cAh kAh
  have bAh := FAh.binds (ps := ["words"]) fun _ _ _ _ _ _ us hl => match us, hl with | [_], _ => rfl
  have mAh := PySem.W.mg_of X G aAh
  have FRo := fun_mk (st := sRowsT) lRo cRo kRo
  have bRo := FRo.binds (ps := ["text"]) fun _ _ _ _ _ _ us hl => match us, hl with | [_], _ => rfl
  have mRo := PySem.W.mg_of X G aRo
  have FCl := fun_mk (st := sCol) lCl cCl kCl
  have bCl := FCl.binds (ps := ["words"]) fun _ _ _ _ _ _ us hl => match us, hl with | [_], _ => rfl
  have mCl := PySem.W.mg_of X G aCl
  have FIr := fun_mk (st := sIsRoad) lIr cIr kIr
  have bIr := FIr.binds (ps := ["words"]) fun _ _ _ _ _ _ us hl => match us, hl with | [_], _ => rfl
  have mIr := PySem.W.mg_of X G aIr
  have FIp := fun_mk (st := sIsPair) lIp cIp kIp
  have bIp := FIp.binds (ps := ["word"]) fun _ _ _ _ _ _ us hl => match us, hl with | [_], _ => rfl
  have mIp := PySem.W.mg_of X G aIp
  have FRp := fun_mk (st := sReadP) lRp cRp kRp
  have bRp := FRp.binds (ps := ["word"]) fun _ _ _ _ _ _ us hl => match us, hl with | [_], _ => rfl
  have mRp := PySem.W.mg_of X G aRp
  have FRh := fun_mk (st := sReadH) lRh cRh kRh
  have bRh := FRh.binds (ps := ["words"]) fun _ _ _ _ _ _ us hl => match us, hl with | [_], _ => rfl
  have mRh := PySem.W.mg_of X G aRh
  have FRr := fun_mk (st := sReadR) lRr cRr kRr
  have bRr := FRr.binds (ps := ["words"]) fun _ _ _ _ _ _ us hl => match us, hl with | [_], _ => rfl
  have mRr := PySem.W.mg_of X G aRr
  have FIh := fun_mk (st := sIsHead) lIh cIh kIh
  have bIh := FIh.binds (ps := ["words"]) fun _ _ _ _ _ _ us hl => match us, hl with | [_], _ => rfl
  have mIh := PySem.W.mg_of X G aIh
  have FCs := fun_mk (st := sCan) lCs cCs kCs
  have bCs := FCs.binds (ps := ["rows", "at"]) fun _ _ _ _ _ _ us hl => match us, hl with | [_, _], _ => rfl
  have mCs := PySem.W.mg_of X G aCs
  have FCf := fun_mk (st := sForm) lCf cCf kCf
  have bCf := FCf.binds (ps := ["rows"]) fun _ _ _ _ _ _ us hl => match us, hl with | [_], _ => rfl
  have mCf := PySem.W.mg_of X G aCf
  have FPs := fun_mk (st := sParse) lPs cPs kPs
  have bPs := FPs.binds (ps := ["text"]) fun _ _ _ _ _ _ us hl => match us, hl with | [_], _ => rfl
  have mPs := PySem.W.mg_of X G aPs
  have FLl := fun_mk (st := sLLine) lLl cLl kLl
  have bLl := FLl.binds (ps := ["road"]) fun _ _ _ _ _ _ us hl => match us, hl with | [_], _ => rfl
  have mLl := PySem.W.mg_of X G aLl
  have FLi := fun_mk (st := sLLines) lLi cLi kLi
  have bLi := FLi.binds (ps := ["parts"]) fun _ _ _ _ _ _ us hl => match us, hl with | [_], _ => rfl
  have mLi := PySem.W.mg_of X G aLi
  have FSa := fun_mk (st := sLSame) lSa cSa kSa
  have bSa := FSa.binds (ps := ["chart", "due"]) fun _ _ _ _ _ _ us hl => match us, hl with | [_, _], _ => rfl
  have mSa := PySem.W.mg_of X G aSa
  have FLt := fun_mk (st := sTold) lLt cLt kLt
  have bLt := FLt.binds (ps := ["lines"]) fun _ _ _ _ _ _ us hl => match us, hl with | [_], _ => rfl
  have mLt := PySem.W.mg_of X G aLt
  have FBw := fun_mk (st := sBw) lBw cBw kBw
  have bBw := FBw.binds (ps := ["sort", "number"]) fun _ _ _ _ _ _ us hl => match us, hl with | [_, _], _ => rfl
  have mBw := PySem.W.mg_of X G aBw
  have FSp := fun_mk (st := sSp) lSp cSp kSp
  have bSp := FSp.binds (ps := ["line", "number", "place"]) fun _ _ _ _ _ _ us hl => match us, hl with | [_, _, _], _ => rfl
  have mSp := PySem.W.mg_of X G aSp
  have FBk := fun_mk (st := sBk) lBk cBk kBk
  have bBk := FBk.binds (ps := ["line", "fault", "number", "place"]) fun _ _ _ _ _ _ us hl => match us, hl with | [_, _, _, _], _ => rfl
  have mBk := PySem.W.mg_of X G aBk
  have FOr := fun_mk (st := sOr) lOr cOr kOr
  have bOr := FOr.binds (ps := ["parts", "lines", "fault", "number"]) fun _ _ _ _ _ _ us hl => match us, hl with | [_, _, _, _], _ => rfl
  have mOr := PySem.W.mg_of X G aOr
  have FLw := fun_mk (st := sLaw) lLw cLw kLw
  have bLw := FLw.binds (ps := ["script"]) fun _ _ _ _ _ _ us hl => match us, hl with | [_], _ => rfl
  have mLw := PySem.W.mg_of X G aLw
  have mNr := PySem.W.mg_of X G aNr
  have FNr : FunD K "is_number" "is_number" (defArgs sIsNr) (defBody sIsNr) (defScope sIsNr) [.int 6] [] fNr (PySem.W.fnOf "is_number" "is_number" (defArgs sIsNr) (defBody sIsNr) (defScope sIsNr) (.ref TDNr) kVNr dcNr pmNr anNr (.ref qNr) ctNr) :=
    ⟨⟨_, _, _, _, _, _, _, _, _, _, rfl, lNr, cNr, .inr ⟨by simp, TDNr, _, [.int 6 t6Nr], _, rfl, lTNr, rfl, .cons ⟨t6Nr, rfl⟩ .nil⟩, .inl rfl⟩, kNr⟩
  obtain ⟨u6Nr, r6Nr, bNr⟩ := FNr.binds1 (ps := ["word", "longest"]) 1 0 (by simp) rfl (fun T kV doc pm an cdv ct us its h1 h2 => match us, its, h1, h2 with | [_], [i], _, _ => ⟨_, rfl, rfl⟩)
  have e_isinstance := PySem.W.mg_none_of X G z_isinstance
  have e_bool := PySem.W.mg_none_of X G z_bool
  have e_ValueError := PySem.W.mg_none_of X G z_ValueError
  have e_len := PySem.W.mg_none_of X G z_len
  have e_all := PySem.W.mg_none_of X G z_all
  have e_set := PySem.W.mg_none_of X G z_set
  have e_tuple := PySem.W.mg_none_of X G z_tuple
  have e_list := PySem.W.mg_none_of X G z_list
  have e_sorted := PySem.W.mg_none_of X G z_sorted
  have e_abs := PySem.W.mg_none_of X G z_abs
  have e_int := PySem.W.mg_none_of X G z_int
  have e_range := PySem.W.mg_none_of X G z_range
  have e_max := PySem.W.mg_none_of X G z_max
  have e_min := PySem.W.mg_none_of X G z_min
  have e_super := PySem.W.mg_none_of X G z_super
  have e_str := PySem.W.mg_none_of X G z_str
  have i_LONGEST_NAME := PySem.W.mg_of X G g_LONGEST_NAME
  have i_LONGEST_DAY := PySem.W.mg_of X G g_LONGEST_DAY
  have i_MOST_PLACES := PySem.W.mg_of X G g_MOST_PLACES
  have i_MOST_KINDS := PySem.W.mg_of X G g_MOST_KINDS
  have i_MOST_ROADS := PySem.W.mg_of X G g_MOST_ROADS
  have i_MOST_MINUTES := PySem.W.mg_of X G g_MOST_MINUTES
  have i_MOST_PAIRS := PySem.W.mg_of X G g_MOST_PAIRS
  have i_MOST_BARS := PySem.W.mg_of X G g_MOST_BARS
  have i_NAME := PySem.W.mg_of X G g_NAME
  have i_START := PySem.W.mg_of X G g_START
  have i_END := PySem.W.mg_of X G g_END
  have i_PARTS := PySem.W.mg_of X G g_PARTS
  have i_LETTERS := PySem.W.mg_of X G g_LETTERS
  have i_DIGITS := PySem.W.mg_of X G g_DIGITS
  have eR := exm_two bR iR tR sR
  have TR : OexC K R := ⟨⟨_, _, _, _, _, _, _, _, _, _, _, _, _, _, _, lR, rvR⟩, saR, bR, tR, kR⟩
  have DR : ExcD K R := ⟨clR, gaR, ggR, bR, ccR, snU1, tkU, moR⟩
  have bXR : L2.Binds K (fdIP .none kVXR dcXR pmXR anXR cdaXR ctXR ccXR) ["self", "line"] [] := .all fun us hl => match us, hl with | [_, _], _ => rfl
  have mR := PySem.W.mg_of X G gR
  have yR : XfC K R := xfB_ok xR
  have mB := PySem.W.mg_of X G gB
  have TM : TxtM K M := ⟨⟨pg, hd, po, sa⟩, n_day, n_kinds, n_places, n_roads, n__roads_by_name, n_bars, n__barred⟩
  have TN : Txt K mg M P := ⟨⟨_, i_LETTERS⟩, ⟨_, i_DIGITS⟩, ⟨_, i_LONGEST_NAME⟩, e_len, e_all⟩
  have FI : FunD K "__init__" "Map.__init__" (defArgs sInit) (defBody sInit) (defScope sInit) [] [("places", V.ref T1), ("roads", V.ref T2), ("bars", V.ref T0)] fI (PySem.W.fnOf "__init__" "Map.__init__" (defArgs sInit) (defBody sInit) (defScope sInit) .none (.ref D0) dcI pmI anI cdI ctI) :=
    ⟨⟨_, _, _, _, _, _, _, _, _, _, rfl, lI, cI, .inl ⟨rfl, rfl⟩, .inr ⟨D0, rfl, fun q hq => by
      simp only [List.mem_cons, List.not_mem_nil, or_false] at hq
      rcases hq with e | e | e <;> rw [e]
      · exact ⟨_, d_places, rfl⟩
      · exact ⟨_, d_roads, rfl⟩
      · exact ⟨_, d_bars, rfl⟩⟩⟩, kI⟩
  obtain ⟨mvC, kbC⟩ := mapC_binds FI
  have tabP : h.get? P = some { cls := .none, data := .fields #[] } := own _ (by decide +kernel) _ mNm qN P _ _ _ _ _ _ lNm rfl rfl lcN v11
  have tabPAn : h.get? PAn = some { cls := .none, data := .fields #[] } := own _ (by decide +kernel) _ mAn qAn PAn _ _ _ _ _ _ lAn rfl rfl lcAn v11An
  have tabPAh : h.get? PAh = some { cls := .none, data := .fields #[] } := own _ (by decide +kernel) _ mAh qAh PAh _ _ _ _ _ _ lAh rfl rfl lcAh v11Ah
  have hcs : ∀ p ∈ ([(qN, P), (qAn, PAn), (qAh, PAh), (qNr, PNr)] : List (Addr × Addr)), h.get? p.2 = some { cls := .none, data := .fields #[] } ∧ K.lookup p.2 = none ∧ PySem.W.CodeHd h p.1 p.2 := fun p hp => by
    simp only [List.mem_cons, List.not_mem_nil, or_false] at hp
    rcases hp with e | e | e | e <;> rw [e]
    · exact ⟨tabP, nP, PySem.W.codeHd_of_K X hcN⟩
    · exact ⟨tabPAn, nPAn, PySem.W.codeHd_of_K X hcAn⟩
    · exact ⟨tabPAh, nPAh, PySem.W.codeHd_of_K X hcAh⟩
    · exact ⟨tabPNr, nPNr, PySem.W.codeHd_of_K X hcNr⟩
  refine ⟨[(qN, P), (qAn, PAn), (qAh, PAh), (qNr, PNr)], spLaw K P PAn PAh PNr, hcs, fun H a ns hl hT hS => ⟨a, ns, rfl, hS, hl, ⟨#[], hT (qN, P) (by simp), by first | trivial | exact True.intro | decide⟩, ⟨#[], hT (qAn, PAn) (by simp), by first | trivial | exact True.intro | decide⟩, ⟨#[], hT (qAh, PAh) (by simp), by first | trivial | exact True.intro | decide⟩, ⟨#[], hT (qNr, PNr) (by simp), by first | trivial | exact True.intro | decide⟩, fun _ => rfl⟩, fun base KB NB TBL => ?_⟩
  have TBN : TabB base mg qN P := ⟨(TBL (qN, P) (by simp)).code, (TBL (qN, P) (by simp)).bm, (TBL (qN, P) (by simp)).gP⟩
  have TBAn : TabB base mg qAn PAn := ⟨(TBL (qAn, PAn) (by simp)).code, (TBL (qAn, PAn) (by simp)).bm, (TBL (qAn, PAn) (by simp)).gP⟩
  have TBAh : TabB base mg qAh PAh := ⟨(TBL (qAh, PAh) (by simp)).code, (TBL (qAh, PAh) (by simp)).bm, (TBL (qAh, PAh) (by simp)).gP⟩
  have TBNr : TabB base mg qNr PNr := ⟨(TBL (qNr, PNr) (by simp)).code, (TBL (qNr, PNr) (by simp)).bm, (TBL (qNr, PNr) (by simp)).gP⟩
  have TE : TxtE mg K C := ⟨PySem.W.mg_of X G gC, xC, kC, bC, tC⟩
  have mC := PySem.W.mg_of X G gC
  have GNm : FnOk l.prog w K mg base CX0 2 fNm _ ["text"] (spIsName P) := ok_isName FNm TN TBN rfl NB
  have GDy : FnOk l.prog w K mg base (L2.CX l.prog w) 1 fDy _ ["day"] (spDayX C P) := ok_dayX FDy TE i_LONGEST_DAY
  have GDf : FnOk l.prog w K mg base (L2.CX l.prog w) 1 fDf _ ["parts"] (spDiffX K C P) := ok_diffX FDf TE e_len e_set
  have GHr : FnOk l.prog w K mg base (L2.CX l.prog w) 1 fHr _ ["hours", "day"] (spHoursX K C P) := ok_hoursX FHr TE e_len e_tuple i_MOST_PAIRS
  have GNa := ok_namesX FNa TE e_len e_tuple e_sorted GNm mNm kNm bNm GDf mDf kDf bDf
  have GRd := ok_roadX FRd TE e_tuple e_sorted i_MOST_MINUTES GDf mDf kDf bDf GHr mHr kHr bHr
  have GRs := ok_roadsX FRs TE e_len e_tuple e_sorted i_PARTS i_NAME i_MOST_ROADS GNa mNa kNa bNa GRd mRd kRd bRd
  have GBr := ok_barsX FBr TE e_len e_tuple e_sorted i_MOST_BARS i_END i_START GDf mDf kDf bDf
  have GI := ok_initX FI TM TE i_NAME i_MOST_KINDS i_MOST_PLACES GDy mDy kDy bDy GNa mNa kNa bNa GRs mRs kRs bRs GBr mBr kBr bBr
  have GRw : FnOk l.prog w K mg base CX0 1 fRw _ ["cell", "many"] (spRow P) := ok_row FRw e_abs e_int e_range
  have GNu := ok_numbers FNu e_len e_max GRw mRw kRw bRw
  have GLp : FnOk l.prog w K mg base CX0 1 fLp _ ["numbers", "k"] (spLPick K) := ok_lpick FLp e_int e_len
  have GLn : FnOk l.prog w K mg base CX0 1 fLn _ ["numbers", "at", "many"] (spLNames K P) := ok_lnames FLn e_int e_range e_len
  have GLc : FnOk l.prog w K mg base CX0 1 fLc _ ["number", "least", "most"] spLCount := ok_lcount FLc e_int e_min
  have GLh := ok_lhours (P := P) FLh e_range e_max GLp mLp kLp bLp
  have GLr := ok_lroad FLr e_range e_max e_len GLp mLp kLp bLp GLh mLh kLh bLh
  have GLq := ok_lbars (P := P) FLq e_max e_len GLp mLp kLp bLp
  have GMp := ok_lparts FMp e_int e_range e_len GLn mLn kLn bLn GLc mLc kLc bLc GLr mLr kLr bLr GLq mLq kLq bLq
  have GFz : FnOk l.prog w K mg base CX0 1 fFz _ ["parts"] (spLFrozen K P) := ok_lfrozen FFz e_sorted e_tuple
  have GLl : FnOk l.prog w K mg base CX0 1 fLl _ ["road"] (spLLineG K P) := ok_llineG FLl e_str
  have GLi := ok_llinesG FLi e_str GLl mLl kLl bLl
  have HK : TupK K HD (headsL.map V.str) := ⟨_, _, nH, lHD, rfl, rfl, (show 3 ≤ sizeLine by decide), .cons ⟨_, rfl⟩ (.cons ⟨_, rfl⟩ (.cons ⟨_, rfl⟩ .nil))⟩
  have mHD := PySem.W.mg_of X G gHD
  have GNr : FnOk l.prog w K mg base CX0 2 fNr _ ["word", "longest"] (spIsNr PNr) := ok_isNr FNr e_len e_all i_DIGITS TBNr rfl NB
  have GAn := ok_areN FAn rfl TBAn e_all GNm mNm kNm bNm
  have GIp := ok_isPair (P := P) FIp GNr mNr kNr bNr r6Nr
  have GAh := ok_areH FAh rfl TBAh e_all GIp mIp kIp bIp
  have GCl : FnOk l.prog w K mg base CX0 1 fCl _ ["words"] (spCol K P) := ok_col FCl
  have GRp : FnOk l.prog w K mg base CX0 1 fRp _ ["word"] (spReadP P) := ok_readP FRp e_int
  have GRh := ok_readH FRh e_tuple GRp mRp kRp bRp
  have GRr := ok_readR FRr e_int e_tuple GCl mCl kCl bCl GRh mRh kRh bRh
  have GIr := ok_isRoad FIr e_len GCl mCl kCl bCl GAn mAn kAn bAn GNr mNr kNr bNr r6Nr GAh mAh kAh bAh
  have GIh := ok_isHead (Ph := PAh) FIh e_len GAn mAn kAn bAn GNr mNr kNr bNr r6Nr
  have GCs := ok_can FCs e_len mHD HK GAn mAn kAn bAn GIh mIh kIh bIh GIr mIr kIr bIr
  have GX : FnOk l.prog w K mg base CX0 1 fXR _ ["self", "line"] (spPInit K R) := ok_pinit lXR cXR coXR v2XR fiXR ceXR e_super toX TR muR opU suR svR nnR
  have GCf := ok_form FCf e_len e_range mHD HK GCs mCs kCs bCs
  have GCx := ok_formX FCf e_len e_range mHD HK GCs mCs kCs bCs mR TR aXR tXR GX bXR
  have GRo : FnOk l.prog w K mg base CX0 1 fRo _ ["text"] (spRowsT P) := ok_rowsT FRo
  have GP1 := ok_parse FPs e_len e_int mHD HK GRo mRo kRo bRo GCf mCf kCf bCf GRr mRr kRr bRr ⟨mk, aI, iI, kM⟩ (PySem.W.mg_of X G aM) GI kbC
  have GP2 := ok_parseX FPs e_len e_int mHD GRo mRo kRo bRo GCx mCf kCf bCf GRr mRr kRr bRr ⟨mk, aI, iI, kM⟩ (PySem.W.mg_of X G aM) GI kbC
  have GPs : FnOk l.prog w K mg base (L2.CX l.prog w) 9 fPs _ ["text"] (spParseB K M C R P PAn PNr PAh) := FnOk.orC GP1 GP2
  have GSa : FnOk l.prog w K mg base CX0 1 fSa _ ["chart", "due"] (spLSame K M P) := ok_lsame FSa TM e_isinstance e_bool
  have GLt := ok_told FLt e_isinstance e_ValueError e_int e_bool mR mB mC yR DR nnR eR kiB kiV kiC GPs mPs kPs bPs
  have GBw : FnOk l.prog w K mg base CX0 1 fBw _ ["sort", "number"] (spBadWord P) := ok_badWord FBw
  have GSp := ok_spoilt FSp e_len e_max GBw mBw kBw bBw
  have GBk := ok_broken FBk e_len GSp mSp kSp bSp
  have GOr : FnOk l.prog w K mg base CX0 1 fOr _ ["parts", "lines", "fault", "number"] (spOrder P) := ok_order FOr e_len
  exact ok_law lLw cLw (fun s v => .of_eq rfl) e_int e_len GNu mNu kNu bNu GMp mMp kMp bMp GFz mFz kFz bFz GLi mLi kLi bLi GLt mLt kLt bLt GBk mBk kBk bBk GOr mOr kOr bOr GSa mSa kSa bSa GPs mPs kPs bPs
end W

set_option Elab.async false
local macro_rules | `(tactic| o_head ($f:ident $k $a $e)) => `(tactic| o_head (PySem.W.kmHook $k $a $e [384]))
open PySem PySem.W PyProof.Rows in
set_option maxRecDepth 100000 in
set_option maxHeartbeats 0 in
theorem PySem.Challenge.cw_waypapers_k06_texts_refused_holds : PySem.Challenge.rw_waypapers_k06_texts_refused.Holds := by
  w_on; o_law; k_head; (case hw => w_witness2)
  k_fill
  refine MyR.walk_ofL (l := PySem.Challenge.rw_waypapers_k06_texts_refused) (n := 63) (CX := fun w => L2.CX (PySem.Challenge.rw_waypapers_k06_texts_refused).prog w) ["is_name", "are_names", "are_hours"] rfl (by decide) rfl (by decide +kernel) (fun w h Y => PySem.W.km_in_of Y) ?F (fun w H s e s' h => W.no_fly w H s e s' h)
  case F =>
    intro w mg fa h Y KX G hmg own
    refine' W.all_mk KX G hmg own ?aM ?gR ?gB ?aNm ?lNm ?cNm ?kNm ?aDy ?lDy ?cDy ?kDy ?aNa ?lNa ?cNa ?kNa ?aDf ?lDf ?cDf ?kDf ?aRs ?lRs ?cRs ?kRs ?aRd ?lRd ?cRd ?kRd ?aHr ?lHr ?cHr ?kHr ?aBr ?lBr ?cBr ?kBr ?aRw ?lRw ?cRw ?kRw ?aNu ?lNu ?cNu ?kNu ?aLp ?lLp ?cLp ?kLp ?aLn ?lLn ?cLn ?kLn ?aLc ?lLc ?cLc ?kLc ?aLh ?lLh ?cLh ?kLh ?aLr ?lLr ?cLr ?kLr ?aLq ?lLq ?cLq ?kLq ?aMp ?lMp ?cMp ?kMp ?aFz ?lFz ?cFz ?kFz ?aAn ?lAn ?cAn ?kAn ?aAh ?lAh ?cAh ?kAh ?aRo ?lRo ?cRo ?kRo ?aCl ?lCl ?cCl ?kCl ?aIr ?lIr ?cIr ?kIr ?aIp ?lIp ?cIp ?kIp ?aRp ?lRp ?cRp ?kRp ?aRh ?lRh ?cRh ?kRh ?aRr ?lRr ?cRr ?kRr ?aIh ?lIh ?cIh ?kIh ?aCs ?lCs ?cCs ?kCs ?aCf ?lCf ?cCf ?kCf ?aPs ?lPs ?cPs ?kPs ?aLl ?lLl ?cLl ?kLl ?aLi ?lLi ?cLi ?kLi ?aSa ?lSa ?cSa ?kSa ?aLt ?lLt ?cLt ?kLt ?aBw ?lBw ?cBw ?kBw ?aSp ?lSp ?cSp ?kSp ?aBk ?lBk ?cBk ?kBk ?aOr ?lOr ?cOr ?kOr ?aLw ?lLw ?cLw ?kLw ?lcN ?v11 ?hcN ?nP ?lcAn ?v11An ?hcAn ?nPAn ?lcAh ?v11Ah ?hcAh ?nPAh ?tabPNr ?aNr ?lNr ?cNr ?kNr ?lTNr ?lcNr ?v11Nr ?hcNr ?nPNr ?aI ?iI ?lI ?cI ?kI ?d_places ?d_roads ?d_bars ?pg ?hd ?po ?sa ?mk ?kM ?n_day ?n_kinds ?n_places ?n_roads ?n__roads_by_name ?n_bars ?n__barred ?snU1 ?tkU ?opU ?toX ?lR ?rvR ?saR ?bR ?tR ?kR ?iR ?sR ?xR ?clR ?gaR ?ggR ?ccR ?moR ?muR ?suR ?svR ?nnR ?aXR ?tXR ?lXR ?cXR ?coXR ?v2XR ?fiXR ?ceXR ?gC ?xC ?kC ?bC ?gHD ?lHD ?tC ?kiB ?kiV ?kiC ?g_LONGEST_NAME ?g_LONGEST_DAY ?g_MOST_PLACES ?g_MOST_KINDS ?g_MOST_ROADS ?g_MOST_MINUTES ?g_MOST_PAIRS ?g_MOST_BARS ?g_NAME ?g_START ?g_END ?g_PARTS ?g_LETTERS ?g_DIGITS ?z_isinstance ?z_bool ?z_ValueError ?z_len ?z_all ?z_set ?z_tuple ?z_list ?z_sorted ?z_abs ?z_int ?z_range ?z_max ?z_min ?z_super ?z_str
    (case aM => k_is)
    (case gR => k_is)
    (case gB => k_is)
    (case aNm => k_is)
    (case lNm => k_is)
    (case cNm => k_is)
    (case kNm => k_is)
    (case aDy => k_is)
    (case lDy => k_is)
    (case cDy => k_is)
    (case kDy => k_is)
    (case aNa => k_is)
    (case lNa => k_is)
    (case cNa => k_is)
    (case kNa => k_is)
    (case aDf => k_is)
    (case lDf => k_is)
    (case cDf => k_is)
    (case kDf => k_is)
    (case aRs => k_is)
    (case lRs => k_is)
    (case cRs => k_is)
    (case kRs => k_is)
    (case aRd => k_is)
    (case lRd => k_is)
    (case cRd => k_is)
    (case kRd => k_is)
    (case aHr => k_is)
    (case lHr => k_is)
    (case cHr => k_is)
    (case kHr => k_is)
    (case aBr => k_is)
    (case lBr => k_is)
    (case cBr => k_is)
    (case kBr => k_is)
    (case aRw => k_is)
    (case lRw => k_is)
    (case cRw => k_is)
    (case kRw => k_is)
    (case aNu => k_is)
    (case lNu => k_is)
    (case cNu => k_is)
    (case kNu => k_is)
    (case aLp => k_is)
    (case lLp => k_is)
    (case cLp => k_is)
    (case kLp => k_is)
    (case aLn => k_is)
    (case lLn => k_is)
    (case cLn => k_is)
    (case kLn => k_is)
    (case aLc => k_is)
    (case lLc => k_is)
    (case cLc => k_is)
    (case kLc => k_is)
    (case aLh => k_is)
    (case lLh => k_is)
    (case cLh => k_is)
    (case kLh => k_is)
    (case aLr => k_is)
    (case lLr => k_is)
    (case cLr => k_is)
    (case kLr => k_is)
    (case aLq => k_is)
    (case lLq => k_is)
    (case cLq => k_is)
    (case kLq => k_is)
    (case aMp => k_is)
    (case lMp => k_is)
    (case cMp => k_is)
    (case kMp => k_is)
    (case aFz => k_is)
    (case lFz => k_is)
    (case cFz => k_is)
    (case kFz => k_is)
    (case aAn => k_is)
    (case lAn => k_is)
    (case cAn => k_is)
    (case kAn => k_is)
    (case aAh => k_is)
    (case lAh => k_is)
    (case cAh => k_is)
    (case kAh => k_is)
    (case aRo => k_is)
    (case lRo => k_is)
    (case cRo => k_is)
    (case kRo => k_is)
    (case aCl => k_is)
    (case lCl => k_is)
    (case cCl => k_is)
    (case kCl => k_is)
    (case aIr => k_is)
    (case lIr => k_is)
    (case cIr => k_is)
    (case kIr => k_is)
    (case aIp => k_is)
    (case lIp => k_is)
    (case cIp => k_is)
    (case kIp => k_is)
    (case aRp => k_is)
    (case lRp => k_is)
    (case cRp => k_is)
    (case kRp => k_is)
    (case aRh => k_is)
    (case lRh => k_is)
    (case cRh => k_is)
    (case kRh => k_is)
    (case aRr => k_is)
    (case lRr => k_is)
    (case cRr => k_is)
    (case kRr => k_is)
    (case aIh => k_is)
    (case lIh => k_is)
    (case cIh => k_is)
    (case kIh => k_is)
    (case aCs => k_is)
    (case lCs => k_is)
    (case cCs => k_is)
    (case kCs => k_is)
    (case aCf => k_is)
    (case lCf => k_is)
    (case cCf => k_is)
    (case kCf => k_is)
    (case aPs => k_is)
    (case lPs => k_is)
    (case cPs => k_is)
    (case kPs => k_is)
    (case aLl => k_is)
    (case lLl => k_is)
    (case cLl => k_is)
    (case kLl => k_is)
    (case aLi => k_is)
    (case lLi => k_is)
    (case cLi => k_is)
    (case kLi => k_is)
    (case aSa => k_is)
    (case lSa => k_is)
    (case cSa => k_is)
    (case kSa => k_is)
    (case aLt => k_is)
    (case lLt => k_is)
    (case cLt => k_is)
    (case kLt => k_is)
    (case aBw => k_is)
    (case lBw => k_is)
    (case cBw => k_is)
    (case kBw => k_is)
    (case aSp => k_is)
    (case lSp => k_is)
    (case cSp => k_is)
    (case kSp => k_is)
    (case aBk => k_is)
    (case lBk => k_is)
    (case cBk => k_is)
    (case kBk => k_is)
    (case aOr => k_is)
    (case lOr => k_is)
    (case cOr => k_is)
    (case kOr => k_is)
    (case aLw => k_is)
    (case lLw => k_is)
    (case cLw => k_is)
    (case kLw => k_is)
    (case lcN => k_is)
    (case v11 => rfl)
    (case hcN => kernel_rfl)
    (case nP => kernel_rfl)
    (case lcAn => k_is)
    (case v11An => rfl)
    (case hcAn => kernel_rfl)
    (case nPAn => kernel_rfl)
    (case lcAh => k_is)
    (case v11Ah => rfl)
    (case hcAh => kernel_rfl)
    (case nPAh => kernel_rfl)
    (case tabPNr => exact PySem.W.km_tabs_of Y 384 (by decide))
    (case aNr => k_is)
    (case lNr => k_is)
    (case cNr => k_is)
    (case kNr => k_is)
    (case lTNr => k_is)
    (case lcNr => k_is)
    (case v11Nr => rfl)
    (case hcNr => kernel_rfl)
    (case nPNr => kernel_rfl)
    (case aI => k_is)
    (case iI => k_is)
    (case lI => k_is)
    (case cI => k_is)
    (case kI => k_is)
    (case d_places => k_is)
    (case d_roads => k_is)
    (case d_bars => k_is)
    (case pg => k_is)
    (case hd => k_is)
    (case po => k_is)
    (case sa => k_is)
    (case mk => k_is)
    (case kM => k_is)
    (case n_day => k_is)
    (case n_kinds => k_is)
    (case n_places => k_is)
    (case n_roads => k_is)
    (case n__roads_by_name => k_is)
    (case n_bars => k_is)
    (case n__barred => k_is)
    (case snU1 => k_is)
    (case tkU => k_is)
    (case opU => k_is)
    (case toX => first | rfl | decide +kernel | kernel_rfl)
    (case lR => k_is)
    (case rvR => rfl)
    (case saR => k_is)
    (case bR => k_is)
    (case tR => k_is)
    (case kR => k_is)
    (case iR => k_is)
    (case sR => first | rfl | k_is)
    (case xR => first | kernel_rfl | k_is)
    (case clR => first | kernel_rfl | k_is)
    (case gaR => k_is)
    (case ggR => k_is)
    (case ccR => k_is)
    (case moR => k_is)
    (case muR => k_is)
    (case suR => first | kernel_rfl | k_is)
    (case svR => k_is)
    (case nnR => k_is)
    (case aXR => k_is)
    (case tXR => k_is)
    (case lXR => k_is)
    (case cXR => k_is)
    (case coXR => k_is)
    (case v2XR => rfl)
    (case fiXR => first | rfl | decide +kernel | kernel_rfl)
    (case ceXR => k_is)
    (case gC => k_is)
    (case xC => k_exc)
    (case kC => k_is)
    (case bC => k_is)
    (case gHD => k_is)
    (case lHD => k_is)
    (case tC => k_is)
    (case kiB => first | kernel_rfl | kit_is | k_is)
    (case kiV => first | kernel_rfl | kit_is | k_is)
    (case kiC => first | kernel_rfl | kit_is | k_is)
    (case g_LONGEST_NAME => k_is)
    (case g_LONGEST_DAY => k_is)
    (case g_MOST_PLACES => k_is)
    (case g_MOST_KINDS => k_is)
    (case g_MOST_ROADS => k_is)
    (case g_MOST_MINUTES => k_is)
    (case g_MOST_PAIRS => k_is)
    (case g_MOST_BARS => k_is)
    (case g_NAME => k_is)
    (case g_START => k_is)
    (case g_END => k_is)
    (case g_PARTS => k_is)
    (case g_LETTERS => k_is)
    (case g_DIGITS => k_is)
    (case z_isinstance => k_is)
    (case z_bool => k_is)
    (case z_ValueError => k_is)
    (case z_len => k_is)
    (case z_all => k_is)
    (case z_set => k_is)
    (case z_tuple => k_is)
    (case z_list => k_is)
    (case z_sorted => k_is)
    (case z_abs => k_is)
    (case z_int => k_is)
    (case z_range => k_is)
    (case z_max => k_is)
    (case z_min => k_is)
    (case z_super => k_is)
    (case z_str => k_is)

