import PyProof.Rows.All
import Wide.All
import OpenK.AllK
import Wide.FinOn
import HandS.ForMost
import HandS.ForExc
import HandS.AnyAll
import KE.DataMinKey
import HandS.Lambda
import HandS.SortKw
import HandS.More
import HandS.GenList
import HandS.TupSets
import HandS.Strs
import HandS.Sort
import HandS.SortOrd
import HandS.SortRule
import KE.KSortTup
import PyProof.EqAt
import PyProof.EqKinds
import HandS.DictComp
import HandS.FStr
import HandS.RaiseMore
import HandS.MakeKwOnly
import HandS.EndTab
import KE.KNestM
import HandS.Codes
import HandS.Text
import HandS.Star
import HandS.TupAny
import HandS.Deep
import HandS.TryOnly
import HandS.ExcInit
import HandS.Rev
import HandS.Walk
import HandS.Property
import HandS.ExcOwn
import PyProof.ReprRoads
import PyProof.ReprLen
import HandS.EndOwn
import HandS.TryMany
import KE.KExcSuper
import KE.KExcIs
import HandS.ExcField
import HandS.Words
import HandS.WordsExc
import PyProof.CallFns
import PySem.Challenge.RW_waypapers_k34_vital_roads
set_option Elab.async false
set_option linter.all false
set_option maxRecDepth 100000
set_option maxHeartbeats 4000000
/-! all(test for x in text), where the test reads constants of the module: the walked element knows the base heap and the def's globals. -/
namespace MyG
open PySem PySem.Spec PyProof.Rows L2 GxR
/-- what the element's evaluation may lean on: the base heap stands, the globals are the module's, no exception is handled -/
def EltB (prog : Program) (w : World) (base : Heap) (scope : Scope) (x : Str) (elt : Expr) (pb : Nat → Bool) : Prop :=
  ∀ (ce : Env) (B : Around) (F : Value → Shared → Prop) (c : Nat) (t : Tok) (z : Shared) (m : Str → Option Value),
    ce.scope = scope → ce.globals = mainGlobals → B.handled = none → (∀ b o, base.get? b = some o → z.heap.get? b = some o) →
    z.heap.Ns ce.locals m → m x = some (.str ⟨#[c]⟩ t) → wpAny (model prog w) B (eval elt ce) (fun y z' => y = .bool (pb c) ∧ Keeps z z') F z
section
variable {X : Cx} {pins : List (Addr × Obj)} {σ : L2.St} {H : Hp} {s : Shared}
theorem genB {c P : Addr} {elt iter : Expr} {x : Str} {px gpos : Pos} {scope : Scope} {pb : Nat → Bool} {te : TE} {k : Nat} {Q' : Value → Shared → Prop} {R : Str → Hp → Prop}
    (hr : Room k X.A) (TB : TabB X.base X.mg c P) (hcode : X.env.code = .ref c) (S : GenS X.env scope x) (hi : PE X iter te) (hel : EltB X.prog X.w X.base scope x elt pb)
    (hs : ∀ v, genFold iter X.env v = pure v) (I : Inv X pins σ H s) (h : te σ H fun v H1 => ∃ a : Str, v = .str a ∧ TabG H1 P ∧ R a H1)
    (hQ : ∀ a H1 g z, R a H1 → Ready X pins σ H1 P a pb g z → Q' (.ref g) z) :
    wpAny (model X.prog X.w) X.A (eval (.GeneratorExp elt [⟨.Name x px, iter, [], 0⟩] scope gpos) X.env) Q' X.xe s := by
  refine wpAny_GeneratorExp_walksQ hr.hd S.co (closure_ok S.free) S.cell S.dot S.loc S.kind (by have := hr.dp; omega) ?_ hs
  refine thn (hi.run pins s σ H _ I h) fun xv s1 ⟨v, H1, I1, r1, a, ev, tb, q1⟩ => ?_
  subst ev
  obtain ⟨t, rfl⟩ := _root_.id r1
  obtain ⟨ps, hP, ht⟩ := tb
  refine wpAny_pyIter_str fun o St W hst => ?_
  have eP : s1.heap.get? P = some { cls := .none, data := .fields ps } := I1.hok P _ hP
  have ltP : P < s1.heap.objs.size := Heap.lt_size eP
  have eP2 := Heap.get?_push_of_some o eP
  have cd : PySem.W.CodeHd (s1.heap.push o) c P := TB.code.keeps fun b u e => Heap.get?_push_of_some _ (I1.bk b u e)
  have lim := I1.nolimit.push o
  have szp : (s1.heap.push o).objs.size = s1.heap.objs.size + 1 := Heap.size_push ..
  -- the base is not the table
  have nbP : ∀ b u, X.base.get? b = some u → b ≠ P := fun b u e z => by
    have q := (I1.bs b u e).2
    rw [z, hP] at q
    cases q
  have stP : cStatics ≠ P := fun e => by
    obtain ⟨_, ⟨o', es, ep, ho, hd, _⟩, _⟩ := I1.nolimit
    rw [e, eP] at ho
    cases ho
    cases hd
  have stlt : cStatics < s1.heap.objs.size := let ⟨_, hns, _⟩ := I1.nolimit; hns.lt
  -- behind the code object (made or found): h3, the table ps'
  have go : ∀ (code : Value) (h3 : Heap) (tk : Nat) (more : Array Value), Heap.ExtBut P (s1.heap.push o) h3 → (s1.heap.push o).objs.size ≤ h3.objs.size → h3.get? P = some { cls := .none, data := .fields (ps ++ more) } → TriplesOk (ps ++ more).toList →
      wpAny (model X.prog X.w) X.A (builtinsFor X.env.globals X.env.builtins) (fun bi s₄ =>
        ∃ Ia fp wr n₀ Pf St₀ pz F, Value.ref s1.heap.objs.size = .ref Ia ∧ (∀ A' : Around, A'.handled = none → Walks X.prog X.w A' Ia fp wr n₀ Pf St₀) ∧ St₀ 0 s₄.heap ∧ (∀ b ∈ fp, b < s₄.heap.objs.size) ∧ s₄.heap.NoLimit ∧ cStatics ∉ wr ∧
          (∀ href : Heap, (∀ b o, s₄.heap.get? b = some o → href.get? b = some o) →
            QuietGen X.prog X.w (genEnv scope (cloFrom X.env.cells scope.names []) s₄.heap.objs.size code bi X.env) x [] elt (List.range s₄.heap.objs.size) wr Pf pz F href) ∧
          (∀ a h₅ tk gs, gs.bare = true → s₄.heap.objs.size < a → h₅.objs.size = a + 1 → (∀ b o, s₄.heap.get? b = some o → h₅.get? b = some o) →
            WalksS X.prog X.w X.A.in4 a (a :: s₄.heap.objs.size :: List.range s₄.heap.objs.size) (s₄.heap.objs.size :: wr) (GenOnlyQ s₄.gens.size) (passing pz n₀ 0).length
              (fun j y => ∃ i, (passing pz n₀ 0)[j]? = some i ∧ F i y) (GenAt X.prog X.w X.A.in4 a s₄.gens.size s₄.heap.objs.size (List.range s₄.heap.objs.size) wr pz n₀ F) →
            GenAt X.prog X.w X.A.in4 a s₄.gens.size s₄.heap.objs.size (List.range s₄.heap.objs.size) wr pz n₀ F 0 { s₄ with gens := s₄.gens.push gs, toks := tk, heap := h₅ } →
            Q' (.ref a) { s₄ with gens := s₄.gens.push gs, toks := tk, heap := h₅ })) X.xe { s1 with heap := h3, toks := tk } := by
    intro code h3 tk more hx hsz e3 ht3
    obtain ⟨bm, ob, b1, b2, b3, b4, b5, b6, b7, b8⟩ := TB.bm
    have old : ∀ b u, b ≠ P → s1.heap.get? b = some u → h3.get? b = some u := fun b u hb e => hx b u hb (Heap.get?_push_of_some _ e)
    refine wpAny_builtinsFor (m := X.mg) (by rw [I1.ok.glob]; exact ((I1.mod.glob.keeps I1.bk).push o).extBut hx TB.gP) b1 b2 (old _ _ b4 (I1.bk _ _ b5)) b6 b7 b8 ?_
    refine ⟨s1.heap.objs.size, [s1.heap.objs.size], [s1.heap.objs.size], a.cps.size, SignAt a, St, (fun _ => true), (fun i y => ∃ cc, a.cps[i]? = some cc ∧ y = .bool (pb cc)), rfl, W, ?_, ?_, lim.extBut hx stP, ?_, ?_, ?_⟩
    · refine (W X.A hr.hd).frame _ _ _ hst fun b hb u e => hx b u (fun z => ?_) e
      have hb' : b = s1.heap.objs.size := List.mem_singleton.mp hb
      exact Nat.ne_of_lt ltP (z.symm.trans hb')
    · intro b hb
      have hb' : b = s1.heap.objs.size := List.mem_singleton.mp hb
      rw [hb']
      exact Nat.lt_of_lt_of_le (by rw [szp]; exact Nat.lt_succ_self _) hsz
    · intro z
      exact Nat.ne_of_lt stlt (List.mem_singleton.mp z)
    · intro href hk
      constructor
      · intro A' E' i v s₂ m₂ hA hPv hn hm hk2
        simp only [List.forIn_nil]
        exact wpAny_pure ⟨rfl, keeps_refl _⟩
      · intro A' E' i v s₂ m₂ hA hPv hp hn hm hk2
        obtain ⟨cc, u, hcc, rfl⟩ := hPv
        refine wpAny_mono (hel _ A' E' cc u s₂ m₂ rfl I1.ok.glob hA (fun b w' e => ?_) hn hm) (fun y s3 r => ⟨⟨cc, hcc, r.1⟩, r.2⟩) fun _ _ e => e
        have e1 := I1.bk b w' e
        have e2 := old b w' (nbP b w' e) e1
        have l1 : b < s1.heap.objs.size := Heap.lt_size e1
        refine hk2 b (List.mem_range.mpr (Heap.lt_size e2)) (fun z => ?_) w' (hk b w' e2)
        exact Nat.ne_of_lt l1 (List.mem_singleton.mp z)
    · intro g h5 tk5 gs hgb hag hsz5 hk5 W5 hat
      simp only [GxR.passing_true, List.length_range] at W5
      refine hQ a H1 g _ q1 ⟨_, _, _, _, _, W5.in4_1, hat, ?_, fun s' hm => ?_⟩
      · intro j y sj Qj Ej hy hQj
        obtain ⟨i, hij, cc, hcc, rfl⟩ := hy
        obtain ⟨hj, ej⟩ := List.getElem?_eq_some_iff.mp hij
        rw [List.getElem_range] at ej
        subst ej
        have e9 : a.cps.toList[j]? = some cc := by rw [Array.getElem?_toList]; exact hcc
        have hQ2 : Qj (trF pb a.cps.toList j) sj := hQj
        rw [trF_some e9] at hQ2
        exact wpAny_truthy_bool hQ2
      · have nwr : ∀ b u, s1.heap.get? b = some u → b ∉ h3.objs.size :: [s1.heap.objs.size] := fun b u e hb => by
          have hl := Heap.lt_size e
          rcases List.mem_cons.mp hb with z | z
          · exact Nat.ne_of_lt (Nat.lt_of_lt_of_le (Nat.lt_trans hl (Nat.lt_succ_self _)) (Nat.le_trans (Nat.le_of_eq szp.symm) hsz)) z
          · exact Nat.ne_of_lt hl (List.mem_singleton.mp z)
        have J := inv_tab (more := more) (h' := s'.heap) (g' := s'.gens) (d' := s'.drawn) (t' := s'.toks) I1 hP (fun b u hb e => hm.heap b u (nwr b u e) (hk5 b u (old b u hb e)))
          (hm.heap P _ (nwr P _ eP) (hk5 P _ e3)) (AllBare.movedS (I1.bare.push hgb) hm)
        rw [sh_eta s1 s' hm.os] at J
        exact ⟨upd H1 P (.tbl (ps ++ more)), ⟨⟨ps ++ more, upd_same, ht3⟩, fun b hb => upd_ne hb⟩, J⟩
  refine ⟨lim, ?_⟩
  cases hf : codeAmong gpos ps.toList with
  | none =>
    refine wpAny_genexprCodeX hcode (cd.code eP2 ht) (cd.tab eP2) hf fun c' h' tk hx hge hlt hco' _ htab' _ => ?_
    obtain ⟨o1, vs, f1, tf, fl, tg, inF, tx, tt, op, _, _, _, _, _, _, _, _, _, htr, _⟩ := hco'
    exact go _ h' tk _ hx (Nat.le_trans hge (Nat.le_of_lt hlt)) htab'.2 htr
  | some cv =>
    refine wpAny_genexprCode_hit hcode (cd.code eP2 ht) hf ?_
    refine go cv (s1.heap.push o) s1.toks #[] (Heap.ExtBut.refl _ _) (Nat.le_refl _) ?_ ?_
    · rw [Array.append_empty]; exact eP2
    · rw [Array.append_empty]; exact ht

/-- all(test for x in e), e a text -/
theorem pe_allB {c P : Addr} {elt iter : Expr} {x : Str} {px p pos gpos : Pos} {scope : Scope} {pb : Nat → Bool} {te : TE} {k : Nat}
    (hr : Room k X.A) (hg : Gl X "all") (hm : X.mg "all" = none) (TB : TabB X.base X.mg c P) (hcode : X.env.code = .ref c) (S : GenS X.env scope x) (hi : PE X iter te) (hel : EltB X.prog X.w X.base scope x elt pb)
    (hs : ∀ v, genFold iter X.env v = pure v)
    (he : starEach [.GeneratorExp elt [⟨.Name x px, iter, [], 0⟩] scope gpos] X.env = (false, eval (.GeneratorExp elt [⟨.Name x px, iter, [], 0⟩] scope gpos) X.env) :: starEach [] X.env := by rfl) :
    PE X (.Call (.Name "all" p) [.GeneratorExp elt [⟨.Name x px, iter, [], 0⟩] scope gpos] [] pos) (tAllS P pb te) := by
  refine ⟨fun pins s σ H Q I h => ?_⟩
  refine wpAny_Call_Name_kw (ld_blt I hg hm (by decide +kernel : bootBuiltins "all" = some (.builtin "all")) ?_)
  refine PyProof.Rows.callWith_builtin1 ?_ he (by rfl)
  rw [he]
  refine Calls.spliced_cons (genB (R := fun a H1 => ∀ H2, Tabbed P H1 H2 → Q (.bl (a.cps.toList.all pb)) H2) hr TB hcode S hi hel hs I h fun a H1 g z hR hG => Calls.spliced_nil ?_)
  obtain ⟨fp, wr, G, F, St, W, hst, htr, hI⟩ := hG
  refine call_all_walkS (W.self 0 _ _ _ hst ⟨g, fp, wr, G, _, F, St, _, rfl, W, hst, htr, fun s' hmv => ?_⟩)
  obtain ⟨H2, hT, J⟩ := hI s' hmv
  exact ⟨.bl _, H2, J, rfl, by rw [all_signs a pb]; exact hR H2 hT⟩
end
end MyG

set_option Elab.async false
set_option linter.all false
set_option maxRecDepth 100000
set_option maxHeartbeats 2000000
/-! min(l, key=lambda row: row[k], default=None), max(..) -/
namespace LamK
open PySem PySem.Spec PyProof.Rows L2 LamX
abbrev fnObj (q : Str) (params : Arguments) (body : Expr) (scope : Scope) (cl : List (Str × Addr)) (pm : Value) (c' : Addr) (ctv : Value) : Obj := PySem.W.kla_obj "<lambda>" q params body scope cl pm c' ctv
/-- a lambda of one parameter, no other name -/
structure RowLam (row : Str) (params : Arguments) (scope : Scope) : Prop where
  kind : scope.kind = .function
  co : scope.isCoroutine = false
  gen : scope.isGenerator = false
  cell : ∀ y ∈ scope.names, y.2 ≠ .cell
  nofree : ∀ y ∈ scope.names, y.2 ≠ .free
  loc : scope.names.lookup row = some .local
  bind : ∀ (q : Str) (body : Expr) (cl : List (Str × Addr)) (pm cv ctv v : Value), bindArgs (PySem.W.kla_fn "<lambda>" q params body scope cl pm cv ctv) ⟨[v], []⟩ = pure [(row, v)]
section
variable {prog : Program} {w : World} {A : Around} {E : Value → Shared → Prop} {s : Shared}
theorem call_row {row q : Str} {params : Arguments} {scope : Scope} {cl : List (Str × Addr)} {pm ctv y : Value} {c' f t : Addr} {its : Array Value} {k : Nat} {j : Nat} {p1 p2 p3 : Pos} {Q : Value → Shared → Prop} (L : RowLam row params scope) (hd : A.depth < recursionLimit)
    (of : s.heap.get? f = some (fnObj q params (.Subscript (.Name row p1) (.Constant (.int k) j p2) p3) scope cl pm c' ctv)) (cr : s.heap.CodeRec (.ref c') q) (lim : s.heap.NoLimit) (ht : IsTup s.heap t its) (hk : its[k]? = some y) (hsz : its.size ≤ sizeLine) (hdb : (row == ("__debug__" : Str)) = false)
    (hQ : ∀ h' tk, (∀ b o, s.heap.get? b = some o → h'.get? b = some o) → s.toks ≤ tk → Q y { s with heap := h', toks := tk }) :
    wpAny (model prog w) A (call (.ref f) [.ref t]) Q E s := by
  refine wpAny_call (PySem.W.kla_callFunE hd of rfl L.co L.gen rfl cr ?_)
  rw [L.bind]
  refine wpAny_pure (wpAny_newFunctionEnv L.cell (fun z hz => ?_) (fun h₁ hns hsb => ⟨lim.fresh _ hsb, ?_⟩) L.kind)
  · rw [List.mem_singleton.mp hz]; exact L.loc
  have kp : ∀ b o, s.heap.get? b = some o → h₁.get? b = some o := fun b o e => hsb.extBut b o (Nat.ne_of_lt (Heap.lt_size e)) (Heap.get?_push_of_some _ e)
  refine PySem.W.kla_codeExpr ?_
  refine Subscript_ (wpAny_Name (wpAny_loadName_local L.kind L.loc hns (show ([(row, Value.ref t)] : List (Str × Value)).reverse.lookup row = some (.ref t) by simp) ?_) hdb)
  refine wpAny_Constant_int ?_
  have ht1 : IsTup h₁ t its := by
    obtain ⟨o, e, r⟩ := ht
    exact ⟨o, kp t o e, r⟩
  have hkl : k < its.size := (Array.getElem?_eq_some_iff.mp hk).1
  have l63 := line63
  refine subscriptTail_builtinR (x := y) ht1.typeIs slot_tuple_getitem.lookup (getItem_tuple (j := k) ht1 (by omega) (by omega) ?_ hk ⟨rfl, ?_⟩)
  · have c0 : ¬ (k : Int) < 0 := by omega
    unfold seqIndex?
    simp [c0, hkl]
  · exact hQ h₁ _ kp (Nat.le_trans (Nat.le_succ _) (Nat.le_succ _))
theorem best_min {rows : Nat → Int} : ∀ n, (∀ j, j ≤ n → rows (argBest (fun i j => decide (rows i < rows j)) n) ≤ rows j) ∧ (∀ j, j < argBest (fun i j => decide (rows i < rows j)) n → rows (argBest (fun i j => decide (rows i < rows j)) n) < rows j) ∧ argBest (fun i j => decide (rows i < rows j)) n ≤ n
  | 0 => ⟨fun j hj => by rw [Nat.le_zero.mp hj]; exact Int.le_refl _, fun j hj => absurd hj (Nat.not_lt_zero _), Nat.le_refl _⟩
  | n + 1 => by
    obtain ⟨h1, h2, h3⟩ := best_min (rows := rows) n
    generalize hb : argBest (fun i j => decide (rows i < rows j)) n = b at h1 h2 h3
    have e : argBest (fun i j => decide (rows i < rows j)) (n + 1) = if decide (rows (n + 1) < rows b) then n + 1 else b := by rw [← hb]; rfl
    rw [e]
    by_cases c : rows (n + 1) < rows b
    · rw [if_pos (decide_eq_true c)]
      refine ⟨fun j hj => ?_, fun j hj => ?_, Nat.le_refl _⟩
      · by_cases ej : j = n + 1
        · rw [ej]; exact Int.le_refl _
        · have := h1 j (by omega); omega
      · have := h1 j (by omega); omega
    · rw [if_neg (by simpa using c)]
      refine ⟨fun j hj => ?_, h2, by omega⟩
      by_cases ej : j = n + 1
      · rw [ej]; omega
      · exact h1 j (by omega)
theorem best_max {rows : Nat → Int} (n : Nat) : (∀ j, j ≤ n → rows j ≤ rows (argBest (fun i j => decide (rows j < rows i)) n)) ∧ (∀ j, j < argBest (fun i j => decide (rows j < rows i)) n → rows j < rows (argBest (fun i j => decide (rows j < rows i)) n)) ∧ argBest (fun i j => decide (rows j < rows i)) n ≤ n := by
  have e : (fun i j => decide (rows j < rows i)) = (fun i j => decide ((fun x => - rows x) i < (fun x => - rows x) j)) := by
    funext i j
    exact decide_eq_decide.mpr ⟨fun h => by show - rows i < - rows j; omega, fun h => by have h' : - rows i < - rows j := h; omega⟩
  have q := best_min (rows := fun x => - rows x) n
  rw [e]
  generalize argBest (fun i j => decide ((fun x => - rows x) i < (fun x => - rows x) j)) n = B at q ⊢
  obtain ⟨h1, h2, h3⟩ := q
  exact ⟨fun j hj => by have h' : - rows B ≤ - rows j := h1 j hj; omega, fun j hj => by have h' : - rows B < - rows j := h2 j hj; omega, h3⟩
/-- the rows of a list, as they stand -/
structure RowsAt (s : Shared) (vs : Array Value) (k : Nat) (rows : Nat → Int) : Prop where
  at_ : ∀ i v, vs[i]? = some v → ∃ (t : Addr) (its : Array Value) (u : Tok), v = .ref t ∧ IsTup s.heap t its ∧ its[k]? = some (.int (rows i) u) ∧ its.size ≤ sizeLine
theorem key_run {op : CmpOp} {bt : Nat → Nat → Bool} {row q : Str} {params : Arguments} {scope : Scope} {cl : List (Str × Addr)} {pm ctv : Value} {c' f l S : Addr} {k j : Nat} {p1 p2 p3 : Pos} {vs : Array Value} {rows : Nat → Int} {St : Nat → Shared → Prop} (L : RowLam row params scope) (hd : A.depth < recursionLimit) (hS : s.heap.objs.size < S)
    (of : s.heap.get? f = some (fnObj q params (.Subscript (.Name row p1) (.Constant (.int k) j p2) p3) scope cl pm c' ctv)) (cr : ∃ (oc : Obj) (vs : Array Value) (t : Tok), s.heap.get? c' = some oc ∧ oc.data = .fields vs ∧ vs[1]? = some (.str q t)) (lim : s.heap.NoLimit) (hR : RowsAt s vs k rows) (hdb : (row == ("__debug__" : Str)) = false)
    (frame : ∀ i (s : Shared) h' tk, St i s → s.toks ≤ tk → (∀ b ∈ [s_0, l], ∀ o, s.heap.get? b = some o → h'.get? b = some o) → St i { s with heap := h', toks := tk })
    (hcmp : ∀ i j t u (s : Shared) (Q : Value → Shared → Prop) (E : Value → Shared → Prop), Q (.bool (bt i j)) s → wpAny (model prog w) A (richCompare op (.int (rows i) t) (.int (rows j) u)) Q E s) :
    KeyRun prog w A (.ref f) op S [s.heap.objs.size] (fun a b => b = a) vs.size (fun i v => vs[i]? = some v) St (Keeps s) (fun i k _ => ∃ u, k = .int (rows i) u) bt where
  keep := fun s1 s2 h m => by
    obtain ⟨h', tk, rfl, hk⟩ := h
    refine ⟨s2.heap, s2.toks, ?_, fun b o e => m.heap b o (fun hb => ?_) (hk b o e)⟩
    · obtain ⟨hp, g, d, tk2, os⟩ := s2
      have h1 : g = s.gens := m.gens
      have h2 : d = s.drawn := m.drawn
      have h3 : os = s.os := m.os
      subst h1 h2 h3
      rfl
    · have lt := Heap.lt_size e
      rcases List.mem_cons.mp hb with z | z
      · rw [z] at lt; exact Nat.lt_irrefl _ (Nat.lt_trans lt hS)
      · rw [List.mem_singleton.mp z] at lt; exact Nat.lt_irrefl _ lt
  keepV := fun i k s s' h _ => h
  turn := fun i v s1 o Q E hi hv hJ hst hSo h => by
    obtain ⟨h', tk, rfl, hk⟩ := hJ
    obtain ⟨t, its, u, rfl, ht, hik, hz⟩ := hR.at_ i v hv
    have ht1 : IsTup h' t its := by
      obtain ⟨o, e, r⟩ := ht
      exact ⟨o, hk t o e, r⟩
    obtain ⟨oc, vs2, t2, e1, e2, e3⟩ := cr
    refine call_row L hd (hk _ _ of) ⟨c', oc, vs2, t2, rfl, hk _ _ e1, e2, e3⟩ (lim.keeps hk) ht1 hik hz hdb fun h2 tk2 hk2 htk => ?_
    exact h _ _ ⟨h2, tk2, rfl, fun b o e => hk2 b o (hk b o e)⟩ (frame _ _ _ _ hst htk fun b _ o e => hk2 b o e) (hk2 _ _ hSo) ⟨u, rfl⟩ fun j k' hj => hj
  cmp := fun i j ki kj s Q E _ ⟨t, e1⟩ ⟨u, e2⟩ hq => by
    subst e1 e2
    exact hcmp i j t u s Q E hq
theorem min_rows {row q : Str} {params : Arguments} {scope : Scope} {cl : List (Str × Addr)} {pm ctv : Value} {c' f l : Addr} {k j : Nat} {p1 p2 p3 : Pos} {vs : Array Value} {rows : Nat → Int} {Q : Value → Shared → Prop} (L : RowLam row params scope) (hh : A.handled = none) (hd : A.depth < recursionLimit) (hl : s.heap.IsList l vs)
    (of : s.heap.get? f = some (fnObj q params (.Subscript (.Name row p1) (.Constant (.int k) j p2) p3) scope cl pm c' ctv)) (cr : ∃ (oc : Obj) (vs : Array Value) (t : Tok), s.heap.get? c' = some oc ∧ oc.data = .fields vs ∧ vs[1]? = some (.str q t)) (lim : s.heap.NoLimit) (hR : RowsAt s vs k rows) (hdb : (row == ("__debug__" : Str)) = false)
    (h0 : vs.size = 0 → ∀ h' tk, (∀ b o, s.heap.get? b = some o → h'.get? b = some o) → Q .none { s with heap := h', toks := tk })
    (h : ∀ i v h' tk, vs[i]? = some v → (∀ j, j < vs.size → rows i ≤ rows j) → (∀ j, j < i → rows i < rows j) → (∀ b o, s.heap.get? b = some o → h'.get? b = some o) → Q v { s with heap := h', toks := tk }) :
    wpAny (model prog w) A (call (.builtin "min") [.ref l] [(Str.ofString "key", .ref f), (Str.ofString "default", .none)]) Q E s := by
  refine call_min_walkKD (PySem.W.iter_listW (A := A.in1) hh hl fun s₂ e W st hfp hw hk => ?_)
  refine ⟨_, _, _, _, _, _, _, Keeps s, _, _, rfl, W, st, hfp, key_run (bt := fun i j => decide (rows i < rows j)) L hd ?_ of cr lim hR hdb W.frame (fun i j t u s Q E hq => lt_int hq), ⟨_, _, e, fun b o q => Heap.get?_push_of_some _ q⟩, fun hz s' hJ => ?_, fun hn v s' hv hJ => ?_⟩
  · rw [e]; show s.heap.objs.size < (s.heap.push _).objs.size; rw [Heap.size_push]; exact Nat.lt_succ_self _
  · obtain ⟨h', tk, rfl, hk'⟩ := hJ
    exact h0 hz h' tk hk'
  · obtain ⟨h', tk, rfl, hk'⟩ := hJ
    obtain ⟨b1, b2, b3⟩ := best_min (rows := rows) (vs.size - 1)
    exact h _ v h' tk hv (fun j hj => b1 j (by omega)) b2 hk'
theorem max_rows {row q : Str} {params : Arguments} {scope : Scope} {cl : List (Str × Addr)} {pm ctv : Value} {c' f l : Addr} {k j : Nat} {p1 p2 p3 : Pos} {vs : Array Value} {rows : Nat → Int} {Q : Value → Shared → Prop} (L : RowLam row params scope) (hh : A.handled = none) (hd : A.depth < recursionLimit) (hl : s.heap.IsList l vs)
    (of : s.heap.get? f = some (fnObj q params (.Subscript (.Name row p1) (.Constant (.int k) j p2) p3) scope cl pm c' ctv)) (cr : ∃ (oc : Obj) (vs : Array Value) (t : Tok), s.heap.get? c' = some oc ∧ oc.data = .fields vs ∧ vs[1]? = some (.str q t)) (lim : s.heap.NoLimit) (hR : RowsAt s vs k rows) (hdb : (row == ("__debug__" : Str)) = false)
    (h0 : vs.size = 0 → ∀ h' tk, (∀ b o, s.heap.get? b = some o → h'.get? b = some o) → Q .none { s with heap := h', toks := tk })
    (h : ∀ i v h' tk, vs[i]? = some v → (∀ j, j < vs.size → rows j ≤ rows i) → (∀ j, j < i → rows j < rows i) → (∀ b o, s.heap.get? b = some o → h'.get? b = some o) → Q v { s with heap := h', toks := tk }) :
    wpAny (model prog w) A (call (.builtin "max") [.ref l] [(Str.ofString "key", .ref f), (Str.ofString "default", .none)]) Q E s := by
  refine call_max_walkKD (PySem.W.iter_listW (A := A.in1) hh hl fun s₂ e W st hfp hw hk => ?_)
  refine ⟨_, _, _, _, _, _, _, Keeps s, _, _, rfl, W, st, hfp, key_run (bt := fun i j => decide (rows j < rows i)) L hd ?_ of cr lim hR hdb W.frame (fun i j t u s Q E hq => gt_int hq), ⟨_, _, e, fun b o q => Heap.get?_push_of_some _ q⟩, fun hz s' hJ => ?_, fun hn v s' hv hJ => ?_⟩
  · rw [e]; show s.heap.objs.size < (s.heap.push _).objs.size; rw [Heap.size_push]; exact Nat.lt_succ_self _
  · obtain ⟨h', tk, rfl, hk'⟩ := hJ
    exact h0 hz h' tk hk'
  · obtain ⟨h', tk, rfl, hk'⟩ := hJ
    obtain ⟨b1, b2, b3⟩ := best_max (rows := rows) (vs.size - 1)
    exact h _ v h' tk hv (fun j hj => b1 j (by omega)) b2 hk'
end
/-- a lambda was made in the def whose table is P -/
def LamStep (P : Addr) (q : Str) (H H1 : Hp) : Prop := TabS H1 P q ∧ (H1 = H ∨ ∃ (ps more : Array Value) (c' : Addr), H P = some (.tbl ps) ∧ H c' = none ∧ H1 = upd (upd H P (.tbl (ps ++ more))) c' (CodeO c' q))
theorem LamStep.old {P : Addr} {q : Str} {H H1 : Hp} (h : LamStep P q H H1) {b : Addr} {o : HO} (e : H b = some o) (n : b ≠ P) : H1 b = some o := by
  rcases h.2 with rfl | ⟨ps, more, c', hP, hc, rfl⟩
  · exact e
  · rw [upd_ne (ne_of_none e hc), upd_ne n]; exact e
theorem LamStep.old' {P : Addr} {q : Str} {H H1 : Hp} (h : LamStep P q H H1) {b : Addr} {o : HO} (e : H b = some o) (n : ∀ ps, o ≠ .tbl ps) : H1 b = some o := by
  rcases h.2 with rfl | ⟨ps, more, c', hP, hc, rfl⟩
  · exact e
  · rw [upd_ne (ne_of_none e hc), upd_ne (fun z => by rw [z, hP] at e; exact n _ (Option.some.inj e).symm)]; exact e
theorem LamStep.sqT {K : PySem.W.Frag} {P : Addr} {q : Str} {H H1 : Hp} (h : LamStep P q H H1) {a : Addr} {xs : List V} (m : SqT K H a xs) : SqT K H1 a xs := by
  rcases m with (m | ⟨o, m⟩) | m
  · exact .inl (.inl (h.old' m fun _ z => by cases z))
  · exact .inl (.inr ⟨o, h.old' m fun _ z => by cases z⟩)
  · exact .inr m
section
variable {X : Cx} {pins : List (Addr × Obj)} {σ : L2.St} {H : Hp} {s : Shared}
theorem lam_make3 {row : Str} {c P : Addr} {params : Arguments} {body : Expr} {scope : Scope} {pos : Pos} {E : Value → Shared → Prop} {Q : Value → Shared → Prop} (I : Inv X pins σ H s) (TB : TabB X.base X.mg c P) (hcode : X.env.code = .ref c) (hT : TabS H P (X.env.qual ++ "<lambda>")) (hdef : defaultsOf params X.env = ([], [])) (L : RowLam row params scope)
    (h : ∀ (f c' : Addr) (pm ctv : Value) (H1 : Hp) (s' : Shared), Inv X pins σ H1 s' → LamStep P (X.env.qual ++ "<lambda>") H H1 → s'.heap.get? f = some (fnObj (X.env.qual ++ "<lambda>") params body scope (cloFrom X.env.cells scope.names []) pm c' ctv) → H1 c' = some (CodeO c' (X.env.qual ++ "<lambda>")) → Q (.ref f) s') :
    wpAny (model X.prog X.w) X.A (eval (.Lambda params body scope pos) X.env) Q E s := by
  have hT0 := hT
  obtain ⟨ps, hP, ht, ha⟩ := hT
  have hcl : closureFor scope X.env = pure (cloFrom X.env.cells scope.names []) := closure_ok fun y hy e => absurd e (L.nofree y hy)
  have eP : s.heap.get? P = some { cls := .none, data := .fields ps } := I.hok P _ hP
  refine PySem.W.kla_eval hdef ?_
  rcases hc : codeAmong pos ps.toList with _ | cv
  · refine PySem.W.kla_makeFunction (mg := X.mg) (c := c) (P := P) (ps := ps) hcl I.ok.glob (I.mod.glob.keeps I.bk) hcode (TB.code.keeps I.bk) eP ht hc TB.gP (TB.bm.keeps I.bk) fun c' ctv h' tk hx hge hlt hrec htb => ?_
    obtain ⟨c2, oc, vs, t, e2, hoc, hd, hv⟩ := hrec
    cases e2
    have nc : H c' = none := I.hok.fresh hge
    have hnew := inv_table (q := X.env.qual ++ "<lambda>") (t' := tk) (more := #[rawInt pos.line, rawInt pos.col, .ref c']) (h' := h'.push (fnObj (X.env.qual ++ "<lambda>") params body scope (cloFrom X.env.cells scope.names []) ((X.mg "__name__").getD .none) c' ctv)) I hP (fun b o hb e => Heap.get?_push_of_some _ (hx b o hb e)) (Heap.get?_push_of_some _ htb) hge ⟨oc, vs, t, Heap.get?_push_of_some _ hoc, hd, hv⟩
    have hst : LamStep P (X.env.qual ++ "<lambda>") H (upd (upd H P (.tbl (ps ++ #[rawInt pos.line, rawInt pos.col, .ref c']))) c' (CodeO c' (X.env.qual ++ "<lambda>"))) := by
      have eL : (ps ++ #[rawInt pos.line, rawInt pos.col, .ref c']).toList = ps.toList ++ [rawInt pos.line, rawInt pos.col, .ref c'] := by simp
      refine ⟨⟨_, by rw [upd_ne (ne_of_none hP nc), upd_same], by rw [eL]; exact PySem.TriplesOk_snoc _ _ _ _ ht, fun p' cv hcv => ?_⟩, .inr ⟨ps, _, c', hP, nc, rfl⟩⟩
      rw [eL] at hcv
      rcases among_app _ ht hcv with z | z
      · obtain ⟨c0, e1, e2⟩ := ha p' cv z
        exact ⟨c0, e1, by rw [upd_ne (ne_of_none e2 nc), upd_ne (fun z => by rw [z, hP] at e2; exact codeO_ne _ (Option.some.inj e2).symm)]; exact e2⟩
      · exact ⟨c', z, upd_same⟩
    exact h h'.objs.size c' _ ctv _ _ hnew hst (Heap.get?_push_size _ rfl) upd_same
  · obtain ⟨c', rfl, hco⟩ := ha pos cv hc
    refine PySem.W.kla_makeFunctionHit (mg := X.mg) (c := c) (P := P) (ps := ps) hcl I.ok.glob (I.mod.glob.keeps I.bk) hcode (TB.code.keeps I.bk) eP ht hc (TB.bm.keeps I.bk) fun ctv h' tk hx hsz => ?_
    exact h h'.objs.size c' _ ctv H _ (I.kept fun b o e => Heap.get?_push_of_some _ (hx b o e)) ⟨hT0, .inl rfl⟩ (Heap.get?_push_size _ rfl) hco
/-- the rows of a list, with the numbers at k -/
def RowsV (K : PySem.W.Frag) (H : Hp) (k : Nat) (ns : List Int) (xs : List V) : Prop := ns.length = xs.length ∧ ∀ (i : Nat) (n : Int) (x : V), ns[i]? = some n → xs[i]? = some x → ∃ t ys, x = V.ref t ∧ SqT K H t ys ∧ ys[k]? = some (.int n)
def tKey (K : PySem.W.Frag) (P : Addr) (q : Str) (k : Nat) (lt : Int → Int → Prop) (t : TA) : TE := fun σ H Q => t σ H fun vs H1 => ∃ (l : Addr) (xs : List V) (ns : List Int), vs = [.ref l] ∧ H1 l = some (.lst xs) ∧ RowsV K H1 k ns xs ∧ TabS H1 P q ∧
  ∀ H2, LamStep P q H1 H2 → (xs = [] → Q .non H2) ∧ ∀ (i : Nat) (n : Int) (x : V), ns[i]? = some n → xs[i]? = some x → (∀ m ∈ ns, ¬ lt m n) → (∀ (j : Nat) (m : Int), j < i → ns[j]? = some m → lt n m) → Q x H2
/-- min(l, key=lambda row: row[k], default=None) -/
theorem pe_minKey {row : Str} {c P : Addr} {params : Arguments} {scope : Scope} {e : Expr} {es : List Expr} {t : TA} {k j jn : Nat} {kk : Nat} {p p1 p2 p3 pos lpos k1 k2 pn : Pos} (hr : Room kk X.A) (hg : Gl X "min") (hm : X.mg "min" = none) (ha : PA X (e :: es) t) (TB : TabB X.base X.mg c P) (hcode : X.env.code = .ref c) (hdef : defaultsOf params X.env = ([], [])) (L : RowLam row params scope) (hdb : (row == ("__debug__" : Str)) = false := by decide)
    (he : backTo pos (starEach (e :: es) X.env) = (false, eval e X.env) :: backTo pos (starEach es X.env) := by rfl) (hpl : (backTo pos (starEach (e :: es) X.env)).any (·.1) = false := by rfl) :
    PE X (.Call (.Name "min" p) (e :: es) [⟨some "key", .Lambda params (.Subscript (.Name row p1) (.Constant (.int k) j p2) p3) scope lpos, k1⟩, ⟨some "default", .Constant .none jn pn, k2⟩] pos) (tKey X.K P (X.env.qual ++ "<lambda>") k (fun a b => a < b) t) := by
  refine ⟨fun pins s σ H Q I h => ?_⟩
  refine wpAny_Call_Name_kw (ld_blt I hg hm (by decide +kernel : bootBuiltins "min" = some (.builtin "min")) ?_)
  refine PyProof.Rows.callWith_kw (thn (ha.run pos pins s σ H _ I h) fun us s1 ⟨vs, H1, I1, r1, q1⟩ => ?_) he hpl (by rfl) (by rfl)
  obtain ⟨l, xs, ns, rfl, hl, ⟨hlen, hrows⟩, hT, q⟩ := q1
  obtain rfl := Vals.ref1 r1
  show wpAny _ _ (evalAll [(do let v ← eval (.Lambda params (.Subscript (.Name row p1) (.Constant (.int k) j p2) p3) scope lpos) X.env; standAt pos; pure v), (do let v ← eval (.Constant .none jn pn) X.env; standAt pos; pure v)]) _ _ s1
  refine wpAny_evalAll_cons (wpAny_bind (lam_make3 I1 TB hcode hT hdef L fun f c' pm ctv H2 s2 I2 st of hc' => wpAny_bind (wpAny_standAt (wpAny_pure ?_))))
  refine wpAny_evalAll_cons (wpAny_bind (Constant_none (wpAny_bind (wpAny_standAt (wpAny_pure (wpAny_evalAll_nil ?_))))))
  have hl2 : H2 l = some (.lst xs) := st.old' hl fun _ z => by cases z
  obtain ⟨z, its, n, r, hlz, el⟩ := I2.lstM hl2
  obtain ⟨⟨oc, vs, tq, hoc, hdc, hvc⟩, _, _⟩ := I2.hok c' _ hc'
  have lr := r.length
  have get : ∀ (i : Nat) (v : Value), its.toArray[i]? = some v → ∃ (x : V) (m : Int), xs[i]? = some x ∧ ns[i]? = some m ∧ RelV x v := fun i v hv => by
    have hv2 : its[i]? = some v := by simpa using hv
    have hi2 : i < its.length := (List.getElem?_eq_some_iff.mp hv2).1
    have hx : xs[i]? = some (xs[i]'(by omega)) := List.getElem?_eq_getElem _
    obtain ⟨u, hu, ru⟩ := r.get hx
    rw [hv2] at hu
    cases hu
    exact ⟨_, _, hx, List.getElem?_eq_getElem (show i < ns.length by omega), ru⟩
  have hR : RowsAt s2 its.toArray k (fun i => ns.getD i 0) := ⟨fun i v hv => by
    obtain ⟨x, m, hx, hm2, ru⟩ := get i v hv
    obtain ⟨tt, ys, rfl, hq, hk⟩ := hrows i m x hm2 hx
    obtain rfl : v = Value.ref tt := ru
    obtain ⟨its2, r2, it2, lz⟩ := I2.tuple (st.sqT hq)
    obtain ⟨u, hu, rru⟩ := r2.get hk
    obtain ⟨t0, rfl⟩ := (show ∃ t, u = Value.int m t from rru)
    have l2 := r2.length
    refine ⟨tt, its2.toArray, t0, rfl, it2, ?_, by rw [List.size_toArray, ← l2]; exact lz⟩
    rw [show ns.getD i 0 = m by simp [hm2]]
    simpa using hu⟩
  have sz : its.toArray.size = ns.length := by rw [List.size_toArray, ← lr, hlen]
  show wpAny _ _ (call (.builtin "min") [.ref l] [(Str.ofString "key", .ref f), (Str.ofString "default", .none)]) _ _ s2
  refine min_rows L hr.hd hr.depth ⟨_, el, rfl, _, rfl⟩ of ⟨oc, vs, tq, hoc, hdc, hvc⟩ I2.nolimit hR hdb (fun h0 h' tk mo => ?_) fun i v h' tk hv b1 b2 mo => ?_
  · have hx0 : xs = [] := List.eq_nil_of_length_eq_zero (by omega)
    exact ⟨.non, H2, I2.kept (t' := tk) mo, rfl, (q H2 st).1 hx0⟩
  · obtain ⟨x, m, hx, hm2, ru⟩ := get i v hv
    refine ⟨x, H2, I2.kept (t' := tk) mo, ru, (q H2 st).2 i m x hm2 hx (fun m2 hm3 => ?_) fun i2 m2 hi2 hm3 => ?_⟩
    · obtain ⟨i2, hi2, e2⟩ := List.getElem_of_mem hm3
      have := b1 i2 (by omega)
      have e3 : ns[i2]? = some m2 := List.getElem?_eq_some_iff.mpr ⟨hi2, e2⟩
      simp only [List.getD_eq_getElem?_getD, hm2, e3, Option.getD_some] at this
      show ¬ m2 < m; omega
    · have := b2 i2 hi2
      simp only [List.getD_eq_getElem?_getD, hm2, hm3, Option.getD_some] at this
      exact this
/-- max(l, key=lambda row: row[k], default=None) -/
theorem pe_maxKey {row : Str} {c P : Addr} {params : Arguments} {scope : Scope} {e : Expr} {es : List Expr} {t : TA} {k j jn : Nat} {kk : Nat} {p p1 p2 p3 pos lpos k1 k2 pn : Pos} (hr : Room kk X.A) (hg : Gl X "max") (hm : X.mg "max" = none) (ha : PA X (e :: es) t) (TB : TabB X.base X.mg c P) (hcode : X.env.code = .ref c) (hdef : defaultsOf params X.env = ([], [])) (L : RowLam row params scope) (hdb : (row == ("__debug__" : Str)) = false := by decide)
    (he : backTo pos (starEach (e :: es) X.env) = (false, eval e X.env) :: backTo pos (starEach es X.env) := by rfl) (hpl : (backTo pos (starEach (e :: es) X.env)).any (·.1) = false := by rfl) :
    PE X (.Call (.Name "max" p) (e :: es) [⟨some "key", .Lambda params (.Subscript (.Name row p1) (.Constant (.int k) j p2) p3) scope lpos, k1⟩, ⟨some "default", .Constant .none jn pn, k2⟩] pos) (tKey X.K P (X.env.qual ++ "<lambda>") k (fun a b => b < a) t) := by
  refine ⟨fun pins s σ H Q I h => ?_⟩
  refine wpAny_Call_Name_kw (ld_blt I hg hm (by decide +kernel : bootBuiltins "max" = some (.builtin "max")) ?_)
  refine PyProof.Rows.callWith_kw (thn (ha.run pos pins s σ H _ I h) fun us s1 ⟨vs, H1, I1, r1, q1⟩ => ?_) he hpl (by rfl) (by rfl)
  obtain ⟨l, xs, ns, rfl, hl, ⟨hlen, hrows⟩, hT, q⟩ := q1
  obtain rfl := Vals.ref1 r1
  show wpAny _ _ (evalAll [(do let v ← eval (.Lambda params (.Subscript (.Name row p1) (.Constant (.int k) j p2) p3) scope lpos) X.env; standAt pos; pure v), (do let v ← eval (.Constant .none jn pn) X.env; standAt pos; pure v)]) _ _ s1
  refine wpAny_evalAll_cons (wpAny_bind (lam_make3 I1 TB hcode hT hdef L fun f c' pm ctv H2 s2 I2 st of hc' => wpAny_bind (wpAny_standAt (wpAny_pure ?_))))
  refine wpAny_evalAll_cons (wpAny_bind (Constant_none (wpAny_bind (wpAny_standAt (wpAny_pure (wpAny_evalAll_nil ?_))))))
  have hl2 : H2 l = some (.lst xs) := st.old' hl fun _ z => by cases z
  obtain ⟨z, its, n, r, hlz, el⟩ := I2.lstM hl2
  obtain ⟨⟨oc, vs, tq, hoc, hdc, hvc⟩, _, _⟩ := I2.hok c' _ hc'
  have lr := r.length
  have get : ∀ (i : Nat) (v : Value), its.toArray[i]? = some v → ∃ (x : V) (m : Int), xs[i]? = some x ∧ ns[i]? = some m ∧ RelV x v := fun i v hv => by
    have hv2 : its[i]? = some v := by simpa using hv
    have hi2 : i < its.length := (List.getElem?_eq_some_iff.mp hv2).1
    have hx : xs[i]? = some (xs[i]'(by omega)) := List.getElem?_eq_getElem _
    obtain ⟨u, hu, ru⟩ := r.get hx
    rw [hv2] at hu
    cases hu
    exact ⟨_, _, hx, List.getElem?_eq_getElem (show i < ns.length by omega), ru⟩
  have hR : RowsAt s2 its.toArray k (fun i => ns.getD i 0) := ⟨fun i v hv => by
    obtain ⟨x, m, hx, hm2, ru⟩ := get i v hv
    obtain ⟨tt, ys, rfl, hq, hk⟩ := hrows i m x hm2 hx
    obtain rfl : v = Value.ref tt := ru
    obtain ⟨its2, r2, it2, lz⟩ := I2.tuple (st.sqT hq)
    obtain ⟨u, hu, rru⟩ := r2.get hk
    obtain ⟨t0, rfl⟩ := (show ∃ t, u = Value.int m t from rru)
    have l2 := r2.length
    refine ⟨tt, its2.toArray, t0, rfl, it2, ?_, by rw [List.size_toArray, ← l2]; exact lz⟩
    rw [show ns.getD i 0 = m by simp [hm2]]
    simpa using hu⟩
  have sz : its.toArray.size = ns.length := by rw [List.size_toArray, ← lr, hlen]
  show wpAny _ _ (call (.builtin "max") [.ref l] [(Str.ofString "key", .ref f), (Str.ofString "default", .none)]) _ _ s2
  refine max_rows L hr.hd hr.depth ⟨_, el, rfl, _, rfl⟩ of ⟨oc, vs, tq, hoc, hdc, hvc⟩ I2.nolimit hR hdb (fun h0 h' tk mo => ?_) fun i v h' tk hv b1 b2 mo => ?_
  · have hx0 : xs = [] := List.eq_nil_of_length_eq_zero (by omega)
    exact ⟨.non, H2, I2.kept (t' := tk) mo, rfl, (q H2 st).1 hx0⟩
  · obtain ⟨x, m, hx, hm2, ru⟩ := get i v hv
    refine ⟨x, H2, I2.kept (t' := tk) mo, ru, (q H2 st).2 i m x hm2 hx (fun m2 hm3 => ?_) fun i2 m2 hi2 hm3 => ?_⟩
    · obtain ⟨i2, hi2, e2⟩ := List.getElem_of_mem hm3
      have := b1 i2 (by omega)
      have e3 : ns[i2]? = some m2 := List.getElem?_eq_some_iff.mpr ⟨hi2, e2⟩
      simp only [List.getD_eq_getElem?_getD, hm2, e3, Option.getD_some] at this
      show ¬ m < m2; omega
    · have := b2 i2 hi2
      simp only [List.getD_eq_getElem?_getD, hm2, hm3, Option.getD_some] at this
      exact this
end
end LamK

set_option Elab.async false
set_option linter.all false
set_option maxRecDepth 100000
set_option maxHeartbeats 2000000
/-! x(e, lambda row: body): the lambda may read names of the def that makes it; the def that gets it calls it by its own name. -/
namespace SprK
open PySem PySem.Spec PyProof.Rows L2 LamX LamK
/-- one parameter, no other name of its own: captured ones and globals -/
structure LamS1 (row : Str) (sc scope : Scope) : Prop where
  kind : scope.kind = .function
  co : scope.isCoroutine = false
  gen : scope.isGenerator = false
  cell : ∀ y ∈ scope.names, y.2 ≠ .cell
  par : scope.names.lookup row = some .local
  own : ∀ y ∈ scope.names, y.2 = .local → y.1 = row
  free : ∀ y ∈ scope.names, y.2 = .free → sc.names.lookup y.1 = some .cell ∨ sc.names.lookup y.1 = some .free
def lamS1B (row : Str) (sc scope : Scope) : Bool :=
  decide (scope.kind = .function) && !scope.isCoroutine && !scope.isGenerator && decide (scope.names.lookup row = some .local) && scope.names.all fun y => !decide (y.2 = .cell) && (!decide (y.2 = .local) || decide (y.1 = row)) && (!decide (y.2 = .free) || decide (sc.names.lookup y.1 = some .cell) || decide (sc.names.lookup y.1 = some .free))
theorem lamS1_by {row : Str} {sc scope : Scope} (h : lamS1B row sc scope = true) : LamS1 row sc scope := by
  unfold lamS1B at h
  simp only [Bool.and_eq_true, Bool.or_eq_true, Bool.not_eq_true', decide_eq_true_eq, decide_eq_false_iff_not, List.all_eq_true] at h
  obtain ⟨⟨⟨⟨h1, h2⟩, h3⟩, h4⟩, h5⟩ := h
  refine ⟨h1, h2, h3, fun y hy => (h5 y hy).1.1, h4, fun y hy e => ?_, fun y hy e => ?_⟩
  · rcases (h5 y hy).1.2 with z | z
    · exact absurd e z
    · exact z
  · rcases (h5 y hy).2 with (z | z) | z
    · exact absurd e z
    · exact .inl z
    · exact .inr z
theorem LamS1.has {X : Cx} {row : Str} {scope : Scope} (L : LamS1 row X.env.scope scope) (ok : X.Ok) : ∀ y ∈ scope.names, y.2 = .free → ∃ c, X.env.cells.lookup y.1 = some c := fun y hy e => by
  rcases L.free y hy e with k | k
  · exact ok.has _ (.inl k)
  · exact ok.has _ (.inr k)
/-- the context of the lambda's body: the parameter ahead of the maker's names -/
def lamCx1 (X : Cx) (row : Str) (A : Around) (outer : List Env) (s : Shared) (H : Hp) (scope : Scope) (f c' : Addr) : Cx where
  prog := X.prog
  w := X.w
  K := X.K
  mg := X.mg
  base := X.base
  A := A.deeper (lamEnv X scope s.heap.objs.size f c')
  N := row :: X.N
  s_0 := s
  H_0 := H
  env := lamEnv X scope s.heap.objs.size f c'
  outer := outer
  stack := lamEnv X scope s.heap.objs.size f c' :: outer
  ex := []
  fn := fun _ => false
  calm := true
  pn := []
  xe := fun e s' => wpAny (model X.prog X.w) (A.deeper (lamEnv X scope s.heap.objs.size f c')) (leaving (lamEnv X scope s.heap.objs.size f c') e) (fun _ s'' => C8.CX0 outer H s C8.E0 e s'') (fun e' s'' => C8.CX0 outer H s C8.E0 e' s'') s'
section
variable {X : Cx} {pins : List (Addr × Obj)} {σ : L2.St} {H HZ : Hp} {s s1 : Shared}
theorem lam_start3 {row : Str} {A : Around} {outer : List Env} {scope : Scope} {f c' : Addr} {h₁ : Heap} {tk : Nat} {v0 : V} {u0 : Value} (I : Inv X pins σ H s) (L : LamS1 row X.env.scope scope) (hrow : row ∉ X.N) (e0 : Env0 X.prog X.w X.K X.mg X.base A outer s1 HZ) (hd : A.handled = none) (r0 : RelV v0 u0)
    (un : Un (frs X.stack) [] H HZ s.heap s1.heap) (hns : h₁.Ns s1.heap.objs.size fun y => ([(row, u0)] : List (Str × Value)).reverse.lookup y) (kp : ∀ b o, s1.heap.get? b = some o → h₁.get? b = some o) :
    Inv (lamCx1 X row A outer s1 HZ scope f c') [] (some v0 :: σ) HZ { s1 with heap := h₁, toks := tk } := by
  have hfree := L.has I.ok
  have cm : ∀ {y c}, (cloFrom X.env.cells scope.names []).lookup y = some c → X.env.cells.lookup y = some c := fun {y c} e => by
    rcases cloFrom_mem (PySem.mem_of_lookup e) with hm | ⟨h1, h2⟩
    · cases hm
    · obtain ⟨c1, hc⟩ := hfree _ h1 rfl
      have hc : X.env.cells.lookup y = some c1 := hc
      have e2 : c = c1 := by
        rw [h2, hc] <;> rfl
      rw [e2]
      exact hc
  have look : ∀ {y}, scope.names.lookup y = some .free → ∃ c, (cloFrom X.env.cells scope.names []).lookup y = some c := fun {y} hl => by
    have hy : (y, NameKind.free) ∈ scope.names := PySem.mem_of_lookup hl
    exact mem_lookup (cloFrom_has (cells := X.env.cells) (acc := []) hy)
  have cellK : ∀ {c : Addr} {v : Option Value}, H c = none → s.heap.IsCell c v → h₁.IsCell c v := fun {c v} n ⟨o, ho, hd⟩ => by
    obtain ⟨sl, q⟩ := un.any ho n (by simp)
    exact ⟨_, kp _ _ q, hd⟩
  have noA : ∀ b : Addr, b ∉ (lamCx1 X row A outer s1 HZ scope f c').ex := fun b z => absurd (show b ∈ ([] : List Addr) from z) (by simp)
  refine ⟨⟨e0.mod, L.kind, rfl, rfl, Nat.le_refl _, fun y z c e1 e2 => I.ok.inj y z c (cm e1) (cm e2), fun y hy => ?_, fun y c z _ => ?_, fun _ => hd, Around.frames_deeper e0.frames, .inr ⟨rfl, rfl⟩, fun b z => absurd z (noA b), e0.bs, e0.bsz, fun b _ _ => noA b,
      fun b z => absurd z (noA b), e0.funs, e0.frf⟩,
    rfl, e0.bare, Un.kept kp, ⟨_, hns, fun i y v e1 e2 e3 => ?_⟩, fun y c e => ?_, e0.hok.fresh (Nat.le_refl _), fun y c e => ?_, fun q hq => absurd (show q ∈ ([] : List (Addr × Obj)) ++ [] from hq) (by simp), e0.hok.kept kp, by show (some v0 :: σ).length = (row :: X.N).length; rw [List.length_cons, List.length_cons, I.len]⟩
  · have hy : scope.names.lookup y = some .cell ∨ scope.names.lookup y = some .free := hy
    rcases hy with hy | hy
    · exact absurd rfl (L.cell _ (PySem.mem_of_lookup hy))
    · exact look hy
  · have z : false = true := z
    cases z
  · have e3 : Vis scope y := e3
    have e1 : (row :: X.N)[i]? = some y := e1
    rcases i with _ | i
    · obtain rfl : row = y := Option.some.inj e1
      obtain rfl : v0 = v := Option.some.inj (Option.some.inj e2)
      exact ⟨u0, r0, .inl ⟨L.par, by simp⟩⟩
    · have e1 : X.N[i]? = some y := e1
      have e2 : σ[i]? = some (some v) := e2
      have ny : y ≠ row := fun z => hrow (z ▸ List.mem_of_getElem? e1)
      rcases e3 with k | k | k
      · exact absurd (L.own _ (PySem.mem_of_lookup k) rfl) ny
      · exact absurd rfl (L.cell _ (PySem.mem_of_lookup k))
      · obtain ⟨m, hn, hl⟩ := I.loc
        have hvis : Vis X.env.scope y := (L.free _ (PySem.mem_of_lookup k) rfl).elim (fun k => .inr (.inl k)) (fun k => .inr (.inr k))
        obtain ⟨w', r, q⟩ := hl i y v e1 e2 hvis
        obtain ⟨c2, h2⟩ := look k
        refine ⟨w', r, .inr ⟨.inr k, c2, h2, ?_⟩⟩
        have c1 := cm h2
        rcases q with ⟨k', _⟩ | ⟨_, c3, e', z⟩
        · have k' : X.env.scope.names.lookup y = some .local := k'
          rcases L.free _ (PySem.mem_of_lookup k) rfl with k2 | k2 <;> rw [show X.env.scope.names.lookup y = _ from k2] at k' <;> cases k'
        · rw [c1] at e'
          cases e'
          exact cellK (I.freeC y _ c1) z
  · obtain ⟨w', z⟩ := I.cell y c (cm e)
    exact ⟨w', cellK (I.freeC y c (cm e)) z⟩
  · obtain ⟨v, o, ho, hd⟩ := I.cell y c (cm e)
    exact un.free c o ho (I.freeC y c (cm e)) (by simp)
/-- a(e), in the def that got the lambda; that def's context, entered at s -/
abbrev gotCx (X : Cx) (Ng : List Str) (qg : Str) (sg : Scope) (g : Addr) (cdg : Value) (s : Shared) (H : Hp) : Cx := (cxOf C8.CX0 X.prog X.w X.K X.mg X.base Ng qg sg g cdg X.A X.stack s H C8.E0).nox
theorem pe_act1 {Ng : List Str} {qg row : Str} {sg : Scope} {g f c' : Addr} {cdg pm ctv : Value} {params : Arguments} {body e : Expr} {scope : Scope} {k i : Nat} {a : Str} {t : TA} {tb : TE} {p1 p2 : Pos}
    (I : Inv X pins σ H s) (L : LamS1 row X.env.scope scope) (hrow : row ∉ X.N) (hf : s.heap.get? f = some (PySem.W.kla_obj "<lambda>" (X.env.qual ++ "<lambda>") params body scope (cloFrom X.env.cells scope.names []) pm c' ctv)) (hfn : H f = none) (hfr : f ∉ frs X.stack)
    (hbind : ∀ v, bindArgs (PySem.W.kla_fn "<lambda>" (X.env.qual ++ "<lambda>") params body scope (cloFrom X.env.cells scope.names []) pm (.ref c') ctv) ⟨[v], []⟩ = pure [(row, v)])
    (hr : Room (k + 1) (X.A.deeper (envOfC qg sg s.heap.objs.size g cdg)))
    (hbody : ∀ (A : Around) (outer : List Env) (s : Shared) (H : Hp), Room k (A.deeper (lamEnv X scope s.heap.objs.size f c')) → PE (lamCx1 X row A outer s H scope f c') body tb)
    (hN : Ng[i]? = some a) (hv : Vis sg a) (ha : PA (gotCx X Ng qg sg g cdg s H) [e] t) (hd : (a == ("__debug__" : Str)) = false := by decide) (hcd : (a == ("__classdict__" : Str)) = false := by decide)
    (he : starEach [e] (gotCx X Ng qg sg g cdg s H).env = (false, eval e (gotCx X Ng qg sg g cdg s H).env) :: starEach [] (gotCx X Ng qg sg g cdg s H).env := by rfl) :
    PE (gotCx X Ng qg sg g cdg s H) (.Call (.Name a p1) [e] [] p2)
      (fun σZ HZ Q => σZ[i]? = some (some (.ref f)) ∧ t σZ HZ fun vs H1 => ∃ v, vs = [v] ∧ H1 c' = some (CodeO c' (X.env.qual ++ "<lambda>")) ∧ tb (some v :: σ) H1 Q) := by
  refine ⟨fun pinsZ sZ σZ HZ Q IZ h => ?_⟩
  obtain ⟨hs, ht⟩ := h
  refine wpAny_Call_Name_kw (thn ((pe_var (pos := p1) (i := i) hN hv hd hcd).run pinsZ sZ σZ HZ (fun v H1 => v = .ref f ∧ H1 = HZ) IZ ⟨.ref f, hs, rfl, rfl⟩) fun u s1 ⟨v, H1, I1, r1, q1⟩ => ?_)
  obtain ⟨ev, eH⟩ := q1
  subst ev
  rw [eH] at I1
  obtain rfl : u = Value.ref f := r1
  have of1 : ∀ {H2 : Hp} {z : Shared} {p2 : List (Addr × Obj)} {σ2 : L2.St}, Inv (gotCx X Ng qg sg g cdg s H) p2 σ2 H2 z → z.heap.get? f = some (PySem.W.kla_obj "<lambda>" (X.env.qual ++ "<lambda>") params body scope (cloFrom X.env.cells scope.names []) pm c' ctv) :=
    fun Iz => Iz.base.keep f _ hf hfn hfr (fun z => nomatch (show f ∈ ([] : List Addr) from z))
  refine PySem.W.callWith_F ⟨_, _, _, _, of1 I1⟩ (thn (ha.run p2 pinsZ s1 σZ HZ _ I1 ht) fun us s2 ⟨vs, H2, I2, r, q⟩ => ⟨⟨_, _, _, _, of1 I2⟩, ?_⟩) he (by rfl)
  obtain ⟨v, rfl, hc, hb⟩ := q
  obtain ⟨u, rfl, ru⟩ := Vals.one r
  have un : Un (frs X.stack) [] H H2 s.heap s2.heap := I2.base
  obtain ⟨⟨oc, vs, t2, hoc, hdc, hvc⟩, _, _⟩ := I2.hok c' _ hc
  have rc : codeAny (model X.prog X.w) (X.A.deeper (envOfC qg sg s.heap.objs.size g cdg)) (.call (.ref f) ⟨[u], []⟩) (CR C8.CX0 (envOfC qg sg s.heap.objs.size g cdg :: X.stack) X.prog X.w H2 s2 Q C8.E0) s2 := by
    refine PySem.W.kla_callFunE hr.depth (of1 I2) rfl L.co L.gen rfl ⟨c', oc, vs, t2, rfl, hoc, hdc, hvc⟩ ?_
    rw [hbind]
    refine wpAny_pure (wpAny_newFunctionEnv L.cell (fun z hz => ?_) (fun h₁ hns hsb => ⟨I2.nolimit.fresh _ hsb, ?_⟩) L.kind)
    · rw [List.mem_singleton.mp hz]; exact L.par
    show codeAny _ _ (.expr body (lamEnv X scope s2.heap.objs.size f c')) _ _
    have kp : ∀ b o, s2.heap.get? b = some o → h₁.get? b = some o := fun b o e => hsb.extBut b o (Nat.ne_of_lt (Heap.lt_size e)) (Heap.get?_push_of_some _ e)
    have J : Inv (lamCx1 X row (X.A.deeper (envOfC qg sg s.heap.objs.size g cdg)) (envOfC qg sg s.heap.objs.size g cdg :: X.stack) s2 H2 scope f c') [] (some v :: σ) H2 { s2 with heap := h₁, toks := s2.toks + ([(row, u)] : List (Str × Value)).length } :=
      lam_start3 I L hrow I2.env0 hr.hd ru un hns kp
    refine PySem.W.kla_codeExpr (wpAny_mono ((hbody _ _ s2 H2 (hr.deeper _)).run [] _ _ H2 Q J hb) (fun v s' hq => ?_) fun e s' hq => hq)
    obtain ⟨w', H', J', rv, q⟩ := hq
    exact ⟨w', H', J'.os, J'.bare, J'.base, J'.hok, rv, q⟩
  refine wpAny_call (codeAny_mono rc fun r s' hq => ?_)
  cases r with
  | error e => exact (show False from hq).elim
  | ok fl =>
    cases fl with
    | ret u => exact I2.after hq
    | next => exact False.elim hq
    | brk => exact False.elim hq
    | cont => exact False.elim hq
/-- as lam_make3, of a lambda that may read names of its maker -/
theorem lam_make4 {row : Str} {c P : Addr} {params : Arguments} {body : Expr} {scope : Scope} {pos : Pos} {E : Value → Shared → Prop} {Q : Value → Shared → Prop} (I : Inv X pins σ H s) (TB : TabB X.base X.mg c P) (hcode : X.env.code = .ref c) (hT : TabS H P (X.env.qual ++ "<lambda>")) (hdef : defaultsOf params X.env = ([], [])) (L : LamS1 row X.env.scope scope)
    (h : ∀ (f c' : Addr) (pm ctv : Value) (H1 : Hp) (s' : Shared), Inv X pins σ H1 s' → LamStep P (X.env.qual ++ "<lambda>") H H1 → s'.heap.get? f = some (fnObj (X.env.qual ++ "<lambda>") params body scope (cloFrom X.env.cells scope.names []) pm c' ctv) → H1 f = none → f ∉ frs X.stack → H1 c' = some (CodeO c' (X.env.qual ++ "<lambda>")) → Q (.ref f) s') :
    wpAny (model X.prog X.w) X.A (eval (.Lambda params body scope pos) X.env) Q E s := by
  have hT0 := hT
  obtain ⟨ps, hP, ht, ha⟩ := hT
  have hcl : closureFor scope X.env = pure (cloFrom X.env.cells scope.names []) := closure_ok (L.has I.ok)
  have eP : s.heap.get? P = some { cls := .none, data := .fields ps } := I.hok P _ hP
  have nofr : ∀ f, s.heap.objs.size ≤ f → f ∉ frs X.stack := fun f hf z => by
    rcases List.mem_cons.mp (I.stkSub _ z) with e | e
    · have h1 := I.lt
      rw [← e] at h1
      exact Nat.lt_irrefl _ (Nat.lt_of_lt_of_le h1 hf)
    · exact I.nofs hf e
  refine PySem.W.kla_eval hdef ?_
  rcases hc : codeAmong pos ps.toList with _ | cv
  · refine PySem.W.kla_makeFunction (mg := X.mg) (c := c) (P := P) (ps := ps) hcl I.ok.glob (I.mod.glob.keeps I.bk) hcode (TB.code.keeps I.bk) eP ht hc TB.gP (TB.bm.keeps I.bk) fun c' ctv h' tk hx hge hlt hrec htb => ?_
    obtain ⟨c2, oc, vs, t, e2, hoc, hd, hv⟩ := hrec
    cases e2
    have hsz : s.heap.objs.size ≤ h'.objs.size := Nat.le_trans hge (Nat.le_of_lt hlt)
    have nc : H c' = none := I.hok.fresh hge
    have hnew := inv_table (q := X.env.qual ++ "<lambda>") (t' := tk) (more := #[rawInt pos.line, rawInt pos.col, .ref c']) (h' := h'.push (fnObj (X.env.qual ++ "<lambda>") params body scope (cloFrom X.env.cells scope.names []) ((X.mg "__name__").getD .none) c' ctv)) I hP (fun b o hb e => Heap.get?_push_of_some _ (hx b o hb e)) (Heap.get?_push_of_some _ htb) hge ⟨oc, vs, t, Heap.get?_push_of_some _ hoc, hd, hv⟩
    have hst : LamStep P (X.env.qual ++ "<lambda>") H (upd (upd H P (.tbl (ps ++ #[rawInt pos.line, rawInt pos.col, .ref c']))) c' (CodeO c' (X.env.qual ++ "<lambda>"))) := by
      have eL : (ps ++ #[rawInt pos.line, rawInt pos.col, .ref c']).toList = ps.toList ++ [rawInt pos.line, rawInt pos.col, .ref c'] := by simp
      refine ⟨⟨_, by rw [upd_ne (ne_of_none hP nc), upd_same], by rw [eL]; exact PySem.TriplesOk_snoc _ _ _ _ ht, fun p' cv hcv => ?_⟩, .inr ⟨ps, _, c', hP, nc, rfl⟩⟩
      rw [eL] at hcv
      rcases among_app _ ht hcv with z | z
      · obtain ⟨c0, e1, e2⟩ := ha p' cv z
        exact ⟨c0, e1, by rw [upd_ne (ne_of_none e2 nc), upd_ne (fun z => by rw [z, hP] at e2; exact codeO_ne _ (Option.some.inj e2).symm)]; exact e2⟩
      · exact ⟨c', z, upd_same⟩
    have n1 : h'.objs.size ≠ c' := Nat.ne_of_gt hlt
    have n2 : h'.objs.size ≠ P := Nat.ne_of_gt (Nat.lt_of_lt_of_le (Heap.lt_size eP) hsz)
    exact h h'.objs.size c' _ ctv _ _ hnew hst (Heap.get?_push_size _ rfl) (by rw [upd_ne n1, upd_ne n2]; exact I.hok.fresh hsz) (nofr _ hsz) upd_same
  · obtain ⟨c', rfl, hco⟩ := ha pos cv hc
    refine PySem.W.kla_makeFunctionHit (mg := X.mg) (c := c) (P := P) (ps := ps) hcl I.ok.glob (I.mod.glob.keeps I.bk) hcode (TB.code.keeps I.bk) eP ht hc (TB.bm.keeps I.bk) fun ctv h' tk hx hsz => ?_
    exact h h'.objs.size c' _ ctv H _ (I.kept fun b o e => Heap.get?_push_of_some _ (hx b o e)) ⟨hT0, .inl rfl⟩ (Heap.get?_push_size _ rfl) (I.hok.fresh hsz) (nofr _ hsz) hco
end
/-- the def that calls what it got, by the name a; TT: what it makes of the lambda's reading tl -/
def GivesTo1 (X : Cx) (kk : Nat) (Ng : List Str) (x : Str) (sg : Scope) (g : Addr) (cdg : Value) (bg : List Stmt) (i : Nat) (a : Str) (q : Str) (TT : V → (V → Hp → VK → Prop) → Hp → VK → Prop) : Prop :=
  ∀ (f c' : Addr) (s : Shared) (H : Hp) (v0 : V) (Q : VK) (tl : V → Hp → VK → Prop),
    (∀ (e : Expr) (t : TA) (p1 p2 : Pos), starEach [e] (gotCx X Ng x sg g cdg s H).env = (false, eval e (gotCx X Ng x sg g cdg s H).env) :: starEach [] (gotCx X Ng x sg g cdg s H).env → PA (gotCx X Ng x sg g cdg s H) [e] t →
      PE (gotCx X Ng x sg g cdg s H) (.Call (.Name a p1) [e] [] p2) (fun σZ HZ Q => σZ[i]? = some (some (.ref f)) ∧ t σZ HZ fun vs H1 => ∃ v, vs = [v] ∧ H1 c' = some (CodeO c' q) ∧ tl v H1 Q)) →
    H c' = some (CodeO c' q) → Room kk (gotCx X Ng x sg g cdg s H).A → TT v0 tl H Q →
    ∃ t, PSs (gotCx X Ng x sg g cdg s H) bg t ∧ t { nx := fun _ H' => Q .non H', rt := Q } (L2.start Ng [v0, .ref f]) H
def tLam1 (P : Addr) (q : Str) (TT : V → (V → Hp → VK → Prop) → Hp → VK → Prop) (te : TE) (t : TE) : TE := fun σ H Q => te σ H fun v H1 => TabS H1 P q ∧ ∀ H2, LamStep P q H1 H2 → TT v (fun v' H' Q' => t (some v' :: σ) H' Q') H2 Q
section
variable {X : Cx}
/-- x(e0, lambda row: body) -/
theorem pe_lamcall1 {TT : V → (V → Hp → VK → Prop) → Hp → VK → Prop} {x a b row : Str} {g c P : Addr} {k : Nat} {pg : Arguments} {bg : List Stmt} {sg : Scope} {dV kV doc pm cdv ct oc : Value} {an od : Option Addr} {osl : Array (Option Value)} {Ng : List Str}
    {params : Arguments} {body e0 : Expr} {scope : Scope} {te t : TE} {p lpos pos : Pos} (hg : Gl X x) (hm : X.mg x = some (.ref g)) (hk : PySem.W.keepIn X.K (.ref g) = true)
    (lk : X.K.lookup g = some ⟨oc, od, .func (PySem.W.fnOf x x pg bg sg dV kV doc pm an cdv ct), osl⟩) (hcg : PySem.W.codeIn X.K cdv x = true) (hb : L2.Binds X.K (PySem.W.fnOf x x pg bg sg dV kV doc pm an cdv ct) [b, a] []) (Sg : FnScope Ng [b, a] sg) (hNg : Ng[1]? = some a) (hva : Vis sg a)
    (hG : GivesTo1 X (k + 1) Ng x sg g cdv bg 1 a (X.env.qual ++ "<lambda>") TT) (he0 : PE X e0 te)
    (TB : TabB X.base X.mg c P) (hcode : X.env.code = .ref c) (hr : Room (k + 2) X.A) (L : LamS1 row X.env.scope scope) (hrow : row ∉ X.N) (hdef : defaultsOf params X.env = ([], []))
    (hbind : ∀ (q : Str) (cl : List (Str × Addr)) (pm cv ctv v : Value), bindArgs (PySem.W.kla_fn "<lambda>" q params body scope cl pm cv ctv) ⟨[v], []⟩ = pure [(row, v)])
    (hbody : ∀ (A : Around) (outer : List Env) (s : Shared) (H : Hp) (f c' : Addr), Room k (A.deeper (lamEnv X scope s.heap.objs.size f c')) → PE (lamCx1 X row A outer s H scope f c') body t)
    (hdb : (x == ("__debug__" : Str)) = false := by decide) (hd : (a == ("__debug__" : Str)) = false := by decide) (hcd : (a == ("__classdict__" : Str)) = false := by decide)
    (he : starEach [e0, .Lambda params body scope lpos] X.env = (false, eval e0 X.env) :: starEach [.Lambda params body scope lpos] X.env := by rfl) :
    PE X (.Call (.Name x p) [e0, .Lambda params body scope lpos] [] pos) (tLam1 P (X.env.qual ++ "<lambda>") TT te t) := by
  refine ⟨fun pins s σ H Q I h => ?_⟩
  refine wpAny_Call_Name_kw (ld_glob I hg hm ?_ hdb)
  refine PySem.W.callWith_K (h₀ := X.base) I.ok.mod.kin hk ?_ he (by rfl)
  rw [he]
  show wpAny _ _ (spliced ((false, eval e0 X.env) :: (false, eval (.Lambda params body scope lpos) X.env) :: backTo pos (starEach [] X.env))) _ _ s
  refine Calls.spliced_cons (thn (he0.run pins s σ H _ I h) fun u0 s0 ⟨v0, H0, I0, r0, hT, q0⟩ => ?_)
  refine Calls.spliced_cons (lam_make4 I0 TB hcode hT hdef L fun f c' pm' ctv H1 s' I1 st hf hfn hfr hco => ?_)
  refine Calls.spliced_nil ⟨I1.kIn, ?_⟩
  have rc : codeAny (model X.prog X.w) X.A (.call (.ref g) ⟨[u0, .ref f], []⟩) (CR C8.CX0 X.stack X.prog X.w H1 s' Q C8.E0) s' := by
    refine run_ofS (N := Ng) (ps := [b, a]) (us := [u0, .ref f]) (vs := [v0, .ref f]) lk hcg Sg hr I1.env0 (hb s' [u0, .ref f] I1.kIn rfl) (.cons r0 (.cons rfl .nil)) rfl fun hr' => ?_
    obtain ⟨t', ht', hq'⟩ := hG f c' s' H1 v0 Q (fun v' H' Q' => t (some v' :: σ) H' Q') (fun e t2 p1 p2 hse ha => pe_act1 (i := 1) I1 L hrow hf hfn hfr (fun v => hbind _ _ _ _ _ v) hr' (fun A outer s H hr2 => hbody A outer s H f c' hr2) hNg hva ha hd hcd hse) hco hr' (q0 H1 st)
    exact ⟨t', ht'.nox, hq'⟩
  refine wpAny_call (codeAny_mono rc fun r s2 hq => ?_)
  cases r with
  | error e => exact (show False from hq).elim
  | ok fl =>
    cases fl with
    | ret u => exact I1.after hq
    | next => exact False.elim hq
    | brk => exact False.elim hq
    | cont => exact False.elim hq
end
end SprK

set_option Elab.async false
set_option linter.all false
set_option maxRecDepth 100000
set_option maxHeartbeats 4000000
/-! all(element for x in walked), any(..), where the element is any expression of the layer: it may call, and read names of the def that walks. -/
namespace GenE
open PySem PySem.Spec PyProof.Rows L2 GxR GenW
/-- the generator expression's scope: the walked thing, its one name, captured names -/
structure GnS (x : Str) (sc scope : Scope) : Prop where
  kind : scope.kind = .function
  co : scope.isCoroutine = false
  cell : ∀ y ∈ scope.names, y.2 ≠ .cell
  dot : scope.names.lookup (".0" : Str) = some .local
  par : scope.names.lookup x = some .local
  own : ∀ y ∈ scope.names, y.2 = .local → y.1 = x ∨ y.1 = (".0" : Str)
  free : ∀ y ∈ scope.names, y.2 = .free → sc.names.lookup y.1 = some .cell ∨ sc.names.lookup y.1 = some .free
def gnSB (x : Str) (sc scope : Scope) : Bool :=
  decide (scope.kind = .function) && !scope.isCoroutine && decide (scope.names.lookup (".0" : Str) = some .local) && decide (scope.names.lookup x = some .local) && scope.names.all fun y => !decide (y.2 = .cell) && (!decide (y.2 = .local) || (decide (y.1 = x) || decide (y.1 = (".0" : Str)))) && (!decide (y.2 = .free) || decide (sc.names.lookup y.1 = some .cell) || decide (sc.names.lookup y.1 = some .free))
theorem gnS_by {x : Str} {sc scope : Scope} (h : gnSB x sc scope = true) : GnS x sc scope := by
  unfold gnSB at h
  simp only [Bool.and_eq_true, Bool.or_eq_true, Bool.not_eq_true', decide_eq_true_eq, decide_eq_false_iff_not, List.all_eq_true] at h
  obtain ⟨⟨⟨⟨h1, h2⟩, h3⟩, h4⟩, h5⟩ := h
  refine ⟨h1, h2, fun y hy => (h5 y hy).1.1, h3, h4, fun y hy e => ?_, fun y hy e => ?_⟩
  · rcases (h5 y hy).1.2 with z | z
    · exact absurd e z
    · exact z
  · rcases (h5 y hy).2 with (z | z) | z
    · exact absurd e z
    · exact .inl z
    · exact .inr z
theorem GnS.has {X : Cx} {x : Str} {scope : Scope} (L : GnS x X.env.scope scope) (ok : X.Ok) : ∀ y ∈ scope.names, y.2 = .free → ∃ c, X.env.cells.lookup y.1 = some c := fun y hy e => by
  rcases L.free y hy e with k | k
  · exact ok.has _ (.inl k)
  · exact ok.has _ (.inr k)
/-- the context of the element: the name ahead of the maker's names; fp: the walked iterator's objects -/
def genCx (X : Cx) (x : Str) (A : Around) (ce : Env) (s : Shared) (H : Hp) (fp : List Addr) : Cx where
  prog := X.prog
  w := X.w
  K := X.K
  mg := X.mg
  base := X.base
  A := A
  N := x :: X.N
  s_0 := s
  H_0 := H
  env := ce
  outer := X.stack
  stack := ce :: X.stack
  ex := fp
  fn := fun _ => false
  calm := true
  pn := []
  xe := fun _ _ => False
abbrev gEnv (X : Cx) (scope : Scope) (C : Addr) (code : Value) : Env := genEnv scope (cloFrom X.env.cells scope.names []) C code builtinsNs X.env
section
variable {X : Cx} {pins : List (Addr × Obj)} {σ : L2.St} {H : Hp} {s : Shared}
theorem gen_start {x : Str} {A : Around} {scope : Scope} {code it : Value} {fp : List Addr} {h₁ : Heap} {g₁ : Array GenState} {tk : Nat} (I : Inv X pins σ H s) (L : GnS x X.env.scope scope) (hrow : x ∉ X.N) (hdot : (".0" : Str) ∉ X.N) (hA : A.handled = none) (hfr : A.frames = some (gEnv X scope s.heap.objs.size code :: X.stack))
    (hfp : ∀ b ∈ fp, FpOk X pins H b ∧ b < s.heap.objs.size) (hns : h₁.Ns s.heap.objs.size fun y => if y = (".0" : Str) then some it else none) (kp : ∀ b o, s.heap.get? b = some o → h₁.get? b = some o) (hg : AllBare g₁) :
    Inv (genCx X x A (gEnv X scope s.heap.objs.size code) s H fp) [] (none :: σ) H { s with heap := h₁, gens := g₁, toks := tk } := by
  have hfree := L.has I.ok
  have cm : ∀ {y c}, (cloFrom X.env.cells scope.names []).lookup y = some c → X.env.cells.lookup y = some c := fun {y c} e => by
    rcases cloFrom_mem (PySem.mem_of_lookup e) with hm | ⟨h1, h2⟩
    · cases hm
    · obtain ⟨c1, hc⟩ := hfree _ h1 rfl
      have hc : X.env.cells.lookup y = some c1 := hc
      have e2 : c = c1 := by
        rw [h2, hc] <;> rfl
      rw [e2]
      exact hc
  have look : ∀ {y}, scope.names.lookup y = some .free → ∃ c, (cloFrom X.env.cells scope.names []).lookup y = some c := fun {y} hl => by
    have hy : (y, NameKind.free) ∈ scope.names := PySem.mem_of_lookup hl
    exact mem_lookup (cloFrom_has (cells := X.env.cells) (acc := []) hy)
  have cellK : ∀ {c : Addr} {v : Option Value}, s.heap.IsCell c v → h₁.IsCell c v := fun {c v} ⟨o, ho, hd⟩ => ⟨o, kp c o ho, hd⟩
  refine ⟨⟨I.ok.mod, L.kind, I.ok.glob, rfl, Nat.le_refl _, fun y z c e1 e2 => I.ok.inj y z c (cm e1) (cm e2), fun y hy => ?_, fun y c z _ => ?_, fun _ => hA, hfr, .inr ⟨rfl, rfl⟩, fun b hb => ⟨Nat.ne_of_lt (hfp b hb).2, fun y c e => (hfp b hb).1.2.2.2.2.1 y c (cm e)⟩, I.bs, Nat.le_trans I.ok.bsz I.sz, fun b o e hb => ?_, fun b hb z => ?_, I.stack, I.stkFree⟩,
    rfl, hg, Un.kept kp, ⟨_, hns, fun i y v e1 e2 e3 => ?_⟩, fun y c e => ?_, I.hok.fresh (Nat.le_refl _), fun y c e => ?_, fun q hq => absurd (show q ∈ ([] : List (Addr × Obj)) ++ [] from hq) (by simp), I.hok.kept kp, by show (none :: σ).length = (x :: X.N).length; rw [List.length_cons, List.length_cons, I.len]⟩
  · have hy : scope.names.lookup y = some .cell ∨ scope.names.lookup y = some .free := hy
    rcases hy with hy | hy
    · exact absurd rfl (L.cell _ (PySem.mem_of_lookup hy))
    · exact look hy
  · have z : false = true := z
    cases z
  · rcases (hfp b hb).1.2.2.2.1 with z | z
    · exact I.ok.noex b o e z
    · exact absurd (Nat.lt_of_lt_of_le (Heap.lt_size e) (Nat.le_trans I.ok.bsz z)) (Nat.lt_irrefl _)
  · rcases List.mem_cons.mp (I.stkSub b z) with z | z
    · exact (hfp b hb).1.2.1 z
    · exact (hfp b hb).1.2.2.1 z
  · have e3 : Vis scope y := e3
    have e1 : (x :: X.N)[i]? = some y := e1
    rcases i with _ | i
    · cases e2
    · have e1 : X.N[i]? = some y := e1
      have e2 : σ[i]? = some (some v) := e2
      have ny : y ≠ x := fun z => hrow (z ▸ List.mem_of_getElem? e1)
      have nd : y ≠ (".0" : Str) := fun z => hdot (z ▸ List.mem_of_getElem? e1)
      rcases e3 with k | k | k
      · rcases L.own _ (PySem.mem_of_lookup k) rfl with z | z
        · exact absurd z ny
        · exact absurd z nd
      · exact absurd rfl (L.cell _ (PySem.mem_of_lookup k))
      · obtain ⟨m, hn, hl⟩ := I.loc
        have hvis : Vis X.env.scope y := (L.free _ (PySem.mem_of_lookup k) rfl).elim (fun k => .inr (.inl k)) (fun k => .inr (.inr k))
        obtain ⟨w', r, q⟩ := hl i y v e1 e2 hvis
        obtain ⟨c2, h2⟩ := look k
        refine ⟨w', r, .inr ⟨.inr k, c2, h2, ?_⟩⟩
        have c1 := cm h2
        rcases q with ⟨k', _⟩ | ⟨_, c3, e', z⟩
        · have k' : X.env.scope.names.lookup y = some .local := k'
          rcases L.free _ (PySem.mem_of_lookup k) rfl with k2 | k2 <;> rw [show X.env.scope.names.lookup y = _ from k2] at k' <;> cases k'
        · rw [c1] at e'
          cases e'
          exact cellK z
  · obtain ⟨w', z⟩ := I.cell y c (cm e)
    exact ⟨w', cellK z⟩
  · exact I.freeC y c (cm e)
/-- where it stands behind z: what X wants of it -/
structure Out (X : Cx) (fp : List Addr) (z : Shared) (Hz H : Hp) (s : Shared) : Prop where
  os : s.os = z.os
  bare : AllBare s.gens
  un : Un (frs X.stack) fp Hz H z.heap s.heap
  hok : HOk X.prog X.w H s.heap
/-- an item is handed out: the walk goes on while it is cont -/
def YQ (X : Cx) (fp : List Addr) (z : Shared) (Hz : Hp) (a : Addr) (g : Nat) (cont : Bool) (Q : VK) : Protocol := fun _ _ v s1 kap =>
  ∃ (b : Bool) (H' : Hp), v = .bool b ∧ Out X fp z Hz H' s1 ∧ s1.heap.IsGen a g ∧ s1.heap.NoLimit ∧ (b = cont → ∀ s'' : Shared, s''.heap = s1.heap → s''.os = s1.os → AllBare s''.gens → kap (.send .none) s'') ∧ (b ≠ cont → Q (.bl b) H')
def RQ (X : Cx) (fp : List Addr) (z : Shared) (Hz : Hp) (cont : Bool) (Q : VK) : GenEnd := fun _ _ r s1 => ((r = .ok (.ret .none) ∨ r = .ok .next) ∧ ∃ H', Out X fp z Hz H' s1 ∧ Q (.bl cont) H') ∨ ∃ e, r = .error e ∧ False
/-- the walk, turn by turn -/
def Walked (J : It) (cont : Bool) (Q : VK) (tb : V → Hp → VK → Prop) (W : Nat → Nat → Hp → Prop) : Prop :=
  ∀ i m H, W i m H → (J.stop i H ∧ Q (.bl cont) H) ∨ (J.go i H ∧ ∀ x H', J.yld i H x H' → tb x H' fun v H'' => ∃ b, v = .bl b ∧ (b = cont → ∃ m', m' < m ∧ W (i + 1) m' H'') ∧ (b ≠ cont → Q (.bl b) H''))
theorem Out.of {x : Str} {A : Around} {ce : Env} {fp : List Addr} {pins : List (Addr × Obj)} {σ : L2.St} {H : Hp} {s z : Shared} {Hz : Hp} (I : Inv (genCx X x A ce z Hz fp) pins σ H s) : Out X fp z Hz H s := ⟨I.os, I.bare, I.base, I.hok⟩
section
variable {x : Str} {A : Around} {scope : Scope} {code : Value} {fp : List Addr} {z : Shared} {Hz : Hp} {elt iter : Expr} {px gpos : Pos} {it a : Addr} {g : Nat} {gob : Obj} {J : It} {tn : Nat → Heap → Prop} {cont : Bool} {Q : VK} {t : TE} {W : Nat → Nat → Hp → Prop}
abbrev gAr (A : Around) (elt iter : Expr) (x : Str) (px gpos : Pos) (scope : Scope) (it : Addr) (ce : Env) : Around := A.over (.compLoop (.GeneratorExp elt [⟨.Name x px, iter, [], 0⟩] scope gpos) 0 (.ref it) .none ce) []
abbrev gX (X : Cx) (x : Str) (A : Around) (elt iter : Expr) (px gpos : Pos) (scope : Scope) (it : Addr) (code : Value) (z : Shared) (Hz : Hp) (fp : List Addr) : Cx := genCx X x (gAr A elt iter x px gpos scope it (gEnv X scope z.heap.objs.size code)) (gEnv X scope z.heap.objs.size code) z Hz fp
theorem seg_turns (L : GnS x X.env.scope scope) (hnd : X.N.Nodup) (hrow : x ∉ X.N) (hafp : a ∉ fp)
    (hgen : ∀ h : Heap, h.get? a = some gob → h.IsGen a g)
    (T : Turn X.prog X.w X.K (.Name x px) J fp it tn) (hbody : PE (gX X x A elt iter px gpos scope it code z Hz fp) elt t)
    (turn : Walked J cont Q (fun v H Q => t (some v :: σ) H Q) W)
    (stat : ∀ {H' : Hp}, (∀ b ∈ fp, H' b = none) → ∀ b ∈ fp, FpOk (gX X x A elt iter px gpos scope it code z Hz fp) [(a, gob)] H' b) :
    ∀ (n i m : Nat) (v0 : Option V) (H : Hp) (s s₀ : Shared), m < n → Inv (gX X x A elt iter px gpos scope it code z Hz fp) [(a, gob)] (v0 :: σ) H s → tn i s.heap → (∀ b ∈ fp, H b = none) → W i m H →
      Seg (model X.prog X.w) A (RQ X fp z Hz cont Q) (YQ X fp z Hz a g cont Q) n s₀ (.compLoop (.GeneratorExp elt [⟨.Name x px, iter, [], 0⟩] scope gpos) 0 (.ref it) .none (gEnv X scope z.heap.objs.size code))
        ((model X.prog X.w).den (.compLoop (.GeneratorExp elt [⟨.Name x px, iter, [], 0⟩] scope gpos) 0 (.ref it) .none (gEnv X scope z.heap.objs.size code))) [] s := by
  intro n
  induction n with
  | zero => intro i m v0 H s s₀ h; exact absurd h (Nat.not_lt_zero _)
  | succ n ih =>
    intro i m v0 H s s₀ hm I st fr w
    show Seg _ A _ _ _ s₀ _ ((compTurn (.GeneratorExp elt [⟨.Name x px, iter, [], 0⟩] scope gpos) 0 (.ref it) .none (gEnv X scope z.heap.objs.size code)).onRaise (leaving (gEnv X scope z.heap.objs.size code))) [] s
    rw [compTurn_gen, Sem.onRaise_eq_wrap]
    refine seg_bind_wrap (wpAny_standAt ?_)
    rcases turn i m H w with ⟨stop, qn⟩ | ⟨go, step⟩
    · refine seg_bind_wrap (thn (T.done (gX X x A elt iter px gpos scope it code z Hz fp) rfl rfl rfl rfl i _ s _ H _ I (stat fr) st stop) fun r s4 ⟨hr, I4⟩ => ?_)
      subst hr
      exact seg_end (.ok .next) (.inl ⟨.inr rfl, H, Out.of I4, qn⟩)
    · refine seg_bind_wrap (thn (T.item (gX X x A elt iter px gpos scope it code z Hz fp) rfl rfl rfl rfl i _ s _ H _ I (stat fr) st go) fun r s4 ⟨u, hr, h4⟩ => ?_)
      subst hr
      refine seg_bind_wrap (thn h4 fun _ s5 ⟨v, H5, I5, r5, y5, st5, fr5⟩ => ?_)
      have I5' := I5.pinned (stat fr5) (T.obj _ _ st5)
      have PGn := pg_name (X := genCx X x (gAr A elt iter x px gpos scope it (gEnv X scope z.heap.objs.size code)) (gEnv X scope z.heap.objs.size code) z Hz fp) (pos := px) (i := 0) (x := x) (List.nodup_cons.mpr ⟨hrow, hnd⟩) rfl (.inl L.par) (.inr L.par)
      refine seg_bind_wrap (thnF (PGn.run _ s5 _ H5 v u (fun σ' H' => σ' = some v :: σ ∧ H' = H5) I5' r5 ⟨rfl, rfl⟩) fun _ s6 ⟨σ6, H6, I6, e6, e6'⟩ => ?_)
      subst e6 e6'
      refine seg_bind_wrap (wpAny_tests_nil ?_)
      rw [if_pos rfl]
      have hy : ∀ v, yieldOut (gEnv X scope z.heap.objs.size code) v = yieldValue v := fun v => by
        have hco : (gEnv X scope z.heap.objs.size code).scope.isCoroutine = false := L.co
        simp only [yieldOut, hco, Bool.false_eq_true, if_false]
      simp only [hy]
      rw [Sem.bind_eq_wrap', Sem.bind_eq_wrap', Sem.wrap_wrap, Sem.wrap_wrap]
      refine seg_wrap (thnF (hbody.run _ s6 _ H6 _ I6 (step v H6 y5)) fun y s7 ⟨bv, H7, I7, r7, b, hb, hc, hn⟩ => ?_)
      subst hb
      obtain rfl : y = Value.bool b := r7
      have I7' := I7.unpinned
      have st7 : tn (i + 1) s7.heap := T.keep _ _ _ st5 fun b hb o e => (I7.pin (b, o) (List.mem_append_right _ (List.mem_append_right _ (mem_pinsAt hb e)))).1
      have fr7 : ∀ b ∈ fp, H7 b = none := fun b hb => by
        obtain ⟨o, e, d⟩ := T.obj _ _ st5 b hb
        exact (I7.pin (b, o) (List.mem_append_right _ (List.mem_append_right _ (mem_pinsAt hb e)))).2.1
      have hga := (I7'.pin (a, gob) (List.mem_append_right _ List.mem_cons_self)).1
      refine seg_at (seg_yield rfl rfl rfl ⟨b, H7, rfl, Out.of I7', hgen _ hga, I7'.nolimit, fun hbc s8 e1 e2 e3 => ?_, hn⟩)
      obtain ⟨m', hm', w'⟩ := hc hbc
      have I8 := I7'.call' (s' := s8) (ch := []) e2 (by rw [e1]; exact Un.refl) (by rw [e1]; exact I7'.hok) e3 (fun _ z => nomatch z)
      exact seg_again rfl (ih (i + 1) m' _ H7 s8 s8 (by omega) I8 (by rw [e1]; exact st7) fr7 w')
theorem seg_begin {σ : L2.St} {n : Nat} {s s₀ : Shared} (T : Turn X.prog X.w X.K (.Name x px) J fp it tn) (st : tn 0 s.heap) (ce : Env) (R : GenEnd) (Y : Protocol)
    (loop : Seg (model X.prog X.w) A R Y n s₀ (.compLoop (.GeneratorExp elt [⟨.Name x px, iter, [], 0⟩] scope gpos) 0 (.ref it) .none ce) ((model X.prog X.w).den (.compLoop (.GeneratorExp elt [⟨.Name x px, iter, [], 0⟩] scope gpos) 0 (.ref it) .none ce)) [] s) :
    Seg (model X.prog X.w) A R Y n s₀ (.compStart (.GeneratorExp elt [⟨.Name x px, iter, [], 0⟩] scope gpos) 0 (.ref it) .none ce) ((model X.prog X.w).den (.compStart (.GeneratorExp elt [⟨.Name x px, iter, [], 0⟩] scope gpos) 0 (.ref it) .none ce)) [] s := by
  show Seg _ A _ _ _ s₀ _ ((compStart (.GeneratorExp elt [⟨.Name x px, iter, [], 0⟩] scope gpos) 0 (.ref it) .none ce).onRaise (leaving ce)) [] s
  unfold compStart
  rw [Sem.onRaise_eq_wrap]
  show Seg _ A _ _ _ s₀ _ ((ask >>= _).wrap _ _ _ _) [] s
  refine seg_bind_wrap (wpAny_askSetting ?_)
  split
  · exact seg_again rfl loop
  · first
      | exact seg_bind_wrap (wpAny_rule (seg_bind_wrap (wpAny_standAt (seg_bind_wrap (T.self _ 0 s _ _ st (seg_again rfl loop))))))
      | (refine seg_bind_wrap (wpAny_rule ?_); show Seg _ A _ _ _ s₀ _ ((standAt iter.pos >>= _).wrap _ _ _ _) [] s; exact seg_bind_wrap (wpAny_standAt (seg_bind_wrap (T.self _ 0 s _ _ st (seg_again rfl loop)))))
theorem goesQ {gs : GenState} {B : Around} {n : Nat} {r : Resume} {s : Shared} {M : Model} {Y : Protocol} (h : gs.Goes M B (RQ X fp z Hz cont Q) Y n r s) :
    gs.Goes M B (fun n s₀ r s1 => ((r = .ok (.ret .none) ∨ r = .ok .next) ∧ ∃ H', Out X fp z Hz H' s1 ∧ Q (.bl cont) H') ∨ ∃ e, r = .error e ∧ False) Y n r s := h
theorem Out.gens {H' : Hp} {s s' : Shared} (o : Out X fp z Hz H' s) (e1 : s'.os = s.os) (e2 : AllBare s'.gens) (k : ∀ b o, s.heap.get? b = some o → s'.heap.get? b = some o) : Out X fp z Hz H' s' :=
  ⟨e1.trans o.os, e2, o.un.trans (Un.kept k), o.hok.kept k⟩
theorem all_loop {B : Around} {R : Result → Shared → Prop} (hh : B.handled = none) (hd : B.depth < recursionLimit) (hR : ∀ (b : Bool) s' H', Out X fp z Hz H' s' → Q (.bl b) H' → R (.ok (.ret (.bool b))) s') :
    ∀ (n : Nat) (s : Shared), s.heap.IsGen a g → s.heap.NoLimit → AllBare s.gens → s.os = z.os → (∃ gs, s.gens[g]? = some gs ∧ gs.Goes (model X.prog X.w) B.in1.in1 (RQ X fp z Hz true Q) (YQ X fp z Hz a g true Q) n (.send .none) (s.setGen g .running)) →
      codeAny (model X.prog X.w) B (.builtin "all.loop" ⟨[.ref a], []⟩) R s := by
  intro n
  induction n with
  | zero =>
    intro s hg hl hb hos ⟨gs, hgs, hgo⟩
    refine codeAny_builtin F.entry_all_loop ?_
    rw [Around.under_plainId F.plain_all_loop _]
    show wpAny _ B.in1 (pyNext (.ref a) >>= _) _ _ s
    refine wpAny_bind (next_genG (A := B.in1) hh hl hd hg hgs (goesQ hgo) (fun v s₁ gs' hbare hv => ?_) (fun s₁ hp h' hk => ?_) fun e s₁ he => he.elim)
    · obtain ⟨b, H', rfl, ho, hg1, hl1, hk, hn⟩ := hv
      refine wpAny_bind (wpAny_holding (wpAny_truthy_bool ?_))
      refine wpAny_bind (wpAny_letGo ?_)
      cases b with
      | true => exact (hk rfl s₁ rfl rfl ho.bare).elim
      | false =>
        simp only [Bool.false_eq_true, if_false]
        exact wpAny_bind (wpAny_rule (wpAny_pure (hR false _ H' (ho.gens rfl (allBare_setGen ho.bare hbare) fun _ _ e => e) (hn (by decide)))))
    · obtain ⟨H', ho, q⟩ := hp
      exact wpAny_bind (wpAny_rule (wpAny_pure (hR true _ H' (ho.gens rfl (allBare_setGen ho.bare rfl) hk) q)))
  | succ n ih =>
    intro s hg hl hb hos ⟨gs, hgs, hgo⟩
    have hgl : g < s.gens.size := (Array.getElem?_eq_some_iff.mp hgs).1
    refine codeAny_builtin F.entry_all_loop ?_
    rw [Around.under_plainId F.plain_all_loop _]
    show wpAny _ B.in1 (pyNext (.ref a) >>= _) _ _ s
    refine wpAny_bind (wpAny_gsz (n := g + 1) hgl (next_genG (A := B.in1) hh hl hd hg hgs (goesQ hgo) (fun v s₁ gs' hbare hv => ?_) (fun s₁ hp h' hk => ?_) fun e s₁ he => he.elim))
    · intro hsz
      obtain ⟨b, H', rfl, ho, hg1, hl1, hk, hn⟩ := hv
      refine wpAny_bind (wpAny_holding (wpAny_truthy_bool ?_))
      refine wpAny_bind (wpAny_letGo ?_)
      have hsz1 : g < s₁.gens.size := by
        have q : (s₁.setGen g gs').gens.size = s₁.gens.size := setGen_size _ _ _
        have hsz' : g + 1 ≤ (s₁.setGen g gs').gens.size := hsz
        omega
      cases b with
      | true =>
        simp only [if_true]
        refine wpAny_pure ⟨plainId_quiet F.plain_all_loop _, ?_⟩
        refine ih _ hg1 hl1 (allBare_setGen ho.bare hbare) ho.os ⟨gs', setGen_at hsz1, ?_⟩
        exact hk rfl ((s₁.setGen g gs').setGen g .running) rfl rfl (allBare_setGen (s := s₁.setGen g gs') (allBare_setGen ho.bare hbare) rfl)
      | false =>
        simp only [Bool.false_eq_true, if_false]
        exact wpAny_bind (wpAny_rule (wpAny_pure (hR false _ H' (ho.gens rfl (allBare_setGen ho.bare hbare) fun _ _ e => e) (hn (by decide)))))
    · intro hsz
      obtain ⟨H', ho, q⟩ := hp
      exact wpAny_bind (wpAny_rule (wpAny_pure (hR true _ H' (ho.gens rfl (allBare_setGen ho.bare rfl) hk) q)))
theorem any_loop {B : Around} {R : Result → Shared → Prop} (hh : B.handled = none) (hd : B.depth < recursionLimit) (hR : ∀ (b : Bool) s' H', Out X fp z Hz H' s' → Q (.bl b) H' → R (.ok (.ret (.bool b))) s') :
    ∀ (n : Nat) (s : Shared), s.heap.IsGen a g → s.heap.NoLimit → AllBare s.gens → s.os = z.os → (∃ gs, s.gens[g]? = some gs ∧ gs.Goes (model X.prog X.w) B.in1.in1 (RQ X fp z Hz false Q) (YQ X fp z Hz a g false Q) n (.send .none) (s.setGen g .running)) →
      codeAny (model X.prog X.w) B (.builtin "any.loop" ⟨[.ref a], []⟩) R s := by
  intro n
  induction n with
  | zero =>
    intro s hg hl hb hos ⟨gs, hgs, hgo⟩
    refine codeAny_builtin F.entry_any_loop ?_
    rw [Around.under_plainId F.plain_any_loop _]
    show wpAny _ B.in1 (pyNext (.ref a) >>= _) _ _ s
    refine wpAny_bind (next_genG (A := B.in1) hh hl hd hg hgs (goesQ hgo) (fun v s₁ gs' hbare hv => ?_) (fun s₁ hp h' hk => ?_) fun e s₁ he => he.elim)
    · obtain ⟨b, H', rfl, ho, hg1, hl1, hk, hn⟩ := hv
      refine wpAny_bind (wpAny_holding (wpAny_truthy_bool ?_))
      refine wpAny_bind (wpAny_letGo ?_)
      cases b with
      | false => exact (hk rfl s₁ rfl rfl ho.bare).elim
      | true =>
        simp only [if_true]
        exact wpAny_bind (wpAny_rule (wpAny_pure (hR true _ H' (ho.gens rfl (allBare_setGen ho.bare hbare) fun _ _ e => e) (hn (by decide)))))
    · obtain ⟨H', ho, q⟩ := hp
      exact wpAny_bind (wpAny_rule (wpAny_pure (hR false _ H' (ho.gens rfl (allBare_setGen ho.bare rfl) hk) q)))
  | succ n ih =>
    intro s hg hl hb hos ⟨gs, hgs, hgo⟩
    have hgl : g < s.gens.size := (Array.getElem?_eq_some_iff.mp hgs).1
    refine codeAny_builtin F.entry_any_loop ?_
    rw [Around.under_plainId F.plain_any_loop _]
    show wpAny _ B.in1 (pyNext (.ref a) >>= _) _ _ s
    refine wpAny_bind (wpAny_gsz (n := g + 1) hgl (next_genG (A := B.in1) hh hl hd hg hgs (goesQ hgo) (fun v s₁ gs' hbare hv => ?_) (fun s₁ hp h' hk => ?_) fun e s₁ he => he.elim))
    · intro hsz
      obtain ⟨b, H', rfl, ho, hg1, hl1, hk, hn⟩ := hv
      refine wpAny_bind (wpAny_holding (wpAny_truthy_bool ?_))
      refine wpAny_bind (wpAny_letGo ?_)
      have hsz1 : g < s₁.gens.size := by
        have q : (s₁.setGen g gs').gens.size = s₁.gens.size := setGen_size _ _ _
        have hsz' : g + 1 ≤ (s₁.setGen g gs').gens.size := hsz
        omega
      cases b with
      | false =>
        simp only [Bool.false_eq_true, if_false]
        refine wpAny_pure ⟨plainId_quiet F.plain_any_loop _, ?_⟩
        refine ih _ hg1 hl1 (allBare_setGen ho.bare hbare) ho.os ⟨gs', setGen_at hsz1, ?_⟩
        exact hk rfl ((s₁.setGen g gs').setGen g .running) rfl rfl (allBare_setGen (s := s₁.setGen g gs') (allBare_setGen ho.bare hbare) rfl)
      | true =>
        simp only [if_true]
        exact wpAny_bind (wpAny_rule (wpAny_pure (hR true _ H' (ho.gens rfl (allBare_setGen ho.bare hbare) fun _ _ e => e) (hn (by decide)))))
    · intro hsz
      obtain ⟨H', ho, q⟩ := hp
      exact wpAny_bind (wpAny_rule (wpAny_pure (hR false _ H' (ho.gens rfl (allBare_setGen ho.bare rfl) hk) q)))
/-- H' is H, or the new generator's code object stands in the table -/
def TabM (P : Addr) (gpos : Pos) (H H' : Hp) : Prop := TabG H P ∧ (H' = H ∨ ∃ (ps : Array Value) (c' : Addr), H P = some (.tbl ps) ∧ codeAmong gpos ps.toList = none ∧ TriplesOk (ps ++ #[rawInt gpos.line, rawInt gpos.col, .ref c']).toList ∧ H' = upd H P (.tbl (ps ++ #[rawInt gpos.line, rawInt gpos.col, .ref c'])))
theorem TabM.tabbed {P : Addr} {gpos : Pos} {H H' : Hp} (h : TabM P gpos H H') : Tabbed P H H' := by
  obtain ⟨t, rfl | ⟨ps, c', h1, h2, h3, rfl⟩⟩ := h
  · exact ⟨t, fun _ _ => rfl⟩
  · exact ⟨⟨_, upd_same, h3⟩, fun b hb => upd_ne hb⟩
def tQuant (P : Addr) (gpos : Pos) (cont : Bool) (wi : TI) (t : TE) : TE := fun σ H Q => wi σ H fun J H1 => TabG H1 P ∧ ∀ H2, TabM P gpos H1 H2 → ∃ W : Nat → Nat → Hp → Prop, (∃ m, W 0 m H2) ∧ Walked J cont Q (fun v H Q => t (some v :: σ) H Q) W
theorem pe_allE {c P : Addr} {p pos : Pos} {wi : TI} {k : Nat} (hr : Room (k + 1) X.A) (hg : Gl X "all") (hm : X.mg "all" = none) (TB : GxR.TabB X.base X.mg c P) (hcode : X.env.code = .ref c) (S : GnS x X.env.scope scope) (hnd : X.N.Nodup) (hrow : x ∉ X.N) (hdot : (".0" : Str) ∉ X.N)
    (hi : PI X (.Name x px) iter wi) (hbody : ∀ (A : Around) (C : Addr) (code : Value) (s : Shared) (H : Hp) (fp : List Addr), Room k A → PE (genCx X x A (gEnv X scope C code) s H fp) elt t) (hs : ∀ v, genFold iter X.env v = pure v)
    (he : starEach [.GeneratorExp elt [⟨.Name x px, iter, [], 0⟩] scope gpos] X.env = (false, eval (.GeneratorExp elt [⟨.Name x px, iter, [], 0⟩] scope gpos) X.env) :: starEach [] X.env := by rfl) :
    PE X (.Call (.Name "all" p) [.GeneratorExp elt [⟨.Name x px, iter, [], 0⟩] scope gpos] [] pos) (tQuant P gpos true wi t) := by
  refine ⟨fun pins s σ H Q I h => ?_⟩
  refine wpAny_Call_Name_kw (ld_blt I hg hm (by decide +kernel : bootBuiltins "all" = some (.builtin "all")) ?_)
  refine PyProof.Rows.callWith_builtin1 ?_ he (by rfl)
  rw [he]
  refine Calls.spliced_cons (wpAny_GeneratorExp_make S.co (closure_ok (S.has I.ok)) S.cell S.dot S.kind (by have := hr.dp; omega) ?_ hs)
  refine thn (hi.run pins s σ H _ I h) fun xv s1 h1 => thn h1 fun itv s2 h2 => ?_
  obtain ⟨it, fp, tn, J, H1, rfl, I2, T, st2, f2, tb, q⟩ := h2
  refine ⟨I2.nolimit, ?_⟩
  have step : wpAny (model X.prog X.w) X.A (genexprCode X.env gpos (X.env.qual ++ "<genexpr>") scope) (fun _ z => ∃ Hz, Inv X pins σ Hz z ∧ tn 0 z.heap ∧ (∀ b ∈ fp, FpOk X pins Hz b ∧ b < z.heap.objs.size) ∧ TabM P gpos H1 Hz) X.xe s2 := by
    have lt : ∀ {h : Heap} {i : Nat}, tn i h → ∀ b ∈ fp, b < h.objs.size := fun {h i} st b hb => by
      obtain ⟨o, e, _⟩ := T.obj _ _ st b hb
      exact Heap.lt_size e
    obtain ⟨ps, hP, ht⟩ := tb
    have eP : s2.heap.get? P = some { cls := .none, data := .fields ps } := I2.hok P _ hP
    have cd : PySem.W.CodeHd s2.heap c P := TB.code.keeps I2.bk
    have neP : ∀ b ∈ fp, b ≠ P := fun b hb e => by
      have := (f2 b hb).1
      rw [e, hP] at this; cases this
    cases hf : codeAmong gpos ps.toList with
    | none =>
      refine wpAny_genexprCodeX hcode (cd.code eP ht) (cd.tab eP) hf fun c' h' tk hx hge hlt hco' _ htab' _ => ?_
      obtain ⟨o1, vs, f1, tf, fl, tg, inF, tx, tt, op, _, _, _, _, _, _, _, _, _, htr, _⟩ := hco'
      have st' : tn 0 h' := T.keep _ _ _ st2 fun b hb o e => hx b o (neP b hb) e
      exact ⟨_, inv_tab (more := #[rawInt gpos.line, rawInt gpos.col, .ref c']) (h' := h') (g' := s2.gens) (d' := s2.drawn) (t' := tk) I2 hP (fun b u hb e => hx b u hb e) htab'.2 I2.bare, st', fun b hb => ⟨⟨by rw [upd_ne (neP b hb)]; exact (f2 b hb).1, (f2 b hb).2⟩, lt st' b hb⟩, ⟨ps, hP, ht⟩, .inr ⟨ps, c', hP, hf, htr, rfl⟩⟩
    | some cv => exact wpAny_genexprCode_hit hcode (cd.code eP ht) hf ⟨H1, I2, st2, fun b hb => ⟨f2 b hb, lt st2 b hb⟩, ⟨ps, hP, ht⟩, .inl rfl⟩
  refine thn step fun code z ⟨Hz, Iz, stz, fz, tz⟩ => ?_
  obtain ⟨W, ⟨m0, w0⟩, turn⟩ := q Hz tz
  obtain ⟨bm, ob, b1, b2, b3, b4, b5, b6, b7, b8⟩ := TB.bm
  refine wpAny_builtinsFor (m := X.mg) (by rw [Iz.ok.glob]; exact Iz.mod.glob.keeps Iz.bk) b1 b2 (Iz.bk _ _ b5) b6 b7 b8 ?_
  intro h' hn' hs'
  refine Calls.spliced_nil ?_
  have hsz : h'.objs.size = z.heap.objs.size + 1 := by rw [hs'.1, Heap.size_push]
  have kp' : ∀ b o, z.heap.get? b = some o → h'.get? b = some o := fun b o e => hs'.extBut b o (Nat.ne_of_lt (Heap.lt_size e)) (Heap.get?_push_of_some _ e)
  generalize hgob : ({ cls := .type "generator", data := .fields #[.int z.gens.size 0, .str "<genexpr>" (z.toks + 1), .str (X.env.qual ++ "<genexpr>") (z.toks + 1 + 1)] } : Obj) = gob
  have hgen : ∀ h : Heap, h.get? h'.objs.size = some gob → h.IsGen h'.objs.size z.gens.size := fun h e => by subst hgob; exact ⟨_, _, _, e, rfl, rfl, rfl⟩
  have hat : (h'.push gob).get? h'.objs.size = some gob := Heap.get?_push_size _ (by subst hgob; rfl)
  have kp : ∀ b o, z.heap.get? b = some o → (h'.push gob).get? b = some o := fun b o e => Heap.get?_push_of_some _ (kp' b o e)
  have hbare : AllBare (z.gens.push (.fresh (.compStart (.GeneratorExp elt [⟨.Name x px, iter, [], 0⟩] scope gpos) 0 (.ref it) .none (gEnv X scope z.heap.objs.size code)))) := Iz.bare.push rfl
  refine call_function_tree F.kind_all F.plain_all F.entry_all (F.args_all1 _) ?_
  unfold Builtin.«all»
  refine wpAny_bind (m := oneArg "all" _) (wpAny_pure ?_)
  refine wpAny_bind (wpAny_pyIter_gen (s := { z with gens := _, toks := _, heap := h'.push gob }) (hgen _ hat) ?_)
  have hroom : Room k (gAr X.A.in1.in1 elt iter x px gpos scope it (gEnv X scope z.heap.objs.size code)) := ⟨hr.hd, by have := hr.dp; show X.A.depth + 0 + 1 + 3 * k + 5 < _; omega, by have := hr.un; show X.A.units + 1 + 1 + 0 + 3 + 16 * k + 200 < _; omega⟩
  have hfr : (gAr X.A.in1.in1 elt iter x px gpos scope it (gEnv X scope z.heap.objs.size code)).frames = some (gEnv X scope z.heap.objs.size code :: X.stack) := by
    have e : X.A.in1.in1.frames = some X.stack := Iz.ok.frames
    simp only [gAr, Around.over]
    rw [e]
    first | rfl | done
  have nlt : z.heap.objs.size ≤ h'.objs.size := by rw [hsz]; exact Nat.le_succ _
  have nne : h'.objs.size ≠ z.heap.objs.size := by rw [hsz]; exact Nat.succ_ne_self _
  have afp : h'.objs.size ∉ fp := fun hm => absurd (Nat.lt_of_lt_of_le (fz _ hm).2 nlt) (Nat.lt_irrefl _)
  refine wpAny_pure ⟨plainId_quiet F.plain_all_loop _, all_loop (X := X) (fp := fp) (z := z) (Hz := Hz) (Q := Q) (a := h'.objs.size) (g := z.gens.size) hr.hd (by have := hr.dp; omega) (fun b s' H' o q => ?_) (m0 + 1) _ (hgen _ hat) (Iz.nolimit.keeps kp) hbare rfl ⟨_, Array.getElem?_push_size .., rfl, ?_⟩⟩
  · refine ⟨.bl b, H', Iz.call' (ch := fp) o.os o.un o.hok o.bare fun b hb => ?_, rfl, q⟩
    obtain ⟨_, f1, f2, f3, f4, f5⟩ := (fz b hb).1
    exact ⟨f3, f1, f4, f5⟩
  · have I0 := gen_start (g₁ := (({ z with gens := z.gens.push (.fresh (.compStart (.GeneratorExp elt [⟨.Name x px, iter, [], 0⟩] scope gpos) 0 (.ref it) .none (gEnv X scope z.heap.objs.size code))), toks := z.toks + 1 + 1 + 1, heap := h'.push gob } : Shared).setGen z.gens.size .running).gens) (tk := z.toks + 1 + 1 + 1) (h₁ := h'.push gob) Iz S hrow hdot (A := gAr X.A.in1.in1 elt iter x px gpos scope it (gEnv X scope z.heap.objs.size code)) hr.hd hfr fz (hn'.push _) kp (allBare_setGen hbare rfl)
    have I1 : Inv (gX X x X.A.in1.in1 elt iter px gpos scope it code z Hz fp) [(h'.objs.size, gob)] (none :: σ) Hz _ := I0.pins_of fun p hp => by
      have hp : p ∈ [(h'.objs.size, gob)] := hp
      rw [List.mem_singleton.mp hp]
      refine ⟨hat, Iz.hok.fresh nlt, nne, fun hm => ?_, fun v => by subst hgob; intro e; cases e⟩
      rcases List.mem_cons.mp (Iz.stkSub _ hm) with e | e
      · exact absurd (Nat.lt_of_le_of_lt nlt (by rw [show h'.objs.size = X.env.locals from e]; exact Iz.lt)) (Nat.lt_irrefl _)
      · exact Iz.nofs nlt e
    have stat : ∀ {H' : Hp}, (∀ b ∈ fp, H' b = none) → ∀ b ∈ fp, FpOk (gX X x X.A.in1.in1 elt iter px gpos scope it code z Hz fp) [(h'.objs.size, gob)] H' b := fun {H'} hn b hb => by
      refine ⟨hn b hb, ?_, fun hm => ?_, .inl hb, I1.ok.exf b hb |>.2, fun p hp => ?_⟩
      · exact (I1.ok.exf b hb).1
      · exact I1.ok.exfs b hb hm
      · have hp : p ∈ [(h'.objs.size, gob)] := hp
        rw [List.mem_singleton.mp hp]
        exact fun e => afp (by have e : h'.objs.size = b := e; rw [e]; exact hb)
    exact seg_begin (σ := σ) T (T.keep _ _ _ stz fun b _ o e => kp b o e) _ _ _ (seg_turns S hnd hrow afp hgen T (hbody _ _ _ _ _ _ hroom) turn stat (m0 + 1) 0 m0 none Hz _ _ (Nat.lt_succ_self _) I1 (T.keep _ _ _ stz fun b _ o e => kp b o e) (fun b hb => (fz b hb).1.1) w0)
theorem pe_anyE {c P : Addr} {p pos : Pos} {wi : TI} {k : Nat} (hr : Room (k + 1) X.A) (hg : Gl X "any") (hm : X.mg "any" = none) (TB : GxR.TabB X.base X.mg c P) (hcode : X.env.code = .ref c) (S : GnS x X.env.scope scope) (hnd : X.N.Nodup) (hrow : x ∉ X.N) (hdot : (".0" : Str) ∉ X.N)
    (hi : PI X (.Name x px) iter wi) (hbody : ∀ (A : Around) (C : Addr) (code : Value) (s : Shared) (H : Hp) (fp : List Addr), Room k A → PE (genCx X x A (gEnv X scope C code) s H fp) elt t) (hs : ∀ v, genFold iter X.env v = pure v)
    (he : starEach [.GeneratorExp elt [⟨.Name x px, iter, [], 0⟩] scope gpos] X.env = (false, eval (.GeneratorExp elt [⟨.Name x px, iter, [], 0⟩] scope gpos) X.env) :: starEach [] X.env := by rfl) :
    PE X (.Call (.Name "any" p) [.GeneratorExp elt [⟨.Name x px, iter, [], 0⟩] scope gpos] [] pos) (tQuant P gpos false wi t) := by
  refine ⟨fun pins s σ H Q I h => ?_⟩
  refine wpAny_Call_Name_kw (ld_blt I hg hm (by decide +kernel : bootBuiltins "any" = some (.builtin "any")) ?_)
  refine PyProof.Rows.callWith_builtin1 ?_ he (by rfl)
  rw [he]
  refine Calls.spliced_cons (wpAny_GeneratorExp_make S.co (closure_ok (S.has I.ok)) S.cell S.dot S.kind (by have := hr.dp; omega) ?_ hs)
  refine thn (hi.run pins s σ H _ I h) fun xv s1 h1 => thn h1 fun itv s2 h2 => ?_
  obtain ⟨it, fp, tn, J, H1, rfl, I2, T, st2, f2, tb, q⟩ := h2
  refine ⟨I2.nolimit, ?_⟩
  have step : wpAny (model X.prog X.w) X.A (genexprCode X.env gpos (X.env.qual ++ "<genexpr>") scope) (fun _ z => ∃ Hz, Inv X pins σ Hz z ∧ tn 0 z.heap ∧ (∀ b ∈ fp, FpOk X pins Hz b ∧ b < z.heap.objs.size) ∧ TabM P gpos H1 Hz) X.xe s2 := by
    have lt : ∀ {h : Heap} {i : Nat}, tn i h → ∀ b ∈ fp, b < h.objs.size := fun {h i} st b hb => by
      obtain ⟨o, e, _⟩ := T.obj _ _ st b hb
      exact Heap.lt_size e
    obtain ⟨ps, hP, ht⟩ := tb
    have eP : s2.heap.get? P = some { cls := .none, data := .fields ps } := I2.hok P _ hP
    have cd : PySem.W.CodeHd s2.heap c P := TB.code.keeps I2.bk
    have neP : ∀ b ∈ fp, b ≠ P := fun b hb e => by
      have := (f2 b hb).1
      rw [e, hP] at this; cases this
    cases hf : codeAmong gpos ps.toList with
    | none =>
      refine wpAny_genexprCodeX hcode (cd.code eP ht) (cd.tab eP) hf fun c' h' tk hx hge hlt hco' _ htab' _ => ?_
      obtain ⟨o1, vs, f1, tf, fl, tg, inF, tx, tt, op, _, _, _, _, _, _, _, _, _, htr, _⟩ := hco'
      have st' : tn 0 h' := T.keep _ _ _ st2 fun b hb o e => hx b o (neP b hb) e
      exact ⟨_, inv_tab (more := #[rawInt gpos.line, rawInt gpos.col, .ref c']) (h' := h') (g' := s2.gens) (d' := s2.drawn) (t' := tk) I2 hP (fun b u hb e => hx b u hb e) htab'.2 I2.bare, st', fun b hb => ⟨⟨by rw [upd_ne (neP b hb)]; exact (f2 b hb).1, (f2 b hb).2⟩, lt st' b hb⟩, ⟨ps, hP, ht⟩, .inr ⟨ps, c', hP, hf, htr, rfl⟩⟩
    | some cv => exact wpAny_genexprCode_hit hcode (cd.code eP ht) hf ⟨H1, I2, st2, fun b hb => ⟨f2 b hb, lt st2 b hb⟩, ⟨ps, hP, ht⟩, .inl rfl⟩
  refine thn step fun code z ⟨Hz, Iz, stz, fz, tz⟩ => ?_
  obtain ⟨W, ⟨m0, w0⟩, turn⟩ := q Hz tz
  obtain ⟨bm, ob, b1, b2, b3, b4, b5, b6, b7, b8⟩ := TB.bm
  refine wpAny_builtinsFor (m := X.mg) (by rw [Iz.ok.glob]; exact Iz.mod.glob.keeps Iz.bk) b1 b2 (Iz.bk _ _ b5) b6 b7 b8 ?_
  intro h' hn' hs'
  refine Calls.spliced_nil ?_
  have hsz : h'.objs.size = z.heap.objs.size + 1 := by rw [hs'.1, Heap.size_push]
  have kp' : ∀ b o, z.heap.get? b = some o → h'.get? b = some o := fun b o e => hs'.extBut b o (Nat.ne_of_lt (Heap.lt_size e)) (Heap.get?_push_of_some _ e)
  generalize hgob : ({ cls := .type "generator", data := .fields #[.int z.gens.size 0, .str "<genexpr>" (z.toks + 1), .str (X.env.qual ++ "<genexpr>") (z.toks + 1 + 1)] } : Obj) = gob
  have hgen : ∀ h : Heap, h.get? h'.objs.size = some gob → h.IsGen h'.objs.size z.gens.size := fun h e => by subst hgob; exact ⟨_, _, _, e, rfl, rfl, rfl⟩
  have hat : (h'.push gob).get? h'.objs.size = some gob := Heap.get?_push_size _ (by subst hgob; rfl)
  have kp : ∀ b o, z.heap.get? b = some o → (h'.push gob).get? b = some o := fun b o e => Heap.get?_push_of_some _ (kp' b o e)
  have hbare : AllBare (z.gens.push (.fresh (.compStart (.GeneratorExp elt [⟨.Name x px, iter, [], 0⟩] scope gpos) 0 (.ref it) .none (gEnv X scope z.heap.objs.size code)))) := Iz.bare.push rfl
  refine call_function_tree F.kind_any F.plain_any F.entry_any (F.args_any1 _) ?_
  unfold Builtin.«any»
  refine wpAny_bind (m := oneArg "any" _) (wpAny_pure ?_)
  refine wpAny_bind (wpAny_pyIter_gen (s := { z with gens := _, toks := _, heap := h'.push gob }) (hgen _ hat) ?_)
  have hroom : Room k (gAr X.A.in1.in1 elt iter x px gpos scope it (gEnv X scope z.heap.objs.size code)) := ⟨hr.hd, by have := hr.dp; show X.A.depth + 0 + 1 + 3 * k + 5 < _; omega, by have := hr.un; show X.A.units + 1 + 1 + 0 + 3 + 16 * k + 200 < _; omega⟩
  have hfr : (gAr X.A.in1.in1 elt iter x px gpos scope it (gEnv X scope z.heap.objs.size code)).frames = some (gEnv X scope z.heap.objs.size code :: X.stack) := by
    have e : X.A.in1.in1.frames = some X.stack := Iz.ok.frames
    simp only [gAr, Around.over]
    rw [e]
    first | rfl | done
  have nlt : z.heap.objs.size ≤ h'.objs.size := by rw [hsz]; exact Nat.le_succ _
  have nne : h'.objs.size ≠ z.heap.objs.size := by rw [hsz]; exact Nat.succ_ne_self _
  have afp : h'.objs.size ∉ fp := fun hm => absurd (Nat.lt_of_lt_of_le (fz _ hm).2 nlt) (Nat.lt_irrefl _)
  refine wpAny_pure ⟨plainId_quiet F.plain_any_loop _, any_loop (X := X) (fp := fp) (z := z) (Hz := Hz) (Q := Q) (a := h'.objs.size) (g := z.gens.size) hr.hd (by have := hr.dp; omega) (fun b s' H' o q => ?_) (m0 + 1) _ (hgen _ hat) (Iz.nolimit.keeps kp) hbare rfl ⟨_, Array.getElem?_push_size .., rfl, ?_⟩⟩
  · refine ⟨.bl b, H', Iz.call' (ch := fp) o.os o.un o.hok o.bare fun b hb => ?_, rfl, q⟩
    obtain ⟨_, f1, f2, f3, f4, f5⟩ := (fz b hb).1
    exact ⟨f3, f1, f4, f5⟩
  · have I0 := gen_start (g₁ := (({ z with gens := z.gens.push (.fresh (.compStart (.GeneratorExp elt [⟨.Name x px, iter, [], 0⟩] scope gpos) 0 (.ref it) .none (gEnv X scope z.heap.objs.size code))), toks := z.toks + 1 + 1 + 1, heap := h'.push gob } : Shared).setGen z.gens.size .running).gens) (tk := z.toks + 1 + 1 + 1) (h₁ := h'.push gob) Iz S hrow hdot (A := gAr X.A.in1.in1 elt iter x px gpos scope it (gEnv X scope z.heap.objs.size code)) hr.hd hfr fz (hn'.push _) kp (allBare_setGen hbare rfl)
    have I1 : Inv (gX X x X.A.in1.in1 elt iter px gpos scope it code z Hz fp) [(h'.objs.size, gob)] (none :: σ) Hz _ := I0.pins_of fun p hp => by
      have hp : p ∈ [(h'.objs.size, gob)] := hp
      rw [List.mem_singleton.mp hp]
      refine ⟨hat, Iz.hok.fresh nlt, nne, fun hm => ?_, fun v => by subst hgob; intro e; cases e⟩
      rcases List.mem_cons.mp (Iz.stkSub _ hm) with e | e
      · exact absurd (Nat.lt_of_le_of_lt nlt (by rw [show h'.objs.size = X.env.locals from e]; exact Iz.lt)) (Nat.lt_irrefl _)
      · exact Iz.nofs nlt e
    have stat : ∀ {H' : Hp}, (∀ b ∈ fp, H' b = none) → ∀ b ∈ fp, FpOk (gX X x X.A.in1.in1 elt iter px gpos scope it code z Hz fp) [(h'.objs.size, gob)] H' b := fun {H'} hn b hb => by
      refine ⟨hn b hb, ?_, fun hm => ?_, .inl hb, I1.ok.exf b hb |>.2, fun p hp => ?_⟩
      · exact (I1.ok.exf b hb).1
      · exact I1.ok.exfs b hb hm
      · have hp : p ∈ [(h'.objs.size, gob)] := hp
        rw [List.mem_singleton.mp hp]
        exact fun e => afp (by have e : h'.objs.size = b := e; rw [e]; exact hb)
    exact seg_begin (σ := σ) T (T.keep _ _ _ stz fun b _ o e => kp b o e) _ _ _ (seg_turns S hnd hrow afp hgen T (hbody _ _ _ _ _ _ hroom) turn stat (m0 + 1) 0 m0 none Hz _ _ (Nat.lt_succ_self _) I1 (T.keep _ _ _ stz fun b _ o e => kp b o e) (fun b hb => (fz b hb).1.1) w0)
end
end
/-- over a list that the elements leave as it is -/
theorem walk_list {K : PySem.W.Frag} {a : Addr} {xs : List V} {cont : Bool} {Q : VK} {tb : V → Hp → VK → Prop} (Pv : Nat → Hp → Prop) {H0 : Hp} (h0 : Pv 0 H0) (hl : ∀ i H, i ≤ xs.length → Pv i H → SqL K H a xs)
    (hs : ∀ i x H (N : Hp → Prop), (∀ H'', Pv (i + 1) H'' → N H'') → xs[i]? = some x → Pv i H → tb x H fun v H'' => ∃ b, v = .bl b ∧ (b = cont → N H'') ∧ (b ≠ cont → Q (.bl b) H'')) (hd : ∀ H, Pv xs.length H → Q (.bl cont) H) :
    ∃ W : Nat → Nat → Hp → Prop, (∃ m, W 0 m H0) ∧ Walked (Itl K a) cont Q tb W := by
  refine ⟨fun i m H => m = xs.length - i ∧ i ≤ xs.length ∧ Pv i H, ⟨xs.length, by simp, Nat.zero_le _, h0⟩, ?_⟩
  rintro i m H ⟨rfl, hi, p⟩
  have q := hl i H hi p
  by_cases e : i = xs.length
  · exact .inl ⟨⟨xs, q, by omega⟩, hd H (by rw [← e]; exact p)⟩
  · have hi' : i < xs.length := by omega
    refine .inr ⟨⟨xs, xs[i], q, List.getElem?_eq_getElem hi'⟩, fun x H' ⟨e1, e2⟩ => ?_⟩
    subst e1
    exact hs i x H' _ (fun H'' h => ⟨_, by omega, rfl, hi', h⟩) (e2 xs q) p
theorem walk_tup {K : PySem.W.Frag} {a : Addr} {xs : List V} {cont : Bool} {Q : VK} {tb : V → Hp → VK → Prop} (Pv : Nat → Hp → Prop) {H0 : Hp} (h0 : Pv 0 H0) (hl : ∀ i H, i ≤ xs.length → Pv i H → SqT K H a xs)
    (hs : ∀ i x H (N : Hp → Prop), (∀ H'', Pv (i + 1) H'' → N H'') → xs[i]? = some x → Pv i H → tb x H fun v H'' => ∃ b, v = .bl b ∧ (b = cont → N H'') ∧ (b ≠ cont → Q (.bl b) H'')) (hd : ∀ H, Pv xs.length H → Q (.bl cont) H) :
    ∃ W : Nat → Nat → Hp → Prop, (∃ m, W 0 m H0) ∧ Walked (Itt K a) cont Q tb W := by
  refine ⟨fun i m H => m = xs.length - i ∧ i ≤ xs.length ∧ Pv i H, ⟨xs.length, by simp, Nat.zero_le _, h0⟩, ?_⟩
  rintro i m H ⟨rfl, hi, p⟩
  have q := hl i H hi p
  by_cases e : i = xs.length
  · exact .inl ⟨⟨xs, q, by omega⟩, hd H (by rw [← e]; exact p)⟩
  · have hi' : i < xs.length := by omega
    refine .inr ⟨⟨xs, xs[i], q, List.getElem?_eq_getElem hi'⟩, fun x H' ⟨e1, e2⟩ => ?_⟩
    subst e1
    exact hs i x H' _ (fun H'' h => ⟨_, by omega, rfl, hi', h⟩) (e2 xs q) p
end GenE

set_option Elab.async false
set_option linter.all false
set_option maxRecDepth 100000
set_option maxHeartbeats 2000000
/-! x(e, lambda row: body) in a def whose table also holds a generator's code object. -/
namespace LamP
open PySem PySem.Spec PyProof.Rows L2 LamX LamK SprK
/-- the table at P: the code object that it tells at pos bears the name q -/
def TabAt (H : Hp) (P : Addr) (q : Str) (pos : Pos) : Prop := ∃ ps : Array Value, H P = some (.tbl ps) ∧ TriplesOk ps.toList ∧ ∀ cv : Value, codeAmong pos ps.toList = some cv → ∃ c, cv = .ref c ∧ H c = some (CodeO c q)
theorem TabAt.g {H : Hp} {P : Addr} {q : Str} {pos : Pos} (h : TabAt H P q pos) : GxR.TabG H P := let ⟨ps, a, b, _⟩ := h; ⟨ps, a, b⟩
def LamStepP (P : Addr) (q : Str) (pos : Pos) (H H1 : Hp) : Prop := TabAt H1 P q pos ∧ (H1 = H ∨ ∃ (ps more : Array Value) (c' : Addr), H P = some (.tbl ps) ∧ H c' = none ∧ H1 = upd (upd H P (.tbl (ps ++ more))) c' (CodeO c' q))
section
variable {P : Addr} {q : Str} {pos : Pos} {H H1 : Hp}
theorem LamStepP.old (h : LamStepP P q pos H H1) {b : Addr} {o : HO} (e : H b = some o) (n : b ≠ P) : H1 b = some o := by
  rcases h.2 with rfl | ⟨ps, more, c', hP, hc, rfl⟩
  · exact e
  · rw [upd_ne (ne_of_none e hc), upd_ne n]; exact e
theorem LamStepP.old' (h : LamStepP P q pos H H1) {b : Addr} {o : HO} (e : H b = some o) (n : ∀ ps, o ≠ .tbl ps) : H1 b = some o := by
  rcases h.2 with rfl | ⟨ps, more, c', hP, hc, rfl⟩
  · exact e
  · rw [upd_ne (ne_of_none e hc), upd_ne (fun z => by rw [z, hP] at e; exact n _ (Option.some.inj e).symm)]; exact e
theorem LamStepP.free (h : LamStepP P q pos H H1) {b : Addr} (e : H1 b = none) : H b = none := by
  rcases h.2 with rfl | ⟨ps, more, c', hP, hc, rfl⟩
  · exact e
  · by_cases h1 : b = c'
    · rw [h1]; exact hc
    · rw [upd_ne h1] at e
      by_cases h2 : b = P
      · rw [h2, upd_same] at e; cases e
      · rw [upd_ne h2] at e; exact e
theorem LamStepP.sqT {K : PySem.W.Frag} (h : LamStepP P q pos H H1) {a : Addr} {xs : List V} (m : SqT K H a xs) : SqT K H1 a xs := by
  rcases m with (m | ⟨o, m⟩) | m
  · exact .inl (.inl (h.old' m fun _ z => by cases z))
  · exact .inl (.inr ⟨o, h.old' m fun _ z => by cases z⟩)
  · exact .inr m
theorem among_ne {g p : Pos} {c : Value} (n : ¬ ((g.line : Int) = p.line ∧ (g.col : Int) = p.col)) (l : List Value) (h : TriplesOk l) : codeAmong p (l ++ [rawInt g.line, rawInt g.col, c]) = codeAmong p l := by
  fun_induction TriplesOk l with
  | case1 =>
    simp only [List.nil_append, rawInt, codeAmong]
    rw [if_neg (by simpa using n)]
  | case2 a t b u x rest ih =>
    simp only [List.cons_append, codeAmong]
    split
    · rfl
    · exact ih h
  | case3 l h1 h2 => exact h.elim
/-- the generator's code object has come into the table: elsewhere in it -/
theorem TabAt.gen {gpos : Pos} (t : TabAt H P q pos) (m : GenE.TabM P gpos H H1) (n : ¬ ((gpos.line : Int) = pos.line ∧ (gpos.col : Int) = pos.col)) : TabAt H1 P q pos := by
  obtain ⟨_, rfl | ⟨ps, c', h1, h2, h3, rfl⟩⟩ := m
  · exact t
  · obtain ⟨ps2, a1, a2, a3⟩ := t
    rw [h1] at a1
    cases a1
    refine ⟨_, upd_same, h3, fun cv hcv => ?_⟩
    have e : (ps ++ #[rawInt gpos.line, rawInt gpos.col, Value.ref c']).toList = ps.toList ++ [rawInt gpos.line, rawInt gpos.col, .ref c'] := by simp
    rw [e, among_ne n _ a2] at hcv
    obtain ⟨c0, e1, e2⟩ := a3 cv hcv
    exact ⟨c0, e1, by rw [upd_ne (fun z => by rw [z, h1] at e2; exact codeO_ne _ (Option.some.inj e2).symm)]; exact e2⟩
end
section
variable {X : Cx} {pins : List (Addr × Obj)} {σ : L2.St} {H HZ : Hp} {s s1 : Shared}
/-- as lam_make3, of a lambda that may read names of its maker -/
theorem lam_make5 {row : Str} {c P : Addr} {params : Arguments} {body : Expr} {scope : Scope} {pos : Pos} {E : Value → Shared → Prop} {Q : Value → Shared → Prop} (I : Inv X pins σ H s) (TB : TabB X.base X.mg c P) (hcode : X.env.code = .ref c) (hT : TabAt H P (X.env.qual ++ "<lambda>") pos) (hdef : defaultsOf params X.env = ([], [])) (L : LamS1 row X.env.scope scope)
    (h : ∀ (f c' : Addr) (pm ctv : Value) (H1 : Hp) (s' : Shared), Inv X pins σ H1 s' → LamStepP P (X.env.qual ++ "<lambda>") pos H H1 → s'.heap.get? f = some (fnObj (X.env.qual ++ "<lambda>") params body scope (cloFrom X.env.cells scope.names []) pm c' ctv) → H1 f = none → f ∉ frs X.stack → H1 c' = some (CodeO c' (X.env.qual ++ "<lambda>")) → Q (.ref f) s') :
    wpAny (model X.prog X.w) X.A (eval (.Lambda params body scope pos) X.env) Q E s := by
  have hT0 := hT
  obtain ⟨ps, hP, ht, ha⟩ := hT
  have hcl : closureFor scope X.env = pure (cloFrom X.env.cells scope.names []) := closure_ok (L.has I.ok)
  have eP : s.heap.get? P = some { cls := .none, data := .fields ps } := I.hok P _ hP
  have nofr : ∀ f, s.heap.objs.size ≤ f → f ∉ frs X.stack := fun f hf z => by
    rcases List.mem_cons.mp (I.stkSub _ z) with e | e
    · have h1 := I.lt
      rw [← e] at h1
      exact Nat.lt_irrefl _ (Nat.lt_of_lt_of_le h1 hf)
    · exact I.nofs hf e
  refine PySem.W.kla_eval hdef ?_
  rcases hc : codeAmong pos ps.toList with _ | cv
  · refine PySem.W.kla_makeFunction (mg := X.mg) (c := c) (P := P) (ps := ps) hcl I.ok.glob (I.mod.glob.keeps I.bk) hcode (TB.code.keeps I.bk) eP ht hc TB.gP (TB.bm.keeps I.bk) fun c' ctv h' tk hx hge hlt hrec htb => ?_
    obtain ⟨c2, oc, vs, t, e2, hoc, hd, hv⟩ := hrec
    cases e2
    have hsz : s.heap.objs.size ≤ h'.objs.size := Nat.le_trans hge (Nat.le_of_lt hlt)
    have nc : H c' = none := I.hok.fresh hge
    have hnew := inv_table (q := X.env.qual ++ "<lambda>") (t' := tk) (more := #[rawInt pos.line, rawInt pos.col, .ref c']) (h' := h'.push (fnObj (X.env.qual ++ "<lambda>") params body scope (cloFrom X.env.cells scope.names []) ((X.mg "__name__").getD .none) c' ctv)) I hP (fun b o hb e => Heap.get?_push_of_some _ (hx b o hb e)) (Heap.get?_push_of_some _ htb) hge ⟨oc, vs, t, Heap.get?_push_of_some _ hoc, hd, hv⟩
    have hst : LamStepP P (X.env.qual ++ "<lambda>") pos H (upd (upd H P (.tbl (ps ++ #[rawInt pos.line, rawInt pos.col, .ref c']))) c' (CodeO c' (X.env.qual ++ "<lambda>"))) := by
      have eL : (ps ++ #[rawInt pos.line, rawInt pos.col, .ref c']).toList = ps.toList ++ [rawInt pos.line, rawInt pos.col, .ref c'] := by simp
      refine ⟨⟨_, by rw [upd_ne (ne_of_none hP nc), upd_same], by rw [eL]; exact PySem.TriplesOk_snoc _ _ _ _ ht, fun cv hcv => ?_⟩, .inr ⟨ps, _, c', hP, nc, rfl⟩⟩
      rw [eL] at hcv
      rcases among_app _ ht hcv with z | z
      · rw [hc] at z; cases z
      · exact ⟨c', z, upd_same⟩
    have n1 : h'.objs.size ≠ c' := Nat.ne_of_gt hlt
    have n2 : h'.objs.size ≠ P := Nat.ne_of_gt (Nat.lt_of_lt_of_le (Heap.lt_size eP) hsz)
    exact h h'.objs.size c' _ ctv _ _ hnew hst (Heap.get?_push_size _ rfl) (by rw [upd_ne n1, upd_ne n2]; exact I.hok.fresh hsz) (nofr _ hsz) upd_same
  · obtain ⟨c', rfl, hco⟩ := ha cv hc
    refine PySem.W.kla_makeFunctionHit (mg := X.mg) (c := c) (P := P) (ps := ps) hcl I.ok.glob (I.mod.glob.keeps I.bk) hcode (TB.code.keeps I.bk) eP ht hc (TB.bm.keeps I.bk) fun ctv h' tk hx hsz => ?_
    exact h h'.objs.size c' _ ctv H _ (I.kept fun b o e => Heap.get?_push_of_some _ (hx b o e)) ⟨hT0, .inl rfl⟩ (Heap.get?_push_size _ rfl) (I.hok.fresh hsz) (nofr _ hsz) hco
end
def tLam1P (P : Addr) (q : Str) (pos : Pos) (TT : V → (V → Hp → VK → Prop) → Hp → VK → Prop) (te : TE) (t : TE) : TE := fun σ H Q => te σ H fun v H1 => TabAt H1 P q pos ∧ ∀ H2, LamStepP P q pos H1 H2 → TT v (fun v' H' Q' => t (some v' :: σ) H' Q') H2 Q
section
variable {X : Cx}
/-- x(e0, lambda row: body) -/
theorem pe_lamcall1P {TT : V → (V → Hp → VK → Prop) → Hp → VK → Prop} {x a b row : Str} {g c P : Addr} {k : Nat} {pg : Arguments} {bg : List Stmt} {sg : Scope} {dV kV doc pm cdv ct oc : Value} {an od : Option Addr} {osl : Array (Option Value)} {Ng : List Str}
    {params : Arguments} {body e0 : Expr} {scope : Scope} {te t : TE} {p lpos pos : Pos} (hg : Gl X x) (hm : X.mg x = some (.ref g)) (hk : PySem.W.keepIn X.K (.ref g) = true)
    (lk : X.K.lookup g = some ⟨oc, od, .func (PySem.W.fnOf x x pg bg sg dV kV doc pm an cdv ct), osl⟩) (hcg : PySem.W.codeIn X.K cdv x = true) (hb : L2.Binds X.K (PySem.W.fnOf x x pg bg sg dV kV doc pm an cdv ct) [b, a] []) (Sg : FnScope Ng [b, a] sg) (hNg : Ng[1]? = some a) (hva : Vis sg a)
    (hG : GivesTo1 X (k + 1) Ng x sg g cdv bg 1 a (X.env.qual ++ "<lambda>") TT) (he0 : PE X e0 te)
    (TB : TabB X.base X.mg c P) (hcode : X.env.code = .ref c) (hr : Room (k + 2) X.A) (L : LamS1 row X.env.scope scope) (hrow : row ∉ X.N) (hdef : defaultsOf params X.env = ([], []))
    (hbind : ∀ (q : Str) (cl : List (Str × Addr)) (pm cv ctv v : Value), bindArgs (PySem.W.kla_fn "<lambda>" q params body scope cl pm cv ctv) ⟨[v], []⟩ = pure [(row, v)])
    (hbody : ∀ (A : Around) (outer : List Env) (s : Shared) (H : Hp) (f c' : Addr), Room k (A.deeper (lamEnv X scope s.heap.objs.size f c')) → PE (lamCx1 X row A outer s H scope f c') body t)
    (hdb : (x == ("__debug__" : Str)) = false := by decide) (hd : (a == ("__debug__" : Str)) = false := by decide) (hcd : (a == ("__classdict__" : Str)) = false := by decide)
    (he : starEach [e0, .Lambda params body scope lpos] X.env = (false, eval e0 X.env) :: starEach [.Lambda params body scope lpos] X.env := by rfl) :
    PE X (.Call (.Name x p) [e0, .Lambda params body scope lpos] [] pos) (tLam1P P (X.env.qual ++ "<lambda>") lpos TT te t) := by
  refine ⟨fun pins s σ H Q I h => ?_⟩
  refine wpAny_Call_Name_kw (ld_glob I hg hm ?_ hdb)
  refine PySem.W.callWith_K (h₀ := X.base) I.ok.mod.kin hk ?_ he (by rfl)
  rw [he]
  show wpAny _ _ (spliced ((false, eval e0 X.env) :: (false, eval (.Lambda params body scope lpos) X.env) :: backTo pos (starEach [] X.env))) _ _ s
  refine Calls.spliced_cons (thn (he0.run pins s σ H _ I h) fun u0 s0 ⟨v0, H0, I0, r0, hT, q0⟩ => ?_)
  refine Calls.spliced_cons (lam_make5 I0 TB hcode hT hdef L fun f c' pm' ctv H1 s' I1 st hf hfn hfr hco => ?_)
  refine Calls.spliced_nil ⟨I1.kIn, ?_⟩
  have rc : codeAny (model X.prog X.w) X.A (.call (.ref g) ⟨[u0, .ref f], []⟩) (CR C8.CX0 X.stack X.prog X.w H1 s' Q C8.E0) s' := by
    refine run_ofS (N := Ng) (ps := [b, a]) (us := [u0, .ref f]) (vs := [v0, .ref f]) lk hcg Sg hr I1.env0 (hb s' [u0, .ref f] I1.kIn rfl) (.cons r0 (.cons rfl .nil)) rfl fun hr' => ?_
    obtain ⟨t', ht', hq'⟩ := hG f c' s' H1 v0 Q (fun v' H' Q' => t (some v' :: σ) H' Q') (fun e t2 p1 p2 hse ha => pe_act1 (i := 1) I1 L hrow hf hfn hfr (fun v => hbind _ _ _ _ _ v) hr' (fun A outer s H hr2 => hbody A outer s H f c' hr2) hNg hva ha hd hcd hse) hco hr' (q0 H1 st)
    exact ⟨t', ht'.nox, hq'⟩
  refine wpAny_call (codeAny_mono rc fun r s2 hq => ?_)
  cases r with
  | error e => exact (show False from hq).elim
  | ok fl =>
    cases fl with
    | ret u => exact I1.after hq
    | next => exact False.elim hq
    | brk => exact False.elim hq
    | cont => exact False.elim hq
end
end LamP

set_option Elab.async false
set_option linter.all false
set_option maxRecDepth 100000
set_option maxHeartbeats 4000000
/-! set(xs) of a list or a tuple, by what one adding does: J i h says what the set at S holds of the first i items in the heap h. -/
namespace MyS
open PySem PySem.Spec PyProof.Rows L2
section
variable {P : Program} {w : World} {A : Around} {E : Value → Shared → Prop} {s : Shared}
/-- one adding -/
def Adds (P : Program) (w : World) (A : Around) (S : Addr) (h0 : Heap) (J : Nat → Heap → Prop) (i : Nat) (v : Value) : Prop :=
  ∀ (z : Shared) (Q : Bool → Shared → Prop) (E : Value → Shared → Prop), J i z.heap → (∀ b o, h0.get? b = some o → z.heap.get? b = some o) →
    (∀ b h' tk, z.toks ≤ tk → Heap.SameBut S z.heap h' → J (i + 1) h' → Q b { z with heap := h', toks := tk }) → wpAny (model P w) A (setAdd S v) Q E z
def KeepsJ (S : Addr) (h0 : Heap) (J : Nat → Heap → Prop) : Prop := ∀ i h h', J i h → (∀ o, h.get? S = some o → h'.get? S = some o) → (∀ b o, h0.get? b = some o → h'.get? b = some o) → J i h'
theorem loopJ {I : Addr} {fp wr : List Addr} {G : Array GenState → Array GenState → Prop} {n : Nat} {Pv : Nat → Value → Prop} {St : Nat → Shared → Prop} {R : Result → Shared → Prop} {J : Nat → Heap → Prop} {S : Addr} {h0 : Heap}
    (W : WalksS P w A.in1 I fp wr G n Pv St) (hSf : S ∉ fp) (hS0 : h0.get? S = none) (hw0 : ∀ b ∈ wr, h0.get? b = none) (kj : KeepsJ S h0 J) (step : ∀ i v, i < n → Pv i v → Adds P w A.in1 S h0 J i v) :
    ∀ (k i : Nat) (z : Shared), n - i = k → i ≤ n → St i z → (∀ b o, h0.get? b = some o → z.heap.get? b = some o) → J i z.heap →
      (∀ z', Moved (S :: wr) G z z' → J n z'.heap → (∀ b o, h0.get? b = some o → z'.heap.get? b = some o) → R (.ok (.ret .none)) z') →
      codeAny (model P w) A (.builtin "set.update.loop" ⟨[.ref S, .ref I], []⟩) R z := by
  have Sw : S ∉ wr := fun h => hSf (W.sub _ h)
  have up : ∀ b ∈ wr, b ∈ S :: wr := fun b hb => List.mem_cons_of_mem _ hb
  have old : ∀ {z z' : Shared}, Moved wr G z z' → (∀ b o, h0.get? b = some o → z.heap.get? b = some o) → ∀ b o, h0.get? b = some o → z'.heap.get? b = some o := fun m k b o e =>
    m.heap b o (fun hb => by rw [hw0 b hb] at e; cases e) (k b o e)
  intro k
  induction k with
  | zero =>
    intro i z hk hi hst hkp hJ hR
    obtain rfl : i = n := by omega
    refine codeAny_builtin F.entry_set_update_loop ?_
    rw [Around.under_plainId F.plain_set_update_loop _]
    show wpAny _ A.in1 (pyNext (.ref I) >>= _) _ _ z
    refine wpAny_bind (W.done z _ _ hst fun z' m => ?_)
    show wpAny _ A.in1 (ret Value.none) _ _ z'
    have o' := old m hkp
    exact wpAny_pure (hR z' (m.mono up) (kj _ _ _ hJ (fun o e => m.heap S o Sw e) o') o')
  | succ k ih =>
    intro i z hk hi hst hkp hJ hR
    have lt : i < n := by omega
    refine codeAny_builtin F.entry_set_update_loop ?_
    rw [Around.under_plainId F.plain_set_update_loop _]
    show wpAny _ A.in1 (pyNext (.ref I) >>= _) _ _ z
    refine wpAny_bind (W.item i z _ _ lt hst fun v z' hP hst' m => ?_)
    have o' := old m hkp
    show wpAny _ A.in1 (holding [v] (setAdd S v) >>= _) _ _ z'
    refine wpAny_bind (wpAny_holding (step i v lt hP z' _ _ (kj _ _ _ hJ (fun o e => m.heap S o Sw e) o') o' fun b h' tk ht sb hJ2 => ?_))
    have nS : ∀ {b : Addr}, b ≠ S → ∀ o, z'.heap.get? b = some o → h'.get? b = some o := fun hb o e => (sb.2 _ hb).trans e
    have o2 : ∀ b o, h0.get? b = some o → h'.get? b = some o := fun b o e => nS (fun q => by rw [q, hS0] at e; cases e) o (o' b o e)
    refine wpAny_pure ⟨plainId_quiet F.plain_set_update_loop _, ih (i + 1) _ (by omega) lt (W.frame _ z' _ _ hst' ht fun b hb o e => nS (fun q => hSf (by rw [← q]; exact hb)) o e) o2 hJ2 fun z2 m2 hJ3 o3 => ?_⟩
    exact hR z2 (Moved.trans W.gtrans ((m.mono up).then_heap ht fun b o hb e => nS (fun q => hb (by rw [q]; exact List.mem_cons_self)) o e) m2) hJ3 o3

abbrev freshSet (w : World) : Obj := { cls := .type "set", dict := none, data := .set #[] 0 (.fresh 0 0 (!w.params.followText "set-order")) }
theorem gone_of {h : Heap} {b : Addr} (hb : h.objs.size ≤ b) : h.get? b = none := by
  cases q : h.get? b with
  | none => rfl
  | some o => exact absurd (Nat.lt_of_lt_of_le (Heap.lt_size q) hb) (Nat.lt_irrefl _)
theorem code_new (a : Value) {Q₁ : Value → Shared → Prop} (h : Q₁ (.ref s.heap.objs.size) { s with heap := s.heap.push (freshSet w) }) :
    codeAny (model P w) A (.call (.builtin "set.__new__") ⟨[.type "set", a], []⟩) (wants Q₁ E) s := code_set_led1 a h
set_option maxHeartbeats 3200000 in
/-- set(l), l a list or a tuple of n items -/
theorem call_setJ {l : Addr} {items : Array Value} {J : Nat → Heap → Prop} {Q : Value → Shared → Prop} (hh : A.handled = none) (hl : s.heap.IsList l items ∨ s.heap.IsTuple l items) (hJ0 : ∀ h, h.get? s.heap.objs.size = some (freshSet w) → J 0 h)
    (kj : KeepsJ s.heap.objs.size s.heap J) (hex : ∀ h, J items.size h → ∃ o, h.get? s.heap.objs.size = some o) (step : ∀ (A' : Around), A'.units ≤ A.units + 4 → ∀ i v, items[i]? = some v → Adds P w A' s.heap.objs.size s.heap J i v)
    (h : ∀ (h' : Heap) (tk : Nat), J items.size h' → (∀ b o, s.heap.get? b = some o → h'.get? b = some o) → (∃ o, h'.get? s.heap.objs.size = some o) → Q (.ref s.heap.objs.size) { s with heap := h', toks := tk }) :
    wpAny (model P w) A (call (.type "set") [.ref l]) Q E s := by
  obtain ⟨c, tl, hmro⟩ := F.called_set.mro
  have hmade := F.called_set.made
  have hsub := F.called_set.sub
  refine wpAny_call (codeAny_of_tree ?_)
  show wpAny _ _ (callAny (.type "set") _) _ _ _
  refine wpAny_pure ⟨Code.quiet_builtin _ (by decide +kernel), codeAny_builtin F.entry_type_call ?_⟩
  rw [Around.under_plain (weight_type_call_type "set" [.ref l] []) rfl]
  have h1 := F.called_set.notType
  have h2 := F.called_set.canCreate
  have hct := F.typeCall_set_1 (.ref l)
  repeat (any_goals (first | assumption | wp_step))

  refine codeAny_mono (code_new (.ref l) (E := E) (Q₁ := fun obj z => obj = .ref s.heap.objs.size ∧ z = { s with heap := s.heap.push (freshSet w) }) ⟨rfl, rfl⟩) fun r z hr => ?_
  cases r with
  | error e => exact hr
  | ok fl =>
    cases fl with
    | ret obj =>
      obtain ⟨rfl, rfl⟩ := hr
      have hS : (s.heap.push (freshSet w)).get? s.heap.objs.size = some (freshSet w) := Heap.get?_push_size _ rfl
      have hT : Shared.TypeIs { s with heap := s.heap.push (freshSet w) } (.ref s.heap.objs.size) "set" := ⟨_, hS, rfl⟩
      have hli := F.called_set.init.lookup
      have hbi := F.called_set.init.bind (.ref s.heap.objs.size)
      repeat (any_goals (first | assumption | wp_step))

      refine codeAny_mono (codeAny_call_builtin (R := wants (fun r z => r = .none ∧ ∃ h' tk, z = { s with heap := h', toks := tk } ∧ J items.size h' ∧ (∀ b o, s.heap.get? b = some o → h'.get? b = some o) ∧ ∃ o, h'.get? s.heap.objs.size = some o) E) F.called_set.init.plain F.entry_set_init (check_set_init_1 hT ?_)) fun r₂ z₂ hr₂ => ?_
      · have hneS : ∀ b o, s.heap.get? b = some o → b ≠ s.heap.objs.size := fun b o e z => Nat.lt_irrefl _ (z ▸ Heap.lt_size e)
        have szp : (s.heap.push (freshSet w)).objs.size = s.heap.objs.size + 1 := Heap.size_push ..
        have hu3 : (A.in1.in1.in1).units ≤ A.units + 4 := by have e : (A.in1.in1.in1).units = A.units + 3 := rfl; omega
        rcases hl with hl | hl
        · obtain ⟨ol, hol, hcl, nl, hdl⟩ := hl
          obtain ⟨ocls, odict, odata, oslots⟩ := ol
          simp only at hcl hdl
          subst hcl; subst hdl
          have hol' : (s.heap.push (freshSet w)).get? l = some { cls := .type "list", dict := odict, data := .seq items nl, slots := oslots } := Heap.get?_push_of_some _ hol
          have hsls := F.sub_list_set
          have hslf := F.sub_list_frozenset
          have hne : (Value.type "list" == Value.type "dict") = false := by decide
          have hl1 : (s.heap.push (freshSet w)).IsList l items := ⟨_, hol', rfl, nl, rfl⟩
          unfold Builtin.«set.__init__» noKeywords Builtin.Frozenset.updateFrom
          generalize hPI : pyIter = PI
          wp_walk
          subst hPI

          refine wpAny_pyIter_list hl1 ?_
          refine wpAny_bind (wpAny_runValue ?_)
          have hlS : l < s.heap.objs.size := Heap.lt_size hol
          have hneI : l ≠ (s.heap.push (freshSet w)).objs.size := by
            rw [szp]; exact Nat.ne_of_lt (Nat.lt_succ_of_lt hlS)
          have hSf : s.heap.objs.size ∉ [(s.heap.push (freshSet w)).objs.size, l] := fun z => by
            rw [szp] at z
            rcases List.mem_cons.mp z with z | z
            · exact Nat.ne_of_lt (Nat.lt_succ_self _) z
            · exact Nat.ne_of_gt hlS (List.mem_singleton.mp z)
          refine loopJ (S := s.heap.objs.size) (h0 := s.heap) (J := J) ((Walks.list (show A.in1.in1.in1.handled = none by simp [hh]) _ l hneI items).toS) hSf (gone_of (Nat.le_refl _)) (fun b hb => gone_of (by
              rw [List.mem_singleton.mp hb, szp]
              exact Nat.le_succ _)) kj (fun i v _ hv => step _ hu3 i v hv) (items.size - 0) 0 _ (by omega) (Nat.zero_le _)
            ⟨⟨_, Heap.get?_push_size _ rfl, rfl, rfl⟩, (hl1.push _)⟩ (fun b o e => Heap.get?_push_of_some _ (Heap.get?_push_of_some _ e)) (hJ0 _ (Heap.get?_push_of_some _ hS)) ?_
          intro z' m hJ o'
          have hso : ∃ o, z'.heap.get? s.heap.objs.size = some o := hex _ hJ
          obtain ⟨h', g2, d', tk', os'⟩ := z'
          have eg : g2 = s.gens := m.gens
          have ed : d' = s.drawn := m.drawn
          have eo : os' = s.os := m.os
          subst eg; subst ed; subst eo
          show wpAny _ _ _ _ _ _
          refine wpAny_pure ?_
          show wpAny _ _ (ret Value.none) _ _ _
          exact wpAny_pure ⟨rfl, h', tk', rfl, hJ, o', hso⟩
        · obtain ⟨ol, hol, hcl, nl, hdl⟩ := hl
          obtain ⟨ocls, odict, odata, oslots⟩ := ol
          simp only at hcl hdl
          subst hcl; subst hdl
          have hol' : (s.heap.push (freshSet w)).get? l = some { cls := .type "tuple", dict := odict, data := .seq items nl, slots := oslots } := Heap.get?_push_of_some _ hol
          have hsls := F.sub_tuple_set
          have hslf := F.sub_tuple_frozenset
          have hne : (Value.type "tuple" == Value.type "dict") = false := by decide
          have hl1 : (s.heap.push (freshSet w)).IsTuple l items := ⟨_, hol', rfl, nl, rfl⟩
          unfold Builtin.«set.__init__» noKeywords Builtin.Frozenset.updateFrom
          generalize hPI : pyIter = PI
          wp_walk
          subst hPI

          refine wpAny_pyIter_tuple hl1 ?_
          refine wpAny_bind (wpAny_runValue ?_)
          have hlS : l < s.heap.objs.size := Heap.lt_size hol
          have hneI : l ≠ (s.heap.push (freshSet w)).objs.size := by
            rw [szp]; exact Nat.ne_of_lt (Nat.lt_succ_of_lt hlS)
          have hSf : s.heap.objs.size ∉ [(s.heap.push (freshSet w)).objs.size, l] := fun z => by
            rw [szp] at z
            rcases List.mem_cons.mp z with z | z
            · exact Nat.ne_of_lt (Nat.lt_succ_self _) z
            · exact Nat.ne_of_gt hlS (List.mem_singleton.mp z)
          refine loopJ (S := s.heap.objs.size) (h0 := s.heap) (J := J) ((Walks.tuple (show A.in1.in1.in1.handled = none by simp [hh]) _ l hneI items).toS) hSf (gone_of (Nat.le_refl _)) (fun b hb => gone_of (by
              rw [List.mem_singleton.mp hb, szp]
              exact Nat.le_succ _)) kj (fun i v _ hv => step _ hu3 i v hv) (items.size - 0) 0 _ (by omega) (Nat.zero_le _)
            ⟨⟨_, Heap.get?_push_size _ rfl, rfl, rfl⟩, (hl1.push _)⟩ (fun b o e => Heap.get?_push_of_some _ (Heap.get?_push_of_some _ e)) (hJ0 _ (Heap.get?_push_of_some _ hS)) ?_
          intro z' m hJ o'
          have hso : ∃ o, z'.heap.get? s.heap.objs.size = some o := hex _ hJ
          obtain ⟨h', g2, d', tk', os'⟩ := z'
          have eg : g2 = s.gens := m.gens
          have ed : d' = s.drawn := m.drawn
          have eo : os' = s.os := m.os
          subst eg; subst ed; subst eo
          show wpAny _ _ _ _ _ _
          refine wpAny_pure ?_
          show wpAny _ _ (ret Value.none) _ _ _
          exact wpAny_pure ⟨rfl, h', tk', rfl, hJ, o', hso⟩
      · cases r₂ with
        | error e => exact hr₂
        | ok fl₂ =>
          cases fl₂ with
          | ret r =>
            obtain ⟨rfl, h', tk, rfl, hJ, hk', ho⟩ := hr₂
            repeat (any_goals (first | assumption | wp_step))
            exact h _ _ hJ hk' ho
          | _ => exact hr₂.elim
    | _ => exact hr.elim
end
end MyS

set_option Elab.async false
set_option linter.all false
set_option maxRecDepth 100000
set_option maxHeartbeats 4000000
/-! len(set(xs)) of a list or a tuple of texts: as many as there are different ones. -/
namespace MyS
open PySem PySem.Spec PyProof.Rows L2
theorem nodup_snoc {α : Type} {l : List α} {x : α} : (l ++ [x]).Nodup ↔ l.Nodup ∧ x ∉ l := by
  rw [List.nodup_append]
  constructor
  · rintro ⟨h1, _, h3⟩
    exact ⟨h1, fun h => h3 x h x (List.mem_singleton.mpr rfl) rfl⟩
  · rintro ⟨h1, h2⟩
    refine ⟨h1, by simp, fun a ha b hb e => ?_⟩
    rw [List.mem_singleton.mp hb] at e
    exact h2 (e ▸ ha)
/-- how many different ones the first i items are: n, whole exactly if they all differ -/
structure Cnt {α : Type} (l : List α) (n : Nat) : Prop where
  le : n ≤ l.length
  eq : n = l.length ↔ l.Nodup
theorem Cnt.nil {α : Type} : Cnt ([] : List α) 0 := ⟨Nat.le_refl _, ⟨fun _ => List.nodup_nil, fun _ => rfl⟩⟩
theorem Cnt.old {α : Type} {l : List α} {n : Nat} {x : α} (c : Cnt l n) (h : x ∈ l) : Cnt (l ++ [x]) n := by
  have h1 := c.le
  refine ⟨by rw [List.length_append]; exact Nat.le_succ_of_le h1, ?_⟩
  rw [List.length_append, List.length_singleton]
  exact ⟨fun e => absurd e (by omega), fun e => absurd h (nodup_snoc.mp e).2⟩
theorem Cnt.new {α : Type} {l : List α} {n : Nat} {x : α} (c : Cnt l n) (h : x ∉ l) : Cnt (l ++ [x]) (n + 1) := by
  have h1 := c.le
  refine ⟨by rw [List.length_append, List.length_singleton]; omega, ?_⟩
  rw [List.length_append, List.length_singleton, nodup_snoc, ← c.eq]
  constructor
  · intro e; exact ⟨by omega, h⟩
  · rintro ⟨e, _⟩; omega
section
variable {P : Program} {w : World} {A : Around} {E : Value → Shared → Prop} {s : Shared}
/-- the set at S behind the first i texts -/
def JT (P : Program) (w : World) (S : Addr) (xs : List Str) (i : Nat) (h : Heap) : Prop := ∃ n M, h.SetOf (PySem.strKind P w) S M n ∧ (∀ k, M k = true ↔ k ∈ xs.take i) ∧ Cnt (xs.take i) n
theorem take_snoc {α : Type} {l : List α} {i : Nat} {x : α} (h : l[i]? = some x) : l.take (i + 1) = l.take i ++ [x] := by rw [List.take_succ, h]; rfl
theorem JT.adds {S : Addr} {xs : List Str} {h0 : Heap} {i : Nat} {x : Str} {t : Tok} (hx : xs[i]? = some x) (hb : xs.length + 1 < scanBound) : Adds P w A S h0 (JT P w S xs) i (.str x t) := by
  intro z Q E hJ hk hQ
  obtain ⟨n, M, hS, hM, hc⟩ := hJ
  have hi : i < xs.length := (List.getElem?_eq_some_iff.mp hx).1
  have hn := hc.le
  rw [List.length_take] at hn
  unfold setAdd
  refine wpAny_holding ?_
  refine wpAny_bind ((PySem.strKind P w).pyHash (k := x) (strKind_is _ _ _ _) ?_)
  refine wpAny_setAddHashed_of (knd := PySem.strKind P w) (s := { z with toks := z.toks + 1 }) (strKind_is _ _ _ _) rfl hS (by omega) fun h' sb hS2 => ?_
  refine hQ _ h' _ (Nat.le_succ _) sb ⟨_, _, hS2, fun k => ?_, ?_⟩
  · rw [take_snoc hx, Bool.or_eq_true, hM k, decide_eq_true_eq, List.mem_append, List.mem_singleton]
  · rw [take_snoc hx]
    by_cases q : M x = true
    · rw [if_pos q]
      exact hc.old ((hM x).mp q)
    · rw [if_neg q]
      exact hc.new fun m => q ((hM x).mpr m)
theorem JT.keeps {S : Addr} {xs : List Str} {h0 : Heap} : KeepsJ S h0 (JT P w S xs) := by
  rintro i h h' ⟨n, M, ⟨o, es, ep, t, ho, r⟩, hM, hc⟩ k1 _
  exact ⟨n, M, ⟨o, es, ep, t, k1 o ho, r⟩, hM, hc⟩
theorem JT.zero {S : Addr} {xs : List Str} {h : Heap} (ho : h.get? S = some (freshSet w)) : JT P w S xs 0 h := by
  refine ⟨0, fun _ => false, ⟨_, #[], 0, _, ho, ⟨rfl, rfl, rfl⟩, rfl, (fun e he => by simp at he), (fun k => by simp), by decide, rfl, rfl⟩, fun k => by simp, Cnt.nil⟩
end
section
variable {X : Cx}
/-- len(set(xs)) -/
def tLenSetS (K : PySem.W.Frag) (ta : TE) : TE := fun σ H Q => ta σ H fun x H1 => ∃ (l : Addr) (xs : List Str), x = .ref l ∧ (SqL K H1 l (xs.map V.str) ∨ SqT K H1 l (xs.map V.str)) ∧ xs.length ≤ 4000 ∧ ∀ n, Cnt xs n → Q (.int (n : Nat)) H1
theorem strs_get {ys : List Str} {us : List Value} (r : Vals (ys.map V.str) us) {i : Nat} {v : Value} (h : us[i]? = some v) : ∃ x t, ys[i]? = some x ∧ v = .str x t := by
  have hl : i < ys.length := by
    have q := (List.getElem?_eq_some_iff.mp h).1
    have e := r.length
    rw [List.length_map] at e
    omega
  obtain ⟨u, e1, e2⟩ := Vals.get r (i := i) (x := V.str ys[i]) (by rw [List.getElem?_map, List.getElem?_eq_getElem hl]; rfl)
  rw [h] at e1
  cases e1
  obtain ⟨t, e⟩ := e2
  exact ⟨ys[i], t, List.getElem?_eq_getElem hl, e⟩
theorem pe_lenSetS {a : Expr} {ta : TE} {p p2 q pos : Pos} (hc : X.calm = true) (hm : X.mg "len" = none) (hm2 : X.mg "set" = none) (ha : PE X a ta) (hg : Gl X "len" := by rfl) (hg2 : Gl X "set" := by rfl)
    (na : starEach [a] X.env = (false, eval a X.env) :: starEach [] X.env := by rfl) : PE X (.Call (.Name "len" p) [.Call (.Name "set" p2) [a] [] q] [] pos) (tLenSetS X.K ta) := by
  refine ⟨fun pins s σ H Q I h => ?_⟩
  refine Call_ (ld_blt I hg hm boot_len ?_)
  refine PyProof.Rows.callWith_builtin1 (PyProof.Rows.args_cons ?_ rfl) rfl rfl
  refine Call_ (ld_blt I hg2 hm2 boot_set ?_)
  refine PyProof.Rows.callWith_type1 (PyProof.Rows.args_cons (thn (ha.run pins s σ H _ I h) fun v s1 ⟨x, H1, I1, r1, q1⟩ => PyProof.Rows.args_nil ?_) na) na rfl
  obtain ⟨l, xs, rfl, hq, h1, q1⟩ := q1
  cases r1
  have go : ∀ (its : List Value), Vals (xs.map V.str) its → (s1.heap.IsList l its.toArray ∨ s1.heap.IsTuple l its.toArray) → wpAny (model X.prog X.w) X.A (call (.type "set") [.ref l])
      (fun v s₂ => wpAny (model X.prog X.w) X.A (spliced (backTo pos (starEach [] X.env))) (fun vs s₃ => wpAny (model X.prog X.w) X.A (call (.builtin "len") (v :: vs)) (EP X pins σ Q) X.xe s₃) X.xe s₂) X.xe s1 := fun its r hl => by
    have hsz : its.toArray.size = xs.length := by rw [List.size_toArray, ← r.length, List.length_map]
    have hbd : xs.length + 1 < scanBound := by unfold scanBound; omega
    refine call_setJ (J := JT X.prog X.w s1.heap.objs.size xs) (I1.ok.hd hc) hl (fun h ho => JT.zero ho) JT.keeps (fun h hJ => ?_) (fun A' _ i v hv => ?_) fun h' tk hJ hk _ => ?_
    · obtain ⟨n, M, ⟨o, es, ep, t, ho, _⟩, _⟩ := hJ
      exact ⟨o, ho⟩
    · obtain ⟨x, t, hx, rfl⟩ := strs_get r (i := i) (v := v) (by simpa using hv)
      exact JT.adds hx hbd
    · rw [hsz] at hJ
      obtain ⟨n, M, ⟨o, es, ep, t, ho, hex, hd, _, _, _, hf, hn⟩, hM, hcn⟩ := hJ
      rw [List.take_length] at hcn
      have I2 : Inv X pins σ H1 { s1 with heap := h', toks := tk } := I1.kept fun b o e => hk b o e
      refine PyProof.Rows.args_nil ?_
      have hle := hcn.le
      refine call_len_set ho hex hd hf (by rw [hn]; omega) ⟨.int (n : Nat), H1, I2.tok _, ⟨_, by rw [hn]⟩, q1 n hcn⟩
  rcases hq with hq | hq
  · obtain ⟨its, r, pl, hz⟩ := I1.list hq
    exact go its r (.inl pl.isList)
  · obtain ⟨its, r, pl, hz⟩ := I1.tuple hq
    exact go its r (.inr (by first | exact pl | exact pl.isTuple))
end
end MyS

set_option Elab.async false
set_option linter.all false
set_option maxRecDepth 100000
set_option maxHeartbeats 4000000
/-! len(set(xs)) of a list of tuples of texts, fewer than 64: over the library's table of a set (TabOk, go_spec, relaid_ok). -/
namespace MyS
open PySem PySem.Spec PyProof.Rows L2
section
variable {P : Program} {w : World} {A : Around} {E : Value → Shared → Prop} {s : Shared}
/-- the tuple at b has the texts k; its hash -/
abbrev IsP (P : Program) (w : World) (h : Heap) (k : List Str) (b : Addr) : Prop := IsTupleKey (PySem.strKind P w) h k b
abbrev hashP (P : Program) (w : World) (k : List Str) : Int := tupleKeyHash (PySem.strKind P w) k
theorem IsP.keep {h h' : Heap} {k : List Str} {b : Addr} (x : IsP P w h k b) (hk : ∀ o, h.get? b = some o → h'.get? b = some o) : IsP P w h' k b :=
  let ⟨o, items, n, ho, r⟩ := x; ⟨o, items, n, hk o ho, r⟩
theorem strs_of {k : List Str} {vs : List Value} (h : ItemsAre (PySem.strKind P w) k vs) : ∀ v ∈ vs, ∃ x t, v = Value.str x t := by
  induction h with
  | nil => intro v hv; cases hv
  | @cons k0 v' ks vs h1 _ ih =>
    intro v hv
    rcases List.mem_cons.mp hv with e | hv
    · obtain ⟨t, e2⟩ := Value.isStrOf_shape h1
      exact ⟨k0, t, e.trans e2⟩
    · exact ih v hv
/-- a text is of no class statement -/
theorem noClass_str (n : Nat) (x : Str) (t : Tok) : ofAClassStatement n (.str x t) = pure false := by cases n <;> rfl
theorem hashBy_str (n : Nat) (x : Str) (t : Tok) : hashByValue n (.str x t) = pure false := by cases n <;> rfl
theorem noClass {k : List Str} {b : Addr} {Q : Bool → Shared → Prop} (hk : IsP P w s.heap k b) (h : Q false s) : wpAny (model P w) A (ofAClassStatement 8 (.ref b)) Q E s := by
  have hT := hk.typeIs
  obtain ⟨o, items, n, ho, _, hd, hi⟩ := hk
  unfold ofAClassStatement
  refine wpAny_bind (wpAny_typeOf hT ?_)
  have e : (("tuple" : String) == "tuple") = true := by decide
  simp only [e, if_true, Bool.not_true, Bool.false_eq_true, if_false]
  try refine wpAny_bind (wpAny_pure ?_)
  try simp only [Bool.not_true, Bool.false_eq_true, if_false]
  show wpAny _ _ (seqItems? (.ref b) >>= _) _ _ s
  refine wpAny_bind (wpAny_seqItems ho hd ?_)
  refine wpAny_bind ?_
  show wpAny _ _ (forIn items _ _) _ _ s
  rw [← Array.forIn_toList]
  refine wpAny_forIn_list _ (fun rest r z => r.1 = none ∧ z = s ∧ ∀ v ∈ rest, ∃ x t, v = Value.str x t) _ ?_ ?_ _ _ ⟨rfl, rfl, strs_of hi⟩
  · rintro v rest r z ⟨hr, rfl, hall⟩
    obtain ⟨x, t, rfl⟩ := hall v List.mem_cons_self
    rw [noClass_str]
    refine wpAny_bind (wpAny_pure ?_)
    simp only [Bool.false_eq_true, if_false]
    exact wpAny_pure ⟨rfl, rfl, fun u hu => hall u (List.mem_cons_of_mem _ hu)⟩
  · rintro ⟨r1, r2⟩ z ⟨hr, rfl, _⟩
    simp only at hr
    subst hr
    exact wpAny_pure h
/-- whether the hash is by value: either answer will do -/
theorem hashBy {k : List Str} {b : Addr} {Q : Bool → Shared → Prop} (hk : IsP P w s.heap k b) (h : ∀ r, Q r s) : wpAny (model P w) A (hashByValue 8 (.ref b)) Q E s := by
  have hT := hk.typeIs
  obtain ⟨o, items, n, ho, _, hd, hi⟩ := hk
  unfold hashByValue
  refine wpAny_bind (wpAny_specialOf hT F.slot_tuple_hash.lookup ?_)
  show wpAny _ _ (seqItems? (.ref b) >>= _) _ _ s
  refine wpAny_bind (wpAny_seqItems ho hd ?_)
  refine wpAny_bind ?_
  show wpAny _ _ (forIn items _ _) _ _ s
  rw [← Array.forIn_toList]
  refine wpAny_forIn_list _ (fun rest r z => r.1 = none ∧ z = s ∧ ∀ v ∈ rest, ∃ x t, v = Value.str x t) _ ?_ ?_ _ _ ⟨rfl, rfl, strs_of hi⟩
  · rintro v rest r z ⟨hr, rfl, hall⟩
    obtain ⟨x, t, rfl⟩ := hall v List.mem_cons_self
    rw [hashBy_str]
    refine wpAny_bind (wpAny_pure ?_)
    simp only [Bool.not_false, if_true]
    exact wpAny_pure (wpAny_pure (h _))
  · rintro ⟨r1, r2⟩ z ⟨hr, rfl, _⟩
    simp only at hr
    subst hr
    exact wpAny_pure (h _)
/-- a search among such tuples shows nothing -/
theorem unseen {k : List Str} {b : Addr} {Q : Bool → Shared → Prop} (hk : IsP P w s.heap k b) {ys : List Value} (hy : ∀ y ∈ ys, ∃ k' c, y = Value.ref c ∧ IsP P w s.heap k' c) (h : Q false s) :
    wpAny (model P w) A (searchCouldBeSeen (.ref b) ys) Q E s := by
  unfold searchCouldBeSeen
  refine wpAny_bind ?_
  refine wpAny_forIn_list _ (fun rest r z => r.1 = none ∧ z = s ∧ ∀ y ∈ rest, ∃ k' c, y = Value.ref c ∧ IsP P w s.heap k' c) _ ?_ ?_ _ _ ⟨rfl, rfl, hy⟩
  · rintro v rest r z ⟨hr, rfl, hall⟩
    obtain ⟨k', c, rfl, hc⟩ := hall v List.mem_cons_self
    have more : ∀ y ∈ rest, ∃ k' c, y = Value.ref c ∧ IsP P w z.heap k' c := fun u hu => hall u (List.mem_cons_of_mem _ hu)
    by_cases hv : (b == c || (carriedByValue (.ref b) && carriedByValue (.ref c))) = true
    · refine wp_if_pos hv ?_
      exact wpAny_pure ⟨rfl, rfl, more⟩
    · refine wp_if_neg hv ?_
      refine wpAny_bind (wpAny_eqIsQuiet_tuple hk ?_)
      simp only [Bool.not_true, Bool.false_eq_true, if_false]
      refine wpAny_bind (wpAny_eqIsQuiet_tuple hc ?_)
      simp only [Bool.not_true, Bool.false_eq_true, if_false]
      refine wpAny_bind (noClass hk ?_)
      simp only [Bool.false_eq_true, if_false]
      refine wpAny_bind (noClass hc ?_)
      simp only [Bool.false_eq_true, if_false]
      exact wpAny_pure ⟨rfl, rfl, more⟩
  · rintro ⟨r1, r2⟩ z ⟨hr, rfl, _⟩
    simp only at hr
    subst hr
    exact wpAny_pure h

/-! ### the set at a, its tuples in the table's order -/
def rowP (P : Program) (w : World) (p : Addr × List Str) : Int × Value := (hashP P w p.2, .ref p.1)
structure PSet (P : Program) (w : World) (h : Heap) (a : Addr) (L : List (Addr × List Str)) (es : Array (Int × Value)) (ep : Nat) (t : SetTable) : Prop where
  ob : ∃ o, h.get? a = some o ∧ o.ExactSet ∧ o.data = .set es ep t
  rows : es.toList = L.map (rowP P w)
  tab : TabOk t (L.map fun p => hashP P w p.2)
  nd : (L.map (·.2)).Nodup
  tup : ∀ p ∈ L, IsP P w h p.2 p.1
  room : L.length * 5 < t.mask * 3
  few : L.length < 64
variable {a : Addr} {L : List (Addr × List Str)} {es : Array (Int × Value)} {ep : Nat} {t : SetTable}
theorem PSet.size (R : PSet P w s.heap a L es ep t) : es.size = L.length := by
  have h := congrArg List.length R.rows
  rwa [Array.length_toList, List.length_map] at h
theorem PSet.fits (R : PSet P w s.heap a L es ep t) : t.fits es.size = true := by
  have h1 := R.tab.sz
  rw [List.length_map] at h1
  have h2 := R.size
  have h3 := R.room
  unfold SetTable.fits SetTable.fill
  rw [R.tab.dm, Bool.and_eq_true, beq_iff_eq, decide_eq_true_eq]
  show t.place.size = es.size ∧ t.place.size + 0 ≤ t.mask
  omega
theorem PSet.entry (R : PSet P w s.heap a L es ep t) {i : Nat} {p : Addr × List Str} (h : L[i]? = some p) : es[i]? = some (rowP P w p) := by
  rw [← Array.getElem?_toList, R.rows, List.getElem?_map, h]
  rfl
/-- the way of the hash g through the table: the probe behind k steps -/
abbrev stepP (m : Nat) (g : Int) (k : Nat) : SetTable.Probe := nth m (runAt m (SetTable.bits g % (m + 1)) (SetTable.bits g)) k
theorem stepP_add (m : Nat) (g : Int) (c q : Nat) : nth m (stepP m g c) q = stepP m g (c + q) := (nth_add m c _ q).symm
theorem stepP_clean (m : Nat) (g : Int) (c : Nat) : (stepP m g c).dummy = none := by
  have key : ∀ (n : Nat) (p : SetTable.Probe), p.dummy = none → (nth m p n).dummy = none := by
    intro n
    induction n with
    | zero => intro p h; exact h
    | succ n ih =>
      intro p h
      refine ih (adv m p) ?_
      unfold adv
      split <;> exact h
  exact key c _ rfl
/-- what is asked of the search for k among L: found, or the first free slot of the way -/
structure Seek (P : Program) (w : World) (t : SetTable) (L : List (Addr × List Str)) (k : List Str) (K : Nat) (Q : SetFound → Shared → Prop) (z : Shared) : Prop where
  few : K < 10 * SetTable.turns t.mask
  free : way t.mask (hashP P w k) K ∉ t.place.toList
  full : ∀ c, c < K → way t.mask (hashP P w k) c ∈ t.place.toList
  hit : k ∈ L.map (·.2) → Q (.there none) z
  miss : k ∉ L.map (·.2) → Q (.free (way t.mask (hashP P w k) K) false) z
theorem seek {x : Addr} {k : List Str} {K : Nat} {Q : SetFound → Shared → Prop} (R : PSet P w s.heap a L es ep t) (hx : IsP P w s.heap k x) (hu : A.units < cLine) (B : Seek P w t L k K Q s) :
    ∀ (f c : Nat) (stand : Option SetTable.Probe), stand.getD (t.probeStart (hashP P w k)) = stepP t.mask (hashP P w k) c → c ≤ K → K - c < f →
      (∀ (i : Nat) p, L[i]? = some p → p.2 = k → ∃ c', c ≤ c' ∧ c' < K ∧ t.place.toList[i]? = some (way t.mask (hashP P w k) c')) →
      wpAny (model P w) A (setSearchFrom a (.ref x) (hashP P w k) true f stand) Q E s
  | 0, c, stand, _, _, hf, _ => absurd hf (Nat.not_lt_zero _)
  | f + 1, c, stand, hst, hc, hf, hre => by
    obtain ⟨o, ho, hex, hd⟩ := R.ob
    rw [setSearchFrom_succ]
    refine wpAny_bind (wpAny_setState_of ho hd R.fits ?_)
    dsimp only
    refine wp_if_neg (by unfold SetTable.gaveWay; rw [mask_odd R.tab.mok]; decide) ?_
    try refine wpAny_bind (wpAny_pure ?_)
    have at_ : ∀ q, (nth t.mask (stepP t.mask (hashP P w k) c) q).j = way t.mask (hashP P w k) (c + q) := fun q => congrArg SetTable.Probe.j (stepP_add _ _ _ _)
    have hashAt : ∀ (i : Nat) p, L[i]? = some p → (fun i => (es[i]?.map (·.1)).getD 0) i = hashP P w p.2 := fun i p hp => by
      show (es[i]?.map (·.1)).getD 0 = _
      rw [R.entry hp]
      rfl
    rcases go_spec t R.tab.ris R.tab.dm (fun i => (es[i]?.map (·.1)).getD 0) (hashP P w k) (10 * SetTable.turns t.mask) (K - c) _ (stepP_clean t.mask (hashP P w k) c) (by have := B.few; omega)
      (fun q hq => by rw [at_]; exact B.full (c + q) (by omega)) (by rw [at_, show c + (K - c) = K by omega]; exact B.free) with ⟨q, i, hq, hi, hh, hno, hpr⟩ | ⟨hno, hpr⟩
    · -- a candidate: the entry i at the slot of the step c + q
      have hpr' : t.probe (fun i => (es[i]?.map (·.1)).getD 0) (hashP P w k) (stand.getD (t.probeStart (hashP P w k))) = some (.candidate (way t.mask (hashP P w k) (c + q)) i (stepP t.mask (hashP P w k) (c + (q + 1)))) := by
        rw [hst, ← at_, ← stepP_add]
        exact hpr
      rw [hpr']
      dsimp only
      rw [at_] at hi
      have hil : i < L.length := by
        have h1 : i < t.place.toList.length := (List.getElem?_eq_some_iff.mp hi).1
        have h2 := R.tab.sz
        rw [List.length_map] at h2
        rw [Array.length_toList] at h1
        omega
      obtain ⟨p, hp⟩ : ∃ p, L[i]? = some p := ⟨_, List.getElem?_eq_getElem hil⟩
      have pm : p ∈ L := List.mem_of_getElem? hp
      have rest : wpAny (model P w) A (searchRest a (.ref x) (hashP P w k) true f es t (way t.mask (hashP P w k) (c + q)) i (stepP t.mask (hashP P w k) (c + (q + 1)))) Q E s := by
        unfold searchRest
        rw [R.entry hp]
        dsimp only [rowP]
        refine wpAny_bind (wpAny_holding (wpAny_eqBool_tuple hu (R.tup p pm) hx ?_))
        refine wpAny_bind (wpAny_setState_of ho hd R.fits ?_)
        dsimp only
        by_cases hkk : p.2 = k
        · refine wp_if_pos (by simp [hkk]) ?_
          exact wpAny_pure (B.hit (List.mem_map.mpr ⟨p, pm, hkk⟩))
        · refine wp_if_neg (by simp [hkk]) ?_
          try refine wpAny_bind (wpAny_pure ?_)
          rw [sameMem]
          dsimp only
          have hsl : t.slot (way t.mask (hashP P w k) (c + q)) = .live i := slot_live R.tab.ris hi
          simp only [if_true, hsl, R.entry hp, rowP]
          refine wpAny_bind (wpAny_isSame_ref_self (wpAny_bind (wpAny_pure ?_)))
          simp only [if_true]
          refine wp_if_neg (by simp [hkk]) ?_
          refine seek R hx hu B f (c + (q + 1)) _ rfl (by omega) (by omega) fun i0 p0 h0 hk0 => ?_
          obtain ⟨c', a1, a2, a3⟩ := hre i0 p0 h0 hk0
          refine ⟨c', ?_, a2, a3⟩
          -- what has k is not behind us
          rcases Nat.lt_trichotomy c' (c + q) with y | y | y
          · exact absurd ((hashAt i0 p0 h0).trans (congrArg (hashP P w) hk0)) (hno (c' - c) i0 (by omega) (by rw [at_, show c + (c' - c) = c' by omega]; exact a3))
          · rw [y] at a3
            have s0 := (slot_live R.tab.ris a3).symm.trans hsl
            injection s0 with s0
            rw [s0, hp] at h0
            cases h0
            exact absurd hk0 hkk
          · omega
      by_cases hl : t.led = true
      · refine wp_if_neg (by simp [hl]) ?_
        try refine wpAny_bind (wpAny_pure ?_)
        exact rest
      · refine wp_if_pos (by simp [hl]) ?_
        refine wpAny_bind (unseen hx (fun y hy => ?_) ?_)
        · obtain ⟨e, he, ee⟩ := List.mem_map.mp hy
          have he1 : e ∈ es ∧ e.1 = hashP P w k := by simpa using he
          have he2 : e ∈ es.toList := by simpa using he1.1
          rw [R.rows] at he2
          obtain ⟨p2, hp2, e2⟩ := List.mem_map.mp he2
          exact ⟨p2.2, p2.1, by rw [← ee, ← e2]; rfl, R.tup p2 hp2⟩
        · refine wp_if_neg (by decide) ?_
          try refine wpAny_bind (wpAny_pure ?_)
          exact rest
    · -- the way's first free slot
      have hpr' : t.probe (fun i => (es[i]?.map (·.1)).getD 0) (hashP P w k) (stand.getD (t.probeStart (hashP P w k))) = some (.empty (way t.mask (hashP P w k) K) none) := by
        have e2 : way t.mask (hashP P w k) K = (nth t.mask (stepP t.mask (hashP P w k) c) (K - c)).j := by rw [at_, show c + (K - c) = K by omega]
        rw [hst, e2]
        exact hpr
      rw [hpr']
      dsimp only
      refine wpAny_pure (B.miss fun hm => ?_)
      obtain ⟨p0, h0, hk0⟩ := List.mem_map.mp hm
      obtain ⟨i0, hi0, e0⟩ := List.getElem_of_mem h0
      have h00 : L[i0]? = some p0 := by rw [List.getElem?_eq_getElem hi0, e0]
      obtain ⟨c', a1, a2, a3⟩ := hre i0 p0 h00 hk0
      exact hno (c' - c) i0 (by omega) (by rw [at_, show c + (c' - c) = c' by omega]; exact a3) ((hashAt i0 p0 h00).trans (congrArg (hashP P w) hk0))
/-- the search as adding asks for it -/
theorem seek_all {x : Addr} {k : List Str} {Q : SetFound → Shared → Prop} (R : PSet P w s.heap a L es ep t) (hx : IsP P w s.heap k x) (hu : A.units < cLine) (hit : k ∈ L.map (·.2) → Q (.there none) s)
    (miss : ∀ K, k ∉ L.map (·.2) → way t.mask (hashP P w k) K ∉ t.place.toList → (∀ c, c < K → way t.mask (hashP P w k) c ∈ t.place.toList) → Q (.free (way t.mask (hashP P w k) K) false) s) :
    wpAny (model P w) A (setSearch a (.ref x) (hashP P w k) true) Q E s := by
  have hroom := R.room
  obtain ⟨K, f1, f2, f3⟩ := R.tab.first (by rw [List.length_map]; omega) (hashP P w k)
  have big : K < 100000 := by
    have : 10 * SetTable.turns t.mask ≤ 1420 := by
      unfold SetTable.turns
      rcases R.tab.mok with e | e | e <;> omega
    omega
  unfold setSearch
  refine seek R hx hu ⟨f1, f2, f3, hit, fun hn => miss K hn f2 f3⟩ 100000 0 none rfl (Nat.zero_le _) (by omega) fun i p hp hk => ?_
  have hi : (L.map fun p => hashP P w p.2)[i]? = some (hashP P w k) := by rw [List.getElem?_map, hp, ← hk]; rfl
  have hil : i < t.place.toList.length := by
    have h1 : i < L.length := (List.getElem?_eq_some_iff.mp hp).1
    have h2 := R.tab.sz
    rw [List.length_map] at h2
    rw [Array.length_toList]
    omega
  obtain ⟨c, hc, e⟩ := R.tab.before f2 hi (List.getElem?_eq_getElem hil)
  exact ⟨c, Nat.zero_le _, hc, by rw [List.getElem?_eq_getElem hil, e]⟩
/-- the entries in another order -/
theorem reorder {α : Type} (row : α → Int × Value) (L : List α) (es : Array (Int × Value)) (order : Array Nat) (hr : es.toList = L.map row) (hp : order.toList.Perm (List.range L.length)) :
    ∃ L2 : List α, (order.filterMap (es[·]?)).toList = L2.map row ∧ L2.Perm L ∧ (L2.map fun p => (row p).1) = order.toList.map fun i => (es.map (·.1)).getD i 0 := by
  have at_ : ∀ i, es[i]? = (L[i]?).map row := fun i => by rw [← Array.getElem?_toList, hr, List.getElem?_map]
  have all : (List.range L.length).filterMap (fun i => L[i]?) = L := by
    have key : ∀ n, n ≤ L.length → (List.range n).filterMap (fun i => L[i]?) = L.take n := by
      intro n
      induction n with
      | zero => intro _; rfl
      | succ n ih =>
        intro hn
        have hlt : n < L.length := hn
        rw [List.range_succ, List.filterMap_append, ih (Nat.le_of_lt hlt), List.take_succ, List.getElem?_eq_getElem hlt]
        simp [List.getElem?_eq_getElem hlt]
    rw [key L.length (Nat.le_refl _), List.take_length]
  refine ⟨order.toList.filterMap (fun i => L[i]?), ?_, ?_, ?_⟩
  · rw [Array.toList_filterMap, List.map_filterMap]
    congr 1
    funext i
    exact at_ i
  · have h := hp.filterMap (fun i => L[i]?)
    rwa [all] at h
  · have hlt : ∀ i ∈ order.toList, i < L.length := fun i hi => List.mem_range.mp (hp.mem_iff.mp hi)
    generalize order.toList = l at hlt
    induction l with
    | nil => rfl
    | cons i l ih =>
      have hi := hlt i List.mem_cons_self
      rw [List.filterMap_cons_some (List.getElem?_eq_getElem hi), List.map_cons, List.map_cons, ih fun j hj => hlt j (List.mem_cons_of_mem _ hj)]
      have e5 : (es.map (·.1))[i]? = some (row L[i]).1 := by rw [Array.getElem?_map, at_, List.getElem?_eq_getElem hi]; rfl
      simp [Array.getD_eq_getD_getElem?, e5]
end
end MyS

set_option Elab.async false
set_option linter.all false
set_option maxRecDepth 100000
set_option maxHeartbeats 4000000
/-! A tuple of texts is added to a set; len(set(xs)) of a list of such. -/
namespace MyS
open PySem PySem.Spec PyProof.Rows L2
section
variable {P : Program} {w : World} {A : Around} {E : Value → Shared → Prop} {s : Shared}
variable {a : Addr} {L : List (Addr × List Str)} {es : Array (Int × Value)} {ep : Nat} {t : SetTable}
theorem IsP.other {h h' : Heap} {k : List Str} {a b : Addr} {o : Obj} {es : Array (Int × Value)} {ep : Nat} {t : SetTable} (hb : IsP P w h k b) (ho : h.get? a = some o) (hd : o.data = .set es ep t) (hs : Heap.SameBut a h h') : IsP P w h' k b := by
  obtain ⟨o', items, n, ho', r⟩ := hb
  have hne : b ≠ a := fun z => by
    rw [z, ho] at ho'
    cases ho'
    rw [hd] at r
    exact nomatch r.2.1
  exact ⟨o', items, n, (hs.2 b hne).trans ho', r⟩
/-- TabOk looks at the places, the dummies and the mask alone -/
theorem tabOk_congr {t u : SetTable} {hs : List Int} (T : TabOk t hs) (e1 : u.place = t.place) (e2 : u.dummies = t.dummies) (e3 : u.mask = t.mask) : TabOk u hs := by
  obtain ⟨h1, h2, h3, h4, h5, h6⟩ := T
  constructor
  · rw [e1]; exact h1
  · rw [e2]; exact h2
  · rw [e1]; exact h3
  · rw [e3]; exact h4
  · intro x hx; rw [e3]; rw [e1] at hx; exact h5 x hx
  · intro i g j hi hj
    rw [e1] at hj
    obtain ⟨k, c1, c2⟩ := h6 i g j hi hj
    exact ⟨k, by rw [e3]; exact c1, fun k' hk' => by rw [e3, e1]; exact c2 k' hk'⟩
/-- the table laid anew, larger -/
theorem relayP {o : Obj} (ho : s.heap.get? a = some o) (hex : o.ExactSet) (hd : o.data = .set es ep t) (rows : es.toList = L.map (rowP P w)) (T : TabOk t (L.map fun p => hashP P w p.2)) (hfl : L.length ≤ t.mask)
    (nd : (L.map (·.2)).Nodup) (tup : ∀ p ∈ L, IsP P w s.heap p.2 p.1) (few : L.length < 64) {wanted M : Nat}
    (hw : SetTable.sizeAbove wanted - 1 = M) (hM : MaskOk M) (hw2 : SetTable.sizeAbove wanted ≤ 128) (hn : L.length * 5 < M * 3) {Q : Unit → Shared → Prop}
    (hQ : ∀ h' L' es' ep' t', Heap.SameBut a s.heap h' → PSet P w h' a L' es' ep' t' → L'.Perm L → Q () { s with heap := h' }) : wpAny (model P w) A (setRelay a wanted) Q E s := by
  have hsl : es.size = L.length := by
    have h := congrArg List.length rows
    rwa [Array.length_toList, List.length_map] at h
  have hsz := T.sz
  rw [List.length_map] at hsz
  have hfits : t.fits es.size = true := by
    unfold SetTable.fits SetTable.fill
    rw [T.dm, Bool.and_eq_true, beq_iff_eq, decide_eq_true_eq]
    show t.place.size = es.size ∧ t.place.size + 0 ≤ t.mask
    omega
  obtain ⟨t', order, e, hp, T', em, el, epl, ed⟩ := relaid_ok t (hs := es.map (·.1)) (wanted := wanted) hw hM (by rw [Array.size_map, hsl]; omega)
  rw [Array.size_map, hsl] at hp
  obtain ⟨L2, r1, r2, r3⟩ := reorder (rowP P w) L es order rows hp
  rw [← r3] at T'
  have hs2 : (order.filterMap (es[·]?)).size = es.size := by
    have h := congrArg List.length r1
    rw [Array.length_toList, List.length_map, r2.length_eq] at h
    rw [h, hsl]
  rw [setRelay_eq]
  refine wpAny_bind (wpAny_setState_of ho hd hfits ?_)
  dsimp only
  refine wp_if_neg (by rw [sizeLine_eq]; omega) ?_
  try refine wpAny_bind (wpAny_pure ?_)
  rw [e]
  dsimp only
  refine wpAny_bind ?_
  refine wp_if_neg (by rw [hs2]; simp) ?_
  try refine wpAny_bind (wpAny_pure ?_)
  refine wpAny_pure ?_
  dsimp only
  refine wpAny_storeSet_of ho hd ?_ (by rw [hs2, hsl, sizeLine_eq]; omega)
  have sb : Heap.SameBut a s.heap (s.heap.update a (Obj.putSet (order.filterMap (es[·]?)) t')) := Heap.SameBut.update ..
  refine hQ _ L2 (order.filterMap (es[·]?)) (ep + 1) t' sb ⟨⟨_, store_at ho hd, ⟨hex.1, hex.2.1, hex.2.2⟩, rfl⟩, r1, T', (r2.map (·.2)).nodup_iff.mpr nd, fun p hpm => (tup p (r2.mem_iff.mp hpm)).other ho hd sb, ?_, by rw [r2.length_eq]; exact few⟩ r2
  rw [r2.length_eq, em]
  exact hn
theorem put_perm' {α : Type} (L : List α) (p : Nat) (x : α) : (L.take p ++ x :: L.drop p).Perm (x :: L) := L2.put_perm L p x
/-- the tail of an adding: the new tuple is laid down, and the table grows where it is too full -/
theorem tailP {o : Obj} (ho : s.heap.get? a = some o) (hex : o.ExactSet) (hd : o.data = .set es ep t) {L1 : List (Addr × List Str)} {es1 : Array (Int × Value)} {u : SetTable} (hsl : es.size = L.length) (hmok : MaskOk t.mask) (hroom : L.length * 5 < t.mask * 3)
    (hin : es1.toList = L1.map (rowP P w)) (T : TabOk u (L1.map fun p => hashP P w p.2)) (hmask : u.mask = t.mask) (hps : u.place.size = L.length + 1) (hlen : L1.length = L.length + 1) (nd1 : (L1.map (·.2)).Nodup) (tup1 : ∀ h', Heap.SameBut a s.heap h' → ∀ p ∈ L1, IsP P w h' p.2 p.1) (hfew : L.length + 1 < 64) {Q : Bool → Shared → Prop}
    (hQ : ∀ h' L' es' ep' t', Heap.SameBut a s.heap h' → PSet P w h' a L' es' ep' t' → L'.Perm L1 → Q true { s with heap := h' }) :
    wpAny (model P w) A (do
      storeSet a es1 u
      if !false && u.tooFull then setRelay a (SetTable.grown (es.size + 1))
      return true) Q E s := by
  have hes : es1.size = L.length + 1 := by
    have h := congrArg List.length hin
    rw [Array.length_toList, List.length_map, hlen] at h
    exact h
  refine wpAny_bind (wpAny_storeSet_of ho hd ?_ (by rw [hes, sizeLine_eq]; omega))
  have sb : Heap.SameBut a s.heap (s.heap.update a (Obj.putSet es1 u)) := Heap.SameBut.update ..
  have ho1 := store_at (es' := es1) (t' := u) ho hd
  have tup2 := tup1 _ sb
  generalize s.heap.update a (Obj.putSet es1 u) = h1 at sb ho1 tup2 ⊢
  have hfill : u.tooFull = true ↔ (L.length + 1) * 5 ≥ u.mask * 3 := by
    unfold SetTable.tooFull SetTable.fill
    rw [decide_eq_true_eq, T.dm]
    show (u.place.size + 0) * 5 ≥ u.mask * 3 ↔ _
    rw [hps]
  by_cases hf : u.tooFull = true
  · first
      | (refine wpAny_bind ?_; refine wp_if_pos (by simp [hf]) ?_)
      | (refine wp_if_pos (by simp [hf]) ?_; refine wpAny_bind ?_)
    have hfull := hfill.mp hf
    rw [hmask] at hfull
    rw [hsl]
    have cases2 : (t.mask = 7 ∧ L.length = 4) ∨ (t.mask = 31 ∧ L.length = 18) := by
      rcases hmok with e | e | e
      · left; rw [e] at hfull hroom; exact ⟨e, by omega⟩
      · right; rw [e] at hfull hroom; exact ⟨e, by omega⟩
      · exfalso; rw [e] at hfull; omega
    have go : ∀ M, SetTable.sizeAbove (SetTable.grown (L.length + 1)) - 1 = M → MaskOk M → SetTable.sizeAbove (SetTable.grown (L.length + 1)) ≤ 128 → (L.length + 1) * 5 < M * 3 →
        wpAny (model P w) A (setRelay a (SetTable.grown (L.length + 1))) (fun _ s' => wpAny (model P w) A (pure true) Q E s') E { s with heap := h1 } := fun M h1' h2' h3' h4' => by
      refine relayP (s := { s with heap := h1 }) ho1 ⟨hex.1, hex.2.1, hex.2.2⟩ rfl hin T (by rw [hlen, hmask]; rcases cases2 with ⟨e, e2⟩ | ⟨e, e2⟩ <;> omega) nd1 tup2 (by rw [hlen]; exact hfew) h1' h2' h3' (by rw [hlen]; exact h4') ?_
      intro h2 L2 es2 ep2 t2 sb2 R2 pm2
      exact wpAny_pure (hQ h2 L2 es2 ep2 t2 (sb.trans sb2) R2 pm2)
    rcases cases2 with ⟨_, e2⟩ | ⟨_, e2⟩
    · refine go 31 (by rw [e2, size_20]) (.inr (.inl rfl)) (by rw [e2, size_20]; decide) (by omega)
    · refine go 127 (by rw [e2, size_76]) (.inr (.inr rfl)) (by rw [e2, size_76]; decide) (by omega)
  · first
      | refine wp_if_neg (by simp [hf]) ?_
      | (refine wpAny_bind ?_; refine wp_if_neg (by simp [hf]) ?_; refine wpAny_pure ?_)
    refine wpAny_pure (hQ h1 L1 es1 (ep + 1) u sb ⟨⟨_, ho1, ⟨hex.1, hex.2.1, hex.2.2⟩, rfl⟩, hin, T, nd1, tup2, ?_, by rw [hlen]; exact hfew⟩ (List.Perm.refl _))
    have h := mt hfill.mpr hf
    rw [hlen]
    omega
/-- ADDING: what is there stays as it is; what isn't comes to it -/
theorem addP (R : PSet P w s.heap a L es ep t) {x : Addr} {k : List Str} (hx : IsP P w s.heap k x) (hu : A.units < cLine) (hfew : L.length + 1 < 64) {Q : Bool → Shared → Prop}
    (hQ : ∀ b h' L' es' ep' t', Heap.SameBut a s.heap h' → PSet P w h' a L' es' ep' t' → (k ∈ L.map (·.2) → L' = L) → (k ∉ L.map (·.2) → L'.Perm ((x, k) :: L)) → Q b { s with heap := h' }) :
    wpAny (model P w) A (setAddHashed a (.ref x) (hashP P w k)) Q E s := by
  obtain ⟨o, ho, hex, hd⟩ := R.ob
  have hsl := R.size
  have hroom := R.room
  unfold setAddHashed
  refine wpAny_holding ?_
  rw [show (100000 : Nat) = 99999 + 1 from rfl, setAddHashedIn_succ]
  refine wpAny_bind (wpAny_setState_of ho hd R.fits ?_)
  dsimp only
  refine wp_if_neg (by simp [byScan, Value.scannable]) ?_
  try refine wpAny_bind (wpAny_pure ?_)
  refine wpAny_bind (seek_all R hx hu (fun hm => ?_) fun K hm hK hb => ?_)
  · exact wpAny_pure (hQ false s.heap L es ep t (Heap.SameBut.refl a s.heap) R (fun _ => rfl) fun z => absurd hm z)
  · dsimp only
    refine wpAny_bind (wpAny_setState_of ho hd R.fits ?_)
    dsimp only
    obtain ⟨q1, q2, q3, q4, q5, q6, q7, q8, q9⟩ := R.tab.put hK hb
    have hin : (SetTable.insertAt es (SetTable.below t.place (way t.mask (hashP P w k) K)) (hashP P w k, Value.ref x)).toList = (L.take (SetTable.below t.place (way t.mask (hashP P w k) K)) ++ (x, k) :: L.drop (SetTable.below t.place (way t.mask (hashP P w k) K))).map (rowP P w) := by
      rw [SetTable.toList_insertAt, R.rows, List.map_append, List.map_cons, List.map_take, List.map_drop]
      rfl
    have pm := put_perm' L (SetTable.below t.place (way t.mask (hashP P w k) K)) (x, k)
    have hhs : (L.take (SetTable.below t.place (way t.mask (hashP P w k) K)) ++ (x, k) :: L.drop (SetTable.below t.place (way t.mask (hashP P w k) K))).map (fun p => hashP P w p.2) = (L.map fun p => hashP P w p.2).take (SetTable.below t.place (way t.mask (hashP P w k) K)) ++ hashP P w k :: (L.map fun p => hashP P w p.2).drop (SetTable.below t.place (way t.mask (hashP P w k) K)) := by
      rw [List.map_append, List.map_cons, List.map_take, List.map_drop]
    generalize hpt : t.put (way t.mask (hashP P w k) K) = pt at q1 q3 q4 q5 q6 q7 q8 q9 ⊢
    obtain ⟨t1, p⟩ := pt
    dsimp only at q1 q3 q4 q5 q6 q7 q8 q9 ⊢
    subst q1
    generalize hpp : SetTable.below t.place (way t.mask (hashP P w k) K) = p at q2 q3 hin pm hhs ⊢
    have hlen : (L.take p ++ (x, k) :: L.drop p).length = L.length + 1 := pm.length_eq
    rw [← hhs] at q3
    have nd1 : ((L.take p ++ (x, k) :: L.drop p).map (·.2)).Nodup := by
      refine (pm.map (·.2)).nodup_iff.mpr ?_
      rw [List.map_cons]
      exact List.nodup_cons.mpr ⟨hm, R.nd⟩
    generalize SetTable.insertAt es p (hashP P w k, Value.ref x) = es1 at hin ⊢
    generalize L.take p ++ (x, k) :: L.drop p = L1 at pm hlen q3 nd1 hin
    have tup1 : ∀ h1, Heap.SameBut a s.heap h1 → ∀ p ∈ L1, IsP P w h1 p.2 p.1 := fun h1 sb p hp => by
      rcases List.mem_cons.mp (pm.mem_iff.mp hp) with e | hp
      · rw [e]; exact IsP.other hx ho hd sb
      · exact IsP.other (R.tup p hp) ho hd sb
    have hps : t1.place.size = L.length + 1 := by
      have h := q3.sz
      rw [List.length_map, hlen] at h
      exact h
    have fin : ∀ u : SetTable, u.place = t1.place → u.dummies = t1.dummies → u.mask = t1.mask → wpAny (model P w) A (do
        storeSet a es1 u
        if !false && u.tooFull then setRelay a (SetTable.grown (es.size + 1))
        return true) Q E s := fun u e1 e2 e3 =>
      tailP ho hex hd hsl R.tab.mok hroom hin (tabOk_congr q3 e1 e2 e3) (e3.trans q4) (by rw [e1]; exact hps) hlen nd1 tup1 hfew fun h' L' es' ep' t' sb R' pm' => hQ true h' L' es' ep' t' sb R' (fun z => absurd z hm) fun _ => pm'.trans pm
    have both : ∀ r : Bool, wpAny (model P w) A (do
        storeSet a es1 (if r then t1 else { t1 with plain := false })
        if !false && (if r then t1 else { t1 with plain := false }).tooFull then setRelay a (SetTable.grown (es.size + 1))
        return true) Q E s := fun r => by
      cases r
      · exact fin _ rfl rfl rfl
      · exact fin _ rfl rfl rfl
    by_cases hp1 : t1.plain = true
    · first
        | (refine wpAny_bind ?_; refine wp_if_pos hp1 ?_; refine hashBy hx fun r => ?_)
        | refine wp_if_pos hp1 (wpAny_bind (hashBy hx fun r => ?_))
      exact both r
    · first
        | (refine wpAny_bind ?_; refine wp_if_neg hp1 ?_; refine wpAny_pure ?_)
        | refine wp_if_neg hp1 (wpAny_bind (wpAny_pure ?_))
        | refine wp_if_neg hp1 ?_
      exact both true
end
end MyS

set_option Elab.async false
set_option linter.all false
set_option maxRecDepth 100000
set_option maxHeartbeats 4000000
/-! len(set(xs)) of a list or a tuple of tuples of texts, fewer than 64. -/
namespace MyS
open PySem PySem.Spec PyProof.Rows L2
section
variable {P : Program} {w : World} {A : Around} {E : Value → Shared → Prop} {s : Shared}
/-- the set at S behind the first i tuples -/
def JP (P : Program) (w : World) (h0 : Heap) (S : Addr) (ks : List (List Str)) (i : Nat) (h : Heap) : Prop :=
  ∃ L es ep t, PSet P w h S L es ep t ∧ (∀ p ∈ L, IsP P w h0 p.2 p.1) ∧ (∀ k, k ∈ L.map (·.2) ↔ k ∈ ks.take i) ∧ Cnt (ks.take i) L.length
theorem JP.adds {S : Addr} {ks : List (List Str)} {h0 : Heap} {i : Nat} {k : List Str} {x : Addr} (hx : ks[i]? = some k) (hb : ks.length < 64) (ht : IsP P w h0 k x) (hu : A.units < cLine) : Adds P w A S h0 (JP P w h0 S ks) i (.ref x) := by
  intro z Q E hJ hk hQ
  obtain ⟨L, es, ep, t, R, h0t, hM, hc⟩ := hJ
  have hi : i < ks.length := (List.getElem?_eq_some_iff.mp hx).1
  have hn := hc.le
  rw [List.length_take] at hn
  have hz : IsP P w z.heap k x := ht.keep fun o e => hk x o e
  unfold setAdd
  refine wpAny_holding ?_
  refine wpAny_bind (wpAny_pyHash_tuple hu hz ?_)
  refine addP (s := { z with toks := z.toks + (k.length + 1) }) R hz hu (by omega) fun b h' L' es' ep' t' sb R' c1 c2 => ?_
  refine hQ _ h' _ (Nat.le_add_right _ _) sb ⟨L', es', ep', t', R', ?_⟩
  rw [take_snoc hx]
  by_cases c : k ∈ L.map (·.2)
  · have e := c1 c
    subst e
    refine ⟨h0t, fun q => ?_, hc.old ((hM k).mp c)⟩
    rw [List.mem_append, List.mem_singleton, hM q]
    exact ⟨.inl, fun h => h.elim id fun e => e ▸ (hM k).mp c⟩
  · have pm := c2 c
    refine ⟨fun p hp => ?_, fun q => ?_, ?_⟩
    · rcases List.mem_cons.mp (pm.mem_iff.mp hp) with e | hp
      · rw [e]; exact ht
      · exact h0t p hp
    · rw [(pm.map (·.2)).mem_iff, List.map_cons, List.mem_cons, List.mem_append, List.mem_singleton, hM q]
      exact ⟨fun h => h.elim .inr .inl, fun h => h.elim .inr .inl⟩
    · rw [pm.length_eq, List.length_cons]
      exact hc.new fun m => c ((hM k).mpr m)
theorem JP.keeps {S : Addr} {ks : List (List Str)} {h0 : Heap} : KeepsJ S h0 (JP P w h0 S ks) := by
  rintro i h h' ⟨L, es, ep, t, R, h0t, r⟩ k1 k2
  obtain ⟨o, ho, r1⟩ := R.ob
  exact ⟨L, es, ep, t, ⟨⟨o, k1 o ho, r1⟩, R.rows, R.tab, R.nd, fun p hp => (h0t p hp).keep fun o e => k2 p.1 o e, R.room, R.few⟩, h0t, r⟩
theorem JP.zero {S : Addr} {ks : List (List Str)} {h h0 : Heap} (ho : h.get? S = some (freshSet w)) : JP P w h0 S ks 0 h := by
  refine ⟨[], #[], 0, _, ⟨⟨_, ho, ⟨rfl, rfl, rfl⟩, rfl⟩, rfl, ⟨List.Pairwise.nil, rfl, rfl, .inl rfl, fun x hx => (by cases hx), fun i h j hi => (by simp at hi)⟩, List.nodup_nil, fun p hp => (by cases hp), (by show 0 * 5 < 7 * 3; decide), (by show 0 < 64; decide)⟩, fun p hp => (by cases hp), fun k => by simp, ?_⟩
  rw [List.take_zero]
  exact Cnt.nil
end
theorem strItems_of_vals (P : Program) (w : World) : ∀ {k : List Str} {us : List Value}, Vals (k.map V.str) us → ItemsAre (PySem.strKind P w) k us
  | [], _, .nil => .nil
  | n :: k, _, .cons r t => by
    obtain ⟨tk, rfl⟩ := r
    exact .cons (strKind_is P w n tk) (strItems_of_vals P w t)
section
variable {X : Cx}
theorem Inv_isP {pins : List (Addr × Obj)} {σ : L2.St} {H : Hp} {s : Shared} {b : Addr} {k : List Str} (I : Inv X pins σ H s) (h : SqT X.K H b (k.map V.str)) : IsP X.prog X.w s.heap k b := by
  obtain ⟨its, r, ⟨o, ho, hc, n, hd⟩, _⟩ := I.tuple h
  exact ⟨o, its.toArray, n, ho, hc, hd, by simpa using strItems_of_vals _ _ r⟩
/-- len(set(xs)), xs tuples of texts -/
def tLenSetP (K : PySem.W.Frag) (ta : TE) : TE := fun σ H Q => ta σ H fun x H1 => ∃ (l : Addr) (ks : List (Addr × List Str)), x = .ref l ∧ (SqL K H1 l (ks.map fun p => V.ref p.1) ∨ SqT K H1 l (ks.map fun p => V.ref p.1)) ∧ (∀ p ∈ ks, SqT K H1 p.1 (p.2.map V.str)) ∧ ks.length < 64 ∧ ∀ n, Cnt (ks.map (·.2)) n → Q (.int (n : Nat)) H1
theorem refsP : ∀ {ks : List (Addr × List Str)} {us : List Value}, Vals (ks.map fun p => V.ref p.1) us → us = ks.map fun p => Value.ref p.1
  | [], _, .nil => rfl
  | p :: ks, _, .cons r t => by
    cases r
    rw [refsP t] <;> rfl
theorem pe_lenSetP {a : Expr} {ta : TE} {p p2 q pos : Pos} (hc : X.calm = true) (hu : X.A.units + 64 < cLine) (hm : X.mg "len" = none) (hm2 : X.mg "set" = none) (ha : PE X a ta) (hg : Gl X "len" := by rfl) (hg2 : Gl X "set" := by rfl)
    (na : starEach [a] X.env = (false, eval a X.env) :: starEach [] X.env := by rfl) : PE X (.Call (.Name "len" p) [.Call (.Name "set" p2) [a] [] q] [] pos) (tLenSetP X.K ta) := by
  refine ⟨fun pins s σ H Q I h => ?_⟩
  refine Call_ (ld_blt I hg hm boot_len ?_)
  refine PyProof.Rows.callWith_builtin1 (PyProof.Rows.args_cons ?_ rfl) rfl rfl
  refine Call_ (ld_blt I hg2 hm2 boot_set ?_)
  refine PyProof.Rows.callWith_type1 (PyProof.Rows.args_cons (thn (ha.run pins s σ H _ I h) fun v s1 ⟨x, H1, I1, r1, q1⟩ => PyProof.Rows.args_nil ?_) na) na rfl
  obtain ⟨l, ks, rfl, hq, ht, h1, q1⟩ := q1
  cases r1
  have go : ∀ (its : List Value), Vals (ks.map fun p => V.ref p.1) its → (s1.heap.IsList l its.toArray ∨ s1.heap.IsTuple l its.toArray) → wpAny (model X.prog X.w) X.A (call (.type "set") [.ref l])
      (fun v s₂ => wpAny (model X.prog X.w) X.A (spliced (backTo pos (starEach [] X.env))) (fun vs s₃ => wpAny (model X.prog X.w) X.A (call (.builtin "len") (v :: vs)) (EP X pins σ Q) X.xe s₃) X.xe s₂) X.xe s1 := fun its r hl => by
    have hits := refsP r
    have hsz : its.toArray.size = ks.length := by rw [List.size_toArray, hits, List.length_map]
    refine call_setJ (J := JP X.prog X.w s1.heap s1.heap.objs.size (ks.map (·.2))) (I1.ok.hd hc) hl (fun h ho => JP.zero ho) JP.keeps (fun h hJ => ?_) (fun A' hA i v hv => ?_) fun h' tk hJ hk _ => ?_
    · obtain ⟨L, es, ep, t, R, _⟩ := hJ
      obtain ⟨o, ho, _⟩ := R.ob
      exact ⟨o, ho⟩
    · have e1 : (ks.map fun p => Value.ref p.1)[i]? = some v := by rw [← hits]; simpa using hv
      rw [List.getElem?_map] at e1
      obtain ⟨p, hp, rfl⟩ := Option.map_eq_some_iff.mp e1
      exact JP.adds (k := p.2) (by rw [List.getElem?_map, hp]; rfl) (by rw [List.length_map]; exact h1) (Inv_isP I1 (ht p (List.mem_of_getElem? hp))) (by omega)
    · rw [hsz] at hJ
      obtain ⟨L, es, ep, t, R, _, hM, hcn⟩ := hJ
      rw [show ks.length = (ks.map (·.2)).length by rw [List.length_map], List.take_length] at hcn
      have I2 : Inv X pins σ H1 { s1 with heap := h', toks := tk } := I1.kept fun b o e => hk b o e
      refine PyProof.Rows.args_nil ?_
      have hle := hcn.le
      obtain ⟨o, ho, hex, hd⟩ := R.ob
      have hfew := R.few
      refine call_len_set ho hex hd (R.fits (s := { s1 with heap := h', toks := tk })) (by rw [R.size (s := { s1 with heap := h', toks := tk })]; omega) ⟨.int (L.length : Nat), H1, I2.tok _, ⟨_, by rw [R.size (s := { s1 with heap := h', toks := tk })]⟩, q1 L.length hcn⟩
  rcases hq with hq | hq
  · obtain ⟨its, r, pl, hz⟩ := I1.list hq
    exact go its r (.inl pl.isList)
  · obtain ⟨its, r, pl, hz⟩ := I1.tuple hq
    exact go its r (.inr (by first | exact pl | exact pl.isTuple))
end
end MyS

set_option Elab.async false
set_option linter.all false
set_option maxRecDepth 100000
set_option maxHeartbeats 4000000
/-! sorted(xs) of a list or a tuple: of texts, of pairs of texts, of tuples told apart by their first text. -/
namespace MyS
open PySem PySem.Spec PyProof.Rows L2
open SrtO hiding Str
/-! ### the order of texts -/
def slt (a b : Str) : Bool := decide (a.cps.toList < b.cps.toList)
theorem str_ext {a b : Str} (h : a.cps.toList = b.cps.toList) : a = b := by
  obtain ⟨x⟩ := a
  obtain ⟨y⟩ := b
  exact congrArg PySem.Str.mk (Array.toList_inj.mp h)
theorem slt_iff {a b : Str} : slt a b = true ↔ a.cps.toList < b.cps.toList := decide_eq_true_iff
theorem slt_no {a b : Str} : slt a b = false ↔ ¬ a.cps.toList < b.cps.toList := decide_eq_false_iff_not
theorem slt_irr (a : Str) : slt a a = false := slt_no.mpr (List.lt_irrefl _)
theorem slt_asym {a b : Str} (h : slt a b = true) : slt b a = false := slt_no.mpr fun k => List.lt_irrefl _ (List.lt_trans (slt_iff.mp h) k)
theorem slt_tri {a b : Str} (h1 : slt a b = false) (h2 : slt b a = false) : a = b :=
  str_ext (List.le_antisymm (List.not_lt.mp (slt_no.mp h2)) (List.not_lt.mp (slt_no.mp h1)))
theorem slt_ntr {x y z : Str} (h1 : slt y x = false) (h2 : slt z y = false) : slt z x = false :=
  slt_no.mpr (List.not_lt.mpr (List.le_trans (List.not_lt.mp (slt_no.mp h1)) (List.not_lt.mp (slt_no.mp h2))))
theorem slt_trans {x y z : Str} (h1 : slt x y = true) (h2 : slt y z = true) : slt x z = true := slt_iff.mpr (List.lt_trans (slt_iff.mp h1) (slt_iff.mp h2))
/-- pairs: the first, then the second -/
def slt2 (p q : Str × Str) : Bool := if p.1 = q.1 then slt p.2 q.2 else slt p.1 q.1
theorem swo_s : Swo slt := ⟨fun x y h => slt_asym h, fun x y z h1 h2 => slt_ntr h1 h2⟩
theorem slt2_eq {p q : Str × Str} (h : p.1 = q.1) : slt2 p q = slt p.2 q.2 := if_pos h
theorem slt2_ne {p q : Str × Str} (h : ¬ p.1 = q.1) : slt2 p q = slt p.1 q.1 := if_neg h
theorem swo_s2 : Swo slt2 := by
  refine ⟨fun x y h => ?_, fun x y z h1 h2 => ?_⟩
  · by_cases e : x.1 = y.1
    · rw [slt2_eq e] at h
      rw [slt2_eq e.symm]
      exact slt_asym h
    · rw [slt2_ne e] at h
      rw [slt2_ne (fun c => e c.symm)]
      exact slt_asym h
  · by_cases e : z.1 = x.1
    · rw [slt2_eq e]
      by_cases e1 : y.1 = x.1
      · rw [slt2_eq e1] at h1
        rw [slt2_eq (e.trans e1.symm)] at h2
        exact slt_ntr h1 h2
      · rw [slt2_ne e1] at h1
        rw [slt2_ne (fun c => e1 (c.symm.trans e)), e] at h2
        exact absurd (slt_tri h1 h2) e1
    · rw [slt2_ne e]
      by_cases e1 : y.1 = x.1
      · rw [slt2_ne (fun c => e (c.trans e1)), e1] at h2
        exact h2
      · rw [slt2_ne e1] at h1
        by_cases e2 : z.1 = y.1
        · rw [e2]; exact h1
        · rw [slt2_ne e2] at h2
          exact slt_ntr h1 h2
theorem swo_of {α β : Type} {lt : β → β → Bool} (O : Swo lt) (f : α → β) : Swo fun x y => lt (f x) (f y) := ⟨fun x y => O.asym (f x) (f y), fun x y z => O.tr (f x) (f y) (f z)⟩
section
variable {prog : Program} {w : World} {A : Around} {E : Value → Shared → Prop} {s : Shared}
/-- collecting a tuple -/
theorem collect_tup {l : Addr} {vs : List Value} {Q : List Value → Shared → Prop} (hl : s.heap.IsTuple l vs.toArray)
    (h : Q vs { s with heap := (s.heap.push (seqObj "list" #[] 0)).update s.heap.objs.size (Obj.mapSeq (· ++ vs.toArray)) }) (hsz : vs.length ≤ sizeLine) :
    wpAny (model prog w) A (collect (.ref l)) Q E s := by
  obtain ⟨o, ho, hc, n, hd⟩ := id hl
  unfold collect
  refine wpAny_bind (wpAny_runValue (codeAny_builtin entry_proto_collect' ?_))
  show wpAny _ _ (do again (.builtin "list.__iadd__" ⟨[← newList [], .ref l], []⟩)) _ _ s
  refine wpAny_bind (wpAny_newList (wpAny_pure ⟨Code.quiet_builtin _ (by decide +kernel), codeAny_builtin entry_list_iadd' ?_⟩))
  show wpAny _ _ (Builtin.List.listExtendWith (.ref s.heap.objs.size) (.ref l) (.ref s.heap.objs.size)) _ _ { s with heap := s.heap.push (seqObj "list" #[] 0) }
  unfold Builtin.List.listExtendWith
  have ho' : (s.heap.push (seqObj "list" #[] 0)).get? l = some o := Heap.get?_push_of_some _ ho
  refine wpAny_bind (wpAny_typeOf (T := "tuple") ⟨o, ho', hc⟩ ?_)
  have ht : (Value.type "tuple" == Value.type "tuple") = true := by rfl
  rw [if_pos (by rw [ht]; simp)]
  refine wpAny_bind (listItems_at ho' hd ?_)
  refine wpAny_bind (listItems_at (xs := #[]) (n := 0) (Heap.get?_push_size _ rfl) rfl ?_)
  rw [if_neg (by simp)]
  refine wpAny_bind (listUpdate_at (xs := #[]) (n := 0) (Heap.get?_push_size _ rfl) rfl ?_ (Nat.zero_le _) (by show (#[] ++ vs.toArray).size ≤ sizeLine + 1; simp only [Array.size_append, List.size_toArray, List.length_nil]; omega))
  refine wpAny_pure ?_
  show wpAny (model prog w) A (do
      let o ← load s.heap.objs.size
      match o.data with
      | .seq xs _ => pure xs.toList
      | _ => unsupported "internal:collect") Q E { s with heap := (s.heap.push (seqObj "list" #[] 0)).update s.heap.objs.size (Obj.mapSeq (· ++ vs.toArray)) }
  refine wpAny_bind (wpAny_load (get?_update_seq (Heap.get?_push_size _ rfl) _) ?_)
  show wpAny _ _ (pure ((#[] : Array Value) ++ vs.toArray).toList) Q E _
  rw [show ((#[] : Array Value) ++ vs.toArray).toList = vs by simp]
  exact wpAny_pure h
/-- sorted(l), l a list or a tuple -/
theorem sorted_seq {l : Addr} {vs : List Value} {ltv : Value → Value → Bool} {Q : Value → Shared → Prop} (O : Swo ltv) (hl : s.heap.IsList l vs.toArray ∨ s.heap.IsTuple l vs.toArray) (hz : vs.length ≤ sizeLine)
    (hS : 2 ≤ vs.length → ∀ (h₁ : Heap) (a : Addr), h₁.get? a = some (seqObj "list" vs.toArray 0) → (∀ b o, s.heap.get? b = some o → b ≠ a ∧ h₁.get? b = some o) → SortableO prog w A.in1.in1 { s with heap := h₁ } a vs ltv)
    (h : ∀ out : List Value, Srtd ltv out → Stb ltv out vs → Q (.ref (s.heap.objs.size + 1)) { s with heap := sortedAll s.heap vs out.toArray }) :
    wpAny (model prog w) A (call (.builtin "sorted") [.ref l]) Q E s := by
  rcases hl with hl | hl
  · exact sorted_ord O hl hz hS h
  refine Calls.call_function_entry kind_sorted plain_sorted entry_sorted (args_sorted1 _) ?_
  unfold Builtin.«sorted»
  refine wpAny_bind (m := checkCount "sorted" 1 1 _) (wpAny_pure ?_)
  refine wpAny_bind (collect_tup hl ?_ hz)
  refine wpAny_bind (wpAny_newList ?_ hz)
  have hsz : ((s.heap.push (seqObj "list" #[] 0)).update s.heap.objs.size (Obj.mapSeq (· ++ vs.toArray))).objs.size = s.heap.objs.size + 1 := by
    rw [Heap.size_update, size_push']
  have hoL : (((s.heap.push (seqObj "list" #[] 0)).update s.heap.objs.size (Obj.mapSeq (· ++ vs.toArray))).push (seqObj "list" vs.toArray 0)).get? (s.heap.objs.size + 1) = some (seqObj "list" vs.toArray 0) := by
    rw [← hsz]; exact Heap.get?_push_size _ rfl
  have keep : ∀ b o, s.heap.get? b = some o → b ≠ s.heap.objs.size + 1 ∧ (((s.heap.push (seqObj "list" #[] 0)).update s.heap.objs.size (Obj.mapSeq (· ++ vs.toArray))).push (seqObj "list" vs.toArray 0)).get? b = some o := fun b o q => by
    have hlt : b < s.heap.objs.size := Heap.lt_size q
    refine ⟨Nat.ne_of_lt (Nat.lt_succ_of_lt hlt), Heap.get?_push_of_some _ ?_⟩
    rw [Heap.get?_update_ne _ _ _ _ (Nat.ne_of_lt hlt)]
    exact Heap.get?_push_of_some _ q
  show wpAny _ _ _ _ _ { s with heap := ((s.heap.push (seqObj "list" #[] 0)).update s.heap.objs.size (Obj.mapSeq (· ++ vs.toArray))).push (seqObj "list" vs.toArray 0) }
  rw [hsz]
  refine wpAny_bind (wpAny_holding (wpAny_call_entry slot_list_sort ⟨_, hoL, rfl⟩ entry_list_sort (list_sort_ord O hoL hz (fun h2 => hS h2 _ _ hoL keep) fun out hs hb => ⟨_, rfl, ?_⟩) (args_list_sort _)))
  exact wpAny_pure ⟨_, rfl, h out hs hb⟩
/-! ### texts -/
def sv : Value → Str
  | .str x _ => x
  | _ => ⟨#[]⟩
theorem strs_cmp {vs : List Value} (hI : ∀ v ∈ vs, ∃ x t, v = Value.str x t) : Cmp prog w A s oneType' (fun p => p.1 ∈ vs) (lt2 fun v u => slt (sv v) (sv u)) := by
  intro p q hm hm'
  obtain ⟨a, t, e⟩ := hI _ hm
  obtain ⟨b, u, e'⟩ := hI _ hm'
  show wpAny (model prog w) A (keyLt' oneType' p.1 q.1) (fun r s' => s' = s ∧ r = slt (sv p.1) (sv q.1)) (fun _ _ => False) s
  rw [e, e', keyLt'_oneType]
  exact oneLt_str ⟨rfl, rfl⟩
theorem strs_sortable {a : Addr} {vs : List Value} {ss : List Str} (hI : StrsAre vs ss) (h2 : 2 ≤ vs.length) : SortableO prog w A s a vs fun v u => slt (sv v) (sv u) := by
  intro h' _
  refine ⟨oneType', fun Q E hq => ?_, strs_cmp hI.all⟩
  match vs, hI, h2 with
  | v1 :: v2 :: rest, hI, _ =>
    rw [keyKind_strs hI]
    exact wpAny_pure hq
  | [], _, h => exact absurd h (by decide)
  | [v], _, h => exact absurd h (by simp)
theorem sv_strs : ∀ {vs : List Value} {ss : List Str}, StrsAre vs ss → vs.map sv = ss
  | _, _, .nil => rfl
  | _, _, .cons n t r => congrArg (n :: ·) (sv_strs r)
theorem strs_sv : ∀ {vs : List Value}, (∀ v ∈ vs, ∃ x t, v = Value.str x t) → StrsAre vs (vs.map sv)
  | [], _ => .nil
  | v :: vs, h => by
    obtain ⟨i, t, e⟩ := h v List.mem_cons_self
    subst e
    exact .cons i t (strs_sv fun u hu => h u (List.mem_cons_of_mem _ hu))
end
/-- ascending -/
def Asc (ys : List Str) : Prop := ys.Pairwise fun a b => slt b a = false
section
variable {X : Cx}
/-- sorted(xs), texts, a list or a tuple of them -/
def rSortSQ (K : PySem.W.Frag) : List V → Hp → VK → Prop := fun vs H Q => ∃ (a : Addr) (xs : List Str), vs = [V.ref a] ∧ (SqL K H a (xs.map V.str) ∨ SqT K H a (xs.map V.str)) ∧
  ∀ (ys : List Str) (p : Addr), ys.Perm xs → Asc ys → H p = none → Q (.ref p) (upd H p (.lst (ys.map V.str)))
theorem cr_sortSQ : CallR X (.builtin "sorted") (rSortSQ X.K) := by
  intro pins s σ H vs us Q I r h
  obtain ⟨a, xs, rfl, hs, q⟩ := h
  rw [Vals.ref1 r]
  have go : ∀ (its : List Value), Vals (xs.map V.str) its → (s.heap.IsList a its.toArray ∨ s.heap.IsTuple a its.toArray) → (xs.map V.str).length ≤ sizeLine → wpAny (model X.prog X.w) X.A (call (.builtin "sorted") [.ref a]) (EP X pins σ Q) X.xe s := fun its rv hl hz => by
    have hi := rv.strs
    refine sorted_seq (swo_of swo_s sv) hl (by rw [← rv.length]; exact hz) (fun h2 h₁ a' _ _ => strs_sortable hi h2) fun out h1 h2 => ?_
    have ho : ∀ v ∈ out, ∃ x t, v = Value.str x t := fun v hv => hi.all v (h2.perm.mem_iff.mp hv)
    have pm : (out.map sv).Perm xs := by
      have q := h2.perm.map sv
      rw [sv_strs hi] at q
      exact q
    obtain ⟨ep, he'⟩ := PyProof.Rows.sortedAll_at s.heap its out.toArray
    have hlen : ((out.map sv).map V.str).length ≤ sizeLine := by
      rw [List.length_map, pm.length_eq]
      rw [List.length_map] at hz
      exact hz
    exact ⟨.ref _, upd H (s.heap.objs.size + 1) (.lst ((out.map sv).map V.str)), I.laid (t' := s.toks) (fun _ _ => PyProof.Rows.sortedAll_old) (Nat.le_succ _) ⟨hlen, out, ep, vals_of_strs (strs_sv ho), he'⟩, rfl, q _ _ pm (List.pairwise_map.mpr h1) (I.hok.fresh (Nat.le_succ _))⟩
  rcases hs with hs | hs
  · obtain ⟨its, rv, pl, hz⟩ := I.list hs
    exact go its rv (.inl pl.isList) (by first | exact hz | (rw [rv.length]; exact hz))
  · obtain ⟨its, rv, pl, hz⟩ := I.tuple hs
    exact go its rv (.inr (by first | exact pl | exact pl.isTuple)) (by first | exact hz | (rw [rv.length]; exact hz))
end
end MyS

set_option Elab.async false
set_option linter.all false
set_option maxRecDepth 100000
set_option maxHeartbeats 4000000
/-! sorted(xs), xs a list of tuples: pairs of texts, or tuples told apart by their first text. -/
namespace MyS
open PySem PySem.Spec PyProof.Rows L2
open SrtO hiding Str
section
variable {prog : Program} {w : World} {A : Around} {E : Value → Shared → Prop} {s : Shared}
/-- v is a tuple with these items -/
def IsTp (h : Heap) (v : Value) (a : Str) (r : List Value) : Prop := ∃ (b : Addr) (o : Obj) (xs : Array Value) (n : Nat) (t : Tok), v = .ref b ∧ h.get? b = some o ∧ o.cls = .type "tuple" ∧ o.data = .seq xs n ∧ xs.toList = .str a t :: r
theorem IsTp.keeps {h h' : Heap} {v : Value} {a : Str} {r : List Value} (x : IsTp h v a r) (k : ∀ b o, h.get? b = some o → o.cls = .type "tuple" → h'.get? b = some o) : IsTp h' v a r := by
  obtain ⟨b, o, xs, n, t, e, ho, hc, q⟩ := x
  exact ⟨b, o, xs, n, t, e, k b o ho hc, hc, q⟩
theorem firstsS {h : Heap} : ∀ {vs : List Value}, (∀ v ∈ vs, ∃ a r, IsTp h v a r) → ∃ fs : List Value, PySem.W.KatTups h vs fs ∧ fs.length = vs.length ∧ ∀ f ∈ fs, ∃ x t, f = Value.str x t
  | [], _ => ⟨[], PySem.W.KatTups.nil, rfl, fun _ hm => by simp at hm⟩
  | v :: vs, hp => by
    obtain ⟨fs, h1, h2, h3⟩ := firstsS (vs := vs) fun v' hm => hp v' (List.mem_cons_of_mem _ hm)
    obtain ⟨a, r, b, o, xs, n, t, e, ho, hc, hd, hx⟩ := hp v (List.mem_cons_self ..)
    subst e
    refine ⟨.str a t :: fs, PySem.W.KatTups.cons ho hc hd (by rw [← Array.getElem?_toList, hx]; rfl) h1, by rw [List.length_cons, List.length_cons, h2], fun f hm => ?_⟩
    rcases List.mem_cons.mp hm with rfl | hm
    · exact ⟨a, t, rfl⟩
    · exact h3 f hm
theorem kat_self {b fin : Bool} {Q : Bool → Shared → Prop} : ∀ (r : List Value) (i : Nat), Q fin s → PySem.W.KatLex prog w A b fin Q (r.zip r) i s
  | [], _, h => PySem.W.kat_nil h
  | v :: r, i, h => PySem.W.kat_cons (SeqAt.EqAt.same v prog w _ _ (PySem.W.kat_yes (kat_self r (i + 1) h)))
theorem slt_eqF {a b : Str} (h : a = b) : slt a b = false := by rw [h]; exact slt_irr b
/-- tuples told apart by their first text -/
theorem first_cmp {vs : List Value} {k : Value → Str} (hp : ∀ v ∈ vs, ∃ r, IsTp s.heap v (k v) r) (ne : ∀ v ∈ vs, ∀ u ∈ vs, k v = k u → v = u) : Cmp prog w A s (tuples' true) (fun p => p.1 ∈ vs) (lt2 fun v u => slt (k v) (k u)) := by
  intro p q hm hm'
  obtain ⟨r, b, o, xs, n, t, e, ho, hc, hd, hx⟩ := hp _ hm
  obtain ⟨r', b', o', xs', n', t', e', ho', hc', hd', hx'⟩ := hp _ hm'
  have hne := ne _ hm _ hm'
  show wpAny (model prog w) A (keyLt' (tuples' true) p.1 q.1) (fun r s' => s' = s ∧ r = slt (k p.1) (k q.1)) (fun _ _ => False) s
  generalize k p.1 = x at *
  generalize k q.1 = y at *
  rw [e, e'] at hne ⊢
  refine PySem.W.kat_lt ho hd ho' hd' ?_
  rw [hx, hx']
  show PySem.W.KatLex prog w A true (decide (xs.size < xs'.size)) _ ((.str x t, .str y t') :: r.zip r') 0 s
  refine PySem.W.kat_cons (SeqAt.EqAt.str_str x t y t' prog w _ _ ?_)
  refine PySem.W.kat_go (fun e1 => ?_) (fun e1 => ?_)
  · have ex : x = y := by simpa using e1
    have eb : Value.ref b = Value.ref b' := hne ex
    injection eb with eb
    subst eb
    obtain rfl : o = o' := Option.some.inj (ho.symm.trans ho')
    have e2 : PySem.Data.seq xs n = PySem.Data.seq xs' n' := hd.symm.trans hd'
    injection e2 with e2 e3
    subst e2
    have e4 := (List.cons.inj (hx.symm.trans hx')).2
    subst e4
    refine PySem.W.kat_yes (kat_self r 1 ⟨rfl, ?_⟩)
    rw [slt_eqF ex]
    exact decide_eq_false (Nat.lt_irrefl _)
  · exact PySem.W.kat_no (oneLt_str ⟨rfl, rfl⟩)
/-- pairs of texts -/
theorem pairs_cmp {vs : List Value} {k : Value → Str × Str} (hp : ∀ v ∈ vs, ∃ t, IsTp s.heap v (k v).1 [.str (k v).2 t]) : Cmp prog w A s (tuples' true) (fun p => p.1 ∈ vs) (lt2 fun v u => slt2 (k v) (k u)) := by
  intro p q hm hm'
  obtain ⟨t2, b, o, xs, n, t, e, ho, hc, hd, hx⟩ := hp _ hm
  obtain ⟨t2', b', o', xs', n', t', e', ho', hc', hd', hx'⟩ := hp _ hm'
  show wpAny (model prog w) A (keyLt' (tuples' true) p.1 q.1) (fun r s' => s' = s ∧ r = slt2 (k p.1) (k q.1)) (fun _ _ => False) s
  generalize k p.1 = x at *
  generalize k q.1 = y at *
  rw [e, e']
  have sz : xs.size = 2 := by rw [← Array.length_toList, hx]; rfl
  have sz' : xs'.size = 2 := by rw [← Array.length_toList, hx']; rfl
  refine PySem.W.kat_lt ho hd ho' hd' ?_
  rw [hx, hx', sz, sz']
  show PySem.W.KatLex prog w A true (decide (2 < 2)) _ [(.str x.1 t, .str y.1 t'), (.str x.2 t2, .str y.2 t2')] 0 s
  refine PySem.W.kat_cons (SeqAt.EqAt.str_str x.1 t y.1 t' prog w _ _ ?_)
  refine PySem.W.kat_go (fun e1 => ?_) (fun e1 => ?_)
  · have ex : x.1 = y.1 := by simpa using e1
    refine PySem.W.kat_yes (PySem.W.kat_cons (SeqAt.EqAt.str_str x.2 t2 y.2 t2' prog w _ _ ?_))
    refine PySem.W.kat_go (fun e2 => ?_) (fun e2 => ?_)
    · have ey : x.2 = y.2 := by simpa using e2
      refine PySem.W.kat_yes (PySem.W.kat_nil ⟨rfl, ?_⟩)
      rw [slt2_eq ex, slt_eqF ey]
      rfl
    · refine PySem.W.kat_no (PySem.W.kat_one _ _ ?_)
      refine PyProof.Rows.lt_str ?_
      exact ⟨rfl, (slt2_eq ex).symm⟩
  · have ex : ¬ x.1 = y.1 := by simpa using e1
    exact PySem.W.kat_no (oneLt_str ⟨rfl, (slt2_ne ex).symm⟩)
theorem tps_kind {vs : List Value} (h0 : 0 < vs.length) (hp : ∀ v ∈ vs, ∃ a r, IsTp s.heap v a r) {Q : SortKind → Shared → Prop} (hq : Q (tuples' true) s) : wpAny (model prog w) A (keyKind' vs.toArray) Q E s := by
  obtain ⟨fs, h1, h2, h3⟩ := firstsS hp
  refine PySem.W.kat_kind (T := .type "str") h1 (by omega) (fun f hm => ?_) (by rfl) ?_
  · obtain ⟨x, t, rfl⟩ := h3 f hm
    exact PySem.W.Looks.now
  · have e : (Value.type "str" != Value.type "tuple") = true := by first | decide +kernel | rfl | decide
    rw [e]
    exact hq
theorem first_sortable {a : Addr} {vs : List Value} {k : Value → Str} (h0 : 0 < vs.length) (hp : ∀ v ∈ vs, ∃ r, IsTp s.heap v (k v) r) (ne : ∀ v ∈ vs, ∀ u ∈ vs, k v = k u → v = u) (ha : ∀ o, s.heap.get? a = some o → o.cls ≠ .type "tuple") : SortableO prog w A s a vs fun v u => slt (k v) (k u) := by
  intro h' keep
  have hp' : ∀ v ∈ vs, ∃ r, IsTp h' v (k v) r := fun v hm => let ⟨r, z⟩ := hp v hm; ⟨r, z.keeps fun b o e c => keep b o (fun z => by subst z; exact ha o e c) e⟩
  exact ⟨tuples' true, fun Q E hq => tps_kind h0 (fun v hm => let ⟨r, z⟩ := hp' v hm; ⟨_, r, z⟩) hq, first_cmp hp' ne⟩
theorem pairs_sortable {a : Addr} {vs : List Value} {k : Value → Str × Str} (h0 : 0 < vs.length) (hp : ∀ v ∈ vs, ∃ t, IsTp s.heap v (k v).1 [.str (k v).2 t]) (ha : ∀ o, s.heap.get? a = some o → o.cls ≠ .type "tuple") : SortableO prog w A s a vs fun v u => slt2 (k v) (k u) := by
  intro h' keep
  have hp' : ∀ v ∈ vs, ∃ t, IsTp h' v (k v).1 [.str (k v).2 t] := fun v hm => let ⟨r, z⟩ := hp v hm; ⟨r, z.keeps fun b o e c => keep b o (fun z => by subst z; exact ha o e c) e⟩
  exact ⟨tuples' true, fun Q E hq => tps_kind h0 (fun v hm => let ⟨r, z⟩ := hp' v hm; ⟨_, _, z⟩) hq, pairs_cmp hp'⟩
end
section
variable {X : Cx}
theorem noTup {h : Heap} {a : Addr} {vs : List Value} (ha : h.get? a = some (seqObj "list" vs.toArray 0)) : ∀ o, h.get? a = some o → o.cls ≠ .type "tuple" := fun o e c => by
  have e' : some o = some (seqObj "list" vs.toArray 0) := e.symm.trans ha
  cases e'
  exact absurd (Value.type.inj c) (by decide)
/-- sorted(xs), xs a list of tuples told apart by their first text -/
def rSortR (K : PySem.W.Frag) : List V → Hp → VK → Prop := fun vs H Q => ∃ (a : Addr) (xs : List V) (k : V → Str), vs = [V.ref a] ∧ SqL K H a xs ∧ (∀ x ∈ xs, ∃ t r, x = V.ref t ∧ SqT K H t (.str (k x) :: r)) ∧ (∀ x ∈ xs, ∀ y ∈ xs, k x = k y → x = y) ∧
  ∀ ys p, ys.Perm xs → ys.Pairwise (fun x y => slt (k y) (k x) = false) → H p = none → Q (.ref p) (upd H p (.lst ys))
theorem cr_sortR : CallR X (.builtin "sorted") (rSortR X.K) := by
  intro pins s σ H vs us Q I r h
  obtain ⟨a, xs, k, rfl, hs, hx, ne, q⟩ := h
  obtain ⟨its, rv, hl, hz⟩ := I.list hs
  rw [Vals.ref1 r]
  obtain ⟨e1, e2⟩ := refs_back rv fun x m => by
    obtain ⟨t, r, e, _⟩ := hx x m
    exact ⟨t, e⟩
  have hp : ∀ v ∈ its, ∃ r, IsTp s.heap v (k (backV v)) r := fun v hv => by
    obtain ⟨t, rfl⟩ := e2 v hv
    have hm : V.ref t ∈ xs := by rw [e1]; exact List.mem_map.mpr ⟨_, hv, rfl⟩
    obtain ⟨t', r, e, ht⟩ := hx _ hm
    cases e
    obtain ⟨its2, r2, ⟨o, ho, hc, n, hd⟩, _⟩ := I.tuple ht
    cases r2 with
    | cons r0 r3 =>
      obtain ⟨tk, rfl⟩ := r0
      exact ⟨_, t, o, _, n, tk, rfl, ho, hc, hd, rfl⟩
  have ne' : ∀ v ∈ its, ∀ u ∈ its, k (backV v) = k (backV u) → v = u := fun v hv u hu e => by
    obtain ⟨t, rfl⟩ := e2 v hv
    obtain ⟨t', rfl⟩ := e2 u hu
    have q := ne (.ref t) (by rw [e1]; exact List.mem_map.mpr ⟨_, hv, rfl⟩) (.ref t') (by rw [e1]; exact List.mem_map.mpr ⟨_, hu, rfl⟩) e
    injection q with q
    rw [q]
  refine sorted_seq (swo_of swo_s fun u => k (backV u)) (.inl hl.isList) (by rw [← rv.length]; exact hz) (fun h2 h₁ a' ha' kk => first_sortable (by omega) (fun v hv => let ⟨r, z⟩ := hp v hv; ⟨r, z.keeps fun b o e _ => (kk b o e).2⟩) ne' (noTup ha')) fun out h1 h2 => ?_
  have h3 : ∀ u ∈ out, ∃ a, u = Value.ref a := fun u hu => e2 u (h2.perm.mem_iff.mp hu)
  obtain ⟨ep, he'⟩ := PyProof.Rows.sortedAll_at s.heap its out.toArray
  have pm : (out.map backV).Perm xs := by
    rw [e1]
    exact h2.perm.map backV
  refine ⟨.ref _, upd H (s.heap.objs.size + 1) (.lst (out.map backV)), I.laid (t' := s.toks) (fun _ _ => PyProof.Rows.sortedAll_old) (Nat.le_succ _) ⟨by rw [pm.length_eq]; exact hz, out, ep, vals_back h3, he'⟩, rfl, q _ _ pm (List.pairwise_map.mpr h1) (I.hok.fresh (Nat.le_succ _))⟩
/-- sorted(xs), xs a list of pairs of texts -/
def rSortB (K : PySem.W.Frag) : List V → Hp → VK → Prop := fun vs H Q => ∃ (a : Addr) (xs : List V) (k : V → Str × Str), vs = [V.ref a] ∧ SqL K H a xs ∧ (∀ x ∈ xs, ∃ t, x = V.ref t ∧ SqT K H t [.str (k x).1, .str (k x).2]) ∧
  ∀ ys p, ys.Perm xs → ys.Pairwise (fun x y => slt2 (k y) (k x) = false) → H p = none → Q (.ref p) (upd H p (.lst ys))
theorem cr_sortB : CallR X (.builtin "sorted") (rSortB X.K) := by
  intro pins s σ H vs us Q I r h
  obtain ⟨a, xs, k, rfl, hs, hx, q⟩ := h
  obtain ⟨its, rv, hl, hz⟩ := I.list hs
  rw [Vals.ref1 r]
  obtain ⟨e1, e2⟩ := refs_back rv fun x m => by
    obtain ⟨t, e, _⟩ := hx x m
    exact ⟨t, e⟩
  have hp : ∀ v ∈ its, ∃ t, IsTp s.heap v (k (backV v)).1 [.str (k (backV v)).2 t] := fun v hv => by
    obtain ⟨t, rfl⟩ := e2 v hv
    have hm : V.ref t ∈ xs := by rw [e1]; exact List.mem_map.mpr ⟨_, hv, rfl⟩
    obtain ⟨t', e, ht⟩ := hx _ hm
    cases e
    obtain ⟨its2, r2, ⟨o, ho, hc, n, hd⟩, _⟩ := I.tuple ht
    obtain ⟨u1, u2, rfl, ri, rj⟩ := vals2 r2
    obtain ⟨t1, rfl⟩ := ri
    obtain ⟨t2, rfl⟩ := rj
    exact ⟨t2, t, o, _, n, t1, rfl, ho, hc, hd, rfl⟩
  refine sorted_seq (swo_of swo_s2 fun u => k (backV u)) (.inl hl.isList) (by rw [← rv.length]; exact hz) (fun h2 h₁ a' ha' kk => pairs_sortable (by omega) (fun v hv => let ⟨r, z⟩ := hp v hv; ⟨r, z.keeps fun b o e _ => (kk b o e).2⟩) (noTup ha')) fun out h1 h2 => ?_
  have h3 : ∀ u ∈ out, ∃ a, u = Value.ref a := fun u hu => e2 u (h2.perm.mem_iff.mp hu)
  obtain ⟨ep, he'⟩ := PyProof.Rows.sortedAll_at s.heap its out.toArray
  have pm : (out.map backV).Perm xs := by
    rw [e1]
    exact h2.perm.map backV
  refine ⟨.ref _, upd H (s.heap.objs.size + 1) (.lst (out.map backV)), I.laid (t' := s.toks) (fun _ _ => PyProof.Rows.sortedAll_old) (Nat.le_succ _) ⟨by rw [pm.length_eq]; exact hz, out, ep, vals_back h3, he'⟩, rfl, q _ _ pm (List.pairwise_map.mpr h1) (I.hok.fresh (Nat.le_succ _))⟩
end
end MyS

set_option Elab.async false
set_option linter.all false
set_option maxRecDepth 100000
set_option maxHeartbeats 4000000
/-! {k: v for x in xs} with tuples as keys (the library's HandS.DictComp is for ints and texts; the steps are its steps, the store is another). -/
namespace MyS
open PySem PySem.Spec PyProof.Rows L2
section
variable {X : Cx}
theorem d_dictSetT {pins : List (Addr × Obj)} {σ : L2.St} {H : Hp} {s : Shared} {E : Value → Shared → Prop} {D b : Addr} {kvs : List (List Key × V)} {k : List Key} {v : V} {u r : Value} {Q : Unit → Shared → Prop} (hu : X.A.units + 1 < cLine) (I : Inv X pins σ H s) (hD : H D = some (.dT kvs)) (hz : kvs.length < sizeLine)
    (eb : H b = some (.tup (k.map kV))) (ry : RelV (.ref b) u) (rv : RelV v r) (h : ∀ s', Inv X pins σ (upd H D (.dT (putK kvs k v))) s' → Q () s') : wpAny (model X.prog X.w) X.A (dictSet D u r) Q E s := by
  cases (show u = Value.ref b from ry)
  obtain ⟨z, hd, xs, rel, dd⟩ := dt_of I.hok hD
  have hxs : xs.length ≤ sizeLine := by rw [← Paired.length rel]; exact z
  have hl : (putK kvs k v).length ≤ sizeLine := by have := length_putK kvs k v; omega
  refine wpAny_dictSet_heap (hsz := hxs) (show X.A.units < cLine from Nat.lt_of_succ_lt hu) (key_of I.hok eb) dd fun h' dd' hs => h _ ?_
  obtain ⟨q, es, ep, hq, h2, h3, h4, _, h5⟩ := dd'
  refine d_write I (by rw [hD]; exact True.intro) hs ⟨q, hq⟩ ⟨hl, hd, _, (rel.put k eb rv).keeps fun c ys ec => ?_, q, es, ep, hq, h2, h3, h4, h5⟩
  rw [upd_ne (ne_of ec hD (fun z => nomatch z))]
  exact ec
/-- {k: v for x in xs}: the tuple keys' own dict D; the loop by W as in a list comprehension -/
def tDcT (wi : TI) (g : TG) (tt : TT) (tk tv : TE) (vs : List Nat) : TE := fun σ H Q => wi σ H fun J H1 => ∀ D, H1 D = none → ∃ W : Nat → Nat → Hp → Prop, (∃ m, W 0 m (upd H1 D (.dT []))) ∧ ∀ i m H, W i m H →
  (J.stop i H ∧ Q (.ref D) H) ∨ (J.go i H ∧ ∃ Nx : Hp → Prop, (∀ H', Nx H' → ∃ m', m' < m ∧ W (i + 1) m' H') ∧ ∀ x H', J.yld i H x H' → g x (wipe σ vs) H' fun σ2 H2 => wipe σ2 vs = wipe σ vs ∧ tt σ2 H2 fun b H3 =>
    if b = true then tk σ2 H3 fun y H4 => tv σ2 H4 fun z H5 => ∃ kvs k c, y = .ref c ∧ H5 c = some (.tup (k.map kV)) ∧ H5 D = some (.dT kvs) ∧ kvs.length < sizeLine ∧ Nx (upd H5 D (.dT (putK kvs k z))) else Nx H3)
theorem pe_dcT {kx vx tg iter : Expr} {ifs : List Expr} {scope : Scope} {own : List (PySem.Str × Nat)} {pos : Pos} {wi : TI} {g : TG} {tt : TT} {tk tv : TE} (hu : X.A.units + 1 < cLine) (hc : X.calm = true) (hN : X.N.Nodup) (hi : PI X tg iter wi) (ok : BlkOk X.N X.env.scope scope own)
    (hg : ∀ (s : Shared) (H : Hp) (C : Addr) (cl : List (PySem.Str × Addr)) (fp : List Addr), PG (X.blk s H scope (compEnvC scope cl C X.env) fp) tg g) (ht : ∀ (s : Shared) (H : Hp) (C : Addr) (cl : List (PySem.Str × Addr)) (fp : List Addr), PTs (X.blk s H scope (compEnvC scope cl C X.env) fp) ifs tt)
    (hk : ∀ (s : Shared) (H : Hp) (C : Addr) (cl : List (PySem.Str × Addr)) (fp : List Addr), PE (X.blk s H scope (compEnvC scope cl C X.env) fp) kx tk)
    (he : ∀ (s : Shared) (H : Hp) (C : Addr) (cl : List (PySem.Str × Addr)) (fp : List Addr), PE (X.blk s H scope (compEnvC scope cl C X.env) fp) vx tv) (hs : ∀ x, foldedSetIterable iter X.env x = pure x := by intro _; rfl) :
    PE X (.DictComp kx vx [⟨tg, iter, ifs, 0⟩] scope pos) (tDcT wi g tt tk tv (own.map (·.2))) := by
  refine ⟨fun pins s σ H Q I h => ?_⟩
  rw [arm_eval_DictComp]
  have hfree : ∀ y ∈ scope.names, y.2 = .free → ∃ c, X.env.cells.lookup y.1 = some c := fun y hy e =>
    (ok.free y hy e).elim (fun k => I.ok.has _ (.inl k)) fun k => I.ok.has _ (.inr k)
  refine wpAny_comprehension_free (use := none) rfl hs (closure_ok hfree) ok.kind (fun y hy e => by rw [ok.uniq y hy, e]) (thn (hi.run pins s σ H _ I h) fun xv s1 hx => thn hx fun itv s2 h2 => ?_)
  obtain ⟨it, fp, tn, J, H2, rfl, I2, T, st2, f2, q⟩ := h2
  refine wpAny_newObj_type (newEnv_comp ?_)
  obtain ⟨W, ⟨m0, w0⟩, turn⟩ := q s2.heap.objs.size (I2.hok.fresh (Nat.le_refl _))
  -- the new dict
  have I3 : Inv X pins σ (upd H2 s2.heap.objs.size (.dT [])) { s2 with heap := s2.heap.push { cls := .type "dict", data := .dict #[] } } :=
    I2.laid (t' := s2.toks) (fun b o e => Heap.get?_push_of_some _ e) (Nat.le_refl _) (dt_empty s2.heap I2.big)
  have below : ∀ b ∈ fp, b < s2.heap.objs.size := fun b hb => let ⟨o, e, _⟩ := T.obj _ _ st2 b hb; Heap.lt_size e
  generalize hs3 : ({ s2 with heap := s2.heap.push { cls := .type "dict", data := .dict #[] } } : Shared) = s3 at I3
  have h3 : s3.heap = s2.heap.push { cls := .type "dict", data := .dict #[] } := by rw [← hs3]
  generalize hD : s2.heap.objs.size = D at I3 w0 turn below ⊢
  have f3 : ∀ b ∈ fp, FpOk X pins (upd H2 D (.dT [])) b ∧ b < s3.heap.objs.size := fun b hb =>
    ⟨⟨by rw [upd_ne (Nat.ne_of_lt (below b hb))]; exact (f2 b hb).1, (f2 b hb).2⟩, by rw [h3, Heap.size_push, hD]; exact Nat.lt_succ_of_lt (below b hb)⟩
  have st3 : tn 0 s3.heap := T.keep _ _ _ st2 fun b _ o e => by rw [h3]; exact Heap.get?_push_of_some _ e
  have I4 := block_start I3 ok hN f3
  generalize hC : cellsFrom (s3.heap.objs.size + 1) scope.names (cloFrom X.env.cells scope.names []) = cl at I4
  have pg := hg s3 (upd H2 D (.dT [])) s3.heap.objs.size cl fp
  have pt := ht s3 (upd H2 D (.dT [])) s3.heap.objs.size cl fp
  have pk := hk s3 (upd H2 D (.dT [])) s3.heap.objs.size cl fp
  have pe := he s3 (upd H2 D (.dT [])) s3.heap.objs.size cl fp
  have goal : codeAny (model X.prog X.w) X.A (.compStart (.DictComp kx vx [⟨tg, iter, ifs, 0⟩] scope pos) 0 (.ref it) (.ref D) (compEnvC scope cl s3.heap.objs.size X.env)) (compPost (model X.prog X.w) X.A X.xe none (EP X pins σ Q) (.ref D) s3.heap.objs.size) { s3 with heap := pushCells (s3.heap.push { cls := .type "dict", data := .dict #[] }) scope.names } := by
    have cL : (compEnvC scope cl s3.heap.objs.size X.env).locals = s3.heap.objs.size := rfl
    generalize compEnvC scope cl s3.heap.objs.size X.env = ce at I4 pg pt pk pe cL ⊢
    generalize hH3 : upd H2 D (.dT []) = H3 at I3 I4 pg pt pk pe w0 f3
    generalize hs4 : ({ s3 with heap := pushCells (s3.heap.push { cls := .type "dict", data := .dict #[] }) scope.names } : Shared) = s4 at I4 ⊢
    have st4 : tn 0 s4.heap := T.keep _ _ _ st3 fun b _ o e => by rw [← hs4]; exact pushCells_keeps _ _ _ _ (Heap.get?_push_of_some _ e)
    have stat : ∀ {σ' : L2.St} {H' : Hp} {s' : Shared}, Inv (X.blk s3 H3 scope ce fp) [] σ' H' s' → (∀ b ∈ fp, H' b = none) → ∀ b ∈ fp, FpOk (X.blk s3 H3 scope ce fp) [] H' b := fun {σ' H' s'} I' hn b hb =>
      ⟨hn b hb, (I'.ok.exf b hb).1, I'.ok.exfs b hb, .inl hb, fun x c e => (I'.ok.exf b hb).2 x c e, fun p hp => absurd (show p ∈ ([] : List (Addr × Obj)) ++ [] from hp) (by simp)⟩
    refine codeAny_compStart_dict ?lp (T.self X.A 0 _ _ _ st4 ?lp)
    refine compLoop_anyD (fun n s' => ∃ i H', Inv (X.blk s3 H3 scope ce fp) [] (wipe σ (own.map (·.2))) H' s' ∧ tn i s'.heap ∧ (∀ b ∈ fp, H' b = none) ∧ W i n H') ?_ m0 ⟨0, H3, I4, st4, fun b hb => (f3 b hb).1.1, w0⟩
    rintro n s5 ⟨i, H5, I5, st5, n5, w5⟩
    rcases turn i n H5 w5 with ⟨stop, qq⟩ | ⟨go, Nx, hNx, step⟩
    · refine thnF (T.done (X.blk s3 H3 scope ce fp) rfl rfl rfl hc i [] s5 _ H5 (fun _ _ => False) I5 (stat I5 n5) st5 stop) fun r s6 ⟨hr, I6⟩ => ?_
      subst hr
      have I7 : Inv X pins σ H5 s6 := I3.call' (ch := fp) I6.os I6.base I6.hok I6.bare fun b hb => ⟨(f3 b hb).1.2.2.2.1, (f3 b hb).1.2.1, (f3 b hb).1.2.2.2.2.1, (f3 b hb).1.2.2.2.2.2⟩
      have nC : H5 s3.heap.objs.size = none := by
        have z : H5 ce.locals = none := I6.free
        rw [cL] at z
        exact z
      obtain ⟨m, hn, _⟩ := I6.loc
      have hn : s6.heap.Ns ce.locals m := hn
      rw [cL] at hn
      obtain ⟨f0, f1, f2, f3, f4, f5⟩ := I3.fpOk (Nat.le_refl _) nC
      exact ⟨m, hn, fun h'' sb => ⟨.ref D, H5, I7.turned (t' := s6.toks) (fun b o hb e => (sb.2 b hb).trans e) f0 f1 f3 f4 f5, rfl, qq⟩⟩
    · refine thnF (T.item (X.blk s3 H3 scope ce fp) rfl rfl rfl hc i [] s5 _ H5 (fun _ _ => False) I5 (stat I5 n5) st5 go) fun r s6 ⟨u, hr, h6⟩ => ?_
      subst hr
      refine thnF h6 fun _ s7 ⟨x, H7, I7, r7, y7, st7, n7⟩ => ?_
      refine thnF (pg.run _ s7 _ H7 x u _ (I7.pinned (stat I7 n7) (T.obj _ _ st7)) r7 (step x H7 y7)) fun _ s8 ⟨σ8, H8, I8, hw8, q8⟩ => ?_
      refine thnF (pt.run _ s8 σ8 H8 _ I8 q8) fun b s9 ⟨H9, I9, q9⟩ => ?_
      have fin : ∀ {s' : Shared} {H' : Hp}, Inv (X.blk s3 H3 scope ce fp) ([] ++ pinsAt fp s7.heap) σ8 H' s' → Nx H' → ∃ m, m < n ∧ ∃ i H', Inv (X.blk s3 H3 scope ce fp) [] (wipe σ (own.map (·.2))) H' s' ∧ tn i s'.heap ∧ (∀ b ∈ fp, H' b = none) ∧ W i m H' := fun {s' H'} I' nx => by
        obtain ⟨m', hm, w'⟩ := hNx H' nx
        have pin' : ∀ b ∈ fp, ∀ o, s7.heap.get? b = some o → s'.heap.get? b = some o ∧ H' b = none := fun b hb o e =>
          have z := I'.pin (b, o) (List.mem_append_right _ (List.mem_append_right _ (mem_pinsAt hb e)))
          ⟨z.1, z.2.1⟩
        have hl : (wipe σ (own.map (·.2))).length = σ8.length := by rw [← hw8, wipe_length]
        refine ⟨m', hm, i + 1, H', (I'.unpinned (pins := [])).weak hl (fun j v e => ?_), T.keep _ _ _ st7 fun b hb o e => (pin' b hb o e).1, fun b hb => ?_, w'⟩
        · rw [← hw8] at e
          exact (wipe_some e).1
        · obtain ⟨o, e, _⟩ := T.obj _ _ st7 b hb
          exact (pin' b hb o e).2
      cases b with
      | false =>
        simp only [Bool.false_eq_true, if_false] at q9 ⊢
        exact fin I9 q9
      | true =>
        simp only [if_true] at q9 ⊢
        refine thnF (pk.run _ s9 σ8 H9 _ I9 q9) fun z s10 ⟨yk, H10, I10, r10, q10⟩ => ?_
        refine thnF (pe.run _ s10 σ8 H10 _ I10 q10) fun z2 s11 ⟨yv, H11, I11, r11, kvs, k, c, ek, ec, hD11, hz11, nx⟩ => ?_
        subst ek
        exact d_dictSetT (X := X.blk s3 H3 scope ce fp) hu I11 hD11 hz11 ec r10 r11 fun s12 I12 => fin I12 nx
  subst hD
  exact goal
/-- over a tuple that stays -/
theorem dcT_tup {K : PySem.W.Frag} {a : Addr} {xs : List V} {g : TG} {tt : TT} {tk tv : TE} {vs : List Nat} {σ : L2.St} {H1 : Hp} {D : Addr} {Qd : Hp → Prop} (Pv : Nat → Hp → Prop) (h0 : Pv 0 (upd H1 D (.dT []))) (hl : ∀ i H, i ≤ xs.length → Pv i H → SqT K H a xs)
    (hs : ∀ i x H, xs[i]? = some x → Pv i H → g x (wipe σ vs) H fun σ2 H2 => wipe σ2 vs = wipe σ vs ∧ tt σ2 H2 fun b H3 =>
      if b = true then tk σ2 H3 fun y H4 => tv σ2 H4 fun z H5 => ∃ kvs k c, y = .ref c ∧ H5 c = some (.tup (k.map kV)) ∧ H5 D = some (.dT kvs) ∧ kvs.length < sizeLine ∧ Pv (i + 1) (upd H5 D (.dT (putK kvs k z))) else Pv (i + 1) H3) (hd : ∀ H, Pv xs.length H → Qd H) :
    ∃ W : Nat → Nat → Hp → Prop, (∃ m, W 0 m (upd H1 D (.dT []))) ∧ ∀ i m H, W i m H →
      ((Itt K a).stop i H ∧ Qd H) ∨ ((Itt K a).go i H ∧ ∃ Nx : Hp → Prop, (∀ H', Nx H' → ∃ m', m' < m ∧ W (i + 1) m' H') ∧ ∀ x H', (Itt K a).yld i H x H' → g x (wipe σ vs) H' fun σ2 H2 => wipe σ2 vs = wipe σ vs ∧ tt σ2 H2 fun b H3 =>
        if b = true then tk σ2 H3 fun y H4 => tv σ2 H4 fun z H5 => ∃ kvs k c, y = .ref c ∧ H5 c = some (.tup (k.map kV)) ∧ H5 D = some (.dT kvs) ∧ kvs.length < sizeLine ∧ Nx (upd H5 D (.dT (putK kvs k z))) else Nx H3) := by
  refine ⟨fun i m H => m = xs.length - i ∧ i ≤ xs.length ∧ Pv i H, ⟨xs.length, by simp, Nat.zero_le _, h0⟩, ?_⟩
  rintro i m H ⟨rfl, hi, p⟩
  have q := hl i H hi p
  rcases Nat.lt_or_ge i xs.length with lt | ge
  · refine .inr ⟨⟨xs, xs[i], q, by simp [lt]⟩, Pv (i + 1), fun H' p' => ⟨xs.length - (i + 1), by omega, rfl, lt, p'⟩, fun x H' y => ?_⟩
    obtain ⟨rfl, y⟩ := y
    exact hs i x _ (y xs q) p
  · obtain rfl : i = xs.length := by omega
    exact .inl ⟨⟨xs, q, Nat.le_refl _⟩, hd H p⟩
end
end MyS

set_option Elab.async false
set_option linter.all false
set_option maxRecDepth 100000
set_option maxHeartbeats 4000000
namespace W
open PySem PySem.Spec PyProof.Rows L2 GxR MyG
/-! ### the text by places -/
def top (i : Nat) : Stmt := PySem.Challenge.pw_waypapers_k34_vital_roads.main.body.getD i (.Pass ⟨0, 0, 0, 0⟩)
abbrev sIsName : Stmt := top 23
abbrev sNames : Stmt := top 25
abbrev sDiff : Stmt := top 26
abbrev sRoads : Stmt := top 27
abbrev sRoad : Stmt := top 28
abbrev sHours : Stmt := top 29
abbrev sBars : Stmt := top 30
abbrev sInit : Stmt := inClass (top 31) 0

/-! ### names -/
def zLet : Str := "abcdefghijklmnopqrstuvwxyz"
def zDig : Str := "0123456789"
def goodC (c : Nat) : Bool := decide (c ∈ zLet.cps.toList) || decide (c ∈ zDig.cps.toList)
def isNm (z : Str) : Bool := decide (1 ≤ z.length) && decide (z.length ≤ 12) && (match z.cps.toList with | [] => false | c :: _ => decide (c ∈ zLet.cps.toList)) && z.cps.toList.all goodC
/-- the element of the generator: x in A or x in B -/
theorem elt_two {prog : Program} {w : World} {base : Heap} {mg : Str → Option Value} {scope : Scope} {x A B : Str} {a b : Str} {ta tb : Tok} {p1 p2 p3 p4 p5 p6 p7 : Pos} (hk : scope.kind = .function) (hl : scope.names.lookup x = some .local)
    (hA : scope.names.lookup A = some .globalImplicit) (hB : scope.names.lookup B = some .globalImplicit) (hns : base.Ns mainGlobals mg) (eA : mg A = some (.str a ta)) (eB : mg B = some (.str b tb))
    (hd : (x == ("__debug__" : Str)) = false := by decide) (hdA : (A == ("__debug__" : Str)) = false := by decide) (hdB : (B == ("__debug__" : Str)) = false := by decide) :
    EltB prog w base scope x (.BoolOp .Or [.Compare (.Name x p1) [.In] [.Name A p2] p3, .Compare (.Name x p4) [.In] [.Name B p5] p6] p7) (fun c => decide (c ∈ a.cps.toList) || decide (c ∈ b.cps.toList)) := by
  intro ce B' F c t z m hs hg hh hb hn hm
  have kf : ce.scope.kind = .function := by rw [hs]; exact hk
  have kx : ce.kindOf x = some .local := by show ce.scope.names.lookup x = _; rw [hs]; exact hl
  have nsz : ∀ (z' : Shared), Keeps z z' → z'.heap.Ns ce.globals mg := fun z' k => by
    rw [hg]
    obtain ⟨h', tk, rfl, kk⟩ := k
    exact (hns.keeps hb).keeps kk
  have one : ∀ (G : Str) (g : Str) (tg : Tok) (q1 q2 q3 : Pos) (Q : Value → Shared → Prop), (G == ("__debug__" : Str)) = false → scope.names.lookup G = some .globalImplicit → mg G = some (.str g tg) → Q (.bool (decide (c ∈ g.cps.toList))) z →
      wpAny (model prog w) B' (eval (.Compare (.Name x q1) [.In] [.Name G q2] q3) ce) Q F z := by
    intro G g tg q1 q2 q3 Q hdG hG eG hQ
    refine wpAny_Compare1 ?_
    refine wpAny_Name (wpAny_loadName_local kf kx hn hm ?_) hd
    refine Calls.Name_function_global kf (by show ce.scope.names.lookup G = _; rw [hs]; exact hG) (Calls.loadGlobal_global (nsz z (keeps_refl z)) eG ?_) hdG
    refine PyProof.Rows.in_str ?_
    rw [PySem.StrLaws.found_one g c]
    exact hQ
  refine BoolOp_or (one A a ta _ _ _ _ hdA hA eA ?_)
  refine wpAny_truthy_bool ?_
  by_cases ca : c ∈ a.cps.toList
  · have ea : decide (c ∈ a.cps.toList) = true := decide_eq_true ca
    rw [if_pos ea]
    refine ⟨?_, keeps_refl z⟩
    show Value.bool (decide (c ∈ a.cps.toList)) = Value.bool (decide (c ∈ a.cps.toList) || decide (c ∈ b.cps.toList))
    rw [ea]; rfl
  · have ea : decide (c ∈ a.cps.toList) = false := decide_eq_false ca
    rw [if_neg (by rw [ea]; exact Bool.false_ne_true)]
    refine BoolOp_one (one B b tb _ _ _ _ hdB hB eB ?_)
    refine ⟨?_, keeps_refl z⟩
    show Value.bool (decide (c ∈ b.cps.toList)) = Value.bool (decide (c ∈ a.cps.toList) || decide (c ∈ b.cps.toList))
    rw [ea]; rfl

theorem pe_gI {X : Cx} {x : Str} {i : Int} {t : Tok} {pos : Pos} (hm : X.mg x = some (.int i t)) (hg : Gl X x := by rfl) (hd : (x == ("__debug__" : Str)) = false := by decide) : PE X (.Name x pos) (tC (.int i)) := pe_glob hg hm ⟨_, rfl⟩ hd
theorem pe_gS {X : Cx} {x z : Str} {t : Tok} {pos : Pos} (hm : X.mg x = some (.str z t)) (hg : Gl X x := by rfl) (hd : (x == ("__debug__" : Str)) = false := by decide) : PE X (.Name x pos) (tC (.str z)) := pe_glob hg hm ⟨_, rfl⟩ hd
theorem nofree {names : List (Str × NameKind)} {Q : Str × NameKind → Prop} (h : names.all (fun y => y.2 != .free) = true) : ∀ y ∈ names, y.2 = .free → Q y := fun y hy e => by
  have q := List.all_eq_true.mp h y hy
  rw [e] at q
  exact absurd q (by decide)
theorem if_t {c : Bool} {A B : Prop} (hc : c = true) (h : A) : if c = true then A else B := by
  rw [if_pos hc]
  exact h
theorem if_f {c : Bool} {A B : Prop} (hc : c = false) (h : B) : if c = true then A else B := by
  rw [hc, if_neg Bool.false_ne_true]
  exact h
/-! ### what the top has written -/
structure Txt (K : PySem.W.Frag) (mg : Str → Option Value) (C P : Addr) : Prop where
  let_ : ∃ t, mg "LETTERS" = some (.str zLet t)
  dig : ∃ t, mg "DIGITS" = some (.str zDig t)
  ln : ∃ t, mg "LONGEST_NAME" = some (.int 12 t)
  len : mg "len" = none
  all : mg "all" = none

def spIsName (P : Addr) : Sp := fun vs H Q _ => ∃ z : Str, vs = [.str z] ∧ z.length ≤ sizeLine ∧ TabG H P ∧ ∀ H', Tabbed P H H' → Q (.bl (isNm z)) H'
section
variable {Pg : Program} {w : World} {K : PySem.W.Frag} {mg : Str → Option Value} {base : Heap} {C P : Addr}
theorem scIsName : FnScope ["text"] ["text"] (defScope sIsName) := ⟨rfl, rfl, rfl, by decide +kernel, rfl, by decide +kernel, by decide +kernel⟩
theorem str_len0 {z : Str} (h : ¬ 1 ≤ z.length) : isNm z = false := by
  unfold isNm
  simp [h]
theorem ok_isName {f c : Addr} {fd : FuncData} (F : Fun K "is_name" "is_name" sIsName f fd) (T : Txt K mg C P) (TB : TabB base mg c P) (hfc : fd.code = .ref c) (hns : base.Ns mainGlobals mg) : FnOk Pg w K mg base CX0 2 f fd ["text"] (spIsName P) := by
  obtain ⟨oc, od, kV, doc, pm, an, cdv, ct, osl, efd, lk, hcd⟩ := F.ex
  subst efd
  have ecd : cdv = .ref c := hfc
  subst ecd
  refine fn_of lk hcd scIsName (fun vs H Q E h => ?_) (fun A outer s H vs Q E hr h => ?_)
  · obtain ⟨z, rfl, _⟩ := h
    rfl
  · obtain ⟨z, rfl, hz, hP, k⟩ := h
    obtain ⟨tl, el⟩ := T.let_
    obtain ⟨td, ed⟩ := T.dig
    obtain ⟨tn, en⟩ := T.ln
    refine ⟨_, PSs.nox (pss_cons (ps_if (PW.pt (pw_or (pt_not (pt_chain op_le op_le pe_int (pe_callB call_len_str (by rfl) T.len PySem.boot_len (pa_cons (pv 0) pa_nil)) (pe_gI en)))
        (pw_or1 (pt_cmpR op_notIn_sign (pe_ix ix_str (pv 0) pe_int (fun _ _ => rfl)) (pe_gS el) (by rfl)))))
        (pss_one (ps_ret pe_bl)) pss_nil)
      (pss_one (ps_ret (pe_allB (scope := _) (P := P) hr rfl T.all TB rfl ⟨rfl, rfl, by decide +kernel, by decide +kernel, by decide +kernel, nofree (by decide +kernel)⟩ (pv 0) (elt_two rfl (by decide +kernel) (by decide +kernel) (by decide +kernel) hns el ed) (fun _ => rfl))))), ?_⟩
    have zl : z.length = z.cps.toList.length := by simp [Str.length]
    refine ⟨_, rfl, z, rfl, hz, 1, _, rfl, rfl, _, rfl, ?_⟩
    by_cases h1 : (1 : Int) ≤ (z.length : Int)
    · refine if_t (decide_eq_true h1) ⟨_, _, rfl, rfl, _, rfl, ?_⟩
      by_cases h2 : (z.length : Int) ≤ 12
      · rw [decide_eq_true h2]
        refine iteF ?_
        have hp : 0 < z.cps.toList.length := by omega
        have e0 : atI z.cps.toList 0 = some (z.cps.toList[0]'hp) := atI_nat (j := 0) (List.getElem?_eq_getElem hp)
        refine ⟨_, rfl, z, 0, _, rfl, rfl, hz, e0, _, _, rfl, rfl, _, rfl, ?_⟩
        by_cases h3 : z.cps.toList[0]'hp ∈ zLet.cps.toList
        · rw [decide_eq_true h3]
          refine iteF ⟨_, rfl, z, rfl, hP, fun H2 hH => ?_⟩
          have e := k H2 hH
          have en : isNm z = z.cps.toList.all goodC := by
            unfold isNm
            cases q : z.cps.toList with
            | nil => rw [q] at hp; exact absurd hp (by decide)
            | cons c r =>
              have h3' : c ∈ zLet.cps.toList := by
                have : z.cps.toList[0]'hp = c := by simp [q]
                rw [← this]; exact h3
              have a1 : 1 ≤ z.length := by omega
              have a2 : z.length ≤ 12 := by omega
              simp [a1, a2, h3']
          rw [en] at e
          exact e
        · rw [decide_eq_false h3]
          refine iteT ?_
          have en : isNm z = false := by
            unfold isNm
            cases q : z.cps.toList with
            | nil => simp
            | cons c r =>
              have h3' : c ∉ zLet.cps.toList := by
                have : z.cps.toList[0]'hp = c := by simp [q]
                rw [← this]; exact h3
              simp [h3']
          have e := k H ⟨hP, fun _ _ => rfl⟩
          rw [en] at e
          exact e
      · rw [decide_eq_false h2]
        refine iteT ?_
        have en : isNm z = false := by
          unfold isNm
          have a2 : ¬ z.length ≤ 12 := by omega
          simp [a2]
        have e := k H ⟨hP, fun _ _ => rfl⟩
        rw [en] at e
        exact e
    · refine if_f (decide_eq_false h1) ⟨_, rfl, ?_⟩
      refine iteT ?_
      have en : isNm z = false := by
        unfold isNm
        have a2 : ¬ 1 ≤ z.length := by omega
        simp [a2]
      have e := k H ⟨hP, fun _ _ => rfl⟩
      rw [en] at e
      exact e
end
end W

set_option Elab.async false
set_option linter.all false
set_option maxRecDepth 100000
set_option maxHeartbeats 400000
namespace W
open PySem PySem.Spec PyProof.Rows L2 GxR MyG MyS
/-! ### heaps that have grown: what stood (but the table at P) stands -/
structure Grew (P : Addr) (H H' : Hp) : Prop where
  tab : TabG H' P
  old : ∀ b o, b ≠ P → H b = some o → H' b = some o
section
variable {P : Addr} {H H1 H2 H' : Hp} {K : PySem.W.Frag}
theorem Grew.refl (h : TabG H P) : Grew P H H := ⟨h, fun _ _ _ e => e⟩
theorem Grew.trans (a : Grew P H H1) (b : Grew P H1 H2) : Grew P H H2 := ⟨b.tab, fun c o n e => b.old c o n (a.old c o n e)⟩
theorem Grew.of (t : Tabbed P H H') : Grew P H H' := ⟨t.1, fun b o n e => by rw [t.2 b n]; exact e⟩
theorem tabNe (h : TabG H P) {a : Addr} (n : H a = none) : a ≠ P := fun e => by
  obtain ⟨ps, q, _⟩ := h
  rw [e, q] at n
  cases n
theorem tabNe' (h : TabG H P) {a : Addr} {o : HO} (e : H a = some o) (d : ∀ ps, o ≠ .tbl ps) : a ≠ P := fun z => by
  obtain ⟨ps, q, _⟩ := h
  rw [z, q] at e
  exact d ps (Option.some.inj e).symm
theorem tabUpd (h : TabG H P) {a : Addr} {o : HO} (n : a ≠ P) : TabG (upd H a o) P := by
  obtain ⟨ps, q, t⟩ := h
  exact ⟨ps, by rw [upd_ne (Ne.symm n)]; exact q, t⟩
/-- a new object -/
theorem Grew.new (h : TabG H P) {a : Addr} {o : HO} (n : H a = none) : Grew P H (upd H a o) := ⟨tabUpd h (tabNe h n), fun b u _ e => by rw [upd_ne (ne_of_none e n)]; exact e⟩
theorem Grew.put (g : Grew P H H1) {a : Addr} {o : HO} (n : H1 a = none) : Grew P H (L2.upd H1 a o) := g.trans (Grew.new g.tab n)
theorem Grew.get (g : Grew P H H') (h : TabG H P) {b : Addr} {o : HO} (e : H b = some o) (d : ∀ ps, o ≠ .tbl ps) : H' b = some o := g.old b o (tabNe' h e d) e
theorem Grew.lst (g : Grew P H H') (h : TabG H P) {b : Addr} {xs : List V} (e : H b = some (.lst xs)) : H' b = some (.lst xs) := g.get h e (fun _ z => by cases z)
theorem Grew.tup (g : Grew P H H') (h : TabG H P) {b : Addr} {xs : List V} (e : H b = some (.tup xs)) : H' b = some (.tup xs) := g.get h e (fun _ z => by cases z)
theorem Grew.free (g : Grew P H H') {b : Addr} (n : H' b = none) : H b = none := by
  cases q : H b with
  | none => rfl
  | some o =>
    rw [g.old b o (tabNe g.tab n) q] at n
    cases n
theorem Grew.sqL (g : Grew P H H') (h : TabG H P) {a : Addr} {xs : List V} (q : SqL K H a xs) : SqL K H' a xs := by
  rcases q with (q | ⟨o, q⟩) | q
  · exact .inl (.inl (g.lst h q))
  · exact .inl (.inr ⟨o, g.get h q (fun _ z => by cases z)⟩)
  · exact .inr q
theorem Grew.sqT (g : Grew P H H') (h : TabG H P) {a : Addr} {xs : List V} (q : SqT K H a xs) : SqT K H' a xs := by
  rcases q with (q | ⟨o, q⟩) | q
  · exact .inl (.inl (g.tup h q))
  · exact .inl (.inr ⟨o, g.get h q (fun _ z => by cases z)⟩)
  · exact .inr q
/-- an own object that was not there at H may be written -/
theorem Grew.write (g : Grew P H H1) {a : Addr} {o u : HO} (e : H1 a = some u) (d : ∀ ps, u ≠ .tbl ps) (n : H a = none) : Grew P H (L2.upd H1 a o) :=
  ⟨tabUpd g.tab (tabNe' g.tab e d), fun b v hb q => by rw [upd_ne (ne_of_none q n)]; exact g.old b v hb q⟩
end

/-! ### what stands in tuples goes on standing -/
def KeepT (K : PySem.W.Frag) (H H' : Hp) : Prop := ∀ a xs, SqT K H a xs → SqT K H' a xs
theorem KeepT.refl {K : PySem.W.Frag} {H : Hp} : KeepT K H H := fun _ _ h => h
theorem KeepT.trans {K : PySem.W.Frag} {H H1 H2 : Hp} (x : KeepT K H H1) (y : KeepT K H1 H2) : KeepT K H H2 := fun a xs h => y a xs (x a xs h)
theorem KeepT.grew {K : PySem.W.Frag} {P : Addr} {H H' : Hp} (g : Grew P H H') (h : TabG H P) : KeepT K H H' := fun _ _ q => g.sqT h q
theorem KeepT.upd {K : PySem.W.Frag} {H : Hp} {D : Addr} {o : HO} (h1 : ∀ xs, H D ≠ some (.tup xs)) (h2 : ∀ xs u, H D ≠ some (.frz u (.tup xs))) : KeepT K H (L2.upd H D o) := fun a xs q => by
  rcases q with (q | ⟨u, q⟩) | q
  · have ne : a ≠ D := fun e => by subst e; exact h1 xs q
    exact .inl (.inl (by rw [upd_ne ne]; exact q))
  · have ne : a ≠ D := fun e => by subst e; exact h2 xs u q
    exact .inl (.inr ⟨u, by rw [upd_ne ne]; exact q⟩)
  · exact .inr q
theorem KeepT.lst {K : PySem.W.Frag} {H : Hp} {D : Addr} {o : HO} {l : List V} (e : H D = some (.lst l)) : KeepT K H (L2.upd H D o) := .upd (fun xs q => by rw [e] at q; cases q) (fun xs u q => by rw [e] at q; cases q)
theorem KeepT.ins {K : PySem.W.Frag} {H : Hp} {D C dx : Addr} {o : HO} {fs : List (Str × V)} (e : H D = some (.ins C dx fs)) : KeepT K H (L2.upd H D o) := .upd (fun xs q => by rw [e] at q; cases q) (fun xs u q => by rw [e] at q; cases q)
theorem KeepT.dK {K : PySem.W.Frag} {H : Hp} {D : Addr} {o : HO} {l : List (Key × V)} (e : H D = some (.dK l)) : KeepT K H (L2.upd H D o) := .upd (fun xs q => by rw [e] at q; cases q) (fun xs u q => by rw [e] at q; cases q)
theorem KeepT.dT {K : PySem.W.Frag} {H : Hp} {D : Addr} {o : HO} {l : List (List Key × V)} (e : H D = some (.dT l)) : KeepT K H (L2.upd H D o) := .upd (fun xs q => by rw [e] at q; cases q) (fun xs u q => by rw [e] at q; cases q)
theorem KeepT.new {K : PySem.W.Frag} {H : Hp} {D : Addr} {o : HO} (e : H D = none) : KeepT K H (L2.upd H D o) := .upd (fun xs q => by rw [e] at q; cases q) (fun xs u q => by rw [e] at q; cases q)
/-! ### a < b < c <= d -/
section
variable {X : Cx} {a b c e : Expr} {ta tb tc te : TE} {pos : Pos}
def tChain3 (r r' r'' : R2) (ta tb tc te : TE) : TE := fun σ H Q => ta σ H fun x H1 => tb σ H1 fun y H2 => r x y H2 fun k H3 => ∃ i, k = .bl i ∧
  (if i = true then tc σ H3 fun z H4 => r' y z H4 fun k H5 => ∃ i, k = .bl i ∧ (if i = true then te σ H5 fun u H6 => r'' z u H6 Q else Q (.bl false) H5) else Q (.bl false) H3)
theorem pt_chain3 {op op' op'' : CmpOp} {r r' r'' : R2} (ho : OpR X (compareOp op) r) (ho' : OpR X (compareOp op') r') (ho'' : OpR X (compareOp op'') r'') (ha : PE X a ta) (hb : PE X b tb) (hc : PE X c tc) (he : PE X e te)
    (hm : lastMarks [op, op', op''] [b, c, e] = false := by with_unfolding_all rfl) : PT X (.Compare a [op, op', op''] [b, c, e] pos) (tTest (tChain3 r r' r'' ta tb tc te)) := by
  refine ⟨fun pins s σ H Q I h => ?_⟩
  refine isTrue_chain (thn (ha.run pins s σ H _ I h) fun v s1 ⟨x, H1, I1, r1, q1⟩ => test_link (thn (hb.run pins s1 σ H1 _ I1 q1) fun u s2 ⟨y, H2, I2, r2, q2⟩ =>
    thn (ho pins s2 σ H2 x y v u _ I2 r1 r2 q2) fun d s3 ⟨z, H3, I3, r3, k, ek, q3⟩ => ?_)) hm
  subst ek
  cases r3
  refine wpAny_truthy_bool ?_
  cases k with
  | false =>
    obtain ⟨k', e', q'⟩ := q3
    cases e'
    exact ite_ff ⟨H3, I3, q'⟩
  | true =>
    refine ite_tt (test_link (thn (hc.run pins s3 σ H3 _ I3 q3) fun w' s4 ⟨z', H4, I4, r4, q4⟩ => thn (ho' pins s4 σ H4 y z' u w' _ I4 r2 r4 q4) fun d s5 ⟨z5, H5, I5, r5, k5, e5, q5⟩ => ?_))
    subst e5
    cases r5
    refine wpAny_truthy_bool ?_
    cases k5 with
    | false =>
      obtain ⟨k', e', q'⟩ := q5
      cases e'
      exact ite_ff ⟨H5, I5, q'⟩
    | true =>
      refine ite_tt (test_last (thn (he.run pins s5 σ H5 _ I5 q5) fun w6 s6 ⟨z6, H6, I6, r6, q6⟩ => thn (ho'' pins s6 σ H6 z' z6 w' w6 _ I6 r4 r6 q6) fun d s7 ⟨z7, H7, I7, r7, k7, e7, q7⟩ => ?_))
      subst e7
      cases r7
      exact wpAny_truthy_bool ⟨H7, I7, q7⟩
end
def rTupOf (K : PySem.W.Frag) : List V → Hp → VK → Prop := fun xs H Q => ∃ p ys, xs = [.ref p] ∧ ((SqL K H p ys ∧ ∀ l, H l = none → Q (.ref l) (upd H l (.tup ys))) ∨ (SqT K H p ys ∧ Q (.ref p) H))
/-! ### what a map's parts are -/
theorem Paired.snoc {α β : Type} {F : α → β → Prop} {a : α} {b : β} : ∀ {l : List α} {m : List β}, Paired F l m → F a b → Paired F (l ++ [a]) (m ++ [b])
  | _, _, .nil, h => .cons h .nil
  | _, _, .cons r t, h => .cons r (Paired.snoc t h)
theorem Paired.len {α β : Type} {F : α → β → Prop} : ∀ {l : List α} {m : List β}, Paired F l m → l.length = m.length
  | _, _, .nil => rfl
  | _, _, .cons _ t => congrArg Nat.succ (Paired.len t)
theorem Paired.at {α β : Type} {F : α → β → Prop} : ∀ {l : List α} {m : List β} {i : Nat} {b : β}, Paired F l m → m[i]? = some b → ∃ a, l[i]? = some a ∧ F a b
  | _, _, _, _, .nil, e => by simp at e
  | _, _, 0, _, .cons r _, e => ⟨_, rfl, by simp at e; subst e; exact r⟩
  | _, _, i + 1, _, .cons _ t, e => by
    obtain ⟨a, h1, h2⟩ := Paired.at (i := i) t (by simpa using e)
    exact ⟨a, by simpa using h1, h2⟩
theorem Paired.to {α β : Type} {F : α → β → Prop} : ∀ {l : List α} {m : List β} {i : Nat} {a : α}, Paired F l m → l[i]? = some a → ∃ b, m[i]? = some b ∧ F a b
  | _, _, _, _, .nil, e => by simp at e
  | _, _, 0, _, .cons r _, e => ⟨_, rfl, by simp at e; subst e; exact r⟩
  | _, _, i + 1, _, .cons _ t, e => by
    obtain ⟨a, h1, h2⟩ := Paired.to (i := i) t (by simpa using e)
    exact ⟨a, by simpa using h1, h2⟩
theorem Paired.map' {α β : Type} {F G : α → β → Prop} : ∀ {l : List α} {m : List β}, Paired F l m → (∀ a b, F a b → G a b) → Paired G l m
  | _, _, .nil, _ => .nil
  | _, _, .cons r t, f => .cons (f _ _ r) (Paired.map' t f)
structure RoadD where
  name : Str
  start : Str
  goal : Str
  minutes : Int
  users : List Str
  hours : Option (List (Int × Int))
/-- a pair of hours -/
def GPair (K : PySem.W.Frag) (H : Hp) (p : Int × Int) (x : V) : Prop := ∃ t, x = .ref t ∧ SqT K H t [.int p.1, .int p.2]
/-- the hours of a road -/
def GHours (K : PySem.W.Frag) (H : Hp) (hs : Option (List (Int × Int))) (v : V) : Prop := match hs with
  | none => v = .non
  | some ps => ∃ l xs, v = .ref l ∧ SqT K H l xs ∧ Paired (GPair K H) ps xs
def GRoad (K : PySem.W.Frag) (H : Hp) (r : RoadD) (v : V) : Prop := ∃ t u h, v = .ref t ∧ SqT K H t [.str r.name, .str r.start, .str r.goal, .int r.minutes, .ref u, h] ∧ SqT K H u (r.users.map V.str) ∧ GHours K H r.hours h
theorem GPair.keep {K : PySem.W.Frag} {H H' : Hp} {p : Int × Int} {x : V} (k : KeepT K H H') (g : GPair K H p x) : GPair K H' p x := let ⟨t, e, q⟩ := g; ⟨t, e, k _ _ q⟩
theorem GHours.keep {K : PySem.W.Frag} {H H' : Hp} {hs : Option (List (Int × Int))} {v : V} (k : KeepT K H H') (g : GHours K H hs v) : GHours K H' hs v := by
  cases hs with
  | none => exact g
  | some ps =>
    obtain ⟨l, xs, e, q, r⟩ := g
    exact ⟨l, xs, e, k _ _ q, Paired.map' r fun _ _ => GPair.keep k⟩
theorem GRoad.keep {K : PySem.W.Frag} {H H' : Hp} {r : RoadD} {v : V} (k : KeepT K H H') (g : GRoad K H r v) : GRoad K H' r v := by
  obtain ⟨t, u, h, e, q1, q2, q3⟩ := g
  exact ⟨t, u, h, e, k _ _ q1, k _ _ q2, q3.keep k⟩
/-- pairs in order, apart, within the day -/
def hoursOk (d : Int) : Int → List (Int × Int) → Prop
  | _, [] => True
  | c, p :: r => c < p.1 ∧ p.1 < p.2 ∧ p.2 ≤ d ∧ hoursOk d p.2 r
def HoursOk (d : Int) : Option (List (Int × Int)) → Prop
  | none => True
  | some ps => ps.length ≤ 4 ∧ hoursOk d (-1) ps
/-- where the next pair begins behind the first i -/
def lastOf (c : Int) (ps : List (Int × Int)) (i : Nat) : Int := ((ps.take i).getLast?.map (·.2)).getD c
theorem hoursOk_at {d : Int} : ∀ {ps : List (Int × Int)} {c : Int} {i : Nat} {p : Int × Int}, hoursOk d c ps → ps[i]? = some p → lastOf c ps i < p.1 ∧ p.1 < p.2 ∧ p.2 ≤ d
  | [], _, _, _, _, e => by simp at e
  | q :: r, c, 0, p, h, e => by
    simp at e
    subst e
    exact ⟨h.1, h.2.1, h.2.2.1⟩
  | q :: r, c, i + 1, p, h, e => by
    have k := hoursOk_at (i := i) h.2.2.2 (by simpa using e)
    refine ⟨?_, k.2⟩
    have e2 : lastOf c (q :: r) (i + 1) = lastOf q.2 r i := by
      unfold lastOf
      rw [List.take_succ_cons]
      cases r.take i with
      | nil => rfl
      | cons a l => rw [List.getLast?_cons_cons]; cases h : (a :: l).getLast? with
        | none => simp at h
        | some z => rfl
    rw [e2]; exact k.1
theorem lastOf_succ {ps : List (Int × Int)} {c : Int} {i : Nat} {p : Int × Int} (e : ps[i]? = some p) : lastOf c ps (i + 1) = p.2 := by
  unfold lastOf
  rw [List.take_succ, e]
  simp
theorem isNm_len {z : Str} (h : isNm z = true) : z.length ≤ 12 := by
  unfold isNm at h
  simp only [Bool.and_eq_true, decide_eq_true_eq] at h
  exact h.1.1.2
/-! ### _checked_day, _check_different, _checked_hours, _checked_names -/
structure TxtE (X : Str → Option Value) (K : PySem.W.Frag) (C : Addr) : Prop where
  gC : X "InvalidMap" = some (.ref C)
  xC : PySem.W.excIn K C [.type "ValueError", .type "Exception", .type "BaseException", .type "object"] "ValueError.__new__" = true
  kC : PySem.W.keepIn K (.ref C) = true
  bC : PySem.W.subIn K (.ref C) (.type "BaseException") = some true
  tC : PySem.W.typeIn K (.ref C) = some (.type "type")
abbrev sDay : Stmt := top 24
def spDay : Sp := fun vs H Q _ => ∃ d : Int, vs = [.int d] ∧ 1 ≤ d ∧ d ≤ 1440 ∧ Q (.int d) H
def DiffS (K : PySem.W.Frag) (H : Hp) (a : Addr) : Prop := ∃ ns : List Str, (SqL K H a (ns.map V.str) ∨ SqT K H a (ns.map V.str)) ∧ ns.length ≤ 1000 ∧ ns.Nodup
def DiffP (K : PySem.W.Frag) (H : Hp) (a : Addr) : Prop := ∃ ks : List (Addr × List Str), SqL K H a (ks.map fun p => V.ref p.1) ∧ (∀ p ∈ ks, SqT K H p.1 (p.2.map V.str)) ∧ ks.length < 64 ∧ (ks.map (·.2)).Nodup
def spDiff (K : PySem.W.Frag) : Sp := fun vs H Q _ => ∃ a : Addr, vs = [.ref a] ∧ (DiffS K H a ∨ DiffP K H a) ∧ Q .non H
def spHours (K : PySem.W.Frag) (P : Addr) : Sp := fun vs H Q _ => ∃ (d : Int) (hs : Option (List (Int × Int))) (hv : V), vs = [hv, .int d] ∧ GHours K H hs hv ∧ HoursOk d hs ∧ TabG H P ∧ ∀ H' v', Grew P H H' → GHours K H' hs v' → Q v' H'
section
variable {Pg : Program} {w : World} {K : PySem.W.Frag} {mg : Str → Option Value} {base : Heap} {C P : Addr}
theorem scDay : FnScope ["day"] ["day"] (defScope sDay) := ⟨rfl, rfl, rfl, by decide +kernel, rfl, by decide +kernel, by decide +kernel⟩
theorem ok_day {f : Addr} {fd : FuncData} {t : Tok} (F : Fun K "_checked_day" "_checked_day" sDay f fd) (hd : mg "LONGEST_DAY" = some (.int 1440 t)) : FnOk Pg w K mg base CX0 1 f fd ["day"] spDay := by
  refine F.ok scDay (fun vs H Q E h => ?_) (fun cdv A outer s H vs Q E hr h => ?_)
  · obtain ⟨d, rfl, _⟩ := h
    rfl
  · obtain ⟨d, rfl, h1, h2, k⟩ := h
    refine ⟨_, pss_cons (ps_if (pt_not (pt_chain op_le op_le pe_int (pv 0) (pe_gI hd))) (pss_one ps_never) pss_nil) (pss_one (ps_ret (pv 0))), ?_⟩
    refine ⟨_, rfl, _, _, rfl, rfl, _, rfl, if_t (decide_eq_true h1) ⟨_, _, rfl, rfl, _, rfl, ?_⟩⟩
    rw [decide_eq_true h2]
    exact iteF ⟨_, rfl, k⟩
theorem scDiff : FnScope ["parts"] ["parts"] (defScope sDiff) := ⟨rfl, rfl, rfl, by decide +kernel, rfl, by decide +kernel, by decide +kernel⟩
theorem ok_diff {f : Addr} {fd : FuncData} (F : Fun K "_check_different" "_check_different" sDiff f fd) (hl : mg "len" = none) (hs : mg "set" = none) : FnOk Pg w K mg base CX0 1 f fd ["parts"] (spDiff K) := by
  refine F.ok scDiff (fun vs H Q E h => ?_) (fun cdv A outer s H vs Q E hr h => ?_)
  · obtain ⟨a, rfl, _⟩ := h
    rfl
  · obtain ⟨a, rfl, (⟨ns, hS, h1, nd⟩ | ⟨ks, hS, ht, h1, nd⟩), k⟩ := h
    · refine ⟨_, pss_one (ps_if (pt_cmpR op_lt (pe_lenSetS rfl hl hs (pv 0)) (pe_callB call_len_seq (by rfl) hl PySem.boot_len (pa_cons (pv 0) pa_nil)) (nomark _)) (pss_one ps_never) pss_nil), ?_⟩
      refine ⟨_, rfl, a, ns, rfl, hS, by omega, fun n hc => ?_⟩
      have e : n = ns.length := hc.eq.mpr nd
      subst e
      refine ⟨_, rfl, a, _, rfl, hS, _, _, rfl, rfl, _, rfl, ?_⟩
      rw [List.length_map]
      exact if_f (decide_eq_false (Int.lt_irrefl _)) k
    · refine ⟨_, pss_one (ps_if (pt_cmpR op_lt (pe_lenSetP rfl hr.units hl hs (pv 0)) (pe_callB call_len_seq (by rfl) hl PySem.boot_len (pa_cons (pv 0) pa_nil)) (nomark _)) (pss_one ps_never) pss_nil), ?_⟩
      refine ⟨_, rfl, a, ks, rfl, .inl hS, ht, h1, fun n hc => ?_⟩
      have e : n = (ks.map (·.2)).length := hc.eq.mpr nd
      subst e
      refine ⟨_, rfl, a, _, rfl, .inl hS, _, _, rfl, rfl, _, rfl, ?_⟩
      rw [List.length_map, List.length_map]
      exact if_f (decide_eq_false (Int.lt_irrefl _)) k
abbrev nHours : List Str := ["hours", "day", "closed", "pair"]
theorem scHours : FnScope nHours ["hours", "day"] (defScope sHours) := ⟨rfl, rfl, rfl, by decide +kernel, rfl, by decide +kernel, by decide +kernel⟩
theorem ok_hours {f : Addr} {fd : FuncData} {t1 : Tok} (F : Fun K "_checked_hours" "_checked_hours" sHours f fd) (hl : mg "len" = none) (ht : mg "tuple" = none) (hp : mg "MOST_PAIRS" = some (.int 4 t1)) : FnOk Pg w K mg base CX0 1 f fd ["hours", "day"] (spHours K P) := by
  refine F.ok scHours (fun vs H Q E h => ?_) (fun cdv A outer s H vs Q E hr h => ?_)
  · obtain ⟨d, hs, hv, rfl, _⟩ := h
    rfl
  · obtain ⟨d, hs, hv, rfl, g, ok, hP, k⟩ := h
    refine ⟨_, pss_cons (ps_if (pt_cmp (pc_isN (pv 0))) (pss_one (ps_ret pe_non)) pss_nil)
      (pss_cons (ps_if (pt_cmpR op_gt (pe_callB call_len_seq (by rfl) hl PySem.boot_len (pa_cons (pv 0) pa_nil)) (pe_gI hp) (nomark _)) (pss_one ps_never) pss_nil)
      (pss_cons (ps_set (i := 2) scHours.nd rfl (Or.inl rfl) (pe_un un_neg pe_int))
      (pss_cons (ps_for PassesOwn.never rfl (pi_tup (pv 0)) (pg_name (i := 3) scHours.nd rfl (Or.inl rfl))
        (pss_cons (ps_if (pt_cmpR op_ne (pe_callB call_len_seq (by rfl) hl PySem.boot_len (pa_cons (pv 3) pa_nil)) pe_int (nomark _)) (pss_one ps_never) pss_nil)
        (pss_cons (ps_if (pt_not (pt_chain3 op_lt op_lt op_le (pv 2) (pe_ix ix_tup (pv 3) pe_int (fun _ _ => rfl)) (pe_ix ix_tup (pv 3) pe_int (fun _ _ => rfl)) (pv 1))) (pss_one ps_never) pss_nil)
        (pss_one (ps_set (i := 2) scHours.nd rfl (Or.inl rfl) (pe_ix ix_tup (pv 3) pe_int (fun _ _ => rfl)))))))
      (pss_one (ps_ret (pe_callTy call_tuple_of (by rfl) ht (by decide +kernel) (pa_cons (pe_lc (own := [("pair", 3)]) (g := gName 3) (tt := tYes) rfl scHours.nd (pi_tup (pv 0)) (blkOk_by (N := nHours) (sc := defScope sHours) (by decide +kernel)) (fun _ _ _ _ _ => pg_name (i := 3) scHours.nd rfl (Or.inl rfl)) (fun _ _ _ _ _ => pts_nil)
          (fun _ _ _ _ _ => pe_callTy (r := rTupOf K) call_tuple_of (by rfl) ht (by decide +kernel) (pa_cons (pv 3) pa_nil))) pa_nil))))))), ?_⟩
    cases hs with
    | none =>
      obtain rfl : hv = .non := g
      refine ⟨_, rfl, _, rfl, ?_⟩
      exact iteT (k H .non (Grew.refl hP) rfl)
    | some ps =>
      obtain ⟨l, xs, rfl, hS, hG⟩ := g
      obtain ⟨ok4, okc⟩ := ok
      have hlen := Paired.len hG
      refine ⟨_, rfl, _, rfl, ?_⟩
      refine iteF ?_
      refine ⟨_, rfl, l, _, rfl, .inr hS, _, _, rfl, rfl, _, rfl, if_f (decide_eq_false (by omega)) ?_⟩
      refine ⟨1, rfl, ?_⟩
      refine ⟨_, rfl, l, rfl, ⟨_, hS⟩, for_tup (K := K) (a := l) (xs := xs) (fun i σ H' => H' = H ∧ ∃ v, σ = [some (.ref l), some (.int d), some (.int (lastOf (-1) ps i)), v])
        ⟨rfl, none, rfl⟩ (fun i σ H' _ ⟨e, _⟩ => by rw [e]; exact hS) ?_ ?_⟩
      · rintro i y σ H' hi ⟨rfl, v, rfl⟩
        obtain ⟨p, hp, t, rfl, hT⟩ := Paired.at hG hi
        obtain ⟨o1, o2, o3⟩ := hoursOk_at okc hp
        have e0 : atI [V.int p.1, V.int p.2] 0 = some (.int p.1) := rfl
        have e1 : atI [V.int p.1, V.int p.2] 1 = some (.int p.2) := rfl
        refine ⟨_, rfl, t, _, rfl, .inr hT, rfl, _, rfl, if_f (by rfl) ?_⟩
        refine ⟨_, rfl, _, rfl, t, _, 0, _, rfl, rfl, hT, e0, _, _, rfl, rfl, _, rfl, if_t (decide_eq_true o1) ⟨_, rfl, t, _, 1, _, rfl, rfl, hT, e1, _, _, rfl, rfl, _, rfl, if_t (decide_eq_true o2) ⟨_, rfl, _, _, rfl, rfl, _, rfl, ?_⟩⟩⟩
        rw [decide_eq_true o3]
        refine iteF ⟨_, rfl, t, _, 1, _, rfl, rfl, hT, e1, rfl, some (.ref t), ?_⟩
        rw [lastOf_succ hp]
        rfl
      · rintro σ H' ⟨rfl, v, rfl⟩
        refine ⟨_, rfl, l, rfl, ⟨_, hS⟩, fun D nD => lc_tup (K := K) (a := l) (xs := xs) (fun i H1 => Grew P H' H1 ∧ H1 D = some (.lst (xs.take i)))
          ⟨Grew.new hP nD, upd_same⟩ (fun i H1 _ p => p.1.sqT hP hS) (fun i x H1 hx p => ?_) (fun H1 p => ?_)⟩
        · obtain ⟨g, hD⟩ := p
          obtain ⟨p, hp, t, rfl, hT⟩ := Paired.at hG hx
          refine ⟨rfl, _, rfl, t, _, rfl, .inr ⟨g.sqT hP hT, _, hD, ?_, g.write hD (fun _ z => by cases z) nD, ?_⟩⟩
          · rw [List.length_take, sizeLine_eq]; omega
          · rw [upd_same, List.take_succ, hx]; rfl
        · obtain ⟨g, hD⟩ := p
          rw [List.take_length] at hD
          refine ⟨D, _, rfl, .inl ⟨SqL.of hD, fun q nq => ?_⟩⟩
          have gq := g.put (o := .tup xs) nq
          exact k _ _ gq ⟨q, xs, rfl, SqT.of upd_same, Paired.map' hG fun a b m => m.keep (KeepT.grew gq hP)⟩
end
end W

set_option Elab.async false
set_option linter.all false
set_option maxRecDepth 100000
set_option maxHeartbeats 400000
namespace W
open PySem PySem.Spec PyProof.Rows L2 GxR MyG MyS
/-! ### _checked_names, _checked_road -/
def spNames (K : PySem.W.Frag) (P : Addr) : Sp := fun vs H Q _ => ∃ (a : Addr) (ns : List Str) (lo hi : Int), vs = [.ref a, .int lo, .int hi] ∧ SqL K H a (ns.map V.str) ∧ lo ≤ ns.length ∧ (ns.length : Int) ≤ hi ∧ ns.length ≤ 1000 ∧ ns.all isNm = true ∧ ns.Nodup ∧ TabG H P ∧
  ∀ H' p ys, Grew P H H' → H p = none → H' p = some (.tup (ys.map V.str)) → ys.Perm ns → Asc ys → Q (.ref p) H'
section
variable {Pg : Program} {w : World} {K : PySem.W.Frag} {mg : Str → Option Value} {base : Heap} {C P : Addr}
theorem scNames : FnScope ["names", "least", "most", "name"] ["names", "least", "most"] (defScope sNames) := ⟨rfl, rfl, rfl, by decide +kernel, rfl, by decide +kernel, by decide +kernel⟩
theorem ok_names {f fN fD : Addr} {fd fdN fdD : FuncData} (F : Fun K "_checked_names" "_checked_names" sNames f fd) (hl : mg "len" = none) (ht : mg "tuple" = none) (hs : mg "sorted" = none)
    (GN : FnOk Pg w K mg base CX0 2 fN fdN ["text"] (spIsName P)) (gN : mg "is_name" = some (.ref fN)) (kN : PySem.W.keepIn K (.ref fN) = true) (bN : Binds K fdN ["text"] [])
    (GD : FnOk Pg w K mg base CX0 1 fD fdD ["parts"] (spDiff K)) (gD : mg "_check_different" = some (.ref fD)) (kD : PySem.W.keepIn K (.ref fD) = true) (bD : Binds K fdD ["parts"] []) :
    FnOk Pg w K mg base CX0 3 f fd ["names", "least", "most"] (spNames K P) := by
  refine F.ok scNames (fun vs H Q E h => ?_) (fun cdv A outer s H vs Q E hr h => ?_)
  · obtain ⟨a, ns, lo, hi, rfl, _⟩ := h
    rfl
  · obtain ⟨a, ns, lo, hi, rfl, hS, hlo, hhi, h1, hz, nd, hP, kQ⟩ := h
    have hr1 : Room 1 _ := hr.mono (by decide)
    refine ⟨_, pss_cons (ps_if (pt_not (pt_chain op_le op_le (pv 1) (pe_callB call_len_seq (by rfl) hl PySem.boot_len (pa_cons (pv 0) pa_nil)) (pv 2))) (pss_one ps_never) pss_nil)
      (pss_cons (ps_for PassesOwn.never rfl (pi_list (pv 0)) (pg_name (i := 3) scNames.nd rfl (Or.inl rfl))
        (pss_one (ps_if (pt_not (pt_val (pe_call GN hr (by rfl) gN kN bN .nil pass0 (pa_cons (pv 3) pa_nil)))) (pss_one ps_never) pss_nil)))
      (pss_cons (ps_expr (pe_call GD hr1 (by rfl) gD kD bD .nil pass0 (pa_cons (pv 0) pa_nil)))
      (pss_one (ps_ret (pe_callTy call_tuple_of (by rfl) ht (by decide +kernel) (pa_cons (pe_callB cr_sortSQ (by rfl) hs (by decide +kernel) (pa_cons (pv 0) pa_nil)) pa_nil)))))), ?_⟩
    refine ⟨_, rfl, _, rfl, a, _, rfl, .inl hS, _, _, rfl, rfl, _, rfl, ?_⟩
    rw [List.length_map]
    refine if_t (decide_eq_true hlo) ⟨_, rfl, _, _, rfl, rfl, _, rfl, ?_⟩
    rw [decide_eq_true hhi]
    refine iteF ⟨_, rfl, a, rfl, ⟨_, hS⟩, for_list (K := K) (a := a) (xs := ns.map V.str) (fun i σ H' => ∃ v, σ = [some (.ref a), some (.int lo), some (.int hi), v] ∧ Grew P H H')
      ⟨none, rfl, Grew.refl hP⟩ (fun i σ H' _ ⟨_, _, g⟩ => g.sqL hP hS) ?_ ?_⟩
    · rintro i y σ H' hi ⟨v, rfl, g⟩
      obtain ⟨z, hzi, rfl⟩ : ∃ z, ns[i]? = some z ∧ y = V.str z := by
        rw [List.getElem?_map] at hi
        obtain ⟨z, e1, e2⟩ := Option.map_eq_some_iff.mp hi
        exact ⟨z, e1, e2.symm⟩
      have hn : isNm z = true := List.all_eq_true.mp hz z (List.mem_of_getElem? hzi)
      have hzl := isNm_len hn
      refine ⟨_, rfl, z, rfl, by rw [sizeLine_eq]; omega, g.tab, fun H2 t2 => ⟨_, rfl, ?_⟩⟩
      have g2 := g.trans (Grew.of t2)
      rw [hn]
      exact iteF ⟨_, rfl, g2⟩
    · rintro σ H' ⟨v, rfl, g⟩
      refine ⟨_, rfl, a, rfl, .inl ⟨ns, .inl (g.sqL hP hS), h1, nd⟩, ?_⟩
      refine ⟨_, rfl, a, ns, rfl, .inl (g.sqL hP hS), fun ys l hp hso hl => ⟨l, _, rfl, .inl ⟨SqL.of upd_same, fun p hp2 => ?_⟩⟩⟩
      have gl := g.put (o := .lst (ys.map V.str)) hl
      exact kQ _ p ys (gl.put hp2) (gl.free hp2) upd_same hp hso
/-- the road leads from place to place, for kinds of the map -/
structure RoadOk (d : Int) (ps ks : List Str) (r : RoadD) : Prop where
  s : r.start ∈ ps
  g : r.goal ∈ ps
  m1 : 1 ≤ r.minutes
  m2 : r.minutes ≤ 1000
  u : ∀ k ∈ r.users, k ∈ ks
  un : r.users.length ≤ 4
  ud : r.users.Nodup
  h : HoursOk d r.hours
/-- the road as the map keeps it -/
def Kept (r r' : RoadD) : Prop := r'.name = r.name ∧ r'.start = r.start ∧ r'.goal = r.goal ∧ r'.minutes = r.minutes ∧ r'.hours = r.hours ∧ r'.users.Perm r.users ∧ Asc r'.users
def spRoad (K : PySem.W.Frag) (P : Addr) : Sp := fun vs H Q _ => ∃ (x : V) (pl ki : Addr) (d : Int) (ps ks : List Str) (r : RoadD), vs = [x, .int d, .ref pl, .ref ki] ∧ GRoad K H r x ∧ SqT K H pl (ps.map V.str) ∧ SqT K H ki (ks.map V.str) ∧ RoadOk d ps ks r ∧ TabG H P ∧
  ∀ H' p q h r', Grew P H H' → Kept r r' → H p = none → H' p = some (.tup [.str r'.name, .str r'.start, .str r'.goal, .int r'.minutes, .ref q, h]) → H' q = some (.tup (r'.users.map V.str)) → GHours K H' r'.hours h → Q (.ref p) H'
theorem scRoad : FnScope ["road", "day", "places", "kinds", "name", "start", "end", "minutes", "users", "hours", "kind"] ["road", "day", "places", "kinds"] (defScope sRoad) := ⟨rfl, rfl, rfl, by decide +kernel, rfl, by decide +kernel, by decide +kernel⟩
theorem inV_str {x : Str} {xs : List Str} (h : x ∈ xs) : inV (.str x) (xs.map V.str) = true := by
  unfold inV
  rw [List.any_map, List.any_eq_true]
  exact ⟨x, h, by simp [eqV]⟩
theorem flat_strs (xs : List Str) : (xs.map V.str).all flatV = true := by
  rw [List.all_map]
  exact List.all_eq_true.mpr fun _ _ => rfl
theorem ok_road {f fH fD : Addr} {fd fdH fdD : FuncData} {t1 : Tok} (F : Fun K "_checked_road" "_checked_road" sRoad f fd) (ht : mg "tuple" = none) (hs : mg "sorted" = none) (hm : mg "MOST_MINUTES" = some (.int 1000 t1))
    (GD : FnOk Pg w K mg base CX0 1 fD fdD ["parts"] (spDiff K)) (gD : mg "_check_different" = some (.ref fD)) (kD : PySem.W.keepIn K (.ref fD) = true) (bD : Binds K fdD ["parts"] [])
    (GH : FnOk Pg w K mg base CX0 1 fH fdH ["hours", "day"] (spHours K P)) (gH : mg "_checked_hours" = some (.ref fH)) (kH : PySem.W.keepIn K (.ref fH) = true) (bH : Binds K fdH ["hours", "day"] []) :
    FnOk Pg w K mg base CX0 2 f fd ["road", "day", "places", "kinds"] (spRoad K P) := by
  refine F.ok scRoad (fun vs H Q E h => ?_) (fun cdv A outer s H vs Q E hr h => ?_)
  · obtain ⟨x, pl, ki, d, ps, ks, r, rfl, _⟩ := h
    rfl
  · obtain ⟨x, pl, ki, d, ps, ks, r, rfl, ⟨t, u, h, rfl, hT, hU, hH⟩, hPl, hKi, ok, hP, k⟩ := h
    refine ⟨_, pss_cons (ps_asg (pv 0) (pg_tup (by rfl) (pgs_cons (pg_name (i := 4) scRoad.nd rfl (.inl rfl)) (pgs_cons (pg_name (i := 5) scRoad.nd rfl (.inl rfl)) (pgs_cons (pg_name (i := 6) scRoad.nd rfl (.inl rfl))
        (pgs_cons (pg_name (i := 7) scRoad.nd rfl (.inl rfl)) (pgs_cons (pg_name (i := 8) scRoad.nd rfl (.inl rfl)) (pgs_cons (pg_name (i := 9) scRoad.nd rfl (.inl rfl)) pgs_nil))))))))
      (pss_cons (ps_if (PW.pt (pw_or (pt_cmpR op_notIn_seq (pv 5) (pv 2) (by rfl)) (pw_or1 (pt_cmpR op_notIn_seq (pv 6) (pv 2) (by rfl))))) (pss_one ps_never) pss_nil)
      (pss_cons (ps_if (pt_not (pt_chain op_le op_le pe_int (pv 7) (pe_gI hm))) (pss_one ps_never) pss_nil)
      (pss_cons (ps_for PassesOwn.never rfl (pi_tup (pv 8)) (pg_name (i := 10) scRoad.nd rfl (Or.inl rfl)) (pss_one (ps_if (pt_cmpR op_notIn_seq (pv 10) (pv 3) (by rfl)) (pss_one ps_never) pss_nil)))
      (pss_cons (ps_expr (pe_call GD hr (by rfl) gD kD bD .nil pass0 (pa_cons (pv 8) pa_nil)))
      (pss_one (ps_ret (pe_tup (pa_cons (pv 4) (pa_cons (pv 5) (pa_cons (pv 6) (pa_cons (pv 7) (pa_cons (pe_callTy call_tuple_of (by rfl) ht (by decide +kernel) (pa_cons (pe_callB cr_sortSQ (by rfl) hs (by decide +kernel) (pa_cons (pv 8) pa_nil)) pa_nil))
        (pa_cons (pe_call GH hr (by rfl) gH kH bH .nil pass0 (pa_cons (pv 9) (pa_cons (pv 1) pa_nil))) pa_nil))))))))))))), ?_⟩
    refine ⟨_, rfl, t, _, rfl, hT, rfl, _, _, rfl, _, _, rfl, _, _, rfl, _, _, rfl, _, _, rfl, _, _, rfl, rfl, ?_⟩
    have i1 := inV_str ok.s
    have i2 := inV_str ok.g
    refine ⟨_, rfl, _, rfl, pl, _, rfl, .inr hPl, rfl, flat_strs _, _, rfl, ?_⟩
    refine if_f (by simp [i1]) ?_
    refine ⟨_, rfl, _, rfl, pl, _, rfl, .inr hPl, rfl, flat_strs _, _, rfl, ?_⟩
    refine if_f (by simp [i2]) ?_
    refine ⟨_, rfl, _, _, rfl, rfl, _, rfl, if_t (decide_eq_true ok.m1) ⟨_, _, rfl, rfl, _, rfl, ?_⟩⟩
    rw [decide_eq_true ok.m2]
    refine iteF ?_
    refine ⟨_, rfl, u, rfl, ⟨_, hU⟩, for_tup (K := K) (a := u) (xs := r.users.map V.str) (fun i σ H' => H' = H ∧ ∃ v, σ = [some (.ref t), some (.int d), some (.ref pl), some (.ref ki), some (.str r.name), some (.str r.start), some (.str r.goal), some (.int r.minutes), some (.ref u), some h, v])
      ⟨rfl, none, rfl⟩ (fun i σ H' _ ⟨e, _⟩ => by rw [e]; exact hU) ?_ ?_⟩
    · rintro i y σ H' hi ⟨rfl, v, rfl⟩
      obtain ⟨z, hzi, rfl⟩ : ∃ z, r.users[i]? = some z ∧ y = V.str z := by
        rw [List.getElem?_map] at hi
        obtain ⟨z, e1, e2⟩ := Option.map_eq_some_iff.mp hi
        exact ⟨z, e1, e2.symm⟩
      have i3 := inV_str (ok.u z (List.mem_of_getElem? hzi))
      refine ⟨_, rfl, _, rfl, ki, _, rfl, .inr hKi, rfl, flat_strs _, _, rfl, ?_⟩
      refine if_f (by simp [i3]) ⟨rfl, _, rfl⟩
    · rintro σ H' ⟨rfl, v, rfl⟩
      have un := ok.un
      refine ⟨_, rfl, u, rfl, .inl ⟨r.users, .inr hU, by omega, ok.ud⟩, ?_⟩
      refine ⟨_, rfl, _, rfl, _, rfl, _, rfl, _, rfl, u, r.users, rfl, .inr hU, fun ys l hp hso hl => ⟨l, _, rfl, .inl ⟨SqL.of upd_same, fun q hq => ?_⟩⟩⟩
      have gl := Grew.new hP (o := .lst (ys.map V.str)) hl
      have gq := gl.put (o := .tup (ys.map V.str)) hq
      refine ⟨_, rfl, _, rfl, d, r.hours, h, rfl, hH.keep (KeepT.grew gq hP), ok.h, gq.tab, fun H2 v' g2 hv => ⟨by show 6 ≤ sizeLine; decide, fun p hp2 => ?_⟩⟩
      have g3 := gq.trans g2
      have gp := g3.put (o := .tup [.str r.name, .str r.start, .str r.goal, .int r.minutes, .ref q, v']) hp2
      have e2 : H2 q = some (.tup (ys.map V.str)) := g2.tup gq.tab upd_same
      exact k _ p q v' { r with users := ys } gp ⟨rfl, rfl, rfl, rfl, rfl, hp, hso⟩ (g3.free hp2) upd_same (by rw [upd_ne (ne_of_none e2 hp2)]; exact e2) (hv.keep (KeepT.new hp2))
end
end W

set_option Elab.async false
set_option linter.all false
set_option maxRecDepth 100000
set_option maxHeartbeats 400000
namespace W
open PySem PySem.Spec PyProof.Rows L2 GxR MyG MyS
/-! ### _checked_roads -/
/-- a road that was made here: its own tuples stand tracked, none was there at H0 -/
def MadeR (K : PySem.W.Frag) (H0 H : Hp) (r : RoadD) (v : V) : Prop := ∃ r' p q h, v = .ref p ∧ H0 p = none ∧ Kept r r' ∧ H p = some (.tup [.str r'.name, .str r'.start, .str r'.goal, .int r'.minutes, .ref q, h]) ∧ H q = some (.tup (r'.users.map V.str)) ∧ GHours K H r'.hours h
/-- the road v at H -/
def RoadAt (K : PySem.W.Frag) (H : Hp) (r : RoadD) (v : V) : Prop := ∃ p q h, v = .ref p ∧ H p = some (.tup [.str r.name, .str r.start, .str r.goal, .int r.minutes, .ref q, h]) ∧ H q = some (.tup (r.users.map V.str)) ∧ GHours K H r.hours h
theorem RoadAt.grew {K : PySem.W.Frag} {P : Addr} {H H' : Hp} {r : RoadD} {v : V} (g : Grew P H H') (h : TabG H P) (m : RoadAt K H r v) : RoadAt K H' r v := by
  obtain ⟨p, q, hv, e, e1, e2, e3⟩ := m
  exact ⟨p, q, hv, e, g.tup h e1, g.tup h e2, e3.keep (KeepT.grew g h)⟩
theorem RoadAt.upd {K : PySem.W.Frag} {H : Hp} {D : Addr} {o : HO} {r : RoadD} {v : V} (nt : ∀ xs, H D ≠ some (.tup xs)) (kt : KeepT K H (L2.upd H D o)) (m : RoadAt K H r v) : RoadAt K (L2.upd H D o) r v := by
  obtain ⟨p, q, hv, e, e1, e2, e3⟩ := m
  exact ⟨p, q, hv, e, by rw [upd_ne (fun z => nt _ (z ▸ e1))]; exact e1, by rw [upd_ne (fun z => nt _ (z ▸ e2))]; exact e2, e3.keep kt⟩
theorem RoadAt.road {K : PySem.W.Frag} {H : Hp} {r : RoadD} {v : V} (m : RoadAt K H r v) : GRoad K H r v := by
  obtain ⟨p, q, hv, e, e1, e2, e3⟩ := m
  exact ⟨p, q, hv, e, SqT.of e1, SqT.of e2, e3⟩
theorem ex_list {α β : Type} {F : α → β → Prop} : ∀ (l : List α), (∀ a ∈ l, ∃ b, F a b) → ∃ m, Paired F l m
  | [], _ => ⟨[], .nil⟩
  | a :: l, h => by
    obtain ⟨b, hb⟩ := h a List.mem_cons_self
    obtain ⟨m, hm⟩ := ex_list l fun a ha => h a (List.mem_cons_of_mem _ ha)
    exact ⟨b :: m, .cons hb hm⟩
theorem Paired.mem {α β : Type} {F : α → β → Prop} : ∀ {l : List α} {m : List β} {b : β}, Paired F l m → b ∈ m → ∃ a ∈ l, F a b
  | _, _, _, .cons r t, h => by
    rcases List.mem_cons.mp h with e | h
    · exact ⟨_, List.mem_cons_self, e ▸ r⟩
    · obtain ⟨a, ha, f⟩ := Paired.mem t h
      exact ⟨a, List.mem_cons_of_mem _ ha, f⟩
theorem Paired.mem' {α β : Type} {F : α → β → Prop} : ∀ {l : List α} {m : List β} {a : α}, Paired F l m → a ∈ l → ∃ b ∈ m, F a b
  | _, _, _, .cons r t, h => by
    rcases List.mem_cons.mp h with e | h
    · exact ⟨_, List.mem_cons_self, e ▸ r⟩
    · obtain ⟨a, ha, f⟩ := Paired.mem' t h
      exact ⟨a, List.mem_cons_of_mem _ ha, f⟩
theorem Paired.comp {α β γ : Type} {F : α → β → Prop} {G : β → γ → Prop} {E : α → γ → Prop} (h : ∀ a b c, F a b → G b c → E a c) : ∀ {l : List α} {m : List β} {n : List γ}, Paired F l m → Paired G m n → Paired E l n
  | _, _, _, .nil, .nil => .nil
  | _, _, _, .cons r t, .cons r' t' => .cons (h _ _ _ r r') (Paired.comp h t t')
/-- the values in another order: the things behind them too -/
theorem Paired.perm {α β : Type} {F : α → β → Prop} {m m' : List β} (p : m'.Perm m) : ∀ {l : List α}, Paired F l m → ∃ l' : List α, l'.Perm l ∧ Paired F l' m' := by
  induction p with
  | nil => exact fun h => ⟨_, List.Perm.refl _, h⟩
  | cons x p ih =>
    intro l h
    cases h with
    | cons r t =>
      obtain ⟨l', q1, q2⟩ := ih t
      exact ⟨_ :: l', q1.cons _, .cons r q2⟩
  | swap x y l0 =>
    intro l h
    cases h with
    | cons r t =>
      cases t with
      | cons r2 t => exact ⟨_ :: _ :: _, List.Perm.swap .., .cons r2 (.cons r t)⟩
  | trans p q ih1 ih2 =>
    intro l h
    obtain ⟨l1, a1, a2⟩ := ih2 h
    obtain ⟨l2, b1, b2⟩ := ih1 a2
    exact ⟨l2, b1.trans a1, b2⟩
theorem Paired.pair {α β : Type} {F : α → β → Prop} {R : β → β → Prop} {S : α → α → Prop} (h : ∀ a b x y, F a x → F b y → R x y → S a b) : ∀ {l : List α} {m : List β}, Paired F l m → m.Pairwise R → l.Pairwise S
  | _, _, .nil, _ => List.Pairwise.nil
  | _, _, .cons r t, p => by
    have q := List.pairwise_cons.mp p
    refine List.pairwise_cons.mpr ⟨fun a ha => ?_, Paired.pair h t q.2⟩
    obtain ⟨b, hb, f⟩ := Paired.mem' t ha
    exact h _ _ _ _ r f (q.1 b hb)
theorem Paired.inj {α β γ : Type} {F : α → β → Prop} {f : α → γ} {l : List α} {m : List β} (h : Paired F l m) (nd : (l.map f).Nodup) {x y : β} (hx : x ∈ m) (hy : y ∈ m) (hxy : ∀ a b, F a x → F b y → f a = f b) : x = y := by
  obtain ⟨i, hi, ei⟩ := List.getElem_of_mem hx
  obtain ⟨j, hj, ej⟩ := List.getElem_of_mem hy
  obtain ⟨a, ha, fa⟩ := Paired.at h (List.getElem?_eq_some_iff.mpr ⟨hi, ei⟩)
  obtain ⟨b, hb, fb⟩ := Paired.at h (List.getElem?_eq_some_iff.mpr ⟨hj, ej⟩)
  have e := hxy a b fa fb
  obtain ⟨hi', ea⟩ := List.getElem?_eq_some_iff.mp ha
  obtain ⟨hj', eb⟩ := List.getElem?_eq_some_iff.mp hb
  have ij : i = j := by
    rcases Nat.lt_trichotomy i j with c | c | c
    · exact absurd (by rw [List.getElem_map, List.getElem_map, ea, eb]; exact e) (List.pairwise_iff_getElem.mp nd i j (by rw [List.length_map]; exact hi') (by rw [List.length_map]; exact hj') c)
    · exact c
    · exact absurd (by rw [List.getElem_map, List.getElem_map, ea, eb]; exact e.symm) (List.pairwise_iff_getElem.mp nd j i (by rw [List.length_map]; exact hj') (by rw [List.length_map]; exact hi') c)
  subst ij
  exact ei.symm.trans ej
theorem kept_names : ∀ {rs ms : List RoadD}, Paired Kept rs ms → ms.map (·.name) = rs.map (·.name)
  | _, _, .nil => rfl
  | _, _, .cons r t => by
    rw [List.map_cons, List.map_cons, kept_names t, r.1]
/-- the name of a road's tuple -/
def nameAt (H : Hp) : V → Str
  | .ref t => match H t with
    | some (.tup (.str n :: _)) => n
    | _ => Str.empty
  | _ => Str.empty
theorem RoadAt.name {K : PySem.W.Frag} {H : Hp} {r : RoadD} {v : V} (m : RoadAt K H r v) : nameAt H v = r.name := by
  obtain ⟨p, q, hv, e, e1, _⟩ := m
  subst e
  unfold nameAt
  simp only [e1]
/-- the roads as the map keeps them: the same ones, each as it is kept, by their names -/
def KeptAll (rs rs' : List RoadD) : Prop := ∃ l, l.Perm rs' ∧ Paired Kept rs l
def AscR (rs : List RoadD) : Prop := rs.Pairwise fun a b => slt b.name a.name = false
structure RoadsOk (d : Int) (ps ks : List Str) (rs : List RoadD) : Prop where
  len : rs.length ≤ 60
  nm : (rs.map (·.name)).all isNm = true
  nd : (rs.map (·.name)).Nodup
  ok : ∀ r ∈ rs, RoadOk d ps ks r
def spRoads (K : PySem.W.Frag) (P : Addr) : Sp := fun vs H Q _ => ∃ (a pl ki : Addr) (d : Int) (ps ks : List Str) (rs : List RoadD) (xs : List V), vs = [.ref a, .int d, .ref pl, .ref ki] ∧ SqL K H a xs ∧ Paired (GRoad K H) rs xs ∧ SqT K H pl (ps.map V.str) ∧ SqT K H ki (ks.map V.str) ∧ RoadsOk d ps ks rs ∧ TabG H P ∧
  ∀ H' p rs' ys, Grew P H H' → KeptAll rs rs' → AscR rs' → H p = none → H' p = some (.tup ys) → Paired (RoadAt K H') rs' ys → Q (.ref p) H'
section
variable {Pg : Program} {w : World} {K : PySem.W.Frag} {mg : Str → Option Value} {base : Heap} {C P : Addr}
abbrev nRoads : List Str := ["roads", "day", "places", "kinds", "road", "kept"]
theorem scRoads : FnScope nRoads ["roads", "day", "places", "kinds"] (defScope sRoads) := ⟨rfl, rfl, rfl, by decide +kernel, rfl, by decide +kernel, by decide +kernel⟩
theorem ok_roads {f fN fR : Addr} {fd fdN fdR : FuncData} {t1 t2 t3 : Tok} (F : Fun K "_checked_roads" "_checked_roads" sRoads f fd) (hl : mg "len" = none) (ht : mg "tuple" = none) (hs : mg "sorted" = none)
    (hp : mg "PARTS" = some (.int 6 t1)) (hn : mg "NAME" = some (.int 0 t2)) (hm : mg "MOST_ROADS" = some (.int 60 t3))
    (GN : FnOk Pg w K mg base CX0 3 fN fdN ["names", "least", "most"] (spNames K P)) (gN : mg "_checked_names" = some (.ref fN)) (kN : PySem.W.keepIn K (.ref fN) = true) (bN : Binds K fdN ["names", "least", "most"] [])
    (GR : FnOk Pg w K mg base CX0 2 fR fdR ["road", "day", "places", "kinds"] (spRoad K P)) (gR : mg "_checked_road" = some (.ref fR)) (kR : PySem.W.keepIn K (.ref fR) = true) (bR : Binds K fdR ["road", "day", "places", "kinds"] []) :
    FnOk Pg w K mg base CX0 4 f fd ["roads", "day", "places", "kinds"] (spRoads K P) := by
  refine F.ok scRoads (fun vs H Q E h => ?_) (fun cdv A outer s H vs Q E hr h => ?_)
  · obtain ⟨a, pl, ki, d, ps, ks, rs, xs, rfl, _⟩ := h
    rfl
  · obtain ⟨a, pl, ki, d, ps, ks, rs, xs, rfl, hS, hG, hPl, hKi, ok, hP, k⟩ := h
    have hr2 : Room 2 _ := hr.mono (by decide)
    refine ⟨_, pss_cons (ps_for PassesOwn.never rfl (pi_list (pv 0)) (pg_name (i := 4) scRoads.nd rfl (Or.inl rfl)) (pss_one (ps_if (pt_cmpR op_ne (pe_callB call_len_seq (by rfl) hl PySem.boot_len (pa_cons (pv 4) pa_nil)) (pe_gI hp) (nomark _)) (pss_one ps_never) pss_nil)))
      (pss_cons (ps_expr (pe_call GN hr (by rfl) gN kN bN .nil pass0 (pa_cons (pe_lc (own := [("road", 4)]) (g := gName 4) (tt := tYes) rfl scRoads.nd (pi_list (pv 0)) (blkOk_by (N := nRoads) (sc := defScope sRoads) (by decide +kernel)) (fun _ _ _ _ _ => pg_name (i := 4) scRoads.nd rfl (Or.inl rfl)) (fun _ _ _ _ _ => pts_nil)
          (fun _ _ _ _ _ => pe_ix (r := rIxT K) ix_tup (pv 4) (pe_gI hn) (fun _ _ => rfl))) (pa_cons pe_int (pa_cons (pe_gI hm) pa_nil)))))
      (pss_cons (ps_setLc (i := 5) (own := [("road", 4)]) (g := gName 4) (tt := tYes) rfl scRoads.nd rfl rfl (sw_true rfl rfl rfl (by decide +kernel)) (pi_list (pv 0)) (blkOk_by (N := nRoads) (sc := defScope sRoads) (by decide +kernel)) (fun _ _ _ _ _ => pg_name (i := 4) scRoads.nd rfl (Or.inl rfl)) (fun _ _ _ _ _ => pts_nil)
          (fun _ _ _ _ _ => pe_call GR hr2 (by rfl) gR kR bR .nil pass0 (pa_cons (pv 4) (pa_cons (pv 1) (pa_cons (pv 2) (pa_cons (pv 3) pa_nil))))))
      (pss_one (ps_ret (pe_callTy call_tuple_of (by rfl) ht (by decide +kernel) (pa_cons (pe_callB cr_sortR (by rfl) hs (by decide +kernel) (pa_cons (pv 5) pa_nil)) pa_nil)))))), ?_⟩
    have hln : rs.length = xs.length := Paired.len hG
    have hl60 := ok.len
    refine ⟨_, rfl, a, rfl, ⟨_, hS⟩, for_list (K := K) (a := a) (xs := xs) (fun i σ H' => H' = H ∧ ∃ v, σ = [some (.ref a), some (.int d), some (.ref pl), some (.ref ki), v, none])
      ⟨rfl, none, rfl⟩ (fun i σ H' _ ⟨e, _⟩ => by rw [e]; exact hS) ?_ ?_⟩
    · rintro i y σ H' hi ⟨rfl, v, rfl⟩
      obtain ⟨r, hr, t, u, h, rfl, hT, _⟩ := Paired.at hG hi
      refine ⟨_, rfl, t, _, rfl, .inr hT, rfl, _, rfl, ?_⟩
      exact if_f (by rfl) ⟨rfl, _, rfl⟩
    · rintro σ H' ⟨rfl, v, rfl⟩
      refine ⟨_, rfl, a, rfl, ⟨_, hS⟩, fun D nD => lc_list (K := K) (a := a) (xs := xs) (fun i H1 => Grew P H' H1 ∧ H1 D = some (.lst (((rs.map (·.name)).take i).map V.str)))
        ⟨Grew.new hP nD, upd_same⟩ (fun i H1 _ p => p.1.sqL hP hS) (fun i x H1 hx p => ?_) (fun H1 p => ?_)⟩
      · obtain ⟨g, hD⟩ := p
        obtain ⟨r, hr, t, u, h, rfl, hT, _⟩ := Paired.at hG hx
        refine ⟨rfl, _, rfl, t, _, 0, .str r.name, rfl, rfl, g.sqT hP hT, rfl, _, hD, ?_, ?_, ?_⟩
        · rw [List.length_map, List.length_take, List.length_map, sizeLine_eq]
          omega
        · exact g.write hD (fun _ z => by cases z) nD
        · rw [upd_same, List.take_succ, List.getElem?_map, hr, List.map_append]
          rfl
      · obtain ⟨g, hD⟩ := p
        rw [← hln, ← List.length_map (f := (·.name)), List.take_length] at hD
        refine ⟨D, rs.map (·.name), 0, 60, rfl, SqL.of hD, by omega, by rw [List.length_map]; omega, by rw [List.length_map]; omega, ok.nm, ok.nd, g.tab, fun H2 p2 ys2 g2 np e2 _ _ => ?_⟩
        have g3 := g.trans g2
        refine ⟨_, rfl, a, rfl, ⟨_, g3.sqL hP hS⟩, fun D2 nD2 => lc_list (K := K) (a := a) (xs := xs) (fun i H1 => Grew P H' H1 ∧ ∃ acc ms, H1 D2 = some (.lst acc) ∧ Paired Kept (rs.take i) ms ∧ Paired (RoadAt K H1) ms acc)
          ⟨g3.put nD2, [], [], upd_same, .nil, .nil⟩ (fun i H1 _ p => p.1.sqL hP hS) (fun i x H1 hx p => ?_) (fun H1 p => ?_)⟩
        · obtain ⟨g4, acc, ms, hD4, hk4, hm4⟩ := p
          obtain ⟨r, hr, hgr⟩ := Paired.at hG hx
          have nD2' := g3.free nD2
          refine ⟨rfl, _, rfl, _, rfl, _, rfl, _, rfl, x, pl, ki, d, ps, ks, r, rfl, hgr.keep (KeepT.grew g4 hP), g4.sqT hP hPl, g4.sqT hP hKi, ok.ok r (List.mem_of_getElem? hr), g4.tab, fun H5 p5 q5 h5 r5 g5 kp n5 e5 f5 hh5 => ?_⟩
          have hD5 := g5.lst g4.tab hD4
          have g45 := g4.trans g5
          refine ⟨acc, hD5, ?_, g45.write hD5 (fun _ z => by cases z) nD2', acc ++ [.ref p5], ms ++ [r5], upd_same, ?_, ?_⟩
          · rw [← Paired.len hm4, ← Paired.len hk4, List.length_take, sizeLine_eq]
            omega
          · rw [List.take_succ, hr]
            exact Paired.snoc hk4 kp
          · have up : ∀ {r : RoadD} {v : V}, RoadAt K H5 r v → RoadAt K (L2.upd H5 D2 (.lst (acc ++ [.ref p5]))) r v := fun m => m.upd (fun xs z => by rw [hD5] at z; cases z) (KeepT.lst hD5)
            exact Paired.snoc (Paired.map' hm4 fun r v m => up (m.grew g5 g4.tab)) (up ⟨p5, q5, h5, rfl, e5, f5, hh5⟩)
        · obtain ⟨g4, acc, ms, hD4, hk4, hm4⟩ := p
          rw [← hln, List.take_length] at hk4
          have nd : (ms.map (·.name)).Nodup := by rw [kept_names hk4]; exact ok.nd
          refine ⟨_, rfl, D2, acc, nameAt H1, rfl, SqL.of hD4, fun x hx => ?_, fun x hx y hy e => Paired.inj hm4 nd hx hy fun r r' m m' => by rw [← m.name, ← m'.name]; exact e, fun ys l hpm hso hl => ⟨l, _, rfl, .inl ⟨SqL.of upd_same, fun p hp2 => ?_⟩⟩⟩
          · obtain ⟨r, _, m⟩ := Paired.mem hm4 hx
            have nm := m.name
            obtain ⟨p, q, hv, e, e1, _⟩ := m
            exact ⟨p, _, e, by rw [nm]; exact SqT.of e1⟩
          · obtain ⟨rs', pm, hr'⟩ := Paired.perm hpm hm4
            have gl := Grew.new g4.tab (o := .lst ys) hl
            have gp := gl.put (o := .tup ys) hp2
            exact k _ p rs' ys (g4.trans gp) ⟨ms, pm.symm, hk4⟩ (Paired.pair (fun a b x y m m' e => by rw [m.name, m'.name] at e; exact e) hr' hso) (g4.free (gl.free hp2)) upd_same (Paired.map' hr' fun _ _ m => m.grew gp g4.tab)
end
end W

set_option Elab.async false
set_option linter.all false
set_option maxRecDepth 100000
set_option maxHeartbeats 400000
namespace W
open PySem PySem.Spec PyProof.Rows L2 GxR MyG MyS
/-! ### _checked_bars -/
theorem u1 {n : Nat} (h : n + 64 < cLine) : n + 1 < cLine := by omega
def GBar (H : Hp) (b : Str × Str) (v : V) : Prop := ∃ t, v = .ref t ∧ H t = some (.tup [.str b.1, .str b.2])
theorem GBar.grew {P : Addr} {H H' : Hp} {b : Str × Str} {v : V} (g : Grew P H H') (h : TabG H P) (m : GBar H b v) : GBar H' b v := let ⟨t, e, q⟩ := m; ⟨t, e, g.tup h q⟩
theorem GBar.upd {H : Hp} {D : Addr} {o : HO} {b : Str × Str} {v : V} (nt : ∀ xs, H D ≠ some (.tup xs)) (m : GBar H b v) : GBar (L2.upd H D o) b v := by
  obtain ⟨t, e, q⟩ := m
  exact ⟨t, e, by rw [upd_ne (fun z => nt _ (z ▸ q))]; exact q⟩
/-- the pair of a bar's tuple -/
def barAt (H : Hp) : V → Str × Str
  | .ref t => match H t with
    | some (.tup [.str a, .str b]) => (a, b)
    | _ => (Str.empty, Str.empty)
  | _ => (Str.empty, Str.empty)
theorem GBar.at {H : Hp} {b : Str × Str} {v : V} (m : GBar H b v) : barAt H v = b := by
  obtain ⟨t, e, q⟩ := m
  subst e
  unfold barAt
  simp only [q]
theorem bars_keys {H : Hp} {K : PySem.W.Frag} : ∀ {bs : List (Str × Str)} {xs : List V}, Paired (GBar H) bs xs → ∃ ks : List (Addr × List Str), xs = ks.map (fun p => V.ref p.1) ∧ ks.map (·.2) = bs.map (fun b => [b.1, b.2]) ∧ ∀ p ∈ ks, SqT K H p.1 (p.2.map V.str)
  | _, _, .nil => ⟨[], rfl, rfl, fun _ h => by cases h⟩
  | _, _, .cons (a := b) ⟨t, e, q⟩ r => by
    obtain ⟨ks, e1, e2, e3⟩ := bars_keys (K := K) r
    refine ⟨(t, [b.1, b.2]) :: ks, by rw [e, e1]; rfl, by rw [List.map_cons, List.map_cons, e2], fun p hp => ?_⟩
    rcases List.mem_cons.mp hp with z | z
    · rw [z]; exact SqT.of q
    · exact e3 p z
theorem nodup_bars {bs : List (Str × Str)} (h : bs.Nodup) : (bs.map (fun b => [b.1, b.2])).Nodup :=
  List.pairwise_map.mpr (h.imp fun {a b} ne e => ne (Prod.ext (List.cons.inj e).1 (List.cons.inj (List.cons.inj e).2).1))
/-- the dict of the roads by their names -/
def DictR (K : PySem.W.Frag) (H : Hp) (d : Addr) (rs : List RoadD) : Prop := ∃ kvs, H d = some (.dK kvs) ∧ (∀ r ∈ rs, ∃ v, valV kvs (.inr r.name) = some v ∧ RoadAt K H r v) ∧ ∀ z, (∀ r ∈ rs, r.name ≠ z) → valV kvs (.inr z) = none
theorem DictR.grew {K : PySem.W.Frag} {P d : Addr} {H H' : Hp} {rs : List RoadD} (g : Grew P H H') (h : TabG H P) (m : DictR K H d rs) : DictR K H' d rs := by
  obtain ⟨kvs, e, m1, m2⟩ := m
  exact ⟨kvs, g.get h e (fun _ z => by cases z), fun r hr => let ⟨v, a, b⟩ := m1 r hr; ⟨v, a, b.grew g h⟩, m2⟩
structure BarsOk (rs : List RoadD) (bs : List (Str × Str)) : Prop where
  len : bs.length ≤ 40
  nd : bs.Nodup
  ok : ∀ b ∈ bs, ∃ r1 ∈ rs, ∃ r2 ∈ rs, b.1 = r1.name ∧ b.2 = r2.name ∧ r1.goal = r2.start
def AscB (bs : List (Str × Str)) : Prop := bs.Pairwise fun a b => slt2 b a = false
def spBars (K : PySem.W.Frag) (P : Addr) : Sp := fun vs H Q _ => ∃ (a d : Addr) (rs : List RoadD) (bs : List (Str × Str)) (xs : List V), vs = [.ref a, .ref d] ∧ SqL K H a xs ∧ Paired (GBar H) bs xs ∧ DictR K H d rs ∧ BarsOk rs bs ∧ TabG H P ∧
  ∀ H' p bs' ys, Grew P H H' → bs'.Perm bs → AscB bs' → H p = none → H' p = some (.tup ys) → Paired (GBar H') bs' ys → Q (.ref p) H'
section
variable {Pg : Program} {w : World} {K : PySem.W.Frag} {mg : Str → Option Value} {base : Heap} {C P : Addr}
abbrev nBars : List Str := ["bars", "roads_by_name", "bar", "first", "second", "kept"]
theorem scBars : FnScope nBars ["bars", "roads_by_name"] (defScope sBars) := ⟨rfl, rfl, rfl, by decide +kernel, rfl, by decide +kernel, by decide +kernel⟩
theorem ok_bars {f fD : Addr} {fd fdD : FuncData} {t1 t2 t3 : Tok} (F : Fun K "_checked_bars" "_checked_bars" sBars f fd) (hl : mg "len" = none) (ht : mg "tuple" = none) (hs : mg "sorted" = none)
    (hm : mg "MOST_BARS" = some (.int 40 t1)) (he : mg "END" = some (.int 2 t2)) (hst : mg "START" = some (.int 1 t3))
    (GD : FnOk Pg w K mg base CX0 1 fD fdD ["parts"] (spDiff K)) (gD : mg "_check_different" = some (.ref fD)) (kD : PySem.W.keepIn K (.ref fD) = true) (bD : Binds K fdD ["parts"] []) :
    FnOk Pg w K mg base CX0 2 f fd ["bars", "roads_by_name"] (spBars K P) := by
  refine F.ok scBars (fun vs H Q E h => ?_) (fun cdv A outer s H vs Q E hr h => ?_)
  · obtain ⟨a, d, rs, bs, xs, rfl, _⟩ := h
    rfl
  · obtain ⟨a, d, rs, bs, xs, rfl, hS, hG, hD, ok, hP, k⟩ := h
    refine ⟨_, pss_cons (ps_if (pt_cmpR op_gt (pe_callB call_len_seq (by rfl) hl PySem.boot_len (pa_cons (pv 0) pa_nil)) (pe_gI hm) (nomark _)) (pss_one ps_never) pss_nil)
      (pss_cons (ps_for PassesOwn.never rfl (pi_list (pv 0)) (pg_name (i := 2) scBars.nd rfl (Or.inl rfl))
        (pss_cons (ps_if (pt_cmpR op_ne (pe_callB call_len_seq (by rfl) hl PySem.boot_len (pa_cons (pv 2) pa_nil)) pe_int (nomark _)) (pss_one ps_never) pss_nil)
        (pss_cons (ps_asg (pv 2) (pg_tup (by rfl) (pgs_cons (pg_name (i := 3) scBars.nd rfl (.inl rfl)) (pgs_cons (pg_name (i := 4) scBars.nd rfl (.inl rfl)) pgs_nil))))
        (pss_cons (ps_if (PW.pt (pw_or (pt_cmp (pc_dnotin (u1 hr.units) (pv 3) (pv 1))) (pw_or1 (pt_cmp (pc_dnotin (u1 hr.units) (pv 4) (pv 1)))))) (pss_one ps_never) pss_nil)
        (pss_one (ps_if (pt_cmpR op_ne (pe_ix ix_tup (pe_dget (u1 hr.units) (pv 1) (pv 3) (fun _ _ => rfl)) (pe_gI he) (fun _ _ => rfl)) (pe_ix ix_tup (pe_dget (u1 hr.units) (pv 1) (pv 4) (fun _ _ => rfl)) (pe_gI hst) (fun _ _ => rfl)) (nomark _)) (pss_one ps_never) pss_nil))))))
      (pss_cons (ps_setLc (i := 5) (own := [("bar", 2)]) (g := gName 2) (tt := tYes) rfl scBars.nd rfl rfl (sw_true rfl rfl rfl (by decide +kernel)) (pi_list (pv 0)) (blkOk_by (N := nBars) (sc := defScope sBars) (by decide +kernel)) (fun _ _ _ _ _ => pg_name (i := 2) scBars.nd rfl (Or.inl rfl)) (fun _ _ _ _ _ => pts_nil)
          (fun _ _ _ _ _ => pe_callTy (r := rTupOf K) call_tuple_of (by rfl) ht (by decide +kernel) (pa_cons (pv 2) pa_nil)))
      (pss_cons (ps_expr (pe_call GD (hr.mono (by decide)) (by rfl) gD kD bD .nil pass0 (pa_cons (pv 5) pa_nil)))
      (pss_one (ps_ret (pe_callTy call_tuple_of (by rfl) ht (by decide +kernel) (pa_cons (pe_callB cr_sortB (by rfl) hs (by decide +kernel) (pa_cons (pv 5) pa_nil)) pa_nil))))))), ?_⟩
    have hln := Paired.len hG
    have hl40 := ok.len
    refine ⟨_, rfl, a, _, rfl, .inl hS, _, _, rfl, rfl, _, rfl, if_f (decide_eq_false (by omega)) ?_⟩
    refine ⟨_, rfl, a, rfl, ⟨_, hS⟩, for_list (K := K) (a := a) (xs := xs) (fun i σ H' => H' = H ∧ ∃ v1 v2 v3, σ = [some (.ref a), some (.ref d), v1, v2, v3, none])
      ⟨rfl, none, none, none, rfl⟩ (fun i σ H' _ ⟨e, _⟩ => by rw [e]; exact hS) ?_ ?_⟩
    · rintro i y σ H' hi ⟨rfl, v1, v2, v3, rfl⟩
      obtain ⟨b, hb, t, rfl, hT⟩ := Paired.at hG hi
      obtain ⟨r1, hr1, r2, hr2, e1, e2, e3⟩ := ok.ok b (List.mem_of_getElem? hb)
      obtain ⟨kvs, hd, hin, _⟩ := hD
      obtain ⟨w1, l1, p1, q1, h1, rfl, a1, _, _⟩ := hin r1 hr1
      obtain ⟨w2, l2, p2, q2, h2, rfl, a2, _, _⟩ := hin r2 hr2
      rw [← e1] at l1
      rw [← e2] at l2
      have g1 : DGet H' d (.str b.1) (some (.ref p1)) := by rw [← l1]; exact DGet.k (k := .inr b.1) hd
      have g2 : DGet H' d (.str b.2) (some (.ref p2)) := by rw [← l2]; exact DGet.k (k := .inr b.2) hd
      refine ⟨_, rfl, t, _, rfl, .inr (SqT.of hT), rfl, _, rfl, if_f (by rfl) ?_⟩
      refine ⟨_, rfl, t, _, rfl, SqT.of hT, rfl, _, _, rfl, _, _, rfl, rfl, ?_⟩
      refine ⟨_, rfl, _, rfl, d, _, rfl, g1, _, rfl, if_f (by rfl) ?_⟩
      refine ⟨_, rfl, _, rfl, d, _, rfl, g2, _, rfl, if_f (by rfl) ?_⟩
      refine ⟨_, rfl, _, rfl, d, _, rfl, g1, p1, _, 2, .str r1.goal, rfl, rfl, SqT.of a1, rfl, _, rfl, _, rfl, d, _, rfl, g2, p2, _, 1, .str r2.start, rfl, rfl, SqT.of a2, rfl, rfl, _, rfl, if_f ?_ ⟨rfl, _, _, _, rfl⟩⟩
      rw [e3]
      simp
    · rintro σ H' ⟨rfl, v1, v2, v3, rfl⟩
      refine ⟨_, rfl, a, rfl, ⟨_, hS⟩, fun D nD => lc_list (K := K) (a := a) (xs := xs) (fun i H1 => Grew P H' H1 ∧ H1 D = some (.lst (xs.take i)))
        ⟨Grew.new hP nD, upd_same⟩ (fun i H1 _ p => p.1.sqL hP hS) (fun i x H1 hx p => ?_) (fun H1 p => ?_)⟩
      · obtain ⟨g, hD1⟩ := p
        obtain ⟨b, hb, t, rfl, hT⟩ := Paired.at hG hx
        refine ⟨rfl, _, rfl, t, _, rfl, .inr ⟨SqT.of (g.tup hP hT), _, hD1, ?_, g.write hD1 (fun _ z => by cases z) nD, ?_⟩⟩
        · rw [List.length_take, sizeLine_eq]; omega
        · rw [upd_same, List.take_succ, hx]; rfl
      · obtain ⟨g, hD1⟩ := p
        rw [List.take_length] at hD1
        have hG1 : Paired (GBar H1) bs xs := Paired.map' hG fun b v m => m.grew g hP
        obtain ⟨ks, ek1, ek2, ek3⟩ := bars_keys (K := K) hG1
        have lk : ks.length = xs.length := by rw [ek1, List.length_map]
        refine ⟨_, rfl, D, rfl, .inr ⟨ks, by rw [← ek1]; exact SqL.of hD1, ek3, by omega, by rw [ek2]; exact nodup_bars ok.nd⟩, ?_⟩
        refine ⟨_, rfl, D, xs, barAt H1, rfl, SqL.of hD1, fun x hx => ?_, fun ys l hpm hso hl => ⟨l, _, rfl, .inl ⟨SqL.of upd_same, fun p hp2 => ?_⟩⟩⟩
        · obtain ⟨b, _, m⟩ := Paired.mem hG1 hx
          have nm := m.at
          obtain ⟨t, e, q⟩ := m
          exact ⟨t, e, by rw [nm]; exact SqT.of q⟩
        · obtain ⟨bs', pm, hr'⟩ := Paired.perm hpm hG1
          have gl := Grew.new g.tab (o := .lst ys) hl
          have gp := gl.put (o := .tup ys) hp2
          exact k _ p bs' ys (g.trans gp) pm (Paired.pair (fun a b x y m m' e => by rw [m.at, m'.at] at e; exact e) hr' hso) (g.free (gl.free hp2)) upd_same (Paired.map' hr' fun _ _ m => m.grew gp g.tab)
end
end W

set_option Elab.async false
set_option linter.all false
set_option maxRecDepth 100000
set_option maxHeartbeats 800000
namespace W
open PySem PySem.Spec PyProof.Rows L2 GxR MyG MyS
/-! ### Map.__init__ -/
abbrev nInit : List Str := ["self", "day", "kinds", "places", "roads", "bars", "road", "bar"]
abbrev pInit : List Str := ["self", "day", "kinds", "places", "roads", "bars"]
section
variable {K : PySem.W.Frag} {H : Hp} {x C dx : Addr} {fs : List (Str × V)} {o : HO}
theorem insNe (hx : H x = some (.ins C dx fs)) {a : Addr} {u : HO} (e : H a = some u) (d : ∀ C dx fs, u ≠ .ins C dx fs) : a ≠ x := fun z => by
  rw [z, hx] at e
  exact d _ _ _ (Option.some.inj e).symm
theorem tup_ins (hx : H x = some (.ins C dx fs)) {a : Addr} {l : List V} (e : H a = some (.tup l)) : L2.upd H x o a = some (.tup l) := by
  rw [upd_ne (insNe hx e (fun _ _ _ z => by cases z))]
  exact e
theorem RoadAt.ins (hx : H x = some (.ins C dx fs)) {r : RoadD} {v : V} (m : RoadAt K H r v) : RoadAt K (L2.upd H x o) r v := m.upd (fun xs z => by rw [hx] at z; cases z) (KeepT.ins hx)
theorem GBar.ins (hx : H x = some (.ins C dx fs)) {b : Str × Str} {v : V} (m : GBar H b v) : GBar (L2.upd H x o) b v := m.upd (fun xs z => by rw [hx] at z; cases z)
theorem DictR.ins (hx : H x = some (.ins C dx fs)) {d : Addr} {rs : List RoadD} (m : DictR K H d rs) : DictR K (L2.upd H x o) d rs := by
  obtain ⟨kvs, e, m1, m2⟩ := m
  exact ⟨kvs, by rw [upd_ne (insNe hx e (fun _ _ _ z => by cases z))]; exact e, fun r hr => let ⟨v, a, b⟩ := m1 r hr; ⟨v, a, b.ins hx⟩, m2⟩
end
/-- the dict of the bars -/
def DictB (H : Hp) (d : Addr) (bs : List (Str × Str)) : Prop := ∃ kvs : List (List Key × V), H d = some (.dT kvs) ∧ ∀ a b : Str, (valV kvs [.inr a, .inr b]).isSome = true ↔ (a, b) ∈ bs
/-- the fields of a map -/
def nmF : List Str := ["day", "kinds", "places", "roads", "_roads_by_name", "bars", "_barred"]
theorem noF {fs : List (Str × V)} {g : Str} {v : V} (h : ∀ f, f ∉ nmF → fs.lookup f = none) (hg : g ∈ nmF) : ∀ f, f ∉ nmF → (putF g v fs).lookup f = none := fun f hf => by
  rw [lookup_putF, if_neg (by intro e; subst e; exact hf hg)]
  exact h f hf
/-- the map at x -/
structure MapF (K : PySem.W.Frag) (H : Hp) (fs : List (Str × V)) (d : Int) (ks ps : List Str) (rs : List RoadD) (bs : List (Str × Str)) (kk pp rr D bb D2 : Addr) (ys zs : List V) : Prop where
  f0 : ∀ f, f ∉ nmF → fs.lookup f = none
  f1 : fs.lookup ("day" : Str) = some (V.int d)
  f2 : fs.lookup ("kinds" : Str) = some (V.ref kk)
  f3 : fs.lookup ("places" : Str) = some (V.ref pp)
  f4 : fs.lookup ("roads" : Str) = some (V.ref rr)
  f5 : fs.lookup ("_roads_by_name" : Str) = some (V.ref D)
  f6 : fs.lookup ("bars" : Str) = some (V.ref bb)
  f7 : fs.lookup ("_barred" : Str) = some (V.ref D2)
  k : H kk = some (.tup (ks.map V.str))
  p : H pp = some (.tup (ps.map V.str))
  r : H rr = some (.tup ys)
  ry : Paired (RoadAt K H) rs ys
  d : DictR K H D rs
  b : H bb = some (.tup zs)
  bz : Paired (GBar H) bs zs
  db : DictB H D2 bs
def MapAt (K : PySem.W.Frag) (H : Hp) (M x : Addr) (d : Int) (ks ps : List Str) (rs : List RoadD) (bs : List (Str × Str)) : Prop := ∃ dx fs kk pp rr D bb D2 ys zs, H x = some (.ins M dx fs) ∧ MapF K H fs d ks ps rs bs kk pp rr D bb D2 ys zs
structure PartsOk (d : Int) (ks ps : List Str) (rs : List RoadD) (bs : List (Str × Str)) : Prop where
  d1 : 1 ≤ d
  d2 : d ≤ 1440
  k1 : 1 ≤ ks.length
  k2 : ks.length ≤ 4
  p2 : ps.length ≤ 30
  kn : ks.all isNm = true
  pn : ps.all isNm = true
  kd : ks.Nodup
  pd : ps.Nodup
  r : RoadsOk d ps ks rs
  b : BarsOk rs bs
theorem RoadsOk.perm {d : Int} {ps ps' ks ks' : List Str} {rs : List RoadD} (h : RoadsOk d ps ks rs) (hp : ps'.Perm ps) (hk : ks'.Perm ks) : RoadsOk d ps' ks' rs := by
  obtain ⟨a, b, c, e⟩ := h
  refine ⟨a, b, c, fun r hr => ?_⟩
  obtain ⟨h1, h2, h3, h4, h5, h6, h7, h8⟩ := e r hr
  exact ⟨hp.mem_iff.mpr h1, hp.mem_iff.mpr h2, h3, h4, fun k hk' => hk.mem_iff.mpr (h5 k hk'), h6, h7, h8⟩
theorem BarsOk.kept {rs rs' : List RoadD} {bs : List (Str × Str)} (h : BarsOk rs bs) (k : KeptAll rs rs') : BarsOk rs' bs := by
  obtain ⟨a, b, c⟩ := h
  obtain ⟨l, pm, pr⟩ := k
  have f : ∀ r ∈ rs, ∃ r' ∈ rs', r'.name = r.name ∧ r'.start = r.start ∧ r'.goal = r.goal := fun r hr => by
    obtain ⟨r', hr', q⟩ := Paired.mem' pr hr
    exact ⟨r', pm.mem_iff.mp hr', q.1, q.2.1, q.2.2.1⟩
  refine ⟨a, b, fun z hz => ?_⟩
  obtain ⟨r1, h1, r2, h2, e1, e2, e3⟩ := c z hz
  obtain ⟨s1, m1, n1, _, g1⟩ := f r1 h1
  obtain ⟨s2, m2, n2, g2, _⟩ := f r2 h2
  exact ⟨s1, m1, s2, m2, by rw [n1]; exact e1, by rw [n2]; exact e2, by rw [g1, g2]; exact e3⟩
theorem KeptAll.nodup {rs rs' : List RoadD} (k : KeptAll rs rs') (h : (rs.map (·.name)).Nodup) : (rs'.map (·.name)).Nodup := by
  obtain ⟨l, pm, pr⟩ := k
  rw [← kept_names pr] at h
  exact (pm.map (·.name)).nodup_iff.mp h
theorem KeptAll.len {rs rs' : List RoadD} (k : KeptAll rs rs') : rs'.length = rs.length := by
  obtain ⟨l, pm, pr⟩ := k
  rw [← pm.length_eq, ← Paired.len pr]
def spInit (K : PySem.W.Frag) (M P : Addr) : Sp := fun vs H Q _ => ∃ (x dx ki pl ro ba : Addr) (d : Int) (ks ps : List Str) (rs : List RoadD) (bs : List (Str × Str)) (xs zs : List V) (H0 : Hp), vs = [.ref x, .int d, .ref ki, .ref pl, .ref ro, .ref ba] ∧
  Grew P H0 H ∧ TabG H0 P ∧ H0 x = none ∧ H x = some (.ins M dx []) ∧ SqL K H0 ki (ks.map V.str) ∧ SqL K H0 pl (ps.map V.str) ∧ SqL K H0 ro xs ∧ Paired (GRoad K H0) rs xs ∧ SqL K H0 ba zs ∧ Paired (GBar H0) bs zs ∧ PartsOk d ks ps rs bs ∧
  ∀ H' ks' ps' rs' bs', Grew P H0 H' → ks'.Perm ks → Asc ks' → ps'.Perm ps → Asc ps' → KeptAll rs rs' → AscR rs' → bs'.Perm bs → AscB bs' → MapAt K H' M x d ks' ps' rs' bs' → Q .non H'
structure TxtM (K : PySem.W.Frag) (M : Addr) : Prop where
  cl : Cls K M
  n1 : NoAttr K M "day"
  n2 : NoAttr K M "kinds"
  n3 : NoAttr K M "places"
  n4 : NoAttr K M "roads"
  n5 : NoAttr K M "_roads_by_name"
  n6 : NoAttr K M "bars"
  n7 : NoAttr K M "_barred"
section
variable {Pg : Program} {w : World} {K : PySem.W.Frag} {mg : Str → Option Value} {base : Heap} {C P : Addr}
theorem scInit : FnScope nInit pInit (defScope sInit) := ⟨rfl, rfl, rfl, by decide +kernel, rfl, by decide +kernel, by decide +kernel⟩
theorem ok_init {f fY fN fR fB M : Addr} {fd fdY fdN fdR fdB : FuncData} {t1 t2 t3 : Tok} {dvs : List V} {kws : List (Str × V)} (F : FunD K "__init__" "Map.__init__" (defArgs sInit) (defBody sInit) (defScope sInit) dvs kws f fd) (T : TxtM K M)
    (hn : mg "NAME" = some (.int 0 t1)) (hk : mg "MOST_KINDS" = some (.int 4 t2)) (hp : mg "MOST_PLACES" = some (.int 30 t3))
    (GY : FnOk Pg w K mg base CX0 1 fY fdY ["day"] spDay) (gY : mg "_checked_day" = some (.ref fY)) (kY : PySem.W.keepIn K (.ref fY) = true) (bY : Binds K fdY ["day"] [])
    (GN : FnOk Pg w K mg base CX0 3 fN fdN ["names", "least", "most"] (spNames K P)) (gN : mg "_checked_names" = some (.ref fN)) (kN : PySem.W.keepIn K (.ref fN) = true) (bN : Binds K fdN ["names", "least", "most"] [])
    (GR : FnOk Pg w K mg base CX0 4 fR fdR ["roads", "day", "places", "kinds"] (spRoads K P)) (gR : mg "_checked_roads" = some (.ref fR)) (kR : PySem.W.keepIn K (.ref fR) = true) (bR : Binds K fdR ["roads", "day", "places", "kinds"] [])
    (GB : FnOk Pg w K mg base CX0 2 fB fdB ["bars", "roads_by_name"] (spBars K P)) (gB : mg "_checked_bars" = some (.ref fB)) (kB : PySem.W.keepIn K (.ref fB) = true) (bB : Binds K fdB ["bars", "roads_by_name"] []) :
    FnOk Pg w K mg base CX0 5 f fd pInit (spInit K M P) := by
  refine F.ok scInit (fun vs H Q E h => ?_) (fun cdv A outer s H vs Q E hr h => ?_)
  · obtain ⟨x, dx, ki, pl, ro, ba, d, ks, ps, rs, bs, xs, zs, H0, rfl, _⟩ := h
    rfl
  · obtain ⟨x, dx, ki, pl, ro, ba, d, ks, ps, rs, bs, xs, zs, H0, rfl, g0, hP0, nx, hx, hKi, hPl, hRo, hG, hBa, hB, ok, k⟩ := h
    have hr1 : Room 1 _ := hr.mono (by decide)
    have hr2 : Room 2 _ := hr.mono (by decide)
    have hr3 : Room 3 _ := hr.mono (by decide)
    refine ⟨_, pss_cons (ps_fld (pv 0) (pe_call GY hr1 (by rfl) gY kY bY .nil pass0 (pa_cons (pv 1) pa_nil)) rfl)
      (pss_cons (ps_fld (pv 0) (pe_call GN hr3 (by rfl) gN kN bN .nil pass0 (pa_cons (pv 2) (pa_cons pe_int (pa_cons (pe_gI hk) pa_nil)))) rfl)
      (pss_cons (ps_fld (pv 0) (pe_call GN hr3 (by rfl) gN kN bN .nil pass0 (pa_cons (pv 3) (pa_cons pe_int (pa_cons (pe_gI hp) pa_nil)))) rfl)
      (pss_cons (ps_fld (pv 0) (pe_call GR hr (by rfl) gR kR bR .nil pass0 (pa_cons (pv 4) (pa_cons (pv 1) (pa_cons (pe_fld (pv 0) rfl) (pa_cons (pe_fld (pv 0) rfl) pa_nil))))) rfl)
      (pss_cons (ps_fld (pv 0) (pe_dc (own := [("road", 6)]) (g := gName 6) (tt := tYes) rfl scInit.nd (pi_tup (pe_fld (pv 0) rfl)) (blkOk_by (N := nInit) (sc := defScope sInit) (by decide +kernel)) (fun _ _ _ _ _ => pg_name (i := 6) scInit.nd rfl (Or.inl rfl)) (fun _ _ _ _ _ => pts_nil)
          (fun _ _ _ _ _ => pe_ix (r := rIxT K) ix_tup (pv 6) (pe_gI hn) (fun _ _ => rfl)) (fun _ _ _ _ _ => pv 6)) rfl)
      (pss_cons (ps_fld (pv 0) (pe_call GB hr2 (by rfl) gB kB bB .nil pass0 (pa_cons (pv 5) (pa_cons (pe_fld (pv 0) rfl) pa_nil))) rfl)
      (pss_one (ps_fld (pv 0) (pe_dcT (own := [("bar", 7)]) (g := gName 7) (tt := tYes) (u1 hr.units) rfl scInit.nd (pi_tup (pe_fld (pv 0) rfl)) (blkOk_by (N := nInit) (sc := defScope sInit) (by decide +kernel)) (fun _ _ _ _ _ => pg_name (i := 7) scInit.nd rfl (Or.inl rfl)) (fun _ _ _ _ _ => pts_nil)
          (fun _ _ _ _ _ => pv 7) (fun _ _ _ _ _ => pe_bl)) rfl))))))), ?_⟩
    have nins : ∀ (fs : List (Str × V)) (q : Array Value), (HO.ins M dx fs) ≠ .tbl q := fun _ _ z => by cases z
    have k1 := ok.k1
    have k2 := ok.k2
    have p2 := ok.p2
    -- day
    refine ⟨_, rfl, d, rfl, ok.d1, ok.d2, _, rfl, x, M, dx, [], rfl, hx, T.cl, T.n1, by decide, ?_⟩
    have ga := g0.write (o := .ins M dx (putF "day" (.int d) [])) hx (nins _) nx
    have la : (putF ("day" : Str) (V.int d) []).length ≤ 1 := length_putF _ _ []
    -- kinds
    refine ⟨_, rfl, ki, ks, 1, 4, rfl, ga.sqL hP0 hKi, by omega, by omega, by omega, ok.kn, ok.kd, ga.tab, fun Hb kk ks' gb nk ek pk ak => ?_⟩
    have xb := gb.get ga.tab upd_same (nins _)
    refine ⟨_, rfl, x, M, dx, _, rfl, xb, T.cl, T.n2, by omega, ?_⟩
    have gc := (ga.trans gb).write (o := .ins M dx (putF "kinds" (.ref kk) (putF "day" (.int d) []))) xb (nins _) nx
    have lc := length_putF ("kinds" : Str) (V.ref kk) (putF ("day" : Str) (V.int d) [])
    have tk := tup_ins (o := .ins M dx (putF "kinds" (.ref kk) (putF "day" (.int d) []))) xb ek
    -- places
    refine ⟨_, rfl, pl, ps, 0, 30, rfl, gc.sqL hP0 hPl, by omega, by omega, by omega, ok.pn, ok.pd, gc.tab, fun Hd pp ps' gd np ep pp' ap => ?_⟩
    have xd := gd.get gc.tab upd_same (nins _)
    refine ⟨_, rfl, x, M, dx, _, rfl, xd, T.cl, T.n3, by omega, ?_⟩
    have ge := (gc.trans gd).write (o := .ins M dx (putF "places" (.ref pp) (putF "kinds" (.ref kk) (putF "day" (.int d) [])))) xd (nins _) nx
    have le := length_putF ("places" : Str) (V.ref pp) (putF ("kinds" : Str) (V.ref kk) (putF ("day" : Str) (V.int d) []))
    generalize hfs : putF ("places" : Str) (V.ref pp) (putF ("kinds" : Str) (V.ref kk) (putF ("day" : Str) (V.int d) [])) = fs at ge le ⊢
    have f0 : ∀ f, f ∉ nmF → fs.lookup f = none := by rw [← hfs]; exact noF (noF (noF (fun _ _ => rfl) (by decide +kernel)) (by decide +kernel)) (by decide +kernel)
    have f3 : fs.lookup ("places" : Str) = some (V.ref pp) := by rw [← hfs, lookup_putF, if_pos rfl]
    have f2 : fs.lookup ("kinds" : Str) = some (V.ref kk) := by rw [← hfs, lookup_putF, if_neg (by decide +kernel), lookup_putF, if_pos rfl]
    have f1 : fs.lookup ("day" : Str) = some (V.int d) := by rw [← hfs, lookup_putF, if_neg (by decide +kernel), lookup_putF, if_neg (by decide +kernel), lookup_putF, if_pos rfl]
    have tk2 := tup_ins (o := .ins M dx fs) xd (gd.tup gc.tab tk)
    have tp2 := tup_ins (o := .ins M dx fs) xd ep
    -- roads
    have okr := ok.r.perm pp' pk
    refine ⟨_, rfl, _, rfl, _, rfl, x, M, dx, _, _, rfl, upd_same, T.cl, T.n3, f3, _, rfl, x, M, dx, _, _, rfl, upd_same, T.cl, T.n2, f2,
      ro, pp, kk, d, ps', ks', rs, xs, rfl, ge.sqL hP0 hRo, Paired.map' hG (fun r v m => m.keep (KeepT.grew ge hP0)), SqT.of tp2, SqT.of tk2, okr, ge.tab, fun Hf rr rs' ys gf kr ar nr er hm => ?_⟩
    have xf := gf.get ge.tab upd_same (nins _)
    refine ⟨_, rfl, x, M, dx, _, rfl, xf, T.cl, T.n4, by omega, ?_⟩
    have gg := (ge.trans gf).write (o := .ins M dx (putF "roads" (.ref rr) fs)) xf (nins _) nx
    have lg := length_putF ("roads" : Str) (V.ref rr) fs
    have fg4 : (putF ("roads" : Str) (V.ref rr) fs).lookup ("roads" : Str) = some (V.ref rr) := by rw [lookup_putF, if_pos rfl]
    have fg3 : (putF ("roads" : Str) (V.ref rr) fs).lookup ("places" : Str) = some (V.ref pp) := by rw [lookup_putF, if_neg (by decide +kernel)]; exact f3
    have fg2 : (putF ("roads" : Str) (V.ref rr) fs).lookup ("kinds" : Str) = some (V.ref kk) := by rw [lookup_putF, if_neg (by decide +kernel)]; exact f2
    have fg1 : (putF ("roads" : Str) (V.ref rr) fs).lookup ("day" : Str) = some (V.int d) := by rw [lookup_putF, if_neg (by decide +kernel)]; exact f1
    have fg0 := noF (v := V.ref rr) f0 (show ("roads" : Str) ∈ nmF by decide +kernel)
    generalize hgs : putF ("roads" : Str) (V.ref rr) fs = gs at gg lg fg0 fg1 fg2 fg3 fg4 ⊢
    have tr3 := tup_ins (o := .ins M dx gs) xf er
    have tk3 := tup_ins (o := .ins M dx gs) xf (gf.tup ge.tab tk2)
    have tp3 := tup_ins (o := .ins M dx gs) xf (gf.tup ge.tab tp2)
    have hm3 : Paired (RoadAt K (L2.upd Hf x (.ins M dx gs))) rs' ys := Paired.map' hm fun r v m => m.ins xf
    have lys : ys.length ≤ 60 := by rw [← Paired.len hm3, kr.len]; exact ok.r.len
    have ndr := kr.nodup ok.r.nd
    generalize hHg : L2.upd Hf x (.ins M dx gs) = Hg at gg tr3 tk3 tp3 hm3 ⊢
    have xg : Hg x = some (.ins M dx gs) := by rw [← hHg]; exact upd_same
    -- _roads_by_name
    refine ⟨_, rfl, x, M, dx, _, _, rfl, xg, T.cl, T.n4, fg4, rr, rfl, ⟨_, SqT.of tr3⟩, fun D nD => dc_tup (K := K) (a := rr) (xs := ys)
      (fun i H1 => Grew P Hg H1 ∧ ∃ kvs, H1 D = some (.dK kvs) ∧ kvs.length ≤ i ∧ (∀ (j : Nat) r v, j < i → rs'[j]? = some r → ys[j]? = some v → valV kvs (.inr r.name) = some v) ∧ ∀ z : Str, (∀ r ∈ rs'.take i, r.name ≠ z) → valV kvs (.inr z) = none)
      ⟨Grew.new gg.tab nD, [], upd_same, Nat.le_refl _, fun j r v h => absurd h (Nat.not_lt_zero _), fun z _ => rfl⟩ (fun i H1 _ p => SqT.of (p.1.tup gg.tab tr3)) (fun i y H1 hy p => ?_) (fun Hh p => ?_)⟩
    · obtain ⟨g, kvs, hD, hl, hin, hno⟩ := p
      obtain ⟨r, hri, m⟩ := Paired.at hm3 hy
      have hi : i < ys.length := (List.getElem?_eq_some_iff.mp hy).1
      have m1 := m.grew g gg.tab
      obtain ⟨t, q, h, rfl, et, _⟩ := m1
      refine ⟨rfl, _, rfl, t, _, 0, .str r.name, rfl, rfl, SqT.of et, rfl, _, rfl, kvs, .inr r.name, rfl, hD, ?_, g.write hD (fun _ z => by cases z) nD, _, upd_same, ?_, fun j r' v' hj hr' hv' => ?_, fun z hz => ?_⟩
      · rw [sizeLine_eq]; omega
      · exact Nat.le_trans (length_putK kvs (.inr r.name) _) (by omega)
      · rw [valV_put]
        by_cases e : j = i
        · subst e
          rw [hri] at hr'
          rw [hy] at hv'
          cases hr'; cases hv'
          rw [if_pos rfl]
        · have ne : ¬ (Sum.inr r'.name : Key) = .inr r.name := fun z => by
            injection z with z
            have hri' := (List.getElem?_eq_some_iff.mp hri)
            have hrj' := (List.getElem?_eq_some_iff.mp hr')
            obtain ⟨a1, a2⟩ := hri'
            obtain ⟨b1, b2⟩ := hrj'
            refine absurd ?_ (List.pairwise_iff_getElem.mp ndr j i (by rw [List.length_map]; exact b1) (by rw [List.length_map]; exact a1) (by omega))
            rw [List.getElem_map, List.getElem_map, a2, b2]
            exact z
          rw [if_neg ne]
          exact hin j r' v' (by omega) hr' hv'
      · rw [valV_put, if_neg ?_]
        · exact hno z fun r' hr' => hz r' (by rw [List.take_succ]; exact List.mem_append_left _ hr')
        · intro e
          injection e with e
          exact hz r (by rw [List.take_succ, hri]; exact List.mem_append_right _ (List.mem_singleton.mpr rfl)) e.symm
    · obtain ⟨gh, kvs, hD, hl, hin, hno⟩ := p
      have xh := gh.get gg.tab xg (nins _)
      refine ⟨_, rfl, x, M, dx, _, rfl, xh, T.cl, T.n5, by omega, ?_⟩
      have gi := (gg.trans gh).write (o := .ins M dx (putF "_roads_by_name" (.ref D) gs)) xh (nins _) nx
      have li := length_putF ("_roads_by_name" : Str) (V.ref D) gs
      have fi5 : (putF ("_roads_by_name" : Str) (V.ref D) gs).lookup ("_roads_by_name" : Str) = some (V.ref D) := by rw [lookup_putF, if_pos rfl]
      have fi4 : (putF ("_roads_by_name" : Str) (V.ref D) gs).lookup ("roads" : Str) = some (V.ref rr) := by rw [lookup_putF, if_neg (by decide +kernel)]; exact fg4
      have fi3 : (putF ("_roads_by_name" : Str) (V.ref D) gs).lookup ("places" : Str) = some (V.ref pp) := by rw [lookup_putF, if_neg (by decide +kernel)]; exact fg3
      have fi2 : (putF ("_roads_by_name" : Str) (V.ref D) gs).lookup ("kinds" : Str) = some (V.ref kk) := by rw [lookup_putF, if_neg (by decide +kernel)]; exact fg2
      have fi1 : (putF ("_roads_by_name" : Str) (V.ref D) gs).lookup ("day" : Str) = some (V.int d) := by rw [lookup_putF, if_neg (by decide +kernel)]; exact fg1
      have fi0 := noF (v := V.ref D) fg0 (show ("_roads_by_name" : Str) ∈ nmF by decide +kernel)
      generalize his : putF ("_roads_by_name" : Str) (V.ref D) gs = is at gi li fi0 fi1 fi2 fi3 fi4 fi5 ⊢
      have hmh : Paired (RoadAt K Hh) rs' ys := Paired.map' hm3 fun r v m => m.grew gh gg.tab
      have dR : DictR K (L2.upd Hh x (.ins M dx is)) D rs' := by
        refine DictR.ins xh ⟨kvs, hD, fun r hr => ?_, fun z hz => hno z fun r hr => hz r (List.mem_of_mem_take hr)⟩
        obtain ⟨j, hj, ej⟩ := List.getElem_of_mem hr
        have hj' : rs'[j]? = some r := List.getElem?_eq_some_iff.mpr ⟨hj, ej⟩
        obtain ⟨v, hv, m⟩ := Paired.to hmh hj'
        exact ⟨v, hin j r v (List.getElem?_eq_some_iff.mp hv).1 hj' hv, m⟩
      have tr4 := tup_ins (o := .ins M dx is) xh (gh.tup gg.tab tr3)
      have tk4 := tup_ins (o := .ins M dx is) xh (gh.tup gg.tab tk3)
      have tp4 := tup_ins (o := .ins M dx is) xh (gh.tup gg.tab tp3)
      have hm4 : Paired (RoadAt K (L2.upd Hh x (.ins M dx is))) rs' ys := Paired.map' hmh fun r v m => m.ins xh
      generalize hHi : L2.upd Hh x (.ins M dx is) = Hi at gi tr4 tk4 tp4 hm4 dR ⊢
      have xi : Hi x = some (.ins M dx is) := by rw [← hHi]; exact upd_same
      -- bars
      refine ⟨_, rfl, _, rfl, x, M, dx, _, _, rfl, xi, T.cl, T.n5, fi5, ba, D, rs', bs, zs, rfl, gi.sqL hP0 hBa, Paired.map' hB (fun b v m => m.grew gi hP0), dR, ok.b.kept kr, gi.tab, fun Hj bb bs' zs' gj pb ab nb eb hz => ?_⟩
      have xj := gj.get gi.tab xi (nins _)
      refine ⟨_, rfl, x, M, dx, _, rfl, xj, T.cl, T.n6, by omega, ?_⟩
      have gk := (gi.trans gj).write (o := .ins M dx (putF "bars" (.ref bb) is)) xj (nins _) nx
      have lk := length_putF ("bars" : Str) (V.ref bb) is
      have fk6 : (putF ("bars" : Str) (V.ref bb) is).lookup ("bars" : Str) = some (V.ref bb) := by rw [lookup_putF, if_pos rfl]
      have fk5 : (putF ("bars" : Str) (V.ref bb) is).lookup ("_roads_by_name" : Str) = some (V.ref D) := by rw [lookup_putF, if_neg (by decide +kernel)]; exact fi5
      have fk4 : (putF ("bars" : Str) (V.ref bb) is).lookup ("roads" : Str) = some (V.ref rr) := by rw [lookup_putF, if_neg (by decide +kernel)]; exact fi4
      have fk3 : (putF ("bars" : Str) (V.ref bb) is).lookup ("places" : Str) = some (V.ref pp) := by rw [lookup_putF, if_neg (by decide +kernel)]; exact fi3
      have fk2 : (putF ("bars" : Str) (V.ref bb) is).lookup ("kinds" : Str) = some (V.ref kk) := by rw [lookup_putF, if_neg (by decide +kernel)]; exact fi2
      have fk1 : (putF ("bars" : Str) (V.ref bb) is).lookup ("day" : Str) = some (V.int d) := by rw [lookup_putF, if_neg (by decide +kernel)]; exact fi1
      have fk0 := noF (v := V.ref bb) fi0 (show ("bars" : Str) ∈ nmF by decide +kernel)
      generalize hjs : putF ("bars" : Str) (V.ref bb) is = js at gk lk fk0 fk1 fk2 fk3 fk4 fk5 fk6 ⊢
      have tb5 := tup_ins (o := .ins M dx js) xj eb
      have tr5 := tup_ins (o := .ins M dx js) xj (gj.tup gi.tab tr4)
      have tk5 := tup_ins (o := .ins M dx js) xj (gj.tup gi.tab tk4)
      have tp5 := tup_ins (o := .ins M dx js) xj (gj.tup gi.tab tp4)
      have hm5 : Paired (RoadAt K (L2.upd Hj x (.ins M dx js))) rs' ys := Paired.map' hm4 fun r v m => (m.grew gj gi.tab).ins xj
      have hz5 : Paired (GBar (L2.upd Hj x (.ins M dx js))) bs' zs' := Paired.map' hz fun b v m => m.ins xj
      have dR5 : DictR K (L2.upd Hj x (.ins M dx js)) D rs' := (dR.grew gj gi.tab).ins xj
      have lzs : zs'.length ≤ 40 := by rw [← Paired.len hz5, pb.length_eq]; exact ok.b.len
      generalize hHk : L2.upd Hj x (.ins M dx js) = Hk at gk tb5 tr5 tk5 tp5 hm5 hz5 dR5 ⊢
      have xk : Hk x = some (.ins M dx js) := by rw [← hHk]; exact upd_same
      -- _barred
      refine ⟨_, rfl, x, M, dx, _, _, rfl, xk, T.cl, T.n6, fk6, bb, rfl, ⟨_, SqT.of tb5⟩, fun D2 nD2 => dcT_tup (K := K) (a := bb) (xs := zs')
        (fun i H1 => Grew P Hk H1 ∧ ∃ kvs : List (List Key × V), H1 D2 = some (.dT kvs) ∧ kvs.length ≤ i ∧ ∀ a b : Str, (valV kvs [.inr a, .inr b]).isSome = true ↔ (a, b) ∈ bs'.take i)
        ⟨Grew.new gk.tab nD2, [], upd_same, Nat.le_refl _, fun a b => by simp [valV_nil]⟩ (fun i H1 _ p => SqT.of (p.1.tup gk.tab tb5)) (fun i y H1 hy p => ?_) (fun Hl p => ?_)⟩
      · obtain ⟨g, kvs, hD, hl, hin⟩ := p
        obtain ⟨b, hbi, m⟩ := Paired.at hz5 hy
        have hi : i < zs'.length := (List.getElem?_eq_some_iff.mp hy).1
        obtain ⟨t, rfl, et⟩ := m.grew g gk.tab
        refine ⟨rfl, _, rfl, kvs, [.inr b.1, .inr b.2], t, rfl, et, hD, ?_, g.write hD (fun _ z => by cases z) nD2, _, upd_same, ?_, fun a' b' => ?_⟩
        · rw [sizeLine_eq]; omega
        · have := length_putK kvs ([.inr b.1, .inr b.2] : List Key) (V.bl true)
          omega
        · rw [valV_put, List.take_succ, hbi, List.mem_append]
          by_cases e : ([.inr a', .inr b'] : List Key) = [.inr b.1, .inr b.2]
          · rw [if_pos e]
            have e1 : a' = b.1 := Sum.inr.inj (List.cons.inj e).1
            have e2 : b' = b.2 := Sum.inr.inj (List.cons.inj (List.cons.inj e).2).1
            subst e1 e2
            exact ⟨fun _ => .inr (List.mem_singleton.mpr rfl), fun _ => rfl⟩
          · rw [if_neg e, hin a' b']
            refine ⟨.inl, fun h => h.elim id fun h => ?_⟩
            have h' : (a', b') = b := List.mem_singleton.mp h
            subst h'
            exact absurd rfl e
      · obtain ⟨gl, kvs, hD, hl, hin⟩ := p
        have lb : bs'.length = zs'.length := Paired.len hz5
        rw [← lb, List.take_length] at hin
        have xl := gl.get gk.tab xk (nins _)
        refine ⟨_, rfl, x, M, dx, _, rfl, xl, T.cl, T.n7, by omega, ?_⟩
        have gm := (gk.trans gl).write (o := .ins M dx (putF "_barred" (.ref D2) js)) xl (nins _) nx
        refine k _ ks' ps' rs' bs' gm pk ak pp' ap kr ar pb ab ⟨dx, putF "_barred" (.ref D2) js, kk, pp, rr, D, bb, D2, ys, zs', upd_same, ?_⟩
        constructor
        · exact noF fk0 (by decide +kernel)
        · rw [lookup_putF, if_neg (by decide +kernel)]; exact fk1
        · rw [lookup_putF, if_neg (by decide +kernel)]; exact fk2
        · rw [lookup_putF, if_neg (by decide +kernel)]; exact fk3
        · rw [lookup_putF, if_neg (by decide +kernel)]; exact fk4
        · rw [lookup_putF, if_neg (by decide +kernel)]; exact fk5
        · rw [lookup_putF, if_neg (by decide +kernel)]; exact fk6
        · rw [lookup_putF, if_pos rfl]
        · exact tup_ins xl (gl.tup gk.tab tk5)
        · exact tup_ins xl (gl.tup gk.tab tp5)
        · exact tup_ins xl (gl.tup gk.tab tr5)
        · exact Paired.map' hm5 fun r v m => (m.grew gl gk.tab).ins xl
        · exact (dR5.grew gl gk.tab).ins xl
        · exact tup_ins xl (gl.tup gk.tab tb5)
        · exact Paired.map' hz5 fun b v m => (m.grew gl gk.tab).ins xl
        · exact ⟨kvs, by rw [upd_ne (insNe xl hD (fun _ _ _ z => by cases z))]; exact hD, hin⟩
end
end W

set_option Elab.async false
set_option linter.all false
set_option maxRecDepth 100000
set_option maxHeartbeats 400000
namespace W
open PySem PySem.Spec PyProof.Rows L2 GxR MyG
abbrev sRow : Stmt := top 45
abbrev sNumbers : Stmt := top 46
/-- the drawn numbers are small -/
def Sm (ns : List Int) : Prop := ∀ n ∈ ns, 0 ≤ n ∧ n < 1009
theorem Sm.snoc {ns : List Int} {n : Int} (h : Sm ns) (h1 : 0 ≤ n) (h2 : n < 1009) : Sm (ns ++ [n]) := fun z hz => by
  rcases List.mem_append.mp hz with hz | hz
  · exact h z hz
  · rw [List.mem_singleton.mp hz]; exact ⟨h1, h2⟩
theorem mod1009 (a : Int) : 0 ≤ a % 1009 ∧ a % 1009 < 1009 := by omega
def spRow (P : Addr) : Sp := fun vs H Q _ => ∃ (c : Int) (m : Nat), vs = [.int c, .int m] ∧ m ≤ 1000 ∧ TabG H P ∧ ∀ H' p ns, Grew P H H' → H p = none → H' p = some (.lst (ns.map V.int)) → ns.length = m → Sm ns → Q (.ref p) H'
def spNumbers (K : PySem.W.Frag) (P : Addr) : Sp := fun vs H Q _ => ∃ (a : Addr) (zs : List Int) (m : Nat), vs = [.ref a, .int m] ∧ SqL K H a (zs.map V.int) ∧ zs.length ≤ 63 ∧ m ≤ 900 ∧ TabG H P ∧
  ∀ H' p ns, Grew P H H' → H p = none → H' p = some (.lst (ns.map V.int)) → ns.length = m → Sm ns → Q (.ref p) H'
section
variable {Pg : Program} {w : World} {K : PySem.W.Frag} {mg : Str → Option Value} {base : Heap} {C P : Addr}
abbrev nRow : List Str := ["cell", "many", "row", "rest", "mixed", "k"]
theorem scRow : FnScope nRow ["cell", "many"] (defScope sRow) := ⟨rfl, rfl, rfl, by decide +kernel, rfl, by decide +kernel, by decide +kernel⟩
theorem ok_row {f : Addr} {fd : FuncData} (F : Fun K "_law_row" "_law_row" sRow f fd) (ha : mg "abs" = none) (hi : mg "int" = none) (hr' : mg "range" = none) : FnOk Pg w K mg base CX0 1 f fd ["cell", "many"] (spRow P) := by
  refine F.ok scRow (fun vs H Q E h => ?_) (fun cdv A outer s H vs Q E hr h => ?_)
  · obtain ⟨c, m, rfl, _⟩ := h
    rfl
  · obtain ⟨c, m, rfl, hm, hP, k⟩ := h
    refine ⟨_, pss_cons (ps_set (i := 2) scRow.nd rfl (Or.inl rfl) (pe_lst pa_nil))
      (pss_cons (ps_set (i := 3) scRow.nd rfl (Or.inl rfl) (pe_callB call_abs (by rfl) ha (by decide +kernel) (pa_cons (pv 0) pa_nil)))
      (pss_cons (ps_set (i := 4) scRow.nd rfl (Or.inl rfl) (pe_op op_mod (pe_callTy call_int1 (by rfl) hi (by decide +kernel) (pa_cons (pe_op op_add (pe_op op_mul (pv 3) pe_int) pe_int) pa_nil)) pe_int))
      (pss_cons (ps_for PassesOwn.never rfl (pi_range1 rfl hr' (pa_cons (pv 1) pa_nil)) (pg_name (i := 5) scRow.nd rfl (Or.inl rfl))
        (pss_cons (ps_set (i := 4) scRow.nd rfl (Or.inl rfl) (pe_op op_mod (pe_callTy call_int1 (by rfl) hi (by decide +kernel) (pa_cons (pe_op op_add (pe_op op_mul (pv 4) pe_int) (pe_op op_mul pe_int (pe_op op_add (pv 5) pe_int))) pa_nil)) pe_int))
        (pss_one (ps_if (pt_cmpR op_ge (pe_callB call_abs (by rfl) ha (by decide +kernel) (pa_cons (pv 0) pa_nil)) (pe_op op_pow pe_int pe_int) (nomark _))
          (pss_cons (ps_expr (pe_bm PySem.F.plainAttrs_list PySem.F.slot_list_append PySem.F.type_list_append mt_append (pv 2) (pa_cons (pe_op op_mod (pe_callTy call_int1 (by rfl) hi (by decide +kernel) (pa_cons (pv 3) pa_nil)) pe_int) pa_nil)))
            (pss_one (ps_set (i := 3) scRow.nd rfl (Or.inl rfl) (pe_op op_fdiv (pv 3) pe_int))))
          (pss_one (ps_expr (pe_bm PySem.F.plainAttrs_list PySem.F.slot_list_append PySem.F.type_list_append mt_append (pv 2) (pa_cons (pe_op op_mod (pe_callTy call_int1 (by rfl) hi (by decide +kernel) (pa_cons (pe_op op_fdiv (pv 4) pe_int) pa_nil)) pe_int) pa_nil))))))))
      (pss_one (ps_ret (pv 2)))))), ?_⟩
    refine ⟨Nat.zero_le _, fun p np => ?_⟩
    refine ⟨_, rfl, _, rfl, ?_⟩
    refine ⟨_, rfl, _, _, rfl, rfl, .inr ⟨by decide, by decide⟩, _, _, rfl, rfl, .inl ⟨_, rfl, _, _, rfl, rfl, (show (0 : Int) < 2147483647 by decide), ?_⟩⟩
    refine ⟨_, rfl, m, rfl, by omega, by omega, for_range (n := m) (fun i σ H' => ∃ r mx kv, ∃ ns : List Int, σ = [some (.int c), some (.int m), some (.ref p), some (.int r), some (.int mx), kv] ∧ Grew P H H' ∧ H' p = some (.lst (ns.map V.int)) ∧ ns.length = i ∧ Sm ns)
      ⟨_, _, none, [], rfl, Grew.new hP np, upd_same, rfl, fun n hn => by cases hn⟩ ?_ ?_⟩
    · rintro i σ H' hi ⟨r, mx, kv, ns, rfl, g, hp, hl, hsm⟩
      refine ⟨_, rfl, _, _, rfl, rfl, .inr ⟨by decide, by decide⟩, _, rfl, _, _, rfl, rfl, _, _, rfl, rfl, .inl ⟨by decide, by decide⟩, _, _, rfl, rfl, .inl ⟨_, rfl, _, _, rfl, rfl, (show (0 : Int) < 2147483629 by decide), ?_⟩⟩
      refine ⟨_, rfl, _, rfl, _, _, rfl, rfl, ⟨by decide, by decide, by decide⟩, _, _, rfl, rfl, _, rfl, ?_⟩
      have hlen : (ns.map V.int).length < sizeLine := by rw [List.length_map, hl, sizeLine_eq]; omega
      refine ite2 (fun _ => ?_) (fun _ => ?_)
      · refine ⟨_, rfl, .inl ⟨rfl, _, SqL.of hp⟩, _, rfl, .inl ⟨_, rfl, _, _, rfl, rfl, (show (0 : Int) < 1009 by decide), p, _, _, rfl, rfl, hp, hlen, ?_⟩⟩
        refine ⟨_, rfl, _, _, rfl, rfl, ⟨by decide, by decide⟩, _, _, _, ns ++ [_], rfl, g.write hp (fun _ z => by cases z) np, by rw [upd_same, List.map_append]; rfl, by rw [List.length_append, hl]; rfl, hsm.snoc (mod1009 _).1 (mod1009 _).2⟩
      · refine ⟨_, rfl, .inl ⟨rfl, _, SqL.of hp⟩, _, rfl, _, _, rfl, rfl, ⟨by decide, by decide⟩, .inl ⟨_, rfl, _, _, rfl, rfl, (show (0 : Int) < 1009 by decide), p, _, _, rfl, rfl, hp, hlen, ?_⟩⟩
        refine ⟨_, _, _, ns ++ [_], rfl, g.write hp (fun _ z => by cases z) np, by rw [upd_same, List.map_append]; rfl, by rw [List.length_append, hl]; rfl, hsm.snoc (mod1009 _).1 (mod1009 _).2⟩
    · rintro σ H' ⟨r, mx, kv, ns, rfl, g, hp, hl, hsm⟩
      exact ⟨_, rfl, k H' p ns g np hp hl hsm⟩
end
end W

set_option Elab.async false
set_option linter.all false
set_option maxRecDepth 100000
set_option maxHeartbeats 400000
namespace W
open PySem PySem.Spec PyProof.Rows L2 GxR MyG
theorem cutV_pre (xs : List V) (n : Nat) : cutV xs none (some (n : Int)) = xs.take n := by
  unfold cutV
  rw [HT.sIx_none, HT.sIx_nat, List.drop_zero, Nat.sub_zero]
  rcases Nat.le_total n xs.length with h | h
  · rw [Nat.min_eq_left h]
  · rw [Nat.min_eq_right h, List.take_length, List.take_of_length_le h]
theorem Sm.take {ns : List Int} (h : Sm ns) (k : Nat) : Sm (ns.take k) := fun z hz => h z (List.mem_of_mem_take hz)
theorem Sm.app {ns ms : List Int} (h : Sm ns) (h2 : Sm ms) : Sm (ns ++ ms) := fun z hz => by
  rcases List.mem_append.mp hz with hz | hz
  · exact h z hz
  · exact h2 z hz
section
variable {Pg : Program} {w : World} {K : PySem.W.Frag} {mg : Str → Option Value} {base : Heap} {C P : Addr}
abbrev nNumbers : List Str := ["script", "many", "cells", "each", "numbers", "cell", "number"]
theorem scNumbers : FnScope nNumbers ["script", "many"] (defScope sNumbers) := ⟨rfl, rfl, rfl, by decide +kernel, rfl, by decide +kernel, by decide +kernel⟩
theorem ok_numbers {f fR : Addr} {fd fdR : FuncData} (F : Fun K "_law_numbers" "_law_numbers" sNumbers f fd) (hl : mg "len" = none) (hx : mg "max" = none)
    (GR : FnOk Pg w K mg base CX0 1 fR fdR ["cell", "many"] (spRow P)) (gR : mg "_law_row" = some (.ref fR)) (kR : PySem.W.keepIn K (.ref fR) = true) (bR : Binds K fdR ["cell", "many"] []) :
    FnOk Pg w K mg base CX0 2 f fd ["script", "many"] (spNumbers K P) := by
  refine F.ok scNumbers (fun vs H Q E h => ?_) (fun cdv A outer s H vs Q E hr h => ?_)
  · obtain ⟨a, zs, m, rfl, _⟩ := h
    rfl
  · obtain ⟨a, zs, m, rfl, hS, hz, hm, hP, k⟩ := h
    refine ⟨_, pss_cons (ps_set (i := 2) scNumbers.nd rfl (Or.inl rfl) (pe_slice sl_list (pv 0) po_none (po_some pe_int)))
      (pss_cons (ps_set (i := 3) scNumbers.nd rfl (Or.inl rfl) (pe_op op_add pe_int (pe_op op_fdiv (pv 1) (pe_callB (call_max2 rfl) (by rfl) hx (by decide +kernel) (pa_cons pe_int (pa_cons (pe_callB call_len_seq (by rfl) hl PySem.boot_len (pa_cons (pv 2) pa_nil)) pa_nil))))))
      (pss_cons (ps_set (i := 4) scNumbers.nd rfl (Or.inl rfl) (pe_lst pa_nil))
      (pss_cons (ps_for PassesOwn.never rfl (pi_list (pv 2)) (pg_name (i := 5) scNumbers.nd rfl (Or.inl rfl))
        (pss_one (ps_for PassesOwn.never rfl (pi_list (pe_call GR hr (by rfl) gR kR bR .nil pass0 (pa_cons (pv 5) (pa_cons (pv 3) pa_nil)))) (pg_name (i := 6) scNumbers.nd rfl (Or.inl rfl))
          (pss_one (ps_expr (pe_bm PySem.F.plainAttrs_list PySem.F.slot_list_append PySem.F.type_list_append mt_append (pv 4) (pa_cons (pv 6) pa_nil)))))))
      (pss_cons (ps_while PassesOwn.never (pt_cmpR op_lt (pe_callB call_len_seq (by rfl) hl PySem.boot_len (pa_cons (pv 4) pa_nil)) (pv 1) (nomark _))
          (pss_one (ps_expr (pe_bm PySem.F.plainAttrs_list PySem.F.slot_list_append PySem.F.type_list_append mt_append (pv 4) (pa_cons pe_int pa_nil)))))
      (pss_one (ps_ret (pe_slice sl_list (pv 4) po_none (po_some (pv 1))))))))), ?_⟩
    -- cells
    refine ⟨_, rfl, _, rfl, a, _, rfl, hS, fun c nc => ?_⟩
    have ec : cutV (zs.map V.int) none (some 63) = zs.map V.int := by
      have q := cutV_pre (zs.map V.int) 63
      rw [List.take_of_length_le (by rw [List.length_map]; exact hz)] at q
      exact q
    rw [ec]
    have g1 := Grew.new hP (o := .lst (zs.map V.int)) nc
    -- each
    refine ⟨_, rfl, _, rfl, c, _, rfl, .inl (SqL.of upd_same), 1, _, rfl, _, _, rfl, rfl, ?_, _, _, rfl, rfl, ?_⟩
    · rw [List.length_map]
      constructor
      · split <;> omega
      · split <;> omega
    rw [List.length_map]
    generalize hdv : (if ((zs.length : Nat) : Int) > 1 then ((zs.length : Nat) : Int) else 1) = dv
    have hdp : 0 < dv := by rw [← hdv]; split <;> omega
    obtain ⟨e, he, he2⟩ : ∃ e : Nat, 1 + (m : Int) / dv = (e : Int) ∧ e ≤ 1000 := by
      have h1 : 0 ≤ (m : Int) / dv := Int.ediv_nonneg (by omega) (by omega)
      have h2 : (m : Int) / dv ≤ m := Int.ediv_le_self _ (by omega)
      exact ⟨(1 + (m : Int) / dv).toNat, by omega, by omega⟩
    refine ⟨Nat.zero_le _, fun p np => ?_⟩
    have g2 := g1.put (o := .lst []) np
    have hc : L2.upd (L2.upd H c (.lst (zs.map V.int))) p (.lst []) c = some (.lst (zs.map V.int)) := (Grew.new g1.tab np).lst g1.tab upd_same
    have ncp : c ≠ p := ne_of_none upd_same np
    refine ⟨_, rfl, c, rfl, ⟨_, SqL.of hc⟩, for_list (K := K) (a := c) (xs := zs.map V.int) (fun i σ H' => ∃ v5 v6, ∃ ns : List Int, σ = [some (.ref a), some (.int m), some (.ref c), some (.int (1 + (m : Int) / dv)), some (.ref p), v5, v6] ∧ Grew P H H' ∧ H' c = some (.lst (zs.map V.int)) ∧ H' p = some (.lst (ns.map V.int)) ∧ ns.length ≤ 1000 * i ∧ Sm ns)
      ⟨none, none, [], rfl, g2, hc, upd_same, Nat.zero_le _, fun n hn => by cases hn⟩ (fun i σ H' _ ⟨_, _, _, _, _, h, _⟩ => SqL.of h) ?_ ?_⟩
    · rintro i y σ H' hi ⟨v5, v6, ns, rfl, g, hcc, hp, hln, hsm⟩
      obtain ⟨z, rfl⟩ : ∃ z, y = V.int z := by
        rw [List.getElem?_map] at hi
        cases q : zs[i]? with
        | none => rw [q] at hi; cases hi
        | some z => rw [q] at hi; exact ⟨z, (Option.some.inj hi).symm⟩
      have hi63 : i < 63 := by
        have q := (List.getElem?_eq_some_iff.mp hi).1
        rw [List.length_map] at q
        omega
      refine ⟨_, rfl, _, rfl, z, e, by rw [he]; rfl, he2, g.tab, fun H2 q rs gr nq eq hrl hrs => ?_⟩
      have np2 : p ≠ q := ne_of_none hp nq
      have np0 : H p = none := (Grew.new hP nc).free np
      refine ⟨q, rfl, ⟨_, SqL.of eq⟩, for_list (K := K) (a := q) (xs := rs.map V.int) (fun j σ H' => ∃ v5 v6, σ = [some (.ref a), some (.int m), some (.ref c), some (.int (1 + (m : Int) / dv)), some (.ref p), v5, v6] ∧ Grew P H H' ∧ H' c = some (.lst (zs.map V.int)) ∧ H' q = some (.lst (rs.map V.int)) ∧ H' p = some (.lst ((ns ++ rs.take j).map V.int)))
        ⟨_, _, rfl, g.trans gr, gr.lst g.tab hcc, eq, by rw [List.take_zero, List.append_nil]; exact gr.lst g.tab hp⟩ (fun j σ H' _ ⟨_, _, _, _, _, h, _⟩ => SqL.of h) ?_ ?_⟩
      · rintro j y σ H3 hj ⟨w5, w6, rfl, g3, hc3, hq3, hp3⟩
        obtain ⟨z2, hz2, rfl⟩ : ∃ z, rs[j]? = some z ∧ y = V.int z := by
          rw [List.getElem?_map] at hj
          cases q : rs[j]? with
          | none => rw [q] at hj; cases hj
          | some z => rw [q] at hj; exact ⟨z, rfl, (Option.some.inj hj).symm⟩
        refine ⟨_, rfl, .inl ⟨rfl, _, SqL.of hp3⟩, _, rfl, p, _, _, rfl, rfl, hp3, ?_, _, _, rfl, g3.write hp3 (fun _ z => by cases z) np0, ?_, ?_, ?_⟩
        · rw [List.length_map, List.length_append, List.length_take, sizeLine_eq]; omega
        · rw [upd_ne ncp]; exact hc3
        · rw [upd_ne np2.symm]; exact hq3
        · rw [upd_same, List.take_succ, hz2]; simp
      · rintro σ H3 ⟨w5, w6, rfl, g3, hc3, hq3, hp3⟩
        rw [List.length_map, List.take_length] at hp3
        exact ⟨_, _, ns ++ rs, rfl, g3, hc3, hp3, by rw [List.length_append]; omega, hsm.app hrs⟩
    · rintro σ H' ⟨v5, v6, ns, rfl, g, hcc, hp, hln, hsm⟩
      rw [List.length_map] at hln
      have np0 : H p = none := (Grew.new hP nc).free np
      refine ⟨fun n σ H' => ∃ ns : List Int, σ = [some (.ref a), some (.int m), some (.ref c), some (.int (1 + (m : Int) / dv)), some (.ref p), v5, v6] ∧ Grew P H H' ∧ H' p = some (.lst (ns.map V.int)) ∧ ns.length ≤ 70000 ∧ Sm ns ∧ n = m - ns.length,
        ⟨_, ns, rfl, g, hp, by omega, hsm, rfl⟩, ?_⟩
      rintro n σ H3 ⟨ms, rfl, g3, hp3, hl3, hs3, rfl⟩
      refine ⟨_, rfl, p, _, rfl, .inl (SqL.of hp3), _, rfl, _, _, rfl, rfl, _, rfl, ?_⟩
      rw [List.length_map]
      refine ite2 (fun hlt => ?_) (fun hge => ?_)
      · have hlt' : (ms.length : Int) < m := of_decide_eq_true hlt
        refine ⟨_, fun _ _ h => h, _, rfl, .inl ⟨rfl, _, SqL.of hp3⟩, p, _, _, rfl, rfl, hp3, ?_, m - (ms.length + 1), by omega, ms ++ [0], rfl, g3.write hp3 (fun _ z => by cases z) np0, ?_, ?_, hs3.snoc (by decide) (by decide), ?_⟩
        · rw [List.length_map, sizeLine_eq]; omega
        · rw [upd_same, List.map_append]; rfl
        · rw [List.length_append, List.length_singleton]; omega
        · rw [List.length_append, List.length_singleton]
      · have hge' : ¬ (ms.length : Int) < m := fun z => hge (decide_eq_true z)
        refine ⟨_, rfl, _, rfl, _, rfl, p, _, rfl, SqL.of hp3, fun r nr => ?_⟩
        have ec2 := cutV_pre (ms.map V.int) m
        rw [ec2, ← List.map_take]
        exact k _ r (ms.take m) (g3.put nr) (g3.free nr) upd_same (by rw [List.length_take]; omega) (hs3.take m)
end
end W

set_option Elab.async false
set_option linter.all false
set_option maxRecDepth 100000
set_option maxHeartbeats 400000
namespace W
open PySem PySem.Spec PyProof.Rows L2 GxR MyG MyS
abbrev sLNames : Stmt := top 51
abbrev sLRoadG : Stmt := top 48
abbrev sLHours : Stmt := top 47
abbrev sLBarsG : Stmt := top 49
abbrev sLPartsG : Stmt := top 50
abbrev sLMade : Stmt := top 52
def zGood : Str := "abcdefghijklmnopqrstuvwxyz0123456789"
theorem str_len (z : Str) : z.length = z.cps.toList.length := by simp [Str.length]
/-! ### drawn names -/
/-- of the signs of names alone -/
def Gd (z : Str) : Prop := ∀ c ∈ z.cps.toList, goodC c = true
theorem good_all : ∀ c ∈ zGood.cps.toList, goodC c = true := by decide +kernel
theorem good_len : zGood.cps.toList.length = 36 := by decide +kernel
theorem good_nodup : zGood.cps.toList.Nodup := by decide +kernel
theorem good_let : ∀ c ∈ zGood.cps.toList.take 26, c ∈ zLet.cps.toList := by decide +kernel
theorem Gd.one {c : Nat} (h : c ∈ zGood.cps.toList) : Gd ⟨#[c]⟩ := fun x hx => by
  have e : x = c := by simpa using hx
  rw [e]; exact good_all c h
theorem app_cps (a b : Str) : (a ++ b).cps.toList = a.cps.toList ++ b.cps.toList := by
  show (a.cps ++ b.cps).toList = _
  exact Array.toList_append
theorem Gd.app {a b : Str} (h : Gd a) (k : Gd b) : Gd (a ++ b) := fun c hc => by
  rw [app_cps] at hc
  rcases List.mem_append.mp hc with hc | hc
  · exact h c hc
  · exact k c hc
theorem cutS_sub {z : Str} {lo hi : Option Int} {c : Nat} (h : c ∈ (cutS z lo hi).cps.toList) : c ∈ z.cps.toList := by
  unfold cutS at h
  have h2 : c ∈ (z.cps.toList.drop (HT.sIx z.length 0 lo)).take (HT.sIx z.length z.length hi - HT.sIx z.length 0 lo) := by simpa using h
  exact List.mem_of_mem_drop (List.mem_of_mem_take h2)
theorem Gd.cut {z : Str} (h : Gd z) (lo hi : Option Int) : Gd (cutS z lo hi) := fun c hc => h c (cutS_sub hc)
theorem fold_mem {sep : Str} {c : Nat} : ∀ (rest : List Str) (acc : Array Nat), c ∈ (rest.foldl (fun acc p => acc ++ sep.cps ++ p.cps) acc).toList → c ∈ acc.toList ∨ c ∈ sep.cps.toList ∨ ∃ p ∈ rest, c ∈ p.cps.toList
  | [], _, h => .inl h
  | p :: rest, acc, h => by
    rcases fold_mem rest _ h with h | h | ⟨q, hq, h⟩
    · rw [Array.toList_append, Array.toList_append] at h
      rcases List.mem_append.mp h with h | h
      · rcases List.mem_append.mp h with h | h
        · exact .inl h
        · exact .inr (.inl h)
      · exact .inr (.inr ⟨p, List.mem_cons_self, h⟩)
    · exact .inr (.inl h)
    · exact .inr (.inr ⟨q, List.mem_cons_of_mem _ hq, h⟩)
theorem Gd.join {ys : List Str} (h : ∀ y ∈ ys, Gd y) : Gd (Txt.join (Str.ofString "") ys) := fun c hc => by
  have hc2 : c ∈ ((ys.drop 1).foldl (fun acc p => acc ++ (Str.ofString "").cps ++ p.cps) (ys.headD Str.empty).cps).toList := hc
  rcases fold_mem _ _ hc2 with q | q | ⟨p, hp, q⟩
  · cases ys with
    | nil =>
      have e : (([] : List Str).headD Str.empty).cps.toList = [] := by decide +kernel
      rw [e] at q
      cases q
    | cons y ys => exact h y List.mem_cons_self c q
  · have e : (Str.ofString "").cps.toList = [] := by decide +kernel
    rw [e] at q
    cases q
  · exact h p (List.mem_of_mem_drop hp) c q
theorem join_len (ys : List Str) : (Txt.join (Str.ofString "") ys).length = (ys.map (·.length)).sum := by
  have e := size_glued (Str.ofString "") ys
  have e0 : (Str.ofString "").length = 0 := by decide +kernel
  rw [e0, Nat.mul_zero, Nat.add_zero] at e
  exact e
theorem cut_pre {z : Str} {k : Nat} (h : k ≤ z.length) : (cutS z none (some (k : Int))).cps.toList = z.cps.toList.take k := by
  unfold cutS
  rw [HT.sIx_none, HT.sIx_nat, List.drop_zero, Nat.sub_zero, Nat.min_eq_left h]
theorem cut_suf {z : Str} {k : Nat} (h : k ≤ z.length) : (cutS z (some (k : Int)) none).cps.toList = z.cps.toList.drop k := by
  unfold cutS
  rw [HT.sIx_none, HT.sIx_nat, Nat.min_eq_left h]
  show (z.cps.toList.drop k).take (z.length - k) = z.cps.toList.drop k
  refine List.take_of_length_le ?_
  rw [List.length_drop, str_len]
  exact Nat.le_refl _
theorem at_some {α : Type} {l : List α} {i : Int} (h0 : 0 ≤ i) (h1 : i < l.length) : ∃ c, atI l i = some c ∧ l[i.toNat]? = some c := by
  obtain ⟨n, rfl⟩ := Int.eq_ofNat_of_zero_le h0
  have hn : n < l.length := by omega
  exact ⟨l[n], atI_nat (List.getElem?_eq_getElem hn), List.getElem?_eq_getElem hn⟩
/-- a drawn name: the letter, a part, a sign, the rest -/
def nameOf (c : Nat) (z : Str) (k : Nat) (e : Nat) : Str := (((⟨#[c]⟩ : Str) ++ cutS z none (some (k : Int))) ++ (⟨#[e]⟩ : Str)) ++ cutS z (some (k : Int)) none
theorem nameOf_cps {c : Nat} {z : Str} {k e : Nat} (h : k ≤ z.length) : (nameOf c z k e).cps.toList = c :: (z.cps.toList.take k ++ e :: z.cps.toList.drop k) := by
  unfold nameOf
  rw [app_cps, app_cps, app_cps, cut_pre h, cut_suf h]
  simp
theorem nameOf_ok {c : Nat} {z : Str} {k e : Nat} (h : k ≤ z.length) (h10 : z.length ≤ 10) (hz : Gd z) (hc : c ∈ zLet.cps.toList) (he : e ∈ zGood.cps.toList) : isNm (nameOf c z k e) = true := by
  have q := nameOf_cps (c := c) (e := e) h
  have hl : (nameOf c z k e).length = z.length + 2 := by
    rw [str_len, q, List.length_cons, List.length_append, List.length_take, List.length_cons, List.length_drop, ← str_len]
    omega
  unfold isNm
  rw [q]
  simp only [Bool.and_eq_true, decide_eq_true_eq]
  refine ⟨⟨⟨by omega, by omega⟩, hc⟩, List.all_eq_true.mpr fun x hx => ?_⟩
  rcases List.mem_cons.mp hx with e1 | hx
  · subst e1
    unfold goodC
    rw [decide_eq_true hc]; rfl
  · rcases List.mem_append.mp hx with hx | hx
    · exact hz x (List.mem_of_mem_take hx)
    · rcases List.mem_cons.mp hx with e2 | hx
      · subst e2; exact good_all _ he
      · exact hz x (List.mem_of_mem_drop hx)
end W

set_option Elab.async false
set_option linter.all false
set_option maxRecDepth 100000
set_option maxHeartbeats 400000
namespace W
open PySem PySem.Spec PyProof.Rows L2 GxR MyG MyS
theorem heads_nodup (n : Int) {m : Nat} (hm : m ≤ 9) : ((List.range m).map fun (j : Nat) => zGood.cps.toList[((n + 3 * (j : Int)) % 26).toNat]?).Nodup := by
  refine List.pairwise_map.mpr (List.pairwise_iff_getElem.mpr fun a b ha hb hab e => ?_)
  rw [List.length_range] at ha hb
  rw [List.getElem_range, List.getElem_range] at e
  have h1 : ((n + 3 * (a : Int)) % 26).toNat < zGood.cps.toList.length := by rw [good_len]; omega
  have q := (List.getElem?_inj h1 good_nodup).mp e
  omega
def spLNames (P : Addr) : Sp := fun vs H Q _ => ∃ (n : Int) (m : Nat), vs = [.int n, .int m] ∧ 0 ≤ n ∧ m ≤ 9 ∧ TabG H P ∧ ∀ H' p (ns : List Str), Grew P H H' → H p = none → H' p = some (.lst (ns.map V.str)) → ns.length = m → ns.all isNm = true → ns.Nodup → (ns.map fun z => z.cps.toList.head?).Nodup → Q (.ref p) H'
abbrev nLNames : List Str := ["number", "many", "letters", "size", "k", "rest", "place", "names", "own", "spot", "step", "first"]
def rInt1 : List V → Hp → VK → Prop := fun xs H Q => (∃ i, xs = [.int i] ∧ Q (.int i) H) ∨ ∃ k, xs = [.bl k] ∧ Q (.int (if k then 1 else 0)) H
/-- the first signs differ -/
def heads (ns : List Str) : List (Option Nat) := ns.map fun z => z.cps.toList.head?
section
variable {Pg : Program} {w : World} {K : PySem.W.Frag} {mg : Str → Option Value} {base : Heap} {C P : Addr}
theorem scLNames : FnScope nLNames ["number", "many"] (defScope sLNames) := ⟨rfl, rfl, rfl, by decide +kernel, rfl, by decide +kernel, by decide +kernel⟩
theorem ok_lnames {f : Addr} {fd : FuncData} (F : Fun K "_law_names" "_law_names" sLNames f fd) (hi : mg "int" = none) (hr' : mg "range" = none) (hl : mg "len" = none) (hm : mg "min" = none) : FnOk Pg w K mg base CX0 1 f fd ["number", "many"] (spLNames P) := by
  refine F.ok scLNames (fun vs H Q E h => ?_) (fun cdv A outer s H vs Q E hr h => ?_)
  · obtain ⟨n, m, rfl, _⟩ := h
    rfl
  · obtain ⟨n, m, rfl, hn, hm9, hP, k⟩ := h
    refine ⟨_, pss_cons (ps_set (i := 2) scLNames.nd rfl (Or.inr rfl) pe_str)
      (pss_cons (ps_set (i := 3) scLNames.nd rfl (Or.inl rfl) (pe_op op_mod (pe_callTy call_int1 (by rfl) hi (by decide +kernel) (pa_cons (pv 0) pa_nil)) pe_int))
      (pss_cons (ps_set (i := 5) scLNames.nd rfl (Or.inl rfl) (pe_join pe_str (pe_lc (own := [("k", 4)]) (g := gName 4) (tt := tYes) rfl scLNames.nd (pi_range1 rfl hr' (pa_cons (pv 3) pa_nil)) (blkOk_by (N := nLNames) (sc := defScope sLNames) (by decide +kernel)) (fun _ _ _ _ _ => pg_name (i := 4) scLNames.nd rfl (Or.inl rfl)) (fun _ _ _ _ _ => pts_nil)
          (fun _ _ _ _ _ => pe_ix (r := rIxS) ix_str (pv 2) (pe_op op_mod (pe_callTy (r := rInt1) call_int1 (by rfl) hi (by decide +kernel) (pa_cons (pe_op op_add (pv 0) (pe_op op_mul (pe_op op_mul pe_int (pv 4)) (pv 4))) pa_nil)) pe_int) (fun _ _ => rfl)))))
      (pss_cons (ps_set (i := 6) scLNames.nd rfl (Or.inl rfl) (pe_op op_mod (pe_callTy call_int1 (by rfl) hi (by decide +kernel) (pa_cons (pe_op op_fdiv (pv 0) pe_int) pa_nil)) (pe_op op_add (pv 3) pe_int)))
      (pss_cons (ps_set (i := 7) scLNames.nd rfl (Or.inl rfl) (pe_lst pa_nil))
      (pss_cons (ps_for PassesOwn.never rfl (pi_range1 rfl hr' (pa_cons (pv 1) pa_nil)) (pg_name (i := 4) scLNames.nd rfl (Or.inl rfl))
        (pss_cons (ps_set (i := 8) scLNames.nd rfl (Or.inl rfl) (pv 5))
        (C8.pss_cut (ps_if (pt_cmpR op_eq (pe_op op_mod (pe_callTy call_int1 (by rfl) hi (by decide +kernel) (pa_cons (pe_op op_add (pe_op op_fdiv (pv 0) pe_int) (pv 4)) pa_nil)) pe_int) pe_int (nomark _))
          (pss_one (ps_set (i := 8) scLNames.nd rfl (Or.inl rfl) (pe_slice sl_str (pv 5) (po_some pe_int) po_none))) pss_nil)
        (pss_cons (ps_set (i := 9) scLNames.nd rfl (Or.inl rfl) (pe_callB (call_min2 rfl) (by rfl) hm (by decide +kernel) (pa_cons (pv 6) (pa_cons (pe_callB call_len_str (by rfl) hl PySem.boot_len (pa_cons (pv 8) pa_nil)) pa_nil))))
        (pss_cons (ps_set (i := 10) scLNames.nd rfl (Or.inl rfl) pe_int)
        (C8.pss_cut (ps_if (pt_cmpR op_eq (pe_op op_mod (pe_callTy call_int1 (by rfl) hi (by decide +kernel) (pa_cons (pe_op op_fdiv (pv 0) pe_int) pa_nil)) pe_int) pe_int (nomark _))
          (pss_one (ps_set (i := 10) scLNames.nd rfl (Or.inl rfl) pe_int)) pss_nil)
        (pss_cons (ps_set (i := 11) scLNames.nd rfl (Or.inl rfl) (pe_op op_add_str (pe_ix ix_str (pv 2) (pe_op op_mod (pe_callTy call_int1 (by rfl) hi (by decide +kernel) (pa_cons (pe_op op_add (pv 0) (pe_op op_mul pe_int (pv 4))) pa_nil)) pe_int) (fun _ _ => rfl)) (pe_slice sl_str (pv 8) po_none (po_some (pv 9)))))
        (pss_one (ps_expr (pe_bm PySem.F.plainAttrs_list PySem.F.slot_list_append PySem.F.type_list_append mt_append (pv 7) (pa_cons
          (pe_op op_add_str (pe_op op_add_str (pv 11) (pe_ix ix_str (pv 2) (pe_op op_mod (pe_callTy call_int1 (by rfl) hi (by decide +kernel) (pa_cons (pe_op op_add (pv 0) (pe_op op_mul (pv 10) (pv 4))) pa_nil)) pe_int) (fun _ _ => rfl))) (pe_slice sl_str (pv 8) (po_some (pv 9)) po_none)) pa_nil)))))))))))
      (pss_one (ps_ret (pv 7)))))))), ?_⟩
    have sG : zGood.length ≤ sizeLine := by rw [str_len, good_len, sizeLine_eq]; decide
    refine ⟨_, rfl, .inl ⟨_, rfl, _, _, rfl, rfl, (show (0 : Int) < 11 by decide), ?_⟩⟩
    have hsz : 0 ≤ n % 11 ∧ n % 11 < 11 := by omega
    refine ⟨⟨_, rfl⟩, _, rfl, n % 11, rfl, by omega, by omega, fun D nD => lc_range (n := (n % 11).toNat) (fun i H1 => Grew P H H1 ∧ ∃ ys : List Str, H1 D = some (.lst (ys.map V.str)) ∧ ys.length = i ∧ ∀ y ∈ ys, Gd y ∧ y.length = 1)
      ⟨Grew.new hP nD, [], upd_same, rfl, fun y hy => by cases hy⟩ (fun i H1 hi p => ?_) (fun H1 p => ?_)⟩
    · obtain ⟨g, ys, hD, hl1, hy⟩ := p
      have hb : 0 ≤ (n + 7 * (0 + (i : Int)) * (0 + (i : Int))) % 36 ∧ (n + 7 * (0 + (i : Int)) * (0 + (i : Int))) % 36 < 36 := by omega
      obtain ⟨c, ec, ec2⟩ := at_some (l := zGood.cps.toList) hb.1 (by rw [good_len]; exact hb.2)
      refine ⟨rfl, _, rfl, _, rfl, _, rfl, _, _, rfl, rfl, .inl ⟨by decide, by decide⟩, _, rfl, _, _, rfl, rfl, .inr ⟨by omega, by omega⟩, _, _, rfl, rfl, .inl ⟨_, rfl, _, _, rfl, rfl, (show (0 : Int) < 36 by decide), _, _, c, rfl, rfl, sG, ec, _, hD, ?_, g.write hD (fun _ z => by cases z) nD, ys ++ [⟨#[c]⟩], ?_, ?_, ?_⟩⟩
      · rw [List.length_map, hl1, sizeLine_eq]; omega
      · rw [upd_same, List.map_append]; rfl
      · rw [List.length_append, hl1]; rfl
      · intro y hy2
        rcases List.mem_append.mp hy2 with hy2 | hy2
        · exact hy y hy2
        · rw [List.mem_singleton.mp hy2]
          exact ⟨Gd.one (List.mem_of_getElem? ec2), rfl⟩
    · obtain ⟨g, ys, hD, hl1, hy⟩ := p
      have hsum : ∀ ys : List Str, (∀ y ∈ ys, y.length = 1) → (ys.map (·.length)).sum = ys.length := by
        intro ys
        induction ys with
        | nil => intro _; rfl
        | cons y ys ih =>
          intro h
          rw [List.map_cons, List.sum_cons, ih fun z hz => h z (List.mem_cons_of_mem _ hz), h y List.mem_cons_self, List.length_cons]
          omega
      have hs1 := hsum ys fun y h => (hy y h).2
      have e0 : (Str.ofString "").length = 0 := by decide +kernel
      refine ⟨_, D, ys, rfl, rfl, .inl (SqL.of hD), by rw [hs1, e0]; omega, ?_⟩
      have hjl := join_len ys
      have hjg := Gd.join fun y h => (hy y h).1
      rw [hs1] at hjl
      generalize Txt.join (Str.ofString "") ys = rest at hjl hjg ⊢
      have hr10 : rest.length ≤ 10 := by omega
      refine ⟨_, rfl, _, _, rfl, rfl, ⟨by decide, by decide⟩, .inl ⟨_, rfl, _, rfl, _, _, rfl, rfl, _, _, rfl, rfl, (show (0 : Int) < n % 11 + 1 by omega), ?_⟩⟩
      have hpl : 0 ≤ n / 11 % (n % 11 + 1) := Int.emod_nonneg _ (by omega)
      refine ⟨Nat.zero_le _, fun p np => ?_⟩
      refine ⟨_, rfl, m, rfl, by omega, by omega, for_range (n := m) (fun i σ H' => ∃ kv ov sv tv fv, ∃ ns : List Str, σ = [some (.int n), some (.int m), some (.str zGood), some (.int (n % 11)), kv, some (.str rest), some (.int (n / 11 % (n % 11 + 1))), some (.ref p), ov, sv, tv, fv] ∧ Grew P H H' ∧ H' p = some (.lst (ns.map V.str)) ∧ ns.length = i ∧ ns.all isNm = true ∧
          heads ns = (List.range i).map fun (j : Nat) => zGood.cps.toList[((n + 3 * (j : Int)) % 26).toNat]?)
        ⟨none, none, none, none, none, [], rfl, g.put np, upd_same, rfl, rfl, rfl⟩ ?_ ?_⟩
      · rintro i σ H' hi ⟨kv, ov, sv, tv, fv, ns, rfl, g1, hp, hln, hall, hheads⟩
        refine ⟨_, rfl, ?_⟩
        -- own
        refine ⟨fun σ2 H2 => ∃ own : Str, σ2 = [some (.int n), some (.int m), some (.str zGood), some (.int (n % 11)), some (.int (0 + (i : Int))), some (.str rest), some (.int (n / 11 % (n % 11 + 1))), some (.ref p), some (.str own), sv, tv, fv] ∧ own.length ≤ 10 ∧ Gd own ∧ H2 = H', ?_, ?_⟩
        · refine ⟨_, rfl, _, _, rfl, rfl, ⟨by decide, by decide⟩, _, rfl, _, _, rfl, rfl, .inl ⟨_, rfl, _, _, rfl, rfl, (show (0 : Int) < 3 by decide), rfl, _, rfl, ?_⟩⟩
          refine ite2 (fun _ => ?_) (fun _ => ?_)
          · have hc : (cutS rest (some 1) none).length ≤ 10 := by
              rw [str_len]
              have q : (cutS rest (some 1) none).cps.toList.length ≤ rest.cps.toList.length := by
                unfold cutS
                show ((rest.cps.toList.drop _).take _).toArray.toList.length ≤ _
                rw [List.toList_toArray, List.length_take, List.length_drop]
                omega
              rw [← str_len rest] at q
              omega
            exact ⟨_, rfl, 1, rfl, rest, rfl, by rw [sizeLine_eq]; omega, _, rfl, hc, hjg.cut _ _, rfl⟩
          · exact ⟨rest, rfl, hr10, hjg, rfl⟩
        rintro σ2 H2 ⟨own, rfl, ho10, hog, rfl⟩
        -- spot
        refine ⟨_, rfl, _, rfl, own, rfl, by rw [sizeLine_eq]; omega, _, _, rfl, ?_⟩
        obtain ⟨sp, hsp, hsp2⟩ : ∃ sp : Nat, (if ((own.length : Nat) : Int) < n / 11 % (n % 11 + 1) then ((own.length : Nat) : Int) else n / 11 % (n % 11 + 1)) = (sp : Int) ∧ sp ≤ own.length := by
          by_cases c : ((own.length : Nat) : Int) < n / 11 % (n % 11 + 1)
          · exact ⟨own.length, if_pos c, Nat.le_refl _⟩
          · refine ⟨(n / 11 % (n % 11 + 1)).toNat, ?_, by omega⟩
            rw [if_neg c]
            omega
        rw [hsp]
        -- step
        refine ⟨fun σ2 H3 => ∃ st : Int, σ2 = [some (.int n), some (.int m), some (.str zGood), some (.int (n % 11)), some (.int (0 + (i : Int))), some (.str rest), some (.int (n / 11 % (n % 11 + 1))), some (.ref p), some (.str own), some (.int sp), some (.int st), fv] ∧ 0 ≤ st ∧ st ≤ 31 ∧ H3 = H2, ?_, ?_⟩
        · refine ⟨_, rfl, _, _, rfl, rfl, ⟨by decide, by decide⟩, .inl ⟨_, rfl, _, _, rfl, rfl, (show (0 : Int) < 2 by decide), rfl, _, rfl, ?_⟩⟩
          refine ite2 (fun _ => ?_) (fun _ => ?_)
          · exact ⟨31, rfl, by decide, by decide, rfl⟩
          · exact ⟨5, rfl, by decide, by decide, rfl⟩
        rintro σ2 H3 ⟨st, rfl, hst1, hst2, rfl⟩
        have b1 : 0 ≤ (n + 3 * (0 + (i : Int))) % 26 ∧ (n + 3 * (0 + (i : Int))) % 26 < 26 := by omega
        have b2 : 0 ≤ (n + st * (0 + (i : Int))) % 36 ∧ (n + st * (0 + (i : Int))) % 36 < 36 := by omega
        obtain ⟨c, ec, ec'⟩ := at_some (l := zGood.cps.toList) b1.1 (by rw [good_len]; omega)
        obtain ⟨e, ee, ee'⟩ := at_some (l := zGood.cps.toList) b2.1 (by rw [good_len]; exact b2.2)
        have l1 : (cutS own none (some (sp : Int))).length = sp := by
          rw [str_len, cut_pre hsp2, List.length_take, ← str_len]; omega
        have l2 : (cutS own (some (sp : Int)) none).length = own.length - sp := by
          rw [str_len, cut_suf hsp2, List.length_drop, ← str_len]
        have lo : ∀ c : Nat, (⟨#[c]⟩ : Str).length = 1 := fun _ => rfl
        have s1 : ((⟨#[c]⟩ : Str) ++ cutS own none (some (sp : Int))).length = 1 + sp := by rw [PySem.Str.length_append, l1, lo]
        have s2 : ((⟨#[c]⟩ : Str) ++ cutS own none (some (sp : Int)) ++ (⟨#[e]⟩ : Str)).length = 1 + sp + 1 := by rw [PySem.Str.length_append, s1, lo]
        refine ⟨_, rfl, _, rfl, _, rfl, _, _, rfl, rfl, .inl ⟨by decide, by decide⟩, _, _, rfl, rfl, .inl ⟨_, rfl, _, _, rfl, rfl, (show (0 : Int) < 26 by decide), _, _, c, rfl, rfl, sG, ec, _, rfl, _, rfl, _, rfl, own, rfl, by rw [sizeLine_eq]; omega, _, _, rfl, rfl, by rw [l1, lo, sizeLine_eq]; omega, ?_⟩⟩
        refine ⟨_, rfl, .inl ⟨rfl, _, SqL.of hp⟩, _, rfl, _, rfl, _, rfl, _, rfl, _, rfl, _, _, rfl, rfl, .inl ⟨by omega, by omega⟩, _, _, rfl, rfl, .inl ⟨_, rfl, _, _, rfl, rfl, (show (0 : Int) < 36 by decide), _, _, e, rfl, rfl, sG, ee, _, _, rfl, rfl, by rw [s1, lo, sizeLine_eq]; omega,
          _, rfl, _, rfl, _, rfl, own, rfl, by rw [sizeLine_eq]; omega, _, _, rfl, rfl, by rw [s2, l2, sizeLine_eq]; omega, p, _, _, rfl, rfl, hp, by rw [List.length_map, hln, sizeLine_eq]; omega, ?_⟩⟩
        have hok : isNm (nameOf c own sp e) = true := nameOf_ok hsp2 ho10 hog (good_let c ?_) (List.mem_of_getElem? ee')
        · refine ⟨_, _, _, _, _, ns ++ [nameOf c own sp e], rfl, g1.write hp (fun _ z => by cases z) (g.free np), ?_, ?_, ?_, ?_⟩
          · rw [upd_same, List.map_append]; rfl
          · rw [List.length_append, hln]; rfl
          · rw [List.all_append, hall, List.all_cons, hok]; rfl
          · unfold heads at hheads ⊢
            rw [List.map_append, hheads, List.range_succ, List.map_append]
            congr 1
            show [(nameOf c own sp e).cps.toList.head?] = [_]
            rw [nameOf_cps hsp2]
            have ez : (0 : Int) + (i : Int) = (i : Int) := by omega
            rw [ez] at ec'
            exact congrArg (fun z => [z]) ec'.symm
        · exact List.mem_of_getElem? (i := ((n + 3 * (0 + (i : Int))) % 26).toNat) (by rw [List.getElem?_take_of_lt (by omega)]; exact ec')
      · rintro σ H' ⟨kv, ov, sv, tv, fv, ns, rfl, g1, hp, hln, hall, hheads⟩
        have nd : (heads ns).Nodup := by
          rw [hheads]
          exact heads_nodup n hm9
        refine ⟨_, rfl, k H' p ns g1 (g.free np) hp hln hall ?_ nd⟩
        exact List.Pairwise.of_map _ (fun a b hne e => hne (congrArg (fun z : Str => z.cps.toList.head?) e)) nd
end
end W

set_option Elab.async false
set_option linter.all false
set_option maxRecDepth 100000
set_option maxHeartbeats 400000
namespace W
open PySem PySem.Spec PyProof.Rows L2 GxR MyG MyS
theorem at_num {ns : List Int} (hs : Sm ns) {i : Int} (h0 : 0 ≤ i) (h1 : i < ns.length) : ∃ n, atI (ns.map V.int) i = some (.int n) ∧ 0 ≤ n ∧ n < 1009 := by
  obtain ⟨k, rfl⟩ := Int.eq_ofNat_of_zero_le h0
  have hn : k < ns.length := by omega
  refine ⟨ns[k], atI_nat (by rw [List.getElem?_map, List.getElem?_eq_getElem hn]; rfl), hs _ (List.getElem_mem hn)⟩
def lastP (c : Int) (ps : List (Int × Int)) : Int := (ps.getLast?.map (·.2)).getD c
theorem hoursOk_snoc {d : Int} {q : Int × Int} : ∀ {ps : List (Int × Int)} {c : Int}, hoursOk d c ps → lastP c ps < q.1 → q.1 < q.2 → q.2 ≤ d → hoursOk d c (ps ++ [q])
  | [], _, _, h1, h2, h3 => ⟨h1, h2, h3, True.intro⟩
  | p :: ps, c, h, h1, h2, h3 => by
    refine ⟨h.1, h.2.1, h.2.2.1, hoursOk_snoc h.2.2.2 ?_ h2 h3⟩
    have e : lastP c (p :: ps) = lastP p.2 ps := by
      unfold lastP
      cases ps with
      | nil => rfl
      | cons a l =>
        rw [List.getLast?_cons_cons]
        cases h : (a :: l).getLast? with
        | none => simp at h
        | some z => rfl
    rw [← e]; exact h1
theorem lastP_snoc (c : Int) (ps : List (Int × Int)) (q : Int × Int) : lastP c (ps ++ [q]) = q.2 := by
  unfold lastP
  rw [List.getLast?_concat]
  rfl
def spLHours (K : PySem.W.Frag) (P : Addr) : Sp := fun vs H Q _ => ∃ (a : Addr) (ns : List Int) (at_ d : Int), vs = [.ref a, .int at_, .int d] ∧ SqL K H a (ns.map V.int) ∧ Sm ns ∧ 0 ≤ at_ ∧ at_ + 4 ≤ ns.length ∧ 1 ≤ d ∧ TabG H P ∧ ∀ H' hs v, Grew P H H' → GHours K H' hs v → HoursOk d hs → Q v H'
section
variable {Pg : Program} {w : World} {K : PySem.W.Frag} {mg : Str → Option Value} {base : Heap} {C P : Addr}
abbrev nLHours : List Str := ["numbers", "at", "day", "hours", "last", "k", "opened", "closed"]
theorem scLHours : FnScope nLHours ["numbers", "at", "day"] (defScope sLHours) := ⟨rfl, rfl, rfl, by decide +kernel, rfl, by decide +kernel, by decide +kernel⟩
theorem ok_lhours {f : Addr} {fd : FuncData} (F : Fun K "_law_hours" "_law_hours" sLHours f fd) (hi : mg "int" = none) (ht : mg "tuple" = none) (hr' : mg "range" = none) : FnOk Pg w K mg base CX0 1 f fd ["numbers", "at", "day"] (spLHours K P) := by
  refine F.ok scLHours (fun vs H Q E h => ?_) (fun cdv A outer s H vs Q E hr h => ?_)
  · obtain ⟨a, ns, at_, d, rfl, _⟩ := h
    rfl
  · obtain ⟨a, ns, at_, d, rfl, hS, hsm, ha0, ha1, hd, hP, k⟩ := h
    refine ⟨_, pss_cons (ps_if (pt_cmpR op_eq (pe_op op_mod (pe_callTy call_int1 (by rfl) hi (by decide +kernel) (pa_cons (pe_ix ix_list (pv 0) (pv 1) (fun _ _ => rfl)) pa_nil)) pe_int) pe_int (nomark _)) (pss_one (ps_ret pe_non)) pss_nil)
      (pss_cons (ps_set (i := 3) scLHours.nd rfl (Or.inl rfl) (pe_lst pa_nil))
      (pss_cons (ps_set (i := 4) scLHours.nd rfl (Or.inl rfl) (pe_un un_neg pe_int))
      (pss_cons (ps_for PassesOwn.never rfl (pi_range1 rfl hr' (pa_cons (pe_op op_mod (pe_callTy call_int1 (by rfl) hi (by decide +kernel) (pa_cons (pe_ix ix_list (pv 0) (pv 1) (fun _ _ => rfl)) pa_nil)) pe_int) pa_nil)) (pg_name (i := 5) scLHours.nd rfl (Or.inl rfl))
        (pss_cons (ps_set (i := 6) scLHours.nd rfl (Or.inl rfl) (pe_op op_add (pe_op op_add (pv 4) pe_int) (pe_op op_mod (pe_callTy call_int1 (by rfl) hi (by decide +kernel) (pa_cons (pe_ix ix_list (pv 0) (pe_op op_add (pe_op op_add (pv 1) pe_int) (pv 5)) (fun _ _ => rfl)) pa_nil)) pe_int)))
        (pss_cons (ps_set (i := 7) scLHours.nd rfl (Or.inl rfl) (pe_op op_add (pe_op op_add (pv 6) pe_int) (pe_op op_mod (pe_callTy call_int1 (by rfl) hi (by decide +kernel) (pa_cons (pe_op op_fdiv (pe_ix ix_list (pv 0) (pe_op op_add (pe_op op_add (pv 1) pe_int) (pv 5)) (fun _ _ => rfl)) pe_int) pa_nil)) pe_int)))
        (pss_one (ps_if (pt_cmpR op_le (pv 7) (pv 2) (nomark _))
          (pss_cons (ps_expr (pe_bm PySem.F.plainAttrs_list PySem.F.slot_list_append PySem.F.type_list_append mt_append (pv 3) (pa_cons (pe_tup (pa_cons (pv 6) (pa_cons (pv 7) pa_nil))) pa_nil)))
          (pss_one (ps_set (i := 4) scLHours.nd rfl (Or.inl rfl) (pv 7)))) pss_nil)))))
      (pss_one (ps_ret (pe_callTy call_tuple_of (by rfl) ht (by decide +kernel) (pa_cons (pv 3) pa_nil))))))), ?_⟩
    obtain ⟨n0, e0, l0, u0⟩ := at_num hsm (i := at_) ha0 (by omega)
    refine ⟨_, rfl, _, rfl, a, _, _, _, rfl, rfl, hS, e0, .inl ⟨_, rfl, _, _, rfl, rfl, (show (0 : Int) < 3 by decide), rfl, _, rfl, ?_⟩⟩
    refine ite2 (fun _ => k H none .non (Grew.refl hP) rfl True.intro) (fun _ => ?_)
    refine ⟨Nat.zero_le _, fun p np => ⟨1, rfl, ?_⟩⟩
    have g1 := Grew.new hP (o := .lst []) np
    refine ⟨_, rfl, _, rfl, a, _, _, _, rfl, rfl, g1.sqL hP hS, e0, .inl ⟨_, rfl, _, _, rfl, rfl, (show (0 : Int) < 4 by decide), n0 % 4, rfl, by omega, by omega,
      for_range (n := (n0 % 4).toNat) (fun i σ H' => ∃ kv ov cv, ∃ (ps : List (Int × Int)) (xs : List V), σ = [some (.ref a), some (.int at_), some (.int d), some (.ref p), some (.int (lastP (-1) ps)), kv, ov, cv] ∧ Grew P H H' ∧ H' p = some (.lst xs) ∧ Paired (GPair K H') ps xs ∧ ps.length ≤ i ∧ hoursOk d (-1) ps)
        ⟨none, none, none, [], [], rfl, g1, upd_same, .nil, Nat.le_refl _, True.intro⟩ ?_ ?_⟩⟩
    · rintro i σ H' hi ⟨kv, ov, cv, ps, xs, rfl, g, hp, hps, hln, hok⟩
      have hi3 : i < 3 := by omega
      obtain ⟨n2, e2, l2, u2⟩ := at_num hsm (i := at_ + 1 + (0 + (i : Int))) (by omega) (by omega)
      have hS2 := g.sqL hP hS
      refine ⟨_, rfl, _, _, rfl, rfl, _, rfl, _, rfl, _, _, rfl, rfl, _, rfl, _, _, rfl, rfl, a, _, _, _, rfl, rfl, hS2, e2, .inl ⟨_, rfl, _, _, rfl, rfl, (show (0 : Int) < 4 by decide), _, _, rfl, rfl, ?_⟩⟩
      refine ⟨_, rfl, _, _, rfl, rfl, _, rfl, _, rfl, _, _, rfl, rfl, _, rfl, _, _, rfl, rfl, a, _, _, _, rfl, rfl, hS2, e2, _, _, rfl, rfl, ⟨by decide, by decide⟩, .inl ⟨_, rfl, _, _, rfl, rfl, (show (0 : Int) < 6 by decide), _, _, rfl, rfl, ?_⟩⟩
      have r1 : 0 ≤ n2 % 4 := Int.emod_nonneg _ (by omega)
      have r2 : 0 ≤ n2 / 4 % 6 := Int.emod_nonneg _ (by omega)
      refine ⟨_, rfl, _, rfl, _, _, rfl, rfl, _, rfl, ?_⟩
      refine ite2 (fun hle => ?_) (fun _ => ⟨_, _, _, ps, xs, rfl, g, hp, hps, by omega, hok⟩)
      have hle' := of_decide_eq_true hle
      refine ⟨_, rfl, .inl ⟨rfl, _, SqL.of hp⟩, _, rfl, _, rfl, by show 2 ≤ sizeLine; decide, fun q hq => ?_⟩
      have gq := g.put (o := .tup [.int (lastP (-1) ps + 1 + n2 % 4), .int (lastP (-1) ps + 1 + n2 % 4 + 1 + n2 / 4 % 6)]) hq
      have hpq := (Grew.new g.tab (o := .tup [.int (lastP (-1) ps + 1 + n2 % 4), .int (lastP (-1) ps + 1 + n2 % 4 + 1 + n2 / 4 % 6)]) hq).lst g.tab hp
      have lx := Paired.len hps
      have kt := KeepT.trans (KeepT.new (K := K) (o := .tup [.int (lastP (-1) ps + 1 + n2 % 4), .int (lastP (-1) ps + 1 + n2 % 4 + 1 + n2 / 4 % 6)]) hq) (KeepT.lst (o := .lst (xs ++ [.ref q])) hpq)
      refine ⟨p, _, _, rfl, rfl, hpq, by rw [sizeLine_eq]; omega, _, rfl, some (.int (0 + (i : Int))), some (.int (lastP (-1) ps + 1 + n2 % 4)), some (.int (lastP (-1) ps + 1 + n2 % 4 + 1 + n2 / 4 % 6)), ps ++ [(lastP (-1) ps + 1 + n2 % 4, lastP (-1) ps + 1 + n2 % 4 + 1 + n2 / 4 % 6)], xs ++ [.ref q], ?_, gq.write hpq (fun _ z => by cases z) np, upd_same, ?_, ?_, ?_⟩
      · rw [lastP_snoc]; rfl
      · refine Paired.snoc (Paired.map' hps fun _ _ m => m.keep kt) ⟨q, rfl, ?_⟩
        exact (KeepT.lst (K := K) (o := .lst (xs ++ [.ref q])) hpq) _ _ (SqT.of upd_same)
      · rw [List.length_append, List.length_singleton]; omega
      · exact hoursOk_snoc hok (by show lastP (-1) ps < lastP (-1) ps + 1 + n2 % 4; omega) (by show lastP (-1) ps + 1 + n2 % 4 < lastP (-1) ps + 1 + n2 % 4 + 1 + n2 / 4 % 6; omega) hle'
    · rintro σ H' ⟨kv, ov, cv, ps, xs, rfl, g, hp, hps, hln, hok⟩
      refine ⟨_, rfl, p, _, rfl, .inl ⟨SqL.of hp, fun q nq => ?_⟩⟩
      exact k _ (some ps) _ (g.put nq) ⟨q, xs, rfl, SqT.of upd_same, Paired.map' hps fun _ _ m => m.keep (KeepT.new nq)⟩ ⟨by omega, hok⟩
end
end W

set_option Elab.async false
set_option linter.all false
set_option maxRecDepth 100000
set_option maxHeartbeats 1000000
namespace W
open PySem PySem.Spec PyProof.Rows L2 GxR MyG MyS
/-! ### _law_road (parts of tuples) -/
theorem at_str {ns : List Str} {i : Int} (h0 : 0 ≤ i) (h1 : i < ns.length) : ∃ z, atI (ns.map V.str) i = some (.str z) ∧ ns[i.toNat]? = some z ∧ z ∈ ns := by
  obtain ⟨k, rfl⟩ := Int.eq_ofNat_of_zero_le h0
  have hn : k < ns.length := by omega
  exact ⟨ns[k], atI_nat (by rw [List.getElem?_map, List.getElem?_eq_getElem hn]; rfl), by rw [Int.toNat_natCast]; exact List.getElem?_eq_getElem hn, List.getElem_mem hn⟩
def spLRoadG (K : PySem.W.Frag) (P : Addr) : Sp := fun vs H Q _ => ∃ (a ki pl : Addr) (ns : List Int) (at_ d : Int) (z : Str) (ks ps : List Str), vs = [.ref a, .int at_, .str z, .int d, .ref ki, .ref pl] ∧ SqL K H a (ns.map V.int) ∧ Sm ns ∧ 0 ≤ at_ ∧ at_ + 9 ≤ ns.length ∧ 1 ≤ d ∧ H ki = some (.tup (ks.map V.str)) ∧ SqT K H pl (ps.map V.str) ∧ 1 ≤ ps.length ∧ ks.length ≤ 4 ∧ ks.Nodup ∧ TabG H P ∧
  ∀ H' r t, Grew P H H' → H t = none → RoadAt K H' r (.ref t) → r.name = z → RoadOk d ps ks r → Q (.ref t) H'
theorem of9 (j : Int) (h0 : 0 ≤ j) (h3 : j < 3) : ∃ c : Int, atI [V.int 9, V.int 9, V.int 40] j = some (.int c) ∧ 0 < c ∧ c ≤ 40 := by
  have : j = 0 ∨ j = 1 ∨ j = 2 := by omega
  rcases this with rfl | rfl | rfl <;> exact ⟨_, rfl, by decide, by decide⟩
section
variable {Pg : Program} {w : World} {K : PySem.W.Frag} {mg : Str → Option Value} {base : Heap} {C P : Addr}
abbrev nRoadG : List Str := ["numbers", "at", "name", "day", "kinds", "places", "start", "end", "minutes", "used", "k"]
theorem scRoadG : FnScope nRoadG ["numbers", "at", "name", "day", "kinds", "places"] (defScope sLRoadG) := ⟨rfl, rfl, rfl, by decide +kernel, rfl, by decide +kernel, by decide +kernel⟩
theorem ok_lroadG {f fH : Addr} {fd fdH : FuncData} (F : Fun K "_law_road" "_law_road" sLRoadG f fd) (hi : mg "int" = none) (hl : mg "len" = none) (ht : mg "tuple" = none) (hr' : mg "range" = none)
    (GH : FnOk Pg w K mg base CX0 1 fH fdH ["numbers", "at", "day"] (spLHours K P)) (gH : mg "_law_hours" = some (.ref fH)) (kH : PySem.W.keepIn K (.ref fH) = true) (bH : Binds K fdH ["numbers", "at", "day"] []) :
    FnOk Pg w K mg base CX0 2 f fd ["numbers", "at", "name", "day", "kinds", "places"] (spLRoadG K P) := by
  refine F.ok scRoadG (fun vs H Q E h => ?_) (fun cdv A outer s H vs Q E hr h => ?_)
  · obtain ⟨a, ki, pl, ns, at_, d, z, ks, ps, rfl, _⟩ := h
    rfl
  · obtain ⟨a, ki, pl, ns, at_, d, z, ks, ps, rfl, hS, hsm, ha0, ha1, hd, hki, hpl, lp, lk, ndk, hP, k⟩ := h
    refine ⟨_, pss_cons (ps_set (i := 6) scRoadG.nd rfl (Or.inl rfl) (pe_ix ix_tup (pv 5) (pe_op op_mod (pe_callTy call_int1 (by rfl) hi (by decide +kernel) (pa_cons (pe_ix ix_list (pv 0) (pv 1) (fun _ _ => rfl)) pa_nil)) (pe_callB call_len_seq (by rfl) hl PySem.boot_len (pa_cons (pv 5) pa_nil))) (fun _ _ => rfl)))
      (pss_cons (ps_set (i := 7) scRoadG.nd rfl (Or.inl rfl) (pe_ix ix_tup (pv 5) (pe_op op_mod (pe_callTy call_int1 (by rfl) hi (by decide +kernel) (pa_cons (pe_ix ix_list (pv 0) (pe_op op_add (pv 1) pe_int) (fun _ _ => rfl)) pa_nil)) (pe_callB call_len_seq (by rfl) hl PySem.boot_len (pa_cons (pv 5) pa_nil))) (fun _ _ => rfl)))
      (pss_cons (ps_set (i := 8) scRoadG.nd rfl (Or.inl rfl) (pe_op op_add pe_int (pe_op op_mod (pe_callTy call_int1 (by rfl) hi (by decide +kernel) (pa_cons (pe_ix ix_list (pv 0) (pe_op op_add (pv 1) pe_int) (fun _ _ => rfl)) pa_nil)) (pe_ix ix_tup (pe_tup (pa_cons pe_int (pa_cons pe_int (pa_cons pe_int pa_nil)))) (pe_op op_mod (pe_callTy call_int1 (by rfl) hi (by decide +kernel) (pa_cons (pe_ix ix_list (pv 0) (pe_op op_add (pv 1) pe_int) (fun _ _ => rfl)) pa_nil)) pe_int) (fun _ _ => rfl)))))
      (C8.pss_cut (ps_set (i := 9) scRoadG.nd rfl (Or.inl rfl) (pe_callTy call_tuple_of (by rfl) ht (by decide +kernel) (pa_cons (pe_lc (own := [("k", 10)]) (g := gName 10) rfl scRoadG.nd (pi_range1 rfl hr' (pa_cons (pe_callB call_len_seq (by rfl) hl PySem.boot_len (pa_cons (pv 4) pa_nil)) pa_nil)) (blkOk_by (N := nRoadG) (sc := defScope sLRoadG) (by decide +kernel)) (fun _ _ _ _ _ => pg_name (i := 10) scRoadG.nd rfl (Or.inl rfl))
          (fun _ _ _ _ _ => pts_one (pt_cmpR op_gt (pe_op op_mod (pe_callTy (r := rInt1) call_int1 (by rfl) hi (by decide +kernel) (pa_cons (pe_op op_add (pe_ix (r := rIxL K) ix_list (pv 0) (pe_op op_add (pv 1) pe_int) (fun _ _ => rfl)) (pv 10)) pa_nil)) pe_int) pe_int (nomark _))) (fun _ _ _ _ _ => pe_ix (r := rIxT K) ix_tup (pv 4) (pv 10) (fun _ _ => rfl))) pa_nil)))
      (pss_one (ps_ret (pe_tup (pa_cons (pv 2) (pa_cons (pv 6) (pa_cons (pv 7) (pa_cons (pv 8) (pa_cons (pv 9) (pa_cons (pe_call GH hr (by rfl) gH kH bH .nil pass0 (pa_cons (pv 0) (pa_cons (pe_op op_add (pv 1) pe_int) (pa_cons (pv 3) pa_nil)))) pa_nil)))))))))))), ?_⟩
    obtain ⟨n0, e0, l0, u0⟩ := at_num hsm (i := at_) ha0 (by omega)
    obtain ⟨n1, e1, l1, u1⟩ := at_num hsm (i := at_ + 1) (by omega) (by omega)
    obtain ⟨n2, e2, l2, u2⟩ := at_num hsm (i := at_ + 2) (by omega) (by omega)
    obtain ⟨n3, e3, l3, u3⟩ := at_num hsm (i := at_ + 3) (by omega) (by omega)
    obtain ⟨n4, e4, l4, u4⟩ := at_num hsm (i := at_ + 4) (by omega) (by omega)
    have cp : (0 : Int) < (((ps.map V.str).length : Nat) : Int) := by rw [List.length_map]; omega
    obtain ⟨s0, es, _, hs'⟩ := at_str (ns := ps) (i := n0 % ((ps.map V.str).length : Nat)) (Int.emod_nonneg _ (by omega)) (by have := Int.emod_lt_of_pos n0 cp; rw [List.length_map] at *; exact this)
    obtain ⟨s1, et, _, hg⟩ := at_str (ns := ps) (i := n1 % ((ps.map V.str).length : Nat)) (Int.emod_nonneg _ (by omega)) (by have := Int.emod_lt_of_pos n1 cp; rw [List.length_map] at *; exact this)
    obtain ⟨c, ec, hc0, hc40⟩ := of9 (n3 % 3) (Int.emod_nonneg _ (by decide)) (Int.emod_lt_of_pos _ (by decide))
    -- start, end
    refine ⟨_, rfl, _, rfl, _, rfl, a, _, _, _, rfl, rfl, hS, e0, .inl ⟨_, rfl, _, rfl, pl, _, rfl, .inr hpl, _, _, rfl, rfl, cp, pl, _, _, _, rfl, rfl, hpl, es, ?_⟩⟩
    refine ⟨_, rfl, _, rfl, _, rfl, _, _, rfl, rfl, a, _, _, _, rfl, rfl, hS, e1, .inl ⟨_, rfl, _, rfl, pl, _, rfl, .inr hpl, _, _, rfl, rfl, cp, pl, _, _, _, rfl, rfl, hpl, et, ?_⟩⟩
    -- minutes
    refine ⟨_, rfl, _, rfl, _, _, rfl, rfl, a, _, _, _, rfl, rfl, hS, e2, .inl ⟨_, rfl, by show 3 ≤ sizeLine; decide, fun T3 nT3 => ?_⟩⟩
    have g3 := Grew.new hP (o := .tup [V.int 9, V.int 9, V.int 40]) nT3
    have hT3 : (L2.upd H T3 (.tup [V.int 9, V.int 9, V.int 40])) T3 = some (.tup [V.int 9, V.int 9, V.int 40]) := upd_same
    generalize L2.upd H T3 (.tup [V.int 9, V.int 9, V.int 40]) = H1 at g3 hT3
    refine ⟨_, rfl, _, rfl, _, _, rfl, rfl, a, _, _, _, rfl, rfl, g3.sqL hP hS, e3, .inl ⟨_, rfl, _, _, rfl, rfl, (show (0 : Int) < 3 by decide), T3, _, _, _, rfl, rfl, SqT.of hT3, ec, _, _, rfl, rfl, hc0, _, _, rfl, rfl, ?_⟩⟩
    have b0 : 0 ≤ n2 % c := Int.emod_nonneg _ (by omega)
    have b1 : n2 % c < c := Int.emod_lt_of_pos _ hc0
    have hki1 := g3.tup hP hki
    have hS1 := g3.sqL hP hS
    -- used
    refine ⟨fun σ H' => ∃ (u : Addr) (us : List Str), σ = [some (.ref a), some (.int at_), some (.str z), some (.int d), some (.ref ki), some (.ref pl), some (.str s0), some (.str s1), some (.int (1 + n2 % c)), some (.ref u), none] ∧ Grew P H1 H' ∧ H' u = some (.tup (us.map V.str)) ∧ us.Sublist ks, ?_, ?_⟩
    · refine ⟨_, rfl, ki, _, rfl, .inr (SqT.of hki1), _, rfl, by rw [List.length_map]; omega, by rw [List.length_map]; omega, fun D nD => lc_range (n := (((ks.map V.str).length : Nat) : Int).toNat) (fun i H' => Grew P H1 H' ∧ ∃ us : List Str, H' D = some (.lst (us.map V.str)) ∧ us.Sublist (ks.take i))
        ⟨Grew.new g3.tab nD, [], upd_same, List.nil_sublist _⟩ (fun i H2 hi p => ?_) (fun H2 p => ?_)⟩
      · obtain ⟨g, us, hD, hsub⟩ := p
        have hi2 : i < ks.length := by rw [List.length_map] at hi; omega
        have lu : us.length ≤ 4 := Nat.le_trans hsub.length_le (by rw [List.length_take]; omega)
        have tk : ks.take (i + 1) = ks.take i ++ [ks[i]] := by rw [List.take_succ, List.getElem?_eq_getElem hi2]; rfl
        have ek : atI (ks.map V.str) (0 + (i : Int)) = some (.str ks[i]) := by
          rw [Int.zero_add]
          exact atI_nat (by rw [List.getElem?_map, List.getElem?_eq_getElem hi2]; rfl)
        refine ⟨rfl, _, rfl, _, rfl, _, _, rfl, rfl, a, _, _, _, rfl, rfl, g.sqL g3.tab hS1, e4, _, rfl, _, _, rfl, rfl, .inl ⟨_, rfl, _, _, rfl, rfl, (show (0 : Int) < 4 by decide), _, _, rfl, rfl, _, rfl, ?_⟩⟩
        refine ite2 (fun _ => ?_) (fun _ => ⟨g, us, hD, hsub.trans (by rw [tk]; exact List.sublist_append_left _ _)⟩)
        refine ⟨_, rfl, _, rfl, ki, _, _, _, rfl, rfl, SqT.of (g.tup g3.tab hki1), ek, _, hD, by rw [List.length_map, sizeLine_eq]; omega, g.write hD (fun _ z => by cases z) nD, us ++ [ks[i]], ?_, ?_⟩
        · rw [upd_same, List.map_append]; rfl
        · rw [tk]; exact hsub.append (List.Sublist.refl _)
      · obtain ⟨g, us, hD, hsub⟩ := p
        refine ⟨D, _, rfl, .inl ⟨SqL.of hD, fun u nu => ⟨u, us, rfl, g.trans (Grew.new g.tab nu), upd_same, hsub.trans (List.take_sublist _ _)⟩⟩⟩
    rintro σ H2 ⟨u, us, rfl, g2, hu, hsub⟩
    have g02 := g3.trans g2
    refine ⟨_, rfl, _, rfl, _, rfl, _, rfl, _, rfl, _, rfl, _, rfl, _, _, rfl, rfl, _, rfl, a, ns, at_ + 5, d, rfl, g02.sqL hP hS, hsm, by omega, by omega, hd, g02.tab, fun H3 hs v g4 hv hho => ?_⟩
    have g03 := g02.trans g4
    have hu3 := g4.tup g02.tab hu
    refine ⟨by show 6 ≤ sizeLine; decide, fun t nt => ?_⟩
    refine k _ ⟨z, s0, s1, 1 + n2 % c, us, hs⟩ t (g03.trans (Grew.new g03.tab nt)) (g03.free nt) ⟨t, u, v, rfl, upd_same, (Grew.new g03.tab nt).tup g03.tab hu3, hv.keep (KeepT.new nt)⟩ rfl ?_
    exact ⟨hs', hg, by show 1 ≤ 1 + n2 % c; omega, by show 1 + n2 % c ≤ 1000; omega, fun y hy => hsub.subset hy, Nat.le_trans hsub.length_le lk, ndk.sublist hsub, hho⟩
end
end W

set_option Elab.async false
set_option linter.all false
set_option maxRecDepth 100000
set_option maxHeartbeats 1000000
namespace W
open PySem PySem.Spec PyProof.Rows L2 GxR MyG MyS
/-! ### _law_bars (parts of tuples) -/
theorem RoadAt.keepT {K : PySem.W.Frag} {P : Addr} {H H' : Hp} {r : RoadD} {v : V} (m : RoadAt K H r v) (h : TabG H P) (g : Grew P H H') : RoadAt K H' r v := m.grew g h
/-- the pairs of roads that meet -/
def meetL (rs : List RoadD) (one : RoadD) : List (Str × Str) := (rs.filter fun o => decide (one.goal = o.start)).map fun o => (one.name, o.name)
theorem meetL_len (rs : List RoadD) (one : RoadD) : (meetL rs one).length ≤ rs.length := by
  unfold meetL
  rw [List.length_map]
  exact List.length_filter_le _ _
def pairL (rs l : List RoadD) : List (Str × Str) := l.flatMap (meetL rs)
theorem pairL_len (rs : List RoadD) : ∀ l : List RoadD, (pairL rs l).length ≤ l.length * rs.length
  | [] => Nat.zero_le _
  | a :: l => by
    have h := pairL_len rs l
    have h2 := meetL_len rs a
    show (meetL rs a ++ pairL rs l).length ≤ _
    rw [List.length_append, List.length_cons, Nat.succ_mul]
    omega
theorem meetL_mem {rs : List RoadD} {one : RoadD} {b : Str × Str} (h : b ∈ meetL rs one) : b.1 = one.name ∧ ∃ o ∈ rs, b.2 = o.name ∧ one.goal = o.start := by
  obtain ⟨o, ho, rfl⟩ := List.mem_map.mp h
  obtain ⟨h1, h2⟩ := List.mem_filter.mp ho
  exact ⟨rfl, o, h1, rfl, of_decide_eq_true h2⟩
theorem pairL_ok {rs l : List RoadD} {b : Str × Str} (h : b ∈ pairL rs l) : ∃ r1 ∈ l, ∃ r2 ∈ rs, b.1 = r1.name ∧ b.2 = r2.name ∧ r1.goal = r2.start := by
  obtain ⟨one, h1, h2⟩ := List.mem_flatMap.mp h
  obtain ⟨e, o, ho, e2, e3⟩ := meetL_mem h2
  exact ⟨one, h1, o, ho, e, e2, e3⟩
theorem pairL_nd {rs : List RoadD} (nd : (rs.map (·.name)).Nodup) : ∀ {l : List RoadD}, (l.map (·.name)).Nodup → (pairL rs l).Nodup
  | [], _ => List.nodup_nil
  | a :: l, h => by
    obtain ⟨h1, h2⟩ := List.nodup_cons.mp h
    refine List.nodup_append.mpr ⟨?_, pairL_nd nd h2, fun b hb c hc e => ?_⟩
    · unfold meetL
      have s : ((rs.filter fun o => decide (a.goal = o.start)).map (·.name)).Nodup := nd.sublist (List.Sublist.map _ List.filter_sublist)
      refine List.pairwise_map.mpr ((List.pairwise_map.mp s).imp fun {x y} n e => n (congrArg Prod.snd e))
    · subst e
      obtain ⟨r1, m, r2, _, e1, _⟩ := pairL_ok hc
      exact h1 (List.mem_map.mpr ⟨r1, m, by rw [← e1]; exact (meetL_mem hb).1⟩)
theorem paired_app {α β : Type} {F : α → β → Prop} : ∀ {l l2 : List α} {m m2 : List β}, Paired F l m → Paired F l2 m2 → Paired F (l ++ l2) (m ++ m2)
  | _, _, _, _, .nil, h => h
  | _, _, _, _, .cons a r, h => .cons a (paired_app r h)
def spLBarsG (K : PySem.W.Frag) (P : Addr) : Sp := fun vs H Q _ => ∃ (a ro : Addr) (ns : List Int) (at_ : Int) (rs : List RoadD) (xs : List V), vs = [.ref a, .int at_, .ref ro] ∧ SqL K H a (ns.map V.int) ∧ Sm ns ∧ 0 ≤ at_ ∧ at_ + 7 ≤ ns.length ∧ H ro = some (.tup xs) ∧ Paired (RoadAt K H) rs xs ∧ rs.length ≤ 12 ∧ (rs.map (·.name)).Nodup ∧ TabG H P ∧
  ∀ H' p bs ys, Grew P H H' → H p = none → H' p = some (.tup ys) → Paired (GBar H') bs ys → AscB bs → BarsOk rs bs → Q (.ref p) H'
section
variable {Pg : Program} {w : World} {K : PySem.W.Frag} {mg : Str → Option Value} {base : Heap} {C P : Addr}
abbrev nBarsG : List Str := ["numbers", "at", "roads", "pairs", "one", "chosen", "k", "other"]
theorem scBarsG : FnScope nBarsG ["numbers", "at", "roads"] (defScope sLBarsG) := ⟨rfl, rfl, rfl, by decide +kernel, rfl, by decide +kernel, by decide +kernel⟩
theorem ok_lbarsG {f : Addr} {fd : FuncData} (F : Fun K "_law_bars" "_law_bars" sLBarsG f fd) (hi : mg "int" = none) (hl : mg "len" = none) (ht : mg "tuple" = none) (hr' : mg "range" = none) (hs : mg "sorted" = none) :
    FnOk Pg w K mg base CX0 1 f fd ["numbers", "at", "roads"] (spLBarsG K P) := by
  refine F.ok scBarsG (fun vs H Q E h => ?_) (fun cdv A outer s H vs Q E hr h => ?_)
  · obtain ⟨a, ro, ns, at_, rs, xs, rfl, _⟩ := h
    rfl
  · obtain ⟨a, ro, ns, at_, rs, xs, rfl, hS, hsm, ha0, ha1, hro, hrs, lr, nd, hP, k⟩ := h
    refine ⟨_, pss_cons (ps_set (i := 3) scBarsG.nd rfl (Or.inl rfl) (pe_lst pa_nil))
      (C8.pss_cut (ps_for PassesOwn.never rfl (pi_tup (pv 2)) (pg_name (i := 4) scBarsG.nd rfl (Or.inr rfl))
        (pss_one (ps_set (i := 3) scBarsG.nd rfl (Or.inl rfl) (pe_op op_cat (pv 3) (pe_lc (own := [("other", 7)]) (g := gName 7) rfl scBarsG.nd (pi_tup (pv 2)) (blkOk_by (N := nBarsG) (sc := defScope sLBarsG) (by decide +kernel)) (fun _ _ _ _ _ => pg_name (i := 7) scBarsG.nd rfl (Or.inl rfl))
          (fun _ _ _ _ _ => pts_one (pt_cmpR op_eq (pe_ix (r := rIxT K) ix_tup (pv 4) pe_int (fun _ _ => rfl)) (pe_ix (r := rIxT K) ix_tup (pv 7) pe_int (fun _ _ => rfl)) (nomark _))) (fun _ _ _ _ _ => pe_tup (pa_cons (pe_ix (r := rIxT K) ix_tup (pv 4) pe_int (fun _ _ => rfl)) (pa_cons (pe_ix (r := rIxT K) ix_tup (pv 7) pe_int (fun _ _ => rfl)) pa_nil))))))))
      (pss_cons (ps_set (i := 5) scBarsG.nd rfl (Or.inl rfl) (pe_lst pa_nil))
      (C8.pss_cut (ps_for PassesOwn.never rfl (pi_range1 rfl hr' (pa_cons (pe_callB call_len_seq (by rfl) hl PySem.boot_len (pa_cons (pv 3) pa_nil)) pa_nil)) (pg_name (i := 6) scBarsG.nd rfl (Or.inl rfl))
        (pss_one (ps_if (PW.pt (pw_and (pt_cmpR op_eq (pe_op op_mod (pe_callTy call_int1 (by rfl) hi (by decide +kernel) (pa_cons (pe_op op_add (pe_ix ix_list (pv 0) (pe_op op_add (pv 1) (pe_op op_mod (pv 6) pe_int)) (fun _ _ => rfl)) (pe_op op_mul pe_int (pv 6))) pa_nil)) pe_int) pe_int (nomark _)) (pw_and1 (pt_cmpR op_lt (pe_callB call_len_seq (by rfl) hl PySem.boot_len (pa_cons (pv 5) pa_nil)) pe_int (nomark _)))))
          (pss_one (ps_expr (pe_bm PySem.F.plainAttrs_list PySem.F.slot_list_append PySem.F.type_list_append mt_append (pv 5) (pa_cons (pe_ix ix_list (pv 3) (pv 6) (fun _ _ => rfl)) pa_nil)))) pss_nil)))
      (pss_one (ps_ret (pe_callTy call_tuple_of (by rfl) ht (by decide +kernel) (pa_cons (pe_callB cr_sortB (by rfl) hs (by decide +kernel) (pa_cons (pv 5) pa_nil)) pa_nil))))))), ?_⟩
    have lx := Paired.len hrs
    refine ⟨Nat.zero_le _, fun p0 np0 => ?_⟩
    have g0 := Grew.new hP (o := .lst []) np0
    have hp0 : (L2.upd H p0 (.lst [])) p0 = some (.lst []) := upd_same
    generalize L2.upd H p0 (.lst []) = H0 at g0 hp0
    -- pairs
    refine ⟨fun σ H' => ∃ (q : Addr) (v4 : Option V) (ys : List V), σ = [some (.ref a), some (.int at_), some (.ref ro), some (.ref q), v4, none, none, none] ∧ Grew P H H' ∧ H' q = some (.lst ys) ∧ Paired (GBar H') (pairL rs rs) ys, ?_, ?_⟩
    · refine ⟨_, rfl, ro, rfl, ⟨_, SqT.of (g0.tup hP hro)⟩, for_tup (K := K) (a := ro) (xs := xs) (fun i σ H' => ∃ (q : Addr) (v4 : Option V) (ys : List V), σ = [some (.ref a), some (.int at_), some (.ref ro), some (.ref q), v4, none, none, none] ∧ Grew P H H' ∧ H' q = some (.lst ys) ∧ Paired (GBar H') (pairL rs (rs.take i)) ys)
        ⟨p0, none, [], rfl, g0, hp0, .nil⟩ (fun i σ H' _ ⟨_, _, _, _, g, _⟩ => SqT.of (g.tup hP hro)) ?_ ?_⟩
      · rintro i v σ H1 hv ⟨q, v4, ys, rfl, g1, hq, hys⟩
        obtain ⟨one, hone, hr1⟩ := Paired.at hrs hv
        have hr1' := hr1.grew g1 hP
        obtain ⟨t1, u1, h1, rfl, e1, _, _⟩ := hr1'
        have hil := (List.getElem?_eq_some_iff.mp hone).1
        refine ⟨_, rfl, _, rfl, ro, rfl, ⟨_, SqT.of (g1.tup hP hro)⟩, fun D nD => lc_tup (K := K) (a := ro) (xs := xs) (fun j H' => Grew P H1 H' ∧ ∃ acc, H' D = some (.lst acc) ∧ Paired (GBar H') (meetL (rs.take j) one) acc)
          ⟨Grew.new g1.tab nD, [], upd_same, .nil⟩ (fun j H' _ h => SqT.of ((g1.trans h.1).tup hP hro)) (fun j v H2 hj h => ?_) (fun H2 h => ?_)⟩
        · obtain ⟨g2, acc, hD, hacc⟩ := h
          obtain ⟨o, ho, hr2⟩ := Paired.at hrs hj
          have hr2' := hr2.grew (g1.trans g2) hP
          obtain ⟨t2, u2, h2, rfl, e2, _, _⟩ := hr2'
          have hjl := (List.getElem?_eq_some_iff.mp ho).1
          have e12 := g2.tup g1.tab e1
          have la := Paired.len hacc
          have lm := meetL_len (rs.take j) one
          rw [List.length_take] at lm
          have et : meetL (rs.take (j + 1)) one = meetL (rs.take j) one ++ (if decide (one.goal = o.start) = true then [(one.name, o.name)] else []) := by
            unfold meetL
            have e0 : rs.take (j + 1) = rs.take j ++ [o] := by rw [List.take_succ, ho]; rfl
            rw [e0, List.filter_append, List.map_append, List.filter_cons]
            split <;> rfl
          refine ⟨rfl, _, rfl, t1, _, 2, _, rfl, rfl, SqT.of e12, rfl, _, rfl, t2, _, 1, _, rfl, rfl, SqT.of e2, rfl, rfl, _, rfl, ?_⟩
          by_cases c : one.goal = o.start
          · rw [if_pos (decide_eq_true c)] at et
            refine if_t (decide_eq_true (congrArg V.str c)) ?_
            refine ⟨_, rfl, t1, _, 0, _, rfl, rfl, SqT.of e12, rfl, _, rfl, t2, _, 0, _, rfl, rfl, SqT.of e2, rfl, by show 2 ≤ sizeLine; decide, fun tp ntp => ?_⟩
            have gt := Grew.new (g1.trans g2).tab (o := .tup [.str one.name, .str o.name]) ntp
            have hD2 := gt.lst (g1.trans g2).tab hD
            have htp : (L2.upd H2 tp (.tup [.str one.name, .str o.name])) tp = some (.tup [.str one.name, .str o.name]) := upd_same
            generalize L2.upd H2 tp (.tup [.str one.name, .str o.name]) = H3 at gt hD2 htp
            have kp : ∀ {b : Str × Str} {v : V}, GBar H3 b v → GBar (L2.upd H3 D (.lst (acc ++ [.ref tp]))) b v := fun {b v} ⟨t, a, m⟩ => ⟨t, a, by rw [upd_ne (fun z => by rw [z, hD2] at m; cases m)]; exact m⟩
            refine ⟨acc, hD2, by rw [sizeLine_eq]; omega, (g2.trans gt).write hD2 (fun _ z => by cases z) nD, acc ++ [.ref tp], upd_same, ?_⟩
            rw [et]
            exact Paired.snoc (Paired.map' hacc fun b v m => kp (m.grew gt (g1.trans g2).tab)) (kp ⟨tp, rfl, htp⟩)
          · rw [if_neg (by rw [decide_eq_true_iff]; exact c), List.append_nil] at et
            exact if_f (decide_eq_false (fun e => c (V.str.inj e))) ⟨g2, acc, hD, by rw [et]; exact hacc⟩
        · obtain ⟨g2, acc, hD, hacc⟩ := h
          rw [← lx, List.take_length] at hacc
          have g02 := g1.trans g2
          have lp := pairL_len rs (rs.take i)
          rw [List.length_take] at lp
          have ly := Paired.len hys
          have la := Paired.len hacc
          have lm := meetL_len rs one
          have et : pairL rs (rs.take (i + 1)) = pairL rs (rs.take i) ++ meetL rs one := by
            unfold pairL
            rw [List.take_succ, hone, List.flatMap_append]
            simp
          have b1 : (pairL rs (rs.take i)).length ≤ 12 * 12 := Nat.le_trans lp (Nat.mul_le_mul (by omega) lr)
          refine ⟨q, D, ys, acc, rfl, rfl, g2.lst g1.tab hq, hD, by rw [sizeLine_eq]; omega, fun q2 nq2 => ⟨q2, _, ys ++ acc, rfl, g02.trans (Grew.new g02.tab nq2), upd_same, ?_⟩⟩
          rw [et]
          exact paired_app (Paired.map' hys fun b v m => m.grew (g2.trans (Grew.new g02.tab nq2)) g1.tab) (Paired.map' hacc fun b v m => m.grew (Grew.new g02.tab nq2) g02.tab)
      · rintro σ H' ⟨q, v4, ys, rfl, g, hq, hys⟩
        rw [← lx, List.take_length] at hys
        exact ⟨q, v4, ys, rfl, g, hq, hys⟩
    rintro σ H1 ⟨q, v4, ys, rfl, g1, hq, hys⟩
    have ly := Paired.len hys
    have lpp := pairL_len rs rs
    have b1 : (pairL rs rs).length ≤ 12 * 12 := Nat.le_trans lpp (Nat.mul_le_mul lr lr)
    have ndp := pairL_nd nd nd
    have okp : ∀ b ∈ pairL rs rs, ∃ r1 ∈ rs, ∃ r2 ∈ rs, b.1 = r1.name ∧ b.2 = r2.name ∧ r1.goal = r2.start := fun b hb => pairL_ok hb
    generalize pairL rs rs = PL at hys ly b1 ndp okp
    -- chosen
    refine ⟨Nat.zero_le _, fun ch nch => ?_⟩
    have gc := Grew.new g1.tab (o := .lst []) nch
    have hch : (L2.upd H1 ch (.lst [])) ch = some (.lst []) := upd_same
    have hq2 := gc.lst g1.tab hq
    generalize L2.upd H1 ch (.lst []) = H2 at gc hch hq2
    refine ⟨fun σ H' => ∃ (v6 : Option V) (bs : List (Str × Str)) (zs : List V), σ = [some (.ref a), some (.int at_), some (.ref ro), some (.ref q), v4, some (.ref ch), v6, none] ∧ Grew P H1 H' ∧ H' ch = some (.lst zs) ∧ Paired (GBar H') bs zs ∧ bs.Sublist PL ∧ bs.length ≤ 40, ?_, ?_⟩
    · refine ⟨_, rfl, q, _, rfl, .inl (SqL.of hq2), (ys.length : Int), rfl, by omega, by omega, for_range (n := ys.length) (fun i σ H' => ∃ (v6 : Option V) (bs : List (Str × Str)) (zs : List V), σ = [some (.ref a), some (.int at_), some (.ref ro), some (.ref q), v4, some (.ref ch), v6, none] ∧ Grew P H1 H' ∧ H' ch = some (.lst zs) ∧ Paired (GBar H') bs zs ∧ bs.Sublist (PL.take i) ∧ bs.length ≤ 40)
        ⟨none, [], [], rfl, gc, hch, .nil, List.nil_sublist _, Nat.zero_le _⟩ ?_ ?_⟩
      · rintro i σ H3 hi ⟨v6, bs, zs, rfl, g3, hz, hbz, hsub, l40⟩
        rw [Int.zero_add]
        have m7 : 0 ≤ (i : Int) % 7 := Int.emod_nonneg _ (by decide)
        have m7' : (i : Int) % 7 < 7 := Int.emod_lt_of_pos _ (by decide)
        obtain ⟨n0, e0, l0, u0⟩ := at_num hsm (i := at_ + (i : Int) % 7) (by omega) (by omega)
        have hi2 : i < PL.length := by omega
        have hyi : ys[i]? = some (ys[i]'hi) := List.getElem?_eq_getElem hi
        generalize ys[i]'hi = yv at hyi
        obtain ⟨b, hb, hbv⟩ := Paired.at hys hyi
        have tk : PL.take (i + 1) = PL.take i ++ [b] := by rw [List.take_succ, hb]; rfl
        have lz := Paired.len hbz
        have skip : ∃ (v6 : Option V) (bs : List (Str × Str)) (zs : List V), ([some (.ref a), some (.int at_), some (.ref ro), some (.ref q), v4, some (.ref ch), some (.int (i : Int)), none] : L2.St) = [some (.ref a), some (.int at_), some (.ref ro), some (.ref q), v4, some (.ref ch), v6, none] ∧ Grew P H1 H3 ∧ H3 ch = some (.lst zs) ∧ Paired (GBar H3) bs zs ∧ bs.Sublist (PL.take (i + 1)) ∧ bs.length ≤ 40 :=
          ⟨_, bs, zs, rfl, g3, hz, hbz, hsub.trans (by rw [tk]; exact List.sublist_append_left _ _), l40⟩
        refine ⟨_, rfl, _, rfl, _, rfl, _, _, rfl, rfl, (show (0 : Int) < 7 by decide), _, _, rfl, rfl, a, _, _, _, rfl, rfl, (g1.trans g3).sqL hP hS, e0, _, rfl, _, _, rfl, rfl, .inl ⟨by decide, by decide⟩, _, _, rfl, rfl, .inl ⟨_, rfl, _, _, rfl, rfl, (show (0 : Int) < 6 by decide), rfl, _, rfl, ?_⟩⟩
        refine ite2 (fun _ => ?_) (fun _ => skip)
        refine ⟨_, rfl, ch, _, rfl, .inl (SqL.of hz), _, _, rfl, rfl, _, rfl, ?_⟩
        refine ite2 (fun c => ?_) (fun _ => skip)
        have c' : (zs.length : Int) < 40 := of_decide_eq_true c
        refine ⟨_, rfl, .inl ⟨rfl, _, SqL.of hz⟩, _, rfl, _, rfl, q, _, _, _, rfl, rfl, SqL.of (g3.lst g1.tab hq), atI_nat hyi, ch, _, _, rfl, rfl, hz, by rw [sizeLine_eq]; omega, ?_⟩
        have kp : ∀ {b : Str × Str} {v : V}, GBar H3 b v → GBar (L2.upd H3 ch (.lst (zs ++ [yv]))) b v := fun {b v} ⟨t, a, m⟩ => ⟨t, a, by rw [upd_ne (fun z => by rw [z, hz] at m; cases m)]; exact m⟩
        refine ⟨_, bs ++ [b], zs ++ [yv], rfl, g3.write hz (fun _ z => by cases z) nch, upd_same, Paired.snoc (Paired.map' hbz fun b v m => kp m) (kp (hbv.grew g3 g1.tab)), ?_, ?_⟩
        · rw [tk]; exact hsub.append (List.Sublist.refl _)
        · rw [List.length_append, List.length_singleton]; omega
      · rintro σ H' ⟨v6, bs, zs, rfl, g, hz, hbz, hsub, l40⟩
        exact ⟨v6, bs, zs, rfl, g, hz, hbz, hsub.trans (List.take_sublist _ _), l40⟩
    rintro σ H3 ⟨v6, bs, zs, rfl, g3, hz, hbz, hsub, l40⟩
    have g13 := g1.trans g3
    refine ⟨_, rfl, ch, zs, barAt H3, rfl, SqL.of hz, fun x hx => ?_, fun ws l hpm hso hl => ⟨l, _, rfl, .inl ⟨SqL.of upd_same, fun p hp2 => ?_⟩⟩⟩
    · obtain ⟨b, _, m⟩ := Paired.mem hbz hx
      have nm := m.at
      obtain ⟨t, e, q⟩ := m
      exact ⟨t, e, by rw [nm]; exact SqT.of q⟩
    · obtain ⟨bs', pm, hr'⟩ := Paired.perm hpm hbz
      have gl := Grew.new g13.tab (o := .lst ws) hl
      have gp := gl.put (o := .tup ws) hp2
      refine k _ p bs' ws (g13.trans gp) (g13.free (gl.free hp2)) upd_same (Paired.map' hr' fun _ _ m => m.grew gp g13.tab) (Paired.pair (fun a b x y m m' e => by rw [m.at, m'.at] at e; exact e) hr' hso) ⟨?_, ?_, fun b hb => okp b (hsub.subset (pm.mem_iff.mp hb))⟩
      · rw [pm.length_eq]; exact l40
      · exact pm.nodup_iff.mpr (ndp.sublist hsub)
end
end W

set_option Elab.async false
set_option linter.all false
set_option maxRecDepth 100000
set_option maxHeartbeats 1000000
/-! a tuple just made, known to have no dict: its methods may be called -/
namespace TpF
open PySem PySem.Spec PyProof.Rows L2
def TupF (H : Hp) (a : Addr) (xs : List V) : Prop := ∃ o : Obj, o.cls = .type "tuple" ∧ o.dict = none ∧ H a = some (.frz o (.tup xs))
theorem TupF.sq {K : PySem.W.Frag} {H : Hp} {a : Addr} {xs : List V} (h : TupF H a xs) : SqT K H a xs := let ⟨o, _, _, e⟩ := h; .inl (.inr ⟨o, e⟩)
section
variable {X : Cx}
theorem call_tuple_fz : CallR X (.type "tuple") (fun xs H Q => ∃ p ys, xs = [.ref p] ∧ SqL X.K H p ys ∧ ∀ l o, H l = none → o.cls = .type "tuple" → o.dict = none → Q (.ref l) (upd H l (.frz o (.tup ys)))) := by
  intro pins s σ H xs us Q I r h
  obtain ⟨p, ys, rfl, hq, q⟩ := h
  obtain ⟨u, rfl, rx⟩ := vals1 r
  cases rx
  obtain ⟨its, r', pl, hz⟩ := I.list hq
  have hlen := r'.length
  refine call_tuple_list pl.isList (fun h' kp => ?_) (by simp only [List.size_toArray] <;> omega)
  have I1 : Inv X pins σ H { s with heap := h' } := I.kept (t' := s.toks) kp
  have I2 : Inv X pins σ (upd H h'.objs.size (.frz { cls := .type "tuple", data := .seq its.toArray } (.tup ys))) { s with heap := h'.push { cls := .type "tuple", data := .seq its.toArray } } :=
    I1.laid (t' := s.toks) (fun b o e => Heap.get?_push_of_some _ e) (Nat.le_refl _) (show ObjOk X.prog X.w _ _ _ (.frz _ (.tup ys)) from ⟨Heap.get?_push_size _ rfl, hz, its, r', IsTup.new _ _⟩)
  exact ⟨.ref h'.objs.size, _, I2, rfl, q _ _ (I1.hok.fresh (Nat.le_refl _)) rfl rfl⟩
def tBMF (r : V → List V → Hp → VK → Prop) (to : TE) (t : TA) : TE := fun σ H Q => to σ H fun x H1 => (∃ a xs, x = .ref a ∧ TupF H1 a xs) ∧ t σ H1 fun xs H2 => r x xs H2 Q
theorem pe_bmF {o e : Expr} {es : List Expr} {to : TE} {t : TA} {name : Str} {apos cpos : Pos} {id : String} {r : V → List V → Hp → VK → Prop} (pa : PlainAttrs "tuple") (slot : Slot "tuple" name id) (hty : typeOf (.builtin id) = pure (.type "method_descriptor")) (hm : MtR X id r) (ho : PE X o to) (ha : PA X (e :: es) t)
    (hbase : attributeBase o name X.env (eval o X.env) = eval o X.env := by rfl)
    (hfew : ((backTo cpos (starEach (e :: es) X.env)).all (fun x => !x.1) && (backToKw cpos (keywordEach [] X.env)).all (fun x => x.1.isSome)
      && decide ((e :: es).length + ([] : List Keyword).length + (if ([] : List Keyword).isEmpty then 0 else 1) < 30)) = true := by rfl)
    (hline : (apos.endLine == cpos.line) = true := by rfl) (hs : starEach (e :: es) X.env = (false, eval e X.env) :: starEach es X.env := by rfl) (hplain : (backTo cpos (starEach es X.env)).any (·.1) = false := by rfl) :
    PE X (.Call (.Attribute o name apos) (e :: es) [] cpos) (tBMF r to t) := by
  refine ⟨fun pins s σ H Q I h => ?_⟩
  refine wpAny_Call_method_late hbase hfew hline rfl (thn (ho.run pins s σ H _ I h) fun v s1 ⟨x, H1, I1, r1, ty, q1⟩ => ?_)
  obtain ⟨a, xs, rfl, ob, hc, hd, hf⟩ := ty
  obtain rfl : v = Value.ref a := r1
  have e1 : s1.heap.get? a = some ob := (I1.hok a _ hf).1
  refine ⟨"tuple", id, pa, slot, hty, ⟨ob, e1, hc⟩, fun b eb => by cases eb; exact ⟨ob, e1, hd⟩, ?_⟩
  have hA := ha.run cpos pins s1 σ H1 _ I1 q1
  rw [hs] at hA ⊢
  refine Calls.callWith_builtin (by show (false || (backTo cpos (starEach es X.env)).any (·.1)) = false; rw [hplain] <;> rfl) (Calls.evalArgs_plain ?_)
  exact thn hA fun us s2 ⟨vs, H2, I2, r2, q2⟩ => hm pins s2 σ H2 (V.ref a) vs _ us Q I2 rfl r2 q2
end
end TpF

set_option Elab.async false
set_option linter.all false
set_option maxRecDepth 100000
set_option maxHeartbeats 1000000
namespace W
open PySem PySem.Spec PyProof.Rows L2 GxR MyG MyS
/-! ### _law_parts (of tuples) -/
/-- parts whose kinds, places, roads and bars are tuples -/
def PartsT (K : PySem.W.Frag) (H : Hp) (p : Addr) (d : Int) (ks ps : List Str) (rs : List RoadD) (bs : List (Str × Str)) : Prop := ∃ ki pl ro ba xs zs, H p = some (.lst [.int d, .ref ki, .ref pl, .ref ro, .ref ba]) ∧
  H ki = some (.tup (ks.map V.str)) ∧ TpF.TupF H pl (ps.map V.str) ∧ H ro = some (.tup xs) ∧ Paired (RoadAt K H) rs xs ∧ H ba = some (.tup zs) ∧ Paired (GBar H) bs zs
theorem TupF.grew {P : Addr} {H H' : Hp} {a : Addr} {xs : List V} (m : TpF.TupF H a xs) (g : Grew P H H') (h : TabG H P) : TpF.TupF H' a xs := let ⟨o, c, d, e⟩ := m; ⟨o, c, d, g.get h e fun _ z => by cases z⟩
theorem PartsT.grew {K : PySem.W.Frag} {P : Addr} {H H' : Hp} {p : Addr} {d : Int} {ks ps : List Str} {rs : List RoadD} {bs : List (Str × Str)} (m : PartsT K H p d ks ps rs bs) (g : Grew P H H') (h : TabG H P) : PartsT K H' p d ks ps rs bs := by
  obtain ⟨ki, pl, ro, ba, xs, zs, e0, e1, e2, e3, e4, e5, e6⟩ := m
  exact ⟨ki, pl, ro, ba, xs, zs, g.lst h e0, g.tup h e1, TupF.grew e2 g h, g.tup h e3, Paired.map' e4 fun _ _ m => m.grew g h, g.tup h e5, Paired.map' e6 fun _ _ m => m.grew g h⟩
def spLPartsG (K : PySem.W.Frag) (P : Addr) : Sp := fun vs H Q _ => ∃ (a : Addr) (ns : List Int) (at_ : Int), vs = [.ref a, .int at_] ∧ SqL K H a (ns.map V.int) ∧ Sm ns ∧ 0 ≤ at_ ∧ at_ + 97 ≤ ns.length ∧ TabG H P ∧
  ∀ H' p d ks ps rs bs, Grew P H H' → H p = none → PartsT K H' p d ks ps rs bs → PartsOk d ks ps rs bs → Asc ks → Asc ps → AscR rs → AscB bs → 2 ≤ ps.length → 1 ≤ rs.length → rs.length ≤ 8 → (rs.map fun r => r.name.cps.toList.head?).Nodup → Q (.ref p) H'
theorem day4 (x j : Int) (h0 : 0 ≤ j) (h3 : j < 4) (a : 1 ≤ x) (b : x ≤ 1440) : ∃ c : Int, atI [V.int x, V.int 24, V.int 1440, V.int x] j = some (.int c) ∧ 1 ≤ c ∧ c ≤ 1440 := by
  have : j = 0 ∨ j = 1 ∨ j = 2 ∨ j = 3 := by omega
  rcases this with rfl | rfl | rfl | rfl
  · exact ⟨_, rfl, a, b⟩
  · exact ⟨_, rfl, by decide, by decide⟩
  · exact ⟨_, rfl, by decide, by decide⟩
  · exact ⟨_, rfl, a, b⟩
section
variable {Pg : Program} {w : World} {K : PySem.W.Frag} {mg : Str → Option Value} {base : Heap} {C P : Addr}
abbrev nPartsG : List Str := ["numbers", "at", "day", "kinds", "places", "names", "roads", "k"]
theorem scPartsG : FnScope nPartsG ["numbers", "at"] (defScope sLPartsG) := ⟨rfl, rfl, rfl, by decide +kernel, rfl, by decide +kernel, by decide +kernel⟩
theorem ok_lpartsG {f fN fR fB : Addr} {fd fdN fdR fdB : FuncData} (F : Fun K "_law_parts" "_law_parts" sLPartsG f fd) (hi : mg "int" = none) (ht : mg "tuple" = none) (hr' : mg "range" = none) (hs : mg "sorted" = none)
    (GN : FnOk Pg w K mg base CX0 1 fN fdN ["number", "many"] (spLNames P)) (gN : mg "_law_names" = some (.ref fN)) (kN : PySem.W.keepIn K (.ref fN) = true) (bN : Binds K fdN ["number", "many"] [])
    (GR : FnOk Pg w K mg base CX0 2 fR fdR ["numbers", "at", "name", "day", "kinds", "places"] (spLRoadG K P)) (gR : mg "_law_road" = some (.ref fR)) (kR : PySem.W.keepIn K (.ref fR) = true) (bR : Binds K fdR ["numbers", "at", "name", "day", "kinds", "places"] [])
    (GB : FnOk Pg w K mg base CX0 1 fB fdB ["numbers", "at", "roads"] (spLBarsG K P)) (gB : mg "_law_bars" = some (.ref fB)) (kB : PySem.W.keepIn K (.ref fB) = true) (bB : Binds K fdB ["numbers", "at", "roads"] []) :
    FnOk Pg w K mg base CX0 3 f fd ["numbers", "at"] (spLPartsG K P) := by
  refine F.ok scPartsG (fun vs H Q E h => ?_) (fun cdv A outer s H vs Q E hr h => ?_)
  · obtain ⟨a, ns, at_, rfl, _⟩ := h
    rfl
  · obtain ⟨a, ns, at_, rfl, hS, hsm, ha0, ha1, hP, k⟩ := h
    refine ⟨_, C8.pss_cut (ps_set (i := 2) scPartsG.nd rfl (Or.inl rfl) (pe_ix ix_tup (pe_tup (pa_cons (pe_op op_add pe_int (pe_op op_mod (pe_callTy call_int1 (by rfl) hi (by decide +kernel) (pa_cons (pe_ix ix_list (pv 0) (pv 1) (fun _ _ => rfl)) pa_nil)) pe_int)) (pa_cons pe_int (pa_cons pe_int (pa_cons (pe_op op_add pe_int (pe_op op_mod (pe_callTy call_int1 (by rfl) hi (by decide +kernel) (pa_cons (pe_ix ix_list (pv 0) (pv 1) (fun _ _ => rfl)) pa_nil)) pe_int)) pa_nil)))))
        (pe_op op_mod (pe_callTy call_int1 (by rfl) hi (by decide +kernel) (pa_cons (pe_ix ix_list (pv 0) (pe_op op_add (pv 1) pe_int) (fun _ _ => rfl)) pa_nil)) pe_int) (fun _ _ => rfl)))
      (C8.pss_cut (ps_set (i := 3) scPartsG.nd rfl (Or.inl rfl) (pe_callTy call_tuple_of (by rfl) ht (by decide +kernel) (pa_cons (pe_callB cr_sortSQ (by rfl) hs (by decide +kernel) (pa_cons (pe_call GN (hr.mono (by decide)) (by rfl) gN kN bN .nil pass0 (pa_cons (pe_ix ix_list (pv 0) (pe_op op_add (pv 1) pe_int) (fun _ _ => rfl)) (pa_cons (pe_op op_add pe_int (pe_op op_mod (pe_callTy call_int1 (by rfl) hi (by decide +kernel) (pa_cons (pe_ix ix_list (pv 0) (pe_op op_add (pv 1) pe_int) (fun _ _ => rfl)) pa_nil)) pe_int)) pa_nil))) pa_nil)) pa_nil)))
      (C8.pss_cut (ps_set (i := 4) scPartsG.nd rfl (Or.inl rfl) (pe_callTy TpF.call_tuple_fz (by rfl) ht (by decide +kernel) (pa_cons (pe_callB cr_sortSQ (by rfl) hs (by decide +kernel) (pa_cons (pe_call GN (hr.mono (by decide)) (by rfl) gN kN bN .nil pass0 (pa_cons (pe_ix ix_list (pv 0) (pe_op op_add (pv 1) pe_int) (fun _ _ => rfl)) (pa_cons (pe_op op_add pe_int (pe_op op_mod (pe_callTy call_int1 (by rfl) hi (by decide +kernel) (pa_cons (pe_ix ix_list (pv 0) (pe_op op_add (pv 1) pe_int) (fun _ _ => rfl)) pa_nil)) pe_int)) pa_nil))) pa_nil)) pa_nil)))
      (C8.pss_cut (ps_set (i := 5) scPartsG.nd rfl (Or.inl rfl) (pe_call GN (hr.mono (by decide)) (by rfl) gN kN bN .nil pass0 (pa_cons (pe_ix ix_list (pv 0) (pe_op op_add (pv 1) pe_int) (fun _ _ => rfl)) (pa_cons pe_int pa_nil))))
      (pss_cons (ps_set (i := 6) scPartsG.nd rfl (Or.inl rfl) (pe_lst pa_nil))
      (C8.pss_cut (ps_for PassesOwn.never rfl (pi_range1 rfl hr' (pa_cons (pe_op op_add pe_int (pe_op op_mod (pe_callTy call_int1 (by rfl) hi (by decide +kernel) (pa_cons (pe_ix ix_list (pv 0) (pe_op op_add (pv 1) pe_int) (fun _ _ => rfl)) pa_nil)) pe_int)) pa_nil)) (pg_name (i := 7) scPartsG.nd rfl (Or.inl rfl))
        (pss_one (ps_expr (pe_bm PySem.F.plainAttrs_list PySem.F.slot_list_append PySem.F.type_list_append mt_append (pv 6) (pa_cons (pe_call GR hr (by rfl) gR kR bR .nil pass0 (pa_cons (pv 0) (pa_cons (pe_op op_add (pe_op op_add (pv 1) pe_int) (pe_op op_mul pe_int (pv 7))) (pa_cons (pe_ix ix_list (pv 5) (pv 7) (fun _ _ => rfl)) (pa_cons (pv 2) (pa_cons (pv 3) (pa_cons (pv 4) pa_nil))))))) pa_nil)))))
      (C8.pss_cut (ps_set (i := 6) scPartsG.nd rfl (Or.inl rfl) (pe_callTy call_tuple_of (by rfl) ht (by decide +kernel) (pa_cons (pe_callB cr_sortR (by rfl) hs (by decide +kernel) (pa_cons (pv 6) pa_nil)) pa_nil)))
      (pss_one (ps_ret (pe_lst (pa_cons (pv 2) (pa_cons (pv 3) (pa_cons (pv 4) (pa_cons (pv 6) (pa_cons (pe_call GB (hr.mono (by decide)) (by rfl) gB kB bB .nil pass0 (pa_cons (pv 0) (pa_cons (pe_op op_add (pv 1) pe_int) (pa_cons (pv 6) pa_nil)))) pa_nil)))))))))))))), ?_⟩
    have num : ∀ {j : Int}, 0 ≤ j → j < at_ + 97 → ∃ n, atI (ns.map V.int) j = some (.int n) ∧ 0 ≤ n ∧ n < 1009 := fun h0 h1 => at_num hsm h0 (by omega)
    obtain ⟨n0, e0, l0, u0⟩ := num (j := at_) (by omega) (by omega)
    obtain ⟨n1, e1, l1, u1⟩ := num (j := at_ + 1) (by omega) (by omega)
    obtain ⟨n2, e2, l2, u2⟩ := num (j := at_ + 2) (by omega) (by omega)
    obtain ⟨n3, e3, l3, u3⟩ := num (j := at_ + 3) (by omega) (by omega)
    obtain ⟨n4, e4, l4, u4⟩ := num (j := at_ + 4) (by omega) (by omega)
    obtain ⟨n5, e5, l5, u5⟩ := num (j := at_ + 5) (by omega) (by omega)
    obtain ⟨n6, e6, l6, u6⟩ := num (j := at_ + 6) (by omega) (by omega)
    obtain ⟨n7, e7, l7, u7⟩ := num (j := at_ + 7) (by omega) (by omega)
    have A0 : L2.start nPartsG [.ref a, .int at_] = [some (.ref a), some (.int at_), none, none, none, none, none, none] := rfl
    -- day
    refine ⟨fun σ H' => ∃ d : Int, σ = [some (.ref a), some (.int at_), some (.int d), none, none, none, none, none] ∧ Grew P H H' ∧ 1 ≤ d ∧ d ≤ 1440, ?_, ?_⟩
    · obtain ⟨c, ec, c1, c2⟩ := day4 (1 + n0 % 24) (n1 % 4) (Int.emod_nonneg _ (by decide)) (Int.emod_lt_of_pos _ (by decide)) (by omega) (by omega)
      refine ⟨_, rfl, _, rfl, a, _, _, _, rfl, rfl, hS, e0, .inl ⟨_, rfl, _, _, rfl, rfl, (show (0 : Int) < 24 by decide), _, _, rfl, rfl, ?_⟩⟩
      refine ⟨_, rfl, _, rfl, a, _, _, _, rfl, rfl, hS, e0, .inl ⟨_, rfl, _, _, rfl, rfl, (show (0 : Int) < 24 by decide), _, _, rfl, rfl, by show 4 ≤ sizeLine; decide, fun T nT => ?_⟩⟩
      have gT := Grew.new hP (o := .tup [V.int (1 + n0 % 24), V.int 24, V.int 1440, V.int (1 + n0 % 24)]) nT
      exact ⟨_, rfl, _, rfl, _, _, rfl, rfl, a, _, _, _, rfl, rfl, gT.sqL hP hS, e1, .inl ⟨_, rfl, _, _, rfl, rfl, (show (0 : Int) < 4 by decide), T, _, _, _, rfl, rfl, SqT.of upd_same, ec, c, rfl, gT, c1, c2⟩⟩
    rintro σ H1 ⟨d, rfl, g1, d1, d2⟩
    -- kinds
    refine ⟨fun σ H' => ∃ (ki : Addr) (ks : List Str), σ = [some (.ref a), some (.int at_), some (.int d), some (.ref ki), none, none, none, none] ∧ Grew P H1 H' ∧ H' ki = some (.tup (ks.map V.str)) ∧ 1 ≤ ks.length ∧ ks.length ≤ 2 ∧ ks.all isNm = true ∧ ks.Nodup ∧ Asc ks, ?_, ?_⟩
    · refine ⟨_, rfl, _, rfl, _, _, rfl, rfl, a, _, _, _, rfl, rfl, g1.sqL hP hS, e2, _, rfl, _, rfl, _, _, rfl, rfl, a, _, _, _, rfl, rfl, g1.sqL hP hS, e3, .inl ⟨_, rfl, _, _, rfl, rfl, (show (0 : Int) < 2 by decide), _, _, rfl, rfl,
        n2, (1 + n3 % 2).toNat, congrArg (fun z => [V.int n2, V.int z]) (Int.toNat_of_nonneg (show 0 ≤ 1 + n3 % 2 by omega)).symm, l2, by omega, g1.tab, fun Ha ki ks ga nki eki lks aks dks _ => ?_⟩⟩
      refine ⟨_, ks, rfl, .inl (SqL.of eki), fun ys l pm asc nl => ⟨l, _, rfl, .inl ⟨SqL.of upd_same, fun q nq => ?_⟩⟩⟩
      have gl := Grew.new ga.tab (o := .lst (ys.map V.str)) nl
      have gq := gl.put (o := .tup (ys.map V.str)) nq
      refine ⟨q, ys, rfl, ga.trans gq, upd_same, ?_, ?_, ?_, pm.nodup_iff.mpr dks, asc⟩
      · rw [pm.length_eq, lks]; omega
      · rw [pm.length_eq, lks]; omega
      · exact List.all_eq_true.mpr fun z hz => List.all_eq_true.mp aks z (pm.mem_iff.mp hz)
    rintro σ H2 ⟨ki, ks, rfl, g2, hki, k1, k2, aks, dks, sks⟩
    have g02 := g1.trans g2
    -- places
    refine ⟨fun σ H' => ∃ (pl : Addr) (ps : List Str), σ = [some (.ref a), some (.int at_), some (.int d), some (.ref ki), some (.ref pl), none, none, none] ∧ Grew P H2 H' ∧ TpF.TupF H' pl (ps.map V.str) ∧ 2 ≤ ps.length ∧ ps.length ≤ 5 ∧ ps.all isNm = true ∧ ps.Nodup ∧ Asc ps, ?_, ?_⟩
    · refine ⟨_, rfl, _, rfl, _, _, rfl, rfl, a, _, _, _, rfl, rfl, g02.sqL hP hS, e4, _, rfl, _, rfl, _, _, rfl, rfl, a, _, _, _, rfl, rfl, g02.sqL hP hS, e5, .inl ⟨_, rfl, _, _, rfl, rfl, (show (0 : Int) < 4 by decide), _, _, rfl, rfl,
        n4, (2 + n5 % 4).toNat, congrArg (fun z => [V.int n4, V.int z]) (Int.toNat_of_nonneg (show 0 ≤ 2 + n5 % 4 by omega)).symm, l4, by omega, g02.tab, fun Ha ki ks ga nki eki lks aks dks _ => ?_⟩⟩
      refine ⟨_, ks, rfl, .inl (SqL.of eki), fun ys l pm asc nl => ⟨l, _, rfl, SqL.of upd_same, fun q ob nq oc od => ?_⟩⟩
      have gl := Grew.new ga.tab (o := .lst (ys.map V.str)) nl
      have gq := gl.put (o := .frz ob (.tup (ys.map V.str))) nq
      refine ⟨q, ys, rfl, ga.trans gq, ⟨ob, oc, od, upd_same⟩, ?_, ?_, ?_, pm.nodup_iff.mpr dks, asc⟩
      · rw [pm.length_eq, lks]; omega
      · rw [pm.length_eq, lks]; omega
      · exact List.all_eq_true.mpr fun z hz => List.all_eq_true.mp aks z (pm.mem_iff.mp hz)
    rintro σ H3 ⟨pl, ps, rfl, g3, hpl, p1, p2, aps, dps, sps⟩
    have g03 := g02.trans g3
    have hki3 := g3.tup g02.tab hki
    -- names
    refine ⟨fun σ H' => ∃ (nm : Addr) (names : List Str), σ = [some (.ref a), some (.int at_), some (.int d), some (.ref ki), some (.ref pl), some (.ref nm), none, none] ∧ Grew P H3 H' ∧ H' nm = some (.lst (names.map V.str)) ∧ names.length = 8 ∧ names.all isNm = true ∧ names.Nodup ∧ (names.map fun z => z.cps.toList.head?).Nodup, ?_, ?_⟩
    · exact ⟨_, rfl, _, rfl, _, _, rfl, rfl, a, _, _, _, rfl, rfl, g03.sqL hP hS, e6, n6, 8, rfl, l6, by decide, g03.tab, fun Ha q names ga nq eq lq aq dq hq => ⟨q, names, rfl, ga, eq, lq, aq, dq, hq⟩⟩
    rintro σ H4 ⟨nm, names, rfl, g4, hnm, lnm, anm, dnm, hdn⟩
    have g04 := g03.trans g4
    have hki4 := g4.tup g03.tab hki3
    have hpl4 := TupF.grew hpl g4 g03.tab
    -- roads
    refine ⟨Nat.zero_le _, fun ro nro => ?_⟩
    have gr := Grew.new g04.tab (o := .lst []) nro
    have hro : (L2.upd H4 ro (.lst [])) ro = some (.lst []) := upd_same
    generalize L2.upd H4 ro (.lst []) = H5 at gr hro
    have nro0 : H ro = none := g04.free nro
    have m8 : 0 ≤ n7 % 8 := Int.emod_nonneg _ (by decide)
    have m8' : n7 % 8 < 8 := Int.emod_lt_of_pos _ (by decide)
    refine ⟨fun σ H' => ∃ (v7 : Option V) (rs : List RoadD) (xs : List V), σ = [some (.ref a), some (.int at_), some (.int d), some (.ref ki), some (.ref pl), some (.ref nm), some (.ref ro), v7] ∧ Grew P H4 H' ∧ H' ro = some (.lst xs) ∧ Paired (RoadAt K H') rs xs ∧ (∀ r ∈ rs, RoadOk d ps ks r) ∧ rs.map (·.name) = names.take rs.length ∧ 1 ≤ rs.length ∧ rs.length ≤ 8, ?_, ?_⟩
    · refine ⟨_, rfl, _, rfl, _, _, rfl, rfl, a, _, _, _, rfl, rfl, (g04.trans gr).sqL hP hS, e7, .inl ⟨_, rfl, _, _, rfl, rfl, (show (0 : Int) < 8 by decide), _, _, rfl, rfl, 1 + n7 % 8, rfl, by omega, by omega,
        for_range (n := (1 + n7 % 8).toNat) (fun i σ H' => ∃ (v7 : Option V) (rs : List RoadD) (xs : List V), σ = [some (.ref a), some (.int at_), some (.int d), some (.ref ki), some (.ref pl), some (.ref nm), some (.ref ro), v7] ∧ Grew P H4 H' ∧ H' ro = some (.lst xs) ∧ Paired (RoadAt K H') rs xs ∧ (∀ r ∈ rs, RoadOk d ps ks r) ∧ rs.map (·.name) = names.take i ∧ rs.length = i)
          ⟨none, [], [], rfl, gr, hro, .nil, fun r hr => absurd hr (by simp), rfl, rfl⟩ ?_ ?_⟩⟩
      · rintro i σ H6 hi ⟨v7, rs, xs, rfl, g6, hxs, hrs, hok, hnms, lrs⟩
        rw [Int.zero_add]
        have hi8 : i < names.length := by omega
        have g06 := g04.trans g6
        have en : names[i]? = some names[i] := List.getElem?_eq_getElem hi8
        refine ⟨_, rfl, .inl ⟨rfl, _, SqL.of hxs⟩, ?_⟩
        refine ⟨_, rfl, _, rfl, _, _, rfl, rfl, _, rfl, _, _, rfl, rfl, .inl ⟨by decide, by decide⟩, _, _, rfl, rfl, _, rfl, _, rfl, nm, _, _, _, rfl, rfl, SqL.of (g6.lst g04.tab hnm), atI_nat (by rw [List.getElem?_map, en]; rfl), _, rfl, _, rfl, _, rfl,
          a, ki, pl, ns, at_ + 8 + 10 * (i : Int), d, names[i], ks, ps, rfl, g06.sqL hP hS, hsm, by omega, by omega, d1, g6.tup g04.tab hki4, (TupF.grew hpl4 g6 g04.tab).sq, by omega, by omega, dks, g06.tab, fun H7 r t g7 nt hr hn hro7 => ?_⟩
        have hxs7 := g7.lst g06.tab hxs
        have lx := Paired.len hrs
        have up : ∀ {r : RoadD} {v : V}, RoadAt K H7 r v → RoadAt K (L2.upd H7 ro (.lst (xs ++ [.ref t]))) r v := fun m => m.upd (fun xs z => by rw [hxs7] at z; cases z) (KeepT.lst hxs7)
        refine ⟨ro, _, .ref t, rfl, rfl, hxs7, by rw [sizeLine_eq]; omega, _, rs ++ [r], xs ++ [.ref t], rfl, (g6.trans g7).write hxs7 (fun _ z => by cases z) nro, upd_same, Paired.snoc (Paired.map' hrs fun r v m => up (m.grew g7 g06.tab)) (up hr), ?_, ?_, ?_⟩
        · intro y hy
          rcases List.mem_append.mp hy with hy | hy
          · exact hok y hy
          · rw [List.mem_singleton.mp hy]; exact hro7
        · rw [List.map_append, hnms, List.take_succ, en]
          show _ ++ [r.name] = _
          rw [hn]
          rfl
        · rw [List.length_append, lrs]; rfl
      · rintro σ H' ⟨v7, rs, xs, rfl, g6, hxs, hrs, hok, hnms, lrs⟩
        exact ⟨v7, rs, xs, rfl, g6, hxs, hrs, hok, by rw [hnms, lrs], by omega, by omega⟩
    rintro σ H6 ⟨v7, rs, xs, rfl, g6, hxs, hrs, hok, hnms, r1, r8⟩
    have g06 := g04.trans g6
    have nd : (rs.map (·.name)).Nodup := by rw [hnms]; exact dnm.sublist (List.take_sublist _ _)
    have nmA : (rs.map (·.name)).all isNm = true := by
      rw [hnms]
      exact List.all_eq_true.mpr fun z hz => List.all_eq_true.mp anm z (List.mem_of_mem_take hz)
    -- sorted
    refine ⟨fun σ H' => ∃ (ro2 : Addr) (rs2 : List RoadD) (ys : List V), σ = [some (.ref a), some (.int at_), some (.int d), some (.ref ki), some (.ref pl), some (.ref nm), some (.ref ro2), v7] ∧ Grew P H6 H' ∧ H' ro2 = some (.tup ys) ∧ Paired (RoadAt K H') rs2 ys ∧ rs2.Perm rs ∧ AscR rs2, ?_, ?_⟩
    · refine ⟨_, rfl, ro, xs, nameAt H6, rfl, SqL.of hxs, fun x hx => ?_, fun x hx y hy e => Paired.inj hrs nd hx hy fun r r' m m' => by rw [← m.name, ← m'.name]; exact e, fun ys l hpm hso hl => ⟨l, _, rfl, .inl ⟨SqL.of upd_same, fun p hp2 => ?_⟩⟩⟩
      · obtain ⟨r, _, m⟩ := Paired.mem hrs hx
        have nm := m.name
        obtain ⟨p, q, hv, e, e1, _⟩ := m
        exact ⟨p, _, e, by rw [nm]; exact SqT.of e1⟩
      · obtain ⟨rs', pm, hr'⟩ := Paired.perm hpm hrs
        have gl := Grew.new g06.tab (o := .lst ys) hl
        have gp := gl.put (o := .tup ys) hp2
        exact ⟨p, rs', ys, rfl, gp, upd_same, Paired.map' hr' fun _ _ m => m.grew gp g06.tab, pm, Paired.pair (fun a b x y m m' e => by rw [m.name, m'.name] at e; exact e) hr' hso⟩
    rintro σ H7 ⟨ro2, rs2, ys, rfl, g7, hys, hrs2, pm, asc⟩
    have g07 := g06.trans g7
    have hki7 := g7.tup g06.tab (g6.tup g04.tab hki4)
    have hpl7 := TupF.grew (TupF.grew hpl4 g6 g04.tab) g7 g06.tab
    have nd2 : (rs2.map (·.name)).Nodup := (pm.map _).nodup_iff.mpr nd
    refine ⟨_, rfl, _, rfl, _, rfl, _, rfl, _, rfl, _, rfl, _, _, rfl, rfl, _, rfl, a, ro2, ns, at_ + 90, rs2, ys, rfl, g07.sqL hP hS, hsm, by omega, by omega, hys, hrs2, by rw [pm.length_eq]; omega, nd2, g07.tab, fun H8 ba bs zs g8 nba hba hzs ab bok => ?_⟩
    have g08 := g07.trans g8
    refine ⟨by show 5 ≤ sizeLine; decide, fun q nq => ?_⟩
    have gq := Grew.new g08.tab (o := .lst [V.int d, .ref ki, .ref pl, .ref ro2, .ref ba]) nq
    refine k _ q d ks ps rs2 bs (g08.trans gq) (g08.free nq) ⟨ki, pl, ro2, ba, ys, zs, upd_same, gq.tup g08.tab (g8.tup g07.tab hki7), TupF.grew (TupF.grew hpl7 g8 g07.tab) gq g08.tab, gq.tup g08.tab (g8.tup g07.tab hys), Paired.map' hrs2 fun _ _ m => (m.grew g8 g07.tab).grew gq g08.tab, gq.tup g08.tab hba, Paired.map' hzs fun _ _ m => m.grew gq g08.tab⟩ ?_ sks sps asc ab p1 (by rw [pm.length_eq]; exact r1) (by rw [pm.length_eq]; exact r8) ?_
    rotate_left
    · have e1 : (rs.map fun r => r.name.cps.toList.head?) = (names.take rs.length).map fun z => z.cps.toList.head? := by rw [← hnms, List.map_map]; rfl
      have e2 : (rs.map fun r => r.name.cps.toList.head?).Nodup := by
        rw [e1]
        exact hdn.sublist ((List.take_sublist _ _).map _)
      exact (pm.map _).nodup_iff.mpr e2
    refine ⟨d1, d2, k1, by omega, by omega, aks, aps, dks, dps, ⟨by rw [pm.length_eq]; omega, ?_, nd2, fun r hr => hok r (pm.mem_iff.mp hr)⟩, bok⟩
    exact List.all_eq_true.mpr fun z hz => List.all_eq_true.mp nmA z ((pm.map _).mem_iff.mp hz)
end
end W

set_option Elab.async false
set_option linter.all false
set_option maxRecDepth 100000
set_option maxHeartbeats 2000000
namespace W
open PySem PySem.Spec PyProof.Rows L2 GxR MyG MyS
/-! ### a map of tuples -/
def spNamesT (K : PySem.W.Frag) (P : Addr) : Sp := fun vs H Q _ => ∃ (a : Addr) (ns : List Str) (lo hi : Int), vs = [.ref a, .int lo, .int hi] ∧ SqT K H a (ns.map V.str) ∧ lo ≤ ns.length ∧ (ns.length : Int) ≤ hi ∧ ns.length ≤ 1000 ∧ ns.all isNm = true ∧ ns.Nodup ∧ TabG H P ∧
  ∀ H' p ys, Grew P H H' → H p = none → H' p = some (.tup (ys.map V.str)) → ys.Perm ns → Asc ys → Q (.ref p) H'
def spRoadsT (K : PySem.W.Frag) (P : Addr) : Sp := fun vs H Q _ => ∃ (a pl ki : Addr) (d : Int) (ps ks : List Str) (rs : List RoadD) (xs : List V), vs = [.ref a, .int d, .ref pl, .ref ki] ∧ SqT K H a xs ∧ Paired (GRoad K H) rs xs ∧ SqT K H pl (ps.map V.str) ∧ SqT K H ki (ks.map V.str) ∧ RoadsOk d ps ks rs ∧ TabG H P ∧
  ∀ H' p rs' ys, Grew P H H' → KeptAll rs rs' → AscR rs' → H p = none → H' p = some (.tup ys) → Paired (RoadAt K H') rs' ys → Q (.ref p) H'
def spBarsT (K : PySem.W.Frag) (P : Addr) : Sp := fun vs H Q _ => ∃ (a d : Addr) (rs : List RoadD) (bs : List (Str × Str)) (xs : List V), vs = [.ref a, .ref d] ∧ SqT K H a xs ∧ Paired (GBar H) bs xs ∧ DictR K H d rs ∧ BarsOk rs bs ∧ TabG H P ∧
  ∀ H' p bs' ys, Grew P H H' → bs'.Perm bs → AscB bs' → H p = none → H' p = some (.tup ys) → Paired (GBar H') bs' ys → Q (.ref p) H'
def spInitTT (K : PySem.W.Frag) (M P : Addr) : Sp := fun vs H Q _ => ∃ (x dx ki pl ro ba : Addr) (d : Int) (ks ps : List Str) (rs : List RoadD) (bs : List (Str × Str)) (xs zs : List V) (H0 : Hp), vs = [.ref x, .int d, .ref ki, .ref pl, .ref ro, .ref ba] ∧
  Grew P H0 H ∧ TabG H0 P ∧ H0 x = none ∧ H x = some (.ins M dx []) ∧ SqT K H0 ki (ks.map V.str) ∧ SqT K H0 pl (ps.map V.str) ∧ SqT K H0 ro xs ∧ Paired (GRoad K H0) rs xs ∧ SqT K H0 ba zs ∧ Paired (GBar H0) bs zs ∧ PartsOk d ks ps rs bs ∧
  ∀ H' ks' ps' rs' bs', Grew P H0 H' → ks'.Perm ks → Asc ks' → ps'.Perm ps → Asc ps' → KeptAll rs rs' → AscR rs' → bs'.Perm bs → AscB bs' → MapAt K H' M x d ks' ps' rs' bs' → Q .non H'
section
variable {Pg : Program} {w : World} {K : PySem.W.Frag} {mg : Str → Option Value} {base : Heap} {C P : Addr}
theorem ok_namesT {f fN fD : Addr} {fd fdN fdD : FuncData} (F : Fun K "_checked_names" "_checked_names" sNames f fd) (hl : mg "len" = none) (ht : mg "tuple" = none) (hs : mg "sorted" = none)
    (GN : FnOk Pg w K mg base CX0 2 fN fdN ["text"] (spIsName P)) (gN : mg "is_name" = some (.ref fN)) (kN : PySem.W.keepIn K (.ref fN) = true) (bN : Binds K fdN ["text"] [])
    (GD : FnOk Pg w K mg base CX0 1 fD fdD ["parts"] (spDiff K)) (gD : mg "_check_different" = some (.ref fD)) (kD : PySem.W.keepIn K (.ref fD) = true) (bD : Binds K fdD ["parts"] []) :
    FnOk Pg w K mg base CX0 3 f fd ["names", "least", "most"] (spNamesT K P) := by
  refine F.ok scNames (fun vs H Q E h => ?_) (fun cdv A outer s H vs Q E hr h => ?_)
  · obtain ⟨a, ns, lo, hi, rfl, _⟩ := h
    rfl
  · obtain ⟨a, ns, lo, hi, rfl, hS, hlo, hhi, h1, hz, nd, hP, kQ⟩ := h
    have hr1 : Room 1 _ := hr.mono (by decide)
    refine ⟨_, pss_cons (ps_if (pt_not (pt_chain op_le op_le (pv 1) (pe_callB call_len_seq (by rfl) hl PySem.boot_len (pa_cons (pv 0) pa_nil)) (pv 2))) (pss_one ps_never) pss_nil)
      (pss_cons (ps_for PassesOwn.never rfl (pi_tup (pv 0)) (pg_name (i := 3) scNames.nd rfl (Or.inl rfl))
        (pss_one (ps_if (pt_not (pt_val (pe_call GN hr (by rfl) gN kN bN .nil pass0 (pa_cons (pv 3) pa_nil)))) (pss_one ps_never) pss_nil)))
      (pss_cons (ps_expr (pe_call GD hr1 (by rfl) gD kD bD .nil pass0 (pa_cons (pv 0) pa_nil)))
      (pss_one (ps_ret (pe_callTy call_tuple_of (by rfl) ht (by decide +kernel) (pa_cons (pe_callB cr_sortSQ (by rfl) hs (by decide +kernel) (pa_cons (pv 0) pa_nil)) pa_nil)))))), ?_⟩
    refine ⟨_, rfl, _, rfl, a, _, rfl, .inr hS, _, _, rfl, rfl, _, rfl, ?_⟩
    rw [List.length_map]
    refine if_t (decide_eq_true hlo) ⟨_, rfl, _, _, rfl, rfl, _, rfl, ?_⟩
    rw [decide_eq_true hhi]
    refine iteF ⟨_, rfl, a, rfl, ⟨_, hS⟩, for_tup (K := K) (a := a) (xs := ns.map V.str) (fun i σ H' => ∃ v, σ = [some (.ref a), some (.int lo), some (.int hi), v] ∧ Grew P H H')
      ⟨none, rfl, Grew.refl hP⟩ (fun i σ H' _ ⟨_, _, g⟩ => g.sqT hP hS) ?_ ?_⟩
    · rintro i y σ H' hi ⟨v, rfl, g⟩
      obtain ⟨z, hzi, rfl⟩ : ∃ z, ns[i]? = some z ∧ y = V.str z := by
        rw [List.getElem?_map] at hi
        obtain ⟨z, e1, e2⟩ := Option.map_eq_some_iff.mp hi
        exact ⟨z, e1, e2.symm⟩
      have hn : isNm z = true := List.all_eq_true.mp hz z (List.mem_of_getElem? hzi)
      have hzl := isNm_len hn
      refine ⟨_, rfl, z, rfl, by rw [sizeLine_eq]; omega, g.tab, fun H2 t2 => ⟨_, rfl, ?_⟩⟩
      have g2 := g.trans (Grew.of t2)
      rw [hn]
      exact iteF ⟨_, rfl, g2⟩
    · rintro σ H' ⟨v, rfl, g⟩
      refine ⟨_, rfl, a, rfl, .inl ⟨ns, .inr (g.sqT hP hS), h1, nd⟩, ?_⟩
      refine ⟨_, rfl, a, ns, rfl, .inr (g.sqT hP hS), fun ys l hp hso hl => ⟨l, _, rfl, .inl ⟨SqL.of upd_same, fun p hp2 => ?_⟩⟩⟩
      have gl := g.put (o := .lst (ys.map V.str)) hl
      exact kQ _ p ys (gl.put hp2) (gl.free hp2) upd_same hp hso
theorem ok_roadsT {f fN fR : Addr} {fd fdN fdR : FuncData} {t1 t2 t3 : Tok} (F : Fun K "_checked_roads" "_checked_roads" sRoads f fd) (hl : mg "len" = none) (ht : mg "tuple" = none) (hs : mg "sorted" = none)
    (hp : mg "PARTS" = some (.int 6 t1)) (hn : mg "NAME" = some (.int 0 t2)) (hm : mg "MOST_ROADS" = some (.int 60 t3))
    (GN : FnOk Pg w K mg base CX0 3 fN fdN ["names", "least", "most"] (spNames K P)) (gN : mg "_checked_names" = some (.ref fN)) (kN : PySem.W.keepIn K (.ref fN) = true) (bN : Binds K fdN ["names", "least", "most"] [])
    (GR : FnOk Pg w K mg base CX0 2 fR fdR ["road", "day", "places", "kinds"] (spRoad K P)) (gR : mg "_checked_road" = some (.ref fR)) (kR : PySem.W.keepIn K (.ref fR) = true) (bR : Binds K fdR ["road", "day", "places", "kinds"] []) :
    FnOk Pg w K mg base CX0 4 f fd ["roads", "day", "places", "kinds"] (spRoadsT K P) := by
  refine F.ok scRoads (fun vs H Q E h => ?_) (fun cdv A outer s H vs Q E hr h => ?_)
  · obtain ⟨a, pl, ki, d, ps, ks, rs, xs, rfl, _⟩ := h
    rfl
  · obtain ⟨a, pl, ki, d, ps, ks, rs, xs, rfl, hS, hG, hPl, hKi, ok, hP, k⟩ := h
    have hr2 : Room 2 _ := hr.mono (by decide)
    refine ⟨_, pss_cons (ps_for PassesOwn.never rfl (pi_tup (pv 0)) (pg_name (i := 4) scRoads.nd rfl (Or.inl rfl)) (pss_one (ps_if (pt_cmpR op_ne (pe_callB call_len_seq (by rfl) hl PySem.boot_len (pa_cons (pv 4) pa_nil)) (pe_gI hp) (nomark _)) (pss_one ps_never) pss_nil)))
      (pss_cons (ps_expr (pe_call GN hr (by rfl) gN kN bN .nil pass0 (pa_cons (pe_lc (own := [("road", 4)]) (g := gName 4) (tt := tYes) rfl scRoads.nd (pi_tup (pv 0)) (blkOk_by (N := nRoads) (sc := defScope sRoads) (by decide +kernel)) (fun _ _ _ _ _ => pg_name (i := 4) scRoads.nd rfl (Or.inl rfl)) (fun _ _ _ _ _ => pts_nil)
          (fun _ _ _ _ _ => pe_ix (r := rIxT K) ix_tup (pv 4) (pe_gI hn) (fun _ _ => rfl))) (pa_cons pe_int (pa_cons (pe_gI hm) pa_nil)))))
      (pss_cons (ps_setLc (i := 5) (own := [("road", 4)]) (g := gName 4) (tt := tYes) rfl scRoads.nd rfl rfl (sw_true rfl rfl rfl (by decide +kernel)) (pi_tup (pv 0)) (blkOk_by (N := nRoads) (sc := defScope sRoads) (by decide +kernel)) (fun _ _ _ _ _ => pg_name (i := 4) scRoads.nd rfl (Or.inl rfl)) (fun _ _ _ _ _ => pts_nil)
          (fun _ _ _ _ _ => pe_call GR hr2 (by rfl) gR kR bR .nil pass0 (pa_cons (pv 4) (pa_cons (pv 1) (pa_cons (pv 2) (pa_cons (pv 3) pa_nil))))))
      (pss_one (ps_ret (pe_callTy call_tuple_of (by rfl) ht (by decide +kernel) (pa_cons (pe_callB cr_sortR (by rfl) hs (by decide +kernel) (pa_cons (pv 5) pa_nil)) pa_nil)))))), ?_⟩
    have hln : rs.length = xs.length := Paired.len hG
    have hl60 := ok.len
    refine ⟨_, rfl, a, rfl, ⟨_, hS⟩, for_tup (K := K) (a := a) (xs := xs) (fun i σ H' => H' = H ∧ ∃ v, σ = [some (.ref a), some (.int d), some (.ref pl), some (.ref ki), v, none])
      ⟨rfl, none, rfl⟩ (fun i σ H' _ ⟨e, _⟩ => by rw [e]; exact hS) ?_ ?_⟩
    · rintro i y σ H' hi ⟨rfl, v, rfl⟩
      obtain ⟨r, hr, t, u, h, rfl, hT, _⟩ := Paired.at hG hi
      refine ⟨_, rfl, t, _, rfl, .inr hT, rfl, _, rfl, ?_⟩
      exact if_f (by rfl) ⟨rfl, _, rfl⟩
    · rintro σ H' ⟨rfl, v, rfl⟩
      refine ⟨_, rfl, a, rfl, ⟨_, hS⟩, fun D nD => lc_tup (K := K) (a := a) (xs := xs) (fun i H1 => Grew P H' H1 ∧ H1 D = some (.lst (((rs.map (·.name)).take i).map V.str)))
        ⟨Grew.new hP nD, upd_same⟩ (fun i H1 _ p => p.1.sqT hP hS) (fun i x H1 hx p => ?_) (fun H1 p => ?_)⟩
      · obtain ⟨g, hD⟩ := p
        obtain ⟨r, hr, t, u, h, rfl, hT, _⟩ := Paired.at hG hx
        refine ⟨rfl, _, rfl, t, _, 0, .str r.name, rfl, rfl, g.sqT hP hT, rfl, _, hD, ?_, ?_, ?_⟩
        · rw [List.length_map, List.length_take, List.length_map, sizeLine_eq]
          omega
        · exact g.write hD (fun _ z => by cases z) nD
        · rw [upd_same, List.take_succ, List.getElem?_map, hr, List.map_append]
          rfl
      · obtain ⟨g, hD⟩ := p
        rw [← hln, ← List.length_map (f := (·.name)), List.take_length] at hD
        refine ⟨D, rs.map (·.name), 0, 60, rfl, SqL.of hD, by omega, by rw [List.length_map]; omega, by rw [List.length_map]; omega, ok.nm, ok.nd, g.tab, fun H2 p2 ys2 g2 np e2 _ _ => ?_⟩
        have g3 := g.trans g2
        refine ⟨_, rfl, a, rfl, ⟨_, g3.sqT hP hS⟩, fun D2 nD2 => lc_tup (K := K) (a := a) (xs := xs) (fun i H1 => Grew P H' H1 ∧ ∃ acc ms, H1 D2 = some (.lst acc) ∧ Paired Kept (rs.take i) ms ∧ Paired (RoadAt K H1) ms acc)
          ⟨g3.put nD2, [], [], upd_same, .nil, .nil⟩ (fun i H1 _ p => p.1.sqT hP hS) (fun i x H1 hx p => ?_) (fun H1 p => ?_)⟩
        · obtain ⟨g4, acc, ms, hD4, hk4, hm4⟩ := p
          obtain ⟨r, hr, hgr⟩ := Paired.at hG hx
          have nD2' := g3.free nD2
          refine ⟨rfl, _, rfl, _, rfl, _, rfl, _, rfl, x, pl, ki, d, ps, ks, r, rfl, hgr.keep (KeepT.grew g4 hP), g4.sqT hP hPl, g4.sqT hP hKi, ok.ok r (List.mem_of_getElem? hr), g4.tab, fun H5 p5 q5 h5 r5 g5 kp n5 e5 f5 hh5 => ?_⟩
          have hD5 := g5.lst g4.tab hD4
          have g45 := g4.trans g5
          refine ⟨acc, hD5, ?_, g45.write hD5 (fun _ z => by cases z) nD2', acc ++ [.ref p5], ms ++ [r5], upd_same, ?_, ?_⟩
          · rw [← Paired.len hm4, ← Paired.len hk4, List.length_take, sizeLine_eq]
            omega
          · rw [List.take_succ, hr]
            exact Paired.snoc hk4 kp
          · have up : ∀ {r : RoadD} {v : V}, RoadAt K H5 r v → RoadAt K (L2.upd H5 D2 (.lst (acc ++ [.ref p5]))) r v := fun m => m.upd (fun xs z => by rw [hD5] at z; cases z) (KeepT.lst hD5)
            exact Paired.snoc (Paired.map' hm4 fun r v m => up (m.grew g5 g4.tab)) (up ⟨p5, q5, h5, rfl, e5, f5, hh5⟩)
        · obtain ⟨g4, acc, ms, hD4, hk4, hm4⟩ := p
          rw [← hln, List.take_length] at hk4
          have nd : (ms.map (·.name)).Nodup := by rw [kept_names hk4]; exact ok.nd
          refine ⟨_, rfl, D2, acc, nameAt H1, rfl, SqL.of hD4, fun x hx => ?_, fun x hx y hy e => Paired.inj hm4 nd hx hy fun r r' m m' => by rw [← m.name, ← m'.name]; exact e, fun ys l hpm hso hl => ⟨l, _, rfl, .inl ⟨SqL.of upd_same, fun p hp2 => ?_⟩⟩⟩
          · obtain ⟨r, _, m⟩ := Paired.mem hm4 hx
            have nm := m.name
            obtain ⟨p, q, hv, e, e1, _⟩ := m
            exact ⟨p, _, e, by rw [nm]; exact SqT.of e1⟩
          · obtain ⟨rs', pm, hr'⟩ := Paired.perm hpm hm4
            have gl := Grew.new g4.tab (o := .lst ys) hl
            have gp := gl.put (o := .tup ys) hp2
            exact k _ p rs' ys (g4.trans gp) ⟨ms, pm.symm, hk4⟩ (Paired.pair (fun a b x y m m' e => by rw [m.name, m'.name] at e; exact e) hr' hso) (g4.free (gl.free hp2)) upd_same (Paired.map' hr' fun _ _ m => m.grew gp g4.tab)
theorem ok_barsT {f fD : Addr} {fd fdD : FuncData} {t1 t2 t3 : Tok} (F : Fun K "_checked_bars" "_checked_bars" sBars f fd) (hl : mg "len" = none) (ht : mg "tuple" = none) (hs : mg "sorted" = none)
    (hm : mg "MOST_BARS" = some (.int 40 t1)) (he : mg "END" = some (.int 2 t2)) (hst : mg "START" = some (.int 1 t3))
    (GD : FnOk Pg w K mg base CX0 1 fD fdD ["parts"] (spDiff K)) (gD : mg "_check_different" = some (.ref fD)) (kD : PySem.W.keepIn K (.ref fD) = true) (bD : Binds K fdD ["parts"] []) :
    FnOk Pg w K mg base CX0 2 f fd ["bars", "roads_by_name"] (spBarsT K P) := by
  refine F.ok scBars (fun vs H Q E h => ?_) (fun cdv A outer s H vs Q E hr h => ?_)
  · obtain ⟨a, d, rs, bs, xs, rfl, _⟩ := h
    rfl
  · obtain ⟨a, d, rs, bs, xs, rfl, hS, hG, hD, ok, hP, k⟩ := h
    refine ⟨_, pss_cons (ps_if (pt_cmpR op_gt (pe_callB call_len_seq (by rfl) hl PySem.boot_len (pa_cons (pv 0) pa_nil)) (pe_gI hm) (nomark _)) (pss_one ps_never) pss_nil)
      (pss_cons (ps_for PassesOwn.never rfl (pi_tup (pv 0)) (pg_name (i := 2) scBars.nd rfl (Or.inl rfl))
        (pss_cons (ps_if (pt_cmpR op_ne (pe_callB call_len_seq (by rfl) hl PySem.boot_len (pa_cons (pv 2) pa_nil)) pe_int (nomark _)) (pss_one ps_never) pss_nil)
        (pss_cons (ps_asg (pv 2) (pg_tup (by rfl) (pgs_cons (pg_name (i := 3) scBars.nd rfl (.inl rfl)) (pgs_cons (pg_name (i := 4) scBars.nd rfl (.inl rfl)) pgs_nil))))
        (pss_cons (ps_if (PW.pt (pw_or (pt_cmp (pc_dnotin (u1 hr.units) (pv 3) (pv 1))) (pw_or1 (pt_cmp (pc_dnotin (u1 hr.units) (pv 4) (pv 1)))))) (pss_one ps_never) pss_nil)
        (pss_one (ps_if (pt_cmpR op_ne (pe_ix ix_tup (pe_dget (u1 hr.units) (pv 1) (pv 3) (fun _ _ => rfl)) (pe_gI he) (fun _ _ => rfl)) (pe_ix ix_tup (pe_dget (u1 hr.units) (pv 1) (pv 4) (fun _ _ => rfl)) (pe_gI hst) (fun _ _ => rfl)) (nomark _)) (pss_one ps_never) pss_nil))))))
      (pss_cons (ps_setLc (i := 5) (own := [("bar", 2)]) (g := gName 2) (tt := tYes) rfl scBars.nd rfl rfl (sw_true rfl rfl rfl (by decide +kernel)) (pi_tup (pv 0)) (blkOk_by (N := nBars) (sc := defScope sBars) (by decide +kernel)) (fun _ _ _ _ _ => pg_name (i := 2) scBars.nd rfl (Or.inl rfl)) (fun _ _ _ _ _ => pts_nil)
          (fun _ _ _ _ _ => pe_callTy (r := rTupOf K) call_tuple_of (by rfl) ht (by decide +kernel) (pa_cons (pv 2) pa_nil)))
      (pss_cons (ps_expr (pe_call GD (hr.mono (by decide)) (by rfl) gD kD bD .nil pass0 (pa_cons (pv 5) pa_nil)))
      (pss_one (ps_ret (pe_callTy call_tuple_of (by rfl) ht (by decide +kernel) (pa_cons (pe_callB cr_sortB (by rfl) hs (by decide +kernel) (pa_cons (pv 5) pa_nil)) pa_nil))))))), ?_⟩
    have hln := Paired.len hG
    have hl40 := ok.len
    refine ⟨_, rfl, a, _, rfl, .inr hS, _, _, rfl, rfl, _, rfl, if_f (decide_eq_false (by omega)) ?_⟩
    refine ⟨_, rfl, a, rfl, ⟨_, hS⟩, for_tup (K := K) (a := a) (xs := xs) (fun i σ H' => H' = H ∧ ∃ v1 v2 v3, σ = [some (.ref a), some (.ref d), v1, v2, v3, none])
      ⟨rfl, none, none, none, rfl⟩ (fun i σ H' _ ⟨e, _⟩ => by rw [e]; exact hS) ?_ ?_⟩
    · rintro i y σ H' hi ⟨rfl, v1, v2, v3, rfl⟩
      obtain ⟨b, hb, t, rfl, hT⟩ := Paired.at hG hi
      obtain ⟨r1, hr1, r2, hr2, e1, e2, e3⟩ := ok.ok b (List.mem_of_getElem? hb)
      obtain ⟨kvs, hd, hin, _⟩ := hD
      obtain ⟨w1, l1, p1, q1, h1, rfl, a1, _, _⟩ := hin r1 hr1
      obtain ⟨w2, l2, p2, q2, h2, rfl, a2, _, _⟩ := hin r2 hr2
      rw [← e1] at l1
      rw [← e2] at l2
      have g1 : DGet H' d (.str b.1) (some (.ref p1)) := by rw [← l1]; exact DGet.k (k := .inr b.1) hd
      have g2 : DGet H' d (.str b.2) (some (.ref p2)) := by rw [← l2]; exact DGet.k (k := .inr b.2) hd
      refine ⟨_, rfl, t, _, rfl, .inr (SqT.of hT), rfl, _, rfl, if_f (by rfl) ?_⟩
      refine ⟨_, rfl, t, _, rfl, SqT.of hT, rfl, _, _, rfl, _, _, rfl, rfl, ?_⟩
      refine ⟨_, rfl, _, rfl, d, _, rfl, g1, _, rfl, if_f (by rfl) ?_⟩
      refine ⟨_, rfl, _, rfl, d, _, rfl, g2, _, rfl, if_f (by rfl) ?_⟩
      refine ⟨_, rfl, _, rfl, d, _, rfl, g1, p1, _, 2, .str r1.goal, rfl, rfl, SqT.of a1, rfl, _, rfl, _, rfl, d, _, rfl, g2, p2, _, 1, .str r2.start, rfl, rfl, SqT.of a2, rfl, rfl, _, rfl, if_f ?_ ⟨rfl, _, _, _, rfl⟩⟩
      rw [e3]
      simp
    · rintro σ H' ⟨rfl, v1, v2, v3, rfl⟩
      refine ⟨_, rfl, a, rfl, ⟨_, hS⟩, fun D nD => lc_tup (K := K) (a := a) (xs := xs) (fun i H1 => Grew P H' H1 ∧ H1 D = some (.lst (xs.take i)))
        ⟨Grew.new hP nD, upd_same⟩ (fun i H1 _ p => p.1.sqT hP hS) (fun i x H1 hx p => ?_) (fun H1 p => ?_)⟩
      · obtain ⟨g, hD1⟩ := p
        obtain ⟨b, hb, t, rfl, hT⟩ := Paired.at hG hx
        refine ⟨rfl, _, rfl, t, _, rfl, .inr ⟨SqT.of (g.tup hP hT), _, hD1, ?_, g.write hD1 (fun _ z => by cases z) nD, ?_⟩⟩
        · rw [List.length_take, sizeLine_eq]; omega
        · rw [upd_same, List.take_succ, hx]; rfl
      · obtain ⟨g, hD1⟩ := p
        rw [List.take_length] at hD1
        have hG1 : Paired (GBar H1) bs xs := Paired.map' hG fun b v m => m.grew g hP
        obtain ⟨ks, ek1, ek2, ek3⟩ := bars_keys (K := K) hG1
        have lk : ks.length = xs.length := by rw [ek1, List.length_map]
        refine ⟨_, rfl, D, rfl, .inr ⟨ks, by rw [← ek1]; exact SqL.of hD1, ek3, by omega, by rw [ek2]; exact nodup_bars ok.nd⟩, ?_⟩
        refine ⟨_, rfl, D, xs, barAt H1, rfl, SqL.of hD1, fun x hx => ?_, fun ys l hpm hso hl => ⟨l, _, rfl, .inl ⟨SqL.of upd_same, fun p hp2 => ?_⟩⟩⟩
        · obtain ⟨b, _, m⟩ := Paired.mem hG1 hx
          have nm := m.at
          obtain ⟨t, e, q⟩ := m
          exact ⟨t, e, by rw [nm]; exact SqT.of q⟩
        · obtain ⟨bs', pm, hr'⟩ := Paired.perm hpm hG1
          have gl := Grew.new g.tab (o := .lst ys) hl
          have gp := gl.put (o := .tup ys) hp2
          exact k _ p bs' ys (g.trans gp) pm (Paired.pair (fun a b x y m m' e => by rw [m.at, m'.at] at e; exact e) hr' hso) (g.free (gl.free hp2)) upd_same (Paired.map' hr' fun _ _ m => m.grew gp g.tab)
theorem ok_initTT {f fY fN fR fB M : Addr} {fd fdY fdN fdR fdB : FuncData} {t1 t2 t3 : Tok} {dvs : List V} {kws : List (Str × V)} (F : FunD K "__init__" "Map.__init__" (defArgs sInit) (defBody sInit) (defScope sInit) dvs kws f fd) (T : TxtM K M)
    (hn : mg "NAME" = some (.int 0 t1)) (hk : mg "MOST_KINDS" = some (.int 4 t2)) (hp : mg "MOST_PLACES" = some (.int 30 t3))
    (GY : FnOk Pg w K mg base CX0 1 fY fdY ["day"] spDay) (gY : mg "_checked_day" = some (.ref fY)) (kY : PySem.W.keepIn K (.ref fY) = true) (bY : Binds K fdY ["day"] [])
    (GN : FnOk Pg w K mg base CX0 3 fN fdN ["names", "least", "most"] (spNamesT K P)) (gN : mg "_checked_names" = some (.ref fN)) (kN : PySem.W.keepIn K (.ref fN) = true) (bN : Binds K fdN ["names", "least", "most"] [])
    (GR : FnOk Pg w K mg base CX0 4 fR fdR ["roads", "day", "places", "kinds"] (spRoadsT K P)) (gR : mg "_checked_roads" = some (.ref fR)) (kR : PySem.W.keepIn K (.ref fR) = true) (bR : Binds K fdR ["roads", "day", "places", "kinds"] [])
    (GB : FnOk Pg w K mg base CX0 2 fB fdB ["bars", "roads_by_name"] (spBarsT K P)) (gB : mg "_checked_bars" = some (.ref fB)) (kB : PySem.W.keepIn K (.ref fB) = true) (bB : Binds K fdB ["bars", "roads_by_name"] []) :
    FnOk Pg w K mg base CX0 5 f fd pInit (spInitTT K M P) := by
  refine F.ok scInit (fun vs H Q E h => ?_) (fun cdv A outer s H vs Q E hr h => ?_)
  · obtain ⟨x, dx, ki, pl, ro, ba, d, ks, ps, rs, bs, xs, zs, H0, rfl, _⟩ := h
    rfl
  · obtain ⟨x, dx, ki, pl, ro, ba, d, ks, ps, rs, bs, xs, zs, H0, rfl, g0, hP0, nx, hx, hKi, hPl, hRo, hG, hBa, hB, ok, k⟩ := h
    have hr1 : Room 1 _ := hr.mono (by decide)
    have hr2 : Room 2 _ := hr.mono (by decide)
    have hr3 : Room 3 _ := hr.mono (by decide)
    refine ⟨_, pss_cons (ps_fld (pv 0) (pe_call GY hr1 (by rfl) gY kY bY .nil pass0 (pa_cons (pv 1) pa_nil)) rfl)
      (pss_cons (ps_fld (pv 0) (pe_call GN hr3 (by rfl) gN kN bN .nil pass0 (pa_cons (pv 2) (pa_cons pe_int (pa_cons (pe_gI hk) pa_nil)))) rfl)
      (pss_cons (ps_fld (pv 0) (pe_call GN hr3 (by rfl) gN kN bN .nil pass0 (pa_cons (pv 3) (pa_cons pe_int (pa_cons (pe_gI hp) pa_nil)))) rfl)
      (pss_cons (ps_fld (pv 0) (pe_call GR hr (by rfl) gR kR bR .nil pass0 (pa_cons (pv 4) (pa_cons (pv 1) (pa_cons (pe_fld (pv 0) rfl) (pa_cons (pe_fld (pv 0) rfl) pa_nil))))) rfl)
      (pss_cons (ps_fld (pv 0) (pe_dc (own := [("road", 6)]) (g := gName 6) (tt := tYes) rfl scInit.nd (pi_tup (pe_fld (pv 0) rfl)) (blkOk_by (N := nInit) (sc := defScope sInit) (by decide +kernel)) (fun _ _ _ _ _ => pg_name (i := 6) scInit.nd rfl (Or.inl rfl)) (fun _ _ _ _ _ => pts_nil)
          (fun _ _ _ _ _ => pe_ix (r := rIxT K) ix_tup (pv 6) (pe_gI hn) (fun _ _ => rfl)) (fun _ _ _ _ _ => pv 6)) rfl)
      (pss_cons (ps_fld (pv 0) (pe_call GB hr2 (by rfl) gB kB bB .nil pass0 (pa_cons (pv 5) (pa_cons (pe_fld (pv 0) rfl) pa_nil))) rfl)
      (pss_one (ps_fld (pv 0) (pe_dcT (own := [("bar", 7)]) (g := gName 7) (tt := tYes) (u1 hr.units) rfl scInit.nd (pi_tup (pe_fld (pv 0) rfl)) (blkOk_by (N := nInit) (sc := defScope sInit) (by decide +kernel)) (fun _ _ _ _ _ => pg_name (i := 7) scInit.nd rfl (Or.inl rfl)) (fun _ _ _ _ _ => pts_nil)
          (fun _ _ _ _ _ => pv 7) (fun _ _ _ _ _ => pe_bl)) rfl))))))), ?_⟩
    have nins : ∀ (fs : List (Str × V)) (q : Array Value), (HO.ins M dx fs) ≠ .tbl q := fun _ _ z => by cases z
    have k1 := ok.k1
    have k2 := ok.k2
    have p2 := ok.p2
    -- day
    refine ⟨_, rfl, d, rfl, ok.d1, ok.d2, _, rfl, x, M, dx, [], rfl, hx, T.cl, T.n1, by decide, ?_⟩
    have ga := g0.write (o := .ins M dx (putF "day" (.int d) [])) hx (nins _) nx
    have la : (putF ("day" : Str) (V.int d) []).length ≤ 1 := length_putF _ _ []
    -- kinds
    refine ⟨_, rfl, ki, ks, 1, 4, rfl, ga.sqT hP0 hKi, by omega, by omega, by omega, ok.kn, ok.kd, ga.tab, fun Hb kk ks' gb nk ek pk ak => ?_⟩
    have xb := gb.get ga.tab upd_same (nins _)
    refine ⟨_, rfl, x, M, dx, _, rfl, xb, T.cl, T.n2, by omega, ?_⟩
    have gc := (ga.trans gb).write (o := .ins M dx (putF "kinds" (.ref kk) (putF "day" (.int d) []))) xb (nins _) nx
    have lc := length_putF ("kinds" : Str) (V.ref kk) (putF ("day" : Str) (V.int d) [])
    have tk := tup_ins (o := .ins M dx (putF "kinds" (.ref kk) (putF "day" (.int d) []))) xb ek
    -- places
    refine ⟨_, rfl, pl, ps, 0, 30, rfl, gc.sqT hP0 hPl, by omega, by omega, by omega, ok.pn, ok.pd, gc.tab, fun Hd pp ps' gd np ep pp' ap => ?_⟩
    have xd := gd.get gc.tab upd_same (nins _)
    refine ⟨_, rfl, x, M, dx, _, rfl, xd, T.cl, T.n3, by omega, ?_⟩
    have ge := (gc.trans gd).write (o := .ins M dx (putF "places" (.ref pp) (putF "kinds" (.ref kk) (putF "day" (.int d) [])))) xd (nins _) nx
    have le := length_putF ("places" : Str) (V.ref pp) (putF ("kinds" : Str) (V.ref kk) (putF ("day" : Str) (V.int d) []))
    generalize hfs : putF ("places" : Str) (V.ref pp) (putF ("kinds" : Str) (V.ref kk) (putF ("day" : Str) (V.int d) [])) = fs at ge le ⊢
    have f0 : ∀ f, f ∉ nmF → fs.lookup f = none := by rw [← hfs]; exact noF (noF (noF (fun _ _ => rfl) (by decide +kernel)) (by decide +kernel)) (by decide +kernel)
    have f3 : fs.lookup ("places" : Str) = some (V.ref pp) := by rw [← hfs, lookup_putF, if_pos rfl]
    have f2 : fs.lookup ("kinds" : Str) = some (V.ref kk) := by rw [← hfs, lookup_putF, if_neg (by decide +kernel), lookup_putF, if_pos rfl]
    have f1 : fs.lookup ("day" : Str) = some (V.int d) := by rw [← hfs, lookup_putF, if_neg (by decide +kernel), lookup_putF, if_neg (by decide +kernel), lookup_putF, if_pos rfl]
    have tk2 := tup_ins (o := .ins M dx fs) xd (gd.tup gc.tab tk)
    have tp2 := tup_ins (o := .ins M dx fs) xd ep
    -- roads
    have okr := ok.r.perm pp' pk
    refine ⟨_, rfl, _, rfl, _, rfl, x, M, dx, _, _, rfl, upd_same, T.cl, T.n3, f3, _, rfl, x, M, dx, _, _, rfl, upd_same, T.cl, T.n2, f2,
      ro, pp, kk, d, ps', ks', rs, xs, rfl, ge.sqT hP0 hRo, Paired.map' hG (fun r v m => m.keep (KeepT.grew ge hP0)), SqT.of tp2, SqT.of tk2, okr, ge.tab, fun Hf rr rs' ys gf kr ar nr er hm => ?_⟩
    have xf := gf.get ge.tab upd_same (nins _)
    refine ⟨_, rfl, x, M, dx, _, rfl, xf, T.cl, T.n4, by omega, ?_⟩
    have gg := (ge.trans gf).write (o := .ins M dx (putF "roads" (.ref rr) fs)) xf (nins _) nx
    have lg := length_putF ("roads" : Str) (V.ref rr) fs
    have fg4 : (putF ("roads" : Str) (V.ref rr) fs).lookup ("roads" : Str) = some (V.ref rr) := by rw [lookup_putF, if_pos rfl]
    have fg3 : (putF ("roads" : Str) (V.ref rr) fs).lookup ("places" : Str) = some (V.ref pp) := by rw [lookup_putF, if_neg (by decide +kernel)]; exact f3
    have fg2 : (putF ("roads" : Str) (V.ref rr) fs).lookup ("kinds" : Str) = some (V.ref kk) := by rw [lookup_putF, if_neg (by decide +kernel)]; exact f2
    have fg1 : (putF ("roads" : Str) (V.ref rr) fs).lookup ("day" : Str) = some (V.int d) := by rw [lookup_putF, if_neg (by decide +kernel)]; exact f1
    have fg0 := noF (v := V.ref rr) f0 (show ("roads" : Str) ∈ nmF by decide +kernel)
    generalize hgs : putF ("roads" : Str) (V.ref rr) fs = gs at gg lg fg0 fg1 fg2 fg3 fg4 ⊢
    have tr3 := tup_ins (o := .ins M dx gs) xf er
    have tk3 := tup_ins (o := .ins M dx gs) xf (gf.tup ge.tab tk2)
    have tp3 := tup_ins (o := .ins M dx gs) xf (gf.tup ge.tab tp2)
    have hm3 : Paired (RoadAt K (L2.upd Hf x (.ins M dx gs))) rs' ys := Paired.map' hm fun r v m => m.ins xf
    have lys : ys.length ≤ 60 := by rw [← Paired.len hm3, kr.len]; exact ok.r.len
    have ndr := kr.nodup ok.r.nd
    generalize hHg : L2.upd Hf x (.ins M dx gs) = Hg at gg tr3 tk3 tp3 hm3 ⊢
    have xg : Hg x = some (.ins M dx gs) := by rw [← hHg]; exact upd_same
    -- _roads_by_name
    refine ⟨_, rfl, x, M, dx, _, _, rfl, xg, T.cl, T.n4, fg4, rr, rfl, ⟨_, SqT.of tr3⟩, fun D nD => dc_tup (K := K) (a := rr) (xs := ys)
      (fun i H1 => Grew P Hg H1 ∧ ∃ kvs, H1 D = some (.dK kvs) ∧ kvs.length ≤ i ∧ (∀ (j : Nat) r v, j < i → rs'[j]? = some r → ys[j]? = some v → valV kvs (.inr r.name) = some v) ∧ ∀ z : Str, (∀ r ∈ rs'.take i, r.name ≠ z) → valV kvs (.inr z) = none)
      ⟨Grew.new gg.tab nD, [], upd_same, Nat.le_refl _, fun j r v h => absurd h (Nat.not_lt_zero _), fun z _ => rfl⟩ (fun i H1 _ p => SqT.of (p.1.tup gg.tab tr3)) (fun i y H1 hy p => ?_) (fun Hh p => ?_)⟩
    · obtain ⟨g, kvs, hD, hl, hin, hno⟩ := p
      obtain ⟨r, hri, m⟩ := Paired.at hm3 hy
      have hi : i < ys.length := (List.getElem?_eq_some_iff.mp hy).1
      have m1 := m.grew g gg.tab
      obtain ⟨t, q, h, rfl, et, _⟩ := m1
      refine ⟨rfl, _, rfl, t, _, 0, .str r.name, rfl, rfl, SqT.of et, rfl, _, rfl, kvs, .inr r.name, rfl, hD, ?_, g.write hD (fun _ z => by cases z) nD, _, upd_same, ?_, fun j r' v' hj hr' hv' => ?_, fun z hz => ?_⟩
      · rw [sizeLine_eq]; omega
      · exact Nat.le_trans (length_putK kvs (.inr r.name) _) (by omega)
      · rw [valV_put]
        by_cases e : j = i
        · subst e
          rw [hri] at hr'
          rw [hy] at hv'
          cases hr'; cases hv'
          rw [if_pos rfl]
        · have ne : ¬ (Sum.inr r'.name : Key) = .inr r.name := fun z => by
            injection z with z
            have hri' := (List.getElem?_eq_some_iff.mp hri)
            have hrj' := (List.getElem?_eq_some_iff.mp hr')
            obtain ⟨a1, a2⟩ := hri'
            obtain ⟨b1, b2⟩ := hrj'
            refine absurd ?_ (List.pairwise_iff_getElem.mp ndr j i (by rw [List.length_map]; exact b1) (by rw [List.length_map]; exact a1) (by omega))
            rw [List.getElem_map, List.getElem_map, a2, b2]
            exact z
          rw [if_neg ne]
          exact hin j r' v' (by omega) hr' hv'
      · rw [valV_put, if_neg ?_]
        · exact hno z fun r' hr' => hz r' (by rw [List.take_succ]; exact List.mem_append_left _ hr')
        · intro e
          injection e with e
          exact hz r (by rw [List.take_succ, hri]; exact List.mem_append_right _ (List.mem_singleton.mpr rfl)) e.symm
    · obtain ⟨gh, kvs, hD, hl, hin, hno⟩ := p
      have xh := gh.get gg.tab xg (nins _)
      refine ⟨_, rfl, x, M, dx, _, rfl, xh, T.cl, T.n5, by omega, ?_⟩
      have gi := (gg.trans gh).write (o := .ins M dx (putF "_roads_by_name" (.ref D) gs)) xh (nins _) nx
      have li := length_putF ("_roads_by_name" : Str) (V.ref D) gs
      have fi5 : (putF ("_roads_by_name" : Str) (V.ref D) gs).lookup ("_roads_by_name" : Str) = some (V.ref D) := by rw [lookup_putF, if_pos rfl]
      have fi4 : (putF ("_roads_by_name" : Str) (V.ref D) gs).lookup ("roads" : Str) = some (V.ref rr) := by rw [lookup_putF, if_neg (by decide +kernel)]; exact fg4
      have fi3 : (putF ("_roads_by_name" : Str) (V.ref D) gs).lookup ("places" : Str) = some (V.ref pp) := by rw [lookup_putF, if_neg (by decide +kernel)]; exact fg3
      have fi2 : (putF ("_roads_by_name" : Str) (V.ref D) gs).lookup ("kinds" : Str) = some (V.ref kk) := by rw [lookup_putF, if_neg (by decide +kernel)]; exact fg2
      have fi1 : (putF ("_roads_by_name" : Str) (V.ref D) gs).lookup ("day" : Str) = some (V.int d) := by rw [lookup_putF, if_neg (by decide +kernel)]; exact fg1
      have fi0 := noF (v := V.ref D) fg0 (show ("_roads_by_name" : Str) ∈ nmF by decide +kernel)
      generalize his : putF ("_roads_by_name" : Str) (V.ref D) gs = is at gi li fi0 fi1 fi2 fi3 fi4 fi5 ⊢
      have hmh : Paired (RoadAt K Hh) rs' ys := Paired.map' hm3 fun r v m => m.grew gh gg.tab
      have dR : DictR K (L2.upd Hh x (.ins M dx is)) D rs' := by
        refine DictR.ins xh ⟨kvs, hD, fun r hr => ?_, fun z hz => hno z fun r hr => hz r (List.mem_of_mem_take hr)⟩
        obtain ⟨j, hj, ej⟩ := List.getElem_of_mem hr
        have hj' : rs'[j]? = some r := List.getElem?_eq_some_iff.mpr ⟨hj, ej⟩
        obtain ⟨v, hv, m⟩ := Paired.to hmh hj'
        exact ⟨v, hin j r v (List.getElem?_eq_some_iff.mp hv).1 hj' hv, m⟩
      have tr4 := tup_ins (o := .ins M dx is) xh (gh.tup gg.tab tr3)
      have tk4 := tup_ins (o := .ins M dx is) xh (gh.tup gg.tab tk3)
      have tp4 := tup_ins (o := .ins M dx is) xh (gh.tup gg.tab tp3)
      have hm4 : Paired (RoadAt K (L2.upd Hh x (.ins M dx is))) rs' ys := Paired.map' hmh fun r v m => m.ins xh
      generalize hHi : L2.upd Hh x (.ins M dx is) = Hi at gi tr4 tk4 tp4 hm4 dR ⊢
      have xi : Hi x = some (.ins M dx is) := by rw [← hHi]; exact upd_same
      -- bars
      refine ⟨_, rfl, _, rfl, x, M, dx, _, _, rfl, xi, T.cl, T.n5, fi5, ba, D, rs', bs, zs, rfl, gi.sqT hP0 hBa, Paired.map' hB (fun b v m => m.grew gi hP0), dR, ok.b.kept kr, gi.tab, fun Hj bb bs' zs' gj pb ab nb eb hz => ?_⟩
      have xj := gj.get gi.tab xi (nins _)
      refine ⟨_, rfl, x, M, dx, _, rfl, xj, T.cl, T.n6, by omega, ?_⟩
      have gk := (gi.trans gj).write (o := .ins M dx (putF "bars" (.ref bb) is)) xj (nins _) nx
      have lk := length_putF ("bars" : Str) (V.ref bb) is
      have fk6 : (putF ("bars" : Str) (V.ref bb) is).lookup ("bars" : Str) = some (V.ref bb) := by rw [lookup_putF, if_pos rfl]
      have fk5 : (putF ("bars" : Str) (V.ref bb) is).lookup ("_roads_by_name" : Str) = some (V.ref D) := by rw [lookup_putF, if_neg (by decide +kernel)]; exact fi5
      have fk4 : (putF ("bars" : Str) (V.ref bb) is).lookup ("roads" : Str) = some (V.ref rr) := by rw [lookup_putF, if_neg (by decide +kernel)]; exact fi4
      have fk3 : (putF ("bars" : Str) (V.ref bb) is).lookup ("places" : Str) = some (V.ref pp) := by rw [lookup_putF, if_neg (by decide +kernel)]; exact fi3
      have fk2 : (putF ("bars" : Str) (V.ref bb) is).lookup ("kinds" : Str) = some (V.ref kk) := by rw [lookup_putF, if_neg (by decide +kernel)]; exact fi2
      have fk1 : (putF ("bars" : Str) (V.ref bb) is).lookup ("day" : Str) = some (V.int d) := by rw [lookup_putF, if_neg (by decide +kernel)]; exact fi1
      have fk0 := noF (v := V.ref bb) fi0 (show ("bars" : Str) ∈ nmF by decide +kernel)
      generalize hjs : putF ("bars" : Str) (V.ref bb) is = js at gk lk fk0 fk1 fk2 fk3 fk4 fk5 fk6 ⊢
      have tb5 := tup_ins (o := .ins M dx js) xj eb
      have tr5 := tup_ins (o := .ins M dx js) xj (gj.tup gi.tab tr4)
      have tk5 := tup_ins (o := .ins M dx js) xj (gj.tup gi.tab tk4)
      have tp5 := tup_ins (o := .ins M dx js) xj (gj.tup gi.tab tp4)
      have hm5 : Paired (RoadAt K (L2.upd Hj x (.ins M dx js))) rs' ys := Paired.map' hm4 fun r v m => (m.grew gj gi.tab).ins xj
      have hz5 : Paired (GBar (L2.upd Hj x (.ins M dx js))) bs' zs' := Paired.map' hz fun b v m => m.ins xj
      have dR5 : DictR K (L2.upd Hj x (.ins M dx js)) D rs' := (dR.grew gj gi.tab).ins xj
      have lzs : zs'.length ≤ 40 := by rw [← Paired.len hz5, pb.length_eq]; exact ok.b.len
      generalize hHk : L2.upd Hj x (.ins M dx js) = Hk at gk tb5 tr5 tk5 tp5 hm5 hz5 dR5 ⊢
      have xk : Hk x = some (.ins M dx js) := by rw [← hHk]; exact upd_same
      -- _barred
      refine ⟨_, rfl, x, M, dx, _, _, rfl, xk, T.cl, T.n6, fk6, bb, rfl, ⟨_, SqT.of tb5⟩, fun D2 nD2 => dcT_tup (K := K) (a := bb) (xs := zs')
        (fun i H1 => Grew P Hk H1 ∧ ∃ kvs : List (List Key × V), H1 D2 = some (.dT kvs) ∧ kvs.length ≤ i ∧ ∀ a b : Str, (valV kvs [.inr a, .inr b]).isSome = true ↔ (a, b) ∈ bs'.take i)
        ⟨Grew.new gk.tab nD2, [], upd_same, Nat.le_refl _, fun a b => by simp [valV_nil]⟩ (fun i H1 _ p => SqT.of (p.1.tup gk.tab tb5)) (fun i y H1 hy p => ?_) (fun Hl p => ?_)⟩
      · obtain ⟨g, kvs, hD, hl, hin⟩ := p
        obtain ⟨b, hbi, m⟩ := Paired.at hz5 hy
        have hi : i < zs'.length := (List.getElem?_eq_some_iff.mp hy).1
        obtain ⟨t, rfl, et⟩ := m.grew g gk.tab
        refine ⟨rfl, _, rfl, kvs, [.inr b.1, .inr b.2], t, rfl, et, hD, ?_, g.write hD (fun _ z => by cases z) nD2, _, upd_same, ?_, fun a' b' => ?_⟩
        · rw [sizeLine_eq]; omega
        · have := length_putK kvs ([.inr b.1, .inr b.2] : List Key) (V.bl true)
          omega
        · rw [valV_put, List.take_succ, hbi, List.mem_append]
          by_cases e : ([.inr a', .inr b'] : List Key) = [.inr b.1, .inr b.2]
          · rw [if_pos e]
            have e1 : a' = b.1 := Sum.inr.inj (List.cons.inj e).1
            have e2 : b' = b.2 := Sum.inr.inj (List.cons.inj (List.cons.inj e).2).1
            subst e1 e2
            exact ⟨fun _ => .inr (List.mem_singleton.mpr rfl), fun _ => rfl⟩
          · rw [if_neg e, hin a' b']
            refine ⟨.inl, fun h => h.elim id fun h => ?_⟩
            have h' : (a', b') = b := List.mem_singleton.mp h
            subst h'
            exact absurd rfl e
      · obtain ⟨gl, kvs, hD, hl, hin⟩ := p
        have lb : bs'.length = zs'.length := Paired.len hz5
        rw [← lb, List.take_length] at hin
        have xl := gl.get gk.tab xk (nins _)
        refine ⟨_, rfl, x, M, dx, _, rfl, xl, T.cl, T.n7, by omega, ?_⟩
        have gm := (gk.trans gl).write (o := .ins M dx (putF "_barred" (.ref D2) js)) xl (nins _) nx
        refine k _ ks' ps' rs' bs' gm pk ak pp' ap kr ar pb ab ⟨dx, putF "_barred" (.ref D2) js, kk, pp, rr, D, bb, D2, ys, zs', upd_same, ?_⟩
        constructor
        · exact noF fk0 (by decide +kernel)
        · rw [lookup_putF, if_neg (by decide +kernel)]; exact fk1
        · rw [lookup_putF, if_neg (by decide +kernel)]; exact fk2
        · rw [lookup_putF, if_neg (by decide +kernel)]; exact fk3
        · rw [lookup_putF, if_neg (by decide +kernel)]; exact fk4
        · rw [lookup_putF, if_neg (by decide +kernel)]; exact fk5
        · rw [lookup_putF, if_neg (by decide +kernel)]; exact fk6
        · rw [lookup_putF, if_pos rfl]
        · exact tup_ins xl (gl.tup gk.tab tk5)
        · exact tup_ins xl (gl.tup gk.tab tp5)
        · exact tup_ins xl (gl.tup gk.tab tr5)
        · exact Paired.map' hm5 fun r v m => (m.grew gl gk.tab).ins xl
        · exact (dR5.grew gl gk.tab).ins xl
        · exact tup_ins xl (gl.tup gk.tab tb5)
        · exact Paired.map' hz5 fun b v m => (m.grew gl gk.tab).ins xl
        · exact ⟨kvs, by rw [upd_ne (insNe xl hD (fun _ _ _ z => by cases z))]; exact hD, hin⟩
end
end W

set_option Elab.async false
set_option linter.all false
set_option maxRecDepth 100000
set_option maxHeartbeats 400000
namespace W
open PySem PySem.Spec PyProof.Rows L2 GxR MyG MyS
abbrev kMap : List Str := ["day", "kinds", "places", "roads", "bars"]
def gMap {α : Type} (us mv ws : List α) : List α := us ++ (ws ++ mv)
def spLMade (K : PySem.W.Frag) (M P : Addr) : Sp := fun vs H Q _ => ∃ (p : Addr) (d : Int) (ps ks : List Str) (rs : List RoadD) (bs : List (Str × Str)), vs = [.ref p] ∧ PartsT K H p d ks ps rs bs ∧ PartsOk d ks ps rs bs ∧ TabG H P ∧
  ∀ H' x ks' ps' rs' bs', Grew P H H' → H x = none → ks'.Perm ks → Asc ks' → ps'.Perm ps → Asc ps' → KeptAll rs rs' → AscR rs' → bs'.Perm bs → AscB bs' → MapAt K H' M x d ks' ps' rs' bs' → Q (.ref x) H'
section
variable {Pg : Program} {w : World} {K : PySem.W.Frag} {mg : Str → Option Value} {base : Heap} {C P : Addr}
theorem map_binds {f : Addr} {fd : FuncData} {T1 T2 T : Addr} (F : FunD K "__init__" "Map.__init__" (defArgs sInit) (defBody sInit) (defScope sInit) [] [("places", V.ref T1), ("roads", V.ref T2), ("bars", V.ref T)] f fd) :
    ∃ mv : List Value, KBn K fd pInit 1 kMap (fun us ws => gMap us mv ws) (fun vs zs => gMap vs (([] : List (Str × V)).map (·.2)) zs) := by
  refine FunD.kbinds0 F 1 kMap [] gMap (by simp) (by simp) ?_ ?_
  · intro vs mz zs us mv ws r1 r2 r3
    exact r1.append (Vals.append r3 r2)
  · intro D doc pm an cdv ct us mv ws h1 h2 h3
    match us, mv, ws, h1, h2, h3 with
    | [u], [], [a, b, c, d, e], _, _, _ =>
      first
        | exact ⟨_, _, _, _, _, _, rfl, rfl, rfl⟩
        | exact rfl
        | exact ⟨rfl, rfl⟩
theorem RoadAt.gen {K : PySem.W.Frag} {H : Hp} {r : RoadD} {v : V} (m : RoadAt K H r v) : GRoad K H r v := let ⟨p, q, hv, e, e1, e2, e3⟩ := m; ⟨p, q, hv, e, SqT.of e1, SqT.of e2, e3⟩
theorem scLMade : FnScope ["parts"] ["parts"] (defScope sLMade) := ⟨rfl, rfl, rfl, by decide +kernel, rfl, by decide +kernel, by decide +kernel⟩
theorem ok_lmade {f fI M : Addr} {fd fdI : FuncData} {mv : List Value} (F : Fun K "_law_made" "_law_made" sLMade f fd) (TM : TxtM K M) (Mk : L2.Mk K M fI) (gM : mg "Map" = some (.ref M))
    (GI : FnOk Pg w K mg base CX0 5 fI fdI pInit (spInitTT K M P)) (kb : KBn K fdI pInit 1 kMap (fun us ws => gMap us mv ws) (fun vs zs => gMap vs (([] : List (Str × V)).map (·.2)) zs)) :
    FnOk Pg w K mg base CX0 7 f fd ["parts"] (spLMade K M P) := by
  refine F.ok scLMade (fun vs H Q E h => ?_) (fun cdv A outer s H vs Q E hr h => ?_)
  · obtain ⟨p, d, ps, ks, rs, bs, rfl, _⟩ := h
    rfl
  · obtain ⟨p, d, ps, ks, rs, bs, rfl, ⟨ki, pl, ro, ba, xs, zs, hp, hki, hpl, hro, hrs, hba, hbs⟩, ok, hP, k⟩ := h
    refine ⟨_, pss_one (ps_ret (pe_makeK0 Mk GI hr (by rfl) gM kb pass0 (pk_cons (pe_ix ix_list (pv 0) pe_int (fun _ _ => rfl)) (pk_cons (pe_ix ix_list (pv 0) pe_int (fun _ _ => rfl)) (pk_cons (pe_ix ix_list (pv 0) pe_int (fun _ _ => rfl))
        (pk_cons (pe_ix ix_list (pv 0) pe_int (fun _ _ => rfl)) (pk_cons (pe_ix ix_list (pv 0) pe_int (fun _ _ => rfl)) pk_nil))))))), ?_⟩
    refine ⟨_, rfl, p, _, _, _, rfl, rfl, SqL.of hp, rfl, _, rfl, p, _, _, _, rfl, rfl, SqL.of hp, rfl, _, rfl, p, _, _, _, rfl, rfl, SqL.of hp, rfl, _, rfl, p, _, _, _, rfl, rfl, SqL.of hp, rfl, _, rfl, p, _, _, _, rfl, rfl, SqL.of hp, rfl, rfl, rfl, fun x dx nx ndx nex => ?_⟩
    have gx : Grew P H (L2.upd (L2.upd H dx (.own x)) x (.ins M dx [])) := (Grew.new hP ndx).put (by rw [upd_ne nex.symm]; exact nx)
    refine ⟨x, dx, ki, pl, ro, ba, d, ks, ps, rs, bs, xs, zs, _, rfl, gx, hP, nx, upd_same, SqT.of hki, hpl.sq, SqT.of hro, Paired.map' hrs (fun r v m => m.gen), SqT.of hba, hbs, ok, fun H' ks' ps' rs' bs' g5 q1 q2 q3 q4 q5 q6 q7 q8 hm => ⟨rfl, ?_⟩⟩
    exact k H' x ks' ps' rs' bs' g5 nx q1 q2 q3 q4 q5 q6 q7 q8 hm
end
end W

set_option Elab.async false
set_option linter.all false
set_option maxRecDepth 100000
set_option maxHeartbeats 400000
namespace W
open PySem PySem.Spec PyProof.Rows L2 GxR MyG MyS
/-! ### Map.check_road, Map.road -/
abbrev sRoadM : Stmt := inClass (top 31) 2
abbrev sCheck : Stmt := inClass (top 31) 3
/-- an UnknownName with this name flies -/
def Unk (U : Addr) (H : Hp) (E : XK) (z : Str) : Prop := ∀ e, H e = none → E (.ref U) (some e) (L2.upd H e (.xd [("name", V.str z)]))
/-- UnknownName.__init__ -/
def spUInit (K : PySem.W.Frag) (U : Addr) : Sp := fun vs H Q _ => ∃ (a : Addr) (z : Str), vs = [.ref a, .str z] ∧ z.length ≤ 1000 ∧ H a = some (exo a U none) ∧ ∀ dx, H dx = none → dx ≠ a → Q .non (L2.upd (L2.upd H dx (exd dx [("name", V.str z)])) a (exo a U (some dx)))
def spCheck (K : PySem.W.Frag) (M U : Addr) : Sp := fun vs H Q E => ∃ (x : Addr) (z : Str) (d : Int) (ks ps : List Str) (rs : List RoadD) (bs : List (Str × Str)), vs = [.ref x, .str z] ∧ z.length ≤ 1000 ∧ MapAt K H M x d ks ps rs bs ∧
  ((∃ r ∈ rs, r.name = z) → Q .non H) ∧ ((∀ r ∈ rs, r.name ≠ z) → Unk U H E z)
def spRoadM (K : PySem.W.Frag) (M U : Addr) : Sp := fun vs H Q E => ∃ (x : Addr) (z : Str) (d : Int) (ks ps : List Str) (rs : List RoadD) (bs : List (Str × Str)), vs = [.ref x, .str z] ∧ z.length ≤ 1000 ∧ MapAt K H M x d ks ps rs bs ∧
  (∀ r ∈ rs, r.name = z → ∀ v, RoadAt K H r v → Q v H) ∧ ((∀ r ∈ rs, r.name ≠ z) → Unk U H E z)
theorem flown {H : Hp} {U a dx : Addr} {fs : List (Str × V)} (na : H a = none) (ndx : (L2.upd H a (exo a U none)) dx = none) : L2.upd (del (L2.upd (L2.upd (L2.upd H a (exo a U none)) dx (exd dx fs)) a (exo a U (some dx))) a) dx (.xd fs) = L2.upd H dx (.xd fs) := by
  funext b
  by_cases h1 : b = dx
  · subst h1; rw [upd_same, upd_same]
  · rw [upd_ne h1, upd_ne h1]
    by_cases h2 : b = a
    · subst h2; rw [del_same, na]
    · rw [del_ne h2, upd_ne h2, upd_ne h1, upd_ne h2]
section
variable {Pg : Program} {w : World} {K : PySem.W.Frag} {mg : Str → Option Value} {base : Heap} {C P : Addr}
theorem scCheck : FnScope ["self", "name"] ["self", "name"] (defScope sCheck) := ⟨rfl, rfl, rfl, by decide +kernel, rfl, by decide +kernel, by decide +kernel⟩
theorem ok_check {f M U fU : Addr} {fd fdU : FuncData} (F : Fun K "check_road" "Map.check_road" sCheck f fd) (TM : TxtM K M) (gU : mg "UnknownName" = some (.ref U)) (TU : OexC K U) (iU : PySem.W.findIn K (.ref U) "__init__" = some (some (.ref fU))) (tU : PySem.W.typeIn K (.ref fU) = some (.type "function"))
    (GU : FnOk Pg w K mg base CX0 1 fU fdU ["self", "name"] (spUInit K U)) (bU : Binds K fdU ["self", "name"] []) :
    FnOk Pg w K mg base (L2.CX Pg w) 3 f fd ["self", "name"] (spCheck K M U) := by
  refine F.okX scCheck (fun vs H Q E h => ?_) (fun cdv A outer s H vs Q E hr h => ?_)
  · obtain ⟨x, z, d, ks, ps, rs, bs, rfl, _⟩ := h
    rfl
  · obtain ⟨x, z, d, ks, ps, rs, bs, rfl, hz, hM, kQ, kE⟩ := h
    refine ⟨_, pss_one (ps_if (pt_cmp (pc_dnotin (u1 hr.units) (pv 1) (pe_fld (pv 0) rfl))) (pss_one (ps_raise rfl (takes_of rfl rfl rfl rfl) (pmk_oex TU iU tU GU (hr.mono (by decide)) bU .nil pass0 (by rfl) gU (pa_cons (pv 1) pa_nil)))) pss_nil), ?_⟩
    obtain ⟨dx, fs, kk, pp, rr, D, bb, D2, ys, zs, hx, F7⟩ := hM
    obtain ⟨kvs, hD, hin, hno⟩ := F7.d
    refine ⟨_, rfl, _, rfl, x, M, dx, fs, _, rfl, hx, TM.cl, TM.n5, F7.f5, D, _, rfl, DGet.k (k := .inr z) hD, _, rfl, ?_⟩
    by_cases ex : ∃ r ∈ rs, r.name = z
    · obtain ⟨r, hr1, hr2⟩ := ex
      obtain ⟨v, hv, _⟩ := hin r hr1
      rw [hr2] at hv
      rw [hv]
      exact iteF (kQ ⟨r, hr1, hr2⟩)
    · have no : ∀ r ∈ rs, r.name ≠ z := fun r hr e => ex ⟨r, hr, e⟩
      rw [hno z no]
      refine iteT ⟨_, rfl, by simp, fun a na => ⟨a, z, rfl, hz, upd_same, fun dx2 nd ne => ⟨rfl, dx2, [("name", .str z)], upd_same, ?_, ?_, ?_⟩⟩⟩
      · rw [upd_ne ne]; exact upd_same
      · rw [upd_ne ne] at nd; exact nd
      · rw [flown na nd]
        rw [upd_ne ne] at nd
        exact kE no dx2 nd
theorem scRoadM : FnScope ["self", "name"] ["self", "name"] (defScope sRoadM) := ⟨rfl, rfl, rfl, by decide +kernel, rfl, by decide +kernel, by decide +kernel⟩
theorem ok_roadM {f M U fC : Addr} {fd fdC : FuncData} (F : Fun K "road" "Map.road" sRoadM f fd) (TM : TxtM K M) (mC : Meth K M "check_road" fC)
    (GC : FnOk Pg w K mg base (L2.CX Pg w) 3 fC fdC ["self", "name"] (spCheck K M U)) (bC : Binds K fdC ["self", "name"] []) :
    FnOk Pg w K mg base (L2.CX Pg w) 4 f fd ["self", "name"] (spRoadM K M U) := by
  refine F.okX scRoadM (fun vs H Q E h => ?_) (fun cdv A outer s H vs Q E hr h => ?_)
  · obtain ⟨x, z, d, ks, ps, rs, bs, rfl, _⟩ := h
    rfl
  · obtain ⟨x, z, d, ks, ps, rs, bs, rfl, hz, hM, kQ, kE⟩ := h
    refine ⟨_, pss_cons (ps_expr (pe_meth (E := E) (pv 0) TM.cl mC GC hr bC .nil (passes_call (takes_of rfl rfl rfl rfl) (fun _ _ _ _ h => h)) (pa_cons (pv 1) pa_nil)))
      (pss_one (ps_ret (pe_dget (u1 hr.units) (pe_fld (pv 0) rfl) (pv 1) (fun _ _ => rfl)))), ?_⟩
    have hM2 := hM
    obtain ⟨dx, fs, kk, pp, rr, D, bb, D2, ys, zs, hx, F7⟩ := hM
    obtain ⟨kvs, hD, hin, hno⟩ := F7.d
    refine ⟨_, rfl, x, dx, fs, rfl, hx, F7.f0 _ (by decide +kernel), _, rfl, x, z, d, ks, ps, rs, bs, rfl, hz, hM2, fun ⟨r, hr1, hr2⟩ => ?_, kE⟩
    obtain ⟨v, hv, m⟩ := hin r hr1
    rw [hr2] at hv
    refine ⟨_, rfl, x, M, dx, fs, _, rfl, hx, TM.cl, TM.n5, F7.f5, _, rfl, D, v, rfl, ?_, kQ r hr1 hr2 v m⟩
    rw [← hv]
    exact DGet.k (k := .inr z) hD
end
end W

set_option Elab.async false
set_option linter.all false
set_option maxRecDepth 100000
set_option maxHeartbeats 400000
namespace W
open PySem PySem.Spec PyProof.Rows L2 GxR MyG MyS
/-! ### when a road may be entered -/
def optV : Option Int → V
  | none => .non
  | some i => .int i
/-- the first pair that closes later -/
def enterF (m : Int) : List (Int × Int) → Option Int
  | [] => none
  | p :: r => if m < p.2 then some (if p.1 > m then p.1 else m) else enterF m r
def enterD (d : Int) (hs : Option (List (Int × Int))) (t : Int) : Option Int := match hs with
  | none => some t
  | some [] => none
  | some (q :: ps) => match enterF (t % d) (q :: ps) with
    | some v => some (t - t % d + v)
    | none => some (t - t % d + d + q.1)
/-- of the pairs from the last on: the first one that opens in time -/
def lastF (m : Int) : List (Int × Int) → Option Int
  | [] => none
  | p :: r => if p.1 ≤ m then some (if p.2 - 1 < m then p.2 - 1 else m) else lastF m r
def lastD (d : Int) (hs : Option (List (Int × Int))) (t : Int) : Option Int := match hs with
  | none => some t
  | some ps => match lastF (t % d) ps.reverse with
    | some v => some (t - t % d + v)
    | none => if ps = [] ∨ t - t % d = 0 then none else some (t - t % d - d + lastP 0 ps - 1)
theorem enterF_step {m : Int} {ps : List (Int × Int)} {i : Nat} {p : Int × Int} (h : ps[i]? = some p) : enterF m (ps.drop i) = if m < p.2 then some (if p.1 > m then p.1 else m) else enterF m (ps.drop (i + 1)) := by
  have hi := (List.getElem?_eq_some_iff.mp h)
  obtain ⟨h1, h2⟩ := hi
  rw [List.drop_eq_getElem_cons h1, h2]
  rfl
theorem lastF_step {m : Int} {ps : List (Int × Int)} {i : Nat} {p : Int × Int} (h : ps[i]? = some p) : lastF m (ps.drop i) = if p.1 ≤ m then some (if p.2 - 1 < m then p.2 - 1 else m) else lastF m (ps.drop (i + 1)) := by
  have hi := (List.getElem?_eq_some_iff.mp h)
  obtain ⟨h1, h2⟩ := hi
  rw [List.drop_eq_getElem_cons h1, h2]
  rfl
def pairD (p : Int × Int) : PyData := .tuple [.int p.1, .int p.2]
theorem dp_pairs {K : PySem.W.Frag} {H : Hp} : ∀ {ps : List (Int × Int)} {xs : List V}, Paired (GPair K H) ps xs → DpAll K H xs (ps.map pairD)
  | _, _, .nil => .nil
  | _, _, .cons (a := p) ⟨t, e, q⟩ r => by
    subst e
    exact .cons (.tup q (.cons (.int p.1) (.cons (.int p.2) .nil))) (dp_pairs r)
theorem canLay_pairs : ∀ ps : List (Int × Int), PyData.canLayAll0 (ps.map pairD) = true
  | [] => rfl
  | p :: ps => by
    simp [PyData.canLayAll0, PyData.canLay0, pairD, canLay_pairs ps]
theorem depth_pairs : ∀ ps : List (Int × Int), PyData.depthAll (ps.map pairD) ≤ 2
  | [] => by simp [PyData.depthAll]
  | p :: ps => by
    have i := depth_pairs ps
    simp only [List.map_cons, PyData.depthAll, PyData.depth, pairD]
    simp [PyData.depthAll, PyData.depth]
    omega
theorem shaped_pairs (ps : List (Int × Int)) : SeqAt.shaped (PyData.tuple (ps.map pairD)) = true := by
  have c := canLay_pairs ps
  have d := depth_pairs ps
  unfold SeqAt.shaped
  rw [Bool.and_eq_true]
  refine ⟨by simpa [PyData.canLay0] using c, decide_eq_true ?_⟩
  simp only [PyData.depth]
  omega
theorem eqv_pairs (ps : List (Int × Int)) : PyData.eqv (PyData.tuple (ps.map pairD)) (PyData.tuple []) = ps.isEmpty := by
  cases ps with
  | nil => rfl
  | cons p ps => rfl
def enterR (d : Int) (r : RoadD) (t : Int) : Option Int := enterD d r.hours t
def lastR (d : Int) (r : RoadD) (t : Int) : Option Int := lastD d r.hours t
theorem uniq_name : ∀ {rs : List RoadD} {r r' : RoadD}, (rs.map (·.name)).Nodup → r ∈ rs → r' ∈ rs → r.name = r'.name → r = r'
  | a :: rs, r, r', nd, h, h', e => by
    have q := List.nodup_cons.mp nd
    rcases List.mem_cons.mp h with h | h <;> rcases List.mem_cons.mp h' with h' | h'
    · rw [h, h']
    · exact absurd (List.mem_map.mpr ⟨r', h', by rw [← e, h]⟩) q.1
    · exact absurd (List.mem_map.mpr ⟨r, h, by rw [e, h']⟩) q.1
    · exact uniq_name q.2 h h' e
theorem MapAt.grew {K : PySem.W.Frag} {H H' : Hp} {M x P : Addr} {d : Int} {ks ps : List Str} {rs : List RoadD} {bs : List (Str × Str)} (g : Grew P H H') (h : TabG H P) (m : MapAt K H M x d ks ps rs bs) : MapAt K H' M x d ks ps rs bs := by
  obtain ⟨dx, fs, kk, pp, rr, D, bb, D2, ys, zs, hx, F⟩ := m
  obtain ⟨kvs, hd, hin⟩ := F.db
  exact ⟨dx, fs, kk, pp, rr, D, bb, D2, ys, zs, g.get h hx (fun _ z => by cases z), ⟨F.f0, F.f1, F.f2, F.f3, F.f4, F.f5, F.f6, F.f7, g.tup h F.k, g.tup h F.p, g.tup h F.r, Paired.map' F.ry (fun _ _ m => m.grew g h), F.d.grew g h, g.tup h F.b, Paired.map' F.bz (fun _ _ m => m.grew g h), ⟨kvs, g.get h hd (fun _ z => by cases z), hin⟩⟩⟩
/-- a question about the road z at the moment t: answered by f -/
def spTravel (K : PySem.W.Frag) (M U P : Addr) (f : Int → RoadD → Int → Option Int) : Sp := fun vs H Q E => ∃ (x : Addr) (z : Str) (t d : Int) (ks ps : List Str) (rs : List RoadD) (bs : List (Str × Str)), vs = [.ref x, .str z, .int t] ∧ z.length ≤ 1000 ∧ 0 ≤ t ∧ 1 ≤ d ∧ MapAt K H M x d ks ps rs bs ∧ TabG H P ∧
  (∀ r ∈ rs, r.name = z → ∀ H', Grew P H H' → Q (optV (f d r t)) H') ∧ ((∀ r ∈ rs, r.name ≠ z) → Unk U H E z) ∧ (rs.map (·.name)).Nodup
/-- for x in reversed(t), t a tuple -/
theorem for_revT {K : PySem.W.Frag} {a : Addr} {xs : List V} {g : TG} {tb : TS} {D : Ends} {σ : L2.St} {H : Hp} (Pv : Nat → L2.St → Hp → Prop) (h0 : Pv 0 σ H) (hl : ∀ i σ H, i ≤ xs.length → Pv i σ H → SqT K H a xs)
    (hs : ∀ i x σ H, xs.reverse[i]? = some x → Pv i σ H → g x σ H fun σ2 H2 => tb { D with nx := Pv (i + 1), ct := Pv (i + 1), bk := D.nx } σ2 H2) (hd : ∀ σ H, Pv xs.length σ H → D.nx σ H) :
    ∃ W : Nat → Nat → L2.St → Hp → Prop, (∃ m, W 0 m σ H) ∧ ∀ i m σ H, W i m σ H →
      ((RT.ItvT K a xs.length).stop i H ∧ D.nx σ H) ∨ ((RT.ItvT K a xs.length).go i H ∧ ∃ N : L2.St → Hp → Prop, (∀ σ' H', N σ' H' → ∃ m', m' < m ∧ W (i + 1) m' σ' H') ∧ ∀ x H', (RT.ItvT K a xs.length).yld i H x H' → g x σ H' fun σ2 H2 => tb { D with nx := N, ct := N, bk := D.nx } σ2 H2) := by
  refine ⟨fun i m σ H => m = xs.length - i ∧ i ≤ xs.length ∧ Pv i σ H, ⟨xs.length, by simp, Nat.zero_le _, h0⟩, ?_⟩
  rintro i m σ H ⟨rfl, hi, p⟩
  have q := hl i σ H hi p
  rcases Nat.lt_or_ge i xs.length with lt | ge
  · have hx : xs[xs.length - 1 - i]? = some (xs[xs.length - 1 - i]'(by omega)) := List.getElem?_eq_getElem _
    refine .inr ⟨⟨lt, xs, _, q, hx⟩, Pv (i + 1), fun σ' H' p' => ⟨xs.length - (i + 1), by omega, rfl, lt, p'⟩, fun x H' y => ?_⟩
    obtain ⟨rfl, y⟩ := y
    exact hs i x σ _ (by rw [List.getElem?_reverse lt]; exact y xs q) p
  · obtain rfl : i = xs.length := by omega
    exact .inl ⟨Nat.le_refl _, hd σ H p⟩
theorem Paired.last {α β : Type} {F : α → β → Prop} : ∀ {l : List α} {m : List β}, Paired F l m → l ≠ [] → ∃ l0 p m0 v, l = l0 ++ [p] ∧ m = m0 ++ [v] ∧ F p v
  | _, _, .nil, h => absurd rfl h
  | _, _, .cons r .nil, _ => ⟨[], _, [], _, rfl, rfl, r⟩
  | a :: _, b :: _, .cons r (.cons r' t), _ => by
    obtain ⟨l0, p, m0, v, e1, e2, f⟩ := Paired.last (.cons r' t) (by simp)
    exact ⟨a :: l0, p, b :: m0, v, by rw [e1]; rfl, by rw [e2]; rfl, f⟩
theorem Paired.rev {α β : Type} {F : α → β → Prop} : ∀ {l : List α} {m : List β}, Paired F l m → Paired F l.reverse m.reverse
  | _, _, .nil => .nil
  | _, _, .cons r t => by
    rw [List.reverse_cons, List.reverse_cons]
    exact Paired.snoc (Paired.rev t) r
def arriveD (d : Int) (r : RoadD) (t : Int) : Option Int := (enterR d r t).map (· + r.minutes)
end W

set_option Elab.async false
set_option linter.all false
set_option maxRecDepth 100000
set_option maxHeartbeats 400000
namespace W
/-! ### the first, the last moment at which the road is open -/
def openB (ps : List (Int × Int)) (m : Int) : Bool := ps.any fun p => decide (p.1 ≤ m) && decide (m < p.2)
theorem openB_cons (p : Int × Int) (ps : List (Int × Int)) (m : Int) : openB (p :: ps) m = ((decide (p.1 ≤ m) && decide (m < p.2)) || openB ps m) := rfl
theorem shut_one {p : Int × Int} {m : Int} (h : m < p.1 ∨ p.2 ≤ m) : (decide (p.1 ≤ m) && decide (m < p.2)) = false := by
  rw [Bool.and_eq_false_iff, decide_eq_false_iff_not, decide_eq_false_iff_not]
  omega
theorem open_one {p : Int × Int} {m : Int} (h1 : p.1 ≤ m) (h2 : m < p.2) : (decide (p.1 ≤ m) && decide (m < p.2)) = true := by
  rw [decide_eq_true h1, decide_eq_true h2]; rfl
/-- ahead of the pairs nothing is open -/
theorem open_lo {d : Int} : ∀ {ps : List (Int × Int)} {c j : Int}, hoursOk d c ps → j ≤ c → openB ps j = false
  | [], _, _, _, _ => rfl
  | p :: r, c, j, h, hj => by
    obtain ⟨h1, h2, h3, h4⟩ := h
    rw [openB_cons, shut_one (.inl (by omega)), open_lo h4 (by omega)]
    rfl
theorem open_in {d : Int} : ∀ {ps : List (Int × Int)} {c j : Int}, hoursOk d c ps → openB ps j = true → c < j ∧ j < d
  | [], _, _, _, h => by cases h
  | p :: r, c, j, h, ho => by
    obtain ⟨h1, h2, h3, h4⟩ := h
    rw [openB_cons, Bool.or_eq_true, Bool.and_eq_true, decide_eq_true_eq, decide_eq_true_eq] at ho
    rcases ho with ⟨a, b⟩ | ho
    · omega
    · have q := open_in h4 ho
      omega
theorem enterF_some {d m : Int} : ∀ {ps : List (Int × Int)} {c w : Int}, hoursOk d c ps → enterF m ps = some w → m ≤ w ∧ openB ps w = true ∧ ∀ j, m ≤ j → j < w → openB ps j = false
  | [], _, _, _, h => by cases h
  | p :: r, c, w, h, e => by
    obtain ⟨h1, h2, h3, h4⟩ := h
    unfold enterF at e
    by_cases c1 : m < p.2
    · rw [if_pos c1] at e
      by_cases c2 : p.1 > m
      · rw [if_pos c2] at e
        obtain rfl := Option.some.inj e
        refine ⟨by omega, ?_, fun j hj1 hj2 => ?_⟩
        · rw [openB_cons, open_one (Int.le_refl _) h2]; rfl
        · rw [openB_cons, shut_one (.inl hj2), open_lo h4 (by omega)]; rfl
      · rw [if_neg c2] at e
        obtain rfl := Option.some.inj e
        refine ⟨Int.le_refl _, ?_, fun j hj1 hj2 => by omega⟩
        rw [openB_cons, open_one (by omega) c1]; rfl
    · rw [if_neg c1] at e
      obtain ⟨q1, q2, q3⟩ := enterF_some h4 e
      refine ⟨q1, ?_, fun j hj1 hj2 => ?_⟩
      · rw [openB_cons, q2, Bool.or_true]
      · rw [openB_cons, shut_one (.inr (by omega)), q3 j hj1 hj2]; rfl
theorem enterF_none {d m : Int} : ∀ {ps : List (Int × Int)} {c : Int}, hoursOk d c ps → enterF m ps = none → ∀ j, m ≤ j → openB ps j = false
  | [], _, _, _, _, _ => rfl
  | p :: r, c, h, e, j, hj => by
    obtain ⟨h1, h2, h3, h4⟩ := h
    unfold enterF at e
    by_cases c1 : m < p.2
    · rw [if_pos c1] at e; cases e
    · rw [if_neg c1] at e
      rw [openB_cons, shut_one (.inr (by omega)), enterF_none h4 e j hj]; rfl
theorem lastF_snoc (m : Int) (q : Int × Int) : ∀ l : List (Int × Int), lastF m (l ++ [q]) = match lastF m l with | some w => some w | none => if q.1 ≤ m then some (if q.2 - 1 < m then q.2 - 1 else m) else none
  | [] => rfl
  | p :: l => by
    rw [List.cons_append]
    unfold lastF
    by_cases c1 : p.1 ≤ m
    · rw [if_pos c1, if_pos c1]
    · rw [if_neg c1, if_neg c1]
      exact lastF_snoc m q l
theorem lastF_spec {d m : Int} : ∀ {ps : List (Int × Int)} {c : Int}, hoursOk d c ps → match lastF m ps.reverse with
    | some w => w ≤ m ∧ openB ps w = true ∧ ∀ j, w < j → j ≤ m → openB ps j = false
    | none => ∀ j, j ≤ m → openB ps j = false
  | [], _, _ => fun _ _ => rfl
  | q :: r, c, h => by
    obtain ⟨h1, h2, h3, h4⟩ := h
    have ih := lastF_spec (m := m) h4
    rw [List.reverse_cons, lastF_snoc]
    cases e : lastF m r.reverse with
    | some w =>
      rw [e] at ih
      obtain ⟨i1, i2, i3⟩ := ih
      have q1 := (open_in h4 i2).1
      refine ⟨i1, by rw [openB_cons, i2, Bool.or_true], fun j hj1 hj2 => ?_⟩
      rw [openB_cons, shut_one (.inr (by omega)), i3 j hj1 hj2]; rfl
    | none =>
      rw [e] at ih
      have ih : ∀ j, j ≤ m → openB r j = false := ih
      show match (if q.1 ≤ m then some (if q.2 - 1 < m then q.2 - 1 else m) else none) with
        | some w => w ≤ m ∧ openB (q :: r) w = true ∧ ∀ j, w < j → j ≤ m → openB (q :: r) j = false
        | none => ∀ j, j ≤ m → openB (q :: r) j = false
      by_cases c1 : q.1 ≤ m
      · rw [if_pos c1]
        by_cases c2 : q.2 - 1 < m
        · rw [if_pos c2]
          refine ⟨by omega, by rw [openB_cons, open_one (by omega) (by omega)]; rfl, fun j hj1 hj2 => ?_⟩
          rw [openB_cons, shut_one (.inr (by omega)), ih j hj2]; rfl
        · rw [if_neg c2]
          refine ⟨Int.le_refl _, by rw [openB_cons, open_one c1 (by omega)]; rfl, fun j hj1 hj2 => by omega⟩
      · rw [if_neg c1]
        intro j hj
        rw [openB_cons, shut_one (.inl (by omega)), ih j hj]; rfl
theorem open_hi {d : Int} : ∀ {ps : List (Int × Int)} {c j : Int}, hoursOk d c ps → ps ≠ [] → lastP 0 ps ≤ j → openB ps j = false
  | [], _, _, _, h, _ => absurd rfl h
  | [p], c, j, h, _, hj => by
    have e : lastP 0 [p] = p.2 := rfl
    rw [e] at hj
    rw [openB_cons, shut_one (.inr hj)]; rfl
  | p :: q :: r, c, j, h, _, hj => by
    have e : lastP 0 (p :: q :: r) = lastP 0 (q :: r) := by
      unfold lastP
      rw [List.getLast?_cons_cons]
    rw [e] at hj
    have o := open_hi (ps := q :: r) h.2.2.2 (by simp) hj
    have l1 : q.1 < lastP 0 (q :: r) ∧ p.2 < lastP 0 (q :: r) := by
      have key : ∀ (l : List (Int × Int)) (a : Int × Int) (c : Int), hoursOk d c (a :: l) → a.1 < lastP 0 (a :: l) ∧ c < lastP 0 (a :: l) := by
        intro l
        induction l with
        | nil => intro a c h; exact ⟨h.2.1, by have e : lastP 0 [a] = a.2 := rfl; rw [e]; have := h.1; have := h.2.1; omega⟩
        | cons b l ih =>
          intro a c h
          have e : lastP 0 (a :: b :: l) = lastP 0 (b :: l) := by unfold lastP; rw [List.getLast?_cons_cons]
          rw [e]
          have q := ih b a.2 h.2.2.2
          have := h.1; have := h.2.1
          exact ⟨by omega, by omega⟩
      exact ⟨(key r q p.2 h.2.2.2).1, (key r q p.2 h.2.2.2).2⟩
    rw [openB_cons, shut_one (.inr (by omega)), o]; rfl
theorem open_last {d : Int} {ps : List (Int × Int)} {c : Int} (h : hoursOk d c ps) (hne : ps ≠ []) (hc : -1 ≤ c) : openB ps (lastP 0 ps - 1) = true ∧ 1 ≤ lastP 0 ps ∧ lastP 0 ps ≤ d := by
  induction ps generalizing c with
  | nil => exact absurd rfl hne
  | cons p r ih =>
    obtain ⟨h1, h2, h3, h4⟩ := h
    cases r with
    | nil =>
      have e : lastP 0 [p] = p.2 := rfl
      rw [e]
      exact ⟨by rw [openB_cons, open_one (by omega) (by omega)]; rfl, by omega, by omega⟩
    | cons q r =>
      have e : lastP 0 (p :: q :: r) = lastP 0 (q :: r) := by unfold lastP; rw [List.getLast?_cons_cons]
      rw [e]
      obtain ⟨a, b, c⟩ := ih h4 (by simp) (by omega)
      exact ⟨by rw [openB_cons, a, Bool.or_true], b, c⟩
/-- what the search forward finds -/
def FirstOpen (d : Int) (ps : List (Int × Int)) (t : Int) : Option Int → Prop
  | some v => ∃ k : Int, 0 ≤ k ∧ k < 2 * d ∧ v = t + k ∧ openB ps ((t + k) % d) = true ∧ ∀ j, 0 ≤ j → j < k → openB ps ((t + j) % d) = false
  | none => ∀ k, 0 ≤ k → k < 2 * d → openB ps ((t + k) % d) = false
/-- what the search backward finds -/
def LastOpen (d : Int) (ps : List (Int × Int)) (t : Int) : Option Int → Prop
  | some v => ∃ k : Int, 0 ≤ k ∧ k < 2 * d ∧ v = t - k ∧ 0 ≤ v ∧ openB ps ((t - k) % d) = true ∧ ∀ j, 0 ≤ j → j < k → openB ps ((t - j) % d) = false
  | none => ∀ k, 0 ≤ k → k < 2 * d → 0 ≤ t - k → openB ps ((t - k) % d) = false
theorem mod_base {t d j : Int} (hd : 1 ≤ d) (h0 : 0 ≤ j) (h1 : j < d) : (t - t % d + j) % d = j := by
  have e : t - t % d = d * (t / d) := by have := Int.mul_ediv_add_emod t d; omega
  rw [e, Int.add_comm, Int.add_mul_emod_self_left]
  exact Int.emod_eq_of_lt h0 h1
theorem mod_baseU {t d j : Int} (hd : 1 ≤ d) (h0 : d ≤ j) (h1 : j < 2 * d) : (t - t % d + j) % d = j - d := by
  have q := mod_base (t := t) hd (j := j - d) (by omega) (by omega)
  have e : t - t % d + j = (t - t % d + (j - d)) + d := by omega
  rw [e, Int.add_emod_right]
  exact q
theorem mod_baseD {t d j : Int} (hd : 1 ≤ d) (h0 : -d ≤ j) (h1 : j < 0) : (t - t % d + j) % d = j + d := by
  have q := mod_base (t := t) hd (j := j + d) (by omega) (by omega)
  have e : (t - t % d + (j + d)) = t - t % d + j + d := by omega
  rw [e, Int.add_emod_right] at q
  exact q
theorem enterD_first {d t : Int} {ps : List (Int × Int)} (hd : 1 ≤ d) (h : hoursOk d (-1) ps) : FirstOpen d ps t (enterD d (some ps) t) := by
  have m0 := Int.emod_nonneg t (show d ≠ 0 by omega)
  have m1 := Int.emod_lt_of_pos t (show 0 < d by omega)
  cases ps with
  | nil => exact fun k _ _ => rfl
  | cons q ps =>
    cases e : enterF (t % d) (q :: ps) with
    | some w =>
      have ev : enterD d (some (q :: ps)) t = some (t - t % d + w) := by unfold enterD; simp only [e]
      rw [ev]
      obtain ⟨a, b, c⟩ := enterF_some h e
      have wd := (open_in h b).2
      refine ⟨w - t % d, by omega, by omega, by omega, ?_, fun j hj0 hj1 => ?_⟩
      · have e1 : t + (w - t % d) = t - t % d + w := by omega
        rw [e1, mod_base hd (by omega) wd]; exact b
      · have e1 : t + j = t - t % d + (t % d + j) := by omega
        rw [e1, mod_base hd (by omega) (by omega)]
        exact c _ (by omega) (by omega)
    | none =>
      have ev : enterD d (some (q :: ps)) t = some (t - t % d + d + q.1) := by unfold enterD; simp only [e]
      rw [ev]
      have n := enterF_none h e
      obtain ⟨h1, h2, h3, h4⟩ := id h
      refine ⟨d + q.1 - t % d, by omega, by omega, by omega, ?_, fun j hj0 hj1 => ?_⟩
      · have e1 : t + (d + q.1 - t % d) = t - t % d + (d + q.1) := by omega
        rw [e1, mod_baseU hd (by omega) (by omega)]
        have e2 : d + q.1 - d = q.1 := by omega
        rw [e2, openB_cons, open_one (Int.le_refl _) h2]; rfl
      · have e1 : t + j = t - t % d + (t % d + j) := by omega
        rw [e1]
        by_cases c : t % d + j < d
        · rw [mod_base hd (by omega) c]
          exact n _ (by omega)
        · rw [mod_baseU hd (by omega) (by omega), openB_cons, shut_one (.inl (by omega)), open_lo h4 (by omega)]; rfl
theorem first_uniq {d t : Int} {ps : List (Int × Int)} {a b : Option Int} (ha : FirstOpen d ps t a) (hb : FirstOpen d ps t b) : a = b := by
  cases a with
  | none =>
    cases b with
    | none => rfl
    | some v =>
      obtain ⟨k, k0, k1, e, o, _⟩ := hb
      rw [ha k k0 k1] at o; cases o
  | some u =>
    obtain ⟨k, k0, k1, e, o, l⟩ := ha
    cases b with
    | none => rw [hb k k0 k1] at o; cases o
    | some v =>
      obtain ⟨k', k0', k1', e', o', l'⟩ := hb
      rcases Int.lt_trichotomy k k' with c | c | c
      · rw [l' k k0 c] at o; cases o
      · rw [e, e', c]
      · rw [l k' k0' c] at o'; cases o'
theorem lastD_last {d t : Int} {ps : List (Int × Int)} (hd : 1 ≤ d) (ht : 0 ≤ t) (h : hoursOk d (-1) ps) : LastOpen d ps t (lastD d (some ps) t) := by
  have m0 := Int.emod_nonneg t (show d ≠ 0 by omega)
  have m1 := Int.emod_lt_of_pos t (show 0 < d by omega)
  have mt : t % d ≤ t := (by have := Int.mul_ediv_add_emod t d; have := Int.mul_nonneg (show 0 ≤ d by omega) (Int.ediv_nonneg ht (show 0 ≤ d by omega)); omega)
  have sp := lastF_spec (m := t % d) h
  cases e : lastF (t % d) ps.reverse with
  | some w =>
    have ev : lastD d (some ps) t = some (t - t % d + w) := by unfold lastD; simp only [e]
    rw [ev]
    rw [e] at sp
    obtain ⟨a, b, c⟩ := sp
    have wd := open_in h b
    refine ⟨t % d - w, by omega, by omega, by omega, by omega, ?_, fun j hj0 hj1 => ?_⟩
    · have e1 : t - (t % d - w) = t - t % d + w := by omega
      rw [e1, mod_base hd (by omega) wd.2]; exact b
    · have e1 : t - j = t - t % d + (t % d - j) := by omega
      rw [e1, mod_base hd (by omega) (by omega)]
      exact c _ (by omega) (by omega)
  | none =>
    have ev : lastD d (some ps) t = if ps = [] ∨ t - t % d = 0 then none else some (t - t % d - d + lastP 0 ps - 1) := by unfold lastD; simp only [e]
    rw [ev]
    rw [e] at sp
    have sp : ∀ j, j ≤ t % d → openB ps j = false := sp
    by_cases hz : ps = [] ∨ t - t % d = 0
    · rw [if_pos hz]
      intro k k0 k1 kt
      rcases hz with hz | hz
      · subst hz; rfl
      · have e1 : t - k = t - t % d + (t % d - k) := by omega
        rw [e1, mod_base hd (by omega) (by omega)]
        exact sp _ (by omega)
    · rw [if_neg hz]
      have hne : ps ≠ [] := fun e => hz (.inl e)
      obtain ⟨o1, o2, o3⟩ := open_last h hne (Int.le_refl _)
      have hb : d ≤ t - t % d := by
        have e1 : t - t % d = d * (t / d) := by have := Int.mul_ediv_add_emod t d; omega
        have e2 : t / d ≠ 0 := fun z => hz (.inr (by rw [e1, z, Int.mul_zero]))
        have e3 : 0 ≤ t / d := Int.ediv_nonneg ht (by omega)
        have e4 : 1 ≤ t / d := by omega
        rw [e1]
        have := Int.mul_le_mul_of_nonneg_left e4 (show 0 ≤ d by omega)
        omega
      refine ⟨t % d + d - lastP 0 ps + 1, by omega, by omega, by omega, by omega, ?_, fun j hj0 hj1 => ?_⟩
      · have e1 : t - (t % d + d - lastP 0 ps + 1) = t - t % d + (lastP 0 ps - 1 - d) := by omega
        rw [e1, mod_baseD hd (by omega) (by omega)]
        have e2 : lastP 0 ps - 1 - d + d = lastP 0 ps - 1 := by omega
        rw [e2]; exact o1
      · have e1 : t - j = t - t % d + (t % d - j) := by omega
        rw [e1]
        by_cases c : 0 ≤ t % d - j
        · rw [mod_base hd c (by omega)]
          exact sp _ (by omega)
        · rw [mod_baseD hd (by omega) (by omega)]
          exact open_hi h hne (by omega)
theorem last_uniq {d t : Int} {ps : List (Int × Int)} {a b : Option Int} (ha : LastOpen d ps t a) (hb : LastOpen d ps t b) : a = b := by
  cases a with
  | none =>
    cases b with
    | none => rfl
    | some v =>
      obtain ⟨k, k0, k1, e, p, o, _⟩ := hb
      rw [ha k k0 k1 (by omega)] at o; cases o
  | some u =>
    obtain ⟨k, k0, k1, e, p, o, l⟩ := ha
    cases b with
    | none => rw [hb k k0 k1 (by omega)] at o; cases o
    | some v =>
      obtain ⟨k', k0', k1', e', p', o', l'⟩ := hb
      rcases Int.lt_trichotomy k k' with c | c | c
      · rw [l' k k0 c] at o; cases o
      · rw [e, e', c]
      · rw [l k' k0' c] at o'; cases o'
end W

set_option Elab.async false
set_option linter.all false
set_option maxRecDepth 100000
set_option maxHeartbeats 400000
namespace W
open PySem PySem.Spec PyProof.Rows L2 GxR MyG MyS
/-! ### Map.check_place, Map.check_kind, Map.is_barred, Map.may_follow, Map.may_use -/
abbrev sCheckP : Stmt := inClass (top 31) 4
abbrev sCheckK : Stmt := inClass (top 31) 5
abbrev sBarred : Stmt := inClass (top 31) 8
abbrev sMayF : Stmt := inClass (top 31) 9
abbrev sMayU : Stmt := inClass (top 31) 11
abbrev sCanEver : Stmt := top 35
theorem inV_dec (z : Str) (xs : List Str) : inV (.str z) (xs.map V.str) = decide (z ∈ xs) := by
  by_cases h : z ∈ xs
  · rw [inV_str h, decide_eq_true h]
  · rw [decide_eq_false h]
    unfold inV
    rw [List.any_map, List.any_eq_false]
    intro y hy e
    have q : y = z := by simpa [eqV] using e
    exact h (q ▸ hy)
/-- a map at x, with its table of code -/
structure MIn (K : PySem.W.Frag) (H : Hp) (M P x : Addr) (d : Int) (ks ps : List Str) (rs : List RoadD) (bs : List (Str × Str)) : Prop where
  m : MapAt K H M x d ks ps rs bs
  t : TabG H P
  nd : (rs.map (·.name)).Nodup
  nl : ∀ r ∈ rs, r.name.length ≤ 1000
  d1 : 1 ≤ d
  ho : ∀ r ∈ rs, HoursOk d r.hours
theorem MIn.grew {K : PySem.W.Frag} {H H' : Hp} {M P x : Addr} {d : Int} {ks ps : List Str} {rs : List RoadD} {bs : List (Str × Str)} (h : MIn K H M P x d ks ps rs bs) (g : Grew P H H') : MIn K H' M P x d ks ps rs bs :=
  ⟨h.m.grew g h.t, g.tab, h.nd, h.nl, h.d1, h.ho⟩
def spChkL (K : PySem.W.Frag) (M U : Addr) (f : List Str → List Str → List Str) : Sp := fun vs H Q E => ∃ (x : Addr) (z : Str) (d : Int) (ks ps : List Str) (rs : List RoadD) (bs : List (Str × Str)), vs = [.ref x, .str z] ∧ z.length ≤ 1000 ∧ MapAt K H M x d ks ps rs bs ∧
  (z ∈ f ks ps → Q .non H) ∧ (z ∉ f ks ps → Unk U H E z)
def selK (ks _ps : List Str) : List Str := ks
def selP (_ks ps : List Str) : List Str := ps
def spBarred (K : PySem.W.Frag) (M P : Addr) : Sp := fun vs H Q _ => ∃ (x : Addr) (d : Int) (ks ps : List Str) (rs : List RoadD) (bs : List (Str × Str)) (r1 r2 : RoadD), vs = [.ref x, .str r1.name, .str r2.name] ∧ MIn K H M P x d ks ps rs bs ∧ r1 ∈ rs ∧ r2 ∈ rs ∧
  ∀ H', Grew P H H' → Q (.bl (decide ((r1.name, r2.name) ∈ bs))) H'
def spMayF (K : PySem.W.Frag) (M P : Addr) : Sp := fun vs H Q _ => ∃ (x : Addr) (d : Int) (ks ps : List Str) (rs : List RoadD) (bs : List (Str × Str)) (r1 r2 : RoadD), vs = [.ref x, .str r1.name, .str r2.name] ∧ MIn K H M P x d ks ps rs bs ∧ r1 ∈ rs ∧ r2 ∈ rs ∧
  ∀ H', Grew P H H' → Q (.bl (decide (r1.goal = r2.start) && !decide ((r1.name, r2.name) ∈ bs))) H'
def spMayU (K : PySem.W.Frag) (M P : Addr) : Sp := fun vs H Q _ => ∃ (x : Addr) (z : Str) (d : Int) (ks ps : List Str) (rs : List RoadD) (bs : List (Str × Str)) (r : RoadD), vs = [.ref x, .str z, .str r.name] ∧ z.length ≤ 1000 ∧ z ∈ ks ∧ MIn K H M P x d ks ps rs bs ∧ r ∈ rs ∧
  Q (.bl (decide (z ∈ r.users))) H
def everB (z : Str) (r : RoadD) : Bool := decide (z ∈ r.users) && !decide (r.hours = some [])
def spEver (K : PySem.W.Frag) (M P : Addr) : Sp := fun vs H Q _ => ∃ (x : Addr) (z : Str) (d : Int) (ks ps : List Str) (rs : List RoadD) (bs : List (Str × Str)) (r : RoadD), vs = [.ref x, .str z, .str r.name] ∧ z.length ≤ 1000 ∧ z ∈ ks ∧ MIn K H M P x d ks ps rs bs ∧ r ∈ rs ∧
  ∀ H', Grew P H H' → Q (.bl (everB z r)) H'
def hoursD : Option (List (Int × Int)) → PyData
  | none => .none
  | some ps => .tuple (ps.map pairD)
theorem dp_hours {K : PySem.W.Frag} {H : Hp} {hs : Option (List (Int × Int))} {v : V} (g : GHours K H hs v) : Dp K H v (hoursD hs) := by
  cases hs with
  | none =>
    obtain rfl : v = .non := g
    exact .non
  | some ps =>
    obtain ⟨l, xs, rfl, q, p⟩ := g
    exact .tup q (dp_pairs p)
theorem shaped_hours : ∀ hs : Option (List (Int × Int)), SeqAt.shaped (hoursD hs) = true
  | none => rfl
  | some ps => shaped_pairs ps
theorem eqv_hours (hs : Option (List (Int × Int))) : PyData.eqv (hoursD hs) (PyData.tuple []) = decide (hs = some []) := by
  cases hs with
  | none => rfl
  | some ps =>
    show PyData.eqv (PyData.tuple (ps.map pairD)) (PyData.tuple []) = _
    rw [eqv_pairs]
    cases ps <;> simp
section
variable {Pg : Program} {w : World} {K : PySem.W.Frag} {mg : Str → Option Value} {base : Heap} {C P : Addr}
theorem raise_end {H : Hp} {U a : Addr} {E : XK} {z : Str} (na : H a = none) (kE : Unk U H E z) :
    ∀ dx, (L2.upd H a (exo a U none)) dx = none → dx ≠ a → ∀ H2, H2 = L2.upd (del (L2.upd (L2.upd (L2.upd H a (exo a U none)) dx (exd dx [("name", V.str z)])) a (exo a U (some dx))) a) dx (.xd [("name", V.str z)]) → E (.ref U) (some dx) H2 := fun dx nd ne H2 e2 => by
  rw [e2, flown na nd]
  rw [upd_ne ne] at nd
  exact kE dx nd
theorem scCheckP : FnScope ["self", "place"] ["self", "place"] (defScope sCheckP) := ⟨rfl, rfl, rfl, by decide +kernel, rfl, by decide +kernel, by decide +kernel⟩
theorem ok_checkP {f M U fU : Addr} {fd fdU : FuncData} (F : Fun K "check_place" "Map.check_place" sCheckP f fd) (TM : TxtM K M) (gU : mg "UnknownName" = some (.ref U)) (TU : OexC K U) (iU : PySem.W.findIn K (.ref U) "__init__" = some (some (.ref fU))) (tU : PySem.W.typeIn K (.ref fU) = some (.type "function"))
    (GU : FnOk Pg w K mg base CX0 1 fU fdU ["self", "name"] (spUInit K U)) (bU : Binds K fdU ["self", "name"] []) :
    FnOk Pg w K mg base (L2.CX Pg w) 3 f fd ["self", "place"] (spChkL K M U selP) := by
  refine F.okX scCheckP (fun vs H Q E h => ?_) (fun cdv A outer s H vs Q E hr h => ?_)
  · obtain ⟨x, z, d, ks, ps, rs, bs, rfl, _⟩ := h
    rfl
  · obtain ⟨x, z, d, ks, ps, rs, bs, rfl, hz, hM, kQ, kE⟩ := h
    refine ⟨_, pss_one (ps_if (pt_cmpR op_notIn_seq (pv 1) (pe_fld (pv 0) rfl) (by rfl)) (pss_one (ps_raise rfl (takes_of rfl rfl rfl rfl) (pmk_oex TU iU tU GU (hr.mono (by decide)) bU .nil pass0 (by rfl) gU (pa_cons (pv 1) pa_nil)))) pss_nil), ?_⟩
    obtain ⟨dx, fs, kk, pp, rr, D, bb, D2, ys, zs, hx, F7⟩ := hM
    refine ⟨_, rfl, _, rfl, x, M, dx, fs, _, rfl, hx, TM.cl, TM.n3, F7.f3, pp, _, rfl, .inr (SqT.of F7.p), rfl, flat_strs _, _, rfl, ?_⟩
    by_cases hin : z ∈ ps
    · exact if_f (by simp [inV_dec, hin]) (kQ hin)
    · refine if_t (by simp [inV_dec, hin]) ⟨_, rfl, by simp, fun a na => ⟨a, z, rfl, hz, upd_same, fun dx2 nd ne => ⟨rfl, dx2, [("name", .str z)], upd_same, ?_, ?_, ?_⟩⟩⟩
      · rw [upd_ne ne]; exact upd_same
      · rw [upd_ne ne] at nd; exact nd
      · exact raise_end na (kE hin) dx2 nd ne _ rfl
theorem scCheckK : FnScope ["self", "kind"] ["self", "kind"] (defScope sCheckK) := ⟨rfl, rfl, rfl, by decide +kernel, rfl, by decide +kernel, by decide +kernel⟩
theorem ok_checkK {f M U fU : Addr} {fd fdU : FuncData} (F : Fun K "check_kind" "Map.check_kind" sCheckK f fd) (TM : TxtM K M) (gU : mg "UnknownName" = some (.ref U)) (TU : OexC K U) (iU : PySem.W.findIn K (.ref U) "__init__" = some (some (.ref fU))) (tU : PySem.W.typeIn K (.ref fU) = some (.type "function"))
    (GU : FnOk Pg w K mg base CX0 1 fU fdU ["self", "name"] (spUInit K U)) (bU : Binds K fdU ["self", "name"] []) :
    FnOk Pg w K mg base (L2.CX Pg w) 3 f fd ["self", "kind"] (spChkL K M U selK) := by
  refine F.okX scCheckK (fun vs H Q E h => ?_) (fun cdv A outer s H vs Q E hr h => ?_)
  · obtain ⟨x, z, d, ks, ps, rs, bs, rfl, _⟩ := h
    rfl
  · obtain ⟨x, z, d, ks, ps, rs, bs, rfl, hz, hM, kQ, kE⟩ := h
    refine ⟨_, pss_one (ps_if (pt_cmpR op_notIn_seq (pv 1) (pe_fld (pv 0) rfl) (by rfl)) (pss_one (ps_raise rfl (takes_of rfl rfl rfl rfl) (pmk_oex TU iU tU GU (hr.mono (by decide)) bU .nil pass0 (by rfl) gU (pa_cons (pv 1) pa_nil)))) pss_nil), ?_⟩
    obtain ⟨dx, fs, kk, pp, rr, D, bb, D2, ys, zs, hx, F7⟩ := hM
    refine ⟨_, rfl, _, rfl, x, M, dx, fs, _, rfl, hx, TM.cl, TM.n2, F7.f2, kk, _, rfl, .inr (SqT.of F7.k), rfl, flat_strs _, _, rfl, ?_⟩
    by_cases hin : z ∈ ks
    · exact if_f (by simp [inV_dec, hin]) (kQ hin)
    · refine if_t (by simp [inV_dec, hin]) ⟨_, rfl, by simp, fun a na => ⟨a, z, rfl, hz, upd_same, fun dx2 nd ne => ⟨rfl, dx2, [("name", .str z)], upd_same, ?_, ?_, ?_⟩⟩⟩
      · rw [upd_ne ne]; exact upd_same
      · rw [upd_ne ne] at nd; exact nd
      · exact raise_end na (kE hin) dx2 nd ne _ rfl
theorem scMayU : FnScope ["self", "kind", "name"] ["self", "kind", "name"] (defScope sMayU) := ⟨rfl, rfl, rfl, by decide +kernel, rfl, by decide +kernel, by decide +kernel⟩
theorem ok_mayU {f M U fR fC : Addr} {fd fdR fdC : FuncData} {t1 : Tok} (F : Fun K "may_use" "Map.may_use" sMayU f fd) (TM : TxtM K M) (mR : Meth K M "road" fR) (mC : Meth K M "check_kind" fC) (hk : mg "KINDS" = some (.int 4 t1))
    (GR : FnOk Pg w K mg base (L2.CX Pg w) 4 fR fdR ["self", "name"] (spRoadM K M U)) (bR : Binds K fdR ["self", "name"] [])
    (GC : FnOk Pg w K mg base (L2.CX Pg w) 3 fC fdC ["self", "kind"] (spChkL K M U selK)) (bC : Binds K fdC ["self", "kind"] []) :
    FnOk Pg w K mg base (L2.CX Pg w) 5 f fd ["self", "kind", "name"] (spMayU K M P) := by
  refine F.okX scMayU (fun vs H Q E h => ?_) (fun cdv A outer s H vs Q E hr h => ?_)
  · obtain ⟨x, z, d, ks, ps, rs, bs, r, rfl, _⟩ := h
    rfl
  · obtain ⟨x, z, d, ks, ps, rs, bs, r, rfl, hz, hk2, hM, h1, kQ⟩ := h
    refine ⟨_, pss_cons (ps_expr (pe_meth (E := E) (pv 0) TM.cl mC GC (hr.mono (by decide)) bC .nil (passes_call (takes_of rfl rfl rfl rfl) (fun _ _ _ _ h => h)) (pa_cons (pv 1) pa_nil)))
      (pss_one (ps_ret (pe_cmpR op_in_seq (pv 1) (pe_ix ix_tup (pe_meth (E := E) (pv 0) TM.cl mR GR hr bR .nil (passes_call (takes_of rfl rfl rfl rfl) (fun _ _ _ _ h => h)) (pa_cons (pv 2) pa_nil)) (pe_gI hk) (fun _ _ => rfl)) (by rfl)))), ?_⟩
    obtain ⟨dx, fs, kk, pp, rr, D, bb, D2, ys, zs, hx, F7⟩ := hM.m
    refine ⟨_, rfl, x, dx, fs, rfl, hx, F7.f0 _ (by decide +kernel), _, rfl, x, z, d, ks, ps, rs, bs, rfl, hz, hM.m, fun _ => ?_, fun no => absurd hk2 no⟩
    refine ⟨_, rfl, _, rfl, x, dx, fs, rfl, hx, F7.f0 _ (by decide +kernel), _, rfl, x, r.name, d, ks, ps, rs, bs, rfl, hM.nl _ h1, hM.m, fun r' hr1 he1 v hv => ?_, fun no => absurd rfl (no r h1)⟩
    obtain rfl : r' = r := uniq_name hM.nd hr1 h1 he1
    obtain ⟨p, q, hv, rfl, ep, eq, _⟩ := hv
    refine ⟨p, _, 4, _, rfl, rfl, SqT.of ep, rfl, q, _, rfl, .inr (SqT.of eq), rfl, flat_strs _, ?_⟩
    rw [← inV_dec] at kQ
    exact kQ
theorem scEver : FnScope ["chart", "kind", "name"] ["chart", "kind", "name"] (defScope sCanEver) := ⟨rfl, rfl, rfl, by decide +kernel, rfl, by decide +kernel, by decide +kernel⟩
theorem ok_ever {f M U fR fC : Addr} {fd fdR fdC : FuncData} {t1 : Tok} (F : Fun K "can_ever_enter" "can_ever_enter" sCanEver f fd) (TM : TxtM K M) (mR : Meth K M "road" fR) (mC : Meth K M "may_use" fC) (hh : mg "HOURS" = some (.int 5 t1))
    (GR : FnOk Pg w K mg base (L2.CX Pg w) 4 fR fdR ["self", "name"] (spRoadM K M U)) (bR : Binds K fdR ["self", "name"] [])
    (GC : FnOk Pg w K mg base (L2.CX Pg w) 5 fC fdC ["self", "kind", "name"] (spMayU K M P)) (bC : Binds K fdC ["self", "kind", "name"] []) :
    FnOk Pg w K mg base (L2.CX Pg w) 6 f fd ["chart", "kind", "name"] (spEver K M P) := by
  refine F.okX scEver (fun vs H Q E h => ?_) (fun cdv A outer s H vs Q E hr h => ?_)
  · obtain ⟨x, z, d, ks, ps, rs, bs, r, rfl, _⟩ := h
    rfl
  · obtain ⟨x, z, d, ks, ps, rs, bs, r, rfl, hz, hk2, hM, h1, kQ⟩ := h
    refine ⟨_, pss_one (ps_ret (pe_and (pe_meth (E := E) (pv 0) TM.cl mC GC hr bC .nil (passes_call (takes_of rfl rfl rfl rfl) (fun _ _ _ _ h => h)) (pa_cons (pv 1) (pa_cons (pv 2) pa_nil)))
      (pe_one (pe_cmpR (op_neD hr.units) (pe_ix ix_tup (pe_meth (E := E) (pv 0) TM.cl mR GR (hr.mono (by decide)) bR .nil (passes_call (takes_of rfl rfl rfl rfl) (fun _ _ _ _ h => h)) (pa_cons (pv 2) pa_nil)) (pe_gI hh) (fun _ _ => rfl)) (pe_tup pa_nil) (nomark _))))), ?_⟩
    obtain ⟨dx, fs, kk, pp, rr, D, bb, D2, ys, zs, hx, F7⟩ := hM.m
    refine ⟨_, rfl, x, dx, fs, rfl, hx, F7.f0 _ (by decide +kernel), _, rfl, _, rfl, x, z, d, ks, ps, rs, bs, r, rfl, hz, hk2, hM, h1, _, rfl, ?_⟩
    unfold everB at kQ
    by_cases c : z ∈ r.users
    · rw [decide_eq_true c] at kQ ⊢
      refine iteT ⟨_, rfl, x, dx, fs, rfl, hx, F7.f0 _ (by decide +kernel), _, rfl, x, r.name, d, ks, ps, rs, bs, rfl, hM.nl _ h1, hM.m, fun r' hr1 he1 v hv => ?_, fun no => absurd rfl (no r h1)⟩
      obtain rfl : r' = r := uniq_name hM.nd hr1 h1 he1
      obtain ⟨p, q, hv, rfl, ep, eq, hh⟩ := hv
      refine ⟨p, _, 5, hv, rfl, rfl, SqT.of ep, rfl, Nat.zero_le _, fun e0 ne0 => ?_⟩
      have g := Grew.new hM.t (o := .tup []) ne0
      refine ⟨_, _, dp_hours (hh.keep (KeepT.grew g hM.t)), .tup (SqT.of upd_same) .nil, shaped_hours _, shaped_pairs [], ?_⟩
      rw [show (PyData.tuple []) = PyData.tuple (([] : List (Int × Int)).map pairD) from rfl] at *
      have k := kQ _ g
      rw [← eqv_hours, Bool.true_and] at k
      exact k
    · rw [decide_eq_false c] at kQ ⊢
      exact iteF (kQ H (Grew.refl hM.t))
end
end W

set_option Elab.async false
set_option linter.all false
set_option maxRecDepth 100000
set_option maxHeartbeats 800000
namespace W
open PySem PySem.Spec PyProof.Rows L2 GxR MyG MyS
/-! ### check_names, _can_go_on, run, waiting -/
abbrev sNamesC : Stmt := top 34
def Known (rs : List RoadD) (z : Str) : Prop := ∃ r ∈ rs, r.name = z
/-- z is the first of zs that has not p -/
def FirstNot (p : Str → Prop) (zs : List Str) (z : Str) : Prop := ∃ i, zs[i]? = some z ∧ ¬ p z ∧ ∀ (j : Nat) (y : Str), j < i → zs[j]? = some y → p y
/-- the names of a question: the first unknown one flies -/
def Names4 (U : Addr) (ks ps : List Str) (rs : List RoadD) (kind : Str) (zs1 zs2 : List Str) (B : Str → Prop) (G : Prop) : Prop :=
  (kind ∉ ks ∧ B kind) ∨ (kind ∈ ks ∧ ∃ z, FirstNot (· ∈ ps) zs1 z ∧ B z) ∨ (kind ∈ ks ∧ (∀ z ∈ zs1, z ∈ ps) ∧ ∃ z, FirstNot (Known rs) zs2 z ∧ B z) ∨ (kind ∈ ks ∧ (∀ z ∈ zs1, z ∈ ps) ∧ (∀ z ∈ zs2, Known rs z) ∧ G)
theorem Names4.imp {U : Addr} {ks ps : List Str} {rs : List RoadD} {kind : Str} {zs1 zs2 : List Str} {B B' : Str → Prop} {G G' : Prop} (h : Names4 U ks ps rs kind zs1 zs2 B G) (hB : ∀ z, B z → B' z) (hG : kind ∈ ks → (∀ z ∈ zs1, z ∈ ps) → (∀ z ∈ zs2, Known rs z) → G → G') : Names4 U ks ps rs kind zs1 zs2 B' G' := by
  rcases h with ⟨a, b⟩ | ⟨a, z, b, c⟩ | ⟨a, b, z, c, e⟩ | ⟨a, b, c, e⟩
  · exact .inl ⟨a, hB _ b⟩
  · exact .inr (.inl ⟨a, z, b, hB _ c⟩)
  · exact .inr (.inr (.inl ⟨a, b, z, c, hB _ e⟩))
  · exact .inr (.inr (.inr ⟨a, b, c, hG a b c e⟩))
def spChkN (K : PySem.W.Frag) (M U P : Addr) : Sp := fun vs H Q E => ∃ (x pl ro : Addr) (kind : Str) (zs1 zs2 : List Str) (d : Int) (ks ps : List Str) (rs : List RoadD) (bs : List (Str × Str)), vs = [.ref x, .str kind, .ref pl, .ref ro] ∧ MIn K H M P x d ks ps rs bs ∧ kind.length ≤ 1000 ∧
  SqL K H pl (zs1.map V.str) ∧ SqL K H ro (zs2.map V.str) ∧ (∀ z ∈ zs1, z.length ≤ 1000) ∧ (∀ z ∈ zs2, z.length ≤ 1000) ∧ Names4 U ks ps rs kind zs1 zs2 (Unk U H E) (Q .non H)
theorem str_at {ns : List Str} {i : Nat} {y : V} (h : (ns.map V.str)[i]? = some y) : ∃ z, ns[i]? = some z ∧ y = V.str z := by
  rw [List.getElem?_map] at h
  obtain ⟨z, e1, e2⟩ := Option.map_eq_some_iff.mp h
  exact ⟨z, e1, e2.symm⟩
section
variable {Pg : Program} {w : World} {K : PySem.W.Frag} {mg : Str → Option Value} {base : Heap} {C P : Addr}
abbrev nNamesC : List Str := ["chart", "kind", "places", "roads", "place", "name"]
theorem scNamesC : FnScope nNamesC ["chart", "kind", "places", "roads"] (defScope sNamesC) := ⟨rfl, rfl, rfl, by decide +kernel, rfl, by decide +kernel, by decide +kernel⟩
theorem ok_chkN {f M U fK fP fR : Addr} {fd fdK fdP fdR : FuncData} (F : Fun K "check_names" "check_names" sNamesC f fd) (TM : TxtM K M) (mK : Meth K M "check_kind" fK) (mP : Meth K M "check_place" fP) (mR : Meth K M "check_road" fR)
    (GK : FnOk Pg w K mg base (L2.CX Pg w) 3 fK fdK ["self", "kind"] (spChkL K M U selK)) (bK : Binds K fdK ["self", "kind"] [])
    (GP : FnOk Pg w K mg base (L2.CX Pg w) 3 fP fdP ["self", "place"] (spChkL K M U selP)) (bP : Binds K fdP ["self", "place"] [])
    (GR : FnOk Pg w K mg base (L2.CX Pg w) 3 fR fdR ["self", "name"] (spCheck K M U)) (bR : Binds K fdR ["self", "name"] []) :
    FnOk Pg w K mg base (L2.CX Pg w) 4 f fd ["chart", "kind", "places", "roads"] (spChkN K M U P) := by
  refine F.okX scNamesC (fun vs H Q E h => ?_) (fun cdv A outer s H vs Q E hr h => ?_)
  · obtain ⟨x, pl, ro, kind, zs1, zs2, d, ks, ps, rs, bs, rfl, _⟩ := h
    rfl
  · obtain ⟨x, pl, ro, kind, zs1, zs2, d, ks, ps, rs, bs, rfl, hM, hk, hS1, hS2, hz1, hz2, h4⟩ := h
    refine ⟨_, pss_cons (ps_expr (pe_meth (E := E) (pv 0) TM.cl mK GK hr bK .nil (passes_call (takes_of rfl rfl rfl rfl) (fun _ _ _ _ h => h)) (pa_cons (pv 1) pa_nil)))
      (pss_cons (ps_for (passes_of rfl) rfl (pi_list (pv 2)) (pg_name (i := 4) scNamesC.nd rfl (Or.inl rfl)) (pss_one (ps_expr (pe_meth (E := E) (pv 0) TM.cl mP GP hr bP .nil (passes_call (takes_of rfl rfl rfl rfl) (fun _ _ _ _ h => h)) (pa_cons (pv 4) pa_nil)))))
      (pss_one (ps_for (passes_of rfl) rfl (pi_list (pv 3)) (pg_name (i := 5) scNamesC.nd rfl (Or.inl rfl)) (pss_one (ps_expr (pe_meth (E := E) (pv 0) TM.cl mR GR hr bR .nil (passes_call (takes_of rfl rfl rfl rfl) (fun _ _ _ _ h => h)) (pa_cons (pv 5) pa_nil))))))), ?_⟩
    obtain ⟨dx, fs, kk, pp, rr, D, bb, D2, ys, zs, hx, F7⟩ := hM.m
    refine ⟨_, rfl, x, dx, fs, rfl, hx, F7.f0 _ (by decide +kernel), _, rfl, x, kind, d, ks, ps, rs, bs, rfl, hk, hM.m, fun hkin => ?_, fun hno => ?_⟩
    · have hkin' : kind ∈ ks := hkin
      refine ⟨_, rfl, pl, rfl, ⟨_, hS1⟩, for_list (K := K) (a := pl) (xs := zs1.map V.str) (fun i σ H' => H' = H ∧ ∃ v, σ = [some (.ref x), some (.str kind), some (.ref pl), some (.ref ro), v, none] ∧ ∀ j y, j < i → zs1[j]? = some y → y ∈ ps)
        ⟨rfl, none, rfl, fun j y hj => absurd hj (Nat.not_lt_zero _)⟩ (fun i σ H' _ ⟨e, _⟩ => by rw [e]; exact hS1) ?_ ?_⟩
      · rintro i y σ H' hi ⟨rfl, v, rfl, hb⟩
        obtain ⟨z, ez, rfl⟩ := str_at hi
        refine ⟨_, rfl, x, dx, fs, rfl, hx, F7.f0 _ (by decide +kernel), _, rfl, x, z, d, ks, ps, rs, bs, rfl, hz1 z (List.mem_of_getElem? ez), hM.m, fun hin => ⟨rfl, _, rfl, fun j y hj e => ?_⟩, fun hno => ?_⟩
        · rcases Nat.lt_succ_iff_lt_or_eq.mp hj with h | h
          · exact hb j y h e
          · rw [h, ez] at e
            cases e
            exact hin
        · have hno' : z ∉ ps := hno
          rcases h4 with ⟨a, _⟩ | ⟨_, z', ⟨i', e', n', b'⟩, u⟩ | ⟨_, b, _⟩ | ⟨_, b, _⟩
          · exact absurd hkin' a
          · rcases Nat.lt_trichotomy i i' with c | c | c
            · exact absurd (b' i z c ez) hno'
            · rw [c, e'] at ez
              cases ez
              exact u
            · exact absurd (hb i' z' c e') n'
          · exact absurd (b z (List.mem_of_getElem? ez)) hno'
          · exact absurd (b z (List.mem_of_getElem? ez)) hno'
      · rintro σ H' ⟨rfl, v, rfl, hb⟩
        rw [List.length_map] at hb
        have all1 : ∀ z ∈ zs1, z ∈ ps := fun z hz => by
          obtain ⟨j, hj, e⟩ := List.getElem_of_mem hz
          exact hb j z hj (by rw [List.getElem?_eq_getElem hj, e])
        refine ⟨_, rfl, ro, rfl, ⟨_, hS2⟩, for_list (K := K) (a := ro) (xs := zs2.map V.str) (fun i σ H2 => H2 = H' ∧ ∃ u, σ = [some (.ref x), some (.str kind), some (.ref pl), some (.ref ro), v, u] ∧ ∀ j y, j < i → zs2[j]? = some y → Known rs y)
          ⟨rfl, none, rfl, fun j y hj => absurd hj (Nat.not_lt_zero _)⟩ (fun i σ H' _ ⟨e, _⟩ => by rw [e]; exact hS2) ?_ ?_⟩
        · rintro i y σ H2 hi ⟨rfl, u, rfl, hb2⟩
          obtain ⟨z, ez, rfl⟩ := str_at hi
          refine ⟨_, rfl, x, dx, fs, rfl, hx, F7.f0 _ (by decide +kernel), _, rfl, x, z, d, ks, ps, rs, bs, rfl, hz2 z (List.mem_of_getElem? ez), hM.m, fun hin => ⟨rfl, _, rfl, fun j y hj e => ?_⟩, fun hno => ?_⟩
          · rcases Nat.lt_succ_iff_lt_or_eq.mp hj with h | h
            · exact hb2 j y h e
            · rw [h, ez] at e
              cases e
              exact hin
          · have hno' : ¬ Known rs z := fun ⟨r, h1, h2⟩ => hno r h1 h2
            rcases h4 with ⟨a, _⟩ | ⟨_, z', ⟨i', e', n', b'⟩, u⟩ | ⟨_, _, z', ⟨i', e', n', b'⟩, u⟩ | ⟨_, _, b, _⟩
            · exact absurd hkin' a
            · exact absurd (all1 z' (List.mem_of_getElem? e')) n'
            · rcases Nat.lt_trichotomy i i' with c | c | c
              · exact absurd (b' i z c ez) hno'
              · rw [c, e'] at ez
                cases ez
                exact u
              · exact absurd (hb2 i' z' c e') n'
            · exact absurd (b z (List.mem_of_getElem? ez)) hno'
        · rintro σ H2 ⟨rfl, u, rfl, hb2⟩
          rw [List.length_map] at hb2
          rcases h4 with ⟨a, _⟩ | ⟨_, z', ⟨i', e', n', b'⟩, _⟩ | ⟨_, _, z', ⟨i', e', n', b'⟩, _⟩ | ⟨_, _, _, g⟩
          · exact absurd hkin' a
          · exact absurd (all1 z' (List.mem_of_getElem? e')) n'
          · exact absurd (hb2 i' z' (List.getElem?_eq_some_iff.mp e').1 e') n'
          · exact g
    · have hno' : kind ∉ ks := hno
      rcases h4 with ⟨_, u⟩ | ⟨a, _⟩ | ⟨a, _⟩ | ⟨a, _⟩
      · exact u
      all_goals exact absurd a hno'
end
end W

set_option Elab.async false
set_option linter.all false
set_option maxRecDepth 100000
set_option maxHeartbeats 800000
namespace W
open PySem PySem.Spec PyProof.Rows L2 GxR MyG MyS
/-! ### Map.road_names, roads_from, followers; turns -/
abbrev sRNames : Stmt := inClass (top 31) 1
abbrev sRFrom : Stmt := inClass (top 31) 6
abbrev sFoll : Stmt := inClass (top 31) 10
abbrev sTurns : Stmt := top 36
/-- nothing is let out by a def whose promise lets nothing out -/
theorem passF {P : Program} {w : World} {X : Cx} (hP : X.prog = P) (hw : X.w = w) : Passes (L2.CX P w) X E0 := fun pins σ H s e s' I c => by
  obtain ⟨_, _, _, _, _, _, _, _, _, _, _, _, q⟩ := c
  exact q.elim
theorem pe_fldK {X : Cx} {e : Expr} {f : Str} {pos : Pos} {ta : TE} {K : PySem.W.Frag} (hK : X.K = K) (he : PE X e ta) (hb : attributeBase e f X.env (eval e X.env) = eval e X.env) : PE X (.Attribute e f pos) (tFld K ta f) := by
  subst hK
  exact pe_fld he hb
def namesV (rs : List RoadD) : List V := (rs.map (·.name)).map V.str
def spRNames (K : PySem.W.Frag) (M P : Addr) : Sp := fun vs H Q _ => ∃ (x : Addr) (d : Int) (ks ps : List Str) (rs : List RoadD) (bs : List (Str × Str)), vs = [.ref x] ∧ MIn K H M P x d ks ps rs bs ∧ rs.length ≤ 60 ∧
  ∀ H' p, Grew P H H' → H p = none → H' p = some (.tup (namesV rs)) → Q (.ref p) H'
def spRFrom (K : PySem.W.Frag) (M P : Addr) : Sp := fun vs H Q _ => ∃ (x : Addr) (z : Str) (d : Int) (ks ps : List Str) (rs : List RoadD) (bs : List (Str × Str)), vs = [.ref x, .str z] ∧ z.length ≤ 1000 ∧ z ∈ ps ∧ MIn K H M P x d ks ps rs bs ∧ rs.length ≤ 60 ∧
  ∀ H' p, Grew P H H' → H p = none → H' p = some (.lst (namesV (rs.filter fun r => decide (r.start = z)))) → Q (.ref p) H'
def spFoll (K : PySem.W.Frag) (M P : Addr) : Sp := fun vs H Q _ => ∃ (x : Addr) (r0 : RoadD) (d : Int) (ks ps : List Str) (rs : List RoadD) (bs : List (Str × Str)), vs = [.ref x, .str r0.name] ∧ r0 ∈ rs ∧ r0.goal ∈ ps ∧ r0.goal.length ≤ 1000 ∧ MIn K H M P x d ks ps rs bs ∧ rs.length ≤ 60 ∧
  ∀ H' p, Grew P H H' → H p = none → H' p = some (.lst (namesV (rs.filter fun r => decide (r.start = r0.goal) && !decide ((r0.name, r.name) ∈ bs)))) → Q (.ref p) H'
theorem filter_take {α : Type} {p : α → Bool} {l : List α} {i : Nat} {a : α} (h : l[i]? = some a) : (l.take (i + 1)).filter p = if p a = true then (l.take i).filter p ++ [a] else (l.take i).filter p := by
  rw [List.take_succ, h, List.filter_append]
  by_cases c : p a = true
  · rw [if_pos c]
    simp [c]
  · rw [if_neg c]
    simp [c]
theorem namesV_app (a b : List RoadD) : namesV (a ++ b) = namesV a ++ namesV b := by
  unfold namesV
  rw [List.map_append, List.map_append]
theorem namesV_len (a : List RoadD) : (namesV a).length ≤ a.length := by
  unfold namesV
  rw [List.length_map, List.length_map]
  exact Nat.le_refl _
section
variable {Pg : Program} {w : World} {K : PySem.W.Frag} {mg : Str → Option Value} {base : Heap} {C P : Addr}
theorem scRNames : FnScope ["self", "road"] ["self"] (defScope sRNames) := ⟨rfl, rfl, rfl, by decide +kernel, rfl, by decide +kernel, by decide +kernel⟩
theorem ok_rnames {f M : Addr} {fd : FuncData} {t1 : Tok} (F : Fun K "road_names" "Map.road_names" sRNames f fd) (TM : TxtM K M) (ht : mg "tuple" = none) (hn : mg "NAME" = some (.int 0 t1)) : FnOk Pg w K mg base CX0 1 f fd ["self"] (spRNames K M P) := by
  refine F.ok scRNames (fun vs H Q E h => ?_) (fun cdv A outer s H vs Q E hr h => ?_)
  · obtain ⟨x, d, ks, ps, rs, bs, rfl, _⟩ := h
    rfl
  · obtain ⟨x, d, ks, ps, rs, bs, rfl, hM, h60, k⟩ := h
    refine ⟨_, pss_one (ps_ret (pe_callTy call_tuple_of (by rfl) ht (by decide +kernel) (pa_cons (pe_lc (own := [("road", 1)]) (g := gName 1) (tt := tYes) rfl scRNames.nd (pi_tup (pe_fld (pv 0) rfl)) (blkOk_by (N := ["self", "road"]) (sc := defScope sRNames) (by decide +kernel)) (fun _ _ _ _ _ => pg_name (i := 1) scRNames.nd rfl (Or.inl rfl)) (fun _ _ _ _ _ => pts_nil)
          (fun _ _ _ _ _ => pe_ix (r := rIxT K) ix_tup (pv 1) (pe_gI hn) (fun _ _ => rfl))) pa_nil))), ?_⟩
    obtain ⟨dx, fs, kk, pp, rr, D, bb, D2, ys, zs, hx, F7⟩ := hM.m
    have hP := hM.t
    refine ⟨_, rfl, x, M, dx, fs, _, rfl, hx, TM.cl, TM.n4, F7.f4, rr, rfl, ⟨_, SqT.of F7.r⟩, fun L nL => lc_tup (K := K) (a := rr) (xs := ys) (fun i H1 => Grew P H H1 ∧ H1 L = some (.lst (namesV (rs.take i))))
      ⟨Grew.new hP nL, upd_same⟩ (fun i H1 _ p => SqT.of (p.1.tup hP F7.r)) (fun i y H1 hy p => ?_) (fun H1 p => ?_)⟩
    · obtain ⟨g, hD⟩ := p
      obtain ⟨r, hr1, m⟩ := Paired.at F7.ry hy
      obtain ⟨t, q, h, rfl, et, _⟩ := m.grew g hP
      have hi := (List.getElem?_eq_some_iff.mp hr1).1
      refine ⟨rfl, _, rfl, t, _, 0, .str r.name, rfl, rfl, SqT.of et, rfl, _, hD, ?_, g.write hD (fun _ z => by cases z) nL, ?_⟩
      · unfold namesV
        rw [List.length_map, List.length_map, List.length_take, sizeLine_eq]; omega
      · rw [upd_same, List.take_succ, hr1, namesV_app]; rfl
    · obtain ⟨g, hD⟩ := p
      rw [← Paired.len F7.ry, List.take_length] at hD
      refine ⟨L, _, rfl, .inl ⟨SqL.of hD, fun q nq => ?_⟩⟩
      exact k _ q (g.put nq) (g.free nq) upd_same
theorem scRFrom : FnScope ["self", "place", "road"] ["self", "place"] (defScope sRFrom) := ⟨rfl, rfl, rfl, by decide +kernel, rfl, by decide +kernel, by decide +kernel⟩
theorem ok_rfrom {f M U fC : Addr} {fd fdC : FuncData} {t1 t2 : Tok} (F : Fun K "roads_from" "Map.roads_from" sRFrom f fd) (TM : TxtM K M) (hn : mg "NAME" = some (.int 0 t1)) (hst : mg "START" = some (.int 1 t2)) (mC : Meth K M "check_place" fC)
    (GC : FnOk Pg w K mg base (L2.CX Pg w) 3 fC fdC ["self", "place"] (spChkL K M U selP)) (bC : Binds K fdC ["self", "place"] []) : FnOk Pg w K mg base (L2.CX Pg w) 4 f fd ["self", "place"] (spRFrom K M P) := by
  refine F.okX scRFrom (fun vs H Q E h => ?_) (fun cdv A outer s H vs Q E hr h => ?_)
  · obtain ⟨x, z, d, ks, ps, rs, bs, rfl, _⟩ := h
    rfl
  · obtain ⟨x, z, d, ks, ps, rs, bs, rfl, hz, hzp, hM, h60, k⟩ := h
    refine ⟨_, pss_cons (ps_expr (pe_meth (pv 0) TM.cl mC GC hr bC .nil (passF rfl rfl) (pa_cons (pv 1) pa_nil)))
      (pss_one (ps_ret (pe_lc (own := [("road", 2)]) (g := gName 2) rfl scRFrom.nd (pi_tup (pe_fld (pv 0) rfl)) (blkOk_by (N := ["self", "place", "road"]) (sc := defScope sRFrom) (by decide +kernel)) (fun _ _ _ _ _ => pg_name (i := 2) scRFrom.nd rfl (Or.inl rfl))
          (fun _ _ _ _ _ => pts_one (pt_cmpR op_eq (pe_ix (r := rIxT K) ix_tup (pv 2) (pe_gI hst) (fun _ _ => rfl)) (pv 1) (nomark _)))
          (fun _ _ _ _ _ => pe_ix (r := rIxT K) ix_tup (pv 2) (pe_gI hn) (fun _ _ => rfl))))), ?_⟩
    obtain ⟨dx, fs, kk, pp, rr, D, bb, D2, ys, zs, hx, F7⟩ := hM.m
    have hP := hM.t
    refine ⟨_, rfl, x, dx, fs, rfl, hx, F7.f0 _ (by decide +kernel), _, rfl, x, z, d, ks, ps, rs, bs, rfl, hz, hM.m, fun _ => ?_, fun no => absurd hzp no⟩
    refine ⟨_, rfl, x, M, dx, fs, _, rfl, hx, TM.cl, TM.n4, F7.f4, rr, rfl, ⟨_, SqT.of F7.r⟩, fun L nL => lc_tup (K := K) (a := rr) (xs := ys) (fun i H1 => Grew P H H1 ∧ H1 L = some (.lst (namesV ((rs.take i).filter fun r => decide (r.start = z)))))
      ⟨Grew.new hP nL, upd_same⟩ (fun i H1 _ p => SqT.of (p.1.tup hP F7.r)) (fun i y H1 hy p => ?_) (fun H1 p => ?_)⟩
    · obtain ⟨g, hD⟩ := p
      obtain ⟨r, hr1, m⟩ := Paired.at F7.ry hy
      obtain ⟨t, q, h, rfl, et, _⟩ := m.grew g hP
      have hi := (List.getElem?_eq_some_iff.mp hr1).1
      rw [filter_take hr1]
      refine ⟨rfl, _, rfl, t, _, 1, .str r.start, rfl, rfl, SqT.of et, rfl, _, rfl, rfl, _, rfl, ?_⟩
      by_cases c : r.start = z
      · rw [decide_eq_true (congrArg V.str c), if_pos (decide_eq_true c)]
        refine if_t rfl ⟨_, rfl, t, _, 0, .str r.name, rfl, rfl, SqT.of et, rfl, _, hD, ?_, g.write hD (fun _ z => by cases z) nL, ?_⟩
        · refine Nat.lt_of_le_of_lt (namesV_len _) (Nat.lt_of_le_of_lt (List.length_filter_le _ _) ?_)
          rw [List.length_take, sizeLine_eq]; omega
        · rw [upd_same, namesV_app]; rfl
      · rw [decide_eq_false (show ¬ V.str r.start = V.str z from fun e => c (by injection e)), if_neg (by simp [c])]
        exact if_f rfl ⟨g, hD⟩
    · obtain ⟨g, hD⟩ := p
      rw [← Paired.len F7.ry, List.take_length] at hD
      exact k _ L g nL hD
abbrev nFoll : List Str := ["self", "name", "end", "other"]
theorem scFoll : FnScope nFoll ["self", "name"] (defScope sFoll) := ⟨rfl, rfl, rfl, by decide +kernel, rfl, by decide +kernel, by decide +kernel⟩
theorem barred_dec {kvs : List (List Key × V)} {bs : List (Str × Str)} (h : ∀ a b : Str, (valV kvs [.inr a, .inr b]).isSome = true ↔ (a, b) ∈ bs) (a b : Str) : (valV kvs [.inr a, .inr b]).isSome = decide ((a, b) ∈ bs) := by
  by_cases hb : (a, b) ∈ bs
  · rw [(h _ _).mpr hb, decide_eq_true hb]
  · rw [decide_eq_false hb]
    cases c : (valV kvs [.inr a, .inr b]).isSome with
    | false => rfl
    | true => exact absurd ((h _ _).mp c) hb
theorem namesV_at {rs : List RoadD} {i : Nat} {y : V} (h : (namesV rs)[i]? = some y) : ∃ r, rs[i]? = some r ∧ y = .str r.name := by
  unfold namesV at h
  rw [List.getElem?_map, List.getElem?_map] at h
  cases q : rs[i]? with
  | none => rw [q] at h; cases h
  | some r => rw [q] at h; exact ⟨r, rfl, (Option.some.inj h).symm⟩
theorem ok_foll {f M U fR fF : Addr} {fd fdR fdF : FuncData} {t1 : Tok} (F : Fun K "followers" "Map.followers" sFoll f fd) (TM : TxtM K M) (he : mg "END" = some (.int 2 t1)) (mR : Meth K M "road" fR) (mF : Meth K M "roads_from" fF)
    (GR : FnOk Pg w K mg base (L2.CX Pg w) 4 fR fdR ["self", "name"] (spRoadM K M U)) (bR : Binds K fdR ["self", "name"] [])
    (GF : FnOk Pg w K mg base (L2.CX Pg w) 4 fF fdF ["self", "place"] (spRFrom K M P)) (bF : Binds K fdF ["self", "place"] []) : FnOk Pg w K mg base (L2.CX Pg w) 5 f fd ["self", "name"] (spFoll K M P) := by
  refine F.okX scFoll (fun vs H Q E h => ?_) (fun cdv A outer s H vs Q E hr h => ?_)
  · obtain ⟨x, r0, d, ks, ps, rs, bs, rfl, _⟩ := h
    rfl
  · obtain ⟨x, r0, d, ks, ps, rs, bs, rfl, h0, hgp, hgl, hM, h60, k⟩ := h
    refine ⟨_, pss_cons (ps_set (i := 2) scFoll.nd rfl (Or.inl rfl) (pe_ix ix_tup (pe_meth (pv 0) TM.cl mR GR hr bR .nil (passF rfl rfl) (pa_cons (pv 1) pa_nil)) (pe_gI he) (fun _ _ => rfl)))
      (pss_one (ps_ret (pe_lc (own := [("other", 3)]) (g := gName 3) rfl scFoll.nd (pi_list (pe_meth (pv 0) TM.cl mF GF hr bF .nil (passF rfl rfl) (pa_cons (pv 2) pa_nil))) (blkOk_by (N := nFoll) (sc := defScope sFoll) (by decide +kernel)) (fun _ _ _ _ _ => pg_name (i := 3) scFoll.nd rfl (Or.inl rfl))
          (fun _ _ _ _ _ => pts_one (pt_cmp (pc_dnotin (u1 hr.units) (pe_tup (pa_cons (pv 1) (pa_cons (pv 3) pa_nil))) (pe_fldK (K := K) rfl (pv 0) rfl))))
          (fun _ _ _ _ _ => pv 3)))), ?_⟩
    obtain ⟨dx, fs, kk, pp, rr, D, bb, D2, ys, zs, hx, F7⟩ := hM.m
    have hP := hM.t
    refine ⟨_, rfl, x, dx, fs, rfl, hx, F7.f0 _ (by decide +kernel), _, rfl, x, r0.name, d, ks, ps, rs, bs, rfl, hM.nl _ h0, hM.m, fun r hr1 he1 v hv => ?_, fun no => absurd rfl (no r0 h0)⟩
    obtain rfl : r = r0 := uniq_name hM.nd hr1 h0 he1
    obtain ⟨p, q, hv, rfl, ep, _, _⟩ := hv
    refine ⟨p, _, 2, _, rfl, rfl, SqT.of ep, rfl, ?_⟩
    refine ⟨_, rfl, x, dx, fs, rfl, hx, F7.f0 _ (by decide +kernel), _, rfl, x, r.goal, d, ks, ps, rs, bs, rfl, hgl, hgp, hM, h60, fun H1 L1 g1 nL1 eL1 => ?_⟩
    obtain ⟨kvs, hd, hin⟩ := F7.db
    generalize hfl : rs.filter (fun r' => decide (r'.start = r.goal)) = fl at eL1
    have lfl : fl.length ≤ 60 := by rw [← hfl]; exact Nat.le_trans (List.length_filter_le _ _) h60
    refine ⟨L1, rfl, ⟨_, SqL.of eL1⟩, fun L nL => lc_list (K := K) (a := L1) (xs := namesV fl) (fun i H2 => Grew P H1 H2 ∧ H2 L = some (.lst (namesV ((fl.take i).filter fun r' => !decide ((r.name, r'.name) ∈ bs)))))
      ⟨Grew.new g1.tab nL, upd_same⟩ (fun i H2 _ p => SqL.of (p.1.lst g1.tab eL1)) (fun i y H2 hy p => ?_) (fun H2 p => ?_)⟩
    · obtain ⟨g, hD⟩ := p
      obtain ⟨r', hr', rfl⟩ := namesV_at hy
      have hi := (List.getElem?_eq_some_iff.mp hr').1
      rw [filter_take hr']
      have g2 := g1.trans g
      refine ⟨rfl, _, rfl, _, rfl, by show 2 ≤ sizeLine; decide, fun q nq => ?_⟩
      have gq := Grew.new g.tab (o := .tup [.str r.name, .str r'.name]) nq
      have hDq := gq.lst g.tab hD
      refine ⟨_, rfl, x, M, dx, fs, _, rfl, (g2.trans gq).get hP hx (fun _ z => by cases z), TM.cl, TM.n7, F7.f7, D2, _, rfl, DGet.t (k := [.inr r.name, .inr r'.name]) ((g2.trans gq).get hP hd (fun _ z => by cases z)) upd_same, ?_⟩
      rw [barred_dec hin]
      by_cases c : (r.name, r'.name) ∈ bs
      · rw [decide_eq_true c]
        refine ⟨_, rfl, ?_⟩
        exact if_f rfl ⟨g.trans gq, by rw [if_neg (by simp)]; exact hDq⟩
      · rw [decide_eq_false c]
        refine ⟨_, rfl, ?_⟩
        refine if_t rfl ⟨_, rfl, _, hDq, ?_, (g.trans gq).write hDq (fun _ z => by cases z) nL, ?_⟩
        · refine Nat.lt_of_le_of_lt (namesV_len _) (Nat.lt_of_le_of_lt (List.length_filter_le _ _) ?_)
          rw [List.length_take, sizeLine_eq]; omega
        · rw [upd_same, if_pos (by simp), namesV_app]; rfl
    · obtain ⟨g, hD⟩ := p
      have ef : fl.length = (namesV fl).length := by unfold namesV; rw [List.length_map, List.length_map]
      rw [← ef, List.take_length, ← hfl, List.filter_filter] at hD
      refine k _ L (g1.trans g) (g1.free nL) ?_
      rw [hD]
      congr 3
      exact List.filter_congr fun r' _ => Bool.and_comm _ _
end
end W

set_option Elab.async false
set_option linter.all false
set_option maxRecDepth 100000
set_option maxHeartbeats 800000
namespace W
open PySem PySem.Spec PyProof.Rows L2 GxR MyG MyS
/-! ### turns: where a trip can go on -/
def mayB (kind : Str) (bs : List (Str × Str)) (place : Str) (before : Option Str) (r : RoadD) : Bool := decide (r.start = place) && (everB kind r && (match before with | none => true | some b => !decide ((b, r.name) ∈ bs)))
/-- the roads that can be driven next -/
def nxR (kind : Str) (bs : List (Str × Str)) (rs : List RoadD) (place : Str) (before : Option Str) : List RoadD := rs.filter (mayB kind bs place before)
def BehindAt (H : Hp) (D : Addr) (kind start : Str) (rs : List RoadD) (bs : List (Str × Str)) : Prop := ∃ kvs, H D = some (.dK kvs) ∧ (∃ l, valV kvs (.inr Str.empty) = some (.ref l) ∧ H l = some (.lst (namesV (nxR kind bs rs start none)))) ∧
  ∀ r ∈ rs, ∃ l, valV kvs (.inr r.name) = some (.ref l) ∧ H l = some (.lst (namesV (nxR kind bs rs r.goal (some r.name))))
theorem BehindAt.grew {P : Addr} {H H' : Hp} {D : Addr} {kind start : Str} {rs : List RoadD} {bs : List (Str × Str)} (b : BehindAt H D kind start rs bs) (g : Grew P H H') (h : TabG H P) : BehindAt H' D kind start rs bs := by
  obtain ⟨kvs, e, ⟨l, a1, a2⟩, b2⟩ := b
  refine ⟨kvs, g.get h e (fun _ z => by cases z), ⟨l, a1, g.lst h a2⟩, fun r hr => ?_⟩
  obtain ⟨l, c1, c2⟩ := b2 r hr
  exact ⟨l, c1, g.lst h c2⟩
/-- the map's roads lead between its places; no name is empty -/
structure RsIn (ps : List Str) (rs : List RoadD) : Prop where
  l60 : rs.length ≤ 60
  goal : ∀ r ∈ rs, r.goal ∈ ps
  ne : ∀ r ∈ rs, r.name ≠ Str.empty
abbrev sRTurns : Stmt := top 37
def RowsAt (H : Hp) (D : Addr) (kind : Str) (rs : List RoadD) (bs : List (Str × Str)) : Prop := ∃ kvs, H D = some (.dK kvs) ∧ kvs.length ≤ 60 ∧ ∀ r ∈ rs, ∃ l, valV kvs (.inr r.name) = some (.ref l) ∧ H l = some (.lst (namesV (nxR kind bs rs r.goal (some r.name))))
def spRTurns (K : PySem.W.Frag) (M P : Addr) : Sp := fun vs H Q _ => ∃ (x : Addr) (kind : Str) (d : Int) (ks ps : List Str) (rs : List RoadD) (bs : List (Str × Str)), vs = [.ref x, .str kind] ∧ MIn K H M P x d ks ps rs bs ∧ RsIn ps rs ∧ kind.length ≤ 1000 ∧ kind ∈ ks ∧ (∀ z ∈ ps, z.length ≤ 1000) ∧
  ∀ H' D, Grew P H H' → H D = none → RowsAt H' D kind rs bs → Q (.ref D) H'
def spTurns (K : PySem.W.Frag) (M P : Addr) : Sp := fun vs H Q _ => ∃ (x : Addr) (kind start : Str) (d : Int) (ks ps : List Str) (rs : List RoadD) (bs : List (Str × Str)), vs = [.ref x, .str kind, .str start] ∧ MIn K H M P x d ks ps rs bs ∧ RsIn ps rs ∧ kind.length ≤ 1000 ∧ kind ∈ ks ∧ start ∈ ps ∧ (∀ z ∈ ps, z.length ≤ 1000) ∧
  ∀ H' D, Grew P H H' → H D = none → BehindAt H' D kind start rs bs → Q (.ref D) H'
theorem nx_none (kind : Str) (bs : List (Str × Str)) (rs : List RoadD) (start : Str) : (rs.filter fun r => decide (r.start = start)).filter (everB kind) = nxR kind bs rs start none := by
  rw [List.filter_filter]
  refine List.filter_congr fun r _ => ?_
  unfold mayB
  rw [Bool.and_true, Bool.and_comm]
theorem nx_some (kind : Str) (bs : List (Str × Str)) (rs : List RoadD) (r0 : RoadD) : (rs.filter fun r => decide (r.start = r0.goal) && !decide ((r0.name, r.name) ∈ bs)).filter (everB kind) = nxR kind bs rs r0.goal (some r0.name) := by
  rw [List.filter_filter]
  refine List.filter_congr fun r _ => ?_
  unfold mayB
  generalize everB kind r = a
  generalize decide (r.start = r0.goal) = b
  show (a && (b && !decide ((r0.name, r.name) ∈ bs))) = (b && (a && !decide ((r0.name, r.name) ∈ bs)))
  generalize (!decide ((r0.name, r.name) ∈ bs)) = c
  cases a <;> cases b <;> cases c <;> rfl
section
variable {Pg : Program} {w : World} {K : PySem.W.Frag} {mg : Str → Option Value} {base : Heap} {C P : Addr}
theorem pi_listK {X : Cx} {l tg : Expr} {tl : TE} {K : PySem.W.Frag} (hK : X.K = K) (hl : PE X l tl) : PI X tg l (iList K tl) := by
  subst hK
  exact pi_list hl
abbrev scIn : Scope := { kind := ScopeKind.function, names := [(Str.ofString ".0", NameKind.local), (Str.ofString "last", NameKind.local), (Str.ofString "chart", NameKind.free), (Str.ofString "usable", NameKind.free)], isGenerator := false, isCoroutine := false }
abbrev nRTurns : List Str := ["chart", "kind", "usable", "last", "name"]
theorem scRTurns : FnScope nRTurns ["chart", "kind"] (defScope sRTurns) := ⟨rfl, rfl, rfl, by decide +kernel, rfl, by decide +kernel, by decide +kernel⟩
theorem ok_rturns {f M U fN fL fE pN : Addr} {fd fdN fdL fdE : FuncData} (F : Fun K "road_turns" "road_turns" sRTurns f fd) (TM : TxtM K M) (pr : PropOf K M "road_names" pN fN) (mL : Meth K M "followers" fL)
    (GN : FnOk Pg w K mg base CX0 1 fN fdN ["self"] (spRNames K M P)) (bN : Binds K fdN ["self"] [])
    (GL : FnOk Pg w K mg base (L2.CX Pg w) 5 fL fdL ["self", "name"] (spFoll K M P)) (bL : Binds K fdL ["self", "name"] [])
    (GE : FnOk Pg w K mg base (L2.CX Pg w) 6 fE fdE ["chart", "kind", "name"] (spEver K M P)) (gE : mg "can_ever_enter" = some (.ref fE)) (kE : PySem.W.keepIn K (.ref fE) = true) (bE : Binds K fdE ["chart", "kind", "name"] []) :
    FnOk Pg w K mg base (L2.CX Pg w) 7 f fd ["chart", "kind"] (spRTurns K M P) := by
  refine F.okX scRTurns (fun vs H Q E h => ?_) (fun cdv A outer s H vs Q E hr h => ?_)
  · obtain ⟨x, kind, d, ks, ps, rs, bs, rfl, _⟩ := h
    rfl
  · obtain ⟨x, kind, d, ks, ps, rs, bs, rfl, hM, hin, hkl, hk, hpl, k⟩ := h
    refine ⟨_, pss_cons (ps_set (i := 2) scRTurns.nd rfl (Or.inr rfl) (pe_dc (own := [("name", 4)]) (g := gName 4) (tt := tYes) rfl scRTurns.nd (pi_tup (pe_prop (pv 0) TM.cl pr GN (hr.mono (by decide)) bN .nil pass0 rfl)) (blkOk_by (N := nRTurns) (sc := defScope sRTurns) (by decide +kernel)) (fun _ _ _ _ _ => pg_name (i := 4) scRTurns.nd rfl (Or.inl rfl)) (fun _ _ _ _ _ => pts_nil)
          (fun _ _ _ _ _ => pv 4) (fun _ _ _ _ _ => pe_call (E := E0) GE hr (by rfl) gE kE bE .nil (passF rfl rfl) (pa_cons (pv 0) (pa_cons (pv 1) (pa_cons (pv 4) pa_nil))))))
      (pss_one (ps_ret (pe_dc (own := [("last", 3)]) (g := gName 3) (tt := tYes) rfl scRTurns.nd (pi_tup (pe_prop (pv 0) TM.cl pr GN (hr.mono (by decide)) bN .nil pass0 rfl)) (blkOk_by (N := nRTurns) (sc := defScope sRTurns) (by decide +kernel)) (fun _ _ _ _ _ => pg_name (i := 3) scRTurns.nd rfl (Or.inl rfl)) (fun _ _ _ _ _ => pts_nil)
          (fun _ _ _ _ _ => pv 3)
          (fun _ _ _ _ _ => pe_lc (own := [("name", 4)]) (g := gName 4) rfl scRTurns.nd (pi_listK (K := K) rfl (pe_meth (pv 0) TM.cl mL GL (hr.mono (by decide)) bL .nil (passF rfl rfl) (pa_cons (pv 3) pa_nil))) (blkOk_by (N := nRTurns) (sc := relS scIn (defScope sRTurns)) (by decide +kernel)) (fun _ _ _ _ _ => pg_name (i := 4) scRTurns.nd rfl (Or.inl rfl))
            (fun _ _ _ _ _ => pts_one (pt_val (pe_dget (u1 hr.units) (pv 2) (pv 4) (fun _ _ => rfl)))) (fun _ _ _ _ _ => pv 4))))), ?_⟩
    obtain ⟨dx, fs, kk, pp, rr, D0, bb, D2, ys, zs, hx, F7⟩ := hM.m
    have hP := hM.t
    have l60 := hin.l60
    have hxg : ∀ {H' : Hp}, Grew P H H' → H' x = some (.ins M dx fs) := fun g => g.get hP hx (fun _ z => by cases z)
    have lnv : (namesV rs).length = rs.length := by unfold namesV; rw [List.length_map, List.length_map]
    have nameNe : ∀ {i j : Nat} {r r' : RoadD}, rs[i]? = some r → rs[j]? = some r' → j ≠ i → ¬ (Sum.inr r'.name : Key) = .inr r.name := fun {i j r r'} hr1 hr' hne z => by
      injection z with z
      obtain ⟨a1, a2⟩ := List.getElem?_eq_some_iff.mp hr'
      obtain ⟨b1, b2⟩ := List.getElem?_eq_some_iff.mp hr1
      rcases Nat.lt_or_gt_of_ne hne with lt | lt
      · refine absurd ?_ (List.pairwise_iff_getElem.mp hM.nd j i (by rw [List.length_map]; exact a1) (by rw [List.length_map]; exact b1) lt)
        rw [List.getElem_map, List.getElem_map, a2, b2]
        exact z
      · refine absurd ?_ (List.pairwise_iff_getElem.mp hM.nd i j (by rw [List.length_map]; exact b1) (by rw [List.length_map]; exact a1) lt)
        rw [List.getElem_map, List.getElem_map, a2, b2]
        exact z.symm
    refine ⟨_, rfl, x, dx, fs, rfl, hx, x, d, ks, ps, rs, bs, rfl, hM, l60, fun H1 t1 g1 nt1 et1 => ?_⟩
    refine ⟨t1, rfl, ⟨_, SqT.of et1⟩, fun U nU => dc_tup (K := K) (a := t1) (xs := namesV rs) (fun i H2 => Grew P H1 H2 ∧ ∃ kvs, H2 U = some (.dK kvs) ∧ kvs.length ≤ i ∧ ∀ j r, j < i → rs[j]? = some r → valV kvs (.inr r.name) = some (.bl (everB kind r)))
      ⟨Grew.new g1.tab nU, [], upd_same, Nat.le_refl _, fun j r h => absurd h (Nat.not_lt_zero _)⟩ (fun i H2 _ p => SqT.of (p.1.tup g1.tab et1)) (fun i y H2 hy p => ?_) (fun H2 p => ?_)⟩
    · obtain ⟨g, kvs, hD, hl, hin2⟩ := p
      obtain ⟨r, hr1, rfl⟩ := namesV_at hy
      have hi := (List.getElem?_eq_some_iff.mp hr1).1
      have g2 := g1.trans g
      refine ⟨rfl, _, rfl, _, rfl, _, rfl, _, rfl, x, kind, d, ks, ps, rs, bs, r, rfl, hkl, hk, hM.grew g2, List.mem_of_getElem? hr1, fun H3 g3 => ?_⟩
      have hD3 := g3.get g2.tab hD (fun _ z => by cases z)
      refine ⟨kvs, .inr r.name, rfl, hD3, by rw [sizeLine_eq]; omega, (g.trans g3).write hD3 (fun _ z => by cases z) nU, _, upd_same, Nat.le_trans (length_putK kvs _ _) (by omega), fun j r' hj hr' => ?_⟩
      rw [valV_put]
      by_cases e : j = i
      · subst e
        rw [hr1] at hr'
        cases hr'
        rw [if_pos rfl]
      · rw [if_neg (nameNe hr1 hr' e)]
        exact hin2 j r' (by omega) hr'
    · obtain ⟨g, kvsU, hU, _, hin2⟩ := p
      rw [lnv] at hin2
      have usable : ∀ {H' : Hp}, Grew P H2 H' → ∀ r ∈ rs, DGet H' U (.str r.name) (some (.bl (everB kind r))) := fun g' r hr => by
        obtain ⟨j, hj, ej⟩ := List.getElem_of_mem hr
        rw [← hin2 j r hj (List.getElem?_eq_some_iff.mpr ⟨hj, ej⟩)]
        exact DGet.k (k := .inr r.name) (g'.get g.tab hU (fun _ z => by cases z))
      have gA := g1.trans g
      refine ⟨_, rfl, x, dx, fs, rfl, hxg gA, x, d, ks, ps, rs, bs, rfl, hM.grew gA, l60, fun H6 t2 g6 nt2 et2 => ?_⟩
      have gA6 := gA.trans g6
      refine ⟨t2, rfl, ⟨_, SqT.of et2⟩, fun D nD => dc_tup (K := K) (a := t2) (xs := namesV rs) (fun i H' => Grew P H6 H' ∧ ∃ kvs, H' D = some (.dK kvs) ∧ kvs.length ≤ i ∧ ∀ j r, j < i → rs[j]? = some r → ∃ l, valV kvs (.inr r.name) = some (.ref l) ∧ H' l = some (.lst (namesV (nxR kind bs rs r.goal (some r.name)))))
        ⟨Grew.new g6.tab nD, [], upd_same, Nat.le_refl _, fun j r h => absurd h (Nat.not_lt_zero _)⟩ (fun i H' _ p => SqT.of (p.1.tup g6.tab et2)) (fun i y H7 hy p => ?_) (fun H7 p => ?_)⟩
      · obtain ⟨g67, kvs, hD7, hlk, hall⟩ := p
        obtain ⟨r, hr1, rfl⟩ := namesV_at hy
        have hri := (List.getElem?_eq_some_iff.mp hr1).1
        have mr := List.mem_of_getElem? hr1
        have g27 := g6.trans g67
        have gH7 := gA.trans g27
        refine ⟨rfl, _, rfl, _, rfl, x, dx, fs, rfl, hxg gH7, F7.f0 _ (by decide +kernel), _, rfl, x, r, d, ks, ps, rs, bs, rfl, mr, hin.goal r mr, hpl _ (hin.goal r mr), hM.grew gH7, l60, fun H8 L2' g8 nL2 eL2 => ?_⟩
        generalize hf2 : rs.filter (fun r' => decide (r'.start = r.goal) && !decide ((r.name, r'.name) ∈ bs)) = fl2 at eL2
        have lf2 : fl2.length ≤ 60 := by rw [← hf2]; exact Nat.le_trans (List.length_filter_le _ _) l60
        have sf2 : ∀ r ∈ fl2, r ∈ rs := fun r hr => by rw [← hf2] at hr; exact (List.mem_filter.mp hr).1
        have g28 := g27.trans g8
        refine ⟨L2', rfl, ⟨_, SqL.of eL2⟩, fun L nL => lc_list (K := K) (a := L2') (xs := namesV fl2) (fun i H4 => Grew P H8 H4 ∧ H4 L = some (.lst (namesV ((fl2.take i).filter (everB kind)))))
          ⟨Grew.new g8.tab nL, upd_same⟩ (fun i H4 _ p => SqL.of (p.1.lst g8.tab eL2)) (fun i y H4 hy p => ?_) (fun H4 p => ?_)⟩
        · obtain ⟨g', hD⟩ := p
          obtain ⟨r', hr', rfl⟩ := namesV_at hy
          have hi := (List.getElem?_eq_some_iff.mp hr').1
          rw [filter_take hr']
          refine ⟨rfl, _, rfl, _, rfl, U, _, rfl, usable (g28.trans g') r' (sf2 r' (List.mem_of_getElem? hr')), _, rfl, ?_⟩
          refine ite2 (fun c => ?_) (fun c => ?_)
          · refine ⟨_, rfl, _, hD, ?_, g'.write hD (fun _ z => by cases z) nL, ?_⟩
            · refine Nat.lt_of_le_of_lt (namesV_len _) (Nat.lt_of_le_of_lt (List.length_filter_le _ _) ?_)
              rw [List.length_take, sizeLine_eq]
              have := lf2
              omega
            · rw [upd_same, if_pos c, namesV_app]; rfl
          · rw [if_neg c]
            exact ⟨g', hD⟩
        · obtain ⟨g', hD⟩ := p
          have ef : (fl2).length = (namesV (fl2)).length := by unfold namesV; rw [List.length_map, List.length_map]
          rw [← ef, List.take_length] at hD
          rw [← hf2, nx_some kind bs] at hD
          have g78 := g8.trans g'
          have g7 := g67
          have hD9 := g78.get (g6.trans g67).tab hD7 (fun _ z => by cases z)
          have neD : ∀ {b : Addr} {xs : List V} {H' : Hp}, H' D = some (.dK kvs) → H' b = some (.lst xs) → b ≠ D := fun e1 e2 z => by rw [z, e1] at e2; cases e2
          refine ⟨kvs, .inr r.name, rfl, hD9, by rw [sizeLine_eq]; omega, (g67.trans g78).write hD9 (fun _ z => by cases z) nD, _, upd_same, Nat.le_trans (length_putK kvs _ _) (by omega), fun j r2 hj hr2 => ?_⟩
          rw [valV_put]
          by_cases e : j = i
          · subst e
            rw [hr1] at hr2
            cases hr2
            rw [if_pos rfl]
            exact ⟨L, rfl, by rw [upd_ne (neD hD9 hD)]; exact hD⟩
          · rw [if_neg (nameNe hr1 hr2 e)]
            obtain ⟨l, c1, c2⟩ := hall j r2 (by omega) hr2
            exact ⟨l, c1, by rw [upd_ne (neD hD7 c2)]; exact g78.lst (g6.trans g67).tab c2⟩
      · obtain ⟨g67, kvs, hD7, hlk, hall⟩ := p
        rw [lnv] at hall hlk
        refine k H7 D (gA6.trans g67) (gA6.free nD) ⟨kvs, hD7, Nat.le_trans hlk l60, fun r hr => ?_⟩
        obtain ⟨j, hj, ej⟩ := List.getElem_of_mem hr
        exact hall j r hj (List.getElem?_eq_some_iff.mpr ⟨hj, ej⟩)
abbrev nTurns : List Str := ["chart", "kind", "start", "behind", "name"]
theorem scTurns : FnScope nTurns ["chart", "kind", "start"] (defScope sTurns) := ⟨rfl, rfl, rfl, by decide +kernel, rfl, by decide +kernel, by decide +kernel⟩
theorem ok_turns {f M U fR fF fE : Addr} {fd fdR fdF fdE : FuncData} {t1 : Tok} (F : Fun K "turns" "turns" sTurns f fd) (TM : TxtM K M) (hno : mg "NO_ROAD" = some (.str Str.empty t1)) (mF : Meth K M "roads_from" fF)
    (GR : FnOk Pg w K mg base (L2.CX Pg w) 7 fR fdR ["chart", "kind"] (spRTurns K M P)) (gR : mg "road_turns" = some (.ref fR)) (kR : PySem.W.keepIn K (.ref fR) = true) (bR : Binds K fdR ["chart", "kind"] [])
    (GF : FnOk Pg w K mg base (L2.CX Pg w) 4 fF fdF ["self", "place"] (spRFrom K M P)) (bF : Binds K fdF ["self", "place"] [])
    (GE : FnOk Pg w K mg base (L2.CX Pg w) 6 fE fdE ["chart", "kind", "name"] (spEver K M P)) (gE : mg "can_ever_enter" = some (.ref fE)) (kE : PySem.W.keepIn K (.ref fE) = true) (bE : Binds K fdE ["chart", "kind", "name"] []) :
    FnOk Pg w K mg base (L2.CX Pg w) 8 f fd ["chart", "kind", "start"] (spTurns K M P) := by
  refine F.okX scTurns (fun vs H Q E h => ?_) (fun cdv A outer s H vs Q E hr h => ?_)
  · obtain ⟨x, kind, start, d, ks, ps, rs, bs, rfl, _⟩ := h
    rfl
  · obtain ⟨x, kind, start, d, ks, ps, rs, bs, rfl, hM, hin, hkl, hk, hst, hpl, k⟩ := h
    refine ⟨_, pss_cons (ps_set (i := 3) scTurns.nd rfl (Or.inl rfl) (pe_call (E := E0) GR hr (by rfl) gR kR bR .nil (passF rfl rfl) (pa_cons (pv 0) (pa_cons (pv 1) pa_nil))))
      (pss_cons (ps_dput (u1 hr.units) (pv 3) (pe_gS hno) (pe_lc (own := [("name", 4)]) (g := gName 4) rfl scTurns.nd (pi_list (pe_meth (pv 0) TM.cl mF GF (hr.mono (by decide)) bF .nil (passF rfl rfl) (pa_cons (pv 2) pa_nil))) (blkOk_by (N := nTurns) (sc := defScope sTurns) (by decide +kernel)) (fun _ _ _ _ _ => pg_name (i := 4) scTurns.nd rfl (Or.inl rfl))
          (fun _ _ _ _ _ => pts_one (pt_val (pe_call (E := E0) GE (hr.mono (by decide)) (by rfl) gE kE bE .nil (passF rfl rfl) (pa_cons (pv 0) (pa_cons (pv 1) (pa_cons (pv 4) pa_nil)))))) (fun _ _ _ _ _ => pv 4)) rfl)
      (pss_one (ps_ret (pv 3)))), ?_⟩
    obtain ⟨dx, fs, kk, pp, rr, D0, bb, D2, ys, zs, hx, F7⟩ := hM.m
    have hP := hM.t
    have l60 := hin.l60
    have hxg : ∀ {H' : Hp}, Grew P H H' → H' x = some (.ins M dx fs) := fun g => g.get hP hx (fun _ z => by cases z)
    refine ⟨_, rfl, _, rfl, x, kind, d, ks, ps, rs, bs, rfl, hM, hin, hkl, hk, hpl, fun H2 D g2D nD hRows => ?_⟩
    obtain ⟨kvs, hD2, hlk, hall⟩ := hRows
    refine ⟨_, rfl, x, dx, fs, rfl, hxg g2D, F7.f0 _ (by decide +kernel), _, rfl, x, start, d, ks, ps, rs, bs, rfl, hpl start hst, hst, hM.grew g2D, l60, fun H3 L1 g3 nL1 eL1 => ?_⟩
    generalize hfl : rs.filter (fun r' => decide (r'.start = start)) = fl at eL1
    have lfl : fl.length ≤ 60 := by rw [← hfl]; exact Nat.le_trans (List.length_filter_le _ _) l60
    have sfl : ∀ r ∈ fl, r ∈ rs := fun r hr => by rw [← hfl] at hr; exact (List.mem_filter.mp hr).1
    have g23 := g2D.trans g3
    refine ⟨L1, rfl, ⟨_, SqL.of eL1⟩, fun L nL => lc_list (K := K) (a := L1) (xs := namesV fl) (fun i H4 => Grew P H3 H4 ∧ H4 L = some (.lst (namesV ((fl.take i).filter (everB kind)))))
      ⟨Grew.new g3.tab nL, upd_same⟩ (fun i H4 _ p => SqL.of (p.1.lst g3.tab eL1)) (fun i y H4 hy p => ?_) (fun H4 p => ?_)⟩
    · obtain ⟨g', hD⟩ := p
      obtain ⟨r', hr', rfl⟩ := namesV_at hy
      have hi := (List.getElem?_eq_some_iff.mp hr').1
      rw [filter_take hr']
      refine ⟨rfl, _, rfl, _, rfl, _, rfl, x, kind, d, ks, ps, rs, bs, r', rfl, hkl, hk, hM.grew (g23.trans g'), sfl r' (List.mem_of_getElem? hr'), fun H5 g5 => ⟨_, rfl, ?_⟩⟩
      have hD5 := g5.get (g23.trans g').tab hD (fun _ z => by cases z)
      refine ite2 (fun c => ?_) (fun c => ?_)
      · refine ⟨_, rfl, _, hD5, ?_, (g'.trans g5).write hD5 (fun _ z => by cases z) nL, ?_⟩
        · refine Nat.lt_of_le_of_lt (namesV_len _) (Nat.lt_of_le_of_lt (List.length_filter_le _ _) ?_)
          rw [List.length_take, sizeLine_eq]
          have := lfl
          omega
        · rw [upd_same, if_pos c, namesV_app]; rfl
      · rw [if_neg c]
        exact ⟨g'.trans g5, hD5⟩
    · obtain ⟨g', hD⟩ := p
      have ef : (fl).length = (namesV (fl)).length := by unfold namesV; rw [List.length_map, List.length_map]
      rw [← ef, List.take_length] at hD
      rw [← hfl, nx_none kind bs] at hD
      have g24 := g3.trans g'
      have hD4 := g24.get g2D.tab hD2 (fun _ z => by cases z)
      have neD : ∀ {b : Addr} {xs : List V} {H' : Hp}, H' D = some (.dK kvs) → H' b = some (.lst xs) → b ≠ D := fun e1 e2 z => by rw [z, e1] at e2; cases e2
      refine ⟨_, rfl, D, _, rfl, DPut.k (k := .inr Str.empty) hD4 (by rw [sizeLine_eq]; omega), ?_⟩
      have gW := (g2D.trans g24).write (o := .dK (putK kvs (.inr Str.empty) (.ref L))) hD4 (fun _ z => by cases z) nD
      refine ⟨_, rfl, k _ D gW nD ⟨_, upd_same, ⟨L, ?_, by rw [upd_ne (neD hD4 hD)]; exact hD⟩, fun r mr => ?_⟩⟩
      · rw [valV_put, if_pos rfl]
      · obtain ⟨l, c1, c2⟩ := hall r mr
        refine ⟨l, ?_, by rw [upd_ne (neD hD2 c2)]; exact g24.lst g2D.tab c2⟩
        rw [valV_put, if_neg (fun z => hin.ne r mr (Sum.inr.inj z))]
        exact c1
end
end W

set_option Elab.async false
set_option linter.all false
set_option maxRecDepth 100000
set_option maxHeartbeats 800000
namespace W
open PySem
/-! ### arrivals: there is one, it is not ahead of the moment, and a later moment leads to no earlier one -/
def ar (d : Int) (r : RoadD) (t : Int) : Int := (arriveD d r t).getD 0
theorem ar_some {d : Int} {r : RoadD} (hd : 1 ≤ d) (ho : HoursOk d r.hours) (hn : r.hours ≠ some []) (t : Int) : arriveD d r t = some (ar d r t) ∧ ∃ e, enterR d r t = some e ∧ ar d r t = e + r.minutes ∧ t ≤ e := by
  unfold ar arriveD enterR
  obtain ⟨nm, st, go, mi, us, hs⟩ := r
  cases hs with
  | none => exact ⟨rfl, t, rfl, rfl, Int.le_refl _⟩
  | some ps =>
    have hf := enterD_first (t := t) hd ho.2
    cases e : enterD d (some ps) t with
    | some v =>
      rw [e] at hf
      obtain ⟨k, k0, _, ev, _⟩ := hf
      exact ⟨rfl, v, rfl, rfl, by omega⟩
    | none =>
      exfalso
      have hne : ps ≠ [] := fun z => hn (by rw [z])
      obtain ⟨o1, o2, o3⟩ := open_last ho.2 hne (by decide)
      rw [e] at hf
      -- the last open minute comes within two days
      have m0 := Int.emod_nonneg t (show d ≠ 0 by omega)
      have m1 := Int.emod_lt_of_pos t (show 0 < d by omega)
      by_cases c : t % d ≤ lastP 0 ps - 1
      · have q := hf (lastP 0 ps - 1 - t % d) (by omega) (by omega)
        have em := mod_base (t := t) (d := d) (j := lastP 0 ps - 1) hd (by omega) (by omega)
        rw [show t + (lastP 0 ps - 1 - t % d) = t - t % d + (lastP 0 ps - 1) by omega, em, o1] at q
        cases q
      · have q := hf (lastP 0 ps - 1 + d - t % d) (by omega) (by omega)
        have em := mod_baseU (t := t) (d := d) (j := lastP 0 ps - 1 + d) hd (by omega) (by omega)
        rw [show t + (lastP 0 ps - 1 + d - t % d) = t - t % d + (lastP 0 ps - 1 + d) by omega, em, show lastP 0 ps - 1 + d - d = lastP 0 ps - 1 by omega, o1] at q
        cases q
theorem ar_mono {d : Int} {r : RoadD} (hd : 1 ≤ d) (ho : HoursOk d r.hours) (hn : r.hours ≠ some []) {t u : Int} (h : t ≤ u) : ar d r t ≤ ar d r u := by
  obtain ⟨_, e, he, ha, hle⟩ := ar_some hd ho hn t
  obtain ⟨_, f, hf, hb, hlf⟩ := ar_some hd ho hn u
  rw [ha, hb]
  have key : e ≤ f := by
    unfold enterR at he hf
    obtain ⟨nm, st, go, mi, us, hs⟩ := r
    cases hs with
    | none =>
      obtain rfl := Option.some.inj he
      obtain rfl := Option.some.inj hf
      exact h
    | some ps =>
      have q1 := enterD_first (t := t) hd ho.2
      have q2 := enterD_first (t := u) hd ho.2
      have he' : enterD d (some ps) t = some e := he
      have hf' : enterD d (some ps) u = some f := hf
      rw [he'] at q1
      rw [hf'] at q2
      obtain ⟨k, k0, k1, ev, _, kn⟩ := q1
      obtain ⟨j, j0, j1, fv, jo, _⟩ := q2
      rcases Int.lt_or_le f e with c | c
      · have q := kn (f - t) (by omega) (by omega)
        rw [show t + (f - t) = u + j by omega, jo] at q
        cases q
      · exact c
  omega
/-! ### the search -/
abbrev Node := Option RoadD
def nmN : Node → Str
  | none => Str.empty
  | some r => r.name
structure Ent where
  n : Node
  t : Int
  pv : Option Node
/-- what stands firm all through the search -/
structure SG (d : Int) (rs : List RoadD) : Prop where
  d1 : 1 ≤ d
  nd : (rs.map (·.name)).Nodup
  ne : ∀ r ∈ rs, r.name ≠ Str.empty
  ho : ∀ r ∈ rs, HoursOk d r.hours
  mi : ∀ r ∈ rs, 1 ≤ r.minutes
section
variable (d : Int) (kind : Str) (bs : List (Str × Str)) (rs : List RoadD) (start : Str) (moment : Int)
def nxN : Node → List RoadD
  | none => nxR kind bs rs start none
  | some r => nxR kind bs rs r.goal (some r.name)
structure SInv (es qs : List Ent) (cur : Ent) (rest : List RoadD) : Prop where
  root : (⟨none, moment, none⟩ : Ent) ∈ es
  nd : (es.map (·.n)).Nodup
  mem : ∀ e ∈ es, ∀ r, e.n = some r → r ∈ rs
  rt : ∀ e ∈ es, e.n = none → e.t = moment ∧ e.pv = none
  sub : ∀ q ∈ qs, q ∈ es
  qn : (qs.map (·.n)).Nodup
  lo : ∀ e ∈ es, e ∉ qs → e.t ≤ cur.t
  hi : ∀ q ∈ qs, cur.t ≤ q.t
  cd : rest ≠ [] → cur ∈ es ∧ cur ∉ qs ∧ ∀ r ∈ rest, r ∈ nxN kind bs rs start cur.n
  lnk : ∀ e ∈ es, ∀ r, e.n = some r → ∃ p ∈ es, p ∉ qs ∧ e.pv = some p.n ∧ r ∈ nxN kind bs rs start p.n ∧ e.t = ar d r p.t
  ge : ∀ e ∈ es, moment ≤ e.t
  cls : ∀ p ∈ es, p ∉ qs → ∀ r ∈ nxN kind bs rs start p.n, (p = cur ∧ r ∈ rest) ∨ ∃ e ∈ es, e.n = some r ∧ e.t ≤ ar d r p.t
end
section
variable {d : Int} {kind : Str} {bs : List (Str × Str)} {rs : List RoadD} {start : Str} {moment : Int} {es qs : List Ent} {cur : Ent} {rest : List RoadD}
theorem nx_mem {p : Node} {r : RoadD} (h : r ∈ nxN kind bs rs start p) : r ∈ rs ∧ everB kind r = true := by
  have go : ∀ {pl : Str} {b : Option Str}, r ∈ nxR kind bs rs pl b → r ∈ rs ∧ everB kind r = true := fun h => by
    obtain ⟨h1, h2⟩ := List.mem_filter.mp h
    unfold mayB at h2
    simp only [Bool.and_eq_true] at h2
    exact ⟨h1, h2.2.1⟩
  cases p with
  | none => exact go h
  | some r0 => exact go h
theorem ever_hours {kind : Str} {r : RoadD} (h : everB kind r = true) : r.hours ≠ some [] := by
  unfold everB at h
  simp only [Bool.and_eq_true, Bool.not_eq_true', decide_eq_false_iff_not] at h
  exact h.2
theorem ent_ext (nd : (es.map (·.n)).Nodup) {a b : Ent} (ha : a ∈ es) (hb : b ∈ es) (e : a.n = b.n) : a = b := by
  induction es with
  | nil => cases ha
  | cons x l ih =>
    have q := List.nodup_cons.mp nd
    rcases List.mem_cons.mp ha with h | h <;> rcases List.mem_cons.mp hb with h' | h'
    · rw [h, h']
    · exact absurd (List.mem_map.mpr ⟨b, h', by rw [← e, h]⟩) q.1
    · exact absurd (List.mem_map.mpr ⟨a, h, by rw [e, h']⟩) q.1
    · exact ih q.2 h h'
theorem SInv.init : SInv d kind bs rs start moment [⟨none, moment, none⟩] [⟨none, moment, none⟩] ⟨none, moment, none⟩ [] := by
  refine ⟨List.mem_singleton.mpr rfl, List.nodup_cons.mpr ⟨by simp, List.nodup_nil⟩, fun e he r h => ?_, fun e he _ => ?_, fun q hq => hq, List.nodup_cons.mpr ⟨by simp, List.nodup_nil⟩, fun e he h => absurd he h, fun q hq => ?_, fun h => absurd rfl h, fun e he r h => ?_, fun e he => ?_, fun p hp h => absurd hp h⟩
  · rw [List.mem_singleton.mp he] at h; cases h
  · rw [List.mem_singleton.mp he]; exact ⟨rfl, rfl⟩
  · rw [List.mem_singleton.mp hq]; exact Int.le_refl _
  · rw [List.mem_singleton.mp he] at h; cases h
  · rw [List.mem_singleton.mp he]; exact Int.le_refl _
theorem SInv.pop (I : SInv d kind bs rs start moment es qs cur []) {q : Ent} {qs' : List Ent} (hp : (q :: qs').Perm qs) (hm : ∀ j ∈ qs, q.t ≤ j.t) : SInv d kind bs rs start moment es qs' q (nxN kind bs rs start q.n) := by
  have hq : q ∈ qs := hp.mem_iff.mp List.mem_cons_self
  have nd' : ((q :: qs').map (·.n)).Nodup := (hp.map _).nodup_iff.mpr I.qn
  have nq : q ∉ qs' := fun h => (List.nodup_cons.mp nd').1 (List.mem_map.mpr ⟨q, h, rfl⟩)
  have old : ∀ e, e ∉ qs' → e ∉ qs ∨ e = q := fun e h => by
    by_cases c : e ∈ qs
    · rcases List.mem_cons.mp (hp.mem_iff.mpr c) with z | z
      · exact .inr z
      · exact absurd z h
    · exact .inl c
  have sub' : ∀ e ∈ qs', e ∈ qs := fun e h => hp.mem_iff.mp (List.mem_cons_of_mem _ h)
  refine ⟨I.root, I.nd, I.mem, I.rt, fun e h => I.sub e (sub' e h), (List.nodup_cons.mp nd').2, fun e he h => ?_, fun e h => hm e (sub' e h), fun _ => ⟨I.sub q hq, nq, fun r h => h⟩, fun e he r h => ?_, I.ge, fun p hp' h r hr => ?_⟩
  · rcases old e h with z | z
    · exact Int.le_trans (I.lo e he z) (I.hi q hq)
    · rw [z]; exact Int.le_refl _
  · obtain ⟨p, a1, a2, a3⟩ := I.lnk e he r h
    exact ⟨p, a1, fun z => a2 (sub' p z), a3⟩
  · rcases old p h with z | z
    · rcases I.cls p hp' z r hr with ⟨_, c⟩ | c
      · cases c
      · exact .inr c
    · subst z
      exact .inl ⟨rfl, hr⟩
theorem SInv.skip (G : SG d rs) {r : RoadD} (I : SInv d kind bs rs start moment es qs cur (r :: rest)) (hin : ∃ e ∈ es, e.n = some r) : SInv d kind bs rs start moment es qs cur rest := by
  obtain ⟨hc1, hc2, hc3⟩ := I.cd (by simp)
  refine ⟨I.root, I.nd, I.mem, I.rt, I.sub, I.qn, I.lo, I.hi, fun _ => ⟨hc1, hc2, fun r' h => hc3 r' (List.mem_cons_of_mem _ h)⟩, I.lnk, I.ge, fun p hp h r' hr => ?_⟩
  rcases I.cls p hp h r' hr with ⟨e, c⟩ | c
  · rcases List.mem_cons.mp c with z | z
    · subst z e
      obtain ⟨x, hx, xn⟩ := hin
      obtain ⟨p', a1, a2, _, a4, a5⟩ := I.lnk x hx r' xn
      obtain ⟨m1, m2⟩ := nx_mem a4
      refine .inr ⟨x, hx, xn, ?_⟩
      rw [a5]
      exact ar_mono G.d1 (G.ho r' m1) (ever_hours m2) (I.lo p' a1 a2)
    · exact .inl ⟨e, z⟩
  · exact .inr c
theorem SInv.add (G : SG d rs) {r : RoadD} (I : SInv d kind bs rs start moment es qs cur (r :: rest)) (hno : ∀ e ∈ es, e.n ≠ some r) {qs' : List Ent} (hq : qs'.Perm (qs ++ [⟨some r, ar d r cur.t, some cur.n⟩])) :
    SInv d kind bs rs start moment (es ++ [⟨some r, ar d r cur.t, some cur.n⟩]) qs' cur rest := by
  obtain ⟨hc1, hc2, hc3⟩ := I.cd (by simp)
  have hrn := hc3 r List.mem_cons_self
  obtain ⟨m1, m2⟩ := nx_mem hrn
  obtain ⟨_, e0, _, ea, ele⟩ := ar_some G.d1 (G.ho r m1) (ever_hours m2) cur.t
  have mi := G.mi r m1
  generalize hx : (⟨some r, ar d r cur.t, some cur.n⟩ : Ent) = x at hq
  have xn : x.n = some r := by rw [← hx]
  have xt : x.t = ar d r cur.t := by rw [← hx]
  have xp : x.pv = some cur.n := by rw [← hx]
  have hxq : x ∈ qs' := hq.mem_iff.mpr (List.mem_append_right _ (List.mem_singleton.mpr rfl))
  have out : ∀ e ∈ es ++ [x], e ∉ qs' → e ∈ es ∧ e ∉ qs := fun e he h => by
    rcases List.mem_append.mp he with z | z
    · exact ⟨z, fun w => h (hq.mem_iff.mpr (List.mem_append_left _ w))⟩
    · rw [List.mem_singleton.mp z] at h
      exact absurd hxq h
  have out2 : ∀ e ∈ es, e ∉ qs → e ∉ qs' := fun e he h z => by
    rcases List.mem_append.mp (hq.mem_iff.mp z) with w | w
    · exact h w
    · rw [List.mem_singleton.mp w] at he
      exact hno x he xn
  refine ⟨List.mem_append_left _ I.root, ?_, fun e he r' h => ?_, fun e he h => ?_, fun e h => ?_, ?_, fun e he h => ?_, fun e h => ?_, fun _ => ⟨List.mem_append_left _ hc1, out2 cur hc1 hc2, fun r' h => hc3 r' (List.mem_cons_of_mem _ h)⟩, fun e he r' h => ?_, fun e he => ?_, fun p hp h r' hr => ?_⟩
  · rw [List.map_append, List.nodup_append]
    refine ⟨I.nd, List.nodup_cons.mpr ⟨by simp, List.nodup_nil⟩, fun a ha b hb e => ?_⟩
    obtain ⟨y, hy, rfl⟩ := List.mem_map.mp ha
    rw [List.mem_singleton.mp hb] at e
    exact hno y hy (e.trans xn)
  · rcases List.mem_append.mp he with z | z
    · exact I.mem e z r' h
    · rw [List.mem_singleton.mp z, xn] at h
      rw [← Option.some.inj h]; exact m1
  · rcases List.mem_append.mp he with z | z
    · exact I.rt e z h
    · rw [List.mem_singleton.mp z, xn] at h
      cases h
  · rcases List.mem_append.mp (hq.mem_iff.mp h) with z | z
    · exact List.mem_append_left _ (I.sub e z)
    · exact List.mem_append_right _ z
  · refine (hq.map _).nodup_iff.mpr ?_
    rw [List.map_append, List.nodup_append]
    refine ⟨I.qn, List.nodup_cons.mpr ⟨by simp, List.nodup_nil⟩, fun a ha b hb e => ?_⟩
    obtain ⟨y, hy, rfl⟩ := List.mem_map.mp ha
    rw [List.mem_singleton.mp hb] at e
    exact hno y (I.sub y hy) (e.trans xn)
  · obtain ⟨a1, a2⟩ := out e he h
    exact I.lo e a1 a2
  · rcases List.mem_append.mp (hq.mem_iff.mp h) with z | z
    · exact I.hi e z
    · rw [List.mem_singleton.mp z, xt]; omega
  · rcases List.mem_append.mp he with z | z
    · obtain ⟨p, a1, a2, a3⟩ := I.lnk e z r' h
      exact ⟨p, List.mem_append_left _ a1, out2 p a1 a2, a3⟩
    · rw [List.mem_singleton.mp z] at h ⊢
      rw [xn] at h
      obtain rfl := Option.some.inj h
      exact ⟨cur, List.mem_append_left _ hc1, out2 cur hc1 hc2, xp, hrn, xt⟩
  · rcases List.mem_append.mp he with z | z
    · exact I.ge e z
    · have := I.ge cur hc1
      rw [List.mem_singleton.mp z, xt]; omega
  · obtain ⟨a1, a2⟩ := out p hp h
    rcases I.cls p a1 a2 r' hr with ⟨e, c⟩ | ⟨y, y1, y2⟩
    · rcases List.mem_cons.mp c with z | z
      · subst z e
        exact .inr ⟨x, List.mem_append_right _ (List.mem_singleton.mpr rfl), xn, by rw [xt]; exact Int.le_refl _⟩
      · exact .inl ⟨e, z⟩
    · exact .inr ⟨y, List.mem_append_left _ y1, y2⟩
/-- what the search has found -/
structure Sol (d : Int) (kind : Str) (bs : List (Str × Str)) (rs : List RoadD) (start : Str) (moment : Int) (es : List Ent) : Prop where
  root : (⟨none, moment, none⟩ : Ent) ∈ es
  nd : (es.map (·.n)).Nodup
  mem : ∀ e ∈ es, ∀ r, e.n = some r → r ∈ rs
  rt : ∀ e ∈ es, e.n = none → e.t = moment ∧ e.pv = none
  lnk : ∀ e ∈ es, ∀ r, e.n = some r → ∃ p ∈ es, e.pv = some p.n ∧ r ∈ nxN kind bs rs start p.n ∧ e.t = ar d r p.t
  ge : ∀ e ∈ es, moment ≤ e.t
  cls : ∀ p ∈ es, ∀ r ∈ nxN kind bs rs start p.n, ∃ e ∈ es, e.n = some r ∧ e.t ≤ ar d r p.t
theorem SInv.done (I : SInv d kind bs rs start moment es [] cur []) : Sol d kind bs rs start moment es := by
  refine ⟨I.root, I.nd, I.mem, I.rt, fun e he r h => ?_, I.ge, fun p hp r hr => ?_⟩
  · obtain ⟨p, a1, _, a3⟩ := I.lnk e he r h
    exact ⟨p, a1, a3⟩
  · rcases I.cls p hp (by simp) r hr with ⟨_, c⟩ | c
    · cases c
    · exact c
theorem nodup_sub_len {α : Type} : ∀ {l m : List α}, l.Nodup → (∀ x ∈ l, x ∈ m) → l.length ≤ m.length
  | [], _, _, _ => Nat.zero_le _
  | a :: l, m, nd, h => by
    obtain ⟨s, t, rfl⟩ := List.append_of_mem (h a List.mem_cons_self)
    have q := List.nodup_cons.mp nd
    have := nodup_sub_len (l := l) (m := s ++ t) q.2 fun x hx => by
      rcases List.mem_append.mp (h x (List.mem_cons_of_mem _ hx)) with z | z
      · exact List.mem_append_left _ z
      · rcases List.mem_cons.mp z with w | w
        · exact absurd (w ▸ hx) q.1
        · exact List.mem_append_right _ w
    simp only [List.length_append, List.length_cons] at this ⊢
    omega
/-- there are no more entries than roads, and the one of the start -/
theorem SInv.count (G : SG d rs) (I : SInv d kind bs rs start moment es qs cur rest) : es.length ≤ rs.length + 1 := by
  have h : (es.map (·.n)).length ≤ (none :: rs.map some : List Node).length := by
    refine nodup_sub_len I.nd fun n hn => ?_
    obtain ⟨e, he, rfl⟩ := List.mem_map.mp hn
    cases c : e.n with
    | none => exact List.mem_cons_self
    | some r => exact List.mem_cons_of_mem _ (List.mem_map.mpr ⟨r, I.mem e he r c, rfl⟩)
  simp only [List.length_map, List.length_cons] at h
  exact h
theorem SInv.qlen (I : SInv d kind bs rs start moment es qs cur rest) : qs.length ≤ es.length := nodup_sub_len (List.Pairwise.of_map _ (fun a b h e => h (by rw [e])) I.qn) I.sub
theorem perm_map_cons {α β : Type} {f : α → β} {k : β} {ks : List β} {qs : List α} (h : (k :: ks).Perm (qs.map f)) : ∃ q qs', f q = k ∧ (q :: qs').Perm qs ∧ ks.Perm (qs'.map f) := by
  obtain ⟨q, hq, rfl⟩ := List.mem_map.mp (h.mem_iff.mp List.mem_cons_self)
  obtain ⟨a, b, rfl⟩ := List.append_of_mem hq
  have p : (q :: (a ++ b)).Perm (a ++ q :: b) := List.perm_middle.symm
  refine ⟨q, a ++ b, rfl, p, ?_⟩
  have h2 := h.trans (p.map f).symm
  exact h2.cons_inv
theorem Sol.count (S : Sol d kind bs rs start moment es) : es.length ≤ rs.length + 1 := by
  have h : (es.map (·.n)).length ≤ (none :: rs.map some : List Node).length := by
    refine nodup_sub_len S.nd fun n hn => ?_
    obtain ⟨e, he, rfl⟩ := List.mem_map.mp hn
    cases c : e.n with
    | none => exact List.mem_cons_self
    | some r => exact List.mem_cons_of_mem _ (List.mem_map.mpr ⟨r, S.mem e he r c, rfl⟩)
  simp only [List.length_map, List.length_cons] at h
  exact h
end
end W

set_option Elab.async false
set_option linter.all false
set_option maxRecDepth 100000
set_option maxHeartbeats 2000000
namespace W
open PySem PySem.Spec PyProof.Rows L2 GxR MyG MyS
/-! ### spread -/
abbrev sSpread : Stmt := top 39
abbrev nSpread : List Str := ["first", "steps", "before", "waiting", "last", "further"]
theorem scSpread : FnScope nSpread ["first", "steps"] (defScope sSpread) := ⟨rfl, rfl, rfl, by decide +kernel, rfl, by decide +kernel, by decide +kernel⟩
def optZ : Option Str → V
  | none => .non
  | some z => .str z
/-- what was met, with what stood before it -/
abbrev Met := List (Str × Option Str)
def bfOf (es : Met) : List (Key × V) := es.map fun e => ((Sum.inr e.1 : Key), optZ e.2)
def Sub (H H' : Hp) : Prop := ∀ b o, H b = some o → H' b = some o
theorem Sub.refl (H : Hp) : Sub H H := fun _ _ e => e
theorem Sub.trans {H H1 H2 : Hp} (a : Sub H H1) (b : Sub H1 H2) : Sub H H2 := fun c o e => b c o (a c o e)
theorem Sub.new {H : Hp} {a : Addr} {o : HO} (n : H a = none) : Sub H (L2.upd H a o) := fun b u e => by rw [upd_ne (ne_of_none e n)]; exact e
theorem Sub.put {H H1 : Hp} {a : Addr} {o : HO} (s : Sub H H1) (n : H1 a = none) : Sub H (L2.upd H1 a o) := s.trans (Sub.new n)
theorem Sub.write {H H1 : Hp} {a : Addr} {o : HO} (s : Sub H H1) (n : H a = none) : Sub H (L2.upd H1 a o) := fun b u e => by rw [upd_ne (ne_of_none e n)]; exact s b u e
theorem Sub.free {H H1 : Hp} (s : Sub H H1) {a : Addr} (n : H1 a = none) : H a = none := by
  cases c : H a with
  | none => rfl
  | some o => rw [s a o c] at n; cases n
theorem val_none {y : Str} : ∀ {es : Met}, y ∉ es.map (·.1) → valV (bfOf es) (.inr y) = none
  | [], _ => rfl
  | e :: es, h => by
    rw [List.map_cons, List.mem_cons, not_or] at h
    have n : (Sum.inr e.1 : Key) ≠ .inr y := fun z => h.1 (Sum.inr.inj z).symm
    have q := val_none h.2
    unfold valV bfOf at q ⊢
    rw [List.map_cons, List.find?_cons_of_neg (by simpa using n)]
    exact q
theorem val_some {y : Str} : ∀ {es : Met}, y ∈ es.map (·.1) → ∃ p, valV (bfOf es) (.inr y) = some (optZ p)
  | [], h => absurd h (by simp)
  | e :: es, h => by
    by_cases c : e.1 = y
    · exact ⟨e.2, by rw [show bfOf (e :: es) = ((Sum.inr e.1 : Key), optZ e.2) :: bfOf es from rfl]; exact valV_pos (by rw [c])⟩
    · obtain ⟨p, q⟩ := val_some (es := es) ((List.mem_cons.mp h).resolve_left fun z => c z.symm)
      refine ⟨p, ?_⟩
      have n : (Sum.inr e.1 : Key) ≠ .inr y := fun z => c (Sum.inr.inj z)
      unfold valV bfOf at q ⊢
      rw [List.map_cons, List.find?_cons_of_neg (by simpa using n)]
      exact q
theorem put_new {y : Str} {p : Option Str} {es : Met} (h : y ∉ es.map (·.1)) : putK (bfOf es) (.inr y) (optZ p) = bfOf (es ++ [(y, p)]) := by
  unfold putK
  rw [if_neg]
  · unfold bfOf; rw [List.map_append]; rfl
  · intro z
    obtain ⟨kv, h1, h2⟩ := List.any_eq_true.mp z
    obtain ⟨e, he, rfl⟩ := List.mem_map.mp h1
    exact h (List.mem_map.mpr ⟨e, he, Sum.inr.inj (of_decide_eq_true h2)⟩)
structure SIn (z0 : Str) (nxt : Str → List Str) (U : List Str) (es : Met) (ws : List Str) (op : Str → Prop) : Prop where
  hd : ∃ r, es = (z0, none) :: r
  nd : (es.map (·.1)).Nodup
  par : ∀ i e, es[i]? = some e → 0 < i → ∃ p, e.2 = some p ∧ p ∈ (es.take i).map (·.1) ∧ e.1 ∈ nxt p
  sub : ∀ z ∈ es.map (·.1), z ∈ z0 :: U
  wt : ∀ z ∈ ws, z ∈ es.map (·.1)
  wl : ws.length ≤ es.length
  cl : ∀ z ∈ es.map (·.1), z ∉ ws → ¬ op z → ∀ y ∈ nxt z, y ∈ es.map (·.1)
section
variable {z0 : Str} {nxt : Str → List Str} {U : List Str} {es : Met} {ws : List Str} {op : Str → Prop}
theorem SIn.len (I : SIn z0 nxt U es ws op) : es.length ≤ U.length + 1 := by
  have := nodup_sub_len I.nd I.sub
  simpa using this
theorem SIn.init : SIn z0 nxt U [(z0, none)] [z0] fun _ => False := by
  refine ⟨⟨[], rfl⟩, by simp, fun i e h hi => ?_, fun z hz => ?_, fun z hz => hz, Nat.le_refl _, fun z hz hn _ => absurd hz hn⟩
  · have := (List.getElem?_eq_some_iff.mp h).1
    simp at this
    omega
  · rw [List.mem_singleton.mp (show z ∈ [z0] from hz)]; exact List.mem_cons_self
theorem SIn.step (I : SIn z0 nxt U es ws op) {y p : Str} (hn : y ∉ es.map (·.1)) (hp : p ∈ es.map (·.1)) (hy : y ∈ nxt p) (hU : y ∈ U) : SIn z0 nxt U (es ++ [(y, some p)]) (ws ++ [y]) op := by
  obtain ⟨r, hr⟩ := I.hd
  have mm : ∀ z, z ∈ (es ++ [(y, some p)]).map (·.1) ↔ z ∈ es.map (·.1) ∨ z = y := fun z => by rw [List.map_append, List.mem_append]; simp
  refine ⟨⟨r ++ [(y, some p)], by rw [hr]; rfl⟩, ?_, fun i e h hi => ?_, fun z hz => ?_, fun z hz => ?_, by rw [List.length_append, List.length_append]; exact Nat.add_le_add_right I.wl 1, fun z hz hw ho x hx => ?_⟩
  · rw [List.map_append, List.nodup_append]
    exact ⟨I.nd, by simp, fun a ha b hb e => hn (by rw [← List.mem_singleton.mp (show b ∈ [y] from hb), ← e]; exact ha)⟩
  · by_cases hl : i < es.length
    · rw [List.getElem?_append_left hl] at h
      rw [List.take_append_of_le_length (Nat.le_of_lt hl)]
      exact I.par i e h hi
    · rw [List.getElem?_append_right (by omega)] at h
      have hi2 := (List.getElem?_eq_some_iff.mp h).1
      have e0 : i = es.length := by simp at hi2; omega
      rw [e0, Nat.sub_self] at h
      cases h
      exact ⟨p, rfl, by rw [e0, List.take_left']; exact hp; rfl, hy⟩
  · rcases (mm z).mp hz with q | q
    · exact I.sub z q
    · rw [q]; exact List.mem_cons_of_mem _ hU
  · rcases List.mem_append.mp hz with q | q
    · exact (mm z).mpr (.inl (I.wt z q))
    · exact (mm z).mpr (.inr (List.mem_singleton.mp q))
  · rcases (mm z).mp hz with q | q
    · exact (mm x).mpr (.inl (I.cl z q (fun k => hw (List.mem_append_left _ k)) ho x hx))
    · exact absurd (List.mem_append_right ws (List.mem_singleton.mpr q)) hw
theorem SIn.pop (I : SIn z0 nxt U es ws fun _ => False) {last : Str} {ws' : List Str} (e : ws = ws' ++ [last]) : SIn z0 nxt U es ws' (· = last) := by
  refine ⟨I.hd, I.nd, I.par, I.sub, fun z hz => I.wt z (by rw [e]; exact List.mem_append_left _ hz), by have := I.wl; rw [e, List.length_append] at this; omega, fun z hz hw ho => I.cl z hz (fun k => ?_) (fun h => h)⟩
  rw [e] at k
  rcases List.mem_append.mp k with q | q
  · exact hw q
  · exact ho (List.mem_singleton.mp q)
theorem SIn.shut {last : Str} (I : SIn z0 nxt U es ws (· = last)) (h : ∀ y ∈ nxt last, y ∈ es.map (·.1)) : SIn z0 nxt U es ws fun _ => False :=
  ⟨I.hd, I.nd, I.par, I.sub, I.wt, I.wl, fun z hz hw _ => by
    by_cases c : z = last
    · rw [c]; exact h
    · exact I.cl z hz hw c⟩
/-- what spread gives -/
structure Spread (z0 : Str) (nxt : Str → List Str) (es : Met) : Prop where
  hd : ∃ r, es = (z0, none) :: r
  nd : (es.map (·.1)).Nodup
  par : ∀ i e, es[i]? = some e → 0 < i → ∃ p, e.2 = some p ∧ p ∈ (es.take i).map (·.1) ∧ e.1 ∈ nxt p
  cl : ∀ z ∈ es.map (·.1), ∀ y ∈ nxt z, y ∈ es.map (·.1)
theorem SIn.done (I : SIn z0 nxt U es [] fun _ => False) : Spread z0 nxt es := ⟨I.hd, I.nd, I.par, fun z hz => I.cl z hz (by simp) fun h => h⟩
end
/-- the lambda's reading tl gives, at the texts that can be met, a list of the texts behind -/
def spTT : V → (V → Hp → VK → Prop) → Hp → VK → Prop := fun v0 tl H Q => ∃ (z0 : Str) (nxt : Str → List Str) (U : List Str), v0 = .str z0 ∧ U.length ≤ 1000 ∧ (∀ z ∈ z0 :: U, ∀ y ∈ nxt z, y ∈ U) ∧
  (∀ z ∈ z0 :: U, ∀ H' Q', Sub H H' → (∀ l H'', Sub H' H'' → (H l = some (.lst ((nxt z).map V.str)) ∨ H' l = none) → H'' l = some (.lst ((nxt z).map V.str)) → Q' (.ref l) H'') → tl (.str z) H' Q') ∧
  ∀ D H' es, Sub H H' → H D = none → H' D = some (.dK (bfOf es)) → Spread z0 nxt es → Q (.ref D) H'
section
variable {X : Cx}
theorem spread_gives {kk : Nat} {g : Addr} {cdg : Value} {q : Str} : SprK.GivesTo1 X kk nSpread "spread" (defScope sSpread) g cdg (defBody sSpread) 1 "steps" q spTT := by
  intro f c' s H v0 Q tl act hc hr h
  obtain ⟨z0, nxt, U, rfl, hU, hcl, htl, hQ⟩ := h
  have hu := u1 hr.units
  refine ⟨_, pss_cons (ps_set (i := 2) scSpread.nd rfl (Or.inl rfl) (pe_disp (pps_cons (pv 0) pe_non pps_nil) rfl rfl (by simp) (by decide)))
    (pss_cons (ps_set (i := 3) scSpread.nd rfl (Or.inl rfl) (pe_lst (pa_cons (pv 0) pa_nil)))
    (pss_cons (ps_while PassesOwn.never (pt_truth (pv 3) (by intro _; rfl))
      (pss_cons (ps_set (i := 4) scSpread.nd rfl (Or.inl rfl) (pe_bm0 PySem.F.plainAttrs_list PySem.F.slot_list_pop PySem.F.type_list_pop mt_pop (pv 3)))
      (pss_one (ps_for PassesOwn.never rfl (pi_list (act _ _ _ _ rfl (pa_cons (pv 4) pa_nil))) (pg_name (i := 5) scSpread.nd rfl (Or.inl rfl))
        (pss_one (ps_if (pt_cmp (pc_dnotin hu (pv 5) (pv 2)))
          (pss_cons (ps_dput hu (pv 2) (pv 5) (pv 4) rfl)
          (pss_one (ps_expr (pe_bm PySem.F.plainAttrs_list PySem.F.slot_list_append PySem.F.type_list_append mt_append (pv 3) (pa_cons (pv 5) pa_nil)))))
          pss_nil))))))
    (pss_one (ps_ret (pv 2))))), ?_⟩
  have hlu : ∀ {n : Nat}, n ≤ U.length + 1 → n < sizeLine := fun h => by rw [sizeLine_eq]; omega
  -- before
  refine fun D nD => ⟨_, rfl, upd_same, [((Sum.inr z0 : Key), V.non)], rfl, by show 1 ≤ 15; decide, ?_⟩
  have sa : Sub H (L2.upd (L2.upd H D (.dK [])) D (.dK (mergeK [] [((Sum.inr z0 : Key), V.non)]))) := ((Sub.refl H).put nD).write nD
  have hDa : L2.upd (L2.upd H D (.dK [])) D (.dK (mergeK [] [((Sum.inr z0 : Key), V.non)])) D = some (.dK (bfOf [(z0, none)])) := by rw [upd_same]; rfl
  generalize L2.upd (L2.upd H D (.dK [])) D (.dK (mergeK [] [((Sum.inr z0 : Key), V.non)])) = Ha at sa hDa ⊢
  -- waiting
  refine ⟨_, rfl, by show 1 ≤ sizeLine; decide, fun L nL => ?_⟩
  have nLH := sa.free nL
  have hDL : D ≠ L := fun e => by rw [e, nL] at hDa; cases hDa
  have sb : Sub H (L2.upd Ha L (.lst [.str z0])) := sa.put nL
  have hDb : L2.upd Ha L (.lst [.str z0]) D = some (.dK (bfOf [(z0, none)])) := by rw [upd_ne hDL]; exact hDa
  have hLb : L2.upd Ha L (.lst [.str z0]) L = some (.lst [.str z0]) := upd_same
  generalize L2.upd Ha L (.lst [.str z0]) = Hb at sb hDb hLb ⊢
  refine ⟨fun n σ H' => ∃ es ws v4 v5, σ = [some (.str z0), some (.ref f), some (.ref D), some (.ref L), v4, v5] ∧ Sub H H' ∧ H' D = some (.dK (bfOf es)) ∧ H' L = some (.lst (ws.map V.str)) ∧ SIn z0 nxt U es ws (fun _ => False) ∧ n = 2 * (U.length + 1 - es.length) + ws.length,
    ⟨_, [(z0, none)], [z0], none, none, rfl, sb, hDb, hLb, SIn.init, rfl⟩, ?_⟩
  rintro n σ H2 ⟨es, ws, v4, v5, rfl, s2, hD, hL, I, hn⟩
  refine ⟨_, rfl, _, .inl ⟨_, SqL.of hL, rfl⟩, ?_⟩
  refine ite2 (fun hne => ?_) (fun he => ?_)
  · refine ⟨_, fun _ _ h => h, ?_⟩
    obtain ⟨ws', last, ew⟩ : ∃ ws' last, ws = ws' ++ [last] := by
      have wne : ws ≠ [] := fun z => by rw [z] at hne; cases hne
      exact ⟨ws.dropLast, ws.getLast wne, (List.dropLast_concat_getLast wne).symm⟩
    have eL : (ws.map V.str).dropLast = ws'.map V.str := by rw [ew, List.map_append]; simp
    refine ⟨_, rfl, .inl ⟨rfl, _, SqL.of hL⟩, L, _, .str last, rfl, rfl, hL, by rw [ew, List.map_append]; simp, ?_⟩
    rw [eL]
    have s3 : Sub H (L2.upd H2 L (.lst (ws'.map V.str))) := s2.write nLH
    have hD3 : L2.upd H2 L (.lst (ws'.map V.str)) D = some (.dK (bfOf es)) := by rw [upd_ne hDL]; exact hD
    have hL3 : L2.upd H2 L (.lst (ws'.map V.str)) L = some (.lst (ws'.map V.str)) := upd_same
    generalize L2.upd H2 L (.lst (ws'.map V.str)) = H3 at s3 hD3 hL3 ⊢
    have hlast : last ∈ es.map (·.1) := I.wt last (by rw [ew]; exact List.mem_append_right _ List.mem_cons_self)
    have hlU := I.sub last hlast
    have hwl : ws.length = ws'.length + 1 := by rw [ew]; simp
    refine ⟨rfl, _, rfl, _, rfl, s3 _ _ hc, htl last hlU H3 _ s3 fun l H4 s4 hl hl4 => ?_⟩
    have nDl : D ≠ l := fun e => by
      rcases hl with z | z
      · rw [← e, nD] at z; cases z
      · rw [← e, hD3] at z; cases z
    have nLl : L ≠ l := fun e => by
      rcases hl with z | z
      · rw [← e, nLH] at z; cases z
      · rw [← e, hL3] at z; cases z
    refine ⟨l, rfl, ⟨_, SqL.of hl4⟩, for_list (K := X.K) (a := l) (xs := (nxt last).map V.str)
      (fun i σ H' => ∃ es ws v5, σ = [some (.str z0), some (.ref f), some (.ref D), some (.ref L), some (.str last), v5] ∧ Sub H H' ∧ H' D = some (.dK (bfOf es)) ∧ H' L = some (.lst (ws.map V.str)) ∧ H' l = some (.lst ((nxt last).map V.str)) ∧ SIn z0 nxt U es ws (· = last) ∧
        (∀ y ∈ (nxt last).take i, y ∈ es.map (·.1)) ∧ last ∈ es.map (·.1) ∧ 2 * (U.length + 1 - es.length) + ws.length < n)
      ⟨es, ws', v5, rfl, s3.trans s4, s4 _ _ hD3, s4 _ _ hL3, hl4, I.pop ew, fun y hy => absurd hy (by simp), hlast, by omega⟩
      (fun i σ H' _ ⟨_, _, _, _, _, _, _, q, _⟩ => SqL.of q) ?_ ?_⟩
    · rintro i v σ H5 hy ⟨es, ws, v5, rfl, s5, hD, hL, hl5, I, hdone, hlast, hm⟩
      obtain ⟨y, hyi, rfl⟩ : ∃ y, (nxt last)[i]? = some y ∧ V.str y = v := by
        rw [List.getElem?_map] at hy
        cases c : (nxt last)[i]? with
        | none => rw [c] at hy; cases hy
        | some y => rw [c] at hy; exact ⟨y, rfl, Option.some.inj hy⟩
      have hyn : y ∈ nxt last := List.mem_of_getElem? hyi
      have hyU := hcl last hlU y hyn
      have htk : (nxt last).take (i + 1) = (nxt last).take i ++ [y] := by rw [List.take_succ, hyi]; rfl
      have hlen := I.len
      refine ⟨_, rfl, _, rfl, D, _, rfl, DGet.k (k := .inr y) hD, _, rfl, ?_⟩
      by_cases hin : y ∈ es.map (·.1)
      · obtain ⟨p, e⟩ := val_some hin
        rw [e]
        refine iteF ?_
        refine ⟨es, ws, _, rfl, s5, hD, hL, hl5, I, fun x hx => ?_, hlast, hm⟩
        rw [htk] at hx
        rcases List.mem_append.mp hx with q | q
        · exact hdone x q
        · rw [List.mem_singleton.mp q]; exact hin
      · rw [val_none hin]
        refine iteT ?_
        have I2 := I.step hin hlast hyn hyU
        have hl2 := I2.len
        rw [List.length_append, List.length_singleton] at hl2
        refine ⟨_, rfl, _, rfl, _, rfl, D, _, rfl, DPut.k (k := .inr y) (v := optZ (some last)) hD (by unfold bfOf; rw [List.length_map]; exact hlu hlen), ?_⟩
        rw [put_new hin]
        have s6 : Sub H (L2.upd H5 D (.dK (bfOf (es ++ [(y, some last)])))) := s5.write nD
        have hD6 : L2.upd H5 D (.dK (bfOf (es ++ [(y, some last)]))) D = some (.dK (bfOf (es ++ [(y, some last)]))) := upd_same
        have hL6 : L2.upd H5 D (.dK (bfOf (es ++ [(y, some last)]))) L = some (.lst (ws.map V.str)) := by rw [upd_ne hDL.symm]; exact hL
        have hl6 : L2.upd H5 D (.dK (bfOf (es ++ [(y, some last)]))) l = some (.lst ((nxt last).map V.str)) := by rw [upd_ne nDl.symm]; exact hl5
        generalize L2.upd H5 D (.dK (bfOf (es ++ [(y, some last)]))) = H6 at s6 hD6 hL6 hl6 ⊢
        refine ⟨_, rfl, .inl ⟨rfl, _, SqL.of hL6⟩, _, rfl, L, _, .str y, rfl, rfl, hL6, ?_, ?_⟩
        · have := I.wl; rw [List.length_map]; exact hlu (by omega)
        · refine ⟨es ++ [(y, some last)], ws ++ [y], _, rfl, s6.write nLH, by rw [upd_ne hDL]; exact hD6, by rw [upd_same, List.map_append]; rfl, by rw [upd_ne nLl.symm]; exact hl6, I2, fun x hx => ?_, by rw [List.map_append]; exact List.mem_append_left _ hlast, by rw [List.length_append, List.length_append, List.length_singleton, List.length_singleton]; omega⟩
          rw [htk] at hx
          rw [List.map_append, List.mem_append]
          rcases List.mem_append.mp hx with q | q
          · exact .inl (hdone x q)
          · exact .inr (by rw [List.mem_singleton.mp q]; exact List.mem_singleton.mpr rfl)
    · rintro σ H5 ⟨es, ws, v5, rfl, s5, hD, hL, hl5, I, hdone, hlast, hm⟩
      exact ⟨_, hm, es, ws, _, _, rfl, s5, hD, hL, I.shut fun y hy => hdone y (by rw [List.length_map, List.take_length]; exact hy), rfl⟩
  · have we : ws = [] := by
      cases ws with
      | nil => rfl
      | cons a l => exact absurd rfl he
    subst we
    exact ⟨_, rfl, hQ D H2 es s2 nD hD I.done⟩
end
end W

set_option Elab.async false
set_option linter.all false
set_option maxRecDepth 100000
set_option maxHeartbeats 800000
namespace MyR
open PySem PySem.Spec PyProof.Rows L2
/-! ### repr of data, where no repr is under way -/
def rRep (K : PySem.W.Frag) : List V → Hp → VK → Prop := fun xs H Q => ∃ (a : Addr) (d : PyData), xs = [.ref a] ∧ Dp K H (.ref a) d ∧ d.showable = true ∧ d.hasDict = false ∧ d.depth ≤ 8 ∧ d.shown.length ≤ sizeLine ∧ Q (.str d.shown) H
theorem call_repD {X : Cx} (hg : X.A.guards = some []) (hu : X.A.units + 64 < cLine) : CallR X (.builtin "repr") (rRep X.K) := by
  intro pins s σ H xs us Q I r h
  obtain ⟨a, d, rfl, hd, hs, hn, hp, hz, q⟩ := h
  obtain ⟨u, rfl, r1⟩ := vals1 r
  obtain rfl : u = Value.ref a := r1
  obtain ⟨as, rd⟩ := Dp.reads I d _ _ hd rfl
  exact repr_of_reads' rd hs (fun e => by rw [hn] at e; cases e) hg (by omega) (fun _ _ e => e) (fun h' u tk k => ⟨.str _, H, I.kept k, ⟨u, rfl⟩, q⟩) hz
end MyR

set_option Elab.async false
set_option linter.all false
set_option maxRecDepth 100000
set_option maxHeartbeats 2000000
namespace MyR
open PySem PySem.Spec PyProof.Rows L2
/-! ### the law's own call: here, and only here, it is known that no repr is under way -/
/-- f called by the caller of the law keeps sp -/
def RunG (P : Program) (w : World) (K : PySem.W.Frag) (mg : Str → Option Value) (base : Heap) (CX : CXT) (f : Addr) (sp : Sp) : Prop :=
  ∀ (s : Shared) (H : Hp) (a : Addr) (Q : VK) (E : XK), Env0 P w K mg base callerA [] s H → sp [.ref a] H Q E → codeAny (model P w) callerA (.call (.ref f) ⟨[.ref a], []⟩) (CR CX [] P w H s Q E) s
section
variable {P : Program} {w : World} {K : PySem.W.Frag} {mg : Str → Option Value} {base : Heap}
theorem runG_of {CX : CXT} {f : Addr} {name qual x : Str} {params : Arguments} {body : List Stmt} {scope : Scope} {dV kV doc pm cdv ct oc : Value} {an od : Option Addr} {osl : Array (Option Value)} {N : List Str} {sp : Sp}
    (lk : K.lookup f = some ⟨oc, od, .func (PySem.W.fnOf name qual params body scope dV kV doc pm an cdv ct), osl⟩) (hcd : PySem.W.codeIn K cdv qual = true) (S : FnScope N [x] scope)
    (hb : ∀ (s : Shared) (u : Value), BindsTo s (PySem.W.fnOf name qual params body scope dV kV doc pm an cdv ct) ⟨[u], []⟩ [(x, u)]) (hr : Room 8 callerA)
    (hbody : ∀ (s : Shared) (H : Hp) (a : Addr) (Q : VK) (E : XK), sp [.ref a] H Q E → ∃ t, PSs (cxOf CX P w K mg base N qual scope f cdv callerA [] s H E) body t ∧ t { nx := fun _ H' => Q .non H', rt := Q } (start N [.ref a]) H) :
    RunG P w K mg base CX f sp := fun s H a Q E e0 hsp => by
  have up : ∀ b o, base.get? b = some o → s.heap.get? b = some o := fun b o e => (e0.bs b o e).1
  have KX : K.In s.heap := e0.mod.kin.keeps up
  have hx : scope.names.lookup x = some .local ∨ (scope.names.lookup x = some .cell ∧ ((cellsFrom (s.heap.objs.size + 1) scope.names []).lookup x).isSome = true) :=
    (S.par x (List.mem_singleton.mpr rfl)).imp id fun q => ⟨q, PySem.W.cellsFrom_some _ _ _ (.inl q)⟩
  refine codeAny_call_function hr.depth (KX _ _ lk) rfl S.co S.gen rfl (PySem.W.codeRec_of KX hcd) (hb s (.ref a) _ _ _ _ ?_)
  refine wpAny_newFunctionEnv_cells S.kind (fun y hy => by rw [List.mem_singleton.mp hy]; exact hx) fun env he s1 st => ?_
  subst he
  refine ⟨(e0.mod.nolimit.keeps up).keeps st.toInCall.keep, codeAny_func ?_⟩
  obtain ⟨t, ht, hq⟩ := hbody s H a Q E hsp
  have I : Inv (cxOf CX P w K mg base N qual scope f cdv callerA [] s H E) [] (start N [.ref a]) H s1 := inv_start S hr.hd e0 rfl (.cons rfl .nil) st
  have out : ∀ {σ2 : L2.St} {H2 : Hp} {s2 : Shared} {v : V} {u : Value}, Inv (cxOf CX P w K mg base N qual scope f cdv callerA [] s H E) [] σ2 H2 s2 → RelV v u → Q v H2 → CE [] P w H s Q u s2 :=
    fun {σ2 H2 s2 v u} J rv q => ⟨v, H2, J.os, J.bare, J.base, J.hok, rv, q⟩
  refine wpAny_mono (ht.run [] s1 _ H _ I hq) (fun fl s2 hs => ?_) fun _ _ z => z
  match fl, hs with
  | .ret u, ⟨v, σ2, H2, J, rv, q⟩ => exact out J rv q
  | .next, ⟨σ2, H2, J, q⟩ => exact out (v := V.non) (u := Value.none) J rfl q
  | .brk, ⟨_, _, _, z⟩ => exact z.elim
  | .cont, ⟨_, _, _, z⟩ => exact z.elim
/-- what is tracked at the top: the one table, and the script where it is not written down -/
def topH (K : PySem.W.Frag) (T a : Addr) (o : Obj) (xs : List V) : Hp := fun b => if b = T then some (.tbl #[]) else if b = a ∧ K.lookup a = none then some (.frz o (.lst xs)) else none
theorem topH_cases {T a b : Addr} {o : Obj} {xs : List V} {u : HO} (h : topH K T a o xs b = some u) : (b = T ∧ u = .tbl #[]) ∨ (b ≠ T ∧ b = a ∧ K.lookup a = none ∧ u = .frz o (.lst xs)) := by
  unfold topH at h
  by_cases h1 : b = T
  · rw [if_pos h1] at h
    exact .inl ⟨h1, (Option.some.inj h).symm⟩
  · rw [if_neg h1] at h
    by_cases h2 : b = a ∧ K.lookup a = none
    · rw [if_pos h2] at h
      exact .inr ⟨h1, h2.1, h2.2, (Option.some.inj h).symm⟩
    · rw [if_neg h2] at h
      cases h
theorem top_call {mb : Str → Option Value} {CX : CXT} {f a c T : Addr} {sp : Sp} {s : Shared} {vs : List Value} {ns : List Int} (KX : K.In s.heap) (G : s.heap.Ns mainGlobals mg) (B : s.heap.Ns builtinsNs mb) (hB : ∀ x : Str, x ≠ "__name__" → mb x = bootBuiltins x) (lim : s.heap.NoLimit) (ng : s.gens = #[])
    (eT : s.heap.get? T = some { cls := .none, data := .fields #[] }) (nT : K.lookup T = none) (C : PySem.W.CodeHd s.heap c T)
    (hbm : ∃ (bm : Addr) (ob : Obj), mg "__builtins__" = some (.ref bm) ∧ bm ≠ builtinsNs ∧ s.heap.get? bm = some ob ∧ ob.cls = .type "module" ∧ ob.dict = some builtinsNs ∧ ob.data = .plain)
    (ea : s.heap.get? a = some { cls := .type "list", data := .seq vs.toArray }) (hi : IntsAre vs ns) (hl : ns.length ≤ sizeLine)
    (R : ∀ base : Heap, K.In base → base.Ns mainGlobals mg → LamX.TabB base mg c T → RunG P w K mg base CX f sp)
    (hsp : ∀ H : Hp, H T = some (.tbl #[]) → SqL K H a (ns.map V.int) → sp [.ref a] H (fun v _ => v = .bl true) fun _ _ _ => False)
    (no : ∀ H e s', CX [] H s (fun _ _ _ => False) e s' → False) :
    codeAny (model P w) callerA (.call (.ref f) ⟨[.ref a], []⟩) (fun r s' => r = .ok (.ret (.bool true)) ∧ OldK s.heap s'.heap ∧ s'.os = s.os ∧ AllBare s'.gens) s := by
  have rv := vals_ints hi
  have nz : a ≠ T := fun z => by
    rw [z, eT] at ea
    cases ea
  obtain ⟨H, eH⟩ : ∃ H, H = topH K T a { cls := .type "list", data := .seq vs.toArray } (ns.map V.int) := ⟨_, rfl⟩
  have tr : ∀ {b : Addr} {u : HO}, H b = some u → _ := fun {b u} h => topH_cases (by rw [eH] at h; exact h)
  have HT : H T = some (.tbl #[]) := by
    rw [eH]
    exact if_pos rfl
  have hS : SqL K H a (ns.map V.int) := by
    cases q : K.lookup a with
    | none => exact .inl (.inr ⟨_, by rw [eH]; exact (if_neg nz).trans (if_pos ⟨rfl, q⟩)⟩)
    | some o =>
      have e := KX a o q
      rw [ea] at e
      cases e
      exact .inr ⟨_, vs.toArray, _, q, rfl, rfl, rfl, by rw [List.size_toArray, hi.length]; exact hl, by simpa using rv⟩
  have ok : HOk P w H s.heap := fun b u h => by
    rcases tr h with ⟨rfl, rfl⟩ | ⟨_, rfl, _, rfl⟩
    · exact eT
    · exact ⟨ea, by rw [List.length_map]; exact hl, vs, _, rv, ea⟩
  have gone : ∀ {b : Addr} {o : Obj}, s.heap.get? b = some o → (∀ xs n, o.data ≠ .seq xs n) → o.data ≠ .fields #[] → H b = none := fun {b o} e d1 d2 => by
    cases h : H b with
    | none => rfl
    | some u =>
      rcases tr h with ⟨rfl, _⟩ | ⟨_, rfl, _, _⟩
      · rw [eT] at e
        cases e
        exact (d2 rfl).elim
      · rw [ea] at e
        cases e
        exact (d1 _ _ rfl).elim
  have toB : ∀ {b : Addr} {m : Str → Option Value}, s.heap.Ns b m → (hidT s.heap H).Ns b m := fun {b m} ⟨o, es, ep, e, d, r⟩ =>
    ⟨o, es, ep, hidT_get e (gone e (fun xs n z => by rw [d] at z; cases z) (fun z => by rw [d] at z; cases z)), d, r⟩
  have KB : K.In (hidT s.heap H) := fun b o e => hidT_get (KX b o e) (by
    cases h : H b with
    | none => rfl
    | some u =>
      rcases tr h with ⟨rfl, _⟩ | ⟨_, rfl, k, _⟩
      · rw [nT] at e; cases e
      · rw [k] at e; cases e)
  have TB : LamX.TabB (hidT s.heap H) mg c T := by
    refine ⟨?_, ?_, fun z => ?_⟩
    · obtain ⟨o, us, file, tf, flags, tg, inF, text, tt, e1, r1, r2, r3, r⟩ := C
      exact ⟨o, us, file, tf, flags, tg, inF, text, tt, hidT_get e1 (gone e1 (fun xs n z => by rw [r2] at z; cases z) (fun z => by rw [r2] at z; cases z; simp at r3)), r1, r2, r3, r⟩
    · obtain ⟨bm, ob, b1, b2, b3, b4, b5, b6⟩ := hbm
      refine ⟨bm, ob, b1, b2, fun z => ?_, fun z => ?_, hidT_get b3 (gone b3 (fun xs n z => by rw [b6] at z; cases z) (fun z => by rw [b6] at z; cases z)), b4, b5, b6⟩
      · obtain ⟨o, es, ep, e, d, _⟩ := G
        rw [z, e] at b3
        cases b3
        rw [d] at b6
        cases b6
      · rw [z, eT] at b3
        cases b3
        cases b6
    · obtain ⟨o, es, ep, e, d, _⟩ := G
      rw [z, eT] at e
      cases e
      cases d
  have e0 : Env0 P w K mg (hidT s.heap H) callerA [] s H :=
    ⟨rfl, ⟨KB, toB G, ⟨mb, toB B, hB⟩, let ⟨mc, h1, h2⟩ := lim; ⟨mc, toB h1, h2⟩⟩, fun b o e => of_hidT e, Nat.le_of_eq (hidT_size _ _), trivial, fun b hb => absurd (show b ∈ ([] : List Addr) from hb) (by simp), ok, .of_eq ng⟩
  refine codeAny_mono (R _ KB (toB G) TB s H a _ _ e0 (hsp H HT hS)) fun r s' h => ?_
  match r, h with
  | .error e, h => exact (no H e s' h).elim
  | .ok .next, h => exact False.elim h
  | .ok .brk, h => exact False.elim h
  | .ok .cont, h => exact False.elim h
  | .ok (.ret u), ⟨v, H', os, bare, un, ok', r', q⟩ =>
    obtain rfl : v = .bl true := q
    obtain rfl : u = Value.bool true := r'
    obtain ⟨more, hm⟩ : ∃ more : Array Value, s'.heap.get? T = some { cls := .none, data := .fields more } := by
      obtain ⟨more, z⟩ := un.tbls T #[] HT
      exact ⟨_, ok' T _ z⟩
    have old : ∀ b o, b ≠ T → s.heap.get? b = some o → s'.heap.get? b = some o := fun b o ne e => by
      cases h : H b with
      | none => exact un.keep b o e h (fun z => absurd (show b ∈ ([] : List Addr) from z) (by simp)) (by simp)
      | some u =>
        rcases tr h with ⟨z, _⟩ | ⟨_, rfl, _, rfl⟩
        · exact absurd z ne
        · obtain ⟨e2, _⟩ := ok' b _ (un.frzs b _ _ h)
          rw [ea] at e
          cases e
          exact e2
    refine ⟨rfl, ⟨fun b o e => ?_, fun b o e => ?_⟩, os, bare⟩
    · by_cases hb : b = T
      · subst hb
        rw [eT] at e
        cases e
        exact .inr (.inl ⟨(C.tab eT).isCodeTable, rfl, #[], more, rfl, by rw [Array.empty_append]; exact hm⟩)
      · exact .inl (old b o hb e)
    · by_cases hb : b = T
      · rw [hb]
        exact ⟨_, hm⟩
      · exact ⟨o, old b o hb e⟩
end

/-- what the law's end asks: the table T of the code object c, and the promise sp -/
def LawG (l : PySem.W.OpenLaw) (w : World) (K : PySem.W.Frag) (CX : CXT) (n : Nat) (mg : Str → Option Value) (fa : Addr) (h : Heap) : Prop :=
  ∃ (c T : Addr) (sp : Sp), h.get? T = some { cls := .none, data := .fields #[] } ∧ K.lookup T = none ∧ PySem.W.CodeHd h c T ∧
    (∀ (H : Hp) (a : Addr) (ns : List Int), ns.length ≤ n → H T = some (.tbl #[]) → SqL K H a (ns.map V.int) → sp [.ref a] H (fun v _ => v = .bl true) fun _ _ _ => False) ∧
    ∀ base : Heap, K.In base → base.Ns mainGlobals mg → LamX.TabB base mg c T → RunG l.prog w K mg base CX fa sp
theorem walk_ofG {l : PySem.W.OpenLaw} {n : Nat} {q : Program} {loose : List Str} {XP : (Str → Option Value) → Heap → Prop} {YP : World → Heap → Prop} {d : DefRec} {K : Params → PySem.W.Frag} {CX : World → CXT} (names : List Str)
    (hn : l.most = some n) (hn2 : n ≤ sizeLine) (hdf : d.params.defaults = []) (hrec : names.all (fun y => (recsOf q).any fun e => e.name == y) = true) (hY : ∀ (w : World) (h : Heap), YP w h → (K w.params).In h)
    (F : ∀ (w : World) (mg : Str → Option Value) (fa : Addr) (h : Heap), YP w h → (K w.params).In h → h.Ns mainGlobals mg → mg d.name = some (.ref fa) → (∀ y ∈ names, ∀ f, mg y = some (.ref f) → LamX.OwnTab (K w.params) f h) → LawG l w (K w.params) (CX w) n mg fa h)
    (no : ∀ (w : World) (H : Hp) (s : Shared) (e : Value) (s' : Shared), CX w [] H s (fun _ _ _ => False) e s' → False) :
    PySem.W.WalkO q loose XP YP l.row.toRowW d [] (fun f vs => PySem.call f vs) := by
  refine Att.attach_callB hn hdf fun w s₀ s₁ mg mb fa o pm cd doc a vs ns G Y ho hd hcd hmg hobj hints hlen hbits hg => ?_
  have KX := hY w _ Y
  obtain ⟨c, T, sp, eT, nT, C, hsp, R⟩ := F w mg fa _ Y KX G.T.g hmg (fun y hy f hf c P o1 fd1 e dd vs1 sl k1 k2 k3 k4 k5 => by
    obtain ⟨dL, hm, hn1⟩ := List.any_eq_true.mp (List.all_eq_true.mp hrec y hy)
    obtain ⟨a', o', fd', c', P', h1, h2, h3, h4, h5, h6⟩ := G.T.tab dL hm
    rw [beq_iff_eq.mp hn1, hf] at h1
    cases h1
    have g1 := KX _ _ k1
    rw [g1] at h2
    cases h2
    rw [k2] at h3
    cases h3
    rw [k3] at h4
    cases h4
    obtain ⟨⟨oc, vc, e1, _, e3, e4⟩, hP⟩ := h6
    have g2 := KX _ _ k4
    rw [g2] at e1
    cases e1
    cases e3
    rw [k5] at e4
    cases e4
    exact hP)
  exact top_call KX G.T.g G.T.b G.T.builtins G.T.nolimit hg eT nT C G.T.bmain hobj hints (Nat.le_trans hlen hn2) R (fun H hH hS => hsp H a ns hlen hH hS) fun H e s' => no w H s₁ e s'
end MyR

set_option Elab.async false
set_option linter.all false
set_option maxRecDepth 100000
set_option maxHeartbeats 1000000
namespace MyR
open PySem PySem.Spec PyProof.Rows L2
/-! ### try: .. except A as n: .. except B as n: .. -/
/-- the ends of a clause's suite: n is gone behind it -/
def offS (i : Nat) (D : Ends) : Ends := { nx := fun σ H => D.nx (σ.set i none) H, rt := D.rt, bk := fun σ H => D.bk (σ.set i none) H, ct := fun σ H => D.ct (σ.set i none) H }
abbrev Suite := Addr → Value → Option Addr → TS
def wAll (K : PySem.W.Frag) (i : Nat) (Wout : WX) (D : Ends) : List (Value × Suite) → WX
  | [] => Wout
  | p :: l => fun cls d σ H => ∃ b, PySem.W.exmOne K cls p.1 = some b ∧ (b = true → ∀ a, H a = none → p.2 a cls d (offS i D) (σ.set i (some (.ref a))) H) ∧ (b = false → wAll K i Wout D l cls d σ H)
inductive Clauses (X : Cx) (n : Str) : List ExceptHandler → List (Value × Suite) → Prop
  | nil : Clauses X n [] []
  | cons {x : Str} {c : Value} {ts : Suite} {s0 : Stmt} {ss : List Stmt} {p1 p2 : Pos} {hs : List ExceptHandler} {l : List (Value × Suite)} (hc : Names X x c)
      (run : ∀ (a : Addr) (o : Obj) (cls : Value) (d : Option Addr) (pn : List (Addr × Obj)), Zc cls d o → (∃ vs, o.data = .fields vs) → PSs (X.suite a ((a, o) :: pn)) (s0 :: ss) (ts a cls d)) (r : Clauses X n hs l) :
      Clauses X n (.ExceptHandler (some (.Name x p1)) (some n) (s0 :: ss) p2 :: hs) ((c, ts) :: l)
section
variable {X : Cx} {n : Str} {i : Nat} {body : List Stmt} {h0 : ExceptHandler} {hs : List ExceptHandler} {l : List (Value × Suite)} {pos : Pos} {tb : WX → TS} {Wout : WX}
theorem ps_try_all (st : X.stack = X.env :: X.outer) (fr : X.env.frame = some X.env.locals) (nd : X.N.Nodup) (at_ : X.N[i]? = some n) (loc : X.env.kindOf n = some .local) (tk : Takes X Wout)
    (hb : ∀ (W : WX) (pn : List (Addr × Obj)) (xe : Value → Shared → Prop), Takes (X.tr pn xe) W → PassesOwn (model X.prog X.w) X.A X.env xe → PSs (X.tr pn xe) body (tb W)) (hh : Clauses X n (h0 :: hs) l) :
    PS X (.Try body (h0 :: hs) [] [] pos) (fun D σ H => tb (wAll X.K i Wout D l) D σ H) := by
  refine ⟨fun pins s σ H D I h => wpAny_Try_except ?_⟩
  have ok := I.ok
  have af : X.A.frames = some (X.env :: X.outer) := by rw [ok.frames, st]
  -- what the catch does with an exception
  obtain ⟨catch_, ec⟩ : ∃ c : Value → Shared → Prop, c = fun e z => wpAny (model X.prog X.w) X.A (noteFrame e X.env) (fun _ z2 => wpAny (model X.prog X.w) X.A (setFlight e none) (fun _ z3 =>
    wpAny (model X.prog X.w) X.A (handleBy e X.env (h0 :: hs)) (SP X pins D) X.xe z3) X.xe z2) X.xe z := ⟨_, rfl⟩
  have T : Takes (X.tr (X.pn ++ pins) catch_) (wAll X.K i Wout D l) := fun u z thrown => by
    obtain ⟨a, B, zI, pins', σ', H', cls, d, rfl, J0, nb, up, sky0, na, os, ag, wish⟩ := thrown
    have J : Inv X pins σ' H' zI := J0.ofTry ok
    have sky : Sky B (X.env :: X.outer) a (Zc cls d) X.env.locals z.heap := by rw [← st]; exact sky0
    rw [ec]
    refine Sky.land Zc.steady af fr sky fun k1 fl1 up1 => ?_
    have J1 : Inv X pins σ' H' { z with heap := k1 } := J.landed nb fl1.1 (up.trans up1) os ag
    obtain ⟨o1, vs1, g1, z1, d1⟩ := fl1.there
    have out : a ∉ frs (X.env :: X.outer) := fun hm => by
      obtain ⟨_, o', e', hnf⟩ := fl1.2.2.1.mem hm
      rw [g1] at e'
      cases e'
      exact hnf _ d1
    have neL : a ≠ X.env.locals := fun e => out (List.mem_filterMap.mpr ⟨X.env, List.mem_cons_self, by rw [fr, e]⟩)
    have neF : a ∉ X.fs := fun hm => by
      obtain ⟨e, he, q⟩ := List.mem_filterMap.mp hm
      exact out (List.mem_filterMap.mpr ⟨e, List.mem_cons_of_mem _ he, q⟩)
    have S1 := J1.suite g1 d1 na neL neF
    suffices go : ∀ {hs' : List ExceptHandler} {l' : List (Value × Suite)}, Clauses X n hs' l' → wAll X.K i Wout D l' cls d σ' H' → wpAny (model X.prog X.w) X.A (handleBy (.ref a) X.env hs') (SP X pins D) X.xe { z with heap := k1 } from go hh wish
    intro hs' l' hk
    induction hk with
    | nil =>
      intro wo
      refine wpAny_handleBy_nil ?_
      obtain ⟨_, _, _, o2, vs2, T2, oT2, ts2, g2, z2, d2, f2, _⟩ := id fl1
      unfold PySem.passOn
      refine wpAny_bind (wpAny_field g2 d2 f2 ?_)
      rw [if_neg (show ¬ ((Value.ref T2 == Value.none) = true) from by simp)]
      have last : wpAny (model X.prog X.w) X.A (setFlight (.ref a) X.env.frame) (fun _ z4 => wpAny (model X.prog X.w) X.A (throw (.ref a) : Sem Flow) (SP X pins D) X.xe z4) X.xe { z with heap := k1 } := by
        rw [fr]
        exact HandSPX.setFlight_upZ fl1 fun k2 sky2 up2 => wpAny_throw (tk _ _ ⟨a, B, zI, pins, σ', H', cls, d, rfl, J, nb, (up.trans up1).trans up2, .inr (.inr (by rw [st]; exact sky2)), na, os, ag, wo⟩)
      first
        | exact wpAny_bind (wpAny_pure (wpAny_bind last))
        | exact wpAny_bind last
    | @cons x c ts s0 ss p1 p2 hs2 l2 hc run r ih =>
      rintro ⟨b, eb, yes, no⟩
      refine wpAny_handleBy_cons (codeAny_handlers_test ?_) (by intro q; cases q)
      have fits := PySem.W.exm_one (M := model X.prog X.w) J1.kIn (fun A Q E z k q => wpAny_typeOf_ref (k _ _ g1) (by rw [z1.1]; exact q)) eb
      have named : ∀ {Q E : Value → Shared → Prop}, Q c { z with heap := k1 } → wpAny (model X.prog X.w) (X.A.mark (some (.ref a))) (eval (.Name x p1) X.env) Q E { z with heap := k1 } := fun {Q E} q => by
        obtain ⟨gl, db, m | ⟨m, v, nn⟩⟩ := hc
        · exact ld_glob (X := X.suite a ((a, o1) :: (X.pn ++ pins))) S1 gl m q db
        · exact ld_blt (X := X.suite a ((a, o1) :: (X.pn ++ pins))) S1 gl m v q nn db
      refine named (fits.here ?_)
      cases b with
      | false => exact ih (no rfl)
      | true =>
        refine codeAny_handlers_suite_as (HandSPX.lands_againZ fl1 fun k2 fl2 up2 => ?_)
        have J2 : Inv X pins σ' H' { z with heap := k2 } := J.landed nb fl2.1 ((up.trans up1).trans up2) os ag
        obtain ⟨o2, vs2, g2, z2, d2⟩ := fl2.there
        refine store_ok (X := X.suite a ((a, o2) :: (X.pn ++ pins))) (v := .ref a) (J2.suite g2 d2 na neL neF) nd at_ (.inl loc) rfl (fun z5 S5 => ?_) (.inr loc)
        refine wpAny_mono ((run a o2 cls d (X.pn ++ pins) z2 ⟨_, d2⟩).run [] z5 _ H' _ S5 (yes rfl a na)) (fun fl z6 hs6 => ?_) (fun _ _ q => False.elim q)
        have bare : ∀ {σ6 : L2.St} {H6 : Hp} {R : Shared → Prop}, Inv (X.suite a ((a, o2) :: (X.pn ++ pins))) [] σ6 H6 z6 → (∀ z7, Inv X pins (σ6.set i none) H6 z7 → R z7) →
          wpAny (model X.prog X.w) X.A (do bindName X.env n .none; unbindBehindTheSuite X.env n p2) (fun _ z7 => R z7) X.xe z6 := fun {σ6 H6 R} S6 q => gone_ok (S6.unsuite ok) nd at_ loc q
        match fl, hs6 with
        | .next, ⟨_, _, S6, q⟩ => exact bare S6 fun _ J7 => ⟨_, _, J7, q⟩
        | .brk, ⟨_, _, S6, q⟩ => exact bare S6 fun _ J7 => ⟨_, _, J7, q⟩
        | .cont, ⟨_, _, S6, q⟩ => exact bare S6 fun _ J7 => ⟨_, _, J7, q⟩
        | .ret u, ⟨_, _, _, S6, rv, q⟩ => exact bare S6 fun _ J7 => ⟨_, _, _, J7, rv, q⟩
  have P : PassesOwn (model X.prog X.w) X.A X.env catch_ := by
    rw [ec]
    exact PassesOwn.looking
  refine wpAny_mono (((hb _ (X.pn ++ pins) catch_ T P).run [] s σ H D (I.toTry _) h)) (fun fl z hsp => ?_) (fun e z he => by
    have he' : catch_ e z := he
    rw [ec] at he'
    exact he')
  match fl, hsp with
  | .next, ⟨_, _, J, q⟩ => exact wpAny_execs_nil ⟨_, _, J.ofTry ok, q⟩
  | .brk, ⟨_, _, J, q⟩ => exact ⟨_, _, J.ofTry ok, q⟩
  | .cont, ⟨_, _, J, q⟩ => exact ⟨_, _, J.ofTry ok, q⟩
  | .ret u, ⟨_, _, _, J, rv, q⟩ => exact ⟨_, _, _, J.ofTry ok, rv, q⟩
end
end MyR

set_option Elab.async false
set_option linter.all false
set_option maxRecDepth 100000
set_option maxHeartbeats 1000000
namespace W
open PySem PySem.Spec PyProof.Rows L2 GxR MyG MyS MyR
/-! ### Map.roads_to -/
abbrev sRTo : Stmt := inClass (top 31) 7
def spRTo (K : PySem.W.Frag) (M P : Addr) : Sp := fun vs H Q _ => ∃ (x : Addr) (z : Str) (d : Int) (ks ps : List Str) (rs : List RoadD) (bs : List (Str × Str)), vs = [.ref x, .str z] ∧ z.length ≤ 1000 ∧ z ∈ ps ∧ MIn K H M P x d ks ps rs bs ∧ rs.length ≤ 60 ∧
  ∀ H' p, Grew P H H' → H p = none → H' p = some (.lst (namesV (rs.filter fun r => decide (r.goal = z)))) → Q (.ref p) H'
section
variable {Pg : Program} {w : World} {K : PySem.W.Frag} {mg : Str → Option Value} {base : Heap} {C P : Addr}
theorem scRTo : FnScope ["self", "place", "road"] ["self", "place"] (defScope sRTo) := ⟨rfl, rfl, rfl, by decide +kernel, rfl, by decide +kernel, by decide +kernel⟩
theorem ok_rto {f M U fC : Addr} {fd fdC : FuncData} {t1 t2 : Tok} (F : Fun K "roads_to" "Map.roads_to" sRTo f fd) (TM : TxtM K M) (hn : mg "NAME" = some (.int 0 t1)) (hst : mg "END" = some (.int 2 t2)) (mC : Meth K M "check_place" fC)
    (GC : FnOk Pg w K mg base (L2.CX Pg w) 3 fC fdC ["self", "place"] (spChkL K M U selP)) (bC : Binds K fdC ["self", "place"] []) : FnOk Pg w K mg base (L2.CX Pg w) 4 f fd ["self", "place"] (spRTo K M P) := by
  refine F.okX scRTo (fun vs H Q E h => ?_) (fun cdv A outer s H vs Q E hr h => ?_)
  · obtain ⟨x, z, d, ks, ps, rs, bs, rfl, _⟩ := h
    rfl
  · obtain ⟨x, z, d, ks, ps, rs, bs, rfl, hz, hzp, hM, h60, k⟩ := h
    refine ⟨_, pss_cons (ps_expr (pe_meth (pv 0) TM.cl mC GC hr bC .nil (passF rfl rfl) (pa_cons (pv 1) pa_nil)))
      (pss_one (ps_ret (pe_lc (own := [("road", 2)]) (g := gName 2) rfl scRTo.nd (pi_tup (pe_fld (pv 0) rfl)) (blkOk_by (N := ["self", "place", "road"]) (sc := defScope sRTo) (by decide +kernel)) (fun _ _ _ _ _ => pg_name (i := 2) scRTo.nd rfl (Or.inl rfl))
          (fun _ _ _ _ _ => pts_one (pt_cmpR op_eq (pe_ix (r := rIxT K) ix_tup (pv 2) (pe_gI hst) (fun _ _ => rfl)) (pv 1) (nomark _)))
          (fun _ _ _ _ _ => pe_ix (r := rIxT K) ix_tup (pv 2) (pe_gI hn) (fun _ _ => rfl))))), ?_⟩
    obtain ⟨dx, fs, kk, pp, rr, D, bb, D2, ys, zs, hx, F7⟩ := hM.m
    have hP := hM.t
    refine ⟨_, rfl, x, dx, fs, rfl, hx, F7.f0 _ (by decide +kernel), _, rfl, x, z, d, ks, ps, rs, bs, rfl, hz, hM.m, fun _ => ?_, fun no => absurd hzp no⟩
    refine ⟨_, rfl, x, M, dx, fs, _, rfl, hx, TM.cl, TM.n4, F7.f4, rr, rfl, ⟨_, SqT.of F7.r⟩, fun L nL => lc_tup (K := K) (a := rr) (xs := ys) (fun i H1 => Grew P H H1 ∧ H1 L = some (.lst (namesV ((rs.take i).filter fun r => decide (r.goal = z)))))
      ⟨Grew.new hP nL, upd_same⟩ (fun i H1 _ p => SqT.of (p.1.tup hP F7.r)) (fun i y H1 hy p => ?_) (fun H1 p => ?_)⟩
    · obtain ⟨g, hD⟩ := p
      obtain ⟨r, hr1, m⟩ := Paired.at F7.ry hy
      obtain ⟨t, q, h, rfl, et, _⟩ := m.grew g hP
      have hi := (List.getElem?_eq_some_iff.mp hr1).1
      rw [filter_take hr1]
      refine ⟨rfl, _, rfl, t, _, 2, .str r.goal, rfl, rfl, SqT.of et, rfl, _, rfl, rfl, _, rfl, ?_⟩
      by_cases c : r.goal = z
      · rw [decide_eq_true (congrArg V.str c), if_pos (decide_eq_true c)]
        refine if_t rfl ⟨_, rfl, t, _, 0, .str r.name, rfl, rfl, SqT.of et, rfl, _, hD, ?_, g.write hD (fun _ z => by cases z) nL, ?_⟩
        · refine Nat.lt_of_le_of_lt (namesV_len _) (Nat.lt_of_le_of_lt (List.length_filter_le _ _) ?_)
          rw [List.length_take, sizeLine_eq]; omega
        · rw [upd_same, namesV_app]; rfl
      · rw [decide_eq_false (show ¬ V.str r.goal = V.str z from fun e => c (by injection e)), if_neg (by simp [c])]
        exact if_f rfl ⟨g, hD⟩
    · obtain ⟨g, hD⟩ := p
      rw [← Paired.len F7.ry, List.take_length] at hD
      exact k _ L g nL hD
end
end W

set_option Elab.async false
set_option linter.all false
set_option maxRecDepth 100000
set_option maxHeartbeats 800000
namespace W
open PySem PySem.Spec PyProof.Rows L2 GxR MyG MyS
/-! ### isinstance of a caught error with fields -/
structure ExcD (K : PySem.W.Frag) (D : Addr) : Prop where
  cl : (PySem.W.clsIn K D).isSome = true
  hg : PySem.W.findIn K (.ref D) "__getattribute__" = some (some (.builtin "BaseException.__getattribute__"))
  hk : PySem.W.findIn K (.ref D) "__getattr__" = some none
  hs : PySem.W.subIn K (.ref D) (.type "BaseException") = some true
  ha : PySem.W.findIn K (.ref D) "__class__" = some (some (.builtin "object.__class__"))
  hn : PySem.W.specialIn K (.builtin "object.__class__") "__get__" = some (some (.builtin "getset_descriptor.__get__"))
  ht : PySem.W.takesIn K (.builtin "object.__class__") = some true
  hm : PySem.W.mroIn K D (.type "object") = some true
def rIsD (K : PySem.W.Frag) (D a : Addr) (cls : Value) (d : Option Addr) : List V → Hp → VK → Prop := fun xs H Q => ∃ (c : V) (cv : Value) (dd : Addr) (fs : List (Str × V)) (b : Bool), xs = [.ref a, c] ∧ cls = .ref D ∧ d = some dd ∧ (∀ u, RelV c u → u = cv) ∧ H dd = some (.xd fs) ∧ PySem.W.kitOne K (.ref D) cv = some b ∧ Q (.bl b) H
theorem call_isD {X : Cx} {a D : Addr} {cls : Value} {d : Option Addr} {oe : Obj} {pn : List (Addr × Obj)} (C : ExcD X.K D) (hz : Zc cls d oe) (hf : ∃ vs, oe.data = .fields vs) : CallR (X.suite a ((a, oe) :: pn)) (.builtin "isinstance") (rIsD X.K D a cls d) := by
  intro pins s σ H xs us Q I r h
  obtain ⟨c, cv, dd, fs, b, rfl, rfl, rfl, hcv, ed, e, q⟩ := h
  obtain ⟨u1, u2, rfl, r1, r2⟩ := vals2 r
  obtain rfl : u1 = Value.ref a := r1
  obtain rfl : u2 = cv := hcv _ r2
  obtain ⟨hget, _⟩ := I.pin (a, oe) (List.mem_append.mpr (.inl List.mem_cons_self))
  obtain ⟨vs, hd⟩ := hf
  have hx : ObjOk X.prog X.w H s.heap dd (.xd fs) := I.hok dd _ ed
  obtain ⟨mA, hns, hr⟩ := hx
  obtain ⟨od, ho, hl⟩ := lookIn_ns hns
  have J : PySem.W.InstAt s.heap a oe D (some od) := ⟨hget, hz.1, by unfold PySem.W.notCls; rw [hd] <;> rfl, by rw [hz.2]; exact ho⟩
  exact PySem.W.kia_one (PySem.W.kitx_exc C.cl C.hg C.hk C.hs C.ha C.hn C.ht C.hm) I.kIn J e (fun z => nomatch z) fun tk => ⟨.bl b, H, I.kept (t' := tk) fun _ _ z => z, rfl, q⟩
/-! ### super().__init__(..) of an own error: the bound __init__ called -/
section
variable {prog : Program} {w : World} {A : Around} {E : Value → Shared → Prop} {h : Heap} {g : Array GenState} {d : Drawn} {t : Nat} {os : OsState}
variable {nm q : Str} {C N : Addr} {bs bm bmB : List Value} {hdct : Bool} {sn : List Str} {sub : List Value} {ab : Bool} {col : Option Bool} {dd : Option Addr} {k0 k1 k2 k3 k5 : Option Value} {newId initId : String} {B : String}
theorem call_mw (FB : ExcBaseFacts B newId initId bmB) {u a t0 : Addr} {rest : List Value} {Q : Value → Shared → Prop} (hu : h.get? u = some (PySem.W.kxs_mw initId a)) (hC : h.get? C = some (excClassObj nm q C N bs bm hdct sn sub ab col dd k0 k1 k2 k3 k5 newId)) (he : h.get? a = some (PySem.HandSPX.excO C t0)) (hz : rest.length ≤ sizeLine)
    (hq : ∀ h' t1, (∀ b o, b ≠ a → h.get? b = some o → h'.get? b = some o) → h'.get? a = some (PySem.HandSPX.excO C t1) → Q .none ⟨h', g, d, t, os⟩) :
    wpAny (model prog w) A (call (.ref u) rest) Q E ⟨h, g, d, t, os⟩ := by
  refine wpAny_call (codeAny_of_tree ?_)
  show wpAny _ A.in1 (callAny (.ref u) ⟨rest, []⟩) _ _ _
  simp only [callAny]
  refine wpAny_bind (wpAny_load hu ?_)
  simp only [PySem.W.kxs_mw, show (Value.type "method-wrapper" == Value.type "method" || Value.type "method-wrapper" == Value.type "builtin_function_or_method" || Value.type "method-wrapper" == Value.type "method-wrapper") = true by decide, if_true]
  refine PySem.W.KFB.if_so (by decide) ?_
  refine wpAny_bind (PySem.W.check_bound_init FB.toExcCallFacts hC he rfl ?_)
  refine wpAny_bind (wpAny_pure (wpAny_pure ?_))
  refine ⟨plainId_quiet FB.init.plain _, codeAny_builtin FB.initEntry ?_⟩
  exact PySem.W.exc_init_tree (cls := .ref C) (t0 := t0) (dv := none) (c2 := .none) (c3 := .none) (b4 := .bool false) he hz fun h' k e1 _ => hq h' _ k e1
end
/-! ### UnknownName.__init__ -/
abbrev sUInit : Stmt := inClass (top 5) 0
def scFake : Scope := { kind := .function, names := [("self", .local), ("name", .local)], isGenerator := false, isCoroutine := false, more := [] }
theorem scFakeOk : FnScope ["self", "name"] ["self", "name"] scFake := ⟨rfl, rfl, rfl, by decide +kernel, rfl, by decide +kernel, by decide +kernel⟩
section
variable {Pg : Program} {w : World} {K : PySem.W.Frag} {mg : Str → Option Value} {base : Heap}
abbrev fdU (dV kV doc pm : Value) (an : Option Addr) (cda : Addr) (ct : Value) (cc : Addr) : FuncData := PySem.W.fnX "__init__" "UnknownName.__init__" (defArgs sUInit) (defBody sUInit) (defScope sUInit) [("__class__", cc)] dV kV doc pm an (.ref cda) ct
theorem ok_uinit {CX : CXT} {f U cc cda : Addr} {oc ccl cl dV kV doc pm ct : Value} {od cdd cld an : Option Addr} {osl ccs csl : Array (Option Value)} {vs : Array Value} {file : Str} {tf : Tok}
    (lk : K.lookup f = some ⟨oc, od, .func (fdU dV kV doc pm an cda ct cc), osl⟩) (hcd : PySem.W.codeIn K (.ref cda) "UnknownName.__init__" = true) (hcode : K.lookup cda = some ⟨ccl, cdd, .fields vs, ccs⟩) (hvs : vs[2]? = some (.str file tf)) (hfile : ((Pg.main.file : Str) == file) = true)
    (hcell : K.lookup cc = some ⟨cl, cld, .cell (some (.ref U)), csl⟩) (hsuper : mg "super" = none) (htop : (Pg.main.scope.names.lookup ("super" : Str)).isSome = false)
    (TU : OexC K U) (hmU : PySem.W.mroIn K U (.ref U) = some true) (hop : PySem.W.nsIn K cStatics "thirdparty.any" = some none) (hsi : PySem.W.ks_superIn K U U "__init__" = some (some (.builtin "ValueError.__init__"))) (hsV : PySem.W.subIn K (.ref U) (.type "ValueError") = some true)
    (hno : PySem.W.findIn K (.ref U) "name" = some none) : FnOk Pg w K mg base CX 1 f (fdU dV kV doc pm an cda ct cc) ["self", "name"] (spUInit K U) := by
  have len : ∀ vs H Q E, spUInit K U vs H Q E → vs.length = 2 := by
    rintro vs H Q E ⟨a, z, rfl, _⟩
    rfl
  refine ⟨len, fun A outer s H args us vs2 Q E hr e0 hb r hsp => ?_⟩
  obtain ⟨a, z, rfl, hz, ea, kq⟩ := hsp
  obtain ⟨u1, u2, rfl, r1, r2⟩ := vals2 r
  obtain rfl : u1 = Value.ref a := r1
  obtain ⟨tk, rfl⟩ := r2
  have KX : K.In s.heap := e0.mod.kin.keeps fun b o e => (e0.bs b o e).1
  have lim : s.heap.NoLimit := e0.mod.nolimit.keeps fun b o e => (e0.bs b o e).1
  obtain ⟨cnm, cq, cN, cbs, cbm, csn, csub, cab, ccol, cdd2, c0, c1, c2, c3, c5, hC, hbm⟩ := TU.cls
  refine PySem.ks_codeAny_call_defAt (body := defBody sUInit) (binds := (["self", "name"] : List Str).zip [Value.ref a, Value.str z tk]) hr.depth (KX _ _ lk) rfl lim (PySem.W.codeRec_of KX hcd) rfl hb (show ∀ x ∈ (defScope sUInit).names, x.2 ≠ .cell by decide +kernel) (by
    intro y hy
    rcases List.mem_cons.mp hy with e | hy
    · subst e; show (defScope sUInit).names.lookup ("self" : Str) = some .local; decide +kernel
    · rw [List.mem_singleton.mp hy]; show (defScope sUInit).names.lookup ("name" : Str) = some .local; decide +kernel) (fun h0 hns hk => ?_) rfl rfl rfl
  have em : (fun x => ((["self", "name"] : List Str).zip [Value.ref a, Value.str z tk]).reverse.lookup x) = bindL (envOfC "UnknownName.__init__" scFake s.heap.objs.size f (.ref cda)).kindOf ((["self", "name"] : List Str).zip [Value.ref a, Value.str z tk]) fun _ => none := by
    funext y
    show ([(("name" : Str), Value.str z tk), ("self", Value.ref a)] : List (Str × Value)).lookup y = if y = "name" then some (Value.str z tk) else if y = "self" then some (Value.ref a) else none
    by_cases h1 : y = ("name" : Str)
    · subst h1; rw [if_pos rfl]; rfl
    · rw [if_neg h1]
      by_cases h2 : y = ("self" : Str)
      · subst h2; rw [if_pos rfl]; rfl
      · rw [if_neg h2]
        simp [List.lookup, h1, h2, beq_eq_false_iff_ne.mpr h1, beq_eq_false_iff_ne.mpr h2]
  have I : Inv (cxOf CX Pg w K mg base ["self", "name"] "UnknownName.__init__" scFake f (.ref cda) A outer s H E) [] (L2.start ["self", "name"] [.ref a, .str z]) H { s with heap := h0, toks := s.toks + 2 } :=
    inv_start scFakeOk hr.hd e0 rfl (.cons rfl (.cons ⟨tk, rfl⟩ .nil)) ⟨⟨⟨h0, s.toks + 2, rfl⟩, by rw [← em]; exact hns, hk, Nat.le_refl _⟩, fun n c e => (by cases e), List.Pairwise.nil, fun n c e => (by cases e)⟩
  refine PySem.ks_wpAt_execs_cons (PySem.ks_wpAt_Expr_any (PySem.ks_wpAt_MethodCall ?_))
  have K0 : K.In h0 := KX.keeps hk
  obtain ⟨t1, ho⟩ := exo_at e0.hok ea
  have ho0 : h0.get? a = some (PySem.HandSPX.excO U t1) := hk a _ ho
  have hcl : PySem.W.clsIn K U = some { name := cnm, bases := cbs, mro := .ref U :: cbm, ns := cN, qualname := cq, hasDict := true, slotNames := csn, subclasses := csub, abstract := cab, collection := ccol, hasDel := false } := by unfold PySem.W.clsIn; rw [hC] <;> rfl
  obtain ⟨mb, hb1, hb2⟩ := e0.mod.blt
  have bk0 : ∀ b o, base.get? b = some o → h0.get? b = some o := fun b o e => hk b o (e0.bs b o e).1
  have m1 : (fun x => ((["self", "name"] : List Str).zip [Value.ref a, Value.str z tk]).reverse.lookup x) "self" = some (Value.ref a) := rfl
  refine PySem.ks_wpAt_super_base (f := f) (fd := fdU dV kV doc pm an cda ct cc) (show (defScope sUInit).names.lookup ("super" : Str) = some .globalImplicit by decide +kernel) (show (defScope sUInit).names.lookup ("__class__" : Str) = some .free by decide +kernel) (by decide) rfl (hk _ _ (KX _ _ lk)) rfl rfl rfl (K0 _ _ hcode) rfl hvs hfile htop ?_
  refine PySem.W.ks_loadName_global rfl (show (defScope sUInit).names.lookup ("super" : Str) = some .globalImplicit by decide +kernel) (Calls.loadGlobal_builtin (e0.mod.glob.keeps bk0) hsuper (hb1.keeps bk0) ((hb2 "super" (by decide)).trans (by decide +kernel)) ⟨rfl, ?_⟩)
  refine wpAny_loadName_free rfl (show (defScope sUInit).names.lookup ("__class__" : Str) = some .free by decide +kernel) rfl ⟨_, K0 _ _ hcell, rfl⟩ ?_
  refine wpAny_loadName_local rfl (show (defScope sUInit).names.lookup ("self" : Str) = some .local by decide +kernel) hns m1 ?_
  refine PySem.ks_wpAny_isType_cls (K0 _ _ hC) rfl ⟨rfl, ?_⟩
  refine PySem.ks_wpAny_call_super (K0 _ _ hC) rfl ho0 rfl (fun c e => by cases e) (PySem.W.looks_mroIn K0 hmU) (fun h1 e1 k1 => ?_)
  have K1 : K.In h1 := K0.keeps k1
  have J1 : PySem.W.InstAt h1 a (PySem.HandSPX.excO U t1) U none := ⟨k1 _ _ ho0, rfl, rfl, trivial⟩
  have hsi' := hsi
  unfold PySem.W.ks_superIn at hsi'
  rw [hcl] at hsi'
  refine PySem.W.kxs_getMethod PySem.W.kxs_ValueError e1 (PySem.W.looks_opaque K1 hop) (l₀ := .ref U :: cbm) (fun A Q E s k q => wpAny_bind ((PySem.W.looks_clsIn K1 hcl) A _ E s k (wpAny_pure q))) rfl K1 hsi' (J1.type.andThen (PySem.W.looks_subIn K1 hsV)) (PySem.W.ks_ne K1 J1 hcl) (by decide) ?_
  have I1 : Inv (cxOf CX Pg w K mg base ["self", "name"] "UnknownName.__init__" scFake f (.ref cda) A outer s H E) [] (L2.start ["self", "name"] [.ref a, .str z]) H ⟨h1.push (PySem.W.kxs_mw "ValueError.__init__" a), s.gens, s.drawn, s.toks + 2 + 1, s.os⟩ :=
    I.kept (t' := s.toks + 2 + 1) fun b o q => Heap.get?_push_of_some _ (k1 b o q)
  have hu1 : (h1.push (PySem.W.kxs_mw "ValueError.__init__" a)).get? h1.objs.size = some (PySem.W.kxs_mw "ValueError.__init__" a) := Heap.get?_push_size _ rfl
  have look : ∀ {x : Str} {v : V} {st : Shared} {σ0 : L2.St} {H0 : Hp} (j : Nat), Inv (cxOf CX Pg w K mg base ["self", "name"] "UnknownName.__init__" scFake f (.ref cda) A outer s H E) [] σ0 H0 st → (["self", "name"] : List Str)[j]? = some x → σ0[j]? = some (some v) → scFake.names.lookup x = some .local → (defScope sUInit).names.lookup x = some .local →
      (x == ("__debug__" : Str)) = false → ∀ (p : Pos) (Q' : Value → Shared → Prop) (E' : Value → Shared → Prop) (A' : Around), (∀ u, RelV v u → Q' u st) → wpAny (model Pg w) A' (eval (.Name x p) (callEnv (fdU dV kV doc pm an cda ct cc) s.heap.objs.size f)) Q' E' st := by
    intro x v st σ0 H0 j J e1 e2 e3 e4 hdb p Q' E' A' hQ
    obtain ⟨m, hn, hm⟩ := J.loc
    obtain ⟨u, ru, lu⟩ := hm j x v e1 e2 (.inl e3)
    have e5 : m x = some u := by
      rcases lu with ⟨_, q⟩ | ⟨q, _⟩
      · exact q
      · have q' : scFake.names.lookup x = some .cell ∨ scFake.names.lookup x = some .free := q
        rw [e3] at q'
        rcases q' with q' | q' <;> cases q'
    exact wpAny_Name (wpAny_loadName_local rfl e4 hn e5 (hQ u ru)) hdb
  refine PySem.W.kxs_callWith (i := "ValueError.__init__") (x := a) (by rfl) (Calls.evalArgs_plain ?_)
  refine PyProof.Rows.args_cons (wpAny_JoinedStr ?_) rfl
  refine Calls.Constant_str ⟨_, _, rfl, (show (Str.empty ++ Str.ofString "unknown name: ").length ≤ sizeLine by decide +kernel), ?_⟩
  have I2 := I1.tok (s.toks + 2 + 1 + 1)
  refine wpAny_FormattedValue_plain (look 1 I2 rfl rfl rfl (by decide +kernel) (by decide) _ _ _ _ fun u ru => ?_)
  obtain ⟨tk2, rfl⟩ := ru
  have hz2 : z.length ≤ sizeLine := by rw [sizeLine_eq]; omega
  have hlen : ((Str.empty ++ Str.ofString "unknown name: ") ++ z).length ≤ sizeLine := by
    rw [PySem.Str.length_append, sizeLine_eq]
    have e : (Str.empty ++ (Str.ofString "unknown name: ")).length ≤ 100 := by decide +kernel
    omega
  have eu : L2.upd H a (exo a U none) = H := by
    funext b
    by_cases hb : b = a
    · rw [hb, upd_same, ea]
    · rw [upd_ne hb]
  have hC1 : (h1.push (PySem.W.kxs_mw "ValueError.__init__" a)).get? U = _ := Heap.get?_push_of_some _ (K1 _ _ hC)
  have he1 : (h1.push (PySem.W.kxs_mw "ValueError.__init__" a)).get? a = some (PySem.HandSPX.excO U t1) := Heap.get?_push_of_some _ (k1 _ _ ho0)
  refine wpAny_formatField_str ?_ ?_ hz2
  all_goals
    refine ⟨z, _, rfl, hlen, hlen, PyProof.Rows.args_nil ⟨hu1, ?_⟩⟩
    refine call_mw PySem.F.excBase_ValueError hu1 hC1 he1 (by show 1 ≤ sizeLine; decide) (fun h5 t5 k5 e5 => ?_)
    have J5 := I1.write (t' := s.toks + 2 + 1 + 1 + 1) (x := a) (e := a) (o := exo a U none) (by rw [ea]; exact True.intro) (.inl rfl) k5 ⟨_, e5⟩ (exo_ok e5)
    rw [eu] at J5
    have J6 := fun tk => J5.tok tk
    refine PySem.ks_wpAt_execs_cons (PySem.ks_wpAt_Assign_Attr (PySem.wpAt_of_wpAny (look 1 (J6 _) rfl rfl rfl (by decide +kernel) (by decide) _ _ _ _ fun u2 r2 => look 0 (J6 _) rfl rfl rfl (by decide +kernel) (by decide) _ _ _ _ fun u3 r3 => ?_)))
    obtain rfl : u3 = Value.ref a := r3
    refine ost_new TU (J6 _) ea hno r2 fun dx s' nd ne J' => ?_
    refine PySem.wpAt_of_wpAny (wpAny_pure ?_)
    exact ⟨.non, _, J'.os, J'.bare, J'.base, J'.hok, rfl, kq dx nd ne⟩
end
end W

set_option Elab.async false
set_option linter.all false
set_option maxRecDepth 100000
/-! x in t, x not in t, where t is a tuple of data of any depth -/
namespace MyH
open PySem PySem.Spec PyProof.Rows L2
section
variable {X : Cx}
def rInDT (K : PySem.W.Frag) : R2 := fun x y H Q => ∃ d ds, Dp K H x d ∧ Dp K H y (.tuple ds) ∧ SeqAt.shaped d = true ∧ SeqAt.shaped (.tuple ds) = true ∧ Q (.bl (ds.any fun z => PyData.eqv z d)) H
def rNotInDT (K : PySem.W.Frag) : R2 := fun x y H Q => ∃ d ds, Dp K H x d ∧ Dp K H y (.tuple ds) ∧ SeqAt.shaped d = true ∧ SeqAt.shaped (.tuple ds) = true ∧ Q (.bl (!ds.any fun z => PyData.eqv z d)) H
theorem op_inDT (hu : X.A.units + 65 < cLine) : OpR X (compareOp .In) (rInDT X.K) := by
  intro pins s σ H x y v u Q I rx ry h
  obtain ⟨d, ds, hd, he, sd, se, q⟩ := h
  obtain ⟨as, r1⟩ := Dp.reads I d x v hd rx
  obtain ⟨bs, r2⟩ := Dp.reads I (.tuple ds) y u he ry
  exact SeqAt.in_tuple_reads r2 r1 (SeqAt.canLay_of_shaped se) (SeqAt.canLay_of_shaped sd) (room_in_shaped sd hu) ⟨.bl _, H, I, rfl, q⟩
theorem op_notInDT (hu : X.A.units + 65 < cLine) : OpR X (compareOp .NotIn) (rNotInDT X.K) := by
  intro pins s σ H x y v u Q I rx ry h
  obtain ⟨d, ds, hd, he, sd, se, q⟩ := h
  obtain ⟨as, r1⟩ := Dp.reads I d x v hd rx
  obtain ⟨bs, r2⟩ := Dp.reads I (.tuple ds) y u he ry
  exact SeqAt.notIn_tuple_reads r2 r1 (SeqAt.canLay_of_shaped se) (SeqAt.canLay_of_shaped sd) (room_in_shaped sd hu) ⟨.bl _, H, I, rfl, q⟩
end
end MyH

set_option Elab.async false
set_option linter.all false
set_option maxRecDepth 100000
set_option maxHeartbeats 2000000
namespace W
open PySem PySem.Spec PyProof.Rows L2 GxR MyG MyS MyR
/-! ### _law_open, _law_follows, _law_without, _law_trip -/
abbrev sLOpen : Stmt := top 53
abbrev sLFollows : Stmt := top 54
abbrev sLTrip : Stmt := top 56
abbrev sLaw : Stmt := top 58
def OkB (bs : List (Str × Str)) : Prop := ∀ b ∈ bs, PyData.strOk b.1 = true ∧ PyData.strOk b.2 = true
def barD (b : Str × Str) : PyData := .tuple [.str b.1, .str b.2]
theorem dp_bars {K : PySem.W.Frag} {H : Hp} : ∀ {bs : List (Str × Str)} {xs : List V}, Paired (GBar H) bs xs → DpAll K H xs (bs.map barD)
  | _, _, .nil => .nil
  | _, _, .cons (a := p) ⟨t, e, q⟩ r => by
    subst e
    exact .cons (.tup (SqT.of q) (.cons (.str p.1) (.cons (.str p.2) .nil))) (dp_bars r)
theorem canLay_bars : ∀ bs : List (Str × Str), OkB bs → PyData.canLayAll0 (bs.map barD) = true
  | [], _ => rfl
  | p :: bs, h => by
    have a := h p List.mem_cons_self
    simp [PyData.canLayAll0, PyData.canLay0, barD, canLay_bars bs (fun b hb => h b (List.mem_cons_of_mem _ hb)), a.1, a.2]
theorem depth_bars : ∀ bs : List (Str × Str), PyData.depthAll (bs.map barD) ≤ 2
  | [] => by simp [PyData.depthAll]
  | p :: bs => by
    have i := depth_bars bs
    simp only [List.map_cons, PyData.depthAll, PyData.depth, barD]
    simp [PyData.depthAll, PyData.depth]
    omega
theorem eqv_bar (a b : Str × Str) : PyData.eqv (barD a) (barD b) = decide (a = b) := by
  obtain ⟨a1, a2⟩ := a
  obtain ⟨b1, b2⟩ := b
  have e : ∀ x y : Str, (x == y) = decide (x = y) := fun x y => by by_cases h : x = y <;> simp [h]
  simp [barD, PyData.eqv, PyData.eqvAll, Prod.mk.injEq, Bool.decide_and, e]
theorem any_bars (bs : List (Str × Str)) (b : Str × Str) : ((bs.map barD).any fun z => PyData.eqv z (barD b)) = decide (b ∈ bs) := by
  rw [List.any_map]
  by_cases h : b ∈ bs
  · rw [decide_eq_true h, List.any_eq_true]
    exact ⟨b, h, by simp [eqv_bar]⟩
  · rw [decide_eq_false h, List.any_eq_false]
    intro c hc e
    have e2 : PyData.eqv (barD c) (barD b) = true := e
    rw [eqv_bar] at e2
    exact h (of_decide_eq_true e2 ▸ hc)
theorem shaped_bar {b : Str × Str} (h : PyData.strOk b.1 = true ∧ PyData.strOk b.2 = true) : SeqAt.shaped (barD b) = true := by
  have c := canLay_bars [b] (fun x hx => by rw [List.mem_singleton.mp hx]; exact h)
  have d := depth_bars [b]
  unfold SeqAt.shaped
  rw [Bool.and_eq_true]
  refine ⟨by simpa [PyData.canLayAll0] using c, decide_eq_true ?_⟩
  simp [PyData.depthAll] at d
  omega
theorem u65 {k : Nat} {A : Around} (h : Room k A) : A.units + 65 < cLine := by
  have := h.un
  omega
theorem goodC_lt {c : Nat} (h : goodC c = true) : c < 0x110000 := by
  unfold goodC at h
  rw [Bool.or_eq_true, decide_eq_true_eq, decide_eq_true_eq] at h
  have a : zLet.cps.toList.all (fun c => decide (c < 0x110000)) = true := by decide +kernel
  have b : zDig.cps.toList.all (fun c => decide (c < 0x110000)) = true := by decide +kernel
  rcases h with h | h
  · exact of_decide_eq_true (List.all_eq_true.mp a c h)
  · exact of_decide_eq_true (List.all_eq_true.mp b c h)
theorem isNm_ok {z : Str} (h : isNm z = true) : PyData.strOk z = true := by
  unfold isNm at h
  simp only [Bool.and_eq_true] at h
  have q := h.2
  unfold PyData.strOk
  rw [← Array.all_toList]
  exact List.all_eq_true.mpr fun c hc => decide_eq_true (goodC_lt (List.all_eq_true.mp q c hc))
theorem okB_of {d : Int} {ks ps : List Str} {rs : List RoadD} {bs : List (Str × Str)} (ok : PartsOk d ks ps rs bs) : OkB bs := fun b hb => by
  obtain ⟨r1, h1, r2, h2, e1, e2, _⟩ := ok.b.ok b hb
  have a := List.all_eq_true.mp ok.r.nm r1.name (List.mem_map.mpr ⟨r1, h1, rfl⟩)
  have c := List.all_eq_true.mp ok.r.nm r2.name (List.mem_map.mpr ⟨r2, h2, rfl⟩)
  rw [e1, e2]
  exact ⟨isNm_ok a, isNm_ok c⟩
theorem isNm_ne {z : Str} (h : isNm z = true) : z ≠ Str.empty := fun e => by
  rw [e] at h
  have : isNm Str.empty = false := by decide +kernel
  rw [this] at h
  cases h
theorem shaped_barsT {bs : List (Str × Str)} (h : OkB bs) : SeqAt.shaped (PyData.tuple (bs.map barD)) = true := by
  have c := canLay_bars bs h
  have d := depth_bars bs
  unfold SeqAt.shaped
  rw [Bool.and_eq_true]
  refine ⟨by simpa [PyData.canLay0] using c, decide_eq_true ?_⟩
  simp only [PyData.depth]
  omega
def spLFollows (K : PySem.W.Frag) (P : Addr) : Sp := fun vs H Q _ => ∃ (q : Addr) (v1 v2 : V) (d : Int) (ps ks : List Str) (rs : List RoadD) (bs : List (Str × Str)) (r1 r2 : RoadD), vs = [.ref q, v1, v2] ∧ PartsT K H q d ks ps rs bs ∧ OkB bs ∧ PyData.strOk r1.name = true ∧ PyData.strOk r2.name = true ∧ GRoad K H r1 v1 ∧ GRoad K H r2 v2 ∧ TabG H P ∧
  ∀ H', Grew P H H' → Q (.bl (decide (r1.goal = r2.start) && !decide ((r1.name, r2.name) ∈ bs))) H'
section
variable {Pg : Program} {w : World} {K : PySem.W.Frag} {mg : Str → Option Value} {base : Heap} {C P : Addr}
theorem scLFollows : FnScope ["parts", "one", "other"] ["parts", "one", "other"] (defScope sLFollows) := ⟨rfl, rfl, rfl, by decide +kernel, rfl, by decide +kernel, by decide +kernel⟩
theorem ok_lfollows {f : Addr} {fd : FuncData} (F : Fun K "_law_follows" "_law_follows" sLFollows f fd) : FnOk Pg w K mg base CX0 1 f fd ["parts", "one", "other"] (spLFollows K P) := by
  refine F.ok scLFollows (fun vs H Q E h => ?_) (fun cdv A outer s H vs Q E hr h => ?_)
  · obtain ⟨q, v1, v2, d, ps, ks, rs, bs, r1, r2, rfl, _⟩ := h
    rfl
  · obtain ⟨q, v1, v2, d, ps, ks, rs, bs, r1, r2, rfl, hq, hob, h1, h2, G1, G2, hP, k⟩ := h
    refine ⟨_, pss_one (ps_ret (pe_and (pe_cmpR op_eq (pe_ix ix_tup (pv 1) pe_int (fun _ _ => rfl)) (pe_ix ix_tup (pv 2) pe_int (fun _ _ => rfl)) (nomark _))
      (pe_one (pe_cmpR (MyH.op_notInDT (u65 hr)) (pe_tup (pa_cons (pe_ix ix_tup (pv 1) pe_int (fun _ _ => rfl)) (pa_cons (pe_ix ix_tup (pv 2) pe_int (fun _ _ => rfl)) pa_nil))) (pe_ix ix_list (pv 0) pe_int (fun _ _ => rfl)) (by rfl))))), ?_⟩
    obtain ⟨t1, u1, w1, rfl, hT1, _, _⟩ := G1
    obtain ⟨t2, u2, w2, rfl, hT2, _, _⟩ := G2
    refine ⟨_, rfl, t1, _, 2, _, rfl, rfl, hT1, rfl, _, rfl, t2, _, 1, _, rfl, rfl, hT2, rfl, rfl, _, rfl, ?_⟩
    by_cases c : r1.goal = r2.start
    · refine if_t (decide_eq_true (congrArg V.str c)) ?_
      refine ⟨_, rfl, t1, _, 0, _, rfl, rfl, hT1, rfl, _, rfl, t2, _, 0, _, rfl, rfl, hT2, rfl, by show 2 ≤ sizeLine; decide, fun q5 nq5 => ?_⟩
      have g := Grew.new hP (o := .tup [.str r1.name, .str r2.name]) nq5
      obtain ⟨ki, pl, ro, ba, xs, zs, eq, eki, epl, ero, hrs, eba, hbs⟩ := PartsT.grew hq g hP
      refine ⟨_, rfl, q, _, 4, _, rfl, rfl, SqL.of eq, rfl, barD (r1.name, r2.name), bs.map barD, .tup (SqT.of upd_same) (.cons (.str _) (.cons (.str _) .nil)), .tup (SqT.of eba) (dp_bars hbs), shaped_bar ⟨h1, h2⟩, shaped_barsT hob, ?_⟩
      rw [any_bars]
      have q' := k _ g
      rw [decide_eq_true c, Bool.true_and] at q'
      exact q'
    · refine if_f (decide_eq_false fun e => c (by injection e)) ?_
      have q' := k H (Grew.refl hP)
      rw [decide_eq_false c, Bool.false_and] at q'
      exact q'
end
end W

set_option Elab.async false
set_option linter.all false
set_option maxRecDepth 100000
set_option maxHeartbeats 2000000
namespace W
open PySem PySem.Spec PyProof.Rows L2 GxR MyG MyS MyR
/-! ### _law_open, _law_without, _law_trip -/
theorem fsnoc {α : Type} {p : α → Bool} {l : List α} {i : Nat} {r : α} (e : l[i]? = some r) : (l.take (i + 1)).filter p = (l.take i).filter p ++ (if p r = true then [r] else []) := by
  have et : l.take (i + 1) = l.take i ++ [r] := by rw [List.take_succ, e]; rfl
  rw [et, List.filter_append]
  congr 1
  rw [List.filter_cons]
  rfl
def spLOpen (K : PySem.W.Frag) (P : Addr) : Sp := fun vs H Q _ => ∃ (q : Addr) (kind : Str) (d : Int) (ps ks : List Str) (rs : List RoadD) (bs : List (Str × Str)), vs = [.ref q, .str kind] ∧ PartsT K H q d ks ps rs bs ∧ rs.length ≤ 60 ∧ TabG H P ∧
  ∀ H' L ys, Grew P H H' → H L = none → H' L = some (.lst ys) → Paired (RoadAt K H') (rs.filter (everB kind)) ys → Q (.ref L) H'
def spLTripG (K : PySem.W.Frag) (P : Addr) : Sp := fun vs H Q _ => ∃ (q a : Addr) (at_ d : Int) (ps ks : List Str) (rs : List RoadD) (bs : List (Str × Str)) (ns : List Int), vs = [.ref a, .int at_, .ref q] ∧ PartsT K H q d ks ps rs bs ∧ 1 ≤ ks.length ∧ 1 ≤ ps.length ∧ SqL K H a (ns.map V.int) ∧ Sm ns ∧ 0 ≤ at_ ∧ at_ + 5 ≤ ns.length ∧ TabG H P ∧
  ∀ H' tp kind start goal t, Grew P H H' → kind ∈ ks → start ∈ ps → goal ∈ ps → 0 ≤ t → t ≤ 99999 → H' tp = some (.tup [.str kind, .str start, .str goal, .int t]) → Q (.ref tp) H'
theorem fac4 (j : Int) (h0 : 0 ≤ j) (h3 : j < 4) : ∃ c : Int, atI [V.int 0, V.int 1, V.int 1, V.int 99] j = some (.int c) ∧ 0 ≤ c ∧ c ≤ 99 := by
  have : j = 0 ∨ j = 1 ∨ j = 2 ∨ j = 3 := by omega
  rcases this with rfl | rfl | rfl | rfl <;> exact ⟨_, rfl, by decide, by decide⟩
section
variable {Pg : Program} {w : World} {K : PySem.W.Frag} {mg : Str → Option Value} {base : Heap} {C P : Addr}
abbrev nOpen : List Str := ["parts", "kind", "road"]
theorem scOpen : FnScope nOpen ["parts", "kind"] (defScope sLOpen) := ⟨rfl, rfl, rfl, by decide +kernel, rfl, by decide +kernel, by decide +kernel⟩
theorem ok_lopen {f : Addr} {fd : FuncData} (F : Fun K "_law_open" "_law_open" sLOpen f fd) : FnOk Pg w K mg base CX0 1 f fd ["parts", "kind"] (spLOpen K P) := by
  refine F.ok scOpen (fun vs H Q E h => ?_) (fun cdv A outer s H vs Q E hr h => ?_)
  · obtain ⟨q, kind, d, ps, ks, rs, bs, rfl, _⟩ := h
    rfl
  · obtain ⟨q, kind, d, ps, ks, rs, bs, rfl, hq, l60, hP, k⟩ := h
    refine ⟨_, pss_one (ps_ret (pe_lc (own := [("road", 2)]) (g := gName 2) rfl scOpen.nd (pi_tup (pe_ix ix_list (pv 0) pe_int (fun _ _ => rfl))) (blkOk_by (N := nOpen) (sc := defScope sLOpen) (by decide +kernel)) (fun _ _ _ _ _ => pg_name (i := 2) scOpen.nd rfl (Or.inl rfl))
        (fun _ _ _ _ _ => pts_one (PW.pt (pw_and (pt_cmpR (r := rIn K false) op_in_seq (pv 1) (pe_ix (r := rIxT K) ix_tup (pv 2) pe_int (fun _ _ => rfl)) (by rfl)) (pw_and1 (pt_cmpR (r := rNeD K) (op_neD hr.units) (pe_ix (r := rIxT K) ix_tup (pv 2) pe_int (fun _ _ => rfl)) (pe_tup pa_nil) (nomark _)))))) (fun _ _ _ _ _ => pv 2))), ?_⟩
    obtain ⟨ki, pl, ro, ba, xs, zs, eq, eki, epl, ero, hrs, eba, hbs⟩ := hq
    have lx := Paired.len hrs
    refine ⟨_, rfl, q, _, 3, .ref ro, rfl, rfl, SqL.of eq, rfl, ro, rfl, ⟨_, SqT.of ero⟩, fun D nD => lc_tup (K := K) (a := ro) (xs := xs) (fun i H' => Grew P H H' ∧ ∃ acc, H' D = some (.lst acc) ∧ Paired (RoadAt K H') ((rs.take i).filter (everB kind)) acc)
      ⟨Grew.new hP nD, [], upd_same, .nil⟩ (fun i H' _ h => SqT.of (h.1.tup hP ero)) (fun i v H1 hv h => ?_) (fun H1 h => ?_)⟩
    · obtain ⟨g, acc, hD, hacc⟩ := h
      obtain ⟨r, hr0, hrt⟩ := Paired.at hrs hv
      have hrt1 := hrt.grew g hP
      have hil := (List.getElem?_eq_some_iff.mp hr0).1
      have la := Paired.len hacc
      have lf := List.length_filter_le (everB kind) (rs.take i)
      rw [List.length_take] at lf
      have et := fsnoc (p := everB kind) hr0
      have hrt2 := hrt1
      obtain ⟨t, u, hh, rfl, e1, e2, e3⟩ := hrt1
      refine ⟨rfl, _, rfl, _, rfl, t, _, 4, .ref u, rfl, rfl, SqT.of e1, rfl, u, _, rfl, .inr (SqT.of e2), rfl, flat_strs _, _, rfl, ?_⟩
      rw [if_neg (by decide : ¬ false = true), inV_dec]
      by_cases c2 : kind ∈ r.users
      · refine if_t (decide_eq_true c2) ?_
        refine ⟨_, rfl, t, _, 5, hh, rfl, rfl, SqT.of e1, rfl, Nat.zero_le _, fun e0 ne0 => ?_⟩
        have g0 := g.trans (Grew.new g.tab (o := .tup []) ne0)
        have hD0 := (Grew.new g.tab (o := .tup []) ne0).lst g.tab hD
        have gk := KeepT.grew (K := K) (Grew.new g.tab (o := .tup []) ne0) g.tab
        have acc0 : Paired (RoadAt K (L2.upd H1 e0 (.tup []))) ((rs.take i).filter (everB kind)) acc := Paired.map' hacc fun _ _ m => m.grew (Grew.new g.tab ne0) g.tab
        have hr0' := hrt2.grew (Grew.new g.tab (o := .tup []) ne0) g.tab
        have d0 : Dp K (L2.upd H1 e0 (.tup [])) (.ref e0) (.tuple []) := .tup (SqT.of upd_same) .nil
        have dh := dp_hours (e3.keep gk)
        generalize L2.upd H1 e0 (.tup []) = H2 at g0 hD0 acc0 hr0' d0 dh
        refine ⟨_, _, dh, d0, shaped_hours _, shaped_pairs [], _, rfl, ?_⟩
        show if (!PyData.eqv (hoursD r.hours) (PyData.tuple [])) = true then _ else _
        rw [eqv_hours]
        have eb : everB kind r = !decide (r.hours = some []) := by
          unfold everB
          rw [decide_eq_true c2, Bool.true_and]
        rw [← eb]
        cases ce : everB kind r with
        | true =>
          rw [ce, if_pos rfl] at et
          refine if_t rfl ⟨_, rfl, acc, hD0, by rw [sizeLine_eq]; omega, g0.write hD0 (fun _ z => by cases z) nD, acc ++ [.ref t], upd_same, ?_⟩
          have up : ∀ {r : RoadD} {v : V}, RoadAt K H2 r v → RoadAt K (L2.upd H2 D (.lst (acc ++ [.ref t]))) r v := fun m => m.upd (fun xs z => by rw [hD0] at z; cases z) (KeepT.lst hD0)
          rw [et]
          exact Paired.snoc (Paired.map' acc0 fun _ _ m => up m) (up hr0')
        | false =>
          rw [ce, if_neg (by decide), List.append_nil] at et
          exact if_f rfl ⟨g0, acc, hD0, by rw [et]; exact acc0⟩
      · have ce : everB kind r = false := by
          unfold everB
          rw [decide_eq_false c2, Bool.false_and]
        rw [ce, if_neg (by decide), List.append_nil] at et
        exact if_f (decide_eq_false c2) (if_f rfl ⟨g, acc, hD, by rw [et]; exact hacc⟩)
    · obtain ⟨g, acc, hD, hacc⟩ := h
      rw [← lx, List.take_length] at hacc
      exact k H1 D acc g nD hD hacc
abbrev nTripG : List Str := ["numbers", "at", "parts", "kind", "start", "goal", "moment"]
theorem scTripG : FnScope nTripG ["numbers", "at", "parts"] (defScope sLTrip) := ⟨rfl, rfl, rfl, by decide +kernel, rfl, by decide +kernel, by decide +kernel⟩
theorem ok_ltripG {f : Addr} {fd : FuncData} (F : Fun K "_law_trip" "_law_trip" sLTrip f fd) (hi : mg "int" = none) (hl : mg "len" = none) : FnOk Pg w K mg base CX0 1 f fd ["numbers", "at", "parts"] (spLTripG K P) := by
  refine F.ok scTripG (fun vs H Q E h => ?_) (fun cdv A outer s H vs Q E hr h => ?_)
  · obtain ⟨q, a, at_, d, ps, ks, rs, bs, ns, rfl, _⟩ := h
    rfl
  · obtain ⟨q, a, at_, d, ps, ks, rs, bs, ns, rfl, hq, lk, lp, hS, hsm, h0, h1, hP, k⟩ := h
    refine ⟨_, pss_cons (ps_set (i := 3) scTripG.nd rfl (Or.inl rfl) (pe_ix ix_tup (pe_ix ix_list (pv 2) pe_int (fun _ _ => rfl)) (pe_op op_mod (pe_callTy call_int1 (by rfl) hi (by decide +kernel) (pa_cons (pe_ix ix_list (pv 0) (pv 1) (fun _ _ => rfl)) pa_nil)) (pe_callB call_len_seq (by rfl) hl PySem.boot_len (pa_cons (pe_ix ix_list (pv 2) pe_int (fun _ _ => rfl)) pa_nil))) (fun _ _ => rfl)))
      (pss_cons (ps_set (i := 4) scTripG.nd rfl (Or.inl rfl) (pe_ix ix_tup (pe_ix ix_list (pv 2) pe_int (fun _ _ => rfl)) (pe_op op_mod (pe_callTy call_int1 (by rfl) hi (by decide +kernel) (pa_cons (pe_ix ix_list (pv 0) (pe_op op_add (pv 1) pe_int) (fun _ _ => rfl)) pa_nil)) (pe_callB call_len_seq (by rfl) hl PySem.boot_len (pa_cons (pe_ix ix_list (pv 2) pe_int (fun _ _ => rfl)) pa_nil))) (fun _ _ => rfl)))
      (pss_cons (ps_set (i := 5) scTripG.nd rfl (Or.inl rfl) (pe_ix ix_tup (pe_ix ix_list (pv 2) pe_int (fun _ _ => rfl)) (pe_op op_mod (pe_callTy call_int1 (by rfl) hi (by decide +kernel) (pa_cons (pe_ix ix_list (pv 0) (pe_op op_add (pv 1) pe_int) (fun _ _ => rfl)) pa_nil)) (pe_callB call_len_seq (by rfl) hl PySem.boot_len (pa_cons (pe_ix ix_list (pv 2) pe_int (fun _ _ => rfl)) pa_nil))) (fun _ _ => rfl)))
      (pss_cons (ps_set (i := 6) scTripG.nd rfl (Or.inl rfl) (pe_op op_mul (pe_callTy call_int1 (by rfl) hi (by decide +kernel) (pa_cons (pe_ix ix_list (pv 0) (pe_op op_add (pv 1) pe_int) (fun _ _ => rfl)) pa_nil)) (pe_ix ix_list (pe_lst (pa_cons pe_int (pa_cons pe_int (pa_cons pe_int (pa_cons pe_int pa_nil))))) (pe_op op_mod (pe_callTy call_int1 (by rfl) hi (by decide +kernel) (pa_cons (pe_ix ix_list (pv 0) (pe_op op_add (pv 1) pe_int) (fun _ _ => rfl)) pa_nil)) pe_int) (fun _ _ => rfl))))
      (pss_one (ps_ret (pe_tup (pa_cons (pv 3) (pa_cons (pv 4) (pa_cons (pv 5) (pa_cons (pv 6) pa_nil)))))))))), ?_⟩
    obtain ⟨n0, e0, l0, u0⟩ := at_num hsm (i := at_) h0 (by omega)
    obtain ⟨n1, e1, l1, u1⟩ := at_num hsm (i := at_ + 1) (by omega) (by omega)
    obtain ⟨n2, e2, l2, u2⟩ := at_num hsm (i := at_ + 2) (by omega) (by omega)
    obtain ⟨n3, e3, l3, u3⟩ := at_num hsm (i := at_ + 3) (by omega) (by omega)
    obtain ⟨n4, e4, l4, u4⟩ := at_num hsm (i := at_ + 4) (by omega) (by omega)
    obtain ⟨ki, pl, ro, ba, xs, zs, eq, eki, epl, ero, hrs, eba, hbs⟩ := hq
    have ck : (0 : Int) < (((ks.map V.str).length : Nat) : Int) := by rw [List.length_map]; omega
    have cp : (0 : Int) < (((ps.map V.str).length : Nat) : Int) := by rw [List.length_map]; omega
    obtain ⟨z0, ez0, _, m0⟩ := at_str (ns := ks) (i := n0 % ((ks.map V.str).length : Nat)) (Int.emod_nonneg _ (by omega)) (by have := Int.emod_lt_of_pos n0 ck; rw [List.length_map] at *; exact this)
    obtain ⟨z1, ez1, _, m1⟩ := at_str (ns := ps) (i := n1 % ((ps.map V.str).length : Nat)) (Int.emod_nonneg _ (by omega)) (by have := Int.emod_lt_of_pos n1 cp; rw [List.length_map] at *; exact this)
    obtain ⟨z2, ez2, _, m2⟩ := at_str (ns := ps) (i := n2 % ((ps.map V.str).length : Nat)) (Int.emod_nonneg _ (by omega)) (by have := Int.emod_lt_of_pos n2 cp; rw [List.length_map] at *; exact this)
    obtain ⟨c, ec, c0, c99⟩ := fac4 (n4 % 4) (Int.emod_nonneg _ (by decide)) (Int.emod_lt_of_pos _ (by decide))
    refine ⟨_, rfl, q, _, 1, _, rfl, rfl, SqL.of eq, rfl, _, rfl, _, rfl, a, _, _, _, rfl, rfl, hS, e0, .inl ⟨_, rfl, _, rfl, q, _, 1, _, rfl, rfl, SqL.of eq, rfl, ki, _, rfl, .inr (SqT.of eki), _, _, rfl, rfl, ck, ki, _, _, _, rfl, rfl, SqT.of eki, ez0, ?_⟩⟩
    refine ⟨_, rfl, q, _, 2, _, rfl, rfl, SqL.of eq, rfl, _, rfl, _, rfl, _, _, rfl, rfl, a, _, _, _, rfl, rfl, hS, e1, .inl ⟨_, rfl, _, rfl, q, _, 2, _, rfl, rfl, SqL.of eq, rfl, pl, _, rfl, .inr (epl.sq), _, _, rfl, rfl, cp, pl, _, _, _, rfl, rfl, epl.sq, ez1, ?_⟩⟩
    refine ⟨_, rfl, q, _, 2, _, rfl, rfl, SqL.of eq, rfl, _, rfl, _, rfl, _, _, rfl, rfl, a, _, _, _, rfl, rfl, hS, e2, .inl ⟨_, rfl, _, rfl, q, _, 2, _, rfl, rfl, SqL.of eq, rfl, pl, _, rfl, .inr (epl.sq), _, _, rfl, rfl, cp, pl, _, _, _, rfl, rfl, epl.sq, ez2, ?_⟩⟩
    refine ⟨_, rfl, _, rfl, _, _, rfl, rfl, a, _, _, _, rfl, rfl, hS, e3, .inl ⟨_, rfl, by show 4 ≤ sizeLine; decide, fun T nT => ?_⟩⟩
    have gT := Grew.new hP (o := .lst [V.int 0, V.int 1, V.int 1, V.int 99]) nT
    have hT : (L2.upd H T (.lst [V.int 0, V.int 1, V.int 1, V.int 99])) T = some (.lst [V.int 0, V.int 1, V.int 1, V.int 99]) := upd_same
    generalize L2.upd H T (.lst [V.int 0, V.int 1, V.int 1, V.int 99]) = H1 at gT hT
    have m9 : n3 * c ≤ 1008 * 99 := Int.mul_le_mul (by omega) c99 c0 (by decide)
    have m9' : 0 ≤ n3 * c := Int.mul_nonneg l3 c0
    refine ⟨_, rfl, _, rfl, _, _, rfl, rfl, a, _, _, _, rfl, rfl, gT.sqL hP hS, e4, .inl ⟨_, rfl, _, _, rfl, rfl, (show (0 : Int) < 4 by decide), T, _, _, _, rfl, rfl, SqL.of hT, ec, _, _, rfl, rfl, .inl ⟨by omega, by omega⟩, ?_⟩⟩
    refine ⟨_, rfl, _, rfl, _, rfl, _, rfl, by show 4 ≤ sizeLine; decide, fun tp ntp => ?_⟩
    exact k _ tp z0 z1 z2 (n3 * c) (gT.trans (Grew.new gT.tab ntp)) m0 m1 m2 m9' (by omega) upd_same
end
end W


set_option Elab.async false
set_option linter.all false
set_option maxRecDepth 100000
set_option maxHeartbeats 4000000
/-! all(test for x in list of ints), where the test reads a name of the def that walks. -/
namespace MyG
open PySem PySem.Spec PyProof.Rows L2 GxR
/-- what the element's evaluation may lean on: what stood when the walk began, but the table; the scope's cells -/
def EltN (prog : Program) (w : World) (h0 : Heap) (P : Addr) (cl : List (Str × Addr)) (scope : Scope) (x : Str) (elt : Expr) (pb : Int → Bool) : Prop :=
  ∀ (ce : Env) (B : Around) (F : Value → Shared → Prop) (n : Int) (t : Tok) (z : Shared) (m : Str → Option Value),
    ce.scope = scope → ce.cells = cl → B.handled = none → (∀ b o, b ≠ P → h0.get? b = some o → z.heap.get? b = some o) →
    z.heap.Ns ce.locals m → m x = some (.int n t) → wpAny (model prog w) B (eval elt ce) (fun y z' => y = .bool (pb n) ∧ Keeps z z') F z
def trN (pb : Int → Bool) (l : List Int) (j : Nat) : Bool := match l[j]? with
  | some b => pb b
  | none => false
theorem trN_some {pb : Int → Bool} {l : List Int} {j : Nat} {b : Int} (h : l[j]? = some b) : trN pb l j = pb b := by
  unfold trN
  rw [h]
theorem all_trN (l : List Int) (pb : Int → Bool) : (List.range l.length).all (trN pb l) = l.all pb := by
  rw [Bool.eq_iff_iff, List.all_eq_true, List.all_eq_true]
  constructor
  · intro h b hb
    obtain ⟨j, hj, e⟩ := List.getElem_of_mem hb
    have q := h j (List.mem_range.mpr hj)
    rw [trN_some (List.getElem?_eq_getElem hj), e] at q
    exact q
  · intro h j hj
    have hj' := List.mem_range.mp hj
    rw [trN_some (List.getElem?_eq_getElem hj')]
    exact h _ (List.getElem_mem hj')
section
variable {X : Cx} {pins : List (Addr × Obj)} {σ : L2.St} {H : Hp} {s : Shared}
def ReadyN (X : Cx) (pins : List (Addr × Obj)) (σ : L2.St) (H1 : Hp) (P : Addr) (ns : List Int) (pb : Int → Bool) (g : Addr) (z : Shared) : Prop :=
  ∃ (fp wr : List Addr) (G : Array GenState → Array GenState → Prop) (F : Nat → Value → Prop) (St : Nat → Shared → Prop),
    WalksS X.prog X.w X.A.in1 g fp wr G ns.length F St ∧ St 0 z ∧ TruthOf X.prog X.w X.A.in1 F (trN pb ns) ∧ ∀ s', Moved wr G z s' → ∃ H2, Tabbed P H1 H2 ∧ Inv X pins σ H2 s'
theorem genN {c P : Addr} {elt iter : Expr} {x : Str} {px gpos : Pos} {scope : Scope} {te : TE} {k : Nat} {Q' : Value → Shared → Prop} {R : List Int → (Int → Bool) → Hp → Prop}
    (hr : Room k X.A) (TB : TabB X.base X.mg c P) (hcode : X.env.code = .ref c) (S : GenS X.env scope x) (hi : PE X iter te)
    (hel : ∀ ns pb H1 s1, Inv X pins σ H1 s1 → TabG H1 P → R ns pb H1 → EltN X.prog X.w s1.heap P (cloFrom X.env.cells scope.names []) scope x elt pb)
    (hs : ∀ v, genFold iter X.env v = pure v) (I : Inv X pins σ H s) (h : te σ H fun v H1 => ∃ (yl : Addr) (ns : List Int) (pb : Int → Bool), v = .ref yl ∧ SqL X.K H1 yl (ns.map V.int) ∧ TabG H1 P ∧ R ns pb H1)
    (hQ : ∀ ns pb H1 g z, R ns pb H1 → ReadyN X pins σ H1 P ns pb g z → Q' (.ref g) z) :
    wpAny (model X.prog X.w) X.A (eval (.GeneratorExp elt [⟨.Name x px, iter, [], 0⟩] scope gpos) X.env) Q' X.xe s := by
  refine wpAny_GeneratorExp_walksQ hr.hd S.co (closure_ok S.free) S.cell S.dot S.loc S.kind (by have := hr.dp; omega) ?_ hs
  refine thn (hi.run pins s σ H _ I h) fun xv s1 ⟨v, H1, I1, r1, q1⟩ => ?_
  obtain ⟨yl, ns, pb, rfl, hyl, tb, q1⟩ := q1
  have hel := hel ns pb H1 s1 I1 tb q1
  obtain ⟨ps, hP, ht⟩ := tb
  obtain rfl : xv = Value.ref yl := r1
  obtain ⟨its, rv, hl, hz⟩ := I1.list hyl
  have hIL := hl.isList
  have hlen : its.length = ns.length := by rw [← rv.length, List.length_map]
  have hat : ∀ (i : Nat) (v : Value), its.toArray[i]? = some v → ∃ (a : Int) (u : Tok), ns[i]? = some a ∧ v = .int a u := fun i v hv => by
    have hv2 : its[i]? = some v := by simpa using hv
    have hi2 : i < its.length := (List.getElem?_eq_some_iff.mp hv2).1
    obtain ⟨a, ha⟩ : ∃ a, ns[i]? = some a := ⟨ns[i]'(by omega), List.getElem?_eq_getElem _⟩
    have hb : (ns.map V.int)[i]? = some (V.int a) := by rw [List.getElem?_map, ha] <;> rfl
    obtain ⟨u, hu, ru⟩ := rv.get hb
    rw [hv2] at hu
    cases hu
    obtain ⟨t, e⟩ := (show ∃ t, v = Value.int a t from ru)
    exact ⟨a, t, ha, e⟩
  refine wpAny_pyIter_list hIL ?_
  generalize ho : ({ cls := .type "list_iterator", data := .fields #[.ref yl, .int 0 0] } : Obj) = o
  have hitr : (s1.heap.push o).IsListIter s1.heap.objs.size yl 0 := by
    subst ho
    exact ⟨_, Heap.get?_push_size _ rfl, rfl, rfl⟩
  have hylt : yl < s1.heap.objs.size := by
    obtain ⟨_, e, _⟩ := _root_.id hIL
    exact Heap.lt_size e
  have eP : s1.heap.get? P = some { cls := .none, data := .fields ps } := I1.hok P _ hP
  have ltP : P < s1.heap.objs.size := Heap.lt_size eP
  have eP2 := Heap.get?_push_of_some o eP
  have cd : PySem.W.CodeHd (s1.heap.push o) c P := TB.code.keeps fun b u e => Heap.get?_push_of_some _ (I1.bk b u e)
  have lim := I1.nolimit.push o
  have szp : (s1.heap.push o).objs.size = s1.heap.objs.size + 1 := Heap.size_push ..
  have stP : cStatics ≠ P := fun e => by
    obtain ⟨_, ⟨o', es, ep, ho, hd, _⟩, _⟩ := I1.nolimit
    rw [e, eP] at ho
    cases ho
    cases hd
  have stlt : cStatics < s1.heap.objs.size := let ⟨_, hns, _⟩ := I1.nolimit; hns.lt
  have hylP : yl ≠ P := fun z => by
    obtain ⟨_, e, hc1, _, hd1⟩ := _root_.id hIL
    rw [z, eP] at e
    cases e
    cases hd1
  have go : ∀ (code : Value) (h3 : Heap) (tk : Nat) (more : Array Value), Heap.ExtBut P (s1.heap.push o) h3 → (s1.heap.push o).objs.size ≤ h3.objs.size → h3.get? P = some { cls := .none, data := .fields (ps ++ more) } → TriplesOk (ps ++ more).toList →
      wpAny (model X.prog X.w) X.A (builtinsFor X.env.globals X.env.builtins) (fun bi s₄ =>
        ∃ Ia fp wr n₀ Pf St₀ pz F, Value.ref s1.heap.objs.size = .ref Ia ∧ (∀ A' : Around, A'.handled = none → Walks X.prog X.w A' Ia fp wr n₀ Pf St₀) ∧ St₀ 0 s₄.heap ∧ (∀ b ∈ fp, b < s₄.heap.objs.size) ∧ s₄.heap.NoLimit ∧ cStatics ∉ wr ∧
          (∀ href : Heap, (∀ b o, s₄.heap.get? b = some o → href.get? b = some o) →
            QuietGen X.prog X.w (genEnv scope (cloFrom X.env.cells scope.names []) s₄.heap.objs.size code bi X.env) x [] elt (List.range s₄.heap.objs.size) wr Pf pz F href) ∧
          (∀ a h₅ tk gs, gs.bare = true → s₄.heap.objs.size < a → h₅.objs.size = a + 1 → (∀ b o, s₄.heap.get? b = some o → h₅.get? b = some o) →
            WalksS X.prog X.w X.A.in4 a (a :: s₄.heap.objs.size :: List.range s₄.heap.objs.size) (s₄.heap.objs.size :: wr) (GenOnlyQ s₄.gens.size) (passing pz n₀ 0).length
              (fun j y => ∃ i, (passing pz n₀ 0)[j]? = some i ∧ F i y) (GenAt X.prog X.w X.A.in4 a s₄.gens.size s₄.heap.objs.size (List.range s₄.heap.objs.size) wr pz n₀ F) →
            GenAt X.prog X.w X.A.in4 a s₄.gens.size s₄.heap.objs.size (List.range s₄.heap.objs.size) wr pz n₀ F 0 { s₄ with gens := s₄.gens.push gs, toks := tk, heap := h₅ } →
            Q' (.ref a) { s₄ with gens := s₄.gens.push gs, toks := tk, heap := h₅ })) X.xe { s1 with heap := h3, toks := tk } := by
    intro code h3 tk more hx hsz e3 ht3
    obtain ⟨bm, ob, b1, b2, b3, b4, b5, b6, b7, b8⟩ := TB.bm
    have old : ∀ b u, b ≠ P → s1.heap.get? b = some u → h3.get? b = some u := fun b u hb e => hx b u hb (Heap.get?_push_of_some _ e)
    refine wpAny_builtinsFor (m := X.mg) (by rw [I1.ok.glob]; exact ((I1.mod.glob.keeps I1.bk).push o).extBut hx TB.gP) b1 b2 (old _ _ b4 (I1.bk _ _ b5)) b6 b7 b8 ?_
    have hIL3 : h3.IsList yl its.toArray := by
      obtain ⟨ob, e, r⟩ := _root_.id hIL
      exact ⟨ob, old _ _ hylP e, r⟩
    have hItr3 : h3.IsListIter s1.heap.objs.size yl 0 := hitr.at fun u e => hx _ u (Nat.ne_of_gt ltP) e
    refine ⟨s1.heap.objs.size, [s1.heap.objs.size, yl], [s1.heap.objs.size], its.toArray.size, (fun i v => its.toArray[i]? = some v), (fun i h => h.IsListIter s1.heap.objs.size yl i ∧ h.IsList yl its.toArray), (fun _ => true),
      (fun i y => ∃ a : Int, ns[i]? = some a ∧ y = .bool (pb a)), rfl, (fun A' hA => Walks.list hA _ _ (Nat.ne_of_lt hylt) _), ⟨hItr3, hIL3⟩, ?_, lim.extBut hx stP, ?_, ?_, ?_⟩
    · intro b hb
      rcases List.mem_cons.mp hb with z | z
      · rw [z]
        exact Nat.lt_of_lt_of_le (by rw [szp]; exact Nat.lt_succ_self _) hsz
      · rw [List.mem_singleton.mp z]
        exact Nat.lt_of_lt_of_le (Nat.lt_of_lt_of_le hylt (by rw [szp]; exact Nat.le_succ _)) hsz
    · intro z
      exact Nat.ne_of_lt stlt (List.mem_singleton.mp z)
    · intro href hk
      constructor
      · intro A' E' i v s₂ m₂ hA hPv hn hm hk2
        simp only [List.forIn_nil]
        exact wpAny_pure ⟨rfl, keeps_refl _⟩
      · intro A' E' i v s₂ m₂ hA hPv hp hn hm hk2
        obtain ⟨a, u, ha, rfl⟩ := hat i v hPv
        refine wpAny_mono (hel _ A' E' a u s₂ m₂ rfl rfl hA (fun b w' hb e1 => ?_) hn hm) (fun y s3 r => ⟨⟨a, ha, r.1⟩, r.2⟩) fun _ _ e => e
        have e2 := old b w' hb e1
        have l1 : b < s1.heap.objs.size := Heap.lt_size e1
        refine hk2 b (List.mem_range.mpr (Heap.lt_size e2)) (fun z => ?_) w' (hk b w' e2)
        exact Nat.ne_of_lt l1 (List.mem_singleton.mp z)
    · intro g h5 tk5 gs hgb hag hsz5 hk5 W5 hgat
      simp only [GxR.passing_true, List.length_range] at W5
      have hn5 : its.toArray.size = ns.length := by rw [List.size_toArray, hlen]
      rw [hn5] at W5 hgat
      refine hQ ns pb H1 g _ q1 ⟨_, _, _, _, _, W5.in4_1, hgat, ?_, fun s' hm => ?_⟩
      · intro j y sj Qj Ej hy hQj
        obtain ⟨i, hij, a, ha, rfl⟩ := hy
        obtain ⟨hj, ej⟩ := List.getElem?_eq_some_iff.mp hij
        rw [List.getElem_range] at ej
        subst ej
        have hQ2 : Qj (trN pb ns j) sj := hQj
        rw [trN_some ha] at hQ2
        exact wpAny_truthy_bool hQ2
      · have nwr : ∀ b u, s1.heap.get? b = some u → b ∉ h3.objs.size :: [s1.heap.objs.size] := fun b u e hb => by
          have hl := Heap.lt_size e
          rcases List.mem_cons.mp hb with z | z
          · exact Nat.ne_of_lt (Nat.lt_of_lt_of_le (Nat.lt_trans hl (Nat.lt_succ_self _)) (Nat.le_trans (Nat.le_of_eq szp.symm) hsz)) z
          · exact Nat.ne_of_lt hl (List.mem_singleton.mp z)
        have J := inv_tab (more := more) (h' := s'.heap) (g' := s'.gens) (d' := s'.drawn) (t' := s'.toks) I1 hP (fun b u hb e => hm.heap b u (nwr b u e) (hk5 b u (old b u hb e)))
          (hm.heap P _ (nwr P _ eP) (hk5 P _ e3)) (AllBare.movedS (I1.bare.push hgb) hm)
        rw [sh_eta s1 s' hm.os] at J
        exact ⟨upd H1 P (.tbl (ps ++ more)), ⟨⟨ps ++ more, upd_same, ht3⟩, fun b hb => upd_ne hb⟩, J⟩
  refine ⟨lim, ?_⟩
  cases hf : codeAmong gpos ps.toList with
  | none =>
    refine wpAny_genexprCodeX hcode (cd.code eP2 ht) (cd.tab eP2) hf fun c' h' tk hx hge hlt hco' _ htab' _ => ?_
    obtain ⟨o1, vs, f1, tf, fl, tg, inF, tx, tt, op, _, _, _, _, _, _, _, _, _, htr, _⟩ := hco'
    exact go _ h' tk _ hx (Nat.le_trans hge (Nat.le_of_lt hlt)) htab'.2 htr
  | some cv =>
    refine wpAny_genexprCode_hit hcode (cd.code eP2 ht) hf ?_
    refine go cv (s1.heap.push o) s1.toks #[] (Heap.ExtBut.refl _ _) (Nat.le_refl _) ?_ ?_
    · rw [Array.append_empty]; exact eP2
    · rw [Array.append_empty]; exact ht

theorem clo_last {x y : Str} {names : List (Str × NameKind)} (hnm : names = [((".0" : Str), NameKind.local), (x, NameKind.local), (y, NameKind.free)]) (cells : List (Str × Addr)) (c : Addr) (h : cells.lookup y = some c) : (cloFrom cells names []).lookup y = some c := by
  subst hnm
  show List.lookup y [(y, (cells.lookup y).getD 0)] = some c
  rw [h]
  simp
theorem free_one {x : Str} {names : List (Str × NameKind)} {cells : List (Str × Addr)} (h : names.all (fun y => y.2 != .free || y.1 == x) = true) (hc : ∃ c, cells.lookup x = some c) : ∀ y ∈ names, y.2 = .free → ∃ c, cells.lookup y.1 = some c := fun y hy e => by
  have q := List.all_eq_true.mp h y hy
  rw [e] at q
  have q2 : (y.1 == x) = true := by simpa using q
  rw [beq_iff_eq.mp q2]
  exact hc
/-- all(x >= y.f for x in te), y a name of the def (its slot i), te a list of ints -/
def tAllGe (K : PySem.W.Frag) (P : Addr) (i : Nat) (f : Str) (te : TE) : TE := fun σ H Q => te σ H fun v H1 => ∃ (yl : Addr) (ns : List Int) (y C dx : Addr) (fs : List (Str × V)) (a : Int), v = .ref yl ∧ SqL K H1 yl (ns.map V.int) ∧ TabG H1 P ∧
  σ[i]? = some (some (.ref y)) ∧ H1 y = some (.ins C dx fs) ∧ Cls K C ∧ NoAttr K C f ∧ fs.lookup f = some (.int a) ∧ ∀ H2, Tabbed P H1 H2 → Q (.bl (ns.all fun n => decide (a ≤ n))) H2
theorem elt_ge {x y f : Str} {i : Nat} {scope : Scope} {p1 p2 p3 p4 : Pos} {H1 : Hp} {s1 : Shared} {c P a dx C : Addr} {fs : List (Str × V)} {n0 : Int} (I : Inv X pins σ H1 s1) (hkf : scope.kind = .function) (hlx : scope.names.lookup x = some .local) (hly : scope.names.lookup y = some .free)
    (hcl : ∀ (cells : List (Str × Addr)) c, cells.lookup y = some c → (cloFrom cells scope.names []).lookup y = some c) (hN : X.N[i]? = some y) (hv : X.env.scope.names.lookup y = some .cell) (tb : TabG H1 P)
    (hσ : σ[i]? = some (some (.ref a))) (hy : H1 a = some (.ins C dx fs)) (cl : Cls X.K C) (na : NoAttr X.K C f) (hf : fs.lookup f = some (.int n0))
    (hb : ∀ env, attributeBase (.Name y p2) f env (eval (.Name y p2) env) = eval (.Name y p2) env) (hd : (x == ("__debug__" : Str)) = false := by decide) (hdy : (y == ("__debug__" : Str)) = false := by decide) (hcd : (y == ("__classdict__" : Str)) = false := by decide) :
    EltN X.prog X.w s1.heap P (cloFrom X.env.cells scope.names []) scope x (.Compare (.Name x p1) [.GtE] [.Attribute (.Name y p2) f p3] p4) (fun n => decide (n0 ≤ n)) := by
  obtain ⟨m1, hn1, hl1⟩ := I.loc
  obtain ⟨u, ru, lk⟩ := hl1 i y _ hN hσ (.inr (.inl hv))
  obtain rfl : u = Value.ref a := ru
  obtain ⟨ps, hP, _⟩ := tb
  intro ce B F n t z m hs hc hh hk hn hm
  obtain ⟨cy, hcy, hcell⟩ : ∃ c, X.env.cells.lookup y = some c ∧ s1.heap.IsCell c (some (.ref a)) := by
    rcases lk with ⟨e, _⟩ | ⟨_, q⟩
    · have e' : X.env.scope.names.lookup y = some .local := e
      rw [hv] at e'
      cases e'
    · exact q
  have ncP : cy ≠ P := fun e => by
    have := I.freeC y cy hcy
    rw [e, hP] at this
    cases this
  have hcell2 : z.heap.IsCell cy (some (.ref a)) := by
    obtain ⟨o, ho, hd'⟩ := hcell
    exact ⟨o, hk cy o ncP ho, hd'⟩
  obtain ⟨mA, O, r, wi, _, ho⟩ := ins_get I.hok hy
  have naP : a ≠ P := fun e => by
    rw [e, hP] at hy
    cases hy
  have ndP : dx ≠ P := fun e => by
    rw [e, hP] at ho
    cases ho
  have O2 : ObjM z.heap a dx C mA := by
    obtain ⟨o1, ⟨od, es, ep, e2, c2⟩, ne⟩ := O
    exact ⟨hk a _ naP o1, ⟨od, es, ep, hk dx _ ndP e2, c2⟩, ne⟩
  obtain ⟨v, hvf, rvf⟩ := RelO.some_of (v := V.int n0) (o := mA f) (by rw [← hf]; exact r f)
  have KI : X.K.In z.heap := I.mod.kin.keeps fun b o e => hk b o (fun q => by
    have := (I.bs b o e).2
    rw [q, hP] at this
    cases this) (I.bk b o e)
  refine wpAny_Compare1 ?_
  refine wpAny_Name (wpAny_loadName_local (by rw [hs]; exact hkf) (show ce.scope.names.lookup x = some .local by rw [hs]; exact hlx) hn hm ?_) hd
  refine attr_of (hb ce) ?_
  refine wpAny_Name (wpAny_loadName_free (by rw [hs]; exact hkf) (show ce.scope.names.lookup y = some .free by rw [hs]; exact hly) (by rw [hc]; exact hcl _ _ hcy) hcell2 ?_ hcd) hdy
  refine get_map KI O2 (cl.get f) cl.hd na hvf (handed_of rvf) ?_
  obtain ⟨t0, rfl⟩ := (show ∃ t, v = Value.int n0 t from rvf)
  exact ge_int ⟨rfl, keeps_tok _ _⟩
theorem pe_allGe {c P : Addr} {iter : Expr} {x y f : Str} {i : Nat} {px p p1 p2 p3 p4 pos gpos : Pos} {scope : Scope} {te : TE} {k : Nat}
    (hr : Room k X.A) (hg : Gl X "all") (hm : X.mg "all" = none) (TB : TabB X.base X.mg c P) (hcode : X.env.code = .ref c) (S : GenS X.env scope x) (hi : PE X iter te) (hkf : scope.kind = .function) (hlx : scope.names.lookup x = some .local) (hly : scope.names.lookup y = some .free)
    (hcl : ∀ (cells : List (Str × Addr)) c, cells.lookup y = some c → (cloFrom cells scope.names []).lookup y = some c) (hN : X.N[i]? = some y) (hv : X.env.scope.names.lookup y = some .cell)
    (hb : ∀ env, attributeBase (.Name y p2) f env (eval (.Name y p2) env) = eval (.Name y p2) env) (hs : ∀ v, genFold iter X.env v = pure v) (hd : (x == ("__debug__" : Str)) = false := by decide) (hdy : (y == ("__debug__" : Str)) = false := by decide) (hcd : (y == ("__classdict__" : Str)) = false := by decide)
    (he : starEach [.GeneratorExp (.Compare (.Name x p1) [.GtE] [.Attribute (.Name y p2) f p3] p4) [⟨.Name x px, iter, [], 0⟩] scope gpos] X.env = (false, eval (.GeneratorExp (.Compare (.Name x p1) [.GtE] [.Attribute (.Name y p2) f p3] p4) [⟨.Name x px, iter, [], 0⟩] scope gpos) X.env) :: starEach [] X.env := by rfl) :
    PE X (.Call (.Name "all" p) [.GeneratorExp (.Compare (.Name x p1) [.GtE] [.Attribute (.Name y p2) f p3] p4) [⟨.Name x px, iter, [], 0⟩] scope gpos] [] pos) (tAllGe X.K P i f te) := by
  refine ⟨fun pins s σ H Q I h => ?_⟩
  refine wpAny_Call_Name_kw (ld_blt I hg hm (by decide +kernel : bootBuiltins "all" = some (.builtin "all")) ?_)
  refine PyProof.Rows.callWith_builtin1 ?_ he (by rfl)
  rw [he]
  let R : List Int → (Int → Bool) → Hp → Prop := fun ns pb H1 => ∃ (a C dx : Addr) (fs : List (Str × V)) (n0 : Int), pb = (fun n => decide (n0 ≤ n)) ∧ σ[i]? = some (some (.ref a)) ∧ H1 a = some (.ins C dx fs) ∧ Cls X.K C ∧ NoAttr X.K C f ∧ fs.lookup f = some (.int n0) ∧ ∀ H2, Tabbed P H1 H2 → Q (.bl (ns.all pb)) H2
  refine Calls.spliced_cons (genN (R := R) hr TB hcode S hi (fun ns pb H1 s1 I1 tb hR => ?_) hs I ?_ fun ns pb H1 g z hR hG => Calls.spliced_nil ?_)
  · obtain ⟨a, C, dx, fs, n0, rfl, hσ, hy, cl, na, hf, _⟩ := hR
    exact elt_ge (c := c) I1 hkf hlx hly hcl hN hv tb hσ hy cl na hf hb hd hdy hcd
  · have mono : ∀ (v : V) (H1 : Hp), (∃ (yl : Addr) (ns : List Int) (y C dx : Addr) (fs : List (Str × V)) (a : Int), v = .ref yl ∧ SqL X.K H1 yl (ns.map V.int) ∧ TabG H1 P ∧
        σ[i]? = some (some (.ref y)) ∧ H1 y = some (.ins C dx fs) ∧ Cls X.K C ∧ NoAttr X.K C f ∧ fs.lookup f = some (.int a) ∧ ∀ H2, Tabbed P H1 H2 → Q (.bl (ns.all fun n => decide (a ≤ n))) H2) →
        ∃ (yl : Addr) (ns : List Int) (pb : Int → Bool), v = .ref yl ∧ SqL X.K H1 yl (ns.map V.int) ∧ TabG H1 P ∧ R ns pb H1 := fun v H1 ⟨yl, ns, y, C, dx, fs, a, e, h1, h2, h3, h4, h5, h6, h7, h8⟩ =>
      ⟨yl, ns, _, e, h1, h2, y, C, dx, fs, a, rfl, h3, h4, h5, h6, h7, h8⟩
    have e : (fun (v : V) (H1 : Hp) => ∃ (yl : Addr) (ns : List Int) (y C dx : Addr) (fs : List (Str × V)) (a : Int), v = .ref yl ∧ SqL X.K H1 yl (ns.map V.int) ∧ TabG H1 P ∧
        σ[i]? = some (some (.ref y)) ∧ H1 y = some (.ins C dx fs) ∧ Cls X.K C ∧ NoAttr X.K C f ∧ fs.lookup f = some (.int a) ∧ ∀ H2, Tabbed P H1 H2 → Q (.bl (ns.all fun n => decide (a ≤ n))) H2) =
        (fun (v : V) (H1 : Hp) => ∃ (yl : Addr) (ns : List Int) (pb : Int → Bool), v = .ref yl ∧ SqL X.K H1 yl (ns.map V.int) ∧ TabG H1 P ∧ R ns pb H1) := by
      funext v H1
      refine propext ⟨mono v H1, ?_⟩
      rintro ⟨yl, ns, pb, e, h1, h2, a, C, dx, fs, n0, rfl, h3, h4, h5, h6, h7, h8⟩
      exact ⟨yl, ns, a, C, dx, fs, n0, e, h1, h2, h3, h4, h5, h6, h7, h8⟩
    have h' : te σ H _ := h
    rw [e] at h'
    exact h'
  obtain ⟨fp, wr, G, F, St, W, hst, htr, hI⟩ := hG
  obtain ⟨a, C, dx, fs, n0, rfl, _, _, _, _, _, hR⟩ := hR
  refine call_all_walkS (W.self 0 _ _ _ hst ⟨g, fp, wr, G, _, F, St, _, rfl, W, hst, htr, fun s' hmv => ?_⟩)
  obtain ⟨H2, hT, J⟩ := hI s' hmv
  exact ⟨.bl _, H2, J, rfl, by rw [all_trN]; exact hR H2 hT⟩
end
end MyG
namespace L2
open PySem PySem.Spec PyProof.Rows
/-- as Fun.okX, where the def's code object is known -/
theorem Fun.okC {P : Program} {w : World} {K : PySem.W.Frag} {mg : Str → Option Value} {base : Heap} {x qual : Str} {st : Stmt} {f c : Addr} {fd : FuncData} {N ps : List Str} {k : Nat} {sp : Sp} (F : Fun K x qual st f fd) (hfc : fd.code = Value.ref c) (S : FnScope N ps (defScope st)) (len : ∀ vs H Q E, sp vs H Q E → vs.length = ps.length)
    (hbody : ∀ (A : Around) (outer : List Env) (s : Shared) (H : Hp) (vs : List V) (Q : VK) (E : XK), Room k (A.deeper (envOfC qual (defScope st) s.heap.objs.size f (Value.ref c))) → sp vs H Q E →
      ∃ t, PSs (cxOf (L2.CX P w) P w K mg base N qual (defScope st) f (Value.ref c) A outer s H E) (defBody st) t ∧ t { nx := fun _ H' => Q .non H', rt := Q } (start N vs) H) : FnOk P w K mg base (L2.CX P w) (k + 1) f fd ps sp := by
  obtain ⟨oc, od, kV, doc, pm, an, cdv, ct, osl, efd, lk, hcd⟩ := F.ex
  subst efd
  have ecd : cdv = Value.ref c := hfc
  subst ecd
  exact fn_of lk hcd S len fun A outer s H vs Q E hr hsp => hbody A outer s H vs Q E hr hsp
end L2

set_option Elab.async false
set_option linter.all false
set_option maxRecDepth 100000
set_option maxHeartbeats 2000000
namespace W
open PySem PySem.Spec PyProof.Rows L2 GxR MyG MyS MyR
/-! ### _has_way -/
abbrev sHW : Stmt := top 42
abbrev nHW : List Str := ["behind", "ends", "cut", "met", "further"]
theorem scHW : FnScope nHW ["behind", "ends", "cut"] (defScope sHW) := ⟨rfl, rfl, rfl, by decide +kernel, rfl, by decide +kernel, by decide +kernel⟩
abbrev qHW : Str := ("_has_way" ++ ".<locals>.") ++ "<lambda>"
def lamPosIn : List Stmt → Pos
  | (.Assign _ (.Call _ (_ :: .Lambda _ _ _ p :: _) _ _) _) :: _ => p
  | _ => ⟨0, 0, 0, 0⟩
def lamScIn : List Stmt → Scope
  | (.Assign _ (.Call _ (_ :: .Lambda _ _ sc _ :: _) _ _) _) :: _ => sc
  | _ => { kind := .function, names := [], isGenerator := false, isCoroutine := false, more := [] }
def genPosIn : List Stmt → Pos
  | _ :: (.Return (some (.Call _ (.GeneratorExp _ _ _ p :: _) _ _)) _) :: _ => p
  | _ => ⟨0, 0, 0, 0⟩
abbrev posHW : Pos := lamPosIn (defBody sHW)
/-- nothing but tables has changed; the table Pw knows its lambda's code object -/
structure WentW (P Pw : Addr) (H H' : Hp) : Prop where
  old : ∀ b o, H b = some o → (∀ ps, o ≠ .tbl ps) → H' b = some o
  tab : TabG H' P
  tr : LamP.TabAt H' Pw qHW posHW
  free : ∀ b, H' b = none → H b = none
theorem tabAt_grew {P Pq : Addr} {q : Str} {pos : Pos} {H H' : Hp} (g : Grew P H H') (hP : TabG H P) (ne : Pq ≠ P) (t : LamP.TabAt H Pq q pos) : LamP.TabAt H' Pq q pos := by
  obtain ⟨ps, h1, h2, h3⟩ := t
  refine ⟨ps, g.old _ _ ne h1, h2, fun cv hc => ?_⟩
  obtain ⟨c, e1, e2⟩ := h3 cv hc
  exact ⟨c, e1, g.get hP e2 LamX.codeO_ne⟩
section
variable {P Pw : Addr} {H H1 H2 : Hp}
theorem WentW.refl (h : TabG H P) (hr : LamP.TabAt H Pw qHW posHW) : WentW P Pw H H := ⟨fun _ _ e _ => e, h, hr, fun _ e => e⟩
theorem WentW.trans (a : WentW P Pw H H1) (b : WentW P Pw H1 H2) : WentW P Pw H H2 := ⟨fun c o e n => b.old c o (a.old c o e n) n, b.tab, b.tr, fun c e => a.free c (b.free c e)⟩
theorem WentW.grew (h : TabG H P) (hr : LamP.TabAt H Pw qHW posHW) (ne : Pw ≠ P) (g : Grew P H H1) : WentW P Pw H H1 := ⟨fun b o e n => g.get h e n, g.tab, tabAt_grew g h ne hr, fun b e => g.free e⟩
theorem WentW.more (a : WentW P Pw H H1) (ne : Pw ≠ P) (g : Grew P H1 H2) : WentW P Pw H H2 := a.trans (WentW.grew a.tab a.tr ne g)
theorem WentW.write (a : WentW P Pw H H1) {L : Addr} {o u : HO} (e : H1 L = some u) (d : ∀ ps, u ≠ .tbl ps) (dc : ∀ f, u ≠ .ext f) (n : H L = none) : WentW P Pw H (L2.upd H1 L o) := by
  refine ⟨fun b o e n' => ?_, ?_, ?_, fun b e' => ?_⟩
  · by_cases eb : b = L
    · rw [eb, n] at e; cases e
    · rw [upd_ne eb]; exact a.old b o e n'
  · exact tabUpd a.tab (fun z => by obtain ⟨ts, e1, _⟩ := a.tab; rw [← z, e] at e1; cases e1; exact d _ rfl)
  · obtain ⟨ts, h1, h2, h3⟩ := a.tr
    refine ⟨ts, by rw [upd_ne (fun z => by rw [z, e] at h1; cases h1; exact d _ rfl)]; exact h1, h2, fun cv hc => ?_⟩
    obtain ⟨c, e1, e2⟩ := h3 cv hc
    exact ⟨c, e1, by rw [upd_ne (fun z => by rw [z, e] at e2; exact dc _ (Option.some.inj e2))]; exact e2⟩
  · by_cases eb : b = L
    · rw [eb, upd_same] at e'; cases e'
    · rw [upd_ne eb] at e'; exact a.free b e'
theorem WentW.put (a : WentW P Pw H H1) {L : Addr} {o : HO} (n : H1 L = none) : WentW P Pw H (L2.upd H1 L o) := by
  have nP : L ≠ P := fun z => by obtain ⟨ts, e1, _⟩ := a.tab; rw [← z, n] at e1; cases e1
  refine ⟨fun b o e n' => ?_, ?_, ?_, fun b e' => ?_⟩
  · have q := a.old b o e n'
    rw [upd_ne (fun z => by rw [z, n] at q; cases q)]; exact q
  · obtain ⟨ts, e1, e2⟩ := a.tab
    exact ⟨ts, by rw [upd_ne (Ne.symm nP)]; exact e1, e2⟩
  · obtain ⟨ts, h1, h2, h3⟩ := a.tr
    refine ⟨ts, by rw [upd_ne (fun z => by rw [z, n] at h1; cases h1)]; exact h1, h2, fun cv hc => ?_⟩
    obtain ⟨c, e1, e2⟩ := h3 cv hc
    exact ⟨c, e1, by rw [upd_ne (fun z => by rw [z, n] at e2; cases e2)]; exact e2⟩
  · by_cases eb : b = L
    · rw [eb, upd_same] at e'; cases e'
    · rw [upd_ne eb] at e'; exact a.free b e'
theorem WentW.sub (h : TabG H P) (hr : LamP.TabAt H Pw qHW posHW) (s : Sub H H1) : WentW P Pw H H1 := by
  refine ⟨fun b o e _ => s b o e, ?_, ?_, fun b e => s.free e⟩
  · obtain ⟨ps, h1, h2⟩ := h
    exact ⟨ps, s _ _ h1, h2⟩
  · obtain ⟨ps, h1, h2, h3⟩ := hr
    exact ⟨ps, s _ _ h1, h2, fun cv hc => let ⟨c, e1, e2⟩ := h3 cv hc; ⟨c, e1, s _ _ e2⟩⟩
theorem WentW.lam (h : TabG H P) (ne : Pw ≠ P) (st : LamP.LamStepP Pw qHW posHW H H1) : WentW P Pw H H1 := by
  refine ⟨fun b o e n => st.old' e n, ?_, st.1, fun b e => st.free e⟩
  obtain ⟨ps, h1, h2⟩ := h
  exact ⟨ps, st.old h1 (Ne.symm ne), h2⟩
theorem WentW.gen {gpos : Pos} (h : TabG H P) (hr : LamP.TabAt H Pw qHW posHW) (ne : Pw ≠ P) (m : GenE.TabM Pw gpos H H1) (n : ¬ ((gpos.line : Int) = posHW.line ∧ (gpos.col : Int) = posHW.col)) : WentW P Pw H H1 := by
  have t := hr.gen m n
  have tb := m.tabbed
  refine ⟨fun b o e n' => ?_, ?_, t, fun b e => ?_⟩
  · rw [tb.2 b (fun z => by obtain ⟨ps, h1, _⟩ := hr; rw [z, h1] at e; cases e; exact n' _ rfl)]; exact e
  · obtain ⟨ps, h1, h2⟩ := h
    exact ⟨ps, by rw [tb.2 P (Ne.symm ne)]; exact h1, h2⟩
  · by_cases z : b = Pw
    · obtain ⟨ps, h1, _⟩ := t
      rw [z, h1] at e; cases e
    · rw [tb.2 b z] at e; exact e
theorem WentW.lst (a : WentW P Pw H H1) {b : Addr} {xs : List V} (e : H b = some (.lst xs)) : H1 b = some (.lst xs) := a.old _ _ e fun _ z => by cases z
theorem WentW.tup (a : WentW P Pw H H1) {b : Addr} {xs : List V} (e : H b = some (.tup xs)) : H1 b = some (.tup xs) := a.old _ _ e fun _ z => by cases z
theorem WentW.dK (a : WentW P Pw H H1) {b : Addr} {xs : List (Key × V)} (e : H b = some (.dK xs)) : H1 b = some (.dK xs) := a.old _ _ e fun _ z => by cases z
end
/-- what can be come to from no road -/
inductive Met0 (nxt : Str → List Str) : Str → Prop
  | nil : Met0 nxt Str.empty
  | step {z y : Str} : Met0 nxt z → y ∈ nxt z → Met0 nxt y
theorem met0_iff {nxt : Str → List Str} {es : Met} (S : Spread Str.empty nxt es) (z : Str) : z ∈ es.map (·.1) ↔ Met0 nxt z := by
  have e0 : Str.empty ∈ es.map (·.1) := by
    obtain ⟨r, hr⟩ := S.hd
    rw [hr]; exact List.mem_cons_self
  constructor
  · have key : ∀ (i : Nat) (e : Str × Option Str), es[i]? = some e → Met0 nxt e.1 := by
      intro i
      induction i using Nat.strongRecOn with
      | ind i ih =>
        intro e he
        by_cases i0 : i = 0
        · obtain ⟨r, hr⟩ := S.hd
          rw [i0, hr] at he
          cases he
          exact .nil
        · obtain ⟨p, _, hp, hy⟩ := S.par i e he (Nat.pos_of_ne_zero i0)
          obtain ⟨q, hq, eq⟩ := List.mem_map.mp hp
          obtain ⟨j, hj, ej⟩ := List.getElem_of_mem hq
          have hj2 := hj
          rw [List.length_take] at hj2
          have ej2 : es[j]? = some q := by rw [← ej, List.getElem_take]; exact List.getElem?_eq_getElem _
          have m := ih j (by omega) q ej2
          rw [eq] at m
          exact .step m hy
    intro h
    obtain ⟨e, he, rfl⟩ := List.mem_map.mp h
    obtain ⟨i, hi, ei⟩ := List.getElem_of_mem he
    exact key i e (by rw [← ei]; exact List.getElem?_eq_getElem hi)
  · intro h
    induction h with
    | nil => exact e0
    | step _ hy ih => exact S.cl _ ih _ hy
/-- a dict of lists of texts -/
def DictL (H : Hp) (D : Addr) (nxt : Str → List Str) (U : List Str) : Prop := ∃ kvs, H D = some (.dK kvs) ∧ ∀ z ∈ Str.empty :: U, ∃ l, valV kvs (.inr z) = some (.ref l) ∧ H l = some (.lst ((nxt z).map V.str))
def cutN (nxt : Str → List Str) (cut : List Str) (z : Str) : List Str := (nxt z).filter fun y => !decide (y ∈ cut)
def spHW (K : PySem.W.Frag) (P Pw : Addr) : Sp := fun vs H Q _ => ∃ (D L C : Addr) (nxt : Str → List Str) (U ends cut : List Str), vs = [.ref D, .ref L, .ref C] ∧ DictL H D nxt U ∧ (∀ z ∈ Str.empty :: U, ∀ y ∈ nxt z, y ∈ U) ∧ U.length ≤ 60 ∧ (∀ z, (nxt z).length ≤ 60) ∧ H L = some (.lst (ends.map V.str)) ∧ (SqL K H C (cut.map V.str) ∨ SqT K H C (cut.map V.str)) ∧ TabG H P ∧ LamP.TabAt H Pw qHW posHW ∧ Pw ≠ P ∧
  ∀ H' b, WentW P Pw H H' → (b = true ↔ ∃ z ∈ ends, Met0 (cutN nxt cut) z) → Q (.bl b) H'
section
variable {Pg : Program} {w : World} {K : PySem.W.Frag} {mg : Str → Option Value} {base : Heap} {C P : Addr}
theorem ok_hw {f Pw c fS : Addr} {fd fdS : FuncData} {t1 : Tok} (F : Fun K "_has_way" "_has_way" sHW f fd) (hfc : fd.code = .ref c) (TB : LamX.TabB base mg c Pw) (hno : mg "NO_ROAD" = some (.str Str.empty t1)) (hany : mg "any" = none)
    (FS : Fun K "spread" "spread" sSpread fS fdS) (gS : mg "spread" = some (.ref fS)) (kS : PySem.W.keepIn K (.ref fS) = true) (bS : Binds K fdS ["first", "steps"] []) :
    FnOk Pg w K mg base (L2.CX Pg w) 9 f fd ["behind", "ends", "cut"] (spHW K P Pw) := by
  obtain ⟨oc, od, kV, doc, pm, an, cdv, ct, osl, efd, lS, cS⟩ := FS.ex
  subst efd
  refine F.okC hfc scHW (fun vs H Q E h => ?_) (fun A outer s H vs Q E hr h => ?_)
  · obtain ⟨D, L, C, nxt, U, ends, cut, rfl, _⟩ := h
    rfl
  · obtain ⟨D, L, C, nxt, U, ends, cut, rfl, hD, hcl, hU, hn60, hL, hC, hP, hTr, ne, k⟩ := h
    refine ⟨_, pss_cons (ps_set (i := 3) scHW.nd rfl (Or.inr rfl) (LamP.pe_lamcall1P (P := Pw) (k := 6) (row := "last") (Ng := nSpread) (a := "steps") (b := "first") (by rfl) gS kS lS cS bS scSpread rfl (Or.inl rfl) spread_gives (pe_gS hno) TB rfl hr (show SprK.LamS1 "last" (defScope sHW) _ from SprK.lamS1_by (by decide +kernel)) (show ("last" : Str) ∉ nHW by decide +kernel) rfl (fun _ _ _ _ _ _ => rfl)
        (fun A outer s H f c' hr2 => by
          refine pe_lc (own := [("further", 5)]) (g := gName 5) (tt := tTest (tOp (rIn K true) (tVar 5) (tVar 3))) (te := tVar 5) rfl (show (("last" : Str) :: nHW).Nodup by decide +kernel) (pi_listK (K := K) rfl (pe_dget (u1 hr2.units) (pv 1) (pv 0) (fun _ _ => rfl))) (blkOk_by (N := ("last" : Str) :: nHW) (sc := lamScIn (defBody sHW)) (by decide +kernel)) (fun _ _ _ _ _ => pg_name (i := 5) (show (("last" : Str) :: nHW).Nodup by decide +kernel) rfl (Or.inl rfl)) (fun _ _ _ _ _ => pts_one ?_) (fun _ _ _ _ _ => ?_)
          · exact pt_cmpR (r := rIn K true) op_notIn_seq (pv 5) (pv 3) (by rfl)
          · exact pv 5)))
      (pss_one (ps_ret (GenE.pe_anyE (P := Pw) (k := 7) (by exact hr) (by rfl) hany ⟨TB.code, TB.bm, TB.gP⟩ rfl (GenE.gnS_by (sc := defScope sHW) (by decide +kernel)) scHW.nd (show ("name" : Str) ∉ nHW by decide +kernel) (show (".0" : Str) ∉ nHW by decide +kernel) (pi_list (pv 1))
        (fun A C code s H fp hr2 => by exact pe_cmp (pc_din (u1 hr2.units) (pv 0) (pv 4))) (fun _ => rfl)))), ?_⟩
    obtain ⟨kvs, eD, allD⟩ := hD
    refine ⟨hTr, fun H2 st => ⟨Str.empty, cutN nxt cut, U, rfl, by omega, fun z hz y hy => hcl z hz y (List.mem_filter.mp hy).1, fun z hz H' Q' sub k2 => ?_, fun D2 H3 es s3 nD2 hD2 S => ?_⟩⟩
    · obtain ⟨l, hv, hl⟩ := allD z hz
      have hl2 := sub _ _ (st.old' hl fun _ z => by cases z)
      have eD2 := sub _ _ (st.old' eD fun _ z => by cases z)
      have hC2 : SqL K H' C (cut.map V.str) ∨ SqT K H' C (cut.map V.str) := by
        rcases hC with h | h
        · left
          rcases h with (h | ⟨o, h⟩) | h
          · exact .inl (.inl (sub _ _ (st.old' h fun _ z => by cases z)))
          · exact .inl (.inr ⟨o, sub _ _ (st.old' h fun _ z => by cases z)⟩)
          · exact .inr h
        · right
          have h := st.sqT h
          rcases h with (h | ⟨o, h⟩) | h
          · exact .inl (.inl (sub _ _ h))
          · exact .inl (.inr ⟨o, sub _ _ h⟩)
          · exact .inr h
      refine ⟨_, rfl, _, rfl, D, .ref l, rfl, by rw [← hv]; exact DGet.k (k := .inr z) eD2, l, rfl, ⟨_, SqL.of hl2⟩, fun R nR => lc_list (K := K) (a := l) (xs := (nxt z).map V.str) (fun i H1 => Sub H' H1 ∧ H1 R = some (.lst ((((nxt z).take i).filter fun y => !decide (y ∈ cut)).map V.str)))
        ⟨Sub.new nR, upd_same⟩ (fun i H1 _ p => SqL.of (p.1 _ _ hl2)) (fun i v H1 hv h => ?_) (fun H1 h => ?_)⟩
      · obtain ⟨s1, hR⟩ := h
        obtain ⟨y, hy, rfl⟩ := str_at hv
        have hil := (List.getElem?_eq_some_iff.mp hy).1
        have et := fsnoc (p := fun y : Str => !decide (y ∈ cut)) hy
        have lf := List.length_filter_le (fun y : Str => !decide (y ∈ cut)) ((nxt z).take i)
        rw [List.length_take] at lf
        have l60 := hn60 z
        have hC3 : SqL K H1 C (cut.map V.str) ∨ SqT K H1 C (cut.map V.str) := by
          rcases hC2 with ((h | ⟨o, h⟩) | h) | ((h | ⟨o, h⟩) | h)
          · exact .inl (.inl (.inl (s1 _ _ h)))
          · exact .inl (.inl (.inr ⟨o, s1 _ _ h⟩))
          · exact .inl (.inr h)
          · exact .inr (.inl (.inl (s1 _ _ h)))
          · exact .inr (.inl (.inr ⟨o, s1 _ _ h⟩))
          · exact .inr (.inr h)
        refine ⟨rfl, _, rfl, _, rfl, C, _, rfl, hC3, rfl, flat_strs _, _, rfl, ?_⟩
        rw [if_pos rfl, inV_dec]
        by_cases c : y ∈ cut
        · rw [if_neg (by rw [decide_eq_true c]; decide), List.append_nil] at et
          exact if_f (by rw [decide_eq_true c]; rfl) ⟨s1, by rw [et]; exact hR⟩
        · rw [if_pos (by rw [decide_eq_false c]; rfl)] at et
          refine if_t (by rw [decide_eq_false c]; rfl) ⟨_, rfl, _, hR, by rw [List.length_map, sizeLine_eq]; omega, s1.write nR, ?_⟩
          rw [upd_same, et, List.map_append]
          rfl
      · obtain ⟨s1, hR⟩ := h
        rw [List.length_map, List.take_length] at hR
        exact k2 R H1 s1 (.inr nR) hR
    · have hT2 : TabG H2 P := (WentW.lam hP ne st).tab
      have w2 := WentW.lam hP ne st
      have w3 := w2.trans (WentW.sub hT2 st.1 s3)
      have met := met0_iff S
      have hL3 := w3.lst hL
      refine ⟨_, rfl, L, rfl, ⟨_, SqL.of hL3⟩, w3.tr.g, fun H4 tm => ?_⟩
      have w4 := w3.trans (WentW.gen w3.tab w3.tr ne tm (by decide +kernel))
      have hL4 := w4.lst hL
      have hD4 : H4 D2 = some (.dK (bfOf es)) := (WentW.gen w3.tab w3.tr ne tm (by decide +kernel)).dK hD2
      refine GenE.walk_list (K := K) (a := L) (xs := ends.map V.str) (fun i H' => H' = H4 ∧ ∀ z ∈ ends.take i, z ∉ es.map (·.1)) ⟨rfl, fun z hz => absurd hz (by simp)⟩ (fun i H' _ p => by rw [p.1]; exact SqL.of hL4) (fun i v H' N nx hv p => ?_) (fun H' p => ?_)
      · obtain ⟨rfl, hno⟩ := p
        obtain ⟨z, hz, rfl⟩ := str_at hv
        have et : ends.take (i + 1) = ends.take i ++ [z] := by rw [List.take_succ, hz]; rfl
        refine ⟨_, rfl, _, rfl, D2, _, rfl, DGet.k (k := .inr z) hD4, ?_⟩
        by_cases c : z ∈ es.map (·.1)
        · obtain ⟨p, e⟩ := val_some c
          rw [e]
          refine ⟨true, rfl, fun h => (by cases h), fun _ => k H' true w4 ⟨fun _ => ⟨z, List.mem_of_getElem? hz, (met z).mp c⟩, fun _ => rfl⟩⟩
        · rw [val_none c]
          refine ⟨false, rfl, fun _ => nx H' ⟨rfl, fun y hy => ?_⟩, fun h => absurd rfl h⟩
          rw [et] at hy
          rcases List.mem_append.mp hy with q | q
          · exact hno y q
          · rw [List.mem_singleton.mp q]; exact c
      · obtain ⟨rfl, hno⟩ := p
        rw [List.length_map, List.take_length] at hno
        exact k H' false w4 ⟨fun h => (by cases h), fun ⟨z, hz, m⟩ => absurd ((met z).mpr m) (hno z hz)⟩
end
end W

set_option Elab.async false
set_option linter.all false
set_option maxRecDepth 100000
set_option maxHeartbeats 2000000
namespace W
open PySem PySem.Spec PyProof.Rows L2 GxR MyG MyS MyR
/-! ### _check_question, vital_roads -/
/-- the names behind a name; behind no name: those of the start -/
def nxtS (kind : Str) (bs : List (Str × Str)) (rs : List RoadD) (start z : Str) : List Str := if z = Str.empty then (nxR kind bs rs start none).map (·.name) else match rs.find? (fun r => decide (r.name = z)) with
  | some r => (nxR kind bs rs r.goal (some r.name)).map (·.name)
  | none => []
theorem nxR_sub {kind : Str} {bs : List (Str × Str)} {rs : List RoadD} {pl : Str} {bf : Option Str} {r : RoadD} (h : r ∈ nxR kind bs rs pl bf) : r ∈ rs := (List.mem_filter.mp h).1
theorem nxtS_name {kind : Str} {bs : List (Str × Str)} {rs : List RoadD} {start : Str} {r : RoadD} (nd : (rs.map (·.name)).Nodup) (h : r ∈ rs) (n : r.name ≠ Str.empty) : nxtS kind bs rs start r.name = (nxR kind bs rs r.goal (some r.name)).map (·.name) := by
  unfold nxtS
  rw [if_neg n]
  cases c : rs.find? (fun r' => decide (r'.name = r.name)) with
  | none => exact absurd (decide_eq_true rfl) ((List.find?_eq_none.mp c) r h)
  | some r' =>
    have e1 : r'.name = r.name := by simpa using List.find?_some c
    rw [uniq_name nd (List.mem_of_find?_eq_some c) h e1]
theorem nxtS_sub {kind : Str} {bs : List (Str × Str)} {rs : List RoadD} {start z y : Str} (h : y ∈ nxtS kind bs rs start z) : y ∈ rs.map (·.name) := by
  unfold nxtS at h
  by_cases c : z = Str.empty
  · rw [if_pos c] at h
    obtain ⟨r, h1, h2⟩ := List.mem_map.mp h
    exact List.mem_map.mpr ⟨r, nxR_sub h1, h2⟩
  · rw [if_neg c] at h
    cases e : rs.find? (fun r' => decide (r'.name = z)) with
    | none => rw [e] at h; cases h
    | some r' =>
      rw [e] at h
      obtain ⟨r, h1, h2⟩ := List.mem_map.mp h
      exact List.mem_map.mpr ⟨r, nxR_sub h1, h2⟩
theorem dictL_of {H : Hp} {D : Addr} {kind start : Str} {rs : List RoadD} {bs : List (Str × Str)} (nd : (rs.map (·.name)).Nodup) (ne : ∀ r ∈ rs, r.name ≠ Str.empty) (h : BehindAt H D kind start rs bs) : DictL H D (nxtS kind bs rs start) (rs.map (·.name)) := by
  obtain ⟨kvs, e, ⟨l, a1, a2⟩, b2⟩ := h
  refine ⟨kvs, e, fun z hz => ?_⟩
  rcases List.mem_cons.mp hz with rfl | hz
  · exact ⟨l, a1, by unfold nxtS; rw [if_pos rfl]; exact a2⟩
  · obtain ⟨r, hr, rfl⟩ := List.mem_map.mp hz
    obtain ⟨l, c1, c2⟩ := b2 r hr
    exact ⟨l, c1, by rw [nxtS_name nd hr (ne r hr)]; exact c2⟩
theorem nxtS_len {kind : Str} {bs : List (Str × Str)} {rs : List RoadD} {start z : Str} (h : rs.length ≤ 60) : (nxtS kind bs rs start z).length ≤ 60 := by
  have key : ∀ pl bf, ((nxR kind bs rs pl bf).map (·.name)).length ≤ 60 := fun pl bf => by
    rw [List.length_map]
    exact Nat.le_trans (List.length_filter_le _ _) h
  unfold nxtS
  split
  · exact key _ _
  · split
    · exact key _ _
    · exact Nat.zero_le _
/-- the names of the roads to a place -/
def endsL (rs : List RoadD) (goal : Str) : List Str := (rs.filter fun r => decide (r.goal = goal)).map (·.name)
/-- there is a way without the roads of a cut -/
def WayP (kind : Str) (bs : List (Str × Str)) (rs : List RoadD) (start goal : Str) (cut : List Str) : Prop := ∃ z ∈ endsL rs goal, Met0 (cutN (nxtS kind bs rs start) cut) z
abbrev sCkQ : Stmt := top 41
abbrev sVital : Stmt := top 43
def spCkQ (K : PySem.W.Frag) (M P : Addr) : Sp := fun vs H Q _ => ∃ (x : Addr) (kind start goal : Str) (d : Int) (ks ps : List Str) (rs : List RoadD) (bs : List (Str × Str)), vs = [.ref x, .str kind, .str start, .str goal] ∧ MIn K H M P x d ks ps rs bs ∧ kind.length ≤ 1000 ∧ (∀ z ∈ ps, z.length ≤ 1000) ∧ kind ∈ ks ∧ start ∈ ps ∧ goal ∈ ps ∧ start ≠ goal ∧ ∀ H', Grew P H H' → Q .non H'
def VitAt (H0 H : Hp) (kind : Str) (bs : List (Str × Str)) (rs : List RoadD) (start goal : Str) (v : V) : Prop :=
  (¬ WayP kind bs rs start goal [] ∧ v = .non) ∨ (WayP kind bs rs start goal [] ∧ ∃ (L : Addr) (f : RoadD → Bool), v = .ref L ∧ H0 L = none ∧ H L = some (.lst (namesV (rs.filter f))) ∧ ∀ r ∈ rs, f r = true ↔ ¬ WayP kind bs rs start goal [r.name])
def spVital (K : PySem.W.Frag) (M P Pw : Addr) : Sp := fun vs H Q _ => ∃ (x : Addr) (kind start goal : Str) (d : Int) (ks ps : List Str) (rs : List RoadD) (bs : List (Str × Str)), vs = [.ref x, .str kind, .str start, .str goal] ∧ MIn K H M P x d ks ps rs bs ∧ RsIn ps rs ∧ kind.length ≤ 1000 ∧ (∀ z ∈ ps, z.length ≤ 1000) ∧ kind ∈ ks ∧ start ∈ ps ∧ goal ∈ ps ∧ start ≠ goal ∧ LamP.TabAt H Pw qHW posHW ∧ Pw ≠ P ∧
  ∀ H' v, WentW P Pw H H' → VitAt H H' kind bs rs start goal v → Q v H'
theorem MIn.went {K : PySem.W.Frag} {P Pw M x : Addr} {H H1 : Hp} {d : Int} {ks ps : List Str} {rs : List RoadD} {bs : List (Str × Str)} (st : WentW P Pw H H1) (m : MIn K H M P x d ks ps rs bs) : MIn K H1 M P x d ks ps rs bs := by
  refine ⟨?_, st.tab, m.nd, m.nl, m.d1, m.ho⟩
  have kt : KeepT K H H1 := fun _ _ m => by
    rcases m with (m | ⟨o, m⟩) | m
    · exact .inl (.inl (st.old _ _ m fun _ z => by cases z))
    · exact .inl (.inr ⟨o, st.old _ _ m fun _ z => by cases z⟩)
    · exact .inr m
  have kr : ∀ {r : RoadD} {v : V}, RoadAt K H r v → RoadAt K H1 r v := fun {r v} ⟨p, q, hv, e, e1, e2, e3⟩ => ⟨p, q, hv, e, st.old _ _ e1 fun _ z => (by cases z), st.old _ _ e2 fun _ z => (by cases z), e3.keep kt⟩
  obtain ⟨dx, fs, kk, pp, rr, D, bb, D2, ys, zs, hx, F⟩ := m.m
  refine ⟨dx, fs, kk, pp, rr, D, bb, D2, ys, zs, st.old _ _ hx fun _ z => (by cases z), ?_⟩
  obtain ⟨f0, f1, f2, f3, f4, f5, f6, f7, hk, hp, hr, hry, ⟨kvs, e, m1, m2⟩, hb, hbz, ⟨kvs2, e2, m3⟩⟩ := F
  exact ⟨f0, f1, f2, f3, f4, f5, f6, f7, st.old _ _ hk (fun _ z => by cases z), st.old _ _ hp (fun _ z => by cases z), st.old _ _ hr (fun _ z => by cases z), Paired.map' hry (fun _ _ m => kr m), ⟨kvs, st.old _ _ e (fun _ z => by cases z), fun r hr => let ⟨v, a, b⟩ := m1 r hr; ⟨v, a, kr b⟩, m2⟩, st.old _ _ hb (fun _ z => by cases z), Paired.map' hbz (fun _ _ ⟨t, a, b⟩ => ⟨t, a, st.old _ _ b fun _ z => (by cases z)⟩), ⟨kvs2, st.old _ _ e2 (fun _ z => by cases z), m3⟩⟩
theorem DictL.went {P Pw : Addr} {H H1 : Hp} {D : Addr} {nxt : Str → List Str} {U : List Str} (st : WentW P Pw H H1) (h : DictL H D nxt U) : DictL H1 D nxt U := by
  obtain ⟨kvs, e, a⟩ := h
  exact ⟨kvs, st.dK e, fun z hz => let ⟨l, b, c⟩ := a z hz; ⟨l, b, st.lst c⟩⟩
section
variable {Pg : Program} {w : World} {K : PySem.W.Frag} {mg : Str → Option Value} {base : Heap} {C P : Addr}
theorem scCkQ : FnScope ["chart", "kind", "start", "goal"] ["chart", "kind", "start", "goal"] (defScope sCkQ) := ⟨rfl, rfl, rfl, by decide +kernel, rfl, by decide +kernel, by decide +kernel⟩
theorem ok_ckq {f M U fN : Addr} {fd fdN : FuncData} (F : Fun K "_check_question" "_check_question" sCkQ f fd)
    (GN : FnOk Pg w K mg base (L2.CX Pg w) 4 fN fdN ["chart", "kind", "places", "roads"] (spChkN K M U P)) (gN : mg "check_names" = some (.ref fN)) (kN : PySem.W.keepIn K (.ref fN) = true) (bN : Binds K fdN ["chart", "kind", "places", "roads"] []) :
    FnOk Pg w K mg base (L2.CX Pg w) 5 f fd ["chart", "kind", "start", "goal"] (spCkQ K M P) := by
  refine F.okX scCkQ (fun vs H Q E h => ?_) (fun cdv A outer s H vs Q E hr h => ?_)
  · obtain ⟨x, kind, start, goal, d, ks, ps, rs, bs, rfl, _⟩ := h
    rfl
  · obtain ⟨x, kind, start, goal, d, ks, ps, rs, bs, rfl, hM, hkl, hpl, hk, hs, hg, hne, k⟩ := h
    refine ⟨_, pss_cons (ps_expr (pe_call (E := E0) GN hr (by rfl) gN kN bN .nil (passF rfl rfl) (pa_cons (pv 0) (pa_cons (pv 1) (pa_cons (pe_lst (pa_cons (pv 2) (pa_cons (pv 3) pa_nil))) (pa_cons (pe_lst pa_nil) pa_nil))))))
      (pss_one (ps_if (pt_cmpR op_eq (pv 2) (pv 3) (nomark _)) (pss_one ps_never) pss_nil)), ?_⟩
    have hP := hM.t
    refine ⟨_, rfl, _, rfl, _, rfl, _, rfl, by show 2 ≤ sizeLine; decide, fun La nLa => ⟨Nat.zero_le _, fun Lb nLb => ?_⟩⟩
    have ga := Grew.new hP (o := .lst [.str start, .str goal]) nLa
    have gb := ga.put (o := .lst []) nLb
    have e1 := (Grew.new ga.tab (o := .lst []) nLb).lst ga.tab (b := La) (xs := [.str start, .str goal]) upd_same
    refine ⟨x, La, Lb, kind, [start, goal], [], d, ks, ps, rs, bs, rfl, hM.grew gb, hkl, SqL.of e1, SqL.of upd_same, fun z hz => ?_, fun z hz => absurd hz (by simp), .inr (.inr (.inr ⟨hk, fun z hz => ?_, fun z hz => absurd hz (by simp), ?_⟩))⟩
    · rcases List.mem_cons.mp hz with e | e
      · rw [e]; exact hpl _ hs
      · rw [List.mem_singleton.mp e]; exact hpl _ hg
    · rcases List.mem_cons.mp hz with e | e
      · rw [e]; exact hs
      · rw [List.mem_singleton.mp e]; exact hg
    · exact ⟨_, rfl, _, rfl, rfl, _, rfl, if_f (decide_eq_false fun e => hne (V.str.inj e)) (k _ gb)⟩
abbrev nVital : List Str := ["chart", "kind", "start", "goal", "behind", "ends", "name"]
theorem scVital : FnScope nVital ["chart", "kind", "start", "goal"] (defScope sVital) := ⟨rfl, rfl, rfl, by decide +kernel, rfl, by decide +kernel, by decide +kernel⟩
theorem ok_vital {f M Pw fC fT fR fH fN pN : Addr} {fd fdC fdT fdR fdH fdN : FuncData} (F : Fun K "vital_roads" "vital_roads" sVital f fd) (TM : TxtM K M)
    (GC : FnOk Pg w K mg base (L2.CX Pg w) 5 fC fdC ["chart", "kind", "start", "goal"] (spCkQ K M P)) (gC : mg "_check_question" = some (.ref fC)) (kC : PySem.W.keepIn K (.ref fC) = true) (bC : Binds K fdC ["chart", "kind", "start", "goal"] [])
    (GT : FnOk Pg w K mg base (L2.CX Pg w) 8 fT fdT ["chart", "kind", "start"] (spTurns K M P)) (gT : mg "turns" = some (.ref fT)) (kT : PySem.W.keepIn K (.ref fT) = true) (bT : Binds K fdT ["chart", "kind", "start"] [])
    (mR : Meth K M "roads_to" fR) (GR : FnOk Pg w K mg base (L2.CX Pg w) 4 fR fdR ["self", "place"] (spRTo K M P)) (bR : Binds K fdR ["self", "place"] [])
    (GH : FnOk Pg w K mg base (L2.CX Pg w) 9 fH fdH ["behind", "ends", "cut"] (spHW K P Pw)) (gH : mg "_has_way" = some (.ref fH)) (kH : PySem.W.keepIn K (.ref fH) = true) (bH : Binds K fdH ["behind", "ends", "cut"] [])
    (pr : PropOf K M "road_names" pN fN) (GN : FnOk Pg w K mg base CX0 1 fN fdN ["self"] (spRNames K M P)) (bN : Binds K fdN ["self"] []) :
    FnOk Pg w K mg base (L2.CX Pg w) 10 f fd ["chart", "kind", "start", "goal"] (spVital K M P Pw) := by
  refine F.okX scVital (fun vs H Q E h => ?_) (fun cdv A outer s H vs Q E hr h => ?_)
  · obtain ⟨x, kind, start, goal, d, ks, ps, rs, bs, rfl, _⟩ := h
    rfl
  · obtain ⟨x, kind, start, goal, d, ks, ps, rs, bs, rfl, hM, rin, hkl, hpl, hk, hs, hg, hne, hTr, ne, k⟩ := h
    refine ⟨_, pss_cons (ps_expr (pe_call (E := E0) GC (hr.mono (by decide)) (by rfl) gC kC bC .nil (passF rfl rfl) (pa_cons (pv 0) (pa_cons (pv 1) (pa_cons (pv 2) (pa_cons (pv 3) pa_nil))))))
      (pss_cons (ps_set (i := 4) scVital.nd rfl (Or.inr rfl) (pe_call (E := E0) GT (hr.mono (by decide)) (by rfl) gT kT bT .nil (passF rfl rfl) (pa_cons (pv 0) (pa_cons (pv 1) (pa_cons (pv 2) pa_nil)))))
      (C8.pss_cut (ps_set (i := 5) scVital.nd rfl (Or.inr rfl) (pe_meth (E := E0) (pv 0) TM.cl mR GR (hr.mono (by decide)) bR .nil (passF rfl rfl) (pa_cons (pv 3) pa_nil)))
      (C8.pss_cut (ps_if (pt_not (pt_val (pe_call (E := E0) GH hr (by rfl) gH kH bH .nil (passF rfl rfl) (pa_cons (pv 4) (pa_cons (pv 5) (pa_cons (pe_lst pa_nil) pa_nil)))))) (pss_one (ps_ret pe_non)) pss_nil)
      (pss_one (ps_ret (pe_lc (own := [("name", 6)]) (g := gName 6) rfl scVital.nd (pi_tup (pe_prop (pv 0) TM.cl pr GN (hr.mono (by decide)) bN .nil pass0 rfl)) (blkOk_by (N := nVital) (sc := defScope sVital) (by decide +kernel)) (fun _ _ _ _ _ => pg_name (i := 6) scVital.nd rfl (Or.inl rfl))
          (fun _ _ _ _ _ => pts_one (pt_not (pt_val (pe_call (E := E0) GH hr (by rfl) gH kH bH .nil (passF rfl rfl) (pa_cons (pv 4) (pa_cons (pv 5) (pa_cons (pe_lst (pa_cons (pv 6) pa_nil)) pa_nil))))))) (fun _ _ _ _ _ => pv 6))))))), ?_⟩
    have hP := hM.t
    obtain ⟨dx, fs, kk, pp, rr, D0, bb, D2, ys7, zs7, hx, F7⟩ := id hM.m
    refine ⟨_, rfl, _, rfl, _, rfl, _, rfl, x, kind, start, goal, d, ks, ps, rs, bs, rfl, hM, hkl, hpl, hk, hs, hg, hne, fun H1 g1 => ?_⟩
    refine ⟨_, rfl, _, rfl, _, rfl, x, kind, start, d, ks, ps, rs, bs, rfl, hM.grew g1, rin, hkl, hk, hs, hpl, fun H2 B g2 nB hB => ?_⟩
    have g12 := g1.trans g2
    have w2 := WentW.grew hP hTr ne g12
    have hB2 := dictL_of hM.nd rin.ne hB
    -- ends
    refine ⟨fun σ H' => ∃ Lz, σ = [some (.ref x), some (.str kind), some (.str start), some (.str goal), some (.ref B), some (.ref Lz), none] ∧ WentW P Pw H H' ∧ DictL H' B (nxtS kind bs rs start) (rs.map (·.name)) ∧ H' Lz = some (.lst ((endsL rs goal).map V.str)), ?_, ?_⟩
    · refine ⟨_, rfl, x, dx, fs, rfl, g12.get hP hx (fun _ z => by cases z), F7.f0 _ (by decide +kernel), _, rfl, x, goal, d, ks, ps, rs, bs, rfl, hpl goal hg, hg, hM.grew g12, rin.l60, fun H3 Lz g3 nL hL => ⟨Lz, rfl, w2.more ne g3, hB2.went (WentW.grew w2.tab w2.tr ne g3), hL⟩⟩
    rintro σ H3 ⟨Lz, rfl, w3, hB3, hL3⟩
    have hcl : ∀ z ∈ Str.empty :: rs.map (·.name), ∀ y ∈ nxtS kind bs rs start z, y ∈ rs.map (·.name) := fun z _ y hy => nxtS_sub hy
    have hUl : (rs.map (·.name)).length ≤ 60 := by rw [List.length_map]; exact rin.l60
    -- is there a way
    refine ⟨fun σ H' => σ = [some (.ref x), some (.str kind), some (.str start), some (.str goal), some (.ref B), some (.ref Lz), none] ∧ WentW P Pw H3 H' ∧ WayP kind bs rs start goal [], ?_, ?_⟩
    · refine ⟨_, rfl, _, rfl, Nat.zero_le _, fun Z nZ => ?_⟩
      have wz := (WentW.refl w3.tab w3.tr).put (o := .lst []) nZ
      refine ⟨B, Lz, Z, nxtS kind bs rs start, rs.map (·.name), endsL rs goal, [], rfl, hB3.went wz, hcl, hUl, fun z => nxtS_len rin.l60, wz.lst hL3, .inl (SqL.of upd_same), wz.tab, wz.tr, ne, fun H4 b w4 hb => ?_⟩
      refine ⟨_, rfl, ?_⟩
      by_cases hw : WayP kind bs rs start goal []
      · obtain rfl : b = true := hb.mpr hw
        exact if_f rfl ⟨rfl, wz.trans w4, hw⟩
      · have hb' : b = false := by
          cases b with
          | false => rfl
          | true => exact absurd (hb.mp rfl) hw
        subst hb'
        exact if_t rfl (k H4 .non (w3.trans (wz.trans w4)) (.inl ⟨hw, rfl⟩))
    rintro σ H4 ⟨rfl, w4, hw⟩
    have w04 := w3.trans w4
    obtain ⟨f, hf⟩ : ∃ f : RoadD → Bool, ∀ r, f r = true ↔ ¬ WayP kind bs rs start goal [r.name] := ⟨fun r => @decide (¬ WayP kind bs rs start goal [r.name]) (Classical.propDecidable _), fun r => by simp⟩
    refine ⟨_, rfl, x, dx, fs, rfl, w04.old _ _ hx (fun _ z => by cases z), x, d, ks, ps, rs, bs, rfl, hM.went w04, rin.l60, fun H5 pn g5 npn hpn => ?_⟩
    have w5 := w4.trans (WentW.grew w4.tab w4.tr ne g5)
    have lnv : (namesV rs).length = rs.length := by unfold namesV; rw [List.length_map, List.length_map]
    have l60 := rin.l60
    refine ⟨pn, rfl, ⟨_, SqT.of hpn⟩, fun R nR => lc_tup (K := K) (a := pn) (xs := namesV rs) (fun i H' => WentW P Pw H3 H' ∧ H' R = some (.lst (namesV ((rs.take i).filter f))) ∧ H' pn = some (.tup (namesV rs)))
      ⟨w5.put nR, upd_same, by rw [upd_ne (fun z => by rw [z, nR] at hpn; cases hpn)]; exact hpn⟩ (fun i H' _ p => SqT.of p.2.2) (fun i v H6 hv p => ?_) (fun H6 p => ?_)⟩
    · obtain ⟨w6, hR, hp6⟩ := p
      have nR3 : H3 R = none := w5.free R nR
      obtain ⟨z, hz, rfl⟩ := str_at hv
      rw [List.getElem?_map] at hz
      obtain ⟨r, hr0, rfl⟩ := Option.map_eq_some_iff.mp hz
      have hil := (List.getElem?_eq_some_iff.mp hr0).1
      have et : namesV ((rs.take (i + 1)).filter f) = namesV ((rs.take i).filter f) ++ (if f r = true then [.str r.name] else []) := by
        rw [fsnoc (p := f) hr0]
        unfold namesV
        rw [List.map_append, List.map_append]
        split <;> rfl
      have lf := List.length_filter_le f (rs.take i)
      rw [List.length_take] at lf
      refine ⟨rfl, _, rfl, _, rfl, _, rfl, by show 1 ≤ sizeLine; decide, fun Z nZ => ?_⟩
      have wz := w6.put (o := .lst [.str r.name]) nZ
      have hRz : (L2.upd H6 Z (.lst [.str r.name])) R = some (.lst (namesV ((rs.take i).filter f))) := by rw [upd_ne (fun z => by rw [z, nZ] at hR; cases hR)]; exact hR
      have hpz : (L2.upd H6 Z (.lst [.str r.name])) pn = some (.tup (namesV rs)) := by rw [upd_ne (fun z => by rw [z, nZ] at hp6; cases hp6)]; exact hp6
      refine ⟨B, Lz, Z, nxtS kind bs rs start, rs.map (·.name), endsL rs goal, [r.name], rfl, hB3.went wz, hcl, hUl, fun z => nxtS_len rin.l60, wz.lst hL3, .inl (SqL.of upd_same), wz.tab, wz.tr, ne, fun H7 b w7 hb => ?_⟩
      have hR7 := w7.lst hRz
      have hp7 := w7.tup hpz
      have w37 := wz.trans w7
      refine ⟨_, rfl, ?_⟩
      by_cases c : WayP kind bs rs start goal [r.name]
      · obtain rfl : b = true := hb.mpr c
        have hfr : ¬ f r = true := fun e => (hf r).mp e c
        rw [if_neg hfr, List.append_nil] at et
        exact if_f rfl ⟨w37, by rw [et]; exact hR7, hp7⟩
      · have hb' : b = false := by
          cases b with
          | false => rfl
          | true => exact absurd (hb.mp rfl) c
        subst hb'
        rw [if_pos ((hf r).mpr c)] at et
        refine if_t rfl ⟨_, rfl, _, hR7, ?_, w37.write hR7 (fun _ z => by cases z) (fun _ z => by cases z) nR3, by rw [upd_same, et], by rw [upd_ne (fun z => by rw [z, hR7] at hp7; cases hp7)]; exact hp7⟩
        refine Nat.lt_of_le_of_lt (namesV_len _) ?_
        rw [sizeLine_eq]; omega
    · obtain ⟨w6, hR, hp6⟩ := p
      rw [lnv, List.take_length] at hR
      exact k H6 (.ref R) (w3.trans w6) (.inr ⟨hw, R, f, rfl, w3.free R (w5.free R nR), hR, fun r _ => hf r⟩)
end
end W

set_option Elab.async false
set_option linter.all false
set_option maxRecDepth 100000
set_option maxHeartbeats 2000000
namespace W
open PySem PySem.Spec PyProof.Rows L2 GxR MyG MyS MyR
/-! ### _law_apart_trip -/
abbrev sLATrip : Stmt := top 57
def spLATrip (K : PySem.W.Frag) (P : Addr) : Sp := fun vs H Q _ => ∃ (q a : Addr) (at_ d : Int) (ps ks : List Str) (rs : List RoadD) (bs : List (Str × Str)) (ns : List Int), vs = [.ref a, .int at_, .ref q] ∧ PartsT K H q d ks ps rs bs ∧ 1 ≤ ks.length ∧ 2 ≤ ps.length ∧ ps.length ≤ 60 ∧ ps.Nodup ∧ SqL K H a (ns.map V.int) ∧ Sm ns ∧ 0 ≤ at_ ∧ at_ + 5 ≤ ns.length ∧ TabG H P ∧
  ∀ H' tp kind start goal, Grew P H H' → kind ∈ ks → start ∈ ps → goal ∈ ps → start ≠ goal → H' tp = some (.tup [.str kind, .str start, .str goal]) → Q (.ref tp) H'
section
variable {Pg : Program} {w : World} {K : PySem.W.Frag} {mg : Str → Option Value} {base : Heap} {C P : Addr}
abbrev nATrip : List Str := ["numbers", "at", "parts", "kind", "start", "goal", "moment"]
theorem scATrip : FnScope nATrip ["numbers", "at", "parts"] (defScope sLATrip) := ⟨rfl, rfl, rfl, by decide +kernel, rfl, by decide +kernel, by decide +kernel⟩
theorem ok_latrip {f fT : Addr} {fd fdT : FuncData} (F : Fun K "_law_apart_trip" "_law_apart_trip" sLATrip f fd) (hl : mg "len" = none)
    (GT : FnOk Pg w K mg base CX0 1 fT fdT ["numbers", "at", "parts"] (spLTripG K P)) (gT : mg "_law_trip" = some (.ref fT)) (kT : PySem.W.keepIn K (.ref fT) = true) (bT : Binds K fdT ["numbers", "at", "parts"] []) :
    FnOk Pg w K mg base CX0 2 f fd ["numbers", "at", "parts"] (spLATrip K P) := by
  refine F.ok scATrip (fun vs H Q E h => ?_) (fun cdv A outer s H vs Q E hr h => ?_)
  · obtain ⟨q, a, at_, d, ps, ks, rs, bs, ns, rfl, _⟩ := h
    rfl
  · obtain ⟨q, a, at_, d, ps, ks, rs, bs, ns, rfl, hq, k1, p2, p60, pnd, hS, hsm, ha0, ha1, hP, k⟩ := h
    refine ⟨_, C8.pss_cut (ps_asg (pe_call GT hr (by rfl) gT kT bT .nil pass0 (pa_cons (pv 0) (pa_cons (pv 1) (pa_cons (pv 2) pa_nil)))) (pg_tup (by rfl) (pgs_cons (pg_name (i := 3) scATrip.nd rfl (Or.inl rfl)) (pgs_cons (pg_name (i := 4) scATrip.nd rfl (Or.inl rfl)) (pgs_cons (pg_name (i := 5) scATrip.nd rfl (Or.inl rfl)) (pgs_cons (pg_name (i := 6) scATrip.nd rfl (Or.inl rfl)) pgs_nil))))))
      (C8.pss_cut (ps_if (pt_cmpR op_eq (pv 4) (pv 5) (nomark _)) (pss_one (ps_set (i := 5) scATrip.nd rfl (Or.inl rfl) (pe_ix ix_tup (pe_ix ix_list (pv 2) pe_int (fun _ _ => rfl)) (pe_op op_mod (pe_op op_add (TpF.pe_bmF PySem.F.plainAttrs_tuple PySem.F.slot_tuple_index PySem.F.type_tuple_index mt_tup_index (pe_ix ix_list (pv 2) pe_int (fun _ _ => rfl)) (pa_cons (pv 4) pa_nil)) pe_int) (pe_callB call_len_seq (by rfl) hl PySem.boot_len (pa_cons (pe_ix ix_list (pv 2) pe_int (fun _ _ => rfl)) pa_nil))) (fun _ _ => rfl)))) pss_nil)
      (pss_one (ps_ret (pe_tup (pa_cons (pv 3) (pa_cons (pv 4) (pa_cons (pv 5) pa_nil))))))), ?_⟩
    refine ⟨fun σ H' => ∃ (kind start goal : Str) (m : V), σ = [some (.ref a), some (.int at_), some (.ref q), some (.str kind), some (.str start), some (.str goal), some m] ∧ Grew P H H' ∧ kind ∈ ks ∧ start ∈ ps ∧ goal ∈ ps, ?_, ?_⟩
    · refine ⟨_, rfl, _, rfl, _, rfl, q, a, at_, d, ps, ks, rs, bs, ns, rfl, hq, k1, by omega, hS, hsm, ha0, ha1, hP, fun H1 tp kind start goal t g1 hk hs hg ht0 ht1 htp => ?_⟩
      exact ⟨tp, _, rfl, SqT.of htp, rfl, _, _, rfl, _, _, rfl, _, _, rfl, _, _, rfl, rfl, kind, start, goal, _, rfl, g1, hk, hs, hg⟩
    rintro σ H1 ⟨kind, start, goal, m, rfl, g1, hk, hs, hg⟩
    refine ⟨fun σ H' => ∃ (goal : Str), σ = [some (.ref a), some (.int at_), some (.ref q), some (.str kind), some (.str start), some (.str goal), some m] ∧ H' = H1 ∧ goal ∈ ps ∧ start ≠ goal, ?_, ?_⟩
    · refine ⟨_, rfl, _, rfl, rfl, _, rfl, ?_⟩
      by_cases c : start = goal
      · refine if_t (decide_eq_true (congrArg V.str c)) ?_
        have hq1 := PartsT.grew hq g1 hP
        obtain ⟨ki, pl, ro, ba, xs, zs, eq, eki, epl, ero, hrs, eba, hbs⟩ := hq1
        obtain ⟨j, hj, ej⟩ := List.getElem_of_mem hs
        have hj1 : ps[j]? = some start := by rw [← ej]; exact List.getElem?_eq_getElem hj
        have first : ∀ m, m < j → ps[m]? ≠ some start := fun m hm e => by
          have := (List.getElem?_inj hj pnd).mp (hj1.trans e.symm)
          omega
        have b0 : 0 ≤ ((j : Int) + 1) % ps.length := Int.emod_nonneg _ (by omega)
        have b1 : ((j : Int) + 1) % ps.length < ps.length := Int.emod_lt_of_pos _ (by omega)
        obtain ⟨jn, hjn, ejn⟩ : ∃ jn : Nat, ((j : Int) + 1) % ps.length = (jn : Int) ∧ jn < ps.length := ⟨(((j : Int) + 1) % ps.length).toNat, by omega, by omega⟩
        have lpl : ((ps.map V.str).length : Int) = ps.length := by rw [List.length_map]
        refine ⟨_, rfl, q, _, 2, .ref pl, rfl, rfl, SqL.of eq, rfl, _, rfl, q, _, 2, .ref pl, rfl, rfl, SqL.of eq, rfl, ?_⟩
        refine ⟨⟨pl, _, rfl, epl⟩, _, rfl, pl, ps, start, j, rfl, rfl, epl.sq, hj1, first, _, _, rfl, rfl, _, rfl, q, _, 2, .ref pl, rfl, rfl, SqL.of eq, rfl, pl, _, rfl, .inr (epl.sq), _, _, rfl, rfl, by rw [lpl]; omega, ?_⟩
        have hat : atI (ps.map V.str) (((j : Int) + 1) % ((ps.map V.str).length : Int)) = some (.str ps[jn]) := by
          rw [lpl, hjn]
          exact atI_nat (by rw [List.getElem?_map, List.getElem?_eq_getElem ejn]; rfl)
        refine ⟨pl, _, _, _, rfl, rfl, epl.sq, hat, ps[jn], rfl, rfl, List.getElem_mem ejn, fun e => ?_⟩
        have := (List.getElem?_inj hj pnd).mp (hj1.trans ((congrArg some e).trans (List.getElem?_eq_getElem ejn).symm))
        by_cases c2 : (j : Int) + 1 < ps.length
        · rw [Int.emod_eq_of_lt (by omega) c2] at hjn; omega
        · have e2 : (j : Int) + 1 = ps.length := by omega
          rw [e2, Int.emod_self] at hjn; omega
      · exact if_f (decide_eq_false fun e => c (V.str.inj e)) ⟨goal, rfl, rfl, hg, c⟩
    rintro σ H2 ⟨goal, rfl, rfl, hg2, hne⟩
    refine ⟨_, rfl, _, rfl, _, rfl, by show 3 ≤ sizeLine; decide, fun tp ntp => k _ tp kind start goal (g1.trans (Grew.new g1.tab ntp)) hk hs hg2 hne upd_same⟩
end
end W

set_option Elab.async false
set_option linter.all false
set_option maxRecDepth 100000
set_option maxHeartbeats 2000000
namespace W
open PySem PySem.Spec PyProof.Rows L2 GxR MyG MyS MyR
/-! ### _law_is_way -/
noncomputable instance : DecidableEq RoadD := fun a b => Classical.propDecidable (a = b)
theorem dp_strs {K : PySem.W.Frag} {H : Hp} : ∀ zs : List Str, DpAll K H (zs.map V.str) (zs.map .str)
  | [] => .nil
  | z :: zs => .cons (.str z) (dp_strs zs)
theorem canLay_strs : ∀ {zs : List Str}, (∀ z ∈ zs, PyData.strOk z = true) → PyData.canLayAll0 (zs.map .str) = true
  | [], _ => rfl
  | z :: zs, h => by
    simp [PyData.canLayAll0, PyData.canLay0, h z List.mem_cons_self, canLay_strs (zs := zs) fun x hx => h x (List.mem_cons_of_mem _ hx)]
theorem depth_strs : ∀ zs : List Str, PyData.depthAll (zs.map .str) ≤ 1
  | [] => by simp [PyData.depthAll]
  | z :: zs => by
    have i := depth_strs zs
    simp only [List.map_cons, PyData.depthAll, PyData.depth]
    omega
def roadD (r : RoadD) : PyData := .tuple [.str r.name, .str r.start, .str r.goal, .int r.minutes, .tuple (r.users.map .str), hoursD r.hours]
theorem dp_road {K : PySem.W.Frag} {H : Hp} {r : RoadD} {v : V} (g : GRoad K H r v) : Dp K H v (roadD r) := by
  obtain ⟨t, u, hv, rfl, hT, hU, hH⟩ := g
  exact .tup hT (.cons (.str _) (.cons (.str _) (.cons (.str _) (.cons (.int _) (.cons (.tup hU (dp_strs _)) (.cons (dp_hours hH) .nil))))))
theorem dp_roads {K : PySem.W.Frag} {H : Hp} : ∀ {rs : List RoadD} {xs : List V}, Paired (GRoad K H) rs xs → DpAll K H xs (rs.map roadD)
  | _, _, .nil => .nil
  | _, _, .cons g r => .cons (dp_road g) (dp_roads r)
/-- the strings of a road can be written -/
def OkR (r : RoadD) : Prop := PyData.strOk r.name = true ∧ PyData.strOk r.start = true ∧ PyData.strOk r.goal = true ∧ ∀ z ∈ r.users, PyData.strOk z = true
theorem canLay_hoursD : ∀ hs : Option (List (Int × Int)), PyData.canLay0 (hoursD hs) = true
  | none => rfl
  | some ps => by simpa [hoursD, PyData.canLay0] using canLay_pairs ps
theorem depth_hoursD : ∀ hs : Option (List (Int × Int)), (hoursD hs).depth ≤ 3
  | none => by simp [hoursD, PyData.depth]
  | some ps => by
    have := depth_pairs ps
    simp only [hoursD, PyData.depth]
    omega
theorem canLay_road {r : RoadD} (h : OkR r) : PyData.canLay0 (roadD r) = true := by
  have a := canLay_strs h.2.2.2
  have b := canLay_hoursD r.hours
  simp [roadD, PyData.canLay0, PyData.canLayAll0, h.1, h.2.1, h.2.2.1, a, b]
theorem depth_road (r : RoadD) : (roadD r).depth ≤ 8 := by
  have a := depth_strs r.users
  have b := depth_hoursD r.hours
  simp only [roadD, PyData.depth, PyData.depthAll]
  omega
theorem canLay_roads : ∀ {rs : List RoadD}, (∀ r ∈ rs, OkR r) → PyData.canLayAll0 (rs.map roadD) = true
  | [], _ => rfl
  | r :: rs, h => by
    rw [List.map_cons]
    simp only [PyData.canLayAll0]
    rw [canLay_road (h r List.mem_cons_self), canLay_roads fun x hx => h x (List.mem_cons_of_mem _ hx)]
    rfl
theorem depth_roads : ∀ rs : List RoadD, PyData.depthAll (rs.map roadD) ≤ 8
  | [] => by simp [PyData.depthAll]
  | r :: rs => by
    have a := depth_road r
    have b := depth_roads rs
    rw [List.map_cons]
    simp only [PyData.depthAll]
    omega
theorem shaped_road {r : RoadD} (h : OkR r) : SeqAt.shaped (roadD r) = true := by
  unfold SeqAt.shaped
  rw [Bool.and_eq_true]
  have := depth_road r
  exact ⟨canLay_road h, decide_eq_true (by omega)⟩
theorem shaped_roads {rs : List RoadD} (h : ∀ r ∈ rs, OkR r) : SeqAt.shaped (PyData.list (rs.map roadD)) = true := by
  unfold SeqAt.shaped
  rw [Bool.and_eq_true]
  have := depth_roads rs
  refine ⟨by simpa [PyData.canLay0] using canLay_roads h, decide_eq_true ?_⟩
  simp only [PyData.depth]
  omega
def foB (bs : List (Str × Str)) (p r : RoadD) : Bool := decide (p.goal = r.start) && !decide ((p.name, r.name) ∈ bs)
theorem may_firstB {kind start : Str} {bs : List (Str × Str)} {r : RoadD} : mayB kind bs start none r = (decide (r.start = start) && everB kind r) := by
  unfold mayB
  by_cases c : r.start = start
  · rw [decide_eq_true c, Bool.true_and, Bool.true_and, Bool.and_true]
  · rw [decide_eq_false c, Bool.false_and, Bool.false_and]
theorem may_foB {kind : Str} {bs : List (Str × Str)} {p r : RoadD} : mayB kind bs p.goal (some p.name) r = (foB bs p r && everB kind r) := by
  unfold mayB foB
  by_cases c : r.start = p.goal
  · rw [decide_eq_true c, decide_eq_true c.symm, Bool.true_and, Bool.true_and, Bool.and_comm]
  · rw [decide_eq_false c, decide_eq_false (fun e => c e.symm), Bool.false_and, Bool.false_and, Bool.false_and]
theorem eqv_road {a b : RoadD} (h : PyData.eqv (roadD a) (roadD b) = true) : a.name = b.name := by
  unfold roadD at h
  simp only [PyData.eqv, PyData.eqvAll, Bool.and_eq_true, beq_iff_eq] at h
  exact h.1
theorem any_roads {rs l : List RoadD} (nd : (rs.map (·.name)).Nodup) (hl : ∀ x ∈ l, x ∈ rs) (ho : ∀ x ∈ rs, OkR x) {r : RoadD} (hr : r ∈ rs) : ((l.map roadD).any fun z => PyData.eqv z (roadD r)) = decide (r ∈ l) := by
  rw [List.any_map]
  by_cases h : r ∈ l
  · rw [decide_eq_true h, List.any_eq_true]
    exact ⟨r, h, SeqAt.eqv_refl _ (canLay_road (ho r hr))⟩
  · rw [decide_eq_false h, List.any_eq_false]
    intro c hc e
    exact h (uniq_name nd (hl c hc) hr (eqv_road e) ▸ hc)
theorem PartsOk.okR {d : Int} {ps ks : List Str} {rs : List RoadD} {bs : List (Str × Str)} (ok : PartsOk d ks ps rs bs) : ∀ r ∈ rs, OkR r := fun r hr => by
  have o := ok.r.ok r hr
  have pn : ∀ z ∈ ps, PyData.strOk z = true := fun z hz => isNm_ok (List.all_eq_true.mp ok.pn z hz)
  have kn : ∀ z ∈ ks, PyData.strOk z = true := fun z hz => isNm_ok (List.all_eq_true.mp ok.kn z hz)
  exact ⟨isNm_ok (List.all_eq_true.mp ok.r.nm r.name (List.mem_map.mpr ⟨r, hr, rfl⟩)), pn _ o.s, pn _ o.g, fun z hz => kn z (o.u z hz)⟩
theorem nodup_names {rs : List RoadD} (h : (rs.map (·.name)).Nodup) : rs.Nodup := List.Pairwise.of_map (·.name) (fun a b h e => h (by rw [e])) h
theorem Paired.app2 {α β : Type} {R : α → β → Prop} : ∀ {l1 : List α} {m1 : List β} {l2 : List α} {m2 : List β}, Paired R l1 m1 → Paired R l2 m2 → Paired R (l1 ++ l2) (m1 ++ m2)
  | _, _, _, _, .nil, h => h
  | _, _, _, _, .cons a t, h => .cons a (Paired.app2 t h)
/-- what is come to from the start over some roads -/
inductive Rch (bs : List (Str × Str)) (us : List RoadD) (start : Str) : RoadD → Prop
  | fst {r : RoadD} : r ∈ us → r.start = start → Rch bs us start r
  | nxt {p r : RoadD} : Rch bs us start p → r ∈ us → foB bs p r = true → Rch bs us start r
theorem Rch.mem {bs : List (Str × Str)} {us : List RoadD} {start : Str} {r : RoadD} (h : Rch bs us start r) : r ∈ us := by
  cases h with
  | fst a _ => exact a
  | nxt _ a _ => exact a
def Shut (bs : List (Str × Str)) (us fnd : List RoadD) : Prop := ∀ r ∈ us, ∀ p ∈ fnd, foB bs p r = true → r ∈ fnd
structure RI (bs : List (Str × Str)) (us : List RoadD) (start : Str) (t : Nat) (fnd : List RoadD) : Prop where
  nd : fnd.Nodup
  ok : ∀ r ∈ fnd, Rch bs us start r
  fst : ∀ r ∈ us, r.start = start → r ∈ fnd
  far : Shut bs us fnd ∨ t ≤ fnd.length
/-- what comes next -/
noncomputable def moreL (bs : List (Str × Str)) (us fnd : List RoadD) : List RoadD := us.filter fun r => !decide (r ∈ fnd) && fnd.any fun p => foB bs p r
theorem moreL_mem {bs : List (Str × Str)} {us fnd : List RoadD} {r : RoadD} : r ∈ moreL bs us fnd ↔ r ∈ us ∧ r ∉ fnd ∧ ∃ p ∈ fnd, foB bs p r = true := by
  unfold moreL
  rw [List.mem_filter, Bool.and_eq_true, Bool.not_eq_true', decide_eq_false_iff_not, List.any_eq_true]
theorem RI.init {bs : List (Str × Str)} {us : List RoadD} {start : Str} (nd : us.Nodup) : RI bs us start 0 (us.filter fun r => decide (r.start = start)) :=
  ⟨nd.sublist List.filter_sublist, fun r hr => .fst (List.mem_filter.mp hr).1 (of_decide_eq_true (List.mem_filter.mp hr).2), fun r hr e => List.mem_filter.mpr ⟨hr, decide_eq_true e⟩, .inr (Nat.zero_le _)⟩
theorem RI.step {bs : List (Str × Str)} {us fnd : List RoadD} {start : Str} {t : Nat} (nd : us.Nodup) (h : RI bs us start t fnd) : RI bs us start (t + 1) (fnd ++ moreL bs us fnd) := by
  refine ⟨?_, fun r hr => ?_, fun r hr e => List.mem_append_left _ (h.fst r hr e), ?_⟩
  · rw [List.nodup_append]
    refine ⟨h.nd, nd.sublist List.filter_sublist, fun x hx y hy e => ?_⟩
    rw [← e] at hy
    exact (moreL_mem.mp hy).2.1 hx
  · rcases List.mem_append.mp hr with q | q
    · exact h.ok r q
    · obtain ⟨a, _, p, hp, f⟩ := moreL_mem.mp q
      exact .nxt (h.ok p hp) a f
  · by_cases c : moreL bs us fnd = []
    · left
      rw [c, List.append_nil]
      intro r hr p hp f
      by_cases z : r ∈ fnd
      · exact z
      · have := moreL_mem.mpr ⟨hr, z, p, hp, f⟩
        rw [c] at this; cases this
    · right
      rcases h.far with s | l
      · exfalso
        obtain ⟨r, hr⟩ := List.exists_mem_of_ne_nil _ c
        obtain ⟨a, n, p, hp, f⟩ := moreL_mem.mp hr
        exact n (s r a p hp f)
      · have := List.length_pos_iff.mpr c
        rw [List.length_append]; omega
theorem RI.sub {bs : List (Str × Str)} {us fnd : List RoadD} {start : Str} {t : Nat} (h : RI bs us start t fnd) : ∀ r ∈ fnd, r ∈ us := fun r hr => (h.ok r hr).mem
theorem RI.all {bs : List (Str × Str)} {us fnd : List RoadD} {start : Str} (nd : us.Nodup) (h : RI bs us start us.length fnd) : ∀ r, r ∈ fnd ↔ Rch bs us start r := by
  have s : Shut bs us fnd := by
    rcases h.far with s | l
    · exact s
    · intro r hr p _ _
      by_cases c : r ∈ fnd
      · exact c
      · exfalso
        have := nodup_sub_len (m := us.filter (fun x => decide (x ≠ r))) h.nd fun x hx => List.mem_filter.mpr ⟨h.sub x hx, decide_eq_true fun e => c (e ▸ hx)⟩
        have l2 : (us.filter (fun x => decide (x ≠ r))).length < us.length := by
          refine Nat.lt_of_le_of_ne (List.length_filter_le _ _) fun e => ?_
          have := List.length_filter_eq_length_iff.mp e r hr
          simp at this
        omega
  intro r
  refine ⟨h.ok r, fun q => ?_⟩
  induction q with
  | fst a b => exact h.fst _ a b
  | nxt _ b c ih => exact s _ b _ ih c
/-- the open roads that are not named -/
def usL (kind : Str) (rs : List RoadD) (cut : List Str) : List RoadD := (rs.filter (everB kind)).filter fun r => !decide (r.name ∈ cut)
def IsWay (kind : Str) (bs : List (Str × Str)) (rs : List RoadD) (start goal : Str) (cut : List Str) : Prop := ∃ r, Rch bs (usL kind rs cut) start r ∧ r.goal = goal
abbrev sLIsWay : Stmt := top 55
def spLIsWay (K : PySem.W.Frag) (P : Addr) : Sp := fun vs H Q _ => ∃ (q L : Addr) (kind start goal : Str) (d : Int) (ps ks : List Str) (rs : List RoadD) (bs : List (Str × Str)) (cut : List Str), vs = [.ref q, .str kind, .str start, .str goal, .ref L] ∧ PartsT K H q d ks ps rs bs ∧ PartsOk d ks ps rs bs ∧ SqL K H L (cut.map V.str) ∧ TabG H P ∧
  ∀ H' b, Grew P H H' → (b = true ↔ IsWay kind bs rs start goal cut) → Q (.bl b) H'
def RsAt (K : PySem.W.Frag) (H : Hp) (p : Addr) (l : List RoadD) : Prop := ∃ xs, H p = some (.lst xs) ∧ Paired (RoadAt K H) l xs
theorem RsAt.grew {K : PySem.W.Frag} {P : Addr} {H H' : Hp} {p : Addr} {l : List RoadD} (m : RsAt K H p l) (g : Grew P H H') (h : TabG H P) : RsAt K H' p l := by
  obtain ⟨xs, e, q⟩ := m
  exact ⟨xs, g.lst h e, Paired.map' q fun _ _ m => m.grew g h⟩
theorem RsAt.app {K : PySem.W.Frag} {H : Hp} {p : Addr} {l : List RoadD} {xs : List V} {r : RoadD} {v : V} (e : H p = some (.lst xs)) (q : Paired (RoadAt K H) l xs) (m : RoadAt K H r v) : RsAt K (L2.upd H p (.lst (xs ++ [v]))) p (l ++ [r]) := by
  have up : ∀ {r : RoadD} {v' : V}, RoadAt K H r v' → RoadAt K (L2.upd H p (.lst (xs ++ [v]))) r v' := fun m => m.upd (fun xs z => by rw [e] at z; cases z) (KeepT.lst e)
  exact ⟨_, upd_same, Paired.snoc (Paired.map' q fun _ _ m => up m) (up m)⟩
theorem RsAt.dp {K : PySem.W.Frag} {H : Hp} {p : Addr} {l : List RoadD} (m : RsAt K H p l) : Dp K H (.ref p) (.list (l.map roadD)) := by
  obtain ⟨xs, e, q⟩ := m
  exact .lst (SqL.of e) (dp_roads (Paired.map' q fun _ _ m => m.gen))
section
variable {Pg : Program} {w : World} {K : PySem.W.Frag} {mg : Str → Option Value} {base : Heap} {C P : Addr}
abbrev nIsWay : List Str := ["parts", "kind", "start", "goal", "names", "roads", "found", "turn", "more", "road", "one"]
theorem scIsWay : FnScope nIsWay ["parts", "kind", "start", "goal", "names"] (defScope sLIsWay) := ⟨rfl, rfl, rfl, by decide +kernel, rfl, by decide +kernel, by decide +kernel⟩
theorem ok_lisway {f fO fF : Addr} {fd fdO fdF : FuncData} (F : Fun K "_law_is_way" "_law_is_way" sLIsWay f fd) (hl : mg "len" = none) (hra : mg "range" = none) (ha : mg "any" = none)
    (GO : FnOk Pg w K mg base CX0 1 fO fdO ["parts", "kind"] (spLOpen K P)) (gO : mg "_law_open" = some (.ref fO)) (kO : PySem.W.keepIn K (.ref fO) = true) (bO : Binds K fdO ["parts", "kind"] [])
    (GF : FnOk Pg w K mg base CX0 1 fF fdF ["parts", "one", "other"] (spLFollows K P)) (gF : mg "_law_follows" = some (.ref fF)) (kF : PySem.W.keepIn K (.ref fF) = true) (bF : Binds K fdF ["parts", "one", "other"] []) :
    FnOk Pg w K mg base CX0 2 f fd ["parts", "kind", "start", "goal", "names"] (spLIsWay K P) := by
  refine F.ok scIsWay (fun vs H Q E h => ?_) (fun cdv A outer s H vs Q E hr h => ?_)
  · obtain ⟨q, L, kind, start, goal, d, ps, ks, rs, bs, cut, rfl, _⟩ := h
    rfl
  · obtain ⟨q, L, kind, start, goal, d, ps, ks, rs, bs, cut, rfl, hq, hok, hL, hP, k⟩ := h
    have hr1 : Room 1 _ := hr
    refine ⟨_, C8.pss_cut (ps_setLc (i := 5) (own := [("road", 9)]) (g := gName 9) rfl scIsWay.nd rfl rfl (sw_true rfl rfl rfl (by decide +kernel)) (pi_list (pe_call GO hr1 (by rfl) gO kO bO .nil pass0 (pa_cons (pv 0) (pa_cons (pv 1) pa_nil)))) (blkOk_by (N := nIsWay) (sc := defScope sLIsWay) (by decide +kernel)) (fun _ _ _ _ _ => pg_name (i := 9) scIsWay.nd rfl (Or.inl rfl)) (fun _ _ _ _ _ => pts_one (pt_cmpR (r := rIn K true) op_notIn_seq (pe_ix (r := rIxT K) ix_tup (pv 9) pe_int (fun _ _ => rfl)) (pv 4) (by rfl))) (fun _ _ _ _ _ => pv 9))
      (C8.pss_cut (ps_setLc (i := 6) (own := [("road", 9)]) (g := gName 9) rfl scIsWay.nd rfl rfl (sw_true rfl rfl rfl (by decide +kernel)) (pi_list (pv 5)) (blkOk_by (N := nIsWay) (sc := defScope sLIsWay) (by decide +kernel)) (fun _ _ _ _ _ => pg_name (i := 9) scIsWay.nd rfl (Or.inl rfl)) (fun _ _ _ _ _ => pts_one (pt_cmpR op_eq (pe_ix (r := rIxT K) ix_tup (pv 9) pe_int (fun _ _ => rfl)) (pv 2) (nomark _))) (fun _ _ _ _ _ => pv 9))
      (C8.pss_cut (ps_for PassesOwn.never rfl (pi_range1 rfl hra (pa_cons (pe_callB call_len_seq (by rfl) hl PySem.boot_len (pa_cons (pv 5) pa_nil)) pa_nil)) (pg_name (i := 7) scIsWay.nd rfl (Or.inl rfl)) (pss_cons (ps_set (i := 8) scIsWay.nd rfl (Or.inl rfl) (pe_lst pa_nil))
      (C8.pss_cut (ps_for PassesOwn.never rfl (pi_list (pv 5)) (pg_name (i := 9) scIsWay.nd rfl (Or.inr rfl)) (pss_one (ps_if (PW.pt (pw_and (pt_cmpR (op_notInD (u65 hr)) (pv 9) (pv 6) (by rfl)) (pw_and1 (pt_val (pe_callB (cr_any rfl) (by rfl) ha (by decide +kernel) (pa_cons (pe_lc (own := [("one", 10)]) (g := gName 10) (tt := tYes) rfl scIsWay.nd (pi_list (pv 6)) (blkOk_by (N := nIsWay) (sc := defScope sLIsWay) (by decide +kernel)) (fun _ _ _ _ _ => pg_name (i := 10) scIsWay.nd rfl (Or.inl rfl)) (fun _ _ _ _ _ => pts_nil) (fun _ _ _ _ _ => pe_call GF hr1 (by rfl) gF kF bF .nil pass0 (pa_cons (pv 0) (pa_cons (pv 10) (pa_cons (pv 9) pa_nil))))) pa_nil)))))) (pss_one (ps_expr (pe_bm PySem.F.plainAttrs_list PySem.F.slot_list_append PySem.F.type_list_append mt_append (pv 8) (pa_cons (pv 9) pa_nil)))) pss_nil)))
      (pss_one (ps_set (i := 6) scIsWay.nd rfl (Or.inl rfl) (pe_op op_cat (pv 6) (pv 8)))))))
      (pss_one (ps_ret (pe_callB (cr_any rfl) (by rfl) ha (by decide +kernel) (pa_cons (pe_lc (own := [("road", 9)]) (g := gName 9) (tt := tYes) rfl scIsWay.nd (pi_list (pv 6)) (blkOk_by (N := nIsWay) (sc := defScope sLIsWay) (by decide +kernel)) (fun _ _ _ _ _ => pg_name (i := 9) scIsWay.nd rfl (Or.inl rfl)) (fun _ _ _ _ _ => pts_nil) (fun _ _ _ _ _ => pe_cmpR op_eq (pe_ix (r := rIxT K) ix_tup (pv 9) pe_int (fun _ _ => rfl)) (pv 3) (nomark _))) pa_nil)))))), ?_⟩
    have okR := hok.okR
    have ndr := hok.r.nd
    have l60 := hok.r.len
    have okB : OkB bs := okB_of hok
    have us0 : ∀ r ∈ usL kind rs cut, r ∈ rs := fun r h => (List.mem_filter.mp (List.mem_filter.mp h).1).1
    have lus : (usL kind rs cut).length ≤ 60 := Nat.le_trans (List.length_filter_le _ _) (Nat.le_trans (List.length_filter_le _ _) l60)
    have ndu : (usL kind rs cut).Nodup := (nodup_names ndr).sublist (List.filter_sublist.trans List.filter_sublist)
    have k := fun H' b g (h : b = true ↔ ∃ r, Rch bs (usL kind rs cut) start r ∧ r.goal = goal) => k H' b g h
    -- roads
    refine ⟨fun σ H' => ∃ Us, σ = [some (.ref q), some (.str kind), some (.str start), some (.str goal), some (.ref L), some (.ref Us), none, none, none, none, none] ∧ Grew P H H' ∧ RsAt K H' Us (usL kind rs cut), ?_, ?_⟩
    · refine ⟨_, rfl, _, rfl, q, kind, d, ps, ks, rs, bs, rfl, hq, l60, hP, fun H1 Lo ys g1 nLo hLo hys => ?_⟩
      have ly := Paired.len hys
      have lev : (rs.filter (everB kind)).length ≤ 60 := Nat.le_trans (List.length_filter_le _ _) l60
      refine ⟨Lo, rfl, ⟨_, SqL.of hLo⟩, fun D nD => lc_list (K := K) (a := Lo) (xs := ys) (fun i H' => Grew P H1 H' ∧ RsAt K H' D (((rs.filter (everB kind)).take i).filter fun r => !decide (r.name ∈ cut)))
        ⟨Grew.new g1.tab nD, [], upd_same, .nil⟩ (fun i H' _ h => SqL.of (h.1.lst g1.tab hLo)) (fun i v H2 hv h => ?_) (fun H2 h => ?_)⟩
      · obtain ⟨g, acc, hD, hacc⟩ := h
        obtain ⟨r, hr0, hrt⟩ := Paired.at hys hv
        have hil := (List.getElem?_eq_some_iff.mp hr0).1
        have hrt2 := hrt.grew g g1.tab
        have hrt3 := hrt2
        obtain ⟨t, u, hh, rfl, e1, e2, e3⟩ := hrt2
        have et := fsnoc (p := fun r : RoadD => !decide (r.name ∈ cut)) hr0
        have la := Paired.len hacc
        have lf := List.length_filter_le (fun r : RoadD => !decide (r.name ∈ cut)) ((rs.filter (everB kind)).take i)
        rw [List.length_take] at lf
        refine ⟨rfl, _, rfl, t, _, 0, _, rfl, rfl, SqT.of e1, rfl, _, rfl, L, _, rfl, .inl ((g1.trans g).sqL hP hL), rfl, flat_strs _, _, rfl, ?_⟩
        rw [if_pos rfl, inV_dec]
        by_cases c : r.name ∈ cut
        · rw [if_neg (by rw [decide_eq_true c]; decide), List.append_nil] at et
          exact if_f (by rw [decide_eq_true c]; rfl) ⟨g, by rw [et]; exact ⟨acc, hD, hacc⟩⟩
        · rw [if_pos (by rw [decide_eq_false c]; rfl)] at et
          exact if_t (by rw [decide_eq_false c]; rfl) ⟨_, rfl, acc, hD, by rw [sizeLine_eq]; omega, g.write hD (fun _ z => by cases z) nD, by rw [et]; exact RsAt.app hD hacc hrt3⟩
      · obtain ⟨g, h⟩ := h
        rw [← ly, List.take_length] at h
        exact ⟨D, rfl, g1.trans g, h⟩
    rintro σ H1 ⟨Us, rfl, g1, hUs⟩
    generalize usL kind rs cut = us at us0 lus ndu k hUs
    obtain ⟨zs, eU, hU⟩ := id hUs
    have lz := Paired.len hU
    have ndn : (us.map (·.name)).Nodup := List.pairwise_map.mpr (ndu.imp_of_mem fun ha hb h e => h (uniq_name ndr (us0 _ ha) (us0 _ hb) e))
    -- found
    refine ⟨fun σ H' => ∃ Fd, σ = [some (.ref q), some (.str kind), some (.str start), some (.str goal), some (.ref L), some (.ref Us), some (.ref Fd), none, none, none, none] ∧ Grew P H1 H' ∧ H1 Fd = none ∧ RsAt K H' Fd (us.filter fun r => decide (r.start = start)), ?_, ?_⟩
    · refine ⟨_, rfl, Us, rfl, ⟨_, SqL.of eU⟩, fun D nD => lc_list (K := K) (a := Us) (xs := zs) (fun i H' => Grew P H1 H' ∧ RsAt K H' D ((us.take i).filter fun r => decide (r.start = start)))
        ⟨Grew.new g1.tab nD, [], upd_same, .nil⟩ (fun i H' _ h => SqL.of (h.1.lst g1.tab eU)) (fun i v H2 hv h => ?_) (fun H2 h => ?_)⟩
      · obtain ⟨g, acc, hD, hacc⟩ := h
        obtain ⟨r, hr0, hrt⟩ := Paired.at hU hv
        have hil := (List.getElem?_eq_some_iff.mp hr0).1
        have hrt2 := hrt.grew g g1.tab
        have hrt3 := hrt2
        obtain ⟨t, u, hh, rfl, e1, e2, e3⟩ := hrt2
        have et := fsnoc (p := fun r : RoadD => decide (r.start = start)) hr0
        have la := Paired.len hacc
        have lf := List.length_filter_le (fun r : RoadD => decide (r.start = start)) (us.take i)
        rw [List.length_take] at lf
        refine ⟨rfl, _, rfl, t, _, 1, _, rfl, rfl, SqT.of e1, rfl, _, rfl, rfl, _, rfl, ?_⟩
        by_cases c : r.start = start
        · rw [if_pos (decide_eq_true c)] at et
          exact if_t (decide_eq_true (congrArg V.str c)) ⟨_, rfl, acc, hD, by rw [sizeLine_eq]; omega, g.write hD (fun _ z => by cases z) nD, by rw [et]; exact RsAt.app hD hacc hrt3⟩
        · rw [if_neg (by rw [decide_eq_true_iff]; exact c), List.append_nil] at et
          exact if_f (decide_eq_false fun e => c (V.str.inj e)) ⟨g, by rw [et]; exact ⟨acc, hD, hacc⟩⟩
      · obtain ⟨g, h⟩ := h
        rw [← lz, List.take_length] at h
        exact ⟨D, rfl, g, nD, h⟩
    rintro σ H2 ⟨Fd, rfl, g2, nFd, hFd⟩
    have g12 := g1.trans g2
    have eU2 := g2.lst g1.tab eU
    -- rounds
    refine ⟨fun σ H' => ∃ (Fd : Addr) (v7 v8 v9 : Option V) (fnd : List RoadD), σ = [some (.ref q), some (.str kind), some (.str start), some (.str goal), some (.ref L), some (.ref Us), some (.ref Fd), v7, v8, v9, none] ∧ Grew P H2 H' ∧ RsAt K H' Fd fnd ∧ RI bs us start us.length fnd, ?_, ?_⟩
    · refine ⟨_, rfl, Us, _, rfl, .inl (SqL.of eU2), _, rfl, by omega, by omega, for_range (n := zs.length) (fun i σ H' => ∃ (Fd : Addr) (v7 v8 v9 : Option V) (fnd : List RoadD), σ = [some (.ref q), some (.str kind), some (.str start), some (.str goal), some (.ref L), some (.ref Us), some (.ref Fd), v7, v8, v9, none] ∧ Grew P H2 H' ∧ RsAt K H' Fd fnd ∧ RI bs us start i fnd)
        ⟨Fd, none, none, none, _, rfl, Grew.refl g12.tab, hFd, RI.init ndu⟩ ?_ ?_⟩
      · rintro i σ H3 hi ⟨Fd, v7, v8, v9, fnd, rfl, g3, hF, I⟩
        have g13 := g12.trans g3
        have fsub := I.sub
        have okF : ∀ r ∈ fnd, OkR r := fun r hr => okR r (us0 r (fsub r hr))
        have lfn : fnd.length ≤ us.length := nodup_sub_len I.nd fsub
        refine ⟨Nat.zero_le _, fun Mo nMo => ?_⟩
        have g4 := Grew.new g13.tab (o := .lst []) nMo
        have hMo0 : RsAt K (L2.upd H3 Mo (.lst [])) Mo [] := ⟨[], upd_same, .nil⟩
        generalize L2.upd H3 Mo (.lst []) = H4 at g4 hMo0
        have eU3 := g3.lst g12.tab eU2
        have hU3 : Paired (RoadAt K H3) us zs := Paired.map' hU fun _ _ m => m.grew (g2.trans g3) g1.tab
        -- more
        refine ⟨fun σ H' => ∃ (v7 v9 : Option V), σ = [some (.ref q), some (.str kind), some (.str start), some (.str goal), some (.ref L), some (.ref Us), some (.ref Fd), v7, some (.ref Mo), v9, none] ∧ Grew P H3 H' ∧ RsAt K H' Mo (moreL bs us fnd), ?_, ?_⟩
        · refine ⟨_, rfl, Us, rfl, ⟨_, SqL.of (g4.lst g13.tab eU3)⟩, for_list (K := K) (a := Us) (xs := zs) (fun j σ H' => ∃ (v7 v9 : Option V), σ = [some (.ref q), some (.str kind), some (.str start), some (.str goal), some (.ref L), some (.ref Us), some (.ref Fd), v7, some (.ref Mo), v9, none] ∧ Grew P H3 H' ∧ RsAt K H' Mo (moreL bs (us.take j) fnd))
            ⟨_, _, rfl, g4, hMo0⟩ (fun j σ H' _ ⟨_, _, _, g, _⟩ => SqL.of (g.lst g13.tab eU3)) ?_ ?_⟩
          · rintro j v σ H5 hv ⟨w7, w9, rfl, g5, acc, hM, hacc⟩
            obtain ⟨r, hr0, hrt⟩ := Paired.at hU3 hv
            have hru := List.mem_of_getElem? hr0
            have hil := (List.getElem?_eq_some_iff.mp hr0).1
            have hrt5 := hrt.grew g5 g13.tab
            have hF5 := hF.grew g5 g13.tab
            have g15 := g13.trans g5
            have la := Paired.len hacc
            have et : moreL bs (us.take (j + 1)) fnd = moreL bs (us.take j) fnd ++ (if (!decide (r ∈ fnd) && fnd.any fun p => foB bs p r) = true then [r] else []) := fsnoc (p := fun r => !decide (r ∈ fnd) && fnd.any fun p => foB bs p r) hr0
            have lf : (moreL bs (us.take j) fnd).length ≤ us.length := by
              have h1 := List.length_filter_le (fun r => !decide (r ∈ fnd) && fnd.any fun p => foB bs p r) (us.take j)
              rw [List.length_take] at h1
              unfold moreL
              omega
            refine ⟨_, rfl, _, rfl, roadD r, fnd.map roadD, dp_road hrt5.gen, hF5.dp, shaped_road (okR r (us0 r hru)), shaped_roads okF, _, rfl, ?_⟩
            rw [any_roads ndr (fun x hx => us0 x (fsub x hx)) okR (us0 r hru)]
            by_cases c : r ∈ fnd
            · rw [decide_eq_true c] at et ⊢
              rw [if_neg (by rw [Bool.not_true, Bool.false_and]; decide), List.append_nil] at et
              exact if_f rfl ⟨_, _, rfl, g5, by rw [et]; exact ⟨acc, hM, hacc⟩⟩
            · rw [decide_eq_false c] at et ⊢
              refine if_t rfl ?_
              obtain ⟨fs, eF, hFs⟩ := hF5
              have lfs := Paired.len hFs
              refine ⟨_, rfl, Fd, rfl, ⟨_, SqL.of eF⟩, fun D nD => lc_list (K := K) (a := Fd) (xs := fs) (fun m H' => Grew P H5 H' ∧ H' D = some (.lst (((fnd.take m).map fun p => foB bs p r).map V.bl)))
                ⟨Grew.new g15.tab nD, upd_same⟩ (fun m H' _ h => SqL.of (h.1.lst g15.tab eF)) (fun m v H6 hv h => ?_) (fun H6 h => ?_)⟩
              · obtain ⟨g6, hD⟩ := h
                obtain ⟨p, hp0, hpt⟩ := Paired.at hFs hv
                have hpf := List.mem_of_getElem? hp0
                have hpl := (List.getElem?_eq_some_iff.mp hp0).1
                have g16 := g15.trans g6
                refine ⟨rfl, _, rfl, _, rfl, _, rfl, q, _, _, d, ps, ks, rs, bs, p, r, rfl, hq.grew g16 hP, okB, (okF p hpf).1, (okR r (us0 r hru)).1, (hpt.grew g6 g15.tab).gen, (hrt5.grew g6 g15.tab).gen, g16.tab, fun H7 g7 => ?_⟩
                have hD7 := g7.lst g16.tab hD
                refine ⟨_, hD7, by rw [List.length_map, List.length_map, List.length_take, sizeLine_eq]; omega, (g6.trans g7).write hD7 (fun _ z => by cases z) nD, ?_⟩
                rw [upd_same, List.take_succ, hp0, List.map_append, List.map_append]
                rfl
              · obtain ⟨g6, hD⟩ := h
                rw [← lfs, List.take_length] at hD
                refine ⟨D, _, rfl, SqL.of hD, _, rfl, ?_⟩
                have ea : ((fnd.map fun p => foB bs p r).any id) = fnd.any fun p => foB bs p r := by rw [List.any_map]; rfl
                rw [ea]
                have hM6 := g6.lst g15.tab hM
                have hacc6 : Paired (RoadAt K H6) (moreL bs (us.take j) fnd) acc := Paired.map' hacc fun _ _ m => m.grew g6 g15.tab
                cases cf : fnd.any fun p => foB bs p r with
                | true =>
                  rw [if_pos (by rw [cf]; rfl)] at et
                  refine if_t rfl ⟨_, rfl, .inl ⟨rfl, _, SqL.of hM6⟩, _, rfl, Mo, _, _, rfl, rfl, hM6, by rw [sizeLine_eq]; omega, ?_⟩
                  exact ⟨_, _, rfl, (g5.trans g6).write hM6 (fun _ z => by cases z) nMo, by rw [et]; exact RsAt.app hM6 hacc6 (hrt5.grew g6 g15.tab)⟩
                | false =>
                  rw [if_neg (by rw [cf]; decide), List.append_nil] at et
                  exact if_f rfl ⟨_, _, rfl, g5.trans g6, by rw [et]; exact ⟨acc, hM6, hacc6⟩⟩
          · rintro σ H' ⟨w7, w9, rfl, g5, hM⟩
            rw [← lz, List.take_length] at hM
            exact ⟨_, _, rfl, g5, hM⟩
        rintro σ H5 ⟨w7, w9, rfl, g5, acc, hM, hacc⟩
        have g15 := g13.trans g5
        obtain ⟨fs, eF, hFs⟩ := hF.grew g5 g13.tab
        have lfs := Paired.len hFs
        have la := Paired.len hacc
        have lm : (moreL bs us fnd).length ≤ us.length := List.length_filter_le _ _
        refine ⟨_, rfl, _, rfl, Fd, Mo, fs, acc, rfl, rfl, eF, hM, by rw [sizeLine_eq]; omega, fun p np => ?_⟩
        have gp := Grew.new g15.tab (o := .lst (fs ++ acc)) np
        exact ⟨p, _, _, _, fnd ++ moreL bs us fnd, rfl, (g3.trans g5).trans gp, ⟨fs ++ acc, upd_same, Paired.map' (Paired.app2 hFs hacc) fun _ _ m => m.grew gp g15.tab⟩, I.step ndu⟩
      · rintro σ H' ⟨Fd, v7, v8, v9, fnd, rfl, g3, hF, I⟩
        exact ⟨Fd, v7, v8, v9, fnd, rfl, g3, hF, by rw [lz]; exact I⟩
    rintro σ H3 ⟨Fd, v7, v8, v9, fnd, rfl, g3, hF, I⟩
    have g13 := g12.trans g3
    have all := I.all ndu
    obtain ⟨fs, eF, hFs⟩ := id hF
    have lfs := Paired.len hFs
    have lfn : fnd.length ≤ us.length := nodup_sub_len I.nd I.sub
    refine ⟨_, rfl, Fd, rfl, ⟨_, SqL.of eF⟩, fun D nD => lc_list (K := K) (a := Fd) (xs := fs) (fun m H' => Grew P H3 H' ∧ H' D = some (.lst (((fnd.take m).map fun r => decide (r.goal = goal)).map V.bl)))
      ⟨Grew.new g13.tab nD, upd_same⟩ (fun m H' _ h => SqL.of (h.1.lst g13.tab eF)) (fun m v H6 hv h => ?_) (fun H6 h => ?_)⟩
    · obtain ⟨g6, hD⟩ := h
      obtain ⟨p, hp0, hpt⟩ := Paired.at hFs hv
      have hpl := (List.getElem?_eq_some_iff.mp hp0).1
      have hpt2 := hpt.grew g6 g13.tab
      obtain ⟨t, u, hh, rfl, e1, e2, e3⟩ := hpt2
      refine ⟨rfl, _, rfl, t, _, 2, _, rfl, rfl, SqT.of e1, rfl, _, rfl, rfl, _, hD, by rw [List.length_map, List.length_map, List.length_take, sizeLine_eq]; omega, g6.write hD (fun _ z => by cases z) nD, ?_⟩
      rw [upd_same, List.take_succ, hp0, List.map_append, List.map_append]
      have ed : (decide (V.str p.goal = V.str goal)) = decide (p.goal = goal) := by
        by_cases c : p.goal = goal
        · rw [decide_eq_true c, decide_eq_true (congrArg V.str c)]
        · rw [decide_eq_false c, decide_eq_false fun e => c (V.str.inj e)]
      rw [ed]
      rfl
    · obtain ⟨g6, hD⟩ := h
      rw [← lfs, List.take_length] at hD
      refine ⟨D, _, rfl, SqL.of hD, k H6 _ (g13.trans g6) ?_⟩
      rw [List.any_map, List.any_eq_true]
      refine ⟨fun ⟨r, hr, e⟩ => ⟨r, (all r).mp hr, of_decide_eq_true e⟩, fun ⟨r, hr, e⟩ => ⟨r, (all r).mpr hr, decide_eq_true e⟩⟩
end
end W

set_option Elab.async false
set_option linter.all false
set_option maxRecDepth 100000
set_option maxHeartbeats 2000000
namespace W
open PySem PySem.Spec PyProof.Rows L2 GxR MyG MyS MyR
/-! ### the law's ways are the map's -/
/-- what a made map is good for -/
theorem ask_of {K : PySem.W.Frag} {H : Hp} {M P x : Addr} {d : Int} {ks ps ks' ps' : List Str} {rs rs' : List RoadD} {bs bs' : List (Str × Str)} (hok : PartsOk d ks ps rs bs) (pk : ks'.Perm ks) (pp : ps'.Perm ps) (kr : KeptAll rs rs') (hM : MapAt K H M x d ks' ps' rs' bs') (hP : TabG H P) :
    MIn K H M P x d ks' ps' rs' bs' ∧ RsIn ps' rs' ∧ (∀ r ∈ rs', 1 ≤ r.minutes) ∧ (∀ z ∈ ps', z.length ≤ 1000) ∧ (∀ r ∈ rs', PyData.strOk r.name = true) := by
  have ndn : (rs.map (·.name)).Nodup := hok.r.nd
  have ndn' := kr.nodup ndn
  have hd1 := hok.d1
  have out : ∀ {r'}, r' ∈ rs' → ∃ r ∈ rs, Kept r r' := fun {r'} h => by
    obtain ⟨l, pm, pr⟩ := kr
    obtain ⟨r, hr0, qq⟩ := Paired.mem pr (pm.mem_iff.mpr h)
    exact ⟨r, hr0, qq⟩
  have nm1 : ∀ r ∈ rs, isNm r.name = true := fun r h => List.all_eq_true.mp hok.r.nm r.name (List.mem_map.mpr ⟨r, h, rfl⟩)
  have nm' : ∀ r' ∈ rs', isNm r'.name = true := fun r' h => by
    obtain ⟨r, h1, h2⟩ := out h
    rw [h2.1]
    exact nm1 r h1
  have lrs : rs'.length = rs.length := by
    obtain ⟨l, pm, pr⟩ := kr
    rw [← pm.length_eq, Paired.len pr]
  have l60 := hok.r.len
  refine ⟨⟨hM, hP, ndn', fun r' h => Nat.le_trans (isNm_len (nm' r' h)) (by decide), hd1, fun r' h => ?_⟩, ⟨by omega, fun r' h => ?_, fun r' h => isNm_ne (nm' r' h)⟩, fun r' h => ?_, fun z h => Nat.le_trans (isNm_len (List.all_eq_true.mp hok.pn z (pp.mem_iff.mp h))) (by decide), fun r' h => isNm_ok (nm' r' h)⟩
  · obtain ⟨r, h1, h2⟩ := out h
    rw [h2.2.2.2.2.1]
    exact (hok.r.ok r h1).h
  · obtain ⟨r, h1, h2⟩ := out h
    rw [h2.2.2.1]
    exact pp.mem_iff.mpr (hok.r.ok r h1).g
  · obtain ⟨r, h1, h2⟩ := out h
    rw [h2.2.2.2.1]
    exact (hok.r.ok r h1).m1
theorem asc_eqS {a b : List Str} (ha : Asc a) (hb : Asc b) (na : a.Nodup) (nb : b.Nodup) (h : ∀ z, z ∈ a ↔ z ∈ b) : a = b := List.Perm.eq_of_pairwise (le := fun a b => slt b a = false) (fun a b _ _ h1 h2 => slt_tri h2 h1) ha hb ((List.perm_ext_iff_of_nodup na nb).mpr h)
theorem names_same {rs rs' : List RoadD} (kr : KeptAll rs rs') (nd : (rs.map (·.name)).Nodup) (a : AscR rs) (a' : AscR rs') : rs.map (·.name) = rs'.map (·.name) := by
  have asc : ∀ {l : List RoadD}, AscR l → Asc (l.map (·.name)) := fun h => List.pairwise_map.mpr h
  refine asc_eqS (asc a) (asc a') nd (kr.nodup nd) fun z => ?_
  obtain ⟨l, pm, pr⟩ := kr
  constructor
  · intro h
    obtain ⟨r, hr, rfl⟩ := List.mem_map.mp h
    obtain ⟨r', hr', q⟩ := Paired.mem' pr hr
    exact List.mem_map.mpr ⟨r', pm.mem_iff.mp hr', q.1⟩
  · intro h
    obtain ⟨r', hr', rfl⟩ := List.mem_map.mp h
    obtain ⟨r, hr, q⟩ := Paired.mem pr (pm.mem_iff.mpr hr')
    exact List.mem_map.mpr ⟨r, hr, q.1.symm⟩
theorem may_keptB {kind place : Str} {bs bs' : List (Str × Str)} {before : Option Str} {r r' : RoadD} (k : Kept r r') (hb : ∀ b, b ∈ bs' ↔ b ∈ bs) : mayB kind bs' place before r' = mayB kind bs place before r := by
  obtain ⟨k1, k2, k3, k4, k5, k6, _⟩ := k
  unfold mayB everB
  rw [k1, k2, k5]
  have e : decide (kind ∈ r'.users) = decide (kind ∈ r.users) := decide_eq_decide.mpr k6.mem_iff
  rw [e]
  cases before with
  | none => rfl
  | some b =>
    have e2 : decide ((b, r.name) ∈ bs') = decide ((b, r.name) ∈ bs) := decide_eq_decide.mpr (hb _)
    simp only [e2]
theorem may_everB {kind place : Str} {bs : List (Str × Str)} {before : Option Str} {r : RoadD} (h : mayB kind bs place before r = true) : everB kind r = true := by
  unfold mayB at h
  simp only [Bool.and_eq_true] at h
  exact h.2.1

theorem way_same {kind : Str} {bs bs' : List (Str × Str)} {rs rs' : List RoadD} {start goal : Str} {cut : List Str} (nd : (rs.map (·.name)).Nodup) (ne : ∀ r ∈ rs, r.name ≠ Str.empty) (kr : KeptAll rs rs') (hb : ∀ b, b ∈ bs' ↔ b ∈ bs) :
    WayP kind bs' rs' start goal cut ↔ IsWay kind bs rs start goal cut := by
  have nd' := kr.nodup nd
  have out : ∀ {r'}, r' ∈ rs' → ∃ r ∈ rs, Kept r r' := fun {r'} h => by
    obtain ⟨l, pm, pr⟩ := kr
    obtain ⟨r, hr0, qq⟩ := Paired.mem pr (pm.mem_iff.mpr h)
    exact ⟨r, hr0, qq⟩
  have inn : ∀ {r}, r ∈ rs → ∃ r' ∈ rs', Kept r r' := fun {r} h => by
    obtain ⟨l, pm, pr⟩ := kr
    obtain ⟨r', hr0, qq⟩ := Paired.mem' pr h
    exact ⟨r', pm.mem_iff.mp hr0, qq⟩
  have ne' : ∀ r' ∈ rs', r'.name ≠ Str.empty := fun r' h => by
    obtain ⟨r, hr, k⟩ := out h
    rw [k.1]; exact ne r hr
  have usm : ∀ {r : RoadD}, r ∈ usL kind rs cut ↔ r ∈ rs ∧ everB kind r = true ∧ r.name ∉ cut := fun {r} => by
    unfold usL
    rw [List.mem_filter, List.mem_filter, Bool.not_eq_true', decide_eq_false_iff_not]
    exact ⟨fun ⟨⟨a, b⟩, c⟩ => ⟨a, b, c⟩, fun ⟨a, b, c⟩ => ⟨⟨a, b⟩, c⟩⟩
  have fwd : ∀ {z}, Met0 (cutN (nxtS kind bs' rs' start) cut) z → z = Str.empty ∨ ∃ r, r.name = z ∧ Rch bs (usL kind rs cut) start r := fun {z} h => by
    induction h with
    | nil => exact .inl rfl
    | @step z y _ hy ih =>
      right
      obtain ⟨h1, h2⟩ := List.mem_filter.mp hy
      rw [Bool.not_eq_true', decide_eq_false_iff_not] at h2
      rcases ih with rfl | ⟨p, rfl, hp⟩
      · unfold nxtS at h1
        rw [if_pos rfl] at h1
        obtain ⟨r', hr', rfl⟩ := List.mem_map.mp h1
        obtain ⟨m1, m2⟩ := List.mem_filter.mp hr'
        obtain ⟨r, hr, k⟩ := out m1
        rw [may_keptB k hb, may_firstB, Bool.and_eq_true] at m2
        exact ⟨r, k.1.symm, .fst (usm.mpr ⟨hr, m2.2, by rw [← k.1]; exact h2⟩) (of_decide_eq_true m2.1)⟩
      · have hpr := (usm.mp hp.mem).1
        obtain ⟨p', hp', kp⟩ := inn hpr
        rw [← kp.1, nxtS_name nd' hp' (ne' p' hp')] at h1
        obtain ⟨r', hr', rfl⟩ := List.mem_map.mp h1
        obtain ⟨m1, m2⟩ := List.mem_filter.mp hr'
        obtain ⟨r, hr, k⟩ := out m1
        rw [may_keptB k hb, kp.1, kp.2.2.1, may_foB, Bool.and_eq_true] at m2
        exact ⟨r, k.1.symm, .nxt hp (usm.mpr ⟨hr, m2.2, by rw [← k.1]; exact h2⟩) m2.1⟩
  have bwd : ∀ {r}, Rch bs (usL kind rs cut) start r → Met0 (cutN (nxtS kind bs' rs' start) cut) r.name := fun {r} h => by
    induction h with
    | @fst r hr e =>
      obtain ⟨h1, h2, h3⟩ := usm.mp hr
      obtain ⟨r', hr', k⟩ := inn h1
      refine .step .nil (List.mem_filter.mpr ⟨?_, by rw [Bool.not_eq_true', decide_eq_false_iff_not]; exact h3⟩)
      unfold nxtS
      rw [if_pos rfl]
      exact List.mem_map.mpr ⟨r', List.mem_filter.mpr ⟨hr', by rw [may_keptB k hb, may_firstB, h2, decide_eq_true e]; rfl⟩, k.1⟩
    | @nxt p r hp hr f ih =>
      obtain ⟨h1, h2, h3⟩ := usm.mp hr
      obtain ⟨r', hr', k⟩ := inn h1
      have hpr := (usm.mp hp.mem).1
      obtain ⟨p', hp', kp⟩ := inn hpr
      refine .step ih (List.mem_filter.mpr ⟨?_, by rw [Bool.not_eq_true', decide_eq_false_iff_not]; exact h3⟩)
      rw [← kp.1, nxtS_name nd' hp' (ne' p' hp')]
      exact List.mem_map.mpr ⟨r', List.mem_filter.mpr ⟨hr', by rw [may_keptB k hb, kp.1, kp.2.2.1, may_foB, h2, f]; rfl⟩, k.1⟩
  constructor
  · rintro ⟨z, hz, m⟩
    obtain ⟨r', hr', rfl⟩ := List.mem_map.mp hz
    obtain ⟨m1, m2⟩ := List.mem_filter.mp hr'
    rcases fwd m with e | ⟨r, e, hr⟩
    · exact absurd e (ne' r' m1)
    · obtain ⟨r2, hr2, k⟩ := out m1
      have := uniq_name nd (usm.mp hr.mem).1 hr2 (e.trans k.1)
      subst this
      exact ⟨r, hr, by rw [← k.2.2.1]; exact of_decide_eq_true m2⟩
  · rintro ⟨r, hr, e⟩
    obtain ⟨r', hr', k⟩ := inn (usm.mp hr.mem).1
    exact ⟨r.name, List.mem_map.mpr ⟨r', List.mem_filter.mpr ⟨hr', decide_eq_true (k.2.2.1.trans e)⟩, k.1⟩, bwd hr⟩
end W

set_option Elab.async false
set_option linter.all false
set_option maxRecDepth 100000
set_option maxHeartbeats 800000
namespace MyR
open PySem PySem.Spec PyProof.Rows L2
/-! ### repr of data or of None -/
def rRepN (K : PySem.W.Frag) : List V → Hp → VK → Prop := fun xs H Q => (xs = [.non] ∧ Q (.str "None") H) ∨ rRep K xs H Q
theorem call_repN {X : Cx} (hg : X.A.guards = some []) (hu : X.A.units + 64 < cLine) : CallR X (.builtin "repr") (rRepN X.K) := by
  intro pins s σ H xs us Q I r h
  rcases h with ⟨rfl, q⟩ | h
  · obtain ⟨u, rfl, r1⟩ := vals1 r
    obtain rfl : u = Value.none := r1
    exact PySem.P.repr_of_none ⟨.str _, H, I.tok _, ⟨_, rfl⟩, q⟩
  · exact call_repD hg hu pins s σ H xs us Q I r h
end MyR

set_option Elab.async false
set_option linter.all false
set_option maxRecDepth 100000
set_option maxHeartbeats 4000000
namespace W
open PySem PySem.Spec PyProof.Rows L2 GxR MyG MyS MyR
/-! ### the law -/
theorem PartsOk.more {d : Int} {ks ps : List Str} {rs ns rs2 : List RoadD} {bs : List (Str × Str)} (h : PartsOk d ks ps rs bs) (pm : rs2.Perm (rs ++ ns)) (hn : (ns.map (·.name)).all isNm = true) (nd : ((rs ++ ns).map (·.name)).Nodup) (ho : ∀ r ∈ ns, RoadOk d ps ks r) (l : (rs ++ ns).length ≤ 60) : PartsOk d ks ps rs2 bs := by
  obtain ⟨d1, d2, k1, k2, p2, kn, pn, kd, pd, hr, hb⟩ := h
  refine ⟨d1, d2, k1, k2, p2, kn, pn, kd, pd, ⟨by rw [pm.length_eq]; exact l, ?_, (pm.map _).nodup_iff.mpr nd, fun r hr2 => ?_⟩, ⟨hb.len, hb.nd, fun b hb2 => ?_⟩⟩
  · refine List.all_eq_true.mpr fun z hz => ?_
    have := (pm.map (·.name)).mem_iff.mp hz
    rw [List.map_append, List.mem_append] at this
    rcases this with q | q
    · exact List.all_eq_true.mp hr.nm z q
    · exact List.all_eq_true.mp hn z q
  · rcases List.mem_append.mp (pm.mem_iff.mp hr2) with q | q
    · exact hr.ok r q
    · exact ho r q
  · obtain ⟨r1, h1, r2, h2, e⟩ := hb.ok b hb2
    exact ⟨r1, pm.mem_iff.mpr (List.mem_append_left _ h1), r2, pm.mem_iff.mpr (List.mem_append_left _ h2), e⟩
theorem nodup_map_inj {α β : Type} {f : α → β} : ∀ {l : List α} {a b : α}, (l.map f).Nodup → a ∈ l → b ∈ l → f a = f b → a = b
  | x :: l, a, b, nd, h, h', e => by
    have q := List.nodup_cons.mp nd
    rcases List.mem_cons.mp h with h | h <;> rcases List.mem_cons.mp h' with h' | h'
    · rw [h, h']
    · exact absurd (List.mem_map.mpr ⟨b, h', by rw [← e, h]⟩) q.1
    · exact absurd (List.mem_map.mpr ⟨a, h, by rw [e, h']⟩) q.1
    · exact nodup_map_inj q.2 h h' e
/-- the names that the law adds -/
def mS : List Str := ["m1", "m2", "m3", "m4", "m5"].map Str.ofString
def freshM (rs : List RoadD) : List Str := mS.filter fun z => !decide (z ∈ rs.map (·.name))
theorem fresh4 {rs : List RoadD} (h : (rs.map fun r => r.name.cps.toList.head?).Nodup) : 4 ≤ (freshM rs).length := by
  have key : ∀ (l : List Str), l.Nodup → (∀ z ∈ l, z.cps.toList.head? = some 109) → l.length ≤ (l.filter fun z => !decide (z ∈ rs.map (·.name))).length + 1 := by
    intro l
    induction l with
    | nil => intro _ _; exact Nat.zero_le _
    | cons z l ih =>
      intro nd hh
      have q := List.nodup_cons.mp nd
      by_cases c : z ∈ rs.map (·.name)
      · have e : (z :: l).filter (fun z => !decide (z ∈ rs.map (·.name))) = l.filter fun z => !decide (z ∈ rs.map (·.name)) := List.filter_cons_of_neg (by rw [decide_eq_true c]; decide)
        have e2 : l.filter (fun z => !decide (z ∈ rs.map (·.name))) = l := List.filter_eq_self.mpr fun y hy => by
          rw [Bool.not_eq_true', decide_eq_false_iff_not]
          intro hc
          obtain ⟨r1, h1, e1⟩ := List.mem_map.mp c
          obtain ⟨r2, h2, e2⟩ := List.mem_map.mp hc
          have : r1 = r2 := nodup_map_inj h h1 h2 (by rw [e1, e2, hh z List.mem_cons_self, hh y (List.mem_cons_of_mem _ hy)])
          rw [← e1, this, e2] at q
          exact q.1 hy
        rw [e, e2]
        exact Nat.le_refl _
      · have e : (z :: l).filter (fun z => !decide (z ∈ rs.map (·.name))) = z :: l.filter fun z => !decide (z ∈ rs.map (·.name)) := List.filter_cons_of_pos (by rw [decide_eq_false c]; decide)
        rw [e, List.length_cons, List.length_cons]
        have := ih q.2 fun y hy => hh y (List.mem_cons_of_mem _ hy)
        omega
  have := key mS (by decide +kernel) (by decide +kernel)
  have l5 : mS.length = 5 := rfl
  unfold freshM
  omega
theorem mS_ok : ∀ z ∈ mS, isNm z = true := by decide +kernel
structure RepOk (d : PyData) : Prop where
  s : d.showable = true
  h : d.hasDict = false
  p : d.depth ≤ 8
  z : d.shown.length ≤ sizeLine
theorem rep_of {d : PyData} (c : d.canLay0 = true) (s : d.showable = true) (i : d.intsShort 13 = true) (p : d.depth ≤ 8) (w : d.weight ≤ 2 ^ 20) : RepOk d :=
  ⟨s, PyData.hasDict_of_canLay d c, p, PyData.shown_fits (B := 13) (by decide) (by decide) (PyData.leavesShort_of_canLay0 13 d c i) w⟩
theorem strs_all : ∀ {ls : List Str}, (∀ s ∈ ls, PyData.strOk s = true ∧ s.cps.size ≤ 12) → PyData.canLayAll0 (ls.map .str) = true ∧ PyData.showableAll (ls.map .str) = true ∧ PyData.intsShortAll 13 (ls.map .str) = true ∧ PyData.depthAll (ls.map .str) ≤ 1 ∧ PyData.weightAll (ls.map .str) ≤ 20 * ls.length
  | [], _ => by simp [PyData.canLayAll0, PyData.showableAll, PyData.intsShortAll, PyData.depthAll, PyData.weightAll]
  | s :: ls, h => by
    obtain ⟨i1, i2, i3, i4, i5⟩ := strs_all (ls := ls) fun x hx => h x (List.mem_cons_of_mem _ hx)
    obtain ⟨a1, a2⟩ := h s List.mem_cons_self
    refine ⟨?_, ?_, ?_, ?_, ?_⟩
    · simp only [List.map_cons, PyData.canLayAll0, PyData.canLay0, a1, i1, Bool.and_self]
    · simp only [List.map_cons, PyData.showableAll, PyData.showable, i2, Bool.and_self]
    · simp only [List.map_cons, PyData.intsShortAll, PyData.intsShort, i3, Bool.and_self]
    · simp only [List.map_cons, PyData.depthAll, PyData.depth]; omega
    · simp only [List.map_cons, PyData.weightAll, PyData.weight, List.length_cons]; omega
theorem strs_rep {ls : List Str} (h : ∀ s ∈ ls, PyData.strOk s = true ∧ s.cps.size ≤ 12) (hl : ls.length ≤ 1000) : RepOk (.list (ls.map .str)) := by
  obtain ⟨i1, i2, i3, i4, i5⟩ := strs_all h
  refine rep_of ?_ ?_ ?_ ?_ ?_
  · simpa [PyData.canLay0] using i1
  · simpa [PyData.showable] using i2
  · simpa [PyData.intsShort] using i3
  · simp only [PyData.depth]; omega
  · have e : PyData.weight (.list (ls.map .str)) = PyData.weightAll (ls.map .str) := by simp only [PyData.weight]
    rw [e, show (2 : Nat) ^ 20 = 1048576 by decide]
    omega
theorem shaped_strsL {ls : List Str} (h : ∀ s ∈ ls, PyData.strOk s = true ∧ s.cps.size ≤ 12) : SeqAt.shaped (PyData.list (ls.map .str)) = true := by
  obtain ⟨i1, _, _, i4, _⟩ := strs_all h
  unfold SeqAt.shaped
  rw [Bool.and_eq_true]
  refine ⟨by simpa [PyData.canLay0] using i1, decide_eq_true ?_⟩
  simp only [PyData.depth]
  omega
theorem eqv_selfL {ls : List Str} (h : ∀ s ∈ ls, PyData.strOk s = true ∧ s.cps.size ≤ 12) : PyData.eqv (PyData.list (ls.map .str)) (PyData.list (ls.map .str)) = true := by
  have q := shaped_strsL h
  unfold SeqAt.shaped at q
  rw [Bool.and_eq_true] at q
  exact SeqAt.eqv_refl _ q.1
def spLaw2 (K : PySem.W.Frag) (P Pw : Addr) : Sp := fun vs H Q _ => ∃ (a : Addr) (ns : List Int), vs = [.ref a] ∧ SqL K H a (ns.map V.int) ∧ ns.length ≤ 63 ∧ TabG H P ∧ H Pw = some (.tbl #[]) ∧ ∀ H', Q (.bl true) H'
section
variable {Pg : Program} {w : World} {K : PySem.W.Frag} {mg : Str → Option Value} {base : Heap} {C P Pw : Addr}
abbrev nLaw : List Str := ["script", "numbers", "parts", "names", "road", "fresh", "name", "roads", "k", "kind", "start", "goal", "expected", "chart", "actual"]
theorem scLaw : FnScope nLaw ["script"] (defScope sLaw) := ⟨rfl, rfl, rfl, by decide +kernel, rfl, by decide +kernel, by decide +kernel⟩
theorem room10 {q : Str} {sc : Scope} {n : Nat} {f : Addr} {cd : Value} : Room 10 (callerA.deeper (envOfC q sc n f cd)) := ⟨rfl, by show 1 + claimMargin + 1 + 3 * 10 + 5 < _; decide, by show 4 + 3 + 16 * 10 + 200 < _; decide⟩
theorem ok_law {M f fN fM fC fR fT fIW fVR : Addr} {fdN fdM fdC fdR fdT fdIW fdVR : FuncData} {dV kV doc pm cdv ct oc : Value} {an od : Option Addr} {osl : Array (Option Value)}
    (lk : K.lookup f = some ⟨oc, od, .func (PySem.W.fnOf "law" "law" (defArgs sLaw) (defBody sLaw) (defScope sLaw) dV kV doc pm an cdv ct), osl⟩) (hcd : PySem.W.codeIn K cdv "law" = true)
    (hb : ∀ (s : Shared) (u : Value), BindsTo s (PySem.W.fnOf "law" "law" (defArgs sLaw) (defBody sLaw) (defScope sLaw) dV kV doc pm an cdv ct) ⟨[u], []⟩ [("script", u)])
    (hrp : mg "repr" = none) (hi : mg "int" = none) (hra : mg "range" = none) (ht : mg "tuple" = none) (hs : mg "sorted" = none) (hls : mg "list" = none) (ne : Pw ≠ P)
    (GN : FnOk Pg w K mg base CX0 2 fN fdN ["script", "many"] (spNumbers K P)) (gN : mg "_law_numbers" = some (.ref fN)) (kN : PySem.W.keepIn K (.ref fN) = true) (bN : Binds K fdN ["script", "many"] [])
    (GM : FnOk Pg w K mg base CX0 3 fM fdM ["numbers", "at"] (spLPartsG K P)) (gM : mg "_law_parts" = some (.ref fM)) (kM : PySem.W.keepIn K (.ref fM) = true) (bM : Binds K fdM ["numbers", "at"] [])
    (GC : FnOk Pg w K mg base CX0 7 fC fdC ["parts"] (spLMade K M P)) (gC : mg "_law_made" = some (.ref fC)) (kC : PySem.W.keepIn K (.ref fC) = true) (bC : Binds K fdC ["parts"] [])
    (GR : FnOk Pg w K mg base CX0 2 fR fdR ["numbers", "at", "name", "day", "kinds", "places"] (spLRoadG K P)) (gR : mg "_law_road" = some (.ref fR)) (kR : PySem.W.keepIn K (.ref fR) = true) (bR : Binds K fdR ["numbers", "at", "name", "day", "kinds", "places"] [])
    (GT : FnOk Pg w K mg base CX0 2 fT fdT ["numbers", "at", "parts"] (spLATrip K P)) (gT : mg "_law_apart_trip" = some (.ref fT)) (kT : PySem.W.keepIn K (.ref fT) = true) (bT : Binds K fdT ["numbers", "at", "parts"] [])
    (GIW : FnOk Pg w K mg base CX0 2 fIW fdIW ["parts", "kind", "start", "goal", "names"] (spLIsWay K P)) (gIW : mg "_law_is_way" = some (.ref fIW)) (kIW : PySem.W.keepIn K (.ref fIW) = true) (bIW : Binds K fdIW ["parts", "kind", "start", "goal", "names"] [])
    (GVR : FnOk Pg w K mg base (L2.CX Pg w) 10 fVR fdVR ["chart", "kind", "start", "goal"] (spVital K M P Pw)) (gVR : mg "vital_roads" = some (.ref fVR)) (kVR : PySem.W.keepIn K (.ref fVR) = true) (bVR : Binds K fdVR ["chart", "kind", "start", "goal"] []) :
    RunG Pg w K mg base (L2.CX Pg w) f (spLaw2 K P Pw) := by
  refine runG_of lk hcd scLaw hb ⟨rfl, by decide, by decide⟩ fun s H a0 Q E h => ?_
  obtain ⟨a, zs, ea, hS, hz, hP, hPw, k⟩ := h
  cases ea
  have hr : Room 10 (callerA.deeper (envOfC "law" (defScope sLaw) s.heap.objs.size f cdv)) := room10
  have hr2 : Room 2 _ := hr.mono (by decide)
  have hr3 : Room 3 _ := hr.mono (by decide)
  have hr7 : Room 7 _ := hr.mono (by decide)
  refine ⟨_, pss_cons (ps_set (i := 1) scLaw.nd rfl (Or.inr rfl) (pe_call GN hr2 (by rfl) gN kN bN .nil pass0 (pa_cons (pv 0) (pa_cons pe_int pa_nil))))
      (pss_cons (ps_set (i := 2) scLaw.nd rfl (Or.inr rfl) (pe_call GM hr3 (by rfl) gM kM bM .nil pass0 (pa_cons (pv 1) (pa_cons pe_int pa_nil))))
      (C8.pss_cut (ps_if (pt_cmpR op_eq (pe_op op_mod (pe_callTy (r := rInt1) call_int1 (by rfl) hi (by decide +kernel) (pa_cons (pe_ix (r := rIxL K) ix_list (pv 1) pe_int (fun _ _ => rfl)) pa_nil)) pe_int) pe_int (nomark _)) (C8.pss_cut (ps_set (i := 3) scLaw.nd rfl (Or.inr rfl) (pe_lc (own := [("road", 4)]) (g := gName 4) (tt := tYes) rfl scLaw.nd (pi_tup (pe_ix (r := rIxL K) ix_list (pv 2) pe_int (fun _ _ => rfl))) (blkOk_by (N := nLaw) (sc := defScope sLaw) (by decide +kernel)) (fun _ _ _ _ _ => pg_name (i := 4) scLaw.nd rfl (Or.inl rfl)) (fun _ _ _ _ _ => pts_nil) (fun _ _ _ _ _ => (pe_ix (r := rIxT K) ix_tup (pv 4) pe_int (fun _ _ => rfl)))))
      (C8.pss_cut (ps_set (i := 5) scLaw.nd rfl (Or.inr rfl) (pe_lc (own := [("name", 6)]) (g := gName 6) rfl scLaw.nd (pi_list (pe_lst (pa_cons pe_str (pa_cons pe_str (pa_cons pe_str (pa_cons pe_str (pa_cons pe_str pa_nil))))))) (blkOk_by (N := nLaw) (sc := defScope sLaw) (by decide +kernel)) (fun _ _ _ _ _ => pg_name (i := 6) scLaw.nd rfl (Or.inl rfl)) (fun _ _ _ _ _ => pts_one (pt_cmpR (r := rIn K true) op_notIn_seq (pv 6) (pv 3) (by rfl))) (fun _ _ _ _ _ => (pv 6))))
      (C8.pss_cut (ps_setLc (i := 7) (own := [("k", 8)]) (g := gName 8) (tt := tYes) rfl scLaw.nd rfl rfl (sw_true rfl rfl rfl (by decide +kernel)) (pi_range1 rfl hra (pa_cons pe_int pa_nil)) (blkOk_by (N := nLaw) (sc := defScope sLaw) (by decide +kernel)) (fun _ _ _ _ _ => pg_name (i := 8) scLaw.nd rfl (Or.inl rfl)) (fun _ _ _ _ _ => pts_nil) (fun _ _ _ _ _ => pe_call GR hr2 (by rfl) gR kR bR .nil pass0 (pa_cons (pv 1) (pa_cons (pe_op op_add pe_int (pe_op op_mul pe_int (pv 8))) (pa_cons (pe_ix (r := rIxL K) ix_list (pv 5) (pv 8) (fun _ _ => rfl)) (pa_cons (pe_ix (r := rIxL K) ix_list (pv 2) pe_int (fun _ _ => rfl)) (pa_cons (pe_ix (r := rIxL K) ix_list (pv 2) pe_int (fun _ _ => rfl)) (pa_cons (pe_ix (r := rIxL K) ix_list (pv 2) pe_int (fun _ _ => rfl)) pa_nil))))))))
      (pss_one (ps_asg (pe_callTy call_tuple_of (by rfl) ht (by decide +kernel) (pa_cons (pe_callB cr_sortR (by rfl) hs (by decide +kernel) (pa_cons (pe_op op_cat (pe_callTy call_list_of (by rfl) hls (by decide +kernel) (pa_cons (pe_ix (r := rIxL K) ix_list (pv 2) pe_int (fun _ _ => rfl)) pa_nil)) (pv 7)) pa_nil)) pa_nil)) (pg_sub (pv 2) pe_int set_list)))))) pss_nil)
      (C8.pss_cut (ps_asg (pe_call GT hr2 (by rfl) gT kT bT .nil pass0 (pa_cons (pv 1) (pa_cons pe_int (pa_cons (pv 2) pa_nil)))) (pg_tup (by rfl) (pgs_cons (pg_name (i := 9) scLaw.nd rfl (Or.inr rfl)) (pgs_cons (pg_name (i := 10) scLaw.nd rfl (Or.inr rfl)) (pgs_cons (pg_name (i := 11) scLaw.nd rfl (Or.inr rfl)) pgs_nil)))))
      (pss_cons (ps_set (i := 12) scLaw.nd rfl (Or.inl rfl) pe_non)
      (C8.pss_cut (ps_if (pt_val (pe_call GIW hr2 (by rfl) gIW kIW bIW .nil pass0 (pa_cons (pv 2) (pa_cons (pv 9) (pa_cons (pv 10) (pa_cons (pv 11) (pa_cons (pe_lst pa_nil) pa_nil))))))) (pss_one (ps_setLc (i := 12) (own := [("road", 4)]) (g := gName 4) rfl scLaw.nd rfl rfl (sw_true rfl rfl rfl (by decide +kernel)) (pi_tup (pe_ix (r := rIxL K) ix_list (pv 2) pe_int (fun _ _ => rfl))) (blkOk_by (N := nLaw) (sc := defScope sLaw) (by decide +kernel)) (fun _ _ _ _ _ => pg_name (i := 4) scLaw.nd rfl (Or.inl rfl)) (fun _ _ _ _ _ => pts_one (pt_not (pt_val (pe_call GIW hr2 (by rfl) gIW kIW bIW .nil pass0 (pa_cons (pv 2) (pa_cons (pv 9) (pa_cons (pv 10) (pa_cons (pv 11) (pa_cons (pe_lst (pa_cons (pe_ix (r := rIxT K) ix_tup (pv 4) pe_int (fun _ _ => rfl)) pa_nil)) pa_nil))))))))) (fun _ _ _ _ _ => (pe_ix (r := rIxT K) ix_tup (pv 4) pe_int (fun _ _ => rfl))))) pss_nil)
      (pss_cons (ps_set (i := 13) scLaw.nd rfl (Or.inl rfl) (pe_call GC hr7 (by rfl) gC kC bC .nil pass0 (pa_cons (pv 2) pa_nil)))
      (C8.pss_cut (ps_set (i := 14) scLaw.nd rfl (Or.inl rfl) (pe_call (E := E0) GVR hr (by rfl) gVR kVR bVR .nil (passF rfl rfl) (pa_cons (pv 13) (pa_cons (pv 9) (pa_cons (pv 10) (pa_cons (pv 11) pa_nil))))))
      (C8.pss_cut (ps_if (pt_cmpR op_ne (pe_callB (call_repN rfl hr.units) (by rfl) hrp (by decide +kernel) (pa_cons (pv 14) pa_nil)) (pe_callB (call_repN rfl hr.units) (by rfl) hrp (by decide +kernel) (pa_cons (pv 12) pa_nil)) (nomark _)) (pss_one (ps_ret pe_bl)) pss_nil)
      (C8.pss_cut (ps_if (pt_cmp (pc_notN (pv 14))) (pss_one (ps_expr (pe_bm PySem.F.plainAttrs_list PySem.F.slot_list_append PySem.F.type_list_append mt_append (pv 14) (pa_cons pe_str pa_nil)))) pss_nil)
      (pss_one (ps_ret (pe_cmpR (op_eqD hr.units) (pe_call (E := E0) GVR hr (by rfl) gVR kVR bVR .nil (passF rfl rfl) (pa_cons (pv 13) (pa_cons (pv 9) (pa_cons (pv 10) (pa_cons (pv 11) pa_nil))))) (pv 12) (nomark _))))))))))))), ?_⟩
  refine ⟨_, rfl, a0, zs, 160, rfl, hS, hz, by decide, hP, fun H1 p ns g1 np hp hlen hsm => ?_⟩
  refine ⟨_, rfl, p, ns, 0, rfl, SqL.of hp, hsm, by decide, by omega, g1.tab, fun H2 q d ks ps rs0 bs g2 nq hq0 hok0 sks sps ar0 ab1 p2 r1 r8 hheads => ?_⟩
  have g12 := g1.trans g2
  have hp2 := g2.lst g1.tab hp
  have nq0 : H q = none := g1.free nq
  obtain ⟨n110, e110, _, _⟩ := at_num hsm (i := 110) (by decide) (by omega)
  -- more roads
  refine ⟨fun σ H' => ∃ (v3 v4 v5 v6 v7 v8 : Option V) (rs : List RoadD), σ = [some (.ref a0), some (.ref p), some (.ref q), v3, v4, v5, v6, v7, v8, none, none, none, none, none, none] ∧ Grew P H1 H' ∧ PartsT K H' q d ks ps rs bs ∧ PartsOk d ks ps rs bs ∧ AscR rs, ?_, ?_⟩
  · refine ⟨_, rfl, p, _, _, _, rfl, rfl, SqL.of hp2, e110, .inl ⟨_, rfl, _, _, rfl, rfl, (show (0 : Int) < 8 by decide), rfl, _, rfl, ?_⟩⟩
    refine ite2 (fun _ => ?_) (fun _ => ⟨none, none, none, none, none, none, rs0, rfl, g2, hq0, hok0, ar0⟩)
    have hq2 := hq0
    obtain ⟨ki, pl, ro, ba, xs, zs2, eq, eki, epl, ero, hrs, eba, hbs⟩ := hq2
    have lx := Paired.len hrs
    have l60 := hok0.r.len
    -- names
    refine ⟨fun σ H' => ∃ (Nm : Addr), σ = [some (.ref a0), some (.ref p), some (.ref q), some (.ref Nm), none, none, none, none, none, none, none, none, none, none, none] ∧ Grew P H2 H' ∧ H' Nm = some (.lst (namesV rs0)), ?_, ?_⟩
    · refine ⟨_, rfl, q, _, 3, .ref ro, rfl, rfl, SqL.of eq, rfl, ro, rfl, ⟨_, SqT.of ero⟩, fun D nD => lc_tup (K := K) (a := ro) (xs := xs) (fun i H' => Grew P H2 H' ∧ H' D = some (.lst (namesV (rs0.take i))))
        ⟨Grew.new g12.tab nD, upd_same⟩ (fun i H' _ h => SqT.of (h.1.tup g12.tab ero)) (fun i v H6 hv h => ?_) (fun H6 h => ?_)⟩
      · obtain ⟨g6, hD⟩ := h
        obtain ⟨r, hr0, hrt⟩ := Paired.at hrs hv
        have hil := (List.getElem?_eq_some_iff.mp hr0).1
        obtain ⟨t, u, hh, rfl, e1, e2, e3⟩ := hrt.grew g6 g12.tab
        refine ⟨rfl, _, rfl, t, _, 0, _, rfl, rfl, SqT.of e1, rfl, _, hD, ?_, g6.write hD (fun _ z => by cases z) nD, ?_⟩
        · refine Nat.lt_of_le_of_lt (namesV_len _) ?_
          rw [List.length_take, sizeLine_eq]; omega
        · rw [upd_same, List.take_succ, hr0, namesV_app]
          rfl
      · obtain ⟨g6, hD⟩ := h
        rw [← lx, List.take_length] at hD
        exact ⟨D, rfl, g6, hD⟩
    rintro σ H3 ⟨Nm, rfl, g3, hNm⟩
    have g13 := g12.trans g3
    -- fresh
    refine ⟨fun σ H' => ∃ (Fr : Addr), σ = [some (.ref a0), some (.ref p), some (.ref q), some (.ref Nm), none, some (.ref Fr), none, none, none, none, none, none, none, none, none] ∧ Grew P H3 H' ∧ H' Fr = some (.lst ((freshM rs0).map V.str)), ?_, ?_⟩
    · refine ⟨by show 5 ≤ sizeLine; decide, fun Lt nLt => ?_⟩
      have gl := Grew.new g13.tab (o := .lst (mS.map V.str)) nLt
      have hLt : (L2.upd H3 Lt (.lst (mS.map V.str))) Lt = some (.lst (mS.map V.str)) := upd_same
      refine ⟨Lt, rfl, ⟨_, SqL.of hLt⟩, fun D nD => ?_⟩
      show ∃ W : Nat → Nat → Hp → Prop, _
      refine lc_list (K := K) (a := Lt) (xs := mS.map V.str) (fun i H' => Grew P H3 H' ∧ H' Lt = some (.lst (mS.map V.str)) ∧ H' D = some (.lst (((mS.take i).filter fun z => !decide (z ∈ rs0.map (·.name))).map V.str)))
        ⟨gl.put nD, by rw [upd_ne (fun z => by have nD' : (L2.upd H3 Lt (.lst (mS.map V.str))) D = none := nD; rw [← z, hLt] at nD'; cases nD')]; exact hLt, upd_same⟩ (fun i H' _ h => SqL.of h.2.1) (fun i v H6 hv h => ?_) (fun H6 h => ?_)
      · obtain ⟨g6, hL6, hD⟩ := h
        have nDH : H3 D = none := gl.free nD
        obtain ⟨z, hz0, rfl⟩ := str_at hv
        have hil := (List.getElem?_eq_some_iff.mp hz0).1
        have et := fsnoc (p := fun z : Str => !decide (z ∈ rs0.map (·.name))) hz0
        have lf := List.length_filter_le (fun z : Str => !decide (z ∈ rs0.map (·.name))) (mS.take i)
        have l5 : mS.length = 5 := rfl
        rw [List.length_take] at lf
        refine ⟨rfl, _, rfl, _, rfl, Nm, _, rfl, .inl (SqL.of (g6.lst g13.tab hNm)), rfl, flat_strs _, _, rfl, ?_⟩
        rw [if_pos rfl, show namesV rs0 = (rs0.map (·.name)).map V.str from rfl, inV_dec]
        by_cases c : z ∈ rs0.map (·.name)
        · rw [if_neg (by rw [decide_eq_true c]; decide), List.append_nil] at et
          exact if_f (by rw [decide_eq_true c]; rfl) ⟨g6, hL6, by rw [et]; exact hD⟩
        · rw [if_pos (by rw [decide_eq_false c]; rfl)] at et
          refine if_t (by rw [decide_eq_false c]; rfl) ⟨_, rfl, _, hD, by rw [List.length_map, sizeLine_eq]; omega, g6.write hD (fun _ z => by cases z) nDH, ?_, ?_⟩
          · rw [upd_ne (fun z => by
              have nD' : (L2.upd H3 Lt (.lst (mS.map V.str))) D = none := nD
              rw [← z, hLt] at nD'; cases nD')]
            exact hL6
          · rw [upd_same, et, List.map_append]; rfl
      · obtain ⟨g6, hL6, hD⟩ := h
        exact ⟨D, rfl, g6, hD⟩
    rintro σ H4 ⟨Fr, rfl, g4, hFr⟩
    have g14 := g13.trans g4
    have f4 := fresh4 hheads
    have fok : ∀ z ∈ freshM rs0, isNm z = true ∧ z ∉ rs0.map (·.name) := fun z hz => by
      obtain ⟨a, b⟩ := List.mem_filter.mp hz
      rw [Bool.not_eq_true', decide_eq_false_iff_not] at b
      exact ⟨mS_ok z a, b⟩
    have fnd : (freshM rs0).Nodup := List.Nodup.sublist List.filter_sublist (by decide +kernel : mS.Nodup)
    generalize freshM rs0 = fr at f4 fok fnd hFr
    -- roads
    refine ⟨fun σ H' => ∃ (Ro : Addr) (nl : List RoadD), σ = [some (.ref a0), some (.ref p), some (.ref q), some (.ref Nm), none, some (.ref Fr), none, some (.ref Ro), none, none, none, none, none, none, none] ∧ Grew P H4 H' ∧ H4 Ro = none ∧ RsAt K H' Ro nl ∧ nl.map (·.name) = fr.take 4 ∧ nl.length = 4 ∧ ∀ r ∈ nl, RoadOk d ps ks r, ?_, ?_⟩
    · refine ⟨4, rfl, by decide, by decide, fun D nD => lc_range (n := 4) (fun i H' => Grew P H4 H' ∧ ∃ nl : List RoadD, RsAt K H' D nl ∧ nl.map (·.name) = fr.take i ∧ nl.length = i ∧ ∀ r ∈ nl, RoadOk d ps ks r)
        ⟨Grew.new g14.tab nD, [], ⟨[], upd_same, .nil⟩, rfl, rfl, fun r hr => absurd hr (by simp)⟩ (fun i H6 hi h => ?_) (fun H6 h => ?_)⟩
      · obtain ⟨g6, nl, ⟨ys, hD, hys⟩, hnm, hln, hrok⟩ := h
        have g16 := g14.trans g6
        have gq := (g3.trans g4).trans g6
        have hif : i < fr.length := by omega
        have en : fr[i]? = some fr[i] := List.getElem?_eq_getElem hif
        have eq6 := gq.lst g12.tab eq
        have lys := Paired.len hys
        rw [Int.zero_add]
        refine ⟨rfl, _, rfl, _, rfl, _, _, rfl, rfl, .inl ⟨by decide, by decide⟩, _, _, rfl, rfl, _, rfl, _, rfl, Fr, _, _, _, rfl, rfl, SqL.of (g6.lst g14.tab hFr), atI_nat (by rw [List.getElem?_map, en]; rfl), _, rfl, q, _, 0, _, rfl, rfl, SqL.of eq6, rfl, _, rfl, q, _, 1, _, rfl, rfl, SqL.of eq6, rfl, _, rfl, q, _, 2, _, rfl, rfl, SqL.of eq6, rfl,
          p, ki, pl, ns, 112 + 10 * (i : Int), d, fr[i], ks, ps, rfl, SqL.of (gq.lst g12.tab hp2), hsm, by omega, by omega, hok0.d1, gq.tup g12.tab eki, (TupF.grew epl gq g12.tab).sq, by omega, hok0.k2, hok0.kd, g16.tab, fun H7 r t g7 nt hr hn hro7 => ?_⟩
        have hD7 := g7.lst g16.tab hD
        refine ⟨_, hD7, by rw [sizeLine_eq]; omega, (g6.trans g7).write hD7 (fun _ z => by cases z) nD, nl ++ [r], RsAt.app hD7 (Paired.map' hys fun _ _ m => m.grew g7 g16.tab) hr, ?_, by rw [List.length_append, hln]; rfl, fun x hx => ?_⟩
        · rw [List.map_append, hnm, List.take_succ, en]
          show _ ++ [r.name] = _
          rw [hn]
          rfl
        · rcases List.mem_append.mp hx with z | z
          · exact hrok x z
          · rw [List.mem_singleton.mp z]; exact hro7
      · obtain ⟨g6, nl, h1, h2, h3, h4⟩ := h
        exact ⟨D, nl, rfl, g6, nD, h1, h2, h3, h4⟩
    rintro σ H5 ⟨Ro, nl, rfl, g5, nRo, ⟨ys, hRo, hys⟩, hnm, hln, hrok⟩
    have g15 := g14.trans g5
    have gq5 := (g3.trans g4).trans g5
    have eq5 := gq5.lst g12.tab eq
    have hrs5 : Paired (RoadAt K H5) rs0 xs := Paired.map' hrs fun _ _ m => m.grew gq5 g12.tab
    have lys := Paired.len hys
    have ndall : ((rs0 ++ nl).map (·.name)).Nodup := by
      rw [List.map_append, List.nodup_append, hnm]
      refine ⟨hok0.r.nd, fnd.sublist (List.take_sublist _ _), fun x hx y hy e => ?_⟩
      exact (fok y (List.mem_of_mem_take hy)).2 (e ▸ hx)
    -- parts[3]
    refine ⟨_, rfl, q, _, 3, .ref ro, rfl, rfl, SqL.of eq5, rfl, ro, _, rfl, .inr (SqT.of (gq5.tup g12.tab ero)), fun L1 nL1 => ?_⟩
    have h1 := Grew.new g15.tab (o := .lst xs) nL1
    have hRo1 := h1.lst g15.tab hRo
    refine ⟨_, rfl, L1, Ro, xs, ys, rfl, rfl, upd_same, hRo1, by rw [sizeLine_eq]; omega, fun L2a nL2 => ?_⟩
    have h2 := h1.put (o := .lst (xs ++ ys)) nL2
    have hcat : (L2.upd (L2.upd H5 L1 (.lst xs)) L2a (.lst (xs ++ ys))) L2a = some (.lst (xs ++ ys)) := upd_same
    generalize L2.upd (L2.upd H5 L1 (.lst xs)) L2a (.lst (xs ++ ys)) = H6 at h2 hcat
    have g16 := g15.trans h2
    have hall : Paired (RoadAt K H6) (rs0 ++ nl) (xs ++ ys) := Paired.app2 (Paired.map' hrs5 fun _ _ m => m.grew h2 g15.tab) (Paired.map' hys fun _ _ m => m.grew h2 g15.tab)
    refine ⟨L2a, _, nameAt H6, rfl, SqL.of hcat, fun x hx => ?_, fun x hx y hy e => Paired.inj hall ndall hx hy fun r r' m m' => by rw [← m.name, ← m'.name]; exact e, fun ws l hpm hso hl => ⟨l, _, rfl, .inl ⟨SqL.of upd_same, fun tp ntp => ?_⟩⟩⟩
    · obtain ⟨r, _, m⟩ := Paired.mem hall hx
      have nm := m.name
      obtain ⟨p, q, hv, e, e1, _⟩ := m
      exact ⟨p, _, e, by rw [nm]; exact SqT.of e1⟩
    · obtain ⟨rs', pm, hr'⟩ := Paired.perm hpm hall
      have gl := Grew.new g16.tab (o := .lst ws) hl
      have gp := gl.put (o := .tup ws) ntp
      have gq6 := (gq5.trans h2).trans gp
      have eq6 := gq6.lst g12.tab eq
      have hr7 := Paired.map' hr' fun _ _ m => m.grew gp g16.tab
      have htp : (L2.upd (L2.upd H6 l (.lst ws)) tp (.tup ws)) tp = some (.tup ws) := upd_same
      generalize L2.upd (L2.upd H6 l (.lst ws)) tp (.tup ws) = H7 at gp gq6 eq6 hr7 htp
      have g17 := g12.trans gq6
      refine ⟨_, rfl, q, _, 3, 3, rfl, rfl, eq6, rfl, ?_⟩
      have gw : Grew P H1 (L2.upd H7 q (.lst ([V.int d, .ref ki, .ref pl, .ref ro, .ref ba].set 3 (.ref tp)))) := (g2.trans gq6).write eq6 (fun _ z => by cases z) nq
      have up : ∀ {r : RoadD} {v : V}, RoadAt K H7 r v → RoadAt K (L2.upd H7 q (.lst ([V.int d, .ref ki, .ref pl, .ref ro, .ref ba].set 3 (.ref tp)))) r v := fun m => m.upd (fun xs z => by rw [eq6] at z; cases z) (KeepT.lst eq6)
      have tq : ∀ {b : Addr} {u : HO}, H7 b = some u → (∀ xs, u ≠ .lst xs) → (L2.upd H7 q (.lst ([V.int d, .ref ki, .ref pl, .ref ro, .ref ba].set 3 (.ref tp)))) b = some u := fun {b u} e n => by rw [upd_ne (fun z => by rw [z, eq6] at e; exact n _ (Option.some.inj e).symm)]; exact e
      have epl7 := TupF.grew epl gq6 g12.tab
      obtain ⟨ob, oc, od, opl⟩ := epl7
      refine ⟨_, _, _, _, _, _, rs', rfl, gw, ⟨ki, pl, tp, ba, ws, zs2, upd_same, tq (gq6.tup g12.tab eki) (fun _ z => by cases z), ⟨ob, oc, od, tq opl (fun _ z => by cases z)⟩, tq htp (fun _ z => by cases z), Paired.map' hr7 fun _ _ m => up m, tq (gq6.tup g12.tab eba) (fun _ z => by cases z), Paired.map' hbs fun _ _ ⟨t, a, b⟩ => ⟨t, a, tq (gq6.tup g12.tab b) (fun _ z => by cases z)⟩⟩, ?_, ?_⟩
      · refine hok0.more pm (List.all_eq_true.mpr fun z hz => ?_) ndall hrok (by rw [List.length_append, hln]; omega)
        rw [hnm] at hz
        exact (fok z (List.mem_of_mem_take hz)).1
      · exact Paired.pair (fun a b x y m m' e => by rw [m.name, m'.name] at e; exact e) hr' hso
  rintro σ H3 ⟨v3, v4, v5, v6, v7, v8, rs, rfl, g3, hq, hok, ar1⟩
  have ndr := hok.r.nd
  have nm1 : ∀ r ∈ rs, isNm r.name = true := fun r h => List.all_eq_true.mp hok.r.nm r.name (List.mem_map.mpr ⟨r, h, rfl⟩)
  have hp3 := g3.lst g1.tab hp
  have g03 := g1.trans g3
  -- trip
  refine ⟨fun σ H' => ∃ (kind start goal : Str), σ = [some (.ref a0), some (.ref p), some (.ref q), v3, v4, v5, v6, v7, v8, some (.str kind), some (.str start), some (.str goal), none, none, none] ∧ Grew P H3 H' ∧ kind ∈ ks ∧ start ∈ ps ∧ goal ∈ ps ∧ start ≠ goal, ?_, ?_⟩
  · refine ⟨_, rfl, _, rfl, q, p, 100, d, ps, ks, rs, bs, ns, rfl, hq, hok.k1, p2, by have := hok.p2; omega, hok.pd, SqL.of hp3, hsm, by decide, by omega, g03.tab, fun H4 tp kind start goal g4 hk hs hg hne htp => ?_⟩
    exact ⟨tp, _, rfl, SqT.of htp, rfl, _, _, rfl, _, _, rfl, _, _, rfl, rfl, kind, start, goal, rfl, g4, hk, hs, hg, hne⟩
  rintro σ H4 ⟨kind, start, goal, rfl, g4, hkin, hsin, hgin, hne⟩
  have g04 := g03.trans g4
  have hq4 := hq.grew g4 g03.tab
  obtain ⟨G, hG⟩ : ∃ G : Str → Bool, ∀ z, G z = true ↔ ¬ IsWay kind bs rs start goal [z] := ⟨fun z => @decide (¬ IsWay kind bs rs start goal [z]) (Classical.propDecidable _), fun z => by simp⟩
  -- expected
  refine ⟨fun σ H' => ∃ (ev : V), σ = [some (.ref a0), some (.ref p), some (.ref q), v3, v4, v5, v6, v7, v8, some (.str kind), some (.str start), some (.str goal), some ev, none, none] ∧ Grew P H4 H' ∧ ((¬ IsWay kind bs rs start goal [] ∧ ev = .non) ∨ (IsWay kind bs rs start goal [] ∧ ∃ Le, ev = .ref Le ∧ H' Le = some (.lst (((rs.map (·.name)).filter G).map V.str)))), ?_, ?_⟩
  · refine ⟨_, rfl, _, rfl, _, rfl, _, rfl, Nat.zero_le _, fun Z nZ => ?_⟩
    have gz := Grew.new g04.tab (o := .lst []) nZ
    refine ⟨q, Z, kind, start, goal, d, ps, ks, rs, bs, [], rfl, hq4.grew gz g04.tab, hok, SqL.of upd_same, gz.tab, fun H5 b g5 hb => ⟨_, rfl, ?_⟩⟩
    have g45 := gz.trans g5
    cases b with
    | false => exact if_f rfl ⟨.non, rfl, g45, .inl ⟨fun h => (by have := hb.mpr h; cases this), rfl⟩⟩
    | true =>
      have hway := hb.mp rfl
      refine if_t rfl ?_
      have hq5 := hq4.grew g45 g04.tab
      have hq5' := hq5
      obtain ⟨ki, pl, ro, ba, xs, zs2, eq, eki, epl, ero, hrs, eba, hbs⟩ := hq5'
      have g05 := g04.trans g45
      have lx := Paired.len hrs
      have l60 := hok.r.len
      refine ⟨_, rfl, q, _, 3, .ref ro, rfl, rfl, SqL.of eq, rfl, ro, rfl, ⟨_, SqT.of ero⟩, fun D nD => lc_tup (K := K) (a := ro) (xs := xs) (fun i H' => Grew P H5 H' ∧ H' D = some (.lst ((((rs.map (·.name)).take i).filter G).map V.str)))
        ⟨Grew.new g05.tab nD, upd_same⟩ (fun i H' _ h => SqT.of (h.1.tup g05.tab ero)) (fun i v H6 hv h => ?_) (fun H6 h => ?_)⟩
      · obtain ⟨g6, hD⟩ := h
        obtain ⟨r, hr0, hrt⟩ := Paired.at hrs hv
        have hil := (List.getElem?_eq_some_iff.mp hr0).1
        have g06 := g05.trans g6
        have hq6 := hq5.grew g6 g05.tab
        obtain ⟨t, u, hh, rfl, e1, e2, e3⟩ := hrt.grew g6 g05.tab
        have hn0 : (rs.map (·.name))[i]? = some r.name := by rw [List.getElem?_map, hr0]; rfl
        have et := fsnoc (p := G) hn0
        have lf := List.length_filter_le G ((rs.map (·.name)).take i)
        rw [List.length_take, List.length_map] at lf
        refine ⟨rfl, _, rfl, _, rfl, _, rfl, _, rfl, _, rfl, t, _, 0, _, rfl, rfl, SqT.of e1, rfl, by show 1 ≤ sizeLine; decide, fun Z2 nZ2 => ?_⟩
        have gz2 := Grew.new g06.tab (o := .lst [.str r.name]) nZ2
        have hD2 := gz2.lst g06.tab hD
        refine ⟨q, Z2, kind, start, goal, d, ps, ks, rs, bs, [r.name], rfl, hq6.grew gz2 g06.tab, hok, SqL.of upd_same, gz2.tab, fun H7 b g7 hb => ⟨_, rfl, ?_⟩⟩
        have hD7 := g7.lst gz2.tab hD2
        have e17 := g7.tup gz2.tab (gz2.tup g06.tab e1)
        have g67 := gz2.trans g7
        cases b with
        | true =>
          rw [if_neg (fun e => (hG r.name).mp e (hb.mp rfl)), List.append_nil] at et
          exact if_f rfl ⟨g6.trans g67, by rw [et]; exact hD7⟩
        | false =>
          have hno : ¬ IsWay kind bs rs start goal [r.name] := fun h => by have := hb.mpr h; cases this
          rw [if_pos ((hG r.name).mpr hno)] at et
          refine if_t rfl ⟨_, rfl, t, _, 0, _, rfl, rfl, SqT.of e17, rfl, _, hD7, by rw [List.length_map, sizeLine_eq]; omega, (g6.trans g67).write hD7 (fun _ z => by cases z) nD, ?_⟩
          rw [upd_same, et, List.map_append]
          rfl
      · obtain ⟨g6, hD⟩ := h
        rw [← lx, List.take_of_length_le (by rw [List.length_map]; exact Nat.le_refl _)] at hD
        exact ⟨.ref D, rfl, g45.trans g6, .inr ⟨hway, D, rfl, hD⟩⟩
  rintro σ H5 ⟨ev, rfl, g5, hexp⟩
  have g05 := g04.trans g5
  have hq5 := hq4.grew g5 g04.tab
  -- chart
  refine ⟨_, rfl, q, d, ps, ks, rs, bs, rfl, hq5, hok, g05.tab, fun H6 x ks' ps' rs' bs' g6 nx pk ak pp ap kr ar2 pb ab hM => ?_⟩
  have g06 := g05.trans g6
  obtain ⟨min6, rin, rmin, pl', rso⟩ := ask_of hok pk pp kr hM g06.tab
  have hb : ∀ b, b ∈ bs' ↔ b ∈ bs := fun b => pb.mem_iff
  have ways : ∀ cut, WayP kind bs' rs' start goal cut ↔ IsWay kind bs rs start goal cut := fun cut => way_same ndr (fun r h => isNm_ne (nm1 r h)) kr hb
  have tr6 : LamP.TabAt H6 Pw qHW posHW := tabAt_grew g06 hP ne ⟨#[], hPw, trivial, fun cv hc => by
    have z : codeAmong posHW [] = some cv := hc
    simp [codeAmong] at z⟩
  have kl : kind.length ≤ 1000 := Nat.le_trans (isNm_len (List.all_eq_true.mp hok.kn kind hkin)) (by decide)
  have sm : ∀ s ∈ (rs.map (·.name)).filter G, PyData.strOk s = true ∧ s.cps.size ≤ 12 := fun s hs => by
    obtain ⟨r, hr, rfl⟩ := List.mem_map.mp (List.mem_filter.mp hs).1
    exact ⟨isNm_ok (nm1 r hr), isNm_len (nm1 r hr)⟩
  have l60 : ((rs.map (·.name)).filter G).length ≤ 60 := Nat.le_trans (List.length_filter_le _ _) (by rw [List.length_map]; exact hok.r.len)
  have tell : ∀ {H0 H' : Hp} {v : V}, WentW P Pw H6 H' → VitAt H0 H' kind bs' rs' start goal v → (v = .non ∧ ev = .non) ∨ ∃ L Le, v = .ref L ∧ ev = .ref Le ∧ H0 L = none ∧ H' L = some (.lst (((rs.map (·.name)).filter G).map V.str)) ∧ H' Le = some (.lst (((rs.map (·.name)).filter G).map V.str)) := fun {H0 H' v} w hv => by
    rcases hv with ⟨h1, rfl⟩ | ⟨h1, L, f, rfl, h2, h3, h4⟩
    · rcases hexp with ⟨_, rfl⟩ | ⟨e1, _⟩
      · exact .inl ⟨rfl, rfl⟩
      · exact absurd ((ways []).mpr e1) h1
    · rcases hexp with ⟨e1, _⟩ | ⟨_, Le, rfl, e2⟩
      · exact absurd ((ways []).mp h1) e1
      · refine .inr ⟨L, Le, rfl, rfl, h2, ?_, w.lst (g6.lst g05.tab e2)⟩
        rw [h3, names_same kr ndr ar1 ar2, List.filter_map]
        have ef : rs'.filter f = rs'.filter (G ∘ fun r => r.name) := List.filter_congr fun r hr => by
          rw [Bool.eq_iff_iff, h4 r hr, ways]
          exact (hG r.name).symm
        rw [ef]
        rfl
  -- actual
  refine ⟨fun σ H' => ∃ (v : V), σ = [some (.ref a0), some (.ref p), some (.ref q), v3, v4, v5, v6, v7, v8, some (.str kind), some (.str start), some (.str goal), some ev, some (.ref x), some v] ∧ WentW P Pw H6 H' ∧ VitAt H6 H' kind bs' rs' start goal v, ?_, ?_⟩
  · exact ⟨_, rfl, _, rfl, _, rfl, _, rfl, x, kind, start, goal, d, ks', ps', rs', bs', rfl, min6, rin, kl, pl', pk.mem_iff.mpr hkin, pp.mem_iff.mpr hsin, pp.mem_iff.mpr hgin, hne, tr6, ne, fun H7 v w hv => ⟨v, rfl, w, hv⟩⟩
  rintro σ H7 ⟨v, rfl, w7, hv⟩
  have t7 := tell w7 hv
  -- the same text
  refine ⟨fun σ H' => σ = [some (.ref a0), some (.ref p), some (.ref q), v3, v4, v5, v6, v7, v8, some (.str kind), some (.str start), some (.str goal), some ev, some (.ref x), some v] ∧ H7 = H', ?_, ?_⟩
  · rcases t7 with ⟨rfl, rfl⟩ | ⟨L, Le, rfl, rfl, nL, hL, hLe⟩
    · exact ⟨_, rfl, .inl ⟨rfl, _, rfl, .inl ⟨rfl, rfl, _, rfl, if_f (by rw [decide_eq_true rfl]; rfl) ⟨rfl, rfl⟩⟩⟩⟩
    · have rp := strs_rep sm (by omega)
      exact ⟨_, rfl, .inr ⟨L, _, rfl, .lst (SqL.of hL) (dp_strs _), rp.s, rp.h, rp.p, rp.z, _, rfl, .inr ⟨Le, _, rfl, .lst (SqL.of hLe) (dp_strs _), rp.s, rp.h, rp.p, rp.z, rfl, _, rfl, if_f (by rw [decide_eq_true rfl]; rfl) ⟨rfl, rfl⟩⟩⟩⟩
  rintro σ H' ⟨rfl, rfl⟩
  -- appended to
  refine ⟨fun σ H' => σ = [some (.ref a0), some (.ref p), some (.ref q), v3, v4, v5, v6, v7, v8, some (.str kind), some (.str start), some (.str goal), some ev, some (.ref x), some v] ∧ WentW P Pw H6 H', ?_, ?_⟩
  · rcases t7 with ⟨rfl, rfl⟩ | ⟨L, Le, rfl, rfl, nL, hL, hLe⟩
    · exact ⟨_, rfl, _, rfl, iteF ⟨rfl, w7⟩⟩
    · refine ⟨_, rfl, _, rfl, iteT ?_⟩
      exact ⟨_, rfl, .inl ⟨rfl, _, SqL.of hL⟩, L, _, _, rfl, rfl, hL, by rw [List.length_map, sizeLine_eq]; omega, rfl, w7.write hL (fun _ z => by cases z) (fun _ z => by cases z) nL⟩
  rintro σ H8 ⟨rfl, w8⟩
  -- again
  refine ⟨_, rfl, _, rfl, _, rfl, _, rfl, x, kind, start, goal, d, ks', ps', rs', bs', rfl, min6.went w8, rin, kl, pl', pk.mem_iff.mpr hkin, pp.mem_iff.mpr hsin, pp.mem_iff.mpr hgin, hne, w8.tr, ne, fun H9 v2 w9 hv2 => ?_⟩
  have t9 := tell (w8.trans w9) hv2
  rcases t9 with ⟨rfl, rfl⟩ | ⟨L, Le, rfl, rfl, nL, hL, hLe⟩
  · exact ⟨_, rfl, .none, .none, .non, .non, by rfl, by rfl, k _⟩
  · have sh := shaped_strsL sm
    refine ⟨_, rfl, _, _, .lst (SqL.of hL) (dp_strs _), .lst (SqL.of hLe) (dp_strs _), sh, sh, ?_⟩
    rw [eqv_selfL sm]
    exact k _
end
end W

set_option Elab.async false
set_option linter.all false
set_option maxRecDepth 100000
set_option maxHeartbeats 2000000
namespace MyR
open PySem PySem.Spec PyProof.Rows L2
/-! ### the law's own call, where several defs hold a generator expression -/
section
variable {P : Program} {w : World} {K : PySem.W.Frag} {mg : Str → Option Value} {base : Heap}
def topL (K : PySem.W.Frag) (cs : List (Addr × Addr)) (a : Addr) (o : Obj) (xs : List V) : Hp := fun b => if b ∈ cs.map (·.2) then some (.tbl #[]) else if b = a ∧ K.lookup a = none then some (.frz o (.lst xs)) else none
theorem topL_cases {cs : List (Addr × Addr)} {a b : Addr} {o : Obj} {xs : List V} {u : HO} (h : topL K cs a o xs b = some u) : (b ∈ cs.map (·.2) ∧ u = .tbl #[]) ∨ (b ∉ cs.map (·.2) ∧ b = a ∧ K.lookup a = none ∧ u = .frz o (.lst xs)) := by
  unfold topL at h
  by_cases h1 : b ∈ cs.map (·.2)
  · rw [if_pos h1] at h
    exact .inl ⟨h1, (Option.some.inj h).symm⟩
  · rw [if_neg h1] at h
    by_cases h2 : b = a ∧ K.lookup a = none
    · rw [if_pos h2] at h
      exact .inr ⟨h1, h2.1, h2.2, (Option.some.inj h).symm⟩
    · rw [if_neg h2] at h
      cases h
theorem top_callL {mb : Str → Option Value} {CX : CXT} {f a : Addr} {cs : List (Addr × Addr)} {sp : Sp} {s : Shared} {vs : List Value} {ns : List Int} (KX : K.In s.heap) (G : s.heap.Ns mainGlobals mg) (B : s.heap.Ns builtinsNs mb) (hB : ∀ x : Str, x ≠ "__name__" → mb x = bootBuiltins x) (lim : s.heap.NoLimit) (ng : s.gens = #[])
    (hcs : ∀ p ∈ cs, s.heap.get? p.2 = some { cls := .none, data := .fields #[] } ∧ K.lookup p.2 = none ∧ PySem.W.CodeHd s.heap p.1 p.2)
    (hbm : ∃ (bm : Addr) (ob : Obj), mg "__builtins__" = some (.ref bm) ∧ bm ≠ builtinsNs ∧ s.heap.get? bm = some ob ∧ ob.cls = .type "module" ∧ ob.dict = some builtinsNs ∧ ob.data = .plain)
    (ea : s.heap.get? a = some { cls := .type "list", data := .seq vs.toArray }) (hi : IntsAre vs ns) (hl : ns.length ≤ sizeLine)
    (R : ∀ base : Heap, K.In base → base.Ns mainGlobals mg → (∀ p ∈ cs, LamX.TabB base mg p.1 p.2) → RunG P w K mg base CX f sp)
    (hsp : ∀ H : Hp, (∀ p ∈ cs, H p.2 = some (.tbl #[])) → SqL K H a (ns.map V.int) → sp [.ref a] H (fun v _ => v = .bl true) fun _ _ _ => False)
    (no : ∀ H e s', CX [] H s (fun _ _ _ => False) e s' → False) :
    codeAny (model P w) callerA (.call (.ref f) ⟨[.ref a], []⟩) (fun r s' => r = .ok (.ret (.bool true)) ∧ OldK s.heap s'.heap ∧ s'.os = s.os ∧ AllBare s'.gens) s := by
  have rv := vals_ints hi
  have mem : ∀ {b : Addr}, b ∈ cs.map (·.2) → ∃ c, (c, b) ∈ cs := fun {b} h => by
    obtain ⟨⟨c, b'⟩, hp, e⟩ := List.mem_map.mp h
    have e' : b' = b := e
    exact ⟨c, e' ▸ hp⟩
  have eT : ∀ {b : Addr}, b ∈ cs.map (·.2) → s.heap.get? b = some { cls := .none, data := .fields #[] } := fun h => let ⟨c, hp⟩ := mem h; (hcs _ hp).1
  have nT : ∀ {b : Addr}, b ∈ cs.map (·.2) → K.lookup b = none := fun h => let ⟨c, hp⟩ := mem h; (hcs _ hp).2.1
  have nz : a ∉ cs.map (·.2) := fun z => by
    rw [eT z] at ea
    cases ea
  obtain ⟨H, eH⟩ : ∃ H, H = topL K cs a { cls := .type "list", data := .seq vs.toArray } (ns.map V.int) := ⟨_, rfl⟩
  have tr : ∀ {b : Addr} {u : HO}, H b = some u → _ := fun {b u} h => topL_cases (by rw [eH] at h; exact h)
  have HT : ∀ p ∈ cs, H p.2 = some (.tbl #[]) := fun p hp => by
    rw [eH]
    exact if_pos (List.mem_map.mpr ⟨p, hp, rfl⟩)
  have hS : SqL K H a (ns.map V.int) := by
    cases q : K.lookup a with
    | none => exact .inl (.inr ⟨_, by rw [eH]; exact (if_neg nz).trans (if_pos ⟨rfl, q⟩)⟩)
    | some o =>
      have e := KX a o q
      rw [ea] at e
      cases e
      exact .inr ⟨_, vs.toArray, _, q, rfl, rfl, rfl, by rw [List.size_toArray, hi.length]; exact hl, by simpa using rv⟩
  have ok : HOk P w H s.heap := fun b u h => by
    rcases tr h with ⟨hb, rfl⟩ | ⟨_, rfl, _, rfl⟩
    · exact eT hb
    · exact ⟨ea, by rw [List.length_map]; exact hl, vs, _, rv, ea⟩
  have gone : ∀ {b : Addr} {o : Obj}, s.heap.get? b = some o → (∀ xs n, o.data ≠ .seq xs n) → o.data ≠ .fields #[] → H b = none := fun {b o} e d1 d2 => by
    cases h : H b with
    | none => rfl
    | some u =>
      rcases tr h with ⟨hb, _⟩ | ⟨_, rfl, _, _⟩
      · rw [eT hb] at e
        cases e
        exact (d2 rfl).elim
      · rw [ea] at e
        cases e
        exact (d1 _ _ rfl).elim
  have toB : ∀ {b : Addr} {m : Str → Option Value}, s.heap.Ns b m → (hidT s.heap H).Ns b m := fun {b m} ⟨o, es, ep, e, d, r⟩ =>
    ⟨o, es, ep, hidT_get e (gone e (fun xs n z => by rw [d] at z; cases z) (fun z => by rw [d] at z; cases z)), d, r⟩
  have KB : K.In (hidT s.heap H) := fun b o e => hidT_get (KX b o e) (by
    cases h : H b with
    | none => rfl
    | some u =>
      rcases tr h with ⟨hb, _⟩ | ⟨_, rfl, k, _⟩
      · rw [nT hb] at e; cases e
      · rw [k] at e; cases e)
  have TB : ∀ p ∈ cs, LamX.TabB (hidT s.heap H) mg p.1 p.2 := fun p hp => by
    obtain ⟨eT, nT, C⟩ := hcs p hp
    refine ⟨?_, ?_, fun z => ?_⟩
    · obtain ⟨o, us, file, tf, flags, tg, inF, text, tt, e1, r1, r2, r3, r⟩ := C
      exact ⟨o, us, file, tf, flags, tg, inF, text, tt, hidT_get e1 (gone e1 (fun xs n z => by rw [r2] at z; cases z) (fun z => by rw [r2] at z; cases z; simp at r3)), r1, r2, r3, r⟩
    · obtain ⟨bm, ob, b1, b2, b3, b4, b5, b6⟩ := hbm
      refine ⟨bm, ob, b1, b2, fun z => ?_, fun z => ?_, hidT_get b3 (gone b3 (fun xs n z => by rw [b6] at z; cases z) (fun z => by rw [b6] at z; cases z)), b4, b5, b6⟩
      · obtain ⟨o, es, ep, e, d, _⟩ := G
        rw [z, e] at b3
        cases b3
        rw [d] at b6
        cases b6
      · rw [z, eT] at b3
        cases b3
        cases b6
    · obtain ⟨o, es, ep, e, d, _⟩ := G
      rw [z, eT] at e
      cases e
      cases d
  have e0 : Env0 P w K mg (hidT s.heap H) callerA [] s H :=
    ⟨rfl, ⟨KB, toB G, ⟨mb, toB B, hB⟩, let ⟨mc, h1, h2⟩ := lim; ⟨mc, toB h1, h2⟩⟩, fun b o e => of_hidT e, Nat.le_of_eq (hidT_size _ _), trivial, fun b hb => absurd (show b ∈ ([] : List Addr) from hb) (by simp), ok, .of_eq ng⟩
  refine codeAny_mono (R _ KB (toB G) TB s H a _ _ e0 (hsp H HT hS)) fun r s' h => ?_
  match r, h with
  | .error e, h => exact (no H e s' h).elim
  | .ok .next, h => exact False.elim h
  | .ok .brk, h => exact False.elim h
  | .ok .cont, h => exact False.elim h
  | .ok (.ret u), ⟨v, H', os, bare, un, ok', r', q⟩ =>
    obtain rfl : v = .bl true := q
    obtain rfl : u = Value.bool true := r'
    have hm : ∀ p ∈ cs, ∃ more : Array Value, s'.heap.get? p.2 = some { cls := .none, data := .fields more } := fun p hp => by
      obtain ⟨more, z⟩ := un.tbls p.2 #[] (HT p hp)
      exact ⟨_, ok' p.2 _ z⟩
    have old : ∀ b o, b ∉ cs.map (·.2) → s.heap.get? b = some o → s'.heap.get? b = some o := fun b o ne e => by
      cases h : H b with
      | none => exact un.keep b o e h (fun z => absurd (show b ∈ ([] : List Addr) from z) (by simp)) (by simp)
      | some u =>
        rcases tr h with ⟨z, _⟩ | ⟨_, rfl, _, rfl⟩
        · exact absurd z ne
        · obtain ⟨e2, _⟩ := ok' b _ (un.frzs b _ _ h)
          rw [ea] at e
          cases e
          exact e2
    refine ⟨rfl, ⟨fun b o e => ?_, fun b o e => ?_⟩, os, bare⟩
    · by_cases hb : b ∈ cs.map (·.2)
      · obtain ⟨c, hp⟩ := mem hb
        obtain ⟨eT, _, C⟩ := hcs _ hp
        obtain ⟨more, hm⟩ := hm _ hp
        have eT' : s.heap.get? b = some { cls := .none, data := .fields #[] } := eT
        rw [eT'] at e
        cases e
        exact .inr (.inl ⟨(C.tab eT).isCodeTable, rfl, #[], more, rfl, by rw [Array.empty_append]; exact hm⟩)
      · exact .inl (old b o hb e)
    · by_cases hb : b ∈ cs.map (·.2)
      · obtain ⟨c, hp⟩ := mem hb
        obtain ⟨more, hm⟩ := hm _ hp
        exact ⟨_, hm⟩
      · exact ⟨o, old b o hb e⟩
end
/-- what the law's end asks: the tables of the code objects, and the promise sp -/
def LawL (l : PySem.W.OpenLaw) (w : World) (K : PySem.W.Frag) (CX : CXT) (n : Nat) (mg : Str → Option Value) (fa : Addr) (h : Heap) : Prop :=
  ∃ (cs : List (Addr × Addr)) (sp : Sp), (∀ p ∈ cs, h.get? p.2 = some { cls := .none, data := .fields #[] } ∧ K.lookup p.2 = none ∧ PySem.W.CodeHd h p.1 p.2) ∧
    (∀ (H : Hp) (a : Addr) (ns : List Int), ns.length ≤ n → (∀ p ∈ cs, H p.2 = some (.tbl #[])) → SqL K H a (ns.map V.int) → sp [.ref a] H (fun v _ => v = .bl true) fun _ _ _ => False) ∧
    ∀ base : Heap, K.In base → base.Ns mainGlobals mg → (∀ p ∈ cs, LamX.TabB base mg p.1 p.2) → RunG l.prog w K mg base CX fa sp
theorem walk_ofL {l : PySem.W.OpenLaw} {n : Nat} {q : Program} {loose : List Str} {XP : (Str → Option Value) → Heap → Prop} {YP : World → Heap → Prop} {d : DefRec} {K : Params → PySem.W.Frag} {CX : World → CXT} (names : List Str)
    (hn : l.most = some n) (hn2 : n ≤ sizeLine) (hdf : d.params.defaults = []) (hrec : names.all (fun y => (recsOf q).any fun e => e.name == y) = true) (hY : ∀ (w : World) (h : Heap), YP w h → (K w.params).In h)
    (F : ∀ (w : World) (mg : Str → Option Value) (fa : Addr) (h : Heap), YP w h → (K w.params).In h → h.Ns mainGlobals mg → mg d.name = some (.ref fa) → (∀ y ∈ names, ∀ f, mg y = some (.ref f) → LamX.OwnTab (K w.params) f h) → LawL l w (K w.params) (CX w) n mg fa h)
    (no : ∀ (w : World) (H : Hp) (s : Shared) (e : Value) (s' : Shared), CX w [] H s (fun _ _ _ => False) e s' → False) :
    PySem.W.WalkO q loose XP YP l.row.toRowW d [] (fun f vs => PySem.call f vs) := by
  refine Att.attach_callB hn hdf fun w s₀ s₁ mg mb fa o pm cd doc a vs ns G Y ho hd hcd hmg hobj hints hlen hbits hg => ?_
  have KX := hY w _ Y
  obtain ⟨cs, sp, hcs, hsp, R⟩ := F w mg fa _ Y KX G.T.g hmg (fun y hy f hf c P o1 fd1 e dd vs1 sl k1 k2 k3 k4 k5 => by
    obtain ⟨dL, hm, hn1⟩ := List.any_eq_true.mp (List.all_eq_true.mp hrec y hy)
    obtain ⟨a', o', fd', c', P', h1, h2, h3, h4, h5, h6⟩ := G.T.tab dL hm
    rw [beq_iff_eq.mp hn1, hf] at h1
    cases h1
    have g1 := KX _ _ k1
    rw [g1] at h2
    cases h2
    rw [k2] at h3
    cases h3
    rw [k3] at h4
    cases h4
    obtain ⟨⟨oc, vc, e1, _, e3, e4⟩, hP⟩ := h6
    have g2 := KX _ _ k4
    rw [g2] at e1
    cases e1
    cases e3
    rw [k5] at e4
    cases e4
    exact hP)
  exact top_callL KX G.T.g G.T.b G.T.builtins G.T.nolimit hg hcs G.T.bmain hobj hints (Nat.le_trans hlen hn2) R (fun H hH hS => hsp H a ns hlen hH hS) fun H e s' => no w H s₁ e s'
end MyR

set_option Elab.async false
set_option linter.all false
set_option maxRecDepth 100000
set_option maxHeartbeats 4000000
namespace W
open PySem PySem.Spec PyProof.Rows L2 GxR MyG MyS MyR
theorem exm_two {K : PySem.W.Frag} {A S : Addr} {b : Bool} (h1 : PySem.W.subIn K (.ref S) (.type "BaseException") = some true) (h2 : PySem.W.isClsIn K S = true) (h3 : PySem.W.typeIn K (.ref S) = some (.type "type")) (h4 : PySem.W.subIn K (.ref A) (.ref S) = some b) :
    PySem.W.exmOne K (.ref A) (.ref S) = some b := by
  have e1 : (PySem.W.subIn K (.ref S) (.type "BaseException") == some true) = true := by rw [h1]; rfl
  have e2 : ((PySem.W.clsIn K S).isSome && PySem.W.typeIn K (.ref S) == some (.type "type")) = true := by
    have q : (PySem.W.clsIn K S).isSome = true := h2
    rw [q, h3]; rfl
  show (if (PySem.W.subIn K (.ref S) (.type "BaseException") == some true) = true then (if ((PySem.W.clsIn K S).isSome && PySem.W.typeIn K (.ref S) == some (.type "type")) = true then PySem.W.subIn K (.ref A) (.ref S) else none) else none) = some b
  rw [if_pos e1, if_pos e2, h4]
theorem no_fly {P : Program} (w : World) (H : Hp) (s : Shared) (e : Value) (s' : Shared) (h : L2.CX P w [] H s (fun _ _ _ => False) e s') : False := by
  obtain ⟨_, _, _, _, _, _, _, _, _, _, _, _, q⟩ := h
  exact q
theorem all_mk {l : PySem.W.OpenLaw} {w : World} {K : PySem.W.Frag} {h : Heap} {mg : Str → Option Value} {fa fNm fDy fNa fDf fRs fRd fHr fBr fCn fEv fRb fTu fSd fCq fHw fVr fRw fNu fLn fLh fLr fLq fMp fMd fOp fFl fIw fLt fLa fLw fRm fCk fCp fCi fRf fFo fMu fRt2 fRn ppRn fI M U fXU cdaXU ccXU B P qN qHw PHw D0 T0 T1 T2 : Addr} (X : K.In h) (G : h.Ns mainGlobals mg) (hfa : mg "law" = some (.ref fa)) (own : ∀ y ∈ ([("is_name" : Str), ("_has_way" : Str)] : List Str), ∀ f, mg y = some (.ref f) → LamX.OwnTab K f h)
    {odNm anNm : Option Addr} {slNm : Array (Option Value)} {ocNm kVNm dcNm pmNm ctNm : Value}
    {odDy anDy : Option Addr} {slDy : Array (Option Value)} {ocDy kVDy dcDy pmDy cdDy ctDy : Value}
    {odNa anNa : Option Addr} {slNa : Array (Option Value)} {ocNa kVNa dcNa pmNa cdNa ctNa : Value}
    {odDf anDf : Option Addr} {slDf : Array (Option Value)} {ocDf kVDf dcDf pmDf cdDf ctDf : Value}
    {odRs anRs : Option Addr} {slRs : Array (Option Value)} {ocRs kVRs dcRs pmRs cdRs ctRs : Value}
    {odRd anRd : Option Addr} {slRd : Array (Option Value)} {ocRd kVRd dcRd pmRd cdRd ctRd : Value}
    {odHr anHr : Option Addr} {slHr : Array (Option Value)} {ocHr kVHr dcHr pmHr cdHr ctHr : Value}
    {odBr anBr : Option Addr} {slBr : Array (Option Value)} {ocBr kVBr dcBr pmBr cdBr ctBr : Value}
    {odCn anCn : Option Addr} {slCn : Array (Option Value)} {ocCn kVCn dcCn pmCn cdCn ctCn : Value}
    {odEv anEv : Option Addr} {slEv : Array (Option Value)} {ocEv kVEv dcEv pmEv cdEv ctEv : Value}
    {odRb anRb : Option Addr} {slRb : Array (Option Value)} {ocRb kVRb dcRb pmRb cdRb ctRb : Value}
    {odTu anTu : Option Addr} {slTu : Array (Option Value)} {ocTu kVTu dcTu pmTu cdTu ctTu : Value}
    {odSd anSd : Option Addr} {slSd : Array (Option Value)} {ocSd kVSd dcSd pmSd cdSd ctSd : Value}
    {odCq anCq : Option Addr} {slCq : Array (Option Value)} {ocCq kVCq dcCq pmCq cdCq ctCq : Value}
    {odHw anHw : Option Addr} {slHw : Array (Option Value)} {ocHw kVHw dcHw pmHw ctHw : Value}
    {odVr anVr : Option Addr} {slVr : Array (Option Value)} {ocVr kVVr dcVr pmVr cdVr ctVr : Value}
    {odRw anRw : Option Addr} {slRw : Array (Option Value)} {ocRw kVRw dcRw pmRw cdRw ctRw : Value}
    {odNu anNu : Option Addr} {slNu : Array (Option Value)} {ocNu kVNu dcNu pmNu cdNu ctNu : Value}
    {odLn anLn : Option Addr} {slLn : Array (Option Value)} {ocLn kVLn dcLn pmLn cdLn ctLn : Value}
    {odLh anLh : Option Addr} {slLh : Array (Option Value)} {ocLh kVLh dcLh pmLh cdLh ctLh : Value}
    {odLr anLr : Option Addr} {slLr : Array (Option Value)} {ocLr kVLr dcLr pmLr cdLr ctLr : Value}
    {odLq anLq : Option Addr} {slLq : Array (Option Value)} {ocLq kVLq dcLq pmLq cdLq ctLq : Value}
    {odMp anMp : Option Addr} {slMp : Array (Option Value)} {ocMp kVMp dcMp pmMp cdMp ctMp : Value}
    {odMd anMd : Option Addr} {slMd : Array (Option Value)} {ocMd kVMd dcMd pmMd cdMd ctMd : Value}
    {odOp anOp : Option Addr} {slOp : Array (Option Value)} {ocOp kVOp dcOp pmOp cdOp ctOp : Value}
    {odFl anFl : Option Addr} {slFl : Array (Option Value)} {ocFl kVFl dcFl pmFl cdFl ctFl : Value}
    {odIw anIw : Option Addr} {slIw : Array (Option Value)} {ocIw kVIw dcIw pmIw cdIw ctIw : Value}
    {odLt anLt : Option Addr} {slLt : Array (Option Value)} {ocLt kVLt dcLt pmLt cdLt ctLt : Value}
    {odLa anLa : Option Addr} {slLa : Array (Option Value)} {ocLa kVLa dcLa pmLa cdLa ctLa : Value}
    {odLw anLw : Option Addr} {slLw : Array (Option Value)} {ocLw kVLw dcLw pmLw cdLw ctLw : Value}
    {odRm anRm : Option Addr} {slRm : Array (Option Value)} {ocRm kVRm dcRm pmRm cdRm ctRm : Value}
    {odCk anCk : Option Addr} {slCk : Array (Option Value)} {ocCk kVCk dcCk pmCk cdCk ctCk : Value}
    {odCp anCp : Option Addr} {slCp : Array (Option Value)} {ocCp kVCp dcCp pmCp cdCp ctCp : Value}
    {odCi anCi : Option Addr} {slCi : Array (Option Value)} {ocCi kVCi dcCi pmCi cdCi ctCi : Value}
    {odRf anRf : Option Addr} {slRf : Array (Option Value)} {ocRf kVRf dcRf pmRf cdRf ctRf : Value}
    {odFo anFo : Option Addr} {slFo : Array (Option Value)} {ocFo kVFo dcFo pmFo cdFo ctFo : Value}
    {odMu anMu : Option Addr} {slMu : Array (Option Value)} {ocMu kVMu dcMu pmMu cdMu ctMu : Value}
    {odRt2 anRt2 : Option Addr} {slRt2 : Array (Option Value)} {ocRt2 kVRt2 dcRt2 pmRt2 cdRt2 ctRt2 : Value}
    {odRn anRn : Option Addr} {slRn : Array (Option Value)} {ocRn kVRn dcRn pmRn cdRn ctRn : Value}
    {rsRn : List Value}
    {eN : Value} {dN : Option Addr} {vsN : Array Value} {slcN : Array (Option Value)}
    {eHw : Value} {dHw : Option Addr} {vsHw : Array Value} {slcHw : Array (Option Value)}
    {odI anI : Option Addr} {slI : Array (Option Value)} {ocI dcI pmI cdI ctI : Value}
    {nmU qU : Str} {NU : Addr} {bsU bmU : List Value} {snU : List Str} {subU : List Value} {abU : Bool} {colU : Option Bool} {ddU : Option Addr} {x0U x1U x2U x3U x5U : Option Value}
    {odXU anXU cddXU cldXU : Option Addr} {slXU ccsXU cslXU : Array (Option Value)} {ocXU kVXU dcXU pmXU ctXU cclXU clXU : Value} {vsXU : Array Value} {fileXU : Str} {tfXU : Tok}
    {t_LONGEST_NAME t_LONGEST_DAY t_MOST_PLACES t_MOST_KINDS t_MOST_ROADS t_MOST_MINUTES t_MOST_PAIRS t_MOST_BARS t_NAME t_START t_END t_KINDS t_HOURS t_PARTS t_LETTERS t_DIGITS t_NO_ROAD : Tok}
    (aM : PySem.W.nsIn K mainGlobals "Map" = some (some (.ref M)))
    (gU : PySem.W.nsIn K mainGlobals "UnknownName" = some (some (.ref U)))
    (gB : PySem.W.nsIn K mainGlobals "WaypapersError" = some (some (.ref B)))
    (aNm : PySem.W.nsIn K mainGlobals "is_name" = some (some (.ref fNm)))
    (lNm : K.lookup fNm = some ⟨ocNm, odNm, .func (PySem.W.fnOf "is_name" "is_name" (defArgs sIsName) (defBody sIsName) (defScope sIsName) .none kVNm dcNm pmNm anNm (.ref qN) ctNm), slNm⟩)
    (cNm : PySem.W.codeIn K (.ref qN) "is_name" = true)
    (kNm : PySem.W.keepIn K (.ref fNm) = true)
    (aDy : PySem.W.nsIn K mainGlobals "_checked_day" = some (some (.ref fDy)))
    (lDy : K.lookup fDy = some ⟨ocDy, odDy, .func (PySem.W.fnOf "_checked_day" "_checked_day" (defArgs sDay) (defBody sDay) (defScope sDay) .none kVDy dcDy pmDy anDy (cdDy) ctDy), slDy⟩)
    (cDy : PySem.W.codeIn K (cdDy) "_checked_day" = true)
    (kDy : PySem.W.keepIn K (.ref fDy) = true)
    (aNa : PySem.W.nsIn K mainGlobals "_checked_names" = some (some (.ref fNa)))
    (lNa : K.lookup fNa = some ⟨ocNa, odNa, .func (PySem.W.fnOf "_checked_names" "_checked_names" (defArgs sNames) (defBody sNames) (defScope sNames) .none kVNa dcNa pmNa anNa (cdNa) ctNa), slNa⟩)
    (cNa : PySem.W.codeIn K (cdNa) "_checked_names" = true)
    (kNa : PySem.W.keepIn K (.ref fNa) = true)
    (aDf : PySem.W.nsIn K mainGlobals "_check_different" = some (some (.ref fDf)))
    (lDf : K.lookup fDf = some ⟨ocDf, odDf, .func (PySem.W.fnOf "_check_different" "_check_different" (defArgs sDiff) (defBody sDiff) (defScope sDiff) .none kVDf dcDf pmDf anDf (cdDf) ctDf), slDf⟩)
    (cDf : PySem.W.codeIn K (cdDf) "_check_different" = true)
    (kDf : PySem.W.keepIn K (.ref fDf) = true)
    (aRs : PySem.W.nsIn K mainGlobals "_checked_roads" = some (some (.ref fRs)))
    (lRs : K.lookup fRs = some ⟨ocRs, odRs, .func (PySem.W.fnOf "_checked_roads" "_checked_roads" (defArgs sRoads) (defBody sRoads) (defScope sRoads) .none kVRs dcRs pmRs anRs (cdRs) ctRs), slRs⟩)
    (cRs : PySem.W.codeIn K (cdRs) "_checked_roads" = true)
    (kRs : PySem.W.keepIn K (.ref fRs) = true)
    (aRd : PySem.W.nsIn K mainGlobals "_checked_road" = some (some (.ref fRd)))
    (lRd : K.lookup fRd = some ⟨ocRd, odRd, .func (PySem.W.fnOf "_checked_road" "_checked_road" (defArgs sRoad) (defBody sRoad) (defScope sRoad) .none kVRd dcRd pmRd anRd (cdRd) ctRd), slRd⟩)
    (cRd : PySem.W.codeIn K (cdRd) "_checked_road" = true)
    (kRd : PySem.W.keepIn K (.ref fRd) = true)
    (aHr : PySem.W.nsIn K mainGlobals "_checked_hours" = some (some (.ref fHr)))
    (lHr : K.lookup fHr = some ⟨ocHr, odHr, .func (PySem.W.fnOf "_checked_hours" "_checked_hours" (defArgs sHours) (defBody sHours) (defScope sHours) .none kVHr dcHr pmHr anHr (cdHr) ctHr), slHr⟩)
    (cHr : PySem.W.codeIn K (cdHr) "_checked_hours" = true)
    (kHr : PySem.W.keepIn K (.ref fHr) = true)
    (aBr : PySem.W.nsIn K mainGlobals "_checked_bars" = some (some (.ref fBr)))
    (lBr : K.lookup fBr = some ⟨ocBr, odBr, .func (PySem.W.fnOf "_checked_bars" "_checked_bars" (defArgs sBars) (defBody sBars) (defScope sBars) .none kVBr dcBr pmBr anBr (cdBr) ctBr), slBr⟩)
    (cBr : PySem.W.codeIn K (cdBr) "_checked_bars" = true)
    (kBr : PySem.W.keepIn K (.ref fBr) = true)
    (aCn : PySem.W.nsIn K mainGlobals "check_names" = some (some (.ref fCn)))
    (lCn : K.lookup fCn = some ⟨ocCn, odCn, .func (PySem.W.fnOf "check_names" "check_names" (defArgs sNamesC) (defBody sNamesC) (defScope sNamesC) .none kVCn dcCn pmCn anCn (cdCn) ctCn), slCn⟩)
    (cCn : PySem.W.codeIn K (cdCn) "check_names" = true)
    (kCn : PySem.W.keepIn K (.ref fCn) = true)
    (aEv : PySem.W.nsIn K mainGlobals "can_ever_enter" = some (some (.ref fEv)))
    (lEv : K.lookup fEv = some ⟨ocEv, odEv, .func (PySem.W.fnOf "can_ever_enter" "can_ever_enter" (defArgs sCanEver) (defBody sCanEver) (defScope sCanEver) .none kVEv dcEv pmEv anEv (cdEv) ctEv), slEv⟩)
    (cEv : PySem.W.codeIn K (cdEv) "can_ever_enter" = true)
    (kEv : PySem.W.keepIn K (.ref fEv) = true)
    (aRb : PySem.W.nsIn K mainGlobals "road_turns" = some (some (.ref fRb)))
    (lRb : K.lookup fRb = some ⟨ocRb, odRb, .func (PySem.W.fnOf "road_turns" "road_turns" (defArgs sRTurns) (defBody sRTurns) (defScope sRTurns) .none kVRb dcRb pmRb anRb (cdRb) ctRb), slRb⟩)
    (cRb : PySem.W.codeIn K (cdRb) "road_turns" = true)
    (kRb : PySem.W.keepIn K (.ref fRb) = true)
    (aTu : PySem.W.nsIn K mainGlobals "turns" = some (some (.ref fTu)))
    (lTu : K.lookup fTu = some ⟨ocTu, odTu, .func (PySem.W.fnOf "turns" "turns" (defArgs sTurns) (defBody sTurns) (defScope sTurns) .none kVTu dcTu pmTu anTu (cdTu) ctTu), slTu⟩)
    (cTu : PySem.W.codeIn K (cdTu) "turns" = true)
    (kTu : PySem.W.keepIn K (.ref fTu) = true)
    (aSd : PySem.W.nsIn K mainGlobals "spread" = some (some (.ref fSd)))
    (lSd : K.lookup fSd = some ⟨ocSd, odSd, .func (PySem.W.fnOf "spread" "spread" (defArgs sSpread) (defBody sSpread) (defScope sSpread) .none kVSd dcSd pmSd anSd (cdSd) ctSd), slSd⟩)
    (cSd : PySem.W.codeIn K (cdSd) "spread" = true)
    (kSd : PySem.W.keepIn K (.ref fSd) = true)
    (aCq : PySem.W.nsIn K mainGlobals "_check_question" = some (some (.ref fCq)))
    (lCq : K.lookup fCq = some ⟨ocCq, odCq, .func (PySem.W.fnOf "_check_question" "_check_question" (defArgs sCkQ) (defBody sCkQ) (defScope sCkQ) .none kVCq dcCq pmCq anCq (cdCq) ctCq), slCq⟩)
    (cCq : PySem.W.codeIn K (cdCq) "_check_question" = true)
    (kCq : PySem.W.keepIn K (.ref fCq) = true)
    (aHw : PySem.W.nsIn K mainGlobals "_has_way" = some (some (.ref fHw)))
    (lHw : K.lookup fHw = some ⟨ocHw, odHw, .func (PySem.W.fnOf "_has_way" "_has_way" (defArgs sHW) (defBody sHW) (defScope sHW) .none kVHw dcHw pmHw anHw (.ref qHw) ctHw), slHw⟩)
    (cHw : PySem.W.codeIn K (.ref qHw) "_has_way" = true)
    (kHw : PySem.W.keepIn K (.ref fHw) = true)
    (aVr : PySem.W.nsIn K mainGlobals "vital_roads" = some (some (.ref fVr)))
    (lVr : K.lookup fVr = some ⟨ocVr, odVr, .func (PySem.W.fnOf "vital_roads" "vital_roads" (defArgs sVital) (defBody sVital) (defScope sVital) .none kVVr dcVr pmVr anVr (cdVr) ctVr), slVr⟩)
    (cVr : PySem.W.codeIn K (cdVr) "vital_roads" = true)
    (kVr : PySem.W.keepIn K (.ref fVr) = true)
    (aRw : PySem.W.nsIn K mainGlobals "_law_row" = some (some (.ref fRw)))
    (lRw : K.lookup fRw = some ⟨ocRw, odRw, .func (PySem.W.fnOf "_law_row" "_law_row" (defArgs sRow) (defBody sRow) (defScope sRow) .none kVRw dcRw pmRw anRw (cdRw) ctRw), slRw⟩)
    (cRw : PySem.W.codeIn K (cdRw) "_law_row" = true)
    (kRw : PySem.W.keepIn K (.ref fRw) = true)
    (aNu : PySem.W.nsIn K mainGlobals "_law_numbers" = some (some (.ref fNu)))
    (lNu : K.lookup fNu = some ⟨ocNu, odNu, .func (PySem.W.fnOf "_law_numbers" "_law_numbers" (defArgs sNumbers) (defBody sNumbers) (defScope sNumbers) .none kVNu dcNu pmNu anNu (cdNu) ctNu), slNu⟩)
    (cNu : PySem.W.codeIn K (cdNu) "_law_numbers" = true)
    (kNu : PySem.W.keepIn K (.ref fNu) = true)
    (aLn : PySem.W.nsIn K mainGlobals "_law_names" = some (some (.ref fLn)))
    (lLn : K.lookup fLn = some ⟨ocLn, odLn, .func (PySem.W.fnOf "_law_names" "_law_names" (defArgs sLNames) (defBody sLNames) (defScope sLNames) .none kVLn dcLn pmLn anLn (cdLn) ctLn), slLn⟩)
    (cLn : PySem.W.codeIn K (cdLn) "_law_names" = true)
    (kLn : PySem.W.keepIn K (.ref fLn) = true)
    (aLh : PySem.W.nsIn K mainGlobals "_law_hours" = some (some (.ref fLh)))
    (lLh : K.lookup fLh = some ⟨ocLh, odLh, .func (PySem.W.fnOf "_law_hours" "_law_hours" (defArgs sLHours) (defBody sLHours) (defScope sLHours) .none kVLh dcLh pmLh anLh (cdLh) ctLh), slLh⟩)
    (cLh : PySem.W.codeIn K (cdLh) "_law_hours" = true)
    (kLh : PySem.W.keepIn K (.ref fLh) = true)
    (aLr : PySem.W.nsIn K mainGlobals "_law_road" = some (some (.ref fLr)))
    (lLr : K.lookup fLr = some ⟨ocLr, odLr, .func (PySem.W.fnOf "_law_road" "_law_road" (defArgs sLRoadG) (defBody sLRoadG) (defScope sLRoadG) .none kVLr dcLr pmLr anLr (cdLr) ctLr), slLr⟩)
    (cLr : PySem.W.codeIn K (cdLr) "_law_road" = true)
    (kLr : PySem.W.keepIn K (.ref fLr) = true)
    (aLq : PySem.W.nsIn K mainGlobals "_law_bars" = some (some (.ref fLq)))
    (lLq : K.lookup fLq = some ⟨ocLq, odLq, .func (PySem.W.fnOf "_law_bars" "_law_bars" (defArgs sLBarsG) (defBody sLBarsG) (defScope sLBarsG) .none kVLq dcLq pmLq anLq (cdLq) ctLq), slLq⟩)
    (cLq : PySem.W.codeIn K (cdLq) "_law_bars" = true)
    (kLq : PySem.W.keepIn K (.ref fLq) = true)
    (aMp : PySem.W.nsIn K mainGlobals "_law_parts" = some (some (.ref fMp)))
    (lMp : K.lookup fMp = some ⟨ocMp, odMp, .func (PySem.W.fnOf "_law_parts" "_law_parts" (defArgs sLPartsG) (defBody sLPartsG) (defScope sLPartsG) .none kVMp dcMp pmMp anMp (cdMp) ctMp), slMp⟩)
    (cMp : PySem.W.codeIn K (cdMp) "_law_parts" = true)
    (kMp : PySem.W.keepIn K (.ref fMp) = true)
    (aMd : PySem.W.nsIn K mainGlobals "_law_made" = some (some (.ref fMd)))
    (lMd : K.lookup fMd = some ⟨ocMd, odMd, .func (PySem.W.fnOf "_law_made" "_law_made" (defArgs sLMade) (defBody sLMade) (defScope sLMade) .none kVMd dcMd pmMd anMd (cdMd) ctMd), slMd⟩)
    (cMd : PySem.W.codeIn K (cdMd) "_law_made" = true)
    (kMd : PySem.W.keepIn K (.ref fMd) = true)
    (aOp : PySem.W.nsIn K mainGlobals "_law_open" = some (some (.ref fOp)))
    (lOp : K.lookup fOp = some ⟨ocOp, odOp, .func (PySem.W.fnOf "_law_open" "_law_open" (defArgs sLOpen) (defBody sLOpen) (defScope sLOpen) .none kVOp dcOp pmOp anOp (cdOp) ctOp), slOp⟩)
    (cOp : PySem.W.codeIn K (cdOp) "_law_open" = true)
    (kOp : PySem.W.keepIn K (.ref fOp) = true)
    (aFl : PySem.W.nsIn K mainGlobals "_law_follows" = some (some (.ref fFl)))
    (lFl : K.lookup fFl = some ⟨ocFl, odFl, .func (PySem.W.fnOf "_law_follows" "_law_follows" (defArgs sLFollows) (defBody sLFollows) (defScope sLFollows) .none kVFl dcFl pmFl anFl (cdFl) ctFl), slFl⟩)
    (cFl : PySem.W.codeIn K (cdFl) "_law_follows" = true)
    (kFl : PySem.W.keepIn K (.ref fFl) = true)
    (aIw : PySem.W.nsIn K mainGlobals "_law_is_way" = some (some (.ref fIw)))
    (lIw : K.lookup fIw = some ⟨ocIw, odIw, .func (PySem.W.fnOf "_law_is_way" "_law_is_way" (defArgs sLIsWay) (defBody sLIsWay) (defScope sLIsWay) .none kVIw dcIw pmIw anIw (cdIw) ctIw), slIw⟩)
    (cIw : PySem.W.codeIn K (cdIw) "_law_is_way" = true)
    (kIw : PySem.W.keepIn K (.ref fIw) = true)
    (aLt : PySem.W.nsIn K mainGlobals "_law_trip" = some (some (.ref fLt)))
    (lLt : K.lookup fLt = some ⟨ocLt, odLt, .func (PySem.W.fnOf "_law_trip" "_law_trip" (defArgs sLTrip) (defBody sLTrip) (defScope sLTrip) .none kVLt dcLt pmLt anLt (cdLt) ctLt), slLt⟩)
    (cLt : PySem.W.codeIn K (cdLt) "_law_trip" = true)
    (kLt : PySem.W.keepIn K (.ref fLt) = true)
    (aLa : PySem.W.nsIn K mainGlobals "_law_apart_trip" = some (some (.ref fLa)))
    (lLa : K.lookup fLa = some ⟨ocLa, odLa, .func (PySem.W.fnOf "_law_apart_trip" "_law_apart_trip" (defArgs sLATrip) (defBody sLATrip) (defScope sLATrip) .none kVLa dcLa pmLa anLa (cdLa) ctLa), slLa⟩)
    (cLa : PySem.W.codeIn K (cdLa) "_law_apart_trip" = true)
    (kLa : PySem.W.keepIn K (.ref fLa) = true)
    (aLw : PySem.W.nsIn K mainGlobals "law" = some (some (.ref fLw)))
    (lLw : K.lookup fLw = some ⟨ocLw, odLw, .func (PySem.W.fnOf "law" "law" (defArgs sLaw) (defBody sLaw) (defScope sLaw) .none kVLw dcLw pmLw anLw (cdLw) ctLw), slLw⟩)
    (cLw : PySem.W.codeIn K (cdLw) "law" = true)
    (kLw : PySem.W.keepIn K (.ref fLw) = true)
    (aRm : PySem.W.findIn K (.ref M) "road" = some (some (.ref fRm)))
    (iRm : PySem.W.isFn K (.ref fRm) = true)
    (lRm : K.lookup fRm = some ⟨ocRm, odRm, .func (PySem.W.fnOf "road" "Map.road" (defArgs sRoadM) (defBody sRoadM) (defScope sRoadM) .none kVRm dcRm pmRm anRm (cdRm) ctRm), slRm⟩)
    (cRm : PySem.W.codeIn K (cdRm) "Map.road" = true)
    (kRm : PySem.W.keepIn K (.ref fRm) = true)
    (aCk : PySem.W.findIn K (.ref M) "check_road" = some (some (.ref fCk)))
    (iCk : PySem.W.isFn K (.ref fCk) = true)
    (lCk : K.lookup fCk = some ⟨ocCk, odCk, .func (PySem.W.fnOf "check_road" "Map.check_road" (defArgs sCheck) (defBody sCheck) (defScope sCheck) .none kVCk dcCk pmCk anCk (cdCk) ctCk), slCk⟩)
    (cCk : PySem.W.codeIn K (cdCk) "Map.check_road" = true)
    (kCk : PySem.W.keepIn K (.ref fCk) = true)
    (aCp : PySem.W.findIn K (.ref M) "check_place" = some (some (.ref fCp)))
    (iCp : PySem.W.isFn K (.ref fCp) = true)
    (lCp : K.lookup fCp = some ⟨ocCp, odCp, .func (PySem.W.fnOf "check_place" "Map.check_place" (defArgs sCheckP) (defBody sCheckP) (defScope sCheckP) .none kVCp dcCp pmCp anCp (cdCp) ctCp), slCp⟩)
    (cCp : PySem.W.codeIn K (cdCp) "Map.check_place" = true)
    (kCp : PySem.W.keepIn K (.ref fCp) = true)
    (aCi : PySem.W.findIn K (.ref M) "check_kind" = some (some (.ref fCi)))
    (iCi : PySem.W.isFn K (.ref fCi) = true)
    (lCi : K.lookup fCi = some ⟨ocCi, odCi, .func (PySem.W.fnOf "check_kind" "Map.check_kind" (defArgs sCheckK) (defBody sCheckK) (defScope sCheckK) .none kVCi dcCi pmCi anCi (cdCi) ctCi), slCi⟩)
    (cCi : PySem.W.codeIn K (cdCi) "Map.check_kind" = true)
    (kCi : PySem.W.keepIn K (.ref fCi) = true)
    (aRf : PySem.W.findIn K (.ref M) "roads_from" = some (some (.ref fRf)))
    (iRf : PySem.W.isFn K (.ref fRf) = true)
    (lRf : K.lookup fRf = some ⟨ocRf, odRf, .func (PySem.W.fnOf "roads_from" "Map.roads_from" (defArgs sRFrom) (defBody sRFrom) (defScope sRFrom) .none kVRf dcRf pmRf anRf (cdRf) ctRf), slRf⟩)
    (cRf : PySem.W.codeIn K (cdRf) "Map.roads_from" = true)
    (kRf : PySem.W.keepIn K (.ref fRf) = true)
    (aFo : PySem.W.findIn K (.ref M) "followers" = some (some (.ref fFo)))
    (iFo : PySem.W.isFn K (.ref fFo) = true)
    (lFo : K.lookup fFo = some ⟨ocFo, odFo, .func (PySem.W.fnOf "followers" "Map.followers" (defArgs sFoll) (defBody sFoll) (defScope sFoll) .none kVFo dcFo pmFo anFo (cdFo) ctFo), slFo⟩)
    (cFo : PySem.W.codeIn K (cdFo) "Map.followers" = true)
    (kFo : PySem.W.keepIn K (.ref fFo) = true)
    (aMu : PySem.W.findIn K (.ref M) "may_use" = some (some (.ref fMu)))
    (iMu : PySem.W.isFn K (.ref fMu) = true)
    (lMu : K.lookup fMu = some ⟨ocMu, odMu, .func (PySem.W.fnOf "may_use" "Map.may_use" (defArgs sMayU) (defBody sMayU) (defScope sMayU) .none kVMu dcMu pmMu anMu (cdMu) ctMu), slMu⟩)
    (cMu : PySem.W.codeIn K (cdMu) "Map.may_use" = true)
    (kMu : PySem.W.keepIn K (.ref fMu) = true)
    (aRt2 : PySem.W.findIn K (.ref M) "roads_to" = some (some (.ref fRt2)))
    (iRt2 : PySem.W.isFn K (.ref fRt2) = true)
    (lRt2 : K.lookup fRt2 = some ⟨ocRt2, odRt2, .func (PySem.W.fnOf "roads_to" "Map.roads_to" (defArgs sRTo) (defBody sRTo) (defScope sRTo) .none kVRt2 dcRt2 pmRt2 anRt2 (cdRt2) ctRt2), slRt2⟩)
    (cRt2 : PySem.W.codeIn K (cdRt2) "Map.roads_to" = true)
    (kRt2 : PySem.W.keepIn K (.ref fRt2) = true)
    (aRn : PySem.W.findIn K (.ref M) "road_names" = some (some (.ref ppRn)))
    (pgRn : PySem.W.specialIn K (.ref ppRn) "__get__" = some (some (.builtin "property.__get__")))
    (tkRn : PySem.W.takesIn K (.ref ppRn) = some true)
    (rcRn : PySem.W.recIn K ppRn "property" = some (.ref fRn :: rsRn))
    (lRn : K.lookup fRn = some ⟨ocRn, odRn, .func (PySem.W.fnOf "road_names" "Map.road_names" (defArgs sRNames) (defBody sRNames) (defScope sRNames) .none kVRn dcRn pmRn anRn (cdRn) ctRn), slRn⟩)
    (cRn : PySem.W.codeIn K (cdRn) "Map.road_names" = true)
    (kRn : PySem.W.keepIn K (.ref fRn) = true)
    (lcN : K.lookup qN = some ⟨eN, dN, .fields vsN, slcN⟩)
    (v11 : vsN[11]? = some (.ref P))
    (hcN : PySem.W.codeHdIn K qN P = true)
    (nP : K.lookup P = none)
    (lcHw : K.lookup qHw = some ⟨eHw, dHw, .fields vsHw, slcHw⟩)
    (v11Hw : vsHw[11]? = some (.ref PHw))
    (hcHw : PySem.W.codeHdIn K qHw PHw = true)
    (nPHw : K.lookup PHw = none)
    (ne_Hw_Nm : PHw ≠ P)
    (aI : PySem.W.findIn K (.ref M) "__init__" = some (some (.ref fI)))
    (iI : PySem.W.isFn K (.ref fI) = true)
    (lI : K.lookup fI = some ⟨ocI, odI, .func (PySem.W.fnOf "__init__" "Map.__init__" (defArgs sInit) (defBody sInit) (defScope sInit) .none (.ref D0) dcI pmI anI cdI ctI), slI⟩)
    (cI : PySem.W.codeIn K cdI "Map.__init__" = true)
    (kI : PySem.W.keepIn K (.ref fI) = true)
    (d_places : PySem.W.nsIn K D0 "places" = some (some (.ref T1)))
    (d_roads : PySem.W.nsIn K D0 "roads" = some (some (.ref T2)))
    (d_bars : PySem.W.nsIn K D0 "bars" = some (some (.ref T0)))
    (pg : PySem.W.plainGet K M Str.empty = true)
    (hd : PySem.W.hasDictIn K M = true)
    (po : PySem.W.plainOver K M = true)
    (sa : PySem.W.findIn K (.ref M) "__setattr__" = some (some (.builtin "object.__setattr__")))
    (mk : PySem.W.makesIn K M = true)
    (kM : PySem.W.keepIn K (.ref M) = true)
    (n_day : PySem.W.findIn K (.ref M) "day" = some none)
    (n_kinds : PySem.W.findIn K (.ref M) "kinds" = some none)
    (n_places : PySem.W.findIn K (.ref M) "places" = some none)
    (n_roads : PySem.W.findIn K (.ref M) "roads" = some none)
    (n__roads_by_name : PySem.W.findIn K (.ref M) "_roads_by_name" = some none)
    (n_bars : PySem.W.findIn K (.ref M) "bars" = some none)
    (n__barred : PySem.W.findIn K (.ref M) "_barred" = some none)
    (snU1 : PySem.W.specialIn K (.builtin "object.__class__") "__get__" = some (some (.builtin "getset_descriptor.__get__")))
    (tkU : PySem.W.takesIn K (.builtin "object.__class__") = some true)
    (opU : PySem.W.nsIn K cStatics "thirdparty.any" = some none)
    (toX : (l.prog.main.scope.names.lookup ("super" : Str)).isSome = false)
    (lU : K.lookup U = some (excClassObj nmU qU U NU bsU bmU true snU subU abU colU ddU x0U x1U x2U x3U x5U "ValueError.__new__"))
    (rvU : PySem.HandSPX.refsVE bmU = true)
    (saU : PySem.W.findIn K (.ref U) "__setattr__" = some (some (.builtin "object.__setattr__")))
    (bU : PySem.W.subIn K (.ref U) (.type "BaseException") = some true)
    (tU : PySem.W.typeIn K (.ref U) = some (.type "type"))
    (kU : PySem.W.keepIn K (.ref U) = true)
    (iU : PySem.W.isClsIn K U = true)
    (sU : PySem.W.subIn K (.ref U) (.ref U) = some true)
    (xU : xfB K U = true)
    (clU : (PySem.W.clsIn K U).isSome = true)
    (gaU : PySem.W.findIn K (.ref U) "__getattribute__" = some (some (.builtin "BaseException.__getattribute__")))
    (ggU : PySem.W.findIn K (.ref U) "__getattr__" = some none)
    (ccU : PySem.W.findIn K (.ref U) "__class__" = some (some (.builtin "object.__class__")))
    (moU : PySem.W.mroIn K U (.type "object") = some true)
    (muU : PySem.W.mroIn K U (.ref U) = some true)
    (suU : PySem.W.ks_superIn K U U "__init__" = some (some (.builtin "ValueError.__init__")))
    (svU : PySem.W.subIn K (.ref U) (.type "ValueError") = some true)
    (nnU : PySem.W.findIn K (.ref U) "name" = some none)
    (aXU : PySem.W.findIn K (.ref U) "__init__" = some (some (.ref fXU)))
    (tXU : PySem.W.typeIn K (.ref fXU) = some (.type "function"))
    (lXU : K.lookup fXU = some ⟨ocXU, odXU, .func (fdU .none kVXU dcXU pmXU anXU cdaXU ctXU ccXU), slXU⟩)
    (cXU : PySem.W.codeIn K (.ref cdaXU) "UnknownName.__init__" = true)
    (coXU : K.lookup cdaXU = some ⟨cclXU, cddXU, .fields vsXU, ccsXU⟩)
    (v2XU : vsXU[2]? = some (.str fileXU tfXU))
    (fiXU : ((l.prog.main.file : Str) == fileXU) = true)
    (ceXU : K.lookup ccXU = some ⟨clXU, cldXU, .cell (some (.ref U)), cslXU⟩)
    (g_LONGEST_NAME : PySem.W.nsIn K mainGlobals "LONGEST_NAME" = some (some (.int 12 t_LONGEST_NAME)))
    (g_LONGEST_DAY : PySem.W.nsIn K mainGlobals "LONGEST_DAY" = some (some (.int 1440 t_LONGEST_DAY)))
    (g_MOST_PLACES : PySem.W.nsIn K mainGlobals "MOST_PLACES" = some (some (.int 30 t_MOST_PLACES)))
    (g_MOST_KINDS : PySem.W.nsIn K mainGlobals "MOST_KINDS" = some (some (.int 4 t_MOST_KINDS)))
    (g_MOST_ROADS : PySem.W.nsIn K mainGlobals "MOST_ROADS" = some (some (.int 60 t_MOST_ROADS)))
    (g_MOST_MINUTES : PySem.W.nsIn K mainGlobals "MOST_MINUTES" = some (some (.int 1000 t_MOST_MINUTES)))
    (g_MOST_PAIRS : PySem.W.nsIn K mainGlobals "MOST_PAIRS" = some (some (.int 4 t_MOST_PAIRS)))
    (g_MOST_BARS : PySem.W.nsIn K mainGlobals "MOST_BARS" = some (some (.int 40 t_MOST_BARS)))
    (g_NAME : PySem.W.nsIn K mainGlobals "NAME" = some (some (.int 0 t_NAME)))
    (g_START : PySem.W.nsIn K mainGlobals "START" = some (some (.int 1 t_START)))
    (g_END : PySem.W.nsIn K mainGlobals "END" = some (some (.int 2 t_END)))
    (g_KINDS : PySem.W.nsIn K mainGlobals "KINDS" = some (some (.int 4 t_KINDS)))
    (g_HOURS : PySem.W.nsIn K mainGlobals "HOURS" = some (some (.int 5 t_HOURS)))
    (g_PARTS : PySem.W.nsIn K mainGlobals "PARTS" = some (some (.int 6 t_PARTS)))
    (g_LETTERS : PySem.W.nsIn K mainGlobals "LETTERS" = some (some (.str zLet t_LETTERS)))
    (g_DIGITS : PySem.W.nsIn K mainGlobals "DIGITS" = some (some (.str zDig t_DIGITS)))
    (g_NO_ROAD : PySem.W.nsIn K mainGlobals "NO_ROAD" = some (some (.str Str.empty t_NO_ROAD)))
    (z_len : PySem.W.nsIn K mainGlobals "len" = some none)
    (z_all : PySem.W.nsIn K mainGlobals "all" = some none)
    (z_any : PySem.W.nsIn K mainGlobals "any" = some none)
    (z_set : PySem.W.nsIn K mainGlobals "set" = some none)
    (z_tuple : PySem.W.nsIn K mainGlobals "tuple" = some none)
    (z_sorted : PySem.W.nsIn K mainGlobals "sorted" = some none)
    (z_abs : PySem.W.nsIn K mainGlobals "abs" = some none)
    (z_int : PySem.W.nsIn K mainGlobals "int" = some none)
    (z_range : PySem.W.nsIn K mainGlobals "range" = some none)
    (z_max : PySem.W.nsIn K mainGlobals "max" = some none)
    (z_min : PySem.W.nsIn K mainGlobals "min" = some none)
    (z_list : PySem.W.nsIn K mainGlobals "list" = some none)
    (z_super : PySem.W.nsIn K mainGlobals "super" = some none)
    (z_repr : PySem.W.nsIn K mainGlobals "repr" = some none) :
    LawL l w K (L2.CX l.prog w) 63 mg fa h := by
  have e := hfa.symm.trans (PySem.W.mg_of X G aLw)
  cases e
  have FNm := fun_mk (st := sIsName) lNm cNm kNm
  have bNm := FNm.binds (ps := ["text"]) fun _ _ _ _ _ _ us hl => match us, hl with | [_], _ => rfl
  have mNm := PySem.W.mg_of X G aNm
  have FDy := fun_mk (st := sDay) lDy cDy kDy
  have bDy := FDy.binds (ps := ["day"]) fun _ _ _ _ _ _ us hl => match us, hl with | [_], _ => rfl
  have mDy := PySem.W.mg_of X G aDy
  have FNa := fun_mk (st := sNames) lNa cNa kNa
  have bNa := FNa.binds (ps := ["names", "least", "most"]) fun _ _ _ _ _ _ us hl => match us, hl with | [_, _, _], _ => rfl
  have mNa := PySem.W.mg_of X G aNa
  have FDf := fun_mk (st := sDiff) lDf cDf kDf
  have bDf := FDf.binds (ps := ["parts"]) fun _ _ _ _ _ _ us hl => match us, hl with | [_], _ => rfl
  have mDf := PySem.W.mg_of X G aDf
  have FRs := fun_mk (st := sRoads) lRs cRs kRs
  have bRs := FRs.binds (ps := ["roads", "day", "places", "kinds"]) fun _ _ _ _ _ _ us hl => match us, hl with | [_, _, _, _], _ => rfl
  have mRs := PySem.W.mg_of X G aRs
  have FRd := fun_mk (st := sRoad) lRd cRd kRd
  have bRd := FRd.binds (ps := ["road", "day", "places", "kinds"]) fun _ _ _ _ _ _ us hl => match us, hl with | [_, _, _, _], _ => rfl
  have mRd := PySem.W.mg_of X G aRd
  have FHr := fun_mk (st := sHours) lHr cHr kHr
  have bHr := FHr.binds (ps := ["hours", "day"]) fun _ _ _ _ _ _ us hl => match us, hl with | [_, _], _ => rfl
  have mHr := PySem.W.mg_of X G aHr
  have FBr := fun_mk (st := sBars) lBr cBr kBr
  have bBr := FBr.binds (ps := ["bars", "roads_by_name"]) fun _ _ _ _ _ _ us hl => match us, hl with | [_, _], _ => rfl
  have mBr := PySem.W.mg_of X G aBr
  have FCn := fun_mk (st := sNamesC) lCn cCn kCn
  have bCn := FCn.binds (ps := ["chart", "kind", "places", "roads"]) fun _ _ _ _ _ _ us hl => match us, hl with | [_, _, _, _], _ => rfl
  have mCn := PySem.W.mg_of X G aCn
  have FEv := fun_mk (st := sCanEver) lEv cEv kEv
  have bEv := FEv.binds (ps := ["chart", "kind", "name"]) fun _ _ _ _ _ _ us hl => match us, hl with | [_, _, _], _ => rfl
  have mEv := PySem.W.mg_of X G aEv
  have FRb := fun_mk (st := sRTurns) lRb cRb kRb
  have bRb := FRb.binds (ps := ["chart", "kind"]) fun _ _ _ _ _ _ us hl => match us, hl with | [_, _], _ => rfl
  have mRb := PySem.W.mg_of X G aRb
  have FTu := fun_mk (st := sTurns) lTu cTu kTu
  have bTu := FTu.binds (ps := ["chart", "kind", "start"]) fun _ _ _ _ _ _ us hl => match us, hl with | [_, _, _], _ => rfl
  have mTu := PySem.W.mg_of X G aTu
  have FSd := fun_mk (st := sSpread) lSd cSd kSd
  have bSd := FSd.binds (ps := ["first", "steps"]) fun _ _ _ _ _ _ us hl => match us, hl with | [_, _], _ => rfl
  have mSd := PySem.W.mg_of X G aSd
  have FCq := fun_mk (st := sCkQ) lCq cCq kCq
  have bCq := FCq.binds (ps := ["chart", "kind", "start", "goal"]) fun _ _ _ _ _ _ us hl => match us, hl with | [_, _, _, _], _ => rfl
  have mCq := PySem.W.mg_of X G aCq
  have FHw := fun_mk (st := sHW) lHw cHw kHw
  have bHw := FHw.binds (ps := ["behind", "ends", "cut"]) fun _ _ _ _ _ _ us hl => match us, hl with | [_, _, _], _ => rfl
  have mHw := PySem.W.mg_of X G aHw
  have FVr := fun_mk (st := sVital) lVr cVr kVr
  have bVr := FVr.binds (ps := ["chart", "kind", "start", "goal"]) fun _ _ _ _ _ _ us hl => match us, hl with | [_, _, _, _], _ => rfl
  have mVr := PySem.W.mg_of X G aVr
  have FRw := fun_mk (st := sRow) lRw cRw kRw
  have bRw := FRw.binds (ps := ["cell", "many"]) fun _ _ _ _ _ _ us hl => match us, hl with | [_, _], _ => rfl
  have mRw := PySem.W.mg_of X G aRw
  have FNu := fun_mk (st := sNumbers) lNu cNu kNu
  have bNu := FNu.binds (ps := ["script", "many"]) fun _ _ _ _ _ _ us hl => match us, hl with | [_, _], _ => rfl
  have mNu := PySem.W.mg_of X G aNu
  have FLn := fun_mk (st := sLNames) lLn cLn kLn
  have bLn := FLn.binds (ps := ["number", "many"]) fun _ _ _ _ _ _ us hl => match us, hl with | [_, _], _ => rfl
  have mLn := PySem.W.mg_of X G aLn
  have FLh := fun_mk (st := sLHours) lLh cLh kLh
  have bLh := FLh.binds (ps := ["numbers", "at", "day"]) fun _ _ _ _ _ _ us hl => match us, hl with | [_, _, _], _ => rfl
  have mLh := PySem.W.mg_of X G aLh
  have FLr := fun_mk (st := sLRoadG) lLr cLr kLr
  have bLr := FLr.binds (ps := ["numbers", "at", "name", "day", "kinds", "places"]) fun _ _ _ _ _ _ us hl => match us, hl with | [_, _, _, _, _, _], _ => rfl
  have mLr := PySem.W.mg_of X G aLr
  have FLq := fun_mk (st := sLBarsG) lLq cLq kLq
  have bLq := FLq.binds (ps := ["numbers", "at", "roads"]) fun _ _ _ _ _ _ us hl => match us, hl with | [_, _, _], _ => rfl
  have mLq := PySem.W.mg_of X G aLq
  have FMp := fun_mk (st := sLPartsG) lMp cMp kMp
  have bMp := FMp.binds (ps := ["numbers", "at"]) fun _ _ _ _ _ _ us hl => match us, hl with | [_, _], _ => rfl
  have mMp := PySem.W.mg_of X G aMp
  have FMd := fun_mk (st := sLMade) lMd cMd kMd
  have bMd := FMd.binds (ps := ["parts"]) fun _ _ _ _ _ _ us hl => match us, hl with | [_], _ => rfl
  have mMd := PySem.W.mg_of X G aMd
  have FOp := fun_mk (st := sLOpen) lOp cOp kOp
  have bOp := FOp.binds (ps := ["parts", "kind"]) fun _ _ _ _ _ _ us hl => match us, hl with | [_, _], _ => rfl
  have mOp := PySem.W.mg_of X G aOp
  have FFl := fun_mk (st := sLFollows) lFl cFl kFl
  have bFl := FFl.binds (ps := ["parts", "one", "other"]) fun _ _ _ _ _ _ us hl => match us, hl with | [_, _, _], _ => rfl
  have mFl := PySem.W.mg_of X G aFl
  have FIw := fun_mk (st := sLIsWay) lIw cIw kIw
  have bIw := FIw.binds (ps := ["parts", "kind", "start", "goal", "names"]) fun _ _ _ _ _ _ us hl => match us, hl with | [_, _, _, _, _], _ => rfl
  have mIw := PySem.W.mg_of X G aIw
  have FLt := fun_mk (st := sLTrip) lLt cLt kLt
  have bLt := FLt.binds (ps := ["numbers", "at", "parts"]) fun _ _ _ _ _ _ us hl => match us, hl with | [_, _, _], _ => rfl
  have mLt := PySem.W.mg_of X G aLt
  have FLa := fun_mk (st := sLATrip) lLa cLa kLa
  have bLa := FLa.binds (ps := ["numbers", "at", "parts"]) fun _ _ _ _ _ _ us hl => match us, hl with | [_, _, _], _ => rfl
  have mLa := PySem.W.mg_of X G aLa
  have FLw := fun_mk (st := sLaw) lLw cLw kLw
  have bLw := FLw.binds (ps := ["script"]) fun _ _ _ _ _ _ us hl => match us, hl with | [_], _ => rfl
  have mLw := PySem.W.mg_of X G aLw
  have FRm := fun_mk (st := sRoadM) lRm cRm kRm
  have bRm := FRm.binds (ps := ["self", "name"]) fun _ _ _ _ _ _ us hl => match us, hl with | [_, _], _ => rfl
  have FCk := fun_mk (st := sCheck) lCk cCk kCk
  have bCk := FCk.binds (ps := ["self", "name"]) fun _ _ _ _ _ _ us hl => match us, hl with | [_, _], _ => rfl
  have FCp := fun_mk (st := sCheckP) lCp cCp kCp
  have bCp := FCp.binds (ps := ["self", "place"]) fun _ _ _ _ _ _ us hl => match us, hl with | [_, _], _ => rfl
  have FCi := fun_mk (st := sCheckK) lCi cCi kCi
  have bCi := FCi.binds (ps := ["self", "kind"]) fun _ _ _ _ _ _ us hl => match us, hl with | [_, _], _ => rfl
  have FRf := fun_mk (st := sRFrom) lRf cRf kRf
  have bRf := FRf.binds (ps := ["self", "place"]) fun _ _ _ _ _ _ us hl => match us, hl with | [_, _], _ => rfl
  have FFo := fun_mk (st := sFoll) lFo cFo kFo
  have bFo := FFo.binds (ps := ["self", "name"]) fun _ _ _ _ _ _ us hl => match us, hl with | [_, _], _ => rfl
  have FMu := fun_mk (st := sMayU) lMu cMu kMu
  have bMu := FMu.binds (ps := ["self", "kind", "name"]) fun _ _ _ _ _ _ us hl => match us, hl with | [_, _, _], _ => rfl
  have FRt2 := fun_mk (st := sRTo) lRt2 cRt2 kRt2
  have bRt2 := FRt2.binds (ps := ["self", "place"]) fun _ _ _ _ _ _ us hl => match us, hl with | [_, _], _ => rfl
  have FRn := fun_mk (st := sRNames) lRn cRn kRn
  have bRn := FRn.binds (ps := ["self"]) fun _ _ _ _ _ _ us hl => match us, hl with | [_], _ => rfl
  have e_len := PySem.W.mg_none_of X G z_len
  have e_all := PySem.W.mg_none_of X G z_all
  have e_any := PySem.W.mg_none_of X G z_any
  have e_set := PySem.W.mg_none_of X G z_set
  have e_tuple := PySem.W.mg_none_of X G z_tuple
  have e_sorted := PySem.W.mg_none_of X G z_sorted
  have e_abs := PySem.W.mg_none_of X G z_abs
  have e_int := PySem.W.mg_none_of X G z_int
  have e_range := PySem.W.mg_none_of X G z_range
  have e_max := PySem.W.mg_none_of X G z_max
  have e_min := PySem.W.mg_none_of X G z_min
  have e_list := PySem.W.mg_none_of X G z_list
  have e_super := PySem.W.mg_none_of X G z_super
  have e_repr := PySem.W.mg_none_of X G z_repr
  have i_LONGEST_NAME := PySem.W.mg_of X G g_LONGEST_NAME
  have i_LONGEST_DAY := PySem.W.mg_of X G g_LONGEST_DAY
  have i_MOST_PLACES := PySem.W.mg_of X G g_MOST_PLACES
  have i_MOST_KINDS := PySem.W.mg_of X G g_MOST_KINDS
  have i_MOST_ROADS := PySem.W.mg_of X G g_MOST_ROADS
  have i_MOST_MINUTES := PySem.W.mg_of X G g_MOST_MINUTES
  have i_MOST_PAIRS := PySem.W.mg_of X G g_MOST_PAIRS
  have i_MOST_BARS := PySem.W.mg_of X G g_MOST_BARS
  have i_NAME := PySem.W.mg_of X G g_NAME
  have i_START := PySem.W.mg_of X G g_START
  have i_END := PySem.W.mg_of X G g_END
  have i_KINDS := PySem.W.mg_of X G g_KINDS
  have i_HOURS := PySem.W.mg_of X G g_HOURS
  have i_PARTS := PySem.W.mg_of X G g_PARTS
  have i_LETTERS := PySem.W.mg_of X G g_LETTERS
  have i_DIGITS := PySem.W.mg_of X G g_DIGITS
  have i_NO_ROAD := PySem.W.mg_of X G g_NO_ROAD
  have eU := exm_two bU iU tU sU
  have TU : OexC K U := ⟨⟨_, _, _, _, _, _, _, _, _, _, _, _, _, _, _, lU, rvU⟩, saU, bU, tU, kU⟩
  have DU : ExcD K U := ⟨clU, gaU, ggU, bU, ccU, snU1, tkU, moU⟩
  have bXU : L2.Binds K (fdU .none kVXU dcXU pmXU anXU cdaXU ctXU ccXU) ["self", "name"] [] := .all fun us hl => match us, hl with | [_, _], _ => rfl
  have mU := PySem.W.mg_of X G gU
  have yU : XfC K U := xfB_ok xU
  have mB := PySem.W.mg_of X G gB
  have TM : TxtM K M := ⟨⟨pg, hd, po, sa⟩, n_day, n_kinds, n_places, n_roads, n__roads_by_name, n_bars, n__barred⟩
  have TN : Txt K mg M P := ⟨⟨_, i_LETTERS⟩, ⟨_, i_DIGITS⟩, ⟨_, i_LONGEST_NAME⟩, e_len, e_all⟩
  have FI : FunD K "__init__" "Map.__init__" (defArgs sInit) (defBody sInit) (defScope sInit) [] [("places", V.ref T1), ("roads", V.ref T2), ("bars", V.ref T0)] fI (PySem.W.fnOf "__init__" "Map.__init__" (defArgs sInit) (defBody sInit) (defScope sInit) .none (.ref D0) dcI pmI anI cdI ctI) :=
    ⟨⟨_, _, _, _, _, _, _, _, _, _, rfl, lI, cI, .inl ⟨rfl, rfl⟩, .inr ⟨D0, rfl, fun q hq => by
      simp only [List.mem_cons, List.not_mem_nil, or_false] at hq
      rcases hq with e | e | e <;> rw [e]
      · exact ⟨_, d_places, rfl⟩
      · exact ⟨_, d_roads, rfl⟩
      · exact ⟨_, d_bars, rfl⟩⟩⟩, kI⟩
  obtain ⟨mv, kb⟩ := map_binds FI
  have tabP : h.get? P = some { cls := .none, data := .fields #[] } := own _ (by decide +kernel) _ mNm qN P _ _ _ _ _ _ lNm rfl rfl lcN v11
  have tabPHw : h.get? PHw = some { cls := .none, data := .fields #[] } := own _ (by decide +kernel) _ mHw qHw PHw _ _ _ _ _ _ lHw rfl rfl lcHw v11Hw
  have hcs : ∀ p ∈ ([(qN, P), (qHw, PHw)] : List (Addr × Addr)), h.get? p.2 = some { cls := .none, data := .fields #[] } ∧ K.lookup p.2 = none ∧ PySem.W.CodeHd h p.1 p.2 := fun p hp => by
    simp only [List.mem_cons, List.not_mem_nil, or_false] at hp
    rcases hp with e | e <;> rw [e]
    · exact ⟨tabP, nP, PySem.W.codeHd_of_K X hcN⟩
    · exact ⟨tabPHw, nPHw, PySem.W.codeHd_of_K X hcHw⟩
  refine ⟨[(qN, P), (qHw, PHw)], spLaw2 K P PHw, hcs, fun H a ns hl hT hS => ⟨a, ns, rfl, hS, hl, ⟨#[], hT (qN, P) (by simp), by first | trivial | exact True.intro | decide⟩, hT (qHw, PHw) (by simp), fun _ => rfl⟩, fun base KB NB TBL => ?_⟩
  have TBN : TabB base mg qN P := ⟨(TBL (qN, P) (by simp)).code, (TBL (qN, P) (by simp)).bm, (TBL (qN, P) (by simp)).gP⟩
  have TBHw : LamX.TabB base mg qHw PHw := TBL (qHw, PHw) (by simp)
  have GNm : FnOk l.prog w K mg base CX0 2 fNm _ ["text"] (spIsName P) := ok_isName FNm TN TBN rfl NB
  have GDy : FnOk l.prog w K mg base CX0 1 fDy _ ["day"] spDay := ok_day FDy i_LONGEST_DAY
  have GDf : FnOk l.prog w K mg base CX0 1 fDf _ ["parts"] (spDiff K) := ok_diff FDf e_len e_set
  have GHr : FnOk l.prog w K mg base CX0 1 fHr _ ["hours", "day"] (spHours K P) := ok_hours FHr e_len e_tuple i_MOST_PAIRS
  have GNa := ok_names FNa e_len e_tuple e_sorted GNm mNm kNm bNm GDf mDf kDf bDf
  have GRd := ok_road FRd e_tuple e_sorted i_MOST_MINUTES GDf mDf kDf bDf GHr mHr kHr bHr
  have GRs := ok_roads FRs e_len e_tuple e_sorted i_PARTS i_NAME i_MOST_ROADS GNa mNa kNa bNa GRd mRd kRd bRd
  have GBr : FnOk l.prog w K mg base CX0 2 fBr _ ["bars", "roads_by_name"] (spBars K P) := ok_bars FBr e_len e_tuple e_sorted i_MOST_BARS i_END i_START GDf mDf kDf bDf
  have GNaT := ok_namesT FNa e_len e_tuple e_sorted GNm mNm kNm bNm GDf mDf kDf bDf
  have GRsT := ok_roadsT FRs e_len e_tuple e_sorted i_PARTS i_NAME i_MOST_ROADS GNa mNa kNa bNa GRd mRd kRd bRd
  have GBrT : FnOk l.prog w K mg base CX0 2 fBr _ ["bars", "roads_by_name"] (spBarsT K P) := ok_barsT FBr e_len e_tuple e_sorted i_MOST_BARS i_END i_START GDf mDf kDf bDf
  have GITT := ok_initTT FI TM i_NAME i_MOST_KINDS i_MOST_PLACES GDy mDy kDy bDy GNaT mNa kNa bNa GRsT mRs kRs bRs GBrT mBr kBr bBr
  have GX : FnOk l.prog w K mg base CX0 1 fXU _ ["self", "name"] (spUInit K U) := ok_uinit lXU cXU coXU v2XU fiXU ceXU e_super toX TU muU opU suU svU nnU
  have GCk := ok_check FCk TM mU TU aXU tXU GX bXU
  have GCp := ok_checkP FCp TM mU TU aXU tXU GX bXU
  have GCi := ok_checkK FCi TM mU TU aXU tXU GX bXU
  have GRm := ok_roadM FRm TM ⟨aCk, iCk, kCk⟩ GCk bCk
  have GMu := ok_mayU (P := P) FMu TM ⟨aRm, iRm, kRm⟩ ⟨aCi, iCi, kCi⟩ i_KINDS GRm bRm GCi bCi
  have GEv := ok_ever FEv TM ⟨aRm, iRm, kRm⟩ ⟨aMu, iMu, kMu⟩ i_HOURS GRm bRm GMu bMu
  have GCn := ok_chkN (P := P) FCn TM ⟨aCi, iCi, kCi⟩ ⟨aCp, iCp, kCp⟩ ⟨aCk, iCk, kCk⟩ GCi bCi GCp bCp GCk bCk
  have GRn : FnOk l.prog w K mg base CX0 1 fRn _ ["self"] (spRNames K M P) := ok_rnames FRn TM e_tuple i_NAME
  have GRf := ok_rfrom (P := P) FRf TM i_NAME i_START ⟨aCp, iCp, kCp⟩ GCp bCp
  have GFo := ok_foll FFo TM i_END ⟨aRm, iRm, kRm⟩ ⟨aRf, iRf, kRf⟩ GRm bRm GRf bRf
  have GRb := ok_rturns (U := U) FRb TM ⟨aRn, pgRn, tkRn, ⟨_, rcRn⟩⟩ ⟨aFo, iFo, kFo⟩ GRn bRn GFo bFo GEv mEv kEv bEv
  have GTu := ok_turns (U := U) FTu TM i_NO_ROAD ⟨aRf, iRf, kRf⟩ GRb mRb kRb bRb GRf bRf GEv mEv kEv bEv
  have GRw : FnOk l.prog w K mg base CX0 1 fRw _ ["cell", "many"] (spRow P) := ok_row FRw e_abs e_int e_range
  have GNu := ok_numbers FNu e_len e_max GRw mRw kRw bRw
  have GLn : FnOk l.prog w K mg base CX0 1 fLn _ ["number", "many"] (spLNames P) := ok_lnames FLn e_int e_range e_len e_min
  have GLh : FnOk l.prog w K mg base CX0 1 fLh _ ["numbers", "at", "day"] (spLHours K P) := ok_lhours FLh e_int e_tuple e_range
  have GLr := ok_lroadG FLr e_int e_len e_tuple e_range GLh mLh kLh bLh
  have GLq : FnOk l.prog w K mg base CX0 1 fLq _ ["numbers", "at", "roads"] (spLBarsG K P) := ok_lbarsG FLq e_int e_len e_tuple e_range e_sorted
  have GMp := ok_lpartsG FMp e_int e_tuple e_range e_sorted GLn mLn kLn bLn GLr mLr kLr bLr GLq mLq kLq bLq
  have GMd := ok_lmade FMd TM ⟨mk, aI, iI, kM⟩ (PySem.W.mg_of X G aM) GITT kb
  have GOp : FnOk l.prog w K mg base CX0 1 fOp _ ["parts", "kind"] (spLOpen K P) := ok_lopen FOp
  have GFl : FnOk l.prog w K mg base CX0 1 fFl _ ["parts", "one", "other"] (spLFollows K P) := ok_lfollows FFl
  have GLt : FnOk l.prog w K mg base CX0 1 fLt _ ["numbers", "at", "parts"] (spLTripG K P) := ok_ltripG FLt e_int e_len
  have GRt2 := ok_rto (P := P) FRt2 TM i_NAME i_END ⟨aCp, iCp, kCp⟩ GCp bCp
  have GCq := ok_ckq FCq GCn mCn kCn bCn
  have GHw := ok_hw (Pg := l.prog) (w := w) (P := P) FHw rfl TBHw i_NO_ROAD e_any FSd mSd kSd bSd
  have GVr := ok_vital FVr TM GCq mCq kCq bCq GTu mTu kTu bTu ⟨aRt2, iRt2, kRt2⟩ GRt2 bRt2 GHw mHw kHw bHw ⟨aRn, pgRn, tkRn, ⟨_, rcRn⟩⟩ GRn bRn
  have GIw := ok_lisway (Pg := l.prog) (w := w) (P := P) FIw e_len e_range e_any GOp mOp kOp bOp GFl mFl kFl bFl
  have GLa := ok_latrip FLa e_len GLt mLt kLt bLt
  exact ok_law lLw cLw (fun s v => .of_eq rfl) e_repr e_int e_range e_tuple e_sorted e_list ne_Hw_Nm GNu mNu kNu bNu GMp mMp kMp bMp GMd mMd kMd bMd GLr mLr kLr bLr GLa mLa kLa bLa GIw mIw kIw bIw GVr mVr kVr bVr
end W

set_option Elab.async false
open PySem PySem.W PyProof.Rows in
set_option maxRecDepth 100000 in
set_option maxHeartbeats 0 in
theorem PySem.Challenge.cw_waypapers_k34_vital_roads_holds : PySem.Challenge.rw_waypapers_k34_vital_roads.Holds := by
  w_on; o_law; k_head; (case hw => w_witness2)
  k_fill
  refine MyR.walk_ofL (l := PySem.Challenge.rw_waypapers_k34_vital_roads) (n := 63) (CX := fun w => L2.CX (PySem.Challenge.rw_waypapers_k34_vital_roads).prog w) ["is_name", "_has_way"] rfl (by decide) rfl (by decide +kernel) (fun w h Y => PySem.W.km_in_of Y) ?F (fun w H s e s' h => W.no_fly w H s e s' h)
  case F =>
    intro w mg fa h Y KX G hmg own
    refine' W.all_mk KX G hmg own ?aM ?gU ?gB ?aNm ?lNm ?cNm ?kNm ?aDy ?lDy ?cDy ?kDy ?aNa ?lNa ?cNa ?kNa ?aDf ?lDf ?cDf ?kDf ?aRs ?lRs ?cRs ?kRs ?aRd ?lRd ?cRd ?kRd ?aHr ?lHr ?cHr ?kHr ?aBr ?lBr ?cBr ?kBr ?aCn ?lCn ?cCn ?kCn ?aEv ?lEv ?cEv ?kEv ?aRb ?lRb ?cRb ?kRb ?aTu ?lTu ?cTu ?kTu ?aSd ?lSd ?cSd ?kSd ?aCq ?lCq ?cCq ?kCq ?aHw ?lHw ?cHw ?kHw ?aVr ?lVr ?cVr ?kVr ?aRw ?lRw ?cRw ?kRw ?aNu ?lNu ?cNu ?kNu ?aLn ?lLn ?cLn ?kLn ?aLh ?lLh ?cLh ?kLh ?aLr ?lLr ?cLr ?kLr ?aLq ?lLq ?cLq ?kLq ?aMp ?lMp ?cMp ?kMp ?aMd ?lMd ?cMd ?kMd ?aOp ?lOp ?cOp ?kOp ?aFl ?lFl ?cFl ?kFl ?aIw ?lIw ?cIw ?kIw ?aLt ?lLt ?cLt ?kLt ?aLa ?lLa ?cLa ?kLa ?aLw ?lLw ?cLw ?kLw ?aRm ?iRm ?lRm ?cRm ?kRm ?aCk ?iCk ?lCk ?cCk ?kCk ?aCp ?iCp ?lCp ?cCp ?kCp ?aCi ?iCi ?lCi ?cCi ?kCi ?aRf ?iRf ?lRf ?cRf ?kRf ?aFo ?iFo ?lFo ?cFo ?kFo ?aMu ?iMu ?lMu ?cMu ?kMu ?aRt2 ?iRt2 ?lRt2 ?cRt2 ?kRt2 ?aRn ?pgRn ?tkRn ?rcRn ?lRn ?cRn ?kRn ?lcN ?v11 ?hcN ?nP ?lcHw ?v11Hw ?hcHw ?nPHw ?ne_Hw_Nm ?aI ?iI ?lI ?cI ?kI ?d_places ?d_roads ?d_bars ?pg ?hd ?po ?sa ?mk ?kM ?n_day ?n_kinds ?n_places ?n_roads ?n__roads_by_name ?n_bars ?n__barred ?snU1 ?tkU ?opU ?toX ?lU ?rvU ?saU ?bU ?tU ?kU ?iU ?sU ?xU ?clU ?gaU ?ggU ?ccU ?moU ?muU ?suU ?svU ?nnU ?aXU ?tXU ?lXU ?cXU ?coXU ?v2XU ?fiXU ?ceXU ?g_LONGEST_NAME ?g_LONGEST_DAY ?g_MOST_PLACES ?g_MOST_KINDS ?g_MOST_ROADS ?g_MOST_MINUTES ?g_MOST_PAIRS ?g_MOST_BARS ?g_NAME ?g_START ?g_END ?g_KINDS ?g_HOURS ?g_PARTS ?g_LETTERS ?g_DIGITS ?g_NO_ROAD ?z_len ?z_all ?z_any ?z_set ?z_tuple ?z_sorted ?z_abs ?z_int ?z_range ?z_max ?z_min ?z_list ?z_super ?z_repr
    (case aM => k_is)
    (case gU => k_is)
    (case gB => k_is)
    (case aNm => k_is)
    (case lNm => k_is)
    (case cNm => k_is)
    (case kNm => k_is)
    (case aDy => k_is)
    (case lDy => k_is)
    (case cDy => k_is)
    (case kDy => k_is)
    (case aNa => k_is)
    (case lNa => k_is)
    (case cNa => k_is)
    (case kNa => k_is)
    (case aDf => k_is)
    (case lDf => k_is)
    (case cDf => k_is)
    (case kDf => k_is)
    (case aRs => k_is)
    (case lRs => k_is)
    (case cRs => k_is)
    (case kRs => k_is)
    (case aRd => k_is)
    (case lRd => k_is)
    (case cRd => k_is)
    (case kRd => k_is)
    (case aHr => k_is)
    (case lHr => k_is)
    (case cHr => k_is)
    (case kHr => k_is)
    (case aBr => k_is)
    (case lBr => k_is)
    (case cBr => k_is)
    (case kBr => k_is)
    (case aCn => k_is)
    (case lCn => k_is)
    (case cCn => k_is)
    (case kCn => k_is)
    (case aEv => k_is)
    (case lEv => k_is)
    (case cEv => k_is)
    (case kEv => k_is)
    (case aRb => k_is)
    (case lRb => k_is)
    (case cRb => k_is)
    (case kRb => k_is)
    (case aTu => k_is)
    (case lTu => k_is)
    (case cTu => k_is)
    (case kTu => k_is)
    (case aSd => k_is)
    (case lSd => k_is)
    (case cSd => k_is)
    (case kSd => k_is)
    (case aCq => k_is)
    (case lCq => k_is)
    (case cCq => k_is)
    (case kCq => k_is)
    (case aHw => k_is)
    (case lHw => k_is)
    (case cHw => k_is)
    (case kHw => k_is)
    (case aVr => k_is)
    (case lVr => k_is)
    (case cVr => k_is)
    (case kVr => k_is)
    (case aRw => k_is)
    (case lRw => k_is)
    (case cRw => k_is)
    (case kRw => k_is)
    (case aNu => k_is)
    (case lNu => k_is)
    (case cNu => k_is)
    (case kNu => k_is)
    (case aLn => k_is)
    (case lLn => k_is)
    (case cLn => k_is)
    (case kLn => k_is)
    (case aLh => k_is)
    (case lLh => k_is)
    (case cLh => k_is)
    (case kLh => k_is)
    (case aLr => k_is)
    (case lLr => k_is)
    (case cLr => k_is)
    (case kLr => k_is)
    (case aLq => k_is)
    (case lLq => k_is)
    (case cLq => k_is)
    (case kLq => k_is)
    (case aMp => k_is)
    (case lMp => k_is)
    (case cMp => k_is)
    (case kMp => k_is)
    (case aMd => k_is)
    (case lMd => k_is)
    (case cMd => k_is)
    (case kMd => k_is)
    (case aOp => k_is)
    (case lOp => k_is)
    (case cOp => k_is)
    (case kOp => k_is)
    (case aFl => k_is)
    (case lFl => k_is)
    (case cFl => k_is)
    (case kFl => k_is)
    (case aIw => k_is)
    (case lIw => k_is)
    (case cIw => k_is)
    (case kIw => k_is)
    (case aLt => k_is)
    (case lLt => k_is)
    (case cLt => k_is)
    (case kLt => k_is)
    (case aLa => k_is)
    (case lLa => k_is)
    (case cLa => k_is)
    (case kLa => k_is)
    (case aLw => k_is)
    (case lLw => k_is)
    (case cLw => k_is)
    (case kLw => k_is)
    (case aRm => k_is)
    (case iRm => k_is)
    (case lRm => k_is)
    (case cRm => k_is)
    (case kRm => k_is)
    (case aCk => k_is)
    (case iCk => k_is)
    (case lCk => k_is)
    (case cCk => k_is)
    (case kCk => k_is)
    (case aCp => k_is)
    (case iCp => k_is)
    (case lCp => k_is)
    (case cCp => k_is)
    (case kCp => k_is)
    (case aCi => k_is)
    (case iCi => k_is)
    (case lCi => k_is)
    (case cCi => k_is)
    (case kCi => k_is)
    (case aRf => k_is)
    (case iRf => k_is)
    (case lRf => k_is)
    (case cRf => k_is)
    (case kRf => k_is)
    (case aFo => k_is)
    (case iFo => k_is)
    (case lFo => k_is)
    (case cFo => k_is)
    (case kFo => k_is)
    (case aMu => k_is)
    (case iMu => k_is)
    (case lMu => k_is)
    (case cMu => k_is)
    (case kMu => k_is)
    (case aRt2 => k_is)
    (case iRt2 => k_is)
    (case lRt2 => k_is)
    (case cRt2 => k_is)
    (case kRt2 => k_is)
    (case aRn => k_is)
    (case pgRn => k_is)
    (case tkRn => k_is)
    (case rcRn => first | k_is | rfl | kernel_rfl)
    (case lRn => k_is)
    (case cRn => k_is)
    (case kRn => k_is)
    (case lcN => k_is)
    (case v11 => rfl)
    (case hcN => kernel_rfl)
    (case nP => kernel_rfl)
    (case lcHw => k_is)
    (case v11Hw => rfl)
    (case hcHw => kernel_rfl)
    (case nPHw => kernel_rfl)
    (case ne_Hw_Nm => decide)
    (case aI => k_is)
    (case iI => k_is)
    (case lI => k_is)
    (case cI => k_is)
    (case kI => k_is)
    (case d_places => k_is)
    (case d_roads => k_is)
    (case d_bars => k_is)
    (case pg => k_is)
    (case hd => k_is)
    (case po => k_is)
    (case sa => k_is)
    (case mk => k_is)
    (case kM => k_is)
    (case n_day => k_is)
    (case n_kinds => k_is)
    (case n_places => k_is)
    (case n_roads => k_is)
    (case n__roads_by_name => k_is)
    (case n_bars => k_is)
    (case n__barred => k_is)
    (case snU1 => k_is)
    (case tkU => k_is)
    (case opU => k_is)
    (case toX => first | rfl | decide +kernel | kernel_rfl)
    (case lU => k_is)
    (case rvU => rfl)
    (case saU => k_is)
    (case bU => k_is)
    (case tU => k_is)
    (case kU => k_is)
    (case iU => k_is)
    (case sU => first | rfl | k_is)
    (case xU => first | kernel_rfl | k_is)
    (case clU => first | kernel_rfl | k_is)
    (case gaU => k_is)
    (case ggU => k_is)
    (case ccU => k_is)
    (case moU => k_is)
    (case muU => k_is)
    (case suU => first | kernel_rfl | k_is)
    (case svU => k_is)
    (case nnU => k_is)
    (case aXU => k_is)
    (case tXU => k_is)
    (case lXU => k_is)
    (case cXU => k_is)
    (case coXU => k_is)
    (case v2XU => rfl)
    (case fiXU => first | rfl | decide +kernel | kernel_rfl)
    (case ceXU => k_is)
    (case g_LONGEST_NAME => k_is)
    (case g_LONGEST_DAY => k_is)
    (case g_MOST_PLACES => k_is)
    (case g_MOST_KINDS => k_is)
    (case g_MOST_ROADS => k_is)
    (case g_MOST_MINUTES => k_is)
    (case g_MOST_PAIRS => k_is)
    (case g_MOST_BARS => k_is)
    (case g_NAME => k_is)
    (case g_START => k_is)
    (case g_END => k_is)
    (case g_KINDS => k_is)
    (case g_HOURS => k_is)
    (case g_PARTS => k_is)
    (case g_LETTERS => k_is)
    (case g_DIGITS => k_is)
    (case g_NO_ROAD => k_is)
    (case z_len => k_is)
    (case z_all => k_is)
    (case z_any => k_is)
    (case z_set => k_is)
    (case z_tuple => k_is)
    (case z_sorted => k_is)
    (case z_abs => k_is)
    (case z_int => k_is)
    (case z_range => k_is)
    (case z_max => k_is)
    (case z_min => k_is)
    (case z_list => k_is)
    (case z_super => k_is)
    (case z_repr => k_is)

