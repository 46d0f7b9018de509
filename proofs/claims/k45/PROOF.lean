import PyProof.Rows.All
import HandS.ExcCtx
import HandS.RaiseMore
import HandS.ExcInit
import HandS.ExcInitHot
import HandS.WordsExc
import Wide.All
import OpenK.AllK
import Wide.FinOn
import HandS.ForMost
import HandS.ForExc
import HandS.AnyAll
import HandS.TupSets
import HandS.Strs
import HandS.Sort
import HandS.SortOrd
import HandS.SortRule
import KE.KSortTup
import PyProof.EqAt
import PyProof.EqKinds
import HandS.DictComp
import HandS.FStr
import HandS.MakeKwOnly
import HandS.EndTab
import KE.KNestM
import HandS.Walk
import PyProof.ReprLen
import HandS.Comp
import KE.GoesComp
import HandS.TryOnly
import HandS.Codes
import HandS.Text
import PyProof.ReprRoads
import HandS.EndOwn
import KE.KExcSuper
import KE.KExcIs
import HandS.ExcField
import HandS.ExcOwn
import HandS.Star
import HandS.Style
import HandS.TupAny
import HandS.Deep
import KE.KRevSl
import HandS.NoneIn
import HandS.Property
import HandS.GenList
import PyProof.Rows.MatchSeqLen
import HandS.SuiteRaise
import HandS.RaiseFrom
import KE.KTryMore
import HandS.More
import HandS.Rev
import HandS.IsInst
import PySem.Challenge.RW_waypapers_k45_changes_taken_back
set_option Elab.async false
set_option linter.all false
set_option maxRecDepth 100000
set_option maxHeartbeats 2000000
/-! defs that raise where nothing is handled, told with L2N.CX -/
namespace MyN
open PySem PySem.Spec PyProof.Rows L2
theorem passL {X : Cx} : Passes (L2N.CX X.prog X.w) X E0 := fun _ _ _ _ _ _ _ ⟨_, _, _, _, _, _, _, _, _, _, _, _, z⟩ => z.elim
/-- a def that raises with no context raises -/
theorem weak {P : Program} {w : World} {o : List Env} {H : Hp} {s : Shared} {E : XK} {u : Value} {s' : Shared} (c : L2N.CX P w o H s E u s') : L2.CX P w o H s E u s' := by
  obtain ⟨a, B, H', cls, d, e, fl, r⟩ := c
  exact ⟨a, B, H', cls, d, e, L2H.flyingZ_imp (fun _ z => z.zc) fl, r⟩
section
variable {P : Program} {w : World} {K : PySem.W.Frag} {mg : Str → Option Value} {base : Heap}
theorem okN {x qual : Str} {st : Stmt} {f : Addr} {fd : FuncData} {N ps : List Str} {k : Nat} {sp : Sp} (F : Fun K x qual st f fd) (S : FnScope N ps (defScope st)) (len : ∀ vs H Q E, sp vs H Q E → vs.length = ps.length)
    (body : ∀ (cdv : Value) (A : Around) (outer : List Env) (s : Shared) (H : Hp) (vs : List V) (Q : VK) (E : XK), Room k (A.deeper (envOfC qual (defScope st) s.heap.objs.size f cdv)) → sp vs H Q E →
      ∃ t, PSs (cxOf (L2N.CX P w) P w K mg base N qual (defScope st) f cdv A outer s H E) (defBody st) t ∧ t { nx := fun _ H' => Q .non H', rt := Q } (L2.start N vs) H) :
    FnOk P w K mg base (L2N.CX P w) (k + 1) f fd ps sp := by
  obtain ⟨_, _, _, _, _, _, cdv, _, _, rfl, lk, cd⟩ := F.ex
  exact fn_of lk cd S len fun A outer s H vs Q E r q => body cdv A outer s H vs Q E r q
/-- its promise is also one of the wider kind -/
theorem FnOk.wide {k : Nat} {f : Addr} {fd : FuncData} {ps : List Str} {sp : Sp} (F : FnOk P w K mg base (L2N.CX P w) k f fd ps sp) : FnOk P w K mg base (L2.CX P w) k f fd ps sp :=
  ⟨F.len, fun A outer s H args us vs Q E hr e0 b r q => codeAny_mono (F.run A outer s H args us vs Q E hr e0 b r q) fun x s' h => by
    cases x with
    | error e => exact weak h
    | ok fl => cases fl <;> exact h⟩
end
section
variable {X : Cx}
/-- a class of one's own, called with one value -/
theorem mk1 {C : Addr} {bmB : List Value} {B newId initId : String} {x : Str} {e : Expr} {ta : TE} {p pos : Pos} (F : ExcBaseFacts B newId initId bmB) (q : PySem.W.excIn X.K C bmB newId = true) (gC : X.mg x = some (.ref C)) (kC : PySem.W.keepIn X.K (.ref C) = true) (r : Raises X (.ref C)) (hg : Gl X x)
    (he : PE X e ta) (hs : starEach [e] X.env = (false, eval e X.env) :: starEach [] X.env := by rfl) (hdb : (x == ("__debug__" : Str)) = false := by decide) :
    L2N.PMk X (.Call (.Name x p) [e] [] pos) (fun σ H Q => ta σ H fun _ H1 => Q (.ref C) none H1) := by
  intro pins s σ H Q I h
  refine wpAny_Call_Name_kw (ld_glob I hg gC ?_ hdb)
  refine PySem.W.callWith_K (h₀ := X.base) I.ok.mod.kin kC ?_ hs (by rfl)
  rw [hs]
  show wpAny _ _ (spliced ((false, eval e X.env) :: backTo pos (starEach [] X.env))) _ _ s
  refine Calls.spliced_cons (thn (he.run pins s σ H (fun _ H1 => Q (.ref C) none H1) I h) fun u s1 hv => Calls.spliced_nil ?_)
  obtain ⟨v, H1, I1, _, q1⟩ := hv
  refine ⟨I1.kIn, ?_⟩
  obtain ⟨bm, N, nm, qn, bs, hdct, sn, sub, ab, col, dd, k0, k1, k2, k3, k5, mN, hC, hN, hni, T⟩ := exc_obj I1.kIn q
  show wpAny _ _ (call (.ref C) [u]) _ _ _
  exact wpAny_call_exc_subT F T hC hN hni (fun h' a m => L2N.mk_of I1 m r q1 (I1.hok.gone m.new)) (by rw [show ([u] : List Value).length = 1 from rfl, sizeLine_eq]; omega)
/-- a class of one's own with an __init__ that sets fields -/
theorem mkO {CX : CXT} {x : Str} {e : Expr} {es : List Expr} {ta : TA} {p pos : Pos} {C fI : Addr} {k : Nat} {fd : FuncData} {ps : List Str} {sp : Sp} {ds : List Value} {dvs : List V} (T : OexC X.K C) (iC : PySem.W.findIn X.K (.ref C) "__init__" = some (some (.ref fI)))
    (tI : PySem.W.typeIn X.K (.ref fI) = some (.type "function")) (F : FnOk X.prog X.w X.K X.mg X.base CX k fI fd ps sp) (hr : Room (k + 1) X.A) (hb : Binds X.K fd ps ds) (hd : Vals dvs ds) (hx : Passes CX X (fun _ _ _ => False)) (hg : Gl X x) (hm : X.mg x = some (.ref C))
    (ha : PA X (e :: es) ta) (hdb : (x == ("__debug__" : Str)) = false := by decide) (he : starEach (e :: es) X.env = (false, eval e X.env) :: starEach es X.env := by rfl) (hpl : (backTo pos (starEach es X.env)).any (·.1) = false := by rfl) :
    L2N.PMk X (.Call (.Name x p) (e :: es) [] pos) (tMkO C sp dvs ta) := by
  intro pins s σ H Q I h
  refine wpAny_Call_Name_kw (ld_glob I hg hm ?_ hdb)
  refine PySem.W.callWith_K (h₀ := X.base) I.ok.mod.kin T.kC (thn (ha.run pos pins s σ H _ I h) fun us s1 got => ?_) he hpl
  obtain ⟨vs, H1, J, rv, few, made⟩ := got
  refine ⟨J.kIn, ?_⟩
  obtain ⟨hp, g1, d1, t1, o1⟩ := s1
  obtain ⟨_, _, _, _, bm, _, _, _, _, _, _, _, _, _, _, cl, bmOk⟩ := T.cls
  -- the new object's address
  obtain ⟨a, ea⟩ : ∃ a, a = hp.objs.size + 1 := ⟨_, rfl⟩
  have le : hp.objs.size ≤ a := by rw [ea]; exact Nat.le_succ _
  have new : H1 a = none := J.hok.fresh le
  have q := made a new
  obtain ⟨hq, eq⟩ : ∃ hq, hq = (hp.push (PySem.W.kdv_tup us)).push (PySem.HandSPX.excO C hp.objs.size) := ⟨_, rfl⟩
  have keep : ∀ b o, hp.get? b = some o → hq.get? b = some o := fun b o z => by rw [eq]; exact Heap.get?_push_of_some _ (Heap.get?_push_of_some _ z)
  have at_ : hq.get? a = some (PySem.HandSPX.excO C hp.objs.size) := by rw [eq, ea]; heap_get
  have I2 : Inv X pins σ (upd H1 a (exo a C none)) ⟨hq, g1, d1, t1, o1⟩ := J.laid (t' := t1) (a := a) (o := exo a C none) (h' := hq) keep le (exo_ok at_)
  have rr : Vals (V.ref a :: (vs ++ dvs)) (Value.ref a :: (us ++ ds)) := .cons rfl (rv.append hd)
  have len : (Value.ref a :: us ++ ds).length = ps.length := by
    have y := rr.length
    rw [F.len _ _ _ _ q] at y
    exact y.symm
  have size : us.length ≤ sizeLine := by
    have y := rv.length
    rw [sizeLine_eq]
    omega
  show wpAny _ _ (call (.ref C) us) _ _ _
  have own := F.run _ X.stack ⟨hq, g1, d1, t1, o1⟩ _ ⟨Value.ref a :: us, []⟩ (Value.ref a :: (us ++ ds)) _ _ (fun _ _ _ => False) (hr.make C us []) (I2.env0.make C us []) (hb _ (Value.ref a :: us) I2.kIn len) rr q
  rw [eq, ea] at own
  rw [ea] at q rr I2 len new
  rw [eq] at I2 keep
  refine wpAny_call (PySem.HandSPX.call_own PySem.F.excBase_ValueError (fun Y => PySem.HandSPX.refsVE_contains Y bm bmOk) (J.kIn _ _ cl) (PySem.W.looks_findIn J.kIn iC) (fun self => PySem.W.bind_fn J.kIn self tI) size (codeAny_mono own fun r s' hr' => ?_))
  cases r with
  | error z => exact hx pins σ _ _ z s' I2 hr'
  | ok fl =>
    cases fl with
    | next => exact False.elim hr'
    | brk => exact False.elim hr'
    | cont => exact False.elim hr'
    | ret u =>
      obtain ⟨v, H2, os2, bare2, un2, ok2, r2, ev, d, fs, e1, e2, hd1, q2⟩ := hr'
      subst ev
      obtain ⟨h2, g2, d2, t2, os'⟩ := s'
      obtain ⟨t0, G, J3, kG, ge, oe, na⟩ := mk_end0 (d2 := d2) (t2 := t2) J (by rw [ea] at le; exact le) keep un2 ok2 os2 bare2 e1 e2 hd1
      exact ⟨r2, hp.objs.size + 1, _, _, ⟨G, g2, d2, t2, os'⟩, _, .ref C, some d, rfl, J3, kG, ge, oe, ⟨rfl, rfl, fun ws z => by cases z; rfl⟩, rfl, rfl, na, rfl, bare2, raises_own T.exC T.tyC, q2⟩
end
end MyN
namespace MyN
open PySem PySem.Spec PyProof.Rows L2
/-- okN where the code object is known -/
theorem okNC {P : Program} {w : World} {K : PySem.W.Frag} {mg : Str → Option Value} {base : Heap} {x qual : Str} {st : Stmt} {f c : Addr} {fd : FuncData} {N ps : List Str} {k : Nat} {sp : Sp} (F : Fun K x qual st f fd) (code : fd.code = Value.ref c) (S : FnScope N ps (defScope st)) (len : ∀ vs H Q E, sp vs H Q E → vs.length = ps.length)
    (body : ∀ (A : Around) (outer : List Env) (s : Shared) (H : Hp) (vs : List V) (Q : VK) (E : XK), Room k (A.deeper (envOfC qual (defScope st) s.heap.objs.size f (Value.ref c))) → sp vs H Q E →
      ∃ t, PSs (cxOf (L2N.CX P w) P w K mg base N qual (defScope st) f (Value.ref c) A outer s H E) (defBody st) t ∧ t { nx := fun _ H' => Q .non H', rt := Q } (L2.start N vs) H) : FnOk P w K mg base (L2N.CX P w) (k + 1) f fd ps sp := by
  obtain ⟨_, _, _, _, _, _, cdv, _, _, rfl, lk, cd⟩ := F.ex
  obtain rfl : cdv = Value.ref c := code
  exact fn_of lk cd S len fun A outer s H vs Q E r q => body A outer s H vs Q E r q
end MyN

set_option Elab.async false
set_option linter.all false
set_option maxRecDepth 100000
set_option maxHeartbeats 4000000
/-! all(test for x in text), where the test reads constants of the module: the walked element knows the base heap and the def's globals. -/
namespace MyG
open PySem PySem.Spec PyProof.Rows L2 GxR
/-- what the element's evaluation may lean on: the base heap stands, the globals are the module's, no exception is handled -/
def EltB (prog : Program) (w : World) (base : Heap) (scope : Scope) (x : Str) (elt : Expr) (pb : Nat → Bool) : Prop :=
  ∀ (ce : Env) (B : Around) (F : Value → Shared → Prop) (c : Nat) (t : Tok) (z : Shared) (m : Str → Option Value),
    ce.scope = scope → ce.globals = mainGlobals → B.handled = none → (∀ b o, base.get? b = some o → z.heap.get? b = some o) →
    z.heap.Ns ce.locals m → m x = some (.str ⟨#[c]⟩ t) → wpAny (model prog w) B (eval elt ce) (fun y z' => y = .bool (pb c) ∧ Keeps z z') F z
section
variable {X : Cx} {pins : List (Addr × Obj)} {σ : L2.St} {H : Hp} {s : Shared}
theorem genB {c P : Addr} {elt iter : Expr} {x : Str} {px gpos : Pos} {scope : Scope} {pb : Nat → Bool} {te : TE} {k : Nat} {Q' : Value → Shared → Prop} {R : Str → Hp → Prop}
    (hr : Room k X.A) (TB : TabB X.base X.mg c P) (hcode : X.env.code = .ref c) (S : GenS X.env scope x) (hi : PE X iter te) (hel : EltB X.prog X.w X.base scope x elt pb)
    (hs : ∀ v, genFold iter X.env v = pure v) (I : Inv X pins σ H s) (h : te σ H fun v H1 => ∃ a : Str, v = .str a ∧ TabG H1 P ∧ R a H1)
    (hQ : ∀ a H1 g z, R a H1 → Ready X pins σ H1 P a pb g z → Q' (.ref g) z) :
    wpAny (model X.prog X.w) X.A (eval (.GeneratorExp elt [⟨.Name x px, iter, [], 0⟩] scope gpos) X.env) Q' X.xe s := by
  refine wpAny_GeneratorExp_walksQ hr.hd S.co (closure_ok S.free) S.cell S.dot S.loc S.kind (by have := hr.dp; omega) ?_ hs
  refine thn (hi.run pins s σ H _ I h) fun xv s1 ⟨v, H1, I1, r1, a, ev, tb, q1⟩ => ?_
  subst ev
  obtain ⟨t, rfl⟩ := _root_.id r1
  obtain ⟨ps, hP, ht⟩ := tb
  refine wpAny_pyIter_str fun o St W hst => ?_
  have eP : s1.heap.get? P = some { cls := .none, data := .fields ps } := I1.hok P _ hP
  have ltP : P < s1.heap.objs.size := Heap.lt_size eP
  have eP2 := Heap.get?_push_of_some o eP
  have cd : PySem.W.CodeHd (s1.heap.push o) c P := TB.code.keeps fun b u e => Heap.get?_push_of_some _ (I1.bk b u e)
  have lim := I1.nolimit.push o
  have szp : (s1.heap.push o).objs.size = s1.heap.objs.size + 1 := Heap.size_push ..
  -- the base is not the table
  have nbP : ∀ b u, X.base.get? b = some u → b ≠ P := fun b u e z => by
    have q := (I1.bs b u e).2
    rw [z, hP] at q
    cases q
  have stP : cStatics ≠ P := fun e => by
    obtain ⟨_, ⟨o', es, ep, ho, hd, _⟩, _⟩ := I1.nolimit
    rw [e, eP] at ho
    cases ho
    cases hd
  have stlt : cStatics < s1.heap.objs.size := let ⟨_, hns, _⟩ := I1.nolimit; hns.lt
  -- behind the code object (made or found): h3, the table ps'
  have go : ∀ (code : Value) (h3 : Heap) (tk : Nat) (more : Array Value), Heap.ExtBut P (s1.heap.push o) h3 → (s1.heap.push o).objs.size ≤ h3.objs.size → h3.get? P = some { cls := .none, data := .fields (ps ++ more) } → TriplesOk (ps ++ more).toList →
      wpAny (model X.prog X.w) X.A (builtinsFor X.env.globals X.env.builtins) (fun bi s₄ =>
        ∃ Ia fp wr n₀ Pf St₀ pz F, Value.ref s1.heap.objs.size = .ref Ia ∧ (∀ A' : Around, A'.handled = none → Walks X.prog X.w A' Ia fp wr n₀ Pf St₀) ∧ St₀ 0 s₄.heap ∧ (∀ b ∈ fp, b < s₄.heap.objs.size) ∧ s₄.heap.NoLimit ∧ cStatics ∉ wr ∧
          (∀ href : Heap, (∀ b o, s₄.heap.get? b = some o → href.get? b = some o) →
            QuietGen X.prog X.w (genEnv scope (cloFrom X.env.cells scope.names []) s₄.heap.objs.size code bi X.env) x [] elt (List.range s₄.heap.objs.size) wr Pf pz F href) ∧
          (∀ a h₅ tk gs, gs.bare = true → s₄.heap.objs.size < a → h₅.objs.size = a + 1 → (∀ b o, s₄.heap.get? b = some o → h₅.get? b = some o) →
            WalksS X.prog X.w X.A.in4 a (a :: s₄.heap.objs.size :: List.range s₄.heap.objs.size) (s₄.heap.objs.size :: wr) (GenOnlyQ s₄.gens.size) (passing pz n₀ 0).length
              (fun j y => ∃ i, (passing pz n₀ 0)[j]? = some i ∧ F i y) (GenAt X.prog X.w X.A.in4 a s₄.gens.size s₄.heap.objs.size (List.range s₄.heap.objs.size) wr pz n₀ F) →
            GenAt X.prog X.w X.A.in4 a s₄.gens.size s₄.heap.objs.size (List.range s₄.heap.objs.size) wr pz n₀ F 0 { s₄ with gens := s₄.gens.push gs, toks := tk, heap := h₅ } →
            Q' (.ref a) { s₄ with gens := s₄.gens.push gs, toks := tk, heap := h₅ })) X.xe { s1 with heap := h3, toks := tk } := by
    intro code h3 tk more hx hsz e3 ht3
    obtain ⟨bm, ob, b1, b2, b3, b4, b5, b6, b7, b8⟩ := TB.bm
    have old : ∀ b u, b ≠ P → s1.heap.get? b = some u → h3.get? b = some u := fun b u hb e => hx b u hb (Heap.get?_push_of_some _ e)
    refine wpAny_builtinsFor (m := X.mg) (by rw [I1.ok.glob]; exact ((I1.mod.glob.keeps I1.bk).push o).extBut hx TB.gP) b1 b2 (old _ _ b4 (I1.bk _ _ b5)) b6 b7 b8 ?_
    refine ⟨s1.heap.objs.size, [s1.heap.objs.size], [s1.heap.objs.size], a.cps.size, SignAt a, St, (fun _ => true), (fun i y => ∃ cc, a.cps[i]? = some cc ∧ y = .bool (pb cc)), rfl, W, ?_, ?_, lim.extBut hx stP, ?_, ?_, ?_⟩
    · refine (W X.A hr.hd).frame _ _ _ hst fun b hb u e => hx b u (fun z => ?_) e
      have hb' : b = s1.heap.objs.size := List.mem_singleton.mp hb
      exact Nat.ne_of_lt ltP (z.symm.trans hb')
    · intro b hb
      have hb' : b = s1.heap.objs.size := List.mem_singleton.mp hb
      rw [hb']
      exact Nat.lt_of_lt_of_le (by rw [szp]; exact Nat.lt_succ_self _) hsz
    · intro z
      exact Nat.ne_of_lt stlt (List.mem_singleton.mp z)
    · intro href hk
      constructor
      · intro A' E' i v s₂ m₂ hA hPv hn hm hk2
        simp only [List.forIn_nil]
        exact wpAny_pure ⟨rfl, keeps_refl _⟩
      · intro A' E' i v s₂ m₂ hA hPv hp hn hm hk2
        obtain ⟨cc, u, hcc, rfl⟩ := hPv
        refine wpAny_mono (hel _ A' E' cc u s₂ m₂ rfl I1.ok.glob hA (fun b w' e => ?_) hn hm) (fun y s3 r => ⟨⟨cc, hcc, r.1⟩, r.2⟩) fun _ _ e => e
        have e1 := I1.bk b w' e
        have e2 := old b w' (nbP b w' e) e1
        have l1 : b < s1.heap.objs.size := Heap.lt_size e1
        refine hk2 b (List.mem_range.mpr (Heap.lt_size e2)) (fun z => ?_) w' (hk b w' e2)
        exact Nat.ne_of_lt l1 (List.mem_singleton.mp z)
    · intro g h5 tk5 gs hgb hag hsz5 hk5 W5 hat
      simp only [GxR.passing_true, List.length_range] at W5
      refine hQ a H1 g _ q1 ⟨_, _, _, _, _, W5.in4_1, hat, ?_, fun s' hm => ?_⟩
      · intro j y sj Qj Ej hy hQj
        obtain ⟨i, hij, cc, hcc, rfl⟩ := hy
        obtain ⟨hj, ej⟩ := List.getElem?_eq_some_iff.mp hij
        rw [List.getElem_range] at ej
        subst ej
        have e9 : a.cps.toList[j]? = some cc := by rw [Array.getElem?_toList]; exact hcc
        have hQ2 : Qj (trF pb a.cps.toList j) sj := hQj
        rw [trF_some e9] at hQ2
        exact wpAny_truthy_bool hQ2
      · have nwr : ∀ b u, s1.heap.get? b = some u → b ∉ h3.objs.size :: [s1.heap.objs.size] := fun b u e hb => by
          have hl := Heap.lt_size e
          rcases List.mem_cons.mp hb with z | z
          · exact Nat.ne_of_lt (Nat.lt_of_lt_of_le (Nat.lt_trans hl (Nat.lt_succ_self _)) (Nat.le_trans (Nat.le_of_eq szp.symm) hsz)) z
          · exact Nat.ne_of_lt hl (List.mem_singleton.mp z)
        have J := inv_tab (more := more) (h' := s'.heap) (g' := s'.gens) (d' := s'.drawn) (t' := s'.toks) I1 hP (fun b u hb e => hm.heap b u (nwr b u e) (hk5 b u (old b u hb e)))
          (hm.heap P _ (nwr P _ eP) (hk5 P _ e3)) (AllBare.movedS (I1.bare.push hgb) hm)
        rw [sh_eta s1 s' hm.os] at J
        exact ⟨upd H1 P (.tbl (ps ++ more)), ⟨⟨ps ++ more, upd_same, ht3⟩, fun b hb => upd_ne hb⟩, J⟩
  refine ⟨lim, ?_⟩
  cases hf : codeAmong gpos ps.toList with
  | none =>
    refine wpAny_genexprCodeX hcode (cd.code eP2 ht) (cd.tab eP2) hf fun c' h' tk hx hge hlt hco' _ htab' _ => ?_
    obtain ⟨o1, vs, f1, tf, fl, tg, inF, tx, tt, op, _, _, _, _, _, _, _, _, _, htr, _⟩ := hco'
    exact go _ h' tk _ hx (Nat.le_trans hge (Nat.le_of_lt hlt)) htab'.2 htr
  | some cv =>
    refine wpAny_genexprCode_hit hcode (cd.code eP2 ht) hf ?_
    refine go cv (s1.heap.push o) s1.toks #[] (Heap.ExtBut.refl _ _) (Nat.le_refl _) ?_ ?_
    · rw [Array.append_empty]; exact eP2
    · rw [Array.append_empty]; exact ht

/-- all(test for x in e), e a text -/
theorem pe_allB {c P : Addr} {elt iter : Expr} {x : Str} {px p pos gpos : Pos} {scope : Scope} {pb : Nat → Bool} {te : TE} {k : Nat}
    (hr : Room k X.A) (hg : Gl X "all") (hm : X.mg "all" = none) (TB : TabB X.base X.mg c P) (hcode : X.env.code = .ref c) (S : GenS X.env scope x) (hi : PE X iter te) (hel : EltB X.prog X.w X.base scope x elt pb)
    (hs : ∀ v, genFold iter X.env v = pure v)
    (he : starEach [.GeneratorExp elt [⟨.Name x px, iter, [], 0⟩] scope gpos] X.env = (false, eval (.GeneratorExp elt [⟨.Name x px, iter, [], 0⟩] scope gpos) X.env) :: starEach [] X.env := by rfl) :
    PE X (.Call (.Name "all" p) [.GeneratorExp elt [⟨.Name x px, iter, [], 0⟩] scope gpos] [] pos) (tAllS P pb te) := by
  refine ⟨fun pins s σ H Q I h => ?_⟩
  refine wpAny_Call_Name_kw (ld_blt I hg hm (by decide +kernel : bootBuiltins "all" = some (.builtin "all")) ?_)
  refine PyProof.Rows.callWith_builtin1 ?_ he (by rfl)
  rw [he]
  refine Calls.spliced_cons (genB (R := fun a H1 => ∀ H2, Tabbed P H1 H2 → Q (.bl (a.cps.toList.all pb)) H2) hr TB hcode S hi hel hs I h fun a H1 g z hR hG => Calls.spliced_nil ?_)
  obtain ⟨fp, wr, G, F, St, W, hst, htr, hI⟩ := hG
  refine call_all_walkS (W.self 0 _ _ _ hst ⟨g, fp, wr, G, _, F, St, _, rfl, W, hst, htr, fun s' hmv => ?_⟩)
  obtain ⟨H2, hT, J⟩ := hI s' hmv
  exact ⟨.bl _, H2, J, rfl, by rw [all_signs a pb]; exact hR H2 hT⟩
end
end MyG

set_option Elab.async false
set_option linter.all false
set_option maxRecDepth 100000
set_option maxHeartbeats 4000000
/-! set(xs) of a list or a tuple, by what one adding does: J i h says what the set at S holds of the first i items in the heap h. -/
namespace MyS
open PySem PySem.Spec PyProof.Rows L2
section
variable {P : Program} {w : World} {A : Around} {E : Value → Shared → Prop} {s : Shared}
/-- one adding -/
def Adds (P : Program) (w : World) (A : Around) (S : Addr) (h0 : Heap) (J : Nat → Heap → Prop) (i : Nat) (v : Value) : Prop :=
  ∀ (z : Shared) (Q : Bool → Shared → Prop) (E : Value → Shared → Prop), J i z.heap → (∀ b o, h0.get? b = some o → z.heap.get? b = some o) →
    (∀ b h' tk, z.toks ≤ tk → Heap.SameBut S z.heap h' → J (i + 1) h' → Q b { z with heap := h', toks := tk }) → wpAny (model P w) A (setAdd S v) Q E z
def KeepsJ (S : Addr) (h0 : Heap) (J : Nat → Heap → Prop) : Prop := ∀ i h h', J i h → (∀ o, h.get? S = some o → h'.get? S = some o) → (∀ b o, h0.get? b = some o → h'.get? b = some o) → J i h'
theorem loopJ {I : Addr} {fp wr : List Addr} {G : Array GenState → Array GenState → Prop} {n : Nat} {Pv : Nat → Value → Prop} {St : Nat → Shared → Prop} {R : Result → Shared → Prop} {J : Nat → Heap → Prop} {S : Addr} {h0 : Heap}
    (W : WalksS P w A.in1 I fp wr G n Pv St) (hSf : S ∉ fp) (hS0 : h0.get? S = none) (hw0 : ∀ b ∈ wr, h0.get? b = none) (kj : KeepsJ S h0 J) (step : ∀ i v, i < n → Pv i v → Adds P w A.in1 S h0 J i v) :
    ∀ (k i : Nat) (z : Shared), n - i = k → i ≤ n → St i z → (∀ b o, h0.get? b = some o → z.heap.get? b = some o) → J i z.heap →
      (∀ z', Moved (S :: wr) G z z' → J n z'.heap → (∀ b o, h0.get? b = some o → z'.heap.get? b = some o) → R (.ok (.ret .none)) z') →
      codeAny (model P w) A (.builtin "set.update.loop" ⟨[.ref S, .ref I], []⟩) R z := by
  have Sw : S ∉ wr := fun h => hSf (W.sub _ h)
  have up : ∀ b ∈ wr, b ∈ S :: wr := fun b hb => List.mem_cons_of_mem _ hb
  have old : ∀ {z z' : Shared}, Moved wr G z z' → (∀ b o, h0.get? b = some o → z.heap.get? b = some o) → ∀ b o, h0.get? b = some o → z'.heap.get? b = some o := fun m k b o e =>
    m.heap b o (fun hb => by rw [hw0 b hb] at e; cases e) (k b o e)
  intro k
  induction k with
  | zero =>
    intro i z hk hi hst hkp hJ hR
    obtain rfl : i = n := by omega
    refine codeAny_builtin F.entry_set_update_loop ?_
    rw [Around.under_plainId F.plain_set_update_loop _]
    show wpAny _ A.in1 (pyNext (.ref I) >>= _) _ _ z
    refine wpAny_bind (W.done z _ _ hst fun z' m => ?_)
    show wpAny _ A.in1 (ret Value.none) _ _ z'
    have o' := old m hkp
    exact wpAny_pure (hR z' (m.mono up) (kj _ _ _ hJ (fun o e => m.heap S o Sw e) o') o')
  | succ k ih =>
    intro i z hk hi hst hkp hJ hR
    have lt : i < n := by omega
    refine codeAny_builtin F.entry_set_update_loop ?_
    rw [Around.under_plainId F.plain_set_update_loop _]
    show wpAny _ A.in1 (pyNext (.ref I) >>= _) _ _ z
    refine wpAny_bind (W.item i z _ _ lt hst fun v z' hP hst' m => ?_)
    have o' := old m hkp
    show wpAny _ A.in1 (holding [v] (setAdd S v) >>= _) _ _ z'
    refine wpAny_bind (wpAny_holding (step i v lt hP z' _ _ (kj _ _ _ hJ (fun o e => m.heap S o Sw e) o') o' fun b h' tk ht sb hJ2 => ?_))
    have nS : ∀ {b : Addr}, b ≠ S → ∀ o, z'.heap.get? b = some o → h'.get? b = some o := fun hb o e => (sb.2 _ hb).trans e
    have o2 : ∀ b o, h0.get? b = some o → h'.get? b = some o := fun b o e => nS (fun q => by rw [q, hS0] at e; cases e) o (o' b o e)
    refine wpAny_pure ⟨plainId_quiet F.plain_set_update_loop _, ih (i + 1) _ (by omega) lt (W.frame _ z' _ _ hst' ht fun b hb o e => nS (fun q => hSf (by rw [← q]; exact hb)) o e) o2 hJ2 fun z2 m2 hJ3 o3 => ?_⟩
    exact hR z2 (Moved.trans W.gtrans ((m.mono up).then_heap ht fun b o hb e => nS (fun q => hb (by rw [q]; exact List.mem_cons_self)) o e) m2) hJ3 o3

abbrev freshSet (w : World) : Obj := { cls := .type "set", dict := none, data := .set #[] 0 (.fresh 0 0 (!w.params.followText "set-order")) }
theorem gone_of {h : Heap} {b : Addr} (hb : h.objs.size ≤ b) : h.get? b = none := by
  cases q : h.get? b with
  | none => rfl
  | some o => exact absurd (Nat.lt_of_lt_of_le (Heap.lt_size q) hb) (Nat.lt_irrefl _)
theorem code_new (a : Value) {Q₁ : Value → Shared → Prop} (h : Q₁ (.ref s.heap.objs.size) { s with heap := s.heap.push (freshSet w) }) :
    codeAny (model P w) A (.call (.builtin "set.__new__") ⟨[.type "set", a], []⟩) (wants Q₁ E) s := code_set_led1 a h
set_option maxHeartbeats 3200000 in
/-- set(l), l a list or a tuple of n items -/
theorem call_setJ {l : Addr} {items : Array Value} {J : Nat → Heap → Prop} {Q : Value → Shared → Prop} (hh : A.handled = none) (hl : s.heap.IsList l items ∨ s.heap.IsTuple l items) (hJ0 : ∀ h, h.get? s.heap.objs.size = some (freshSet w) → J 0 h)
    (kj : KeepsJ s.heap.objs.size s.heap J) (hex : ∀ h, J items.size h → ∃ o, h.get? s.heap.objs.size = some o) (step : ∀ (A' : Around), A'.units ≤ A.units + 4 → ∀ i v, items[i]? = some v → Adds P w A' s.heap.objs.size s.heap J i v)
    (h : ∀ (h' : Heap) (tk : Nat), J items.size h' → (∀ b o, s.heap.get? b = some o → h'.get? b = some o) → (∃ o, h'.get? s.heap.objs.size = some o) → Q (.ref s.heap.objs.size) { s with heap := h', toks := tk }) :
    wpAny (model P w) A (call (.type "set") [.ref l]) Q E s := by
  obtain ⟨c, tl, hmro⟩ := F.called_set.mro
  have hmade := F.called_set.made
  have hsub := F.called_set.sub
  refine wpAny_call (codeAny_of_tree ?_)
  show wpAny _ _ (callAny (.type "set") _) _ _ _
  refine wpAny_pure ⟨Code.quiet_builtin _ (by decide +kernel), codeAny_builtin F.entry_type_call ?_⟩
  rw [Around.under_plain (weight_type_call_type "set" [.ref l] []) rfl]
  have h1 := F.called_set.notType
  have h2 := F.called_set.canCreate
  have hct := F.typeCall_set_1 (.ref l)
  repeat (any_goals (first | assumption | wp_step))

  refine codeAny_mono (code_new (.ref l) (E := E) (Q₁ := fun obj z => obj = .ref s.heap.objs.size ∧ z = { s with heap := s.heap.push (freshSet w) }) ⟨rfl, rfl⟩) fun r z hr => ?_
  cases r with
  | error e => exact hr
  | ok fl =>
    cases fl with
    | ret obj =>
      obtain ⟨rfl, rfl⟩ := hr
      have hS : (s.heap.push (freshSet w)).get? s.heap.objs.size = some (freshSet w) := Heap.get?_push_size _ rfl
      have hT : Shared.TypeIs { s with heap := s.heap.push (freshSet w) } (.ref s.heap.objs.size) "set" := ⟨_, hS, rfl⟩
      have hli := F.called_set.init.lookup
      have hbi := F.called_set.init.bind (.ref s.heap.objs.size)
      repeat (any_goals (first | assumption | wp_step))

      refine codeAny_mono (codeAny_call_builtin (R := wants (fun r z => r = .none ∧ ∃ h' tk, z = { s with heap := h', toks := tk } ∧ J items.size h' ∧ (∀ b o, s.heap.get? b = some o → h'.get? b = some o) ∧ ∃ o, h'.get? s.heap.objs.size = some o) E) F.called_set.init.plain F.entry_set_init (check_set_init_1 hT ?_)) fun r₂ z₂ hr₂ => ?_
      · have hneS : ∀ b o, s.heap.get? b = some o → b ≠ s.heap.objs.size := fun b o e z => Nat.lt_irrefl _ (z ▸ Heap.lt_size e)
        have szp : (s.heap.push (freshSet w)).objs.size = s.heap.objs.size + 1 := Heap.size_push ..
        have hu3 : (A.in1.in1.in1).units ≤ A.units + 4 := by have e : (A.in1.in1.in1).units = A.units + 3 := rfl; omega
        rcases hl with hl | hl
        · obtain ⟨ol, hol, hcl, nl, hdl⟩ := hl
          obtain ⟨ocls, odict, odata, oslots⟩ := ol
          simp only at hcl hdl
          subst hcl; subst hdl
          have hol' : (s.heap.push (freshSet w)).get? l = some { cls := .type "list", dict := odict, data := .seq items nl, slots := oslots } := Heap.get?_push_of_some _ hol
          have hsls := F.sub_list_set
          have hslf := F.sub_list_frozenset
          have hne : (Value.type "list" == Value.type "dict") = false := by decide
          have hl1 : (s.heap.push (freshSet w)).IsList l items := ⟨_, hol', rfl, nl, rfl⟩
          unfold Builtin.«set.__init__» noKeywords Builtin.Frozenset.updateFrom
          generalize hPI : pyIter = PI
          wp_walk
          subst hPI

          refine wpAny_pyIter_list hl1 ?_
          refine wpAny_bind (wpAny_runValue ?_)
          have hlS : l < s.heap.objs.size := Heap.lt_size hol
          have hneI : l ≠ (s.heap.push (freshSet w)).objs.size := by
            rw [szp]; exact Nat.ne_of_lt (Nat.lt_succ_of_lt hlS)
          have hSf : s.heap.objs.size ∉ [(s.heap.push (freshSet w)).objs.size, l] := fun z => by
            rw [szp] at z
            rcases List.mem_cons.mp z with z | z
            · exact Nat.ne_of_lt (Nat.lt_succ_self _) z
            · exact Nat.ne_of_gt hlS (List.mem_singleton.mp z)
          refine loopJ (S := s.heap.objs.size) (h0 := s.heap) (J := J) ((Walks.list (show A.in1.in1.in1.handled = none by simp [hh]) _ l hneI items).toS) hSf (gone_of (Nat.le_refl _)) (fun b hb => gone_of (by
              rw [List.mem_singleton.mp hb, szp]
              exact Nat.le_succ _)) kj (fun i v _ hv => step _ hu3 i v hv) (items.size - 0) 0 _ (by omega) (Nat.zero_le _)
            ⟨⟨_, Heap.get?_push_size _ rfl, rfl, rfl⟩, (hl1.push _)⟩ (fun b o e => Heap.get?_push_of_some _ (Heap.get?_push_of_some _ e)) (hJ0 _ (Heap.get?_push_of_some _ hS)) ?_
          intro z' m hJ o'
          have hso : ∃ o, z'.heap.get? s.heap.objs.size = some o := hex _ hJ
          obtain ⟨h', g2, d', tk', os'⟩ := z'
          have eg : g2 = s.gens := m.gens
          have ed : d' = s.drawn := m.drawn
          have eo : os' = s.os := m.os
          subst eg; subst ed; subst eo
          show wpAny _ _ _ _ _ _
          refine wpAny_pure ?_
          show wpAny _ _ (ret Value.none) _ _ _
          exact wpAny_pure ⟨rfl, h', tk', rfl, hJ, o', hso⟩
        · obtain ⟨ol, hol, hcl, nl, hdl⟩ := hl
          obtain ⟨ocls, odict, odata, oslots⟩ := ol
          simp only at hcl hdl
          subst hcl; subst hdl
          have hol' : (s.heap.push (freshSet w)).get? l = some { cls := .type "tuple", dict := odict, data := .seq items nl, slots := oslots } := Heap.get?_push_of_some _ hol
          have hsls := F.sub_tuple_set
          have hslf := F.sub_tuple_frozenset
          have hne : (Value.type "tuple" == Value.type "dict") = false := by decide
          have hl1 : (s.heap.push (freshSet w)).IsTuple l items := ⟨_, hol', rfl, nl, rfl⟩
          unfold Builtin.«set.__init__» noKeywords Builtin.Frozenset.updateFrom
          generalize hPI : pyIter = PI
          wp_walk
          subst hPI

          refine wpAny_pyIter_tuple hl1 ?_
          refine wpAny_bind (wpAny_runValue ?_)
          have hlS : l < s.heap.objs.size := Heap.lt_size hol
          have hneI : l ≠ (s.heap.push (freshSet w)).objs.size := by
            rw [szp]; exact Nat.ne_of_lt (Nat.lt_succ_of_lt hlS)
          have hSf : s.heap.objs.size ∉ [(s.heap.push (freshSet w)).objs.size, l] := fun z => by
            rw [szp] at z
            rcases List.mem_cons.mp z with z | z
            · exact Nat.ne_of_lt (Nat.lt_succ_self _) z
            · exact Nat.ne_of_gt hlS (List.mem_singleton.mp z)
          refine loopJ (S := s.heap.objs.size) (h0 := s.heap) (J := J) ((Walks.tuple (show A.in1.in1.in1.handled = none by simp [hh]) _ l hneI items).toS) hSf (gone_of (Nat.le_refl _)) (fun b hb => gone_of (by
              rw [List.mem_singleton.mp hb, szp]
              exact Nat.le_succ _)) kj (fun i v _ hv => step _ hu3 i v hv) (items.size - 0) 0 _ (by omega) (Nat.zero_le _)
            ⟨⟨_, Heap.get?_push_size _ rfl, rfl, rfl⟩, (hl1.push _)⟩ (fun b o e => Heap.get?_push_of_some _ (Heap.get?_push_of_some _ e)) (hJ0 _ (Heap.get?_push_of_some _ hS)) ?_
          intro z' m hJ o'
          have hso : ∃ o, z'.heap.get? s.heap.objs.size = some o := hex _ hJ
          obtain ⟨h', g2, d', tk', os'⟩ := z'
          have eg : g2 = s.gens := m.gens
          have ed : d' = s.drawn := m.drawn
          have eo : os' = s.os := m.os
          subst eg; subst ed; subst eo
          show wpAny _ _ _ _ _ _
          refine wpAny_pure ?_
          show wpAny _ _ (ret Value.none) _ _ _
          exact wpAny_pure ⟨rfl, h', tk', rfl, hJ, o', hso⟩
      · cases r₂ with
        | error e => exact hr₂
        | ok fl₂ =>
          cases fl₂ with
          | ret r =>
            obtain ⟨rfl, h', tk, rfl, hJ, hk', ho⟩ := hr₂
            repeat (any_goals (first | assumption | wp_step))
            exact h _ _ hJ hk' ho
          | _ => exact hr₂.elim
    | _ => exact hr.elim
end
end MyS

set_option Elab.async false
set_option linter.all false
set_option maxRecDepth 100000
set_option maxHeartbeats 4000000
/-! len(set(xs)) of a list or a tuple of texts: as many as there are different ones. -/
namespace MyS
open PySem PySem.Spec PyProof.Rows L2
theorem nodup_snoc {α : Type} {l : List α} {x : α} : (l ++ [x]).Nodup ↔ l.Nodup ∧ x ∉ l := by
  rw [List.nodup_append]
  constructor
  · rintro ⟨h1, _, h3⟩
    exact ⟨h1, fun h => h3 x h x (List.mem_singleton.mpr rfl) rfl⟩
  · rintro ⟨h1, h2⟩
    refine ⟨h1, by simp, fun a ha b hb e => ?_⟩
    rw [List.mem_singleton.mp hb] at e
    exact h2 (e ▸ ha)
/-- how many different ones the first i items are: n, whole exactly if they all differ -/
structure Cnt {α : Type} (l : List α) (n : Nat) : Prop where
  le : n ≤ l.length
  eq : n = l.length ↔ l.Nodup
theorem Cnt.nil {α : Type} : Cnt ([] : List α) 0 := ⟨Nat.le_refl _, ⟨fun _ => List.nodup_nil, fun _ => rfl⟩⟩
theorem Cnt.old {α : Type} {l : List α} {n : Nat} {x : α} (c : Cnt l n) (h : x ∈ l) : Cnt (l ++ [x]) n := by
  have h1 := c.le
  refine ⟨by rw [List.length_append]; exact Nat.le_succ_of_le h1, ?_⟩
  rw [List.length_append, List.length_singleton]
  exact ⟨fun e => absurd e (by omega), fun e => absurd h (nodup_snoc.mp e).2⟩
theorem Cnt.new {α : Type} {l : List α} {n : Nat} {x : α} (c : Cnt l n) (h : x ∉ l) : Cnt (l ++ [x]) (n + 1) := by
  have h1 := c.le
  refine ⟨by rw [List.length_append, List.length_singleton]; omega, ?_⟩
  rw [List.length_append, List.length_singleton, nodup_snoc, ← c.eq]
  constructor
  · intro e; exact ⟨by omega, h⟩
  · rintro ⟨e, _⟩; omega
section
variable {P : Program} {w : World} {A : Around} {E : Value → Shared → Prop} {s : Shared}
/-- the set at S behind the first i texts -/
def JT (P : Program) (w : World) (S : Addr) (xs : List Str) (i : Nat) (h : Heap) : Prop := ∃ n M, h.SetOf (PySem.strKind P w) S M n ∧ (∀ k, M k = true ↔ k ∈ xs.take i) ∧ Cnt (xs.take i) n
theorem take_snoc {α : Type} {l : List α} {i : Nat} {x : α} (h : l[i]? = some x) : l.take (i + 1) = l.take i ++ [x] := by rw [List.take_succ, h]; rfl
theorem JT.adds {S : Addr} {xs : List Str} {h0 : Heap} {i : Nat} {x : Str} {t : Tok} (hx : xs[i]? = some x) (hb : xs.length + 1 < scanBound) : Adds P w A S h0 (JT P w S xs) i (.str x t) := by
  intro z Q E hJ hk hQ
  obtain ⟨n, M, hS, hM, hc⟩ := hJ
  have hi : i < xs.length := (List.getElem?_eq_some_iff.mp hx).1
  have hn := hc.le
  rw [List.length_take] at hn
  unfold setAdd
  refine wpAny_holding ?_
  refine wpAny_bind ((PySem.strKind P w).pyHash (k := x) (strKind_is _ _ _ _) ?_)
  refine wpAny_setAddHashed_of (knd := PySem.strKind P w) (s := { z with toks := z.toks + 1 }) (strKind_is _ _ _ _) rfl hS (by omega) fun h' sb hS2 => ?_
  refine hQ _ h' _ (Nat.le_succ _) sb ⟨_, _, hS2, fun k => ?_, ?_⟩
  · rw [take_snoc hx, Bool.or_eq_true, hM k, decide_eq_true_eq, List.mem_append, List.mem_singleton]
  · rw [take_snoc hx]
    by_cases q : M x = true
    · rw [if_pos q]
      exact hc.old ((hM x).mp q)
    · rw [if_neg q]
      exact hc.new fun m => q ((hM x).mpr m)
theorem JT.keeps {S : Addr} {xs : List Str} {h0 : Heap} : KeepsJ S h0 (JT P w S xs) := by
  rintro i h h' ⟨n, M, ⟨o, es, ep, t, ho, r⟩, hM, hc⟩ k1 _
  exact ⟨n, M, ⟨o, es, ep, t, k1 o ho, r⟩, hM, hc⟩
theorem JT.zero {S : Addr} {xs : List Str} {h : Heap} (ho : h.get? S = some (freshSet w)) : JT P w S xs 0 h := by
  refine ⟨0, fun _ => false, ⟨_, #[], 0, _, ho, ⟨rfl, rfl, rfl⟩, rfl, (fun e he => by simp at he), (fun k => by simp), by decide, rfl, rfl⟩, fun k => by simp, Cnt.nil⟩
end
section
variable {X : Cx}
/-- len(set(xs)) -/
def tLenSetS (K : PySem.W.Frag) (ta : TE) : TE := fun σ H Q => ta σ H fun x H1 => ∃ (l : Addr) (xs : List Str), x = .ref l ∧ (SqL K H1 l (xs.map V.str) ∨ SqT K H1 l (xs.map V.str)) ∧ xs.length ≤ 4000 ∧ ∀ n, Cnt xs n → Q (.int (n : Nat)) H1
theorem strs_get {ys : List Str} {us : List Value} (r : Vals (ys.map V.str) us) {i : Nat} {v : Value} (h : us[i]? = some v) : ∃ x t, ys[i]? = some x ∧ v = .str x t := by
  have hl : i < ys.length := by
    have q := (List.getElem?_eq_some_iff.mp h).1
    have e := r.length
    rw [List.length_map] at e
    omega
  obtain ⟨u, e1, e2⟩ := Vals.get r (i := i) (x := V.str ys[i]) (by rw [List.getElem?_map, List.getElem?_eq_getElem hl]; rfl)
  rw [h] at e1
  cases e1
  obtain ⟨t, e⟩ := e2
  exact ⟨ys[i], t, List.getElem?_eq_getElem hl, e⟩
theorem pe_lenSetS {a : Expr} {ta : TE} {p p2 q pos : Pos} (hc : X.calm = true) (hm : X.mg "len" = none) (hm2 : X.mg "set" = none) (ha : PE X a ta) (hg : Gl X "len" := by rfl) (hg2 : Gl X "set" := by rfl)
    (na : starEach [a] X.env = (false, eval a X.env) :: starEach [] X.env := by rfl) : PE X (.Call (.Name "len" p) [.Call (.Name "set" p2) [a] [] q] [] pos) (tLenSetS X.K ta) := by
  refine ⟨fun pins s σ H Q I h => ?_⟩
  refine Call_ (ld_blt I hg hm boot_len ?_)
  refine PyProof.Rows.callWith_builtin1 (PyProof.Rows.args_cons ?_ rfl) rfl rfl
  refine Call_ (ld_blt I hg2 hm2 boot_set ?_)
  refine PyProof.Rows.callWith_type1 (PyProof.Rows.args_cons (thn (ha.run pins s σ H _ I h) fun v s1 ⟨x, H1, I1, r1, q1⟩ => PyProof.Rows.args_nil ?_) na) na rfl
  obtain ⟨l, xs, rfl, hq, h1, q1⟩ := q1
  cases r1
  have go : ∀ (its : List Value), Vals (xs.map V.str) its → (s1.heap.IsList l its.toArray ∨ s1.heap.IsTuple l its.toArray) → wpAny (model X.prog X.w) X.A (call (.type "set") [.ref l])
      (fun v s₂ => wpAny (model X.prog X.w) X.A (spliced (backTo pos (starEach [] X.env))) (fun vs s₃ => wpAny (model X.prog X.w) X.A (call (.builtin "len") (v :: vs)) (EP X pins σ Q) X.xe s₃) X.xe s₂) X.xe s1 := fun its r hl => by
    have hsz : its.toArray.size = xs.length := by rw [List.size_toArray, ← r.length, List.length_map]
    have hbd : xs.length + 1 < scanBound := by unfold scanBound; omega
    refine call_setJ (J := JT X.prog X.w s1.heap.objs.size xs) (I1.ok.hd hc) hl (fun h ho => JT.zero ho) JT.keeps (fun h hJ => ?_) (fun A' _ i v hv => ?_) fun h' tk hJ hk _ => ?_
    · obtain ⟨n, M, ⟨o, es, ep, t, ho, _⟩, _⟩ := hJ
      exact ⟨o, ho⟩
    · obtain ⟨x, t, hx, rfl⟩ := strs_get r (i := i) (v := v) (by simpa using hv)
      exact JT.adds hx hbd
    · rw [hsz] at hJ
      obtain ⟨n, M, ⟨o, es, ep, t, ho, hex, hd, _, _, _, hf, hn⟩, hM, hcn⟩ := hJ
      rw [List.take_length] at hcn
      have I2 : Inv X pins σ H1 { s1 with heap := h', toks := tk } := I1.kept fun b o e => hk b o e
      refine PyProof.Rows.args_nil ?_
      have hle := hcn.le
      refine call_len_set ho hex hd hf (by rw [hn]; omega) ⟨.int (n : Nat), H1, I2.tok _, ⟨_, by rw [hn]⟩, q1 n hcn⟩
  rcases hq with hq | hq
  · obtain ⟨its, r, pl, hz⟩ := I1.list hq
    exact go its r (.inl pl.isList)
  · obtain ⟨its, r, pl, hz⟩ := I1.tuple hq
    exact go its r (.inr (by first | exact pl | exact pl.isTuple))
end
end MyS

set_option Elab.async false
set_option linter.all false
set_option maxRecDepth 100000
set_option maxHeartbeats 4000000
/-! len(set(xs)) of a list of tuples of texts, fewer than 64: over the library's table of a set (TabOk, go_spec, relaid_ok). -/
namespace MyS
open PySem PySem.Spec PyProof.Rows L2
section
variable {P : Program} {w : World} {A : Around} {E : Value → Shared → Prop} {s : Shared}
/-- the tuple at b has the texts k; its hash -/
abbrev IsP (P : Program) (w : World) (h : Heap) (k : List Str) (b : Addr) : Prop := IsTupleKey (PySem.strKind P w) h k b
abbrev hashP (P : Program) (w : World) (k : List Str) : Int := tupleKeyHash (PySem.strKind P w) k
theorem IsP.keep {h h' : Heap} {k : List Str} {b : Addr} (x : IsP P w h k b) (hk : ∀ o, h.get? b = some o → h'.get? b = some o) : IsP P w h' k b :=
  let ⟨o, items, n, ho, r⟩ := x; ⟨o, items, n, hk o ho, r⟩
theorem strs_of {k : List Str} {vs : List Value} (h : ItemsAre (PySem.strKind P w) k vs) : ∀ v ∈ vs, ∃ x t, v = Value.str x t := by
  induction h with
  | nil => intro v hv; cases hv
  | @cons k0 v' ks vs h1 _ ih =>
    intro v hv
    rcases List.mem_cons.mp hv with e | hv
    · obtain ⟨t, e2⟩ := Value.isStrOf_shape h1
      exact ⟨k0, t, e.trans e2⟩
    · exact ih v hv
/-- a text is of no class statement -/
theorem noClass_str (n : Nat) (x : Str) (t : Tok) : ofAClassStatement n (.str x t) = pure false := by cases n <;> rfl
theorem hashBy_str (n : Nat) (x : Str) (t : Tok) : hashByValue n (.str x t) = pure false := by cases n <;> rfl
theorem noClass {k : List Str} {b : Addr} {Q : Bool → Shared → Prop} (hk : IsP P w s.heap k b) (h : Q false s) : wpAny (model P w) A (ofAClassStatement 8 (.ref b)) Q E s := by
  have hT := hk.typeIs
  obtain ⟨o, items, n, ho, _, hd, hi⟩ := hk
  unfold ofAClassStatement
  refine wpAny_bind (wpAny_typeOf hT ?_)
  have e : (("tuple" : String) == "tuple") = true := by decide
  simp only [e, if_true, Bool.not_true, Bool.false_eq_true, if_false]
  try refine wpAny_bind (wpAny_pure ?_)
  try simp only [Bool.not_true, Bool.false_eq_true, if_false]
  show wpAny _ _ (seqItems? (.ref b) >>= _) _ _ s
  refine wpAny_bind (wpAny_seqItems ho hd ?_)
  refine wpAny_bind ?_
  show wpAny _ _ (forIn items _ _) _ _ s
  rw [← Array.forIn_toList]
  refine wpAny_forIn_list _ (fun rest r z => r.1 = none ∧ z = s ∧ ∀ v ∈ rest, ∃ x t, v = Value.str x t) _ ?_ ?_ _ _ ⟨rfl, rfl, strs_of hi⟩
  · rintro v rest r z ⟨hr, rfl, hall⟩
    obtain ⟨x, t, rfl⟩ := hall v List.mem_cons_self
    rw [noClass_str]
    refine wpAny_bind (wpAny_pure ?_)
    simp only [Bool.false_eq_true, if_false]
    exact wpAny_pure ⟨rfl, rfl, fun u hu => hall u (List.mem_cons_of_mem _ hu)⟩
  · rintro ⟨r1, r2⟩ z ⟨hr, rfl, _⟩
    simp only at hr
    subst hr
    exact wpAny_pure h
/-- whether the hash is by value: either answer will do -/
theorem hashBy {k : List Str} {b : Addr} {Q : Bool → Shared → Prop} (hk : IsP P w s.heap k b) (h : ∀ r, Q r s) : wpAny (model P w) A (hashByValue 8 (.ref b)) Q E s := by
  have hT := hk.typeIs
  obtain ⟨o, items, n, ho, _, hd, hi⟩ := hk
  unfold hashByValue
  refine wpAny_bind (wpAny_specialOf hT F.slot_tuple_hash.lookup ?_)
  show wpAny _ _ (seqItems? (.ref b) >>= _) _ _ s
  refine wpAny_bind (wpAny_seqItems ho hd ?_)
  refine wpAny_bind ?_
  show wpAny _ _ (forIn items _ _) _ _ s
  rw [← Array.forIn_toList]
  refine wpAny_forIn_list _ (fun rest r z => r.1 = none ∧ z = s ∧ ∀ v ∈ rest, ∃ x t, v = Value.str x t) _ ?_ ?_ _ _ ⟨rfl, rfl, strs_of hi⟩
  · rintro v rest r z ⟨hr, rfl, hall⟩
    obtain ⟨x, t, rfl⟩ := hall v List.mem_cons_self
    rw [hashBy_str]
    refine wpAny_bind (wpAny_pure ?_)
    simp only [Bool.not_false, if_true]
    exact wpAny_pure (wpAny_pure (h _))
  · rintro ⟨r1, r2⟩ z ⟨hr, rfl, _⟩
    simp only at hr
    subst hr
    exact wpAny_pure (h _)
/-- a search among such tuples shows nothing -/
theorem unseen {k : List Str} {b : Addr} {Q : Bool → Shared → Prop} (hk : IsP P w s.heap k b) {ys : List Value} (hy : ∀ y ∈ ys, ∃ k' c, y = Value.ref c ∧ IsP P w s.heap k' c) (h : Q false s) :
    wpAny (model P w) A (searchCouldBeSeen (.ref b) ys) Q E s := by
  unfold searchCouldBeSeen
  refine wpAny_bind ?_
  refine wpAny_forIn_list _ (fun rest r z => r.1 = none ∧ z = s ∧ ∀ y ∈ rest, ∃ k' c, y = Value.ref c ∧ IsP P w s.heap k' c) _ ?_ ?_ _ _ ⟨rfl, rfl, hy⟩
  · rintro v rest r z ⟨hr, rfl, hall⟩
    obtain ⟨k', c, rfl, hc⟩ := hall v List.mem_cons_self
    have more : ∀ y ∈ rest, ∃ k' c, y = Value.ref c ∧ IsP P w z.heap k' c := fun u hu => hall u (List.mem_cons_of_mem _ hu)
    by_cases hv : (b == c || (carriedByValue (.ref b) && carriedByValue (.ref c))) = true
    · refine wp_if_pos hv ?_
      exact wpAny_pure ⟨rfl, rfl, more⟩
    · refine wp_if_neg hv ?_
      refine wpAny_bind (wpAny_eqIsQuiet_tuple hk ?_)
      simp only [Bool.not_true, Bool.false_eq_true, if_false]
      refine wpAny_bind (wpAny_eqIsQuiet_tuple hc ?_)
      simp only [Bool.not_true, Bool.false_eq_true, if_false]
      refine wpAny_bind (noClass hk ?_)
      simp only [Bool.false_eq_true, if_false]
      refine wpAny_bind (noClass hc ?_)
      simp only [Bool.false_eq_true, if_false]
      exact wpAny_pure ⟨rfl, rfl, more⟩
  · rintro ⟨r1, r2⟩ z ⟨hr, rfl, _⟩
    simp only at hr
    subst hr
    exact wpAny_pure h

/-! ### the set at a, its tuples in the table's order -/
def rowP (P : Program) (w : World) (p : Addr × List Str) : Int × Value := (hashP P w p.2, .ref p.1)
structure PSet (P : Program) (w : World) (h : Heap) (a : Addr) (L : List (Addr × List Str)) (es : Array (Int × Value)) (ep : Nat) (t : SetTable) : Prop where
  ob : ∃ o, h.get? a = some o ∧ o.ExactSet ∧ o.data = .set es ep t
  rows : es.toList = L.map (rowP P w)
  tab : TabOk t (L.map fun p => hashP P w p.2)
  nd : (L.map (·.2)).Nodup
  tup : ∀ p ∈ L, IsP P w h p.2 p.1
  room : L.length * 5 < t.mask * 3
  few : L.length < 64
variable {a : Addr} {L : List (Addr × List Str)} {es : Array (Int × Value)} {ep : Nat} {t : SetTable}
theorem PSet.size (R : PSet P w s.heap a L es ep t) : es.size = L.length := by
  have h := congrArg List.length R.rows
  rwa [Array.length_toList, List.length_map] at h
theorem PSet.fits (R : PSet P w s.heap a L es ep t) : t.fits es.size = true := by
  have h1 := R.tab.sz
  rw [List.length_map] at h1
  have h2 := R.size
  have h3 := R.room
  unfold SetTable.fits SetTable.fill
  rw [R.tab.dm, Bool.and_eq_true, beq_iff_eq, decide_eq_true_eq]
  show t.place.size = es.size ∧ t.place.size + 0 ≤ t.mask
  omega
theorem PSet.entry (R : PSet P w s.heap a L es ep t) {i : Nat} {p : Addr × List Str} (h : L[i]? = some p) : es[i]? = some (rowP P w p) := by
  rw [← Array.getElem?_toList, R.rows, List.getElem?_map, h]
  rfl
/-- the way of the hash g through the table: the probe behind k steps -/
abbrev stepP (m : Nat) (g : Int) (k : Nat) : SetTable.Probe := nth m (runAt m (SetTable.bits g % (m + 1)) (SetTable.bits g)) k
theorem stepP_add (m : Nat) (g : Int) (c q : Nat) : nth m (stepP m g c) q = stepP m g (c + q) := (nth_add m c _ q).symm
theorem stepP_clean (m : Nat) (g : Int) (c : Nat) : (stepP m g c).dummy = none := by
  have key : ∀ (n : Nat) (p : SetTable.Probe), p.dummy = none → (nth m p n).dummy = none := by
    intro n
    induction n with
    | zero => intro p h; exact h
    | succ n ih =>
      intro p h
      refine ih (adv m p) ?_
      unfold adv
      split <;> exact h
  exact key c _ rfl
/-- what is asked of the search for k among L: found, or the first free slot of the way -/
structure Seek (P : Program) (w : World) (t : SetTable) (L : List (Addr × List Str)) (k : List Str) (K : Nat) (Q : SetFound → Shared → Prop) (z : Shared) : Prop where
  few : K < 10 * SetTable.turns t.mask
  free : way t.mask (hashP P w k) K ∉ t.place.toList
  full : ∀ c, c < K → way t.mask (hashP P w k) c ∈ t.place.toList
  hit : k ∈ L.map (·.2) → Q (.there none) z
  miss : k ∉ L.map (·.2) → Q (.free (way t.mask (hashP P w k) K) false) z
theorem seek {x : Addr} {k : List Str} {K : Nat} {Q : SetFound → Shared → Prop} (R : PSet P w s.heap a L es ep t) (hx : IsP P w s.heap k x) (hu : A.units < cLine) (B : Seek P w t L k K Q s) :
    ∀ (f c : Nat) (stand : Option SetTable.Probe), stand.getD (t.probeStart (hashP P w k)) = stepP t.mask (hashP P w k) c → c ≤ K → K - c < f →
      (∀ (i : Nat) p, L[i]? = some p → p.2 = k → ∃ c', c ≤ c' ∧ c' < K ∧ t.place.toList[i]? = some (way t.mask (hashP P w k) c')) →
      wpAny (model P w) A (setSearchFrom a (.ref x) (hashP P w k) true f stand) Q E s
  | 0, c, stand, _, _, hf, _ => absurd hf (Nat.not_lt_zero _)
  | f + 1, c, stand, hst, hc, hf, hre => by
    obtain ⟨o, ho, hex, hd⟩ := R.ob
    rw [setSearchFrom_succ]
    refine wpAny_bind (wpAny_setState_of ho hd R.fits ?_)
    dsimp only
    refine wp_if_neg (by unfold SetTable.gaveWay; rw [mask_odd R.tab.mok]; decide) ?_
    try refine wpAny_bind (wpAny_pure ?_)
    have at_ : ∀ q, (nth t.mask (stepP t.mask (hashP P w k) c) q).j = way t.mask (hashP P w k) (c + q) := fun q => congrArg SetTable.Probe.j (stepP_add _ _ _ _)
    have hashAt : ∀ (i : Nat) p, L[i]? = some p → (fun i => (es[i]?.map (·.1)).getD 0) i = hashP P w p.2 := fun i p hp => by
      show (es[i]?.map (·.1)).getD 0 = _
      rw [R.entry hp]
      rfl
    rcases go_spec t R.tab.ris R.tab.dm (fun i => (es[i]?.map (·.1)).getD 0) (hashP P w k) (10 * SetTable.turns t.mask) (K - c) _ (stepP_clean t.mask (hashP P w k) c) (by have := B.few; omega)
      (fun q hq => by rw [at_]; exact B.full (c + q) (by omega)) (by rw [at_, show c + (K - c) = K by omega]; exact B.free) with ⟨q, i, hq, hi, hh, hno, hpr⟩ | ⟨hno, hpr⟩
    · -- a candidate: the entry i at the slot of the step c + q
      have hpr' : t.probe (fun i => (es[i]?.map (·.1)).getD 0) (hashP P w k) (stand.getD (t.probeStart (hashP P w k))) = some (.candidate (way t.mask (hashP P w k) (c + q)) i (stepP t.mask (hashP P w k) (c + (q + 1)))) := by
        rw [hst, ← at_, ← stepP_add]
        exact hpr
      rw [hpr']
      dsimp only
      rw [at_] at hi
      have hil : i < L.length := by
        have h1 : i < t.place.toList.length := (List.getElem?_eq_some_iff.mp hi).1
        have h2 := R.tab.sz
        rw [List.length_map] at h2
        rw [Array.length_toList] at h1
        omega
      obtain ⟨p, hp⟩ : ∃ p, L[i]? = some p := ⟨_, List.getElem?_eq_getElem hil⟩
      have pm : p ∈ L := List.mem_of_getElem? hp
      have rest : wpAny (model P w) A (searchRest a (.ref x) (hashP P w k) true f es t (way t.mask (hashP P w k) (c + q)) i (stepP t.mask (hashP P w k) (c + (q + 1)))) Q E s := by
        unfold searchRest
        rw [R.entry hp]
        dsimp only [rowP]
        refine wpAny_bind (wpAny_holding (wpAny_eqBool_tuple hu (R.tup p pm) hx ?_))
        refine wpAny_bind (wpAny_setState_of ho hd R.fits ?_)
        dsimp only
        by_cases hkk : p.2 = k
        · refine wp_if_pos (by simp [hkk]) ?_
          exact wpAny_pure (B.hit (List.mem_map.mpr ⟨p, pm, hkk⟩))
        · refine wp_if_neg (by simp [hkk]) ?_
          try refine wpAny_bind (wpAny_pure ?_)
          rw [sameMem]
          dsimp only
          have hsl : t.slot (way t.mask (hashP P w k) (c + q)) = .live i := slot_live R.tab.ris hi
          simp only [if_true, hsl, R.entry hp, rowP]
          refine wpAny_bind (wpAny_isSame_ref_self (wpAny_bind (wpAny_pure ?_)))
          simp only [if_true]
          refine wp_if_neg (by simp [hkk]) ?_
          refine seek R hx hu B f (c + (q + 1)) _ rfl (by omega) (by omega) fun i0 p0 h0 hk0 => ?_
          obtain ⟨c', a1, a2, a3⟩ := hre i0 p0 h0 hk0
          refine ⟨c', ?_, a2, a3⟩
          -- what has k is not behind us
          rcases Nat.lt_trichotomy c' (c + q) with y | y | y
          · exact absurd ((hashAt i0 p0 h0).trans (congrArg (hashP P w) hk0)) (hno (c' - c) i0 (by omega) (by rw [at_, show c + (c' - c) = c' by omega]; exact a3))
          · rw [y] at a3
            have s0 := (slot_live R.tab.ris a3).symm.trans hsl
            injection s0 with s0
            rw [s0, hp] at h0
            cases h0
            exact absurd hk0 hkk
          · omega
      by_cases hl : t.led = true
      · refine wp_if_neg (by simp [hl]) ?_
        try refine wpAny_bind (wpAny_pure ?_)
        exact rest
      · refine wp_if_pos (by simp [hl]) ?_
        refine wpAny_bind (unseen hx (fun y hy => ?_) ?_)
        · obtain ⟨e, he, ee⟩ := List.mem_map.mp hy
          have he1 : e ∈ es ∧ e.1 = hashP P w k := by simpa using he
          have he2 : e ∈ es.toList := by simpa using he1.1
          rw [R.rows] at he2
          obtain ⟨p2, hp2, e2⟩ := List.mem_map.mp he2
          exact ⟨p2.2, p2.1, by rw [← ee, ← e2]; rfl, R.tup p2 hp2⟩
        · refine wp_if_neg (by decide) ?_
          try refine wpAny_bind (wpAny_pure ?_)
          exact rest
    · -- the way's first free slot
      have hpr' : t.probe (fun i => (es[i]?.map (·.1)).getD 0) (hashP P w k) (stand.getD (t.probeStart (hashP P w k))) = some (.empty (way t.mask (hashP P w k) K) none) := by
        have e2 : way t.mask (hashP P w k) K = (nth t.mask (stepP t.mask (hashP P w k) c) (K - c)).j := by rw [at_, show c + (K - c) = K by omega]
        rw [hst, e2]
        exact hpr
      rw [hpr']
      dsimp only
      refine wpAny_pure (B.miss fun hm => ?_)
      obtain ⟨p0, h0, hk0⟩ := List.mem_map.mp hm
      obtain ⟨i0, hi0, e0⟩ := List.getElem_of_mem h0
      have h00 : L[i0]? = some p0 := by rw [List.getElem?_eq_getElem hi0, e0]
      obtain ⟨c', a1, a2, a3⟩ := hre i0 p0 h00 hk0
      exact hno (c' - c) i0 (by omega) (by rw [at_, show c + (c' - c) = c' by omega]; exact a3) ((hashAt i0 p0 h00).trans (congrArg (hashP P w) hk0))
/-- the search as adding asks for it -/
theorem seek_all {x : Addr} {k : List Str} {Q : SetFound → Shared → Prop} (R : PSet P w s.heap a L es ep t) (hx : IsP P w s.heap k x) (hu : A.units < cLine) (hit : k ∈ L.map (·.2) → Q (.there none) s)
    (miss : ∀ K, k ∉ L.map (·.2) → way t.mask (hashP P w k) K ∉ t.place.toList → (∀ c, c < K → way t.mask (hashP P w k) c ∈ t.place.toList) → Q (.free (way t.mask (hashP P w k) K) false) s) :
    wpAny (model P w) A (setSearch a (.ref x) (hashP P w k) true) Q E s := by
  have hroom := R.room
  obtain ⟨K, f1, f2, f3⟩ := R.tab.first (by rw [List.length_map]; omega) (hashP P w k)
  have big : K < 100000 := by
    have : 10 * SetTable.turns t.mask ≤ 1420 := by
      unfold SetTable.turns
      rcases R.tab.mok with e | e | e <;> omega
    omega
  unfold setSearch
  refine seek R hx hu ⟨f1, f2, f3, hit, fun hn => miss K hn f2 f3⟩ 100000 0 none rfl (Nat.zero_le _) (by omega) fun i p hp hk => ?_
  have hi : (L.map fun p => hashP P w p.2)[i]? = some (hashP P w k) := by rw [List.getElem?_map, hp, ← hk]; rfl
  have hil : i < t.place.toList.length := by
    have h1 : i < L.length := (List.getElem?_eq_some_iff.mp hp).1
    have h2 := R.tab.sz
    rw [List.length_map] at h2
    rw [Array.length_toList]
    omega
  obtain ⟨c, hc, e⟩ := R.tab.before f2 hi (List.getElem?_eq_getElem hil)
  exact ⟨c, Nat.zero_le _, hc, by rw [List.getElem?_eq_getElem hil, e]⟩
/-- the entries in another order -/
theorem reorder {α : Type} (row : α → Int × Value) (L : List α) (es : Array (Int × Value)) (order : Array Nat) (hr : es.toList = L.map row) (hp : order.toList.Perm (List.range L.length)) :
    ∃ L2 : List α, (order.filterMap (es[·]?)).toList = L2.map row ∧ L2.Perm L ∧ (L2.map fun p => (row p).1) = order.toList.map fun i => (es.map (·.1)).getD i 0 := by
  have at_ : ∀ i, es[i]? = (L[i]?).map row := fun i => by rw [← Array.getElem?_toList, hr, List.getElem?_map]
  have all : (List.range L.length).filterMap (fun i => L[i]?) = L := by
    have key : ∀ n, n ≤ L.length → (List.range n).filterMap (fun i => L[i]?) = L.take n := by
      intro n
      induction n with
      | zero => intro _; rfl
      | succ n ih =>
        intro hn
        have hlt : n < L.length := hn
        rw [List.range_succ, List.filterMap_append, ih (Nat.le_of_lt hlt), List.take_succ, List.getElem?_eq_getElem hlt]
        simp [List.getElem?_eq_getElem hlt]
    rw [key L.length (Nat.le_refl _), List.take_length]
  refine ⟨order.toList.filterMap (fun i => L[i]?), ?_, ?_, ?_⟩
  · rw [Array.toList_filterMap, List.map_filterMap]
    congr 1
    funext i
    exact at_ i
  · have h := hp.filterMap (fun i => L[i]?)
    rwa [all] at h
  · have hlt : ∀ i ∈ order.toList, i < L.length := fun i hi => List.mem_range.mp (hp.mem_iff.mp hi)
    generalize order.toList = l at hlt
    induction l with
    | nil => rfl
    | cons i l ih =>
      have hi := hlt i List.mem_cons_self
      rw [List.filterMap_cons_some (List.getElem?_eq_getElem hi), List.map_cons, List.map_cons, ih fun j hj => hlt j (List.mem_cons_of_mem _ hj)]
      have e5 : (es.map (·.1))[i]? = some (row L[i]).1 := by rw [Array.getElem?_map, at_, List.getElem?_eq_getElem hi]; rfl
      simp [Array.getD_eq_getD_getElem?, e5]
end
end MyS

set_option Elab.async false
set_option linter.all false
set_option maxRecDepth 100000
set_option maxHeartbeats 4000000
/-! A tuple of texts is added to a set; len(set(xs)) of a list of such. -/
namespace MyS
open PySem PySem.Spec PyProof.Rows L2
section
variable {P : Program} {w : World} {A : Around} {E : Value → Shared → Prop} {s : Shared}
variable {a : Addr} {L : List (Addr × List Str)} {es : Array (Int × Value)} {ep : Nat} {t : SetTable}
theorem IsP.other {h h' : Heap} {k : List Str} {a b : Addr} {o : Obj} {es : Array (Int × Value)} {ep : Nat} {t : SetTable} (hb : IsP P w h k b) (ho : h.get? a = some o) (hd : o.data = .set es ep t) (hs : Heap.SameBut a h h') : IsP P w h' k b := by
  obtain ⟨o', items, n, ho', r⟩ := hb
  have hne : b ≠ a := fun z => by
    rw [z, ho] at ho'
    cases ho'
    rw [hd] at r
    exact nomatch r.2.1
  exact ⟨o', items, n, (hs.2 b hne).trans ho', r⟩
/-- TabOk looks at the places, the dummies and the mask alone -/
theorem tabOk_congr {t u : SetTable} {hs : List Int} (T : TabOk t hs) (e1 : u.place = t.place) (e2 : u.dummies = t.dummies) (e3 : u.mask = t.mask) : TabOk u hs := by
  obtain ⟨h1, h2, h3, h4, h5, h6⟩ := T
  constructor
  · rw [e1]; exact h1
  · rw [e2]; exact h2
  · rw [e1]; exact h3
  · rw [e3]; exact h4
  · intro x hx; rw [e3]; rw [e1] at hx; exact h5 x hx
  · intro i g j hi hj
    rw [e1] at hj
    obtain ⟨k, c1, c2⟩ := h6 i g j hi hj
    exact ⟨k, by rw [e3]; exact c1, fun k' hk' => by rw [e3, e1]; exact c2 k' hk'⟩
/-- the table laid anew, larger -/
theorem relayP {o : Obj} (ho : s.heap.get? a = some o) (hex : o.ExactSet) (hd : o.data = .set es ep t) (rows : es.toList = L.map (rowP P w)) (T : TabOk t (L.map fun p => hashP P w p.2)) (hfl : L.length ≤ t.mask)
    (nd : (L.map (·.2)).Nodup) (tup : ∀ p ∈ L, IsP P w s.heap p.2 p.1) (few : L.length < 64) {wanted M : Nat}
    (hw : SetTable.sizeAbove wanted - 1 = M) (hM : MaskOk M) (hw2 : SetTable.sizeAbove wanted ≤ 128) (hn : L.length * 5 < M * 3) {Q : Unit → Shared → Prop}
    (hQ : ∀ h' L' es' ep' t', Heap.SameBut a s.heap h' → PSet P w h' a L' es' ep' t' → L'.Perm L → Q () { s with heap := h' }) : wpAny (model P w) A (setRelay a wanted) Q E s := by
  have hsl : es.size = L.length := by
    have h := congrArg List.length rows
    rwa [Array.length_toList, List.length_map] at h
  have hsz := T.sz
  rw [List.length_map] at hsz
  have hfits : t.fits es.size = true := by
    unfold SetTable.fits SetTable.fill
    rw [T.dm, Bool.and_eq_true, beq_iff_eq, decide_eq_true_eq]
    show t.place.size = es.size ∧ t.place.size + 0 ≤ t.mask
    omega
  obtain ⟨t', order, e, hp, T', em, el, epl, ed⟩ := relaid_ok t (hs := es.map (·.1)) (wanted := wanted) hw hM (by rw [Array.size_map, hsl]; omega)
  rw [Array.size_map, hsl] at hp
  obtain ⟨L2, r1, r2, r3⟩ := reorder (rowP P w) L es order rows hp
  rw [← r3] at T'
  have hs2 : (order.filterMap (es[·]?)).size = es.size := by
    have h := congrArg List.length r1
    rw [Array.length_toList, List.length_map, r2.length_eq] at h
    rw [h, hsl]
  rw [setRelay_eq]
  refine wpAny_bind (wpAny_setState_of ho hd hfits ?_)
  dsimp only
  refine wp_if_neg (by rw [sizeLine_eq]; omega) ?_
  try refine wpAny_bind (wpAny_pure ?_)
  rw [e]
  dsimp only
  refine wpAny_bind ?_
  refine wp_if_neg (by rw [hs2]; simp) ?_
  try refine wpAny_bind (wpAny_pure ?_)
  refine wpAny_pure ?_
  dsimp only
  refine wpAny_storeSet_of ho hd ?_ (by rw [hs2, hsl, sizeLine_eq]; omega)
  have sb : Heap.SameBut a s.heap (s.heap.update a (Obj.putSet (order.filterMap (es[·]?)) t')) := Heap.SameBut.update ..
  refine hQ _ L2 (order.filterMap (es[·]?)) (ep + 1) t' sb ⟨⟨_, store_at ho hd, ⟨hex.1, hex.2.1, hex.2.2⟩, rfl⟩, r1, T', (r2.map (·.2)).nodup_iff.mpr nd, fun p hpm => (tup p (r2.mem_iff.mp hpm)).other ho hd sb, ?_, by rw [r2.length_eq]; exact few⟩ r2
  rw [r2.length_eq, em]
  exact hn
theorem put_perm' {α : Type} (L : List α) (p : Nat) (x : α) : (L.take p ++ x :: L.drop p).Perm (x :: L) := L2.put_perm L p x
/-- the tail of an adding: the new tuple is laid down, and the table grows where it is too full -/
theorem tailP {o : Obj} (ho : s.heap.get? a = some o) (hex : o.ExactSet) (hd : o.data = .set es ep t) {L1 : List (Addr × List Str)} {es1 : Array (Int × Value)} {u : SetTable} (hsl : es.size = L.length) (hmok : MaskOk t.mask) (hroom : L.length * 5 < t.mask * 3)
    (hin : es1.toList = L1.map (rowP P w)) (T : TabOk u (L1.map fun p => hashP P w p.2)) (hmask : u.mask = t.mask) (hps : u.place.size = L.length + 1) (hlen : L1.length = L.length + 1) (nd1 : (L1.map (·.2)).Nodup) (tup1 : ∀ h', Heap.SameBut a s.heap h' → ∀ p ∈ L1, IsP P w h' p.2 p.1) (hfew : L.length + 1 < 64) {Q : Bool → Shared → Prop}
    (hQ : ∀ h' L' es' ep' t', Heap.SameBut a s.heap h' → PSet P w h' a L' es' ep' t' → L'.Perm L1 → Q true { s with heap := h' }) :
    wpAny (model P w) A (do
      storeSet a es1 u
      if !false && u.tooFull then setRelay a (SetTable.grown (es.size + 1))
      return true) Q E s := by
  have hes : es1.size = L.length + 1 := by
    have h := congrArg List.length hin
    rw [Array.length_toList, List.length_map, hlen] at h
    exact h
  refine wpAny_bind (wpAny_storeSet_of ho hd ?_ (by rw [hes, sizeLine_eq]; omega))
  have sb : Heap.SameBut a s.heap (s.heap.update a (Obj.putSet es1 u)) := Heap.SameBut.update ..
  have ho1 := store_at (es' := es1) (t' := u) ho hd
  have tup2 := tup1 _ sb
  generalize s.heap.update a (Obj.putSet es1 u) = h1 at sb ho1 tup2 ⊢
  have hfill : u.tooFull = true ↔ (L.length + 1) * 5 ≥ u.mask * 3 := by
    unfold SetTable.tooFull SetTable.fill
    rw [decide_eq_true_eq, T.dm]
    show (u.place.size + 0) * 5 ≥ u.mask * 3 ↔ _
    rw [hps]
  by_cases hf : u.tooFull = true
  · first
      | (refine wpAny_bind ?_; refine wp_if_pos (by simp [hf]) ?_)
      | (refine wp_if_pos (by simp [hf]) ?_; refine wpAny_bind ?_)
    have hfull := hfill.mp hf
    rw [hmask] at hfull
    rw [hsl]
    have cases2 : (t.mask = 7 ∧ L.length = 4) ∨ (t.mask = 31 ∧ L.length = 18) := by
      rcases hmok with e | e | e
      · left; rw [e] at hfull hroom; exact ⟨e, by omega⟩
      · right; rw [e] at hfull hroom; exact ⟨e, by omega⟩
      · exfalso; rw [e] at hfull; omega
    have go : ∀ M, SetTable.sizeAbove (SetTable.grown (L.length + 1)) - 1 = M → MaskOk M → SetTable.sizeAbove (SetTable.grown (L.length + 1)) ≤ 128 → (L.length + 1) * 5 < M * 3 →
        wpAny (model P w) A (setRelay a (SetTable.grown (L.length + 1))) (fun _ s' => wpAny (model P w) A (pure true) Q E s') E { s with heap := h1 } := fun M h1' h2' h3' h4' => by
      refine relayP (s := { s with heap := h1 }) ho1 ⟨hex.1, hex.2.1, hex.2.2⟩ rfl hin T (by rw [hlen, hmask]; rcases cases2 with ⟨e, e2⟩ | ⟨e, e2⟩ <;> omega) nd1 tup2 (by rw [hlen]; exact hfew) h1' h2' h3' (by rw [hlen]; exact h4') ?_
      intro h2 L2 es2 ep2 t2 sb2 R2 pm2
      exact wpAny_pure (hQ h2 L2 es2 ep2 t2 (sb.trans sb2) R2 pm2)
    rcases cases2 with ⟨_, e2⟩ | ⟨_, e2⟩
    · refine go 31 (by rw [e2, size_20]) (.inr (.inl rfl)) (by rw [e2, size_20]; decide) (by omega)
    · refine go 127 (by rw [e2, size_76]) (.inr (.inr rfl)) (by rw [e2, size_76]; decide) (by omega)
  · first
      | refine wp_if_neg (by simp [hf]) ?_
      | (refine wpAny_bind ?_; refine wp_if_neg (by simp [hf]) ?_; refine wpAny_pure ?_)
    refine wpAny_pure (hQ h1 L1 es1 (ep + 1) u sb ⟨⟨_, ho1, ⟨hex.1, hex.2.1, hex.2.2⟩, rfl⟩, hin, T, nd1, tup2, ?_, by rw [hlen]; exact hfew⟩ (List.Perm.refl _))
    have h := mt hfill.mpr hf
    rw [hlen]
    omega
/-- ADDING: what is there stays as it is; what isn't comes to it -/
theorem addP (R : PSet P w s.heap a L es ep t) {x : Addr} {k : List Str} (hx : IsP P w s.heap k x) (hu : A.units < cLine) (hfew : L.length + 1 < 64) {Q : Bool → Shared → Prop}
    (hQ : ∀ b h' L' es' ep' t', Heap.SameBut a s.heap h' → PSet P w h' a L' es' ep' t' → (k ∈ L.map (·.2) → L' = L) → (k ∉ L.map (·.2) → L'.Perm ((x, k) :: L)) → Q b { s with heap := h' }) :
    wpAny (model P w) A (setAddHashed a (.ref x) (hashP P w k)) Q E s := by
  obtain ⟨o, ho, hex, hd⟩ := R.ob
  have hsl := R.size
  have hroom := R.room
  unfold setAddHashed
  refine wpAny_holding ?_
  rw [show (100000 : Nat) = 99999 + 1 from rfl, setAddHashedIn_succ]
  refine wpAny_bind (wpAny_setState_of ho hd R.fits ?_)
  dsimp only
  refine wp_if_neg (by simp [byScan, Value.scannable]) ?_
  try refine wpAny_bind (wpAny_pure ?_)
  refine wpAny_bind (seek_all R hx hu (fun hm => ?_) fun K hm hK hb => ?_)
  · exact wpAny_pure (hQ false s.heap L es ep t (Heap.SameBut.refl a s.heap) R (fun _ => rfl) fun z => absurd hm z)
  · dsimp only
    refine wpAny_bind (wpAny_setState_of ho hd R.fits ?_)
    dsimp only
    obtain ⟨q1, q2, q3, q4, q5, q6, q7, q8, q9⟩ := R.tab.put hK hb
    have hin : (SetTable.insertAt es (SetTable.below t.place (way t.mask (hashP P w k) K)) (hashP P w k, Value.ref x)).toList = (L.take (SetTable.below t.place (way t.mask (hashP P w k) K)) ++ (x, k) :: L.drop (SetTable.below t.place (way t.mask (hashP P w k) K))).map (rowP P w) := by
      rw [SetTable.toList_insertAt, R.rows, List.map_append, List.map_cons, List.map_take, List.map_drop]
      rfl
    have pm := put_perm' L (SetTable.below t.place (way t.mask (hashP P w k) K)) (x, k)
    have hhs : (L.take (SetTable.below t.place (way t.mask (hashP P w k) K)) ++ (x, k) :: L.drop (SetTable.below t.place (way t.mask (hashP P w k) K))).map (fun p => hashP P w p.2) = (L.map fun p => hashP P w p.2).take (SetTable.below t.place (way t.mask (hashP P w k) K)) ++ hashP P w k :: (L.map fun p => hashP P w p.2).drop (SetTable.below t.place (way t.mask (hashP P w k) K)) := by
      rw [List.map_append, List.map_cons, List.map_take, List.map_drop]
    generalize hpt : t.put (way t.mask (hashP P w k) K) = pt at q1 q3 q4 q5 q6 q7 q8 q9 ⊢
    obtain ⟨t1, p⟩ := pt
    dsimp only at q1 q3 q4 q5 q6 q7 q8 q9 ⊢
    subst q1
    generalize hpp : SetTable.below t.place (way t.mask (hashP P w k) K) = p at q2 q3 hin pm hhs ⊢
    have hlen : (L.take p ++ (x, k) :: L.drop p).length = L.length + 1 := pm.length_eq
    rw [← hhs] at q3
    have nd1 : ((L.take p ++ (x, k) :: L.drop p).map (·.2)).Nodup := by
      refine (pm.map (·.2)).nodup_iff.mpr ?_
      rw [List.map_cons]
      exact List.nodup_cons.mpr ⟨hm, R.nd⟩
    generalize SetTable.insertAt es p (hashP P w k, Value.ref x) = es1 at hin ⊢
    generalize L.take p ++ (x, k) :: L.drop p = L1 at pm hlen q3 nd1 hin
    have tup1 : ∀ h1, Heap.SameBut a s.heap h1 → ∀ p ∈ L1, IsP P w h1 p.2 p.1 := fun h1 sb p hp => by
      rcases List.mem_cons.mp (pm.mem_iff.mp hp) with e | hp
      · rw [e]; exact IsP.other hx ho hd sb
      · exact IsP.other (R.tup p hp) ho hd sb
    have hps : t1.place.size = L.length + 1 := by
      have h := q3.sz
      rw [List.length_map, hlen] at h
      exact h
    have fin : ∀ u : SetTable, u.place = t1.place → u.dummies = t1.dummies → u.mask = t1.mask → wpAny (model P w) A (do
        storeSet a es1 u
        if !false && u.tooFull then setRelay a (SetTable.grown (es.size + 1))
        return true) Q E s := fun u e1 e2 e3 =>
      tailP ho hex hd hsl R.tab.mok hroom hin (tabOk_congr q3 e1 e2 e3) (e3.trans q4) (by rw [e1]; exact hps) hlen nd1 tup1 hfew fun h' L' es' ep' t' sb R' pm' => hQ true h' L' es' ep' t' sb R' (fun z => absurd z hm) fun _ => pm'.trans pm
    have both : ∀ r : Bool, wpAny (model P w) A (do
        storeSet a es1 (if r then t1 else { t1 with plain := false })
        if !false && (if r then t1 else { t1 with plain := false }).tooFull then setRelay a (SetTable.grown (es.size + 1))
        return true) Q E s := fun r => by
      cases r
      · exact fin _ rfl rfl rfl
      · exact fin _ rfl rfl rfl
    by_cases hp1 : t1.plain = true
    · first
        | (refine wpAny_bind ?_; refine wp_if_pos hp1 ?_; refine hashBy hx fun r => ?_)
        | refine wp_if_pos hp1 (wpAny_bind (hashBy hx fun r => ?_))
      exact both r
    · first
        | (refine wpAny_bind ?_; refine wp_if_neg hp1 ?_; refine wpAny_pure ?_)
        | refine wp_if_neg hp1 (wpAny_bind (wpAny_pure ?_))
        | refine wp_if_neg hp1 ?_
      exact both true
end
end MyS

set_option Elab.async false
set_option linter.all false
set_option maxRecDepth 100000
set_option maxHeartbeats 4000000
/-! len(set(xs)) of a list or a tuple of tuples of texts, fewer than 64. -/
namespace MyS
open PySem PySem.Spec PyProof.Rows L2
section
variable {P : Program} {w : World} {A : Around} {E : Value → Shared → Prop} {s : Shared}
/-- the set at S behind the first i tuples -/
def JP (P : Program) (w : World) (h0 : Heap) (S : Addr) (ks : List (List Str)) (i : Nat) (h : Heap) : Prop :=
  ∃ L es ep t, PSet P w h S L es ep t ∧ (∀ p ∈ L, IsP P w h0 p.2 p.1) ∧ (∀ k, k ∈ L.map (·.2) ↔ k ∈ ks.take i) ∧ Cnt (ks.take i) L.length
theorem JP.adds {S : Addr} {ks : List (List Str)} {h0 : Heap} {i : Nat} {k : List Str} {x : Addr} (hx : ks[i]? = some k) (hb : ks.length < 64) (ht : IsP P w h0 k x) (hu : A.units < cLine) : Adds P w A S h0 (JP P w h0 S ks) i (.ref x) := by
  intro z Q E hJ hk hQ
  obtain ⟨L, es, ep, t, R, h0t, hM, hc⟩ := hJ
  have hi : i < ks.length := (List.getElem?_eq_some_iff.mp hx).1
  have hn := hc.le
  rw [List.length_take] at hn
  have hz : IsP P w z.heap k x := ht.keep fun o e => hk x o e
  unfold setAdd
  refine wpAny_holding ?_
  refine wpAny_bind (wpAny_pyHash_tuple hu hz ?_)
  refine addP (s := { z with toks := z.toks + (k.length + 1) }) R hz hu (by omega) fun b h' L' es' ep' t' sb R' c1 c2 => ?_
  refine hQ _ h' _ (Nat.le_add_right _ _) sb ⟨L', es', ep', t', R', ?_⟩
  rw [take_snoc hx]
  by_cases c : k ∈ L.map (·.2)
  · have e := c1 c
    subst e
    refine ⟨h0t, fun q => ?_, hc.old ((hM k).mp c)⟩
    rw [List.mem_append, List.mem_singleton, hM q]
    exact ⟨.inl, fun h => h.elim id fun e => e ▸ (hM k).mp c⟩
  · have pm := c2 c
    refine ⟨fun p hp => ?_, fun q => ?_, ?_⟩
    · rcases List.mem_cons.mp (pm.mem_iff.mp hp) with e | hp
      · rw [e]; exact ht
      · exact h0t p hp
    · rw [(pm.map (·.2)).mem_iff, List.map_cons, List.mem_cons, List.mem_append, List.mem_singleton, hM q]
      exact ⟨fun h => h.elim .inr .inl, fun h => h.elim .inr .inl⟩
    · rw [pm.length_eq, List.length_cons]
      exact hc.new fun m => c ((hM k).mpr m)
theorem JP.keeps {S : Addr} {ks : List (List Str)} {h0 : Heap} : KeepsJ S h0 (JP P w h0 S ks) := by
  rintro i h h' ⟨L, es, ep, t, R, h0t, r⟩ k1 k2
  obtain ⟨o, ho, r1⟩ := R.ob
  exact ⟨L, es, ep, t, ⟨⟨o, k1 o ho, r1⟩, R.rows, R.tab, R.nd, fun p hp => (h0t p hp).keep fun o e => k2 p.1 o e, R.room, R.few⟩, h0t, r⟩
theorem JP.zero {S : Addr} {ks : List (List Str)} {h h0 : Heap} (ho : h.get? S = some (freshSet w)) : JP P w h0 S ks 0 h := by
  refine ⟨[], #[], 0, _, ⟨⟨_, ho, ⟨rfl, rfl, rfl⟩, rfl⟩, rfl, ⟨List.Pairwise.nil, rfl, rfl, .inl rfl, fun x hx => (by cases hx), fun i h j hi => (by simp at hi)⟩, List.nodup_nil, fun p hp => (by cases hp), (by show 0 * 5 < 7 * 3; decide), (by show 0 < 64; decide)⟩, fun p hp => (by cases hp), fun k => by simp, ?_⟩
  rw [List.take_zero]
  exact Cnt.nil
end
theorem strItems_of_vals (P : Program) (w : World) : ∀ {k : List Str} {us : List Value}, Vals (k.map V.str) us → ItemsAre (PySem.strKind P w) k us
  | [], _, .nil => .nil
  | n :: k, _, .cons r t => by
    obtain ⟨tk, rfl⟩ := r
    exact .cons (strKind_is P w n tk) (strItems_of_vals P w t)
section
variable {X : Cx}
theorem Inv_isP {pins : List (Addr × Obj)} {σ : L2.St} {H : Hp} {s : Shared} {b : Addr} {k : List Str} (I : Inv X pins σ H s) (h : SqT X.K H b (k.map V.str)) : IsP X.prog X.w s.heap k b := by
  obtain ⟨its, r, ⟨o, ho, hc, n, hd⟩, _⟩ := I.tuple h
  exact ⟨o, its.toArray, n, ho, hc, hd, by simpa using strItems_of_vals _ _ r⟩
/-- len(set(xs)), xs tuples of texts -/
def tLenSetP (K : PySem.W.Frag) (ta : TE) : TE := fun σ H Q => ta σ H fun x H1 => ∃ (l : Addr) (ks : List (Addr × List Str)), x = .ref l ∧ (SqL K H1 l (ks.map fun p => V.ref p.1) ∨ SqT K H1 l (ks.map fun p => V.ref p.1)) ∧ (∀ p ∈ ks, SqT K H1 p.1 (p.2.map V.str)) ∧ ks.length < 64 ∧ ∀ n, Cnt (ks.map (·.2)) n → Q (.int (n : Nat)) H1
theorem refsP : ∀ {ks : List (Addr × List Str)} {us : List Value}, Vals (ks.map fun p => V.ref p.1) us → us = ks.map fun p => Value.ref p.1
  | [], _, .nil => rfl
  | p :: ks, _, .cons r t => by
    cases r
    rw [refsP t] <;> rfl
theorem pe_lenSetP {a : Expr} {ta : TE} {p p2 q pos : Pos} (hc : X.calm = true) (hu : X.A.units + 64 < cLine) (hm : X.mg "len" = none) (hm2 : X.mg "set" = none) (ha : PE X a ta) (hg : Gl X "len" := by rfl) (hg2 : Gl X "set" := by rfl)
    (na : starEach [a] X.env = (false, eval a X.env) :: starEach [] X.env := by rfl) : PE X (.Call (.Name "len" p) [.Call (.Name "set" p2) [a] [] q] [] pos) (tLenSetP X.K ta) := by
  refine ⟨fun pins s σ H Q I h => ?_⟩
  refine Call_ (ld_blt I hg hm boot_len ?_)
  refine PyProof.Rows.callWith_builtin1 (PyProof.Rows.args_cons ?_ rfl) rfl rfl
  refine Call_ (ld_blt I hg2 hm2 boot_set ?_)
  refine PyProof.Rows.callWith_type1 (PyProof.Rows.args_cons (thn (ha.run pins s σ H _ I h) fun v s1 ⟨x, H1, I1, r1, q1⟩ => PyProof.Rows.args_nil ?_) na) na rfl
  obtain ⟨l, ks, rfl, hq, ht, h1, q1⟩ := q1
  cases r1
  have go : ∀ (its : List Value), Vals (ks.map fun p => V.ref p.1) its → (s1.heap.IsList l its.toArray ∨ s1.heap.IsTuple l its.toArray) → wpAny (model X.prog X.w) X.A (call (.type "set") [.ref l])
      (fun v s₂ => wpAny (model X.prog X.w) X.A (spliced (backTo pos (starEach [] X.env))) (fun vs s₃ => wpAny (model X.prog X.w) X.A (call (.builtin "len") (v :: vs)) (EP X pins σ Q) X.xe s₃) X.xe s₂) X.xe s1 := fun its r hl => by
    have hits := refsP r
    have hsz : its.toArray.size = ks.length := by rw [List.size_toArray, hits, List.length_map]
    refine call_setJ (J := JP X.prog X.w s1.heap s1.heap.objs.size (ks.map (·.2))) (I1.ok.hd hc) hl (fun h ho => JP.zero ho) JP.keeps (fun h hJ => ?_) (fun A' hA i v hv => ?_) fun h' tk hJ hk _ => ?_
    · obtain ⟨L, es, ep, t, R, _⟩ := hJ
      obtain ⟨o, ho, _⟩ := R.ob
      exact ⟨o, ho⟩
    · have e1 : (ks.map fun p => Value.ref p.1)[i]? = some v := by rw [← hits]; simpa using hv
      rw [List.getElem?_map] at e1
      obtain ⟨p, hp, rfl⟩ := Option.map_eq_some_iff.mp e1
      exact JP.adds (k := p.2) (by rw [List.getElem?_map, hp]; rfl) (by rw [List.length_map]; exact h1) (Inv_isP I1 (ht p (List.mem_of_getElem? hp))) (by omega)
    · rw [hsz] at hJ
      obtain ⟨L, es, ep, t, R, _, hM, hcn⟩ := hJ
      rw [show ks.length = (ks.map (·.2)).length by rw [List.length_map], List.take_length] at hcn
      have I2 : Inv X pins σ H1 { s1 with heap := h', toks := tk } := I1.kept fun b o e => hk b o e
      refine PyProof.Rows.args_nil ?_
      have hle := hcn.le
      obtain ⟨o, ho, hex, hd⟩ := R.ob
      have hfew := R.few
      refine call_len_set ho hex hd (R.fits (s := { s1 with heap := h', toks := tk })) (by rw [R.size (s := { s1 with heap := h', toks := tk })]; omega) ⟨.int (L.length : Nat), H1, I2.tok _, ⟨_, by rw [R.size (s := { s1 with heap := h', toks := tk })]⟩, q1 L.length hcn⟩
  rcases hq with hq | hq
  · obtain ⟨its, r, pl, hz⟩ := I1.list hq
    exact go its r (.inl pl.isList)
  · obtain ⟨its, r, pl, hz⟩ := I1.tuple hq
    exact go its r (.inr (by first | exact pl | exact pl.isTuple))
end
end MyS

set_option Elab.async false
set_option linter.all false
set_option maxRecDepth 100000
set_option maxHeartbeats 4000000
/-! sorted(xs) of a list or a tuple: of texts, of pairs of texts, of tuples told apart by their first text. -/
namespace MyS
open PySem PySem.Spec PyProof.Rows L2
open SrtO hiding Str
/-! ### the order of texts -/
def slt (a b : Str) : Bool := decide (a.cps.toList < b.cps.toList)
theorem str_ext {a b : Str} (h : a.cps.toList = b.cps.toList) : a = b := by
  obtain ⟨x⟩ := a
  obtain ⟨y⟩ := b
  exact congrArg PySem.Str.mk (Array.toList_inj.mp h)
theorem slt_iff {a b : Str} : slt a b = true ↔ a.cps.toList < b.cps.toList := decide_eq_true_iff
theorem slt_no {a b : Str} : slt a b = false ↔ ¬ a.cps.toList < b.cps.toList := decide_eq_false_iff_not
theorem slt_irr (a : Str) : slt a a = false := slt_no.mpr (List.lt_irrefl _)
theorem slt_asym {a b : Str} (h : slt a b = true) : slt b a = false := slt_no.mpr fun k => List.lt_irrefl _ (List.lt_trans (slt_iff.mp h) k)
theorem slt_tri {a b : Str} (h1 : slt a b = false) (h2 : slt b a = false) : a = b :=
  str_ext (List.le_antisymm (List.not_lt.mp (slt_no.mp h2)) (List.not_lt.mp (slt_no.mp h1)))
theorem slt_ntr {x y z : Str} (h1 : slt y x = false) (h2 : slt z y = false) : slt z x = false :=
  slt_no.mpr (List.not_lt.mpr (List.le_trans (List.not_lt.mp (slt_no.mp h1)) (List.not_lt.mp (slt_no.mp h2))))
theorem slt_trans {x y z : Str} (h1 : slt x y = true) (h2 : slt y z = true) : slt x z = true := slt_iff.mpr (List.lt_trans (slt_iff.mp h1) (slt_iff.mp h2))
/-- pairs: the first, then the second -/
def slt2 (p q : Str × Str) : Bool := if p.1 = q.1 then slt p.2 q.2 else slt p.1 q.1
theorem swo_s : Swo slt := ⟨fun x y h => slt_asym h, fun x y z h1 h2 => slt_ntr h1 h2⟩
theorem slt2_eq {p q : Str × Str} (h : p.1 = q.1) : slt2 p q = slt p.2 q.2 := if_pos h
theorem slt2_ne {p q : Str × Str} (h : ¬ p.1 = q.1) : slt2 p q = slt p.1 q.1 := if_neg h
theorem swo_s2 : Swo slt2 := by
  refine ⟨fun x y h => ?_, fun x y z h1 h2 => ?_⟩
  · by_cases e : x.1 = y.1
    · rw [slt2_eq e] at h
      rw [slt2_eq e.symm]
      exact slt_asym h
    · rw [slt2_ne e] at h
      rw [slt2_ne (fun c => e c.symm)]
      exact slt_asym h
  · by_cases e : z.1 = x.1
    · rw [slt2_eq e]
      by_cases e1 : y.1 = x.1
      · rw [slt2_eq e1] at h1
        rw [slt2_eq (e.trans e1.symm)] at h2
        exact slt_ntr h1 h2
      · rw [slt2_ne e1] at h1
        rw [slt2_ne (fun c => e1 (c.symm.trans e)), e] at h2
        exact absurd (slt_tri h1 h2) e1
    · rw [slt2_ne e]
      by_cases e1 : y.1 = x.1
      · rw [slt2_ne (fun c => e (c.trans e1)), e1] at h2
        exact h2
      · rw [slt2_ne e1] at h1
        by_cases e2 : z.1 = y.1
        · rw [e2]; exact h1
        · rw [slt2_ne e2] at h2
          exact slt_ntr h1 h2
theorem swo_of {α β : Type} {lt : β → β → Bool} (O : Swo lt) (f : α → β) : Swo fun x y => lt (f x) (f y) := ⟨fun x y => O.asym (f x) (f y), fun x y z => O.tr (f x) (f y) (f z)⟩
section
variable {prog : Program} {w : World} {A : Around} {E : Value → Shared → Prop} {s : Shared}
/-- collecting a tuple -/
theorem collect_tup {l : Addr} {vs : List Value} {Q : List Value → Shared → Prop} (hl : s.heap.IsTuple l vs.toArray)
    (h : Q vs { s with heap := (s.heap.push (seqObj "list" #[] 0)).update s.heap.objs.size (Obj.mapSeq (· ++ vs.toArray)) }) (hsz : vs.length ≤ sizeLine) :
    wpAny (model prog w) A (collect (.ref l)) Q E s := by
  obtain ⟨o, ho, hc, n, hd⟩ := id hl
  unfold collect
  refine wpAny_bind (wpAny_runValue (codeAny_builtin entry_proto_collect' ?_))
  show wpAny _ _ (do again (.builtin "list.__iadd__" ⟨[← newList [], .ref l], []⟩)) _ _ s
  refine wpAny_bind (wpAny_newList (wpAny_pure ⟨Code.quiet_builtin _ (by decide +kernel), codeAny_builtin entry_list_iadd' ?_⟩))
  show wpAny _ _ (Builtin.List.listExtendWith (.ref s.heap.objs.size) (.ref l) (.ref s.heap.objs.size)) _ _ { s with heap := s.heap.push (seqObj "list" #[] 0) }
  unfold Builtin.List.listExtendWith
  have ho' : (s.heap.push (seqObj "list" #[] 0)).get? l = some o := Heap.get?_push_of_some _ ho
  refine wpAny_bind (wpAny_typeOf (T := "tuple") ⟨o, ho', hc⟩ ?_)
  have ht : (Value.type "tuple" == Value.type "tuple") = true := by rfl
  rw [if_pos (by rw [ht]; simp)]
  refine wpAny_bind (listItems_at ho' hd ?_)
  refine wpAny_bind (listItems_at (xs := #[]) (n := 0) (Heap.get?_push_size _ rfl) rfl ?_)
  rw [if_neg (by simp)]
  refine wpAny_bind (listUpdate_at (xs := #[]) (n := 0) (Heap.get?_push_size _ rfl) rfl ?_ (Nat.zero_le _) (by show (#[] ++ vs.toArray).size ≤ sizeLine + 1; simp only [Array.size_append, List.size_toArray, List.length_nil]; omega))
  refine wpAny_pure ?_
  show wpAny (model prog w) A (do
      let o ← load s.heap.objs.size
      match o.data with
      | .seq xs _ => pure xs.toList
      | _ => unsupported "internal:collect") Q E { s with heap := (s.heap.push (seqObj "list" #[] 0)).update s.heap.objs.size (Obj.mapSeq (· ++ vs.toArray)) }
  refine wpAny_bind (wpAny_load (get?_update_seq (Heap.get?_push_size _ rfl) _) ?_)
  show wpAny _ _ (pure ((#[] : Array Value) ++ vs.toArray).toList) Q E _
  rw [show ((#[] : Array Value) ++ vs.toArray).toList = vs by simp]
  exact wpAny_pure h
/-- sorted(l), l a list or a tuple -/
theorem sorted_seq {l : Addr} {vs : List Value} {ltv : Value → Value → Bool} {Q : Value → Shared → Prop} (O : Swo ltv) (hl : s.heap.IsList l vs.toArray ∨ s.heap.IsTuple l vs.toArray) (hz : vs.length ≤ sizeLine)
    (hS : 2 ≤ vs.length → ∀ (h₁ : Heap) (a : Addr), h₁.get? a = some (seqObj "list" vs.toArray 0) → (∀ b o, s.heap.get? b = some o → b ≠ a ∧ h₁.get? b = some o) → SortableO prog w A.in1.in1 { s with heap := h₁ } a vs ltv)
    (h : ∀ out : List Value, Srtd ltv out → Stb ltv out vs → Q (.ref (s.heap.objs.size + 1)) { s with heap := sortedAll s.heap vs out.toArray }) :
    wpAny (model prog w) A (call (.builtin "sorted") [.ref l]) Q E s := by
  rcases hl with hl | hl
  · exact sorted_ord O hl hz hS h
  refine Calls.call_function_entry kind_sorted plain_sorted entry_sorted (args_sorted1 _) ?_
  unfold Builtin.«sorted»
  refine wpAny_bind (m := checkCount "sorted" 1 1 _) (wpAny_pure ?_)
  refine wpAny_bind (collect_tup hl ?_ hz)
  refine wpAny_bind (wpAny_newList ?_ hz)
  have hsz : ((s.heap.push (seqObj "list" #[] 0)).update s.heap.objs.size (Obj.mapSeq (· ++ vs.toArray))).objs.size = s.heap.objs.size + 1 := by
    rw [Heap.size_update, size_push']
  have hoL : (((s.heap.push (seqObj "list" #[] 0)).update s.heap.objs.size (Obj.mapSeq (· ++ vs.toArray))).push (seqObj "list" vs.toArray 0)).get? (s.heap.objs.size + 1) = some (seqObj "list" vs.toArray 0) := by
    rw [← hsz]; exact Heap.get?_push_size _ rfl
  have keep : ∀ b o, s.heap.get? b = some o → b ≠ s.heap.objs.size + 1 ∧ (((s.heap.push (seqObj "list" #[] 0)).update s.heap.objs.size (Obj.mapSeq (· ++ vs.toArray))).push (seqObj "list" vs.toArray 0)).get? b = some o := fun b o q => by
    have hlt : b < s.heap.objs.size := Heap.lt_size q
    refine ⟨Nat.ne_of_lt (Nat.lt_succ_of_lt hlt), Heap.get?_push_of_some _ ?_⟩
    rw [Heap.get?_update_ne _ _ _ _ (Nat.ne_of_lt hlt)]
    exact Heap.get?_push_of_some _ q
  show wpAny _ _ _ _ _ { s with heap := ((s.heap.push (seqObj "list" #[] 0)).update s.heap.objs.size (Obj.mapSeq (· ++ vs.toArray))).push (seqObj "list" vs.toArray 0) }
  rw [hsz]
  refine wpAny_bind (wpAny_holding (wpAny_call_entry slot_list_sort ⟨_, hoL, rfl⟩ entry_list_sort (list_sort_ord O hoL hz (fun h2 => hS h2 _ _ hoL keep) fun out hs hb => ⟨_, rfl, ?_⟩) (args_list_sort _)))
  exact wpAny_pure ⟨_, rfl, h out hs hb⟩
/-! ### texts -/
def sv : Value → Str
  | .str x _ => x
  | _ => ⟨#[]⟩
theorem strs_cmp {vs : List Value} (hI : ∀ v ∈ vs, ∃ x t, v = Value.str x t) : Cmp prog w A s oneType' (fun p => p.1 ∈ vs) (lt2 fun v u => slt (sv v) (sv u)) := by
  intro p q hm hm'
  obtain ⟨a, t, e⟩ := hI _ hm
  obtain ⟨b, u, e'⟩ := hI _ hm'
  show wpAny (model prog w) A (keyLt' oneType' p.1 q.1) (fun r s' => s' = s ∧ r = slt (sv p.1) (sv q.1)) (fun _ _ => False) s
  rw [e, e', keyLt'_oneType]
  exact oneLt_str ⟨rfl, rfl⟩
theorem strs_sortable {a : Addr} {vs : List Value} {ss : List Str} (hI : StrsAre vs ss) (h2 : 2 ≤ vs.length) : SortableO prog w A s a vs fun v u => slt (sv v) (sv u) := by
  intro h' _
  refine ⟨oneType', fun Q E hq => ?_, strs_cmp hI.all⟩
  match vs, hI, h2 with
  | v1 :: v2 :: rest, hI, _ =>
    rw [keyKind_strs hI]
    exact wpAny_pure hq
  | [], _, h => exact absurd h (by decide)
  | [v], _, h => exact absurd h (by simp)
theorem sv_strs : ∀ {vs : List Value} {ss : List Str}, StrsAre vs ss → vs.map sv = ss
  | _, _, .nil => rfl
  | _, _, .cons n t r => congrArg (n :: ·) (sv_strs r)
theorem strs_sv : ∀ {vs : List Value}, (∀ v ∈ vs, ∃ x t, v = Value.str x t) → StrsAre vs (vs.map sv)
  | [], _ => .nil
  | v :: vs, h => by
    obtain ⟨i, t, e⟩ := h v List.mem_cons_self
    subst e
    exact .cons i t (strs_sv fun u hu => h u (List.mem_cons_of_mem _ hu))
end
/-- ascending -/
def Asc (ys : List Str) : Prop := ys.Pairwise fun a b => slt b a = false
section
variable {X : Cx}
/-- sorted(xs), texts, a list or a tuple of them -/
def rSortSQ (K : PySem.W.Frag) : List V → Hp → VK → Prop := fun vs H Q => ∃ (a : Addr) (xs : List Str), vs = [V.ref a] ∧ (SqL K H a (xs.map V.str) ∨ SqT K H a (xs.map V.str)) ∧
  ∀ (ys : List Str) (p : Addr), ys.Perm xs → Asc ys → H p = none → Q (.ref p) (upd H p (.lst (ys.map V.str)))
theorem cr_sortSQ : CallR X (.builtin "sorted") (rSortSQ X.K) := by
  intro pins s σ H vs us Q I r h
  obtain ⟨a, xs, rfl, hs, q⟩ := h
  rw [Vals.ref1 r]
  have go : ∀ (its : List Value), Vals (xs.map V.str) its → (s.heap.IsList a its.toArray ∨ s.heap.IsTuple a its.toArray) → (xs.map V.str).length ≤ sizeLine → wpAny (model X.prog X.w) X.A (call (.builtin "sorted") [.ref a]) (EP X pins σ Q) X.xe s := fun its rv hl hz => by
    have hi := rv.strs
    refine sorted_seq (swo_of swo_s sv) hl (by rw [← rv.length]; exact hz) (fun h2 h₁ a' _ _ => strs_sortable hi h2) fun out h1 h2 => ?_
    have ho : ∀ v ∈ out, ∃ x t, v = Value.str x t := fun v hv => hi.all v (h2.perm.mem_iff.mp hv)
    have pm : (out.map sv).Perm xs := by
      have q := h2.perm.map sv
      rw [sv_strs hi] at q
      exact q
    obtain ⟨ep, he'⟩ := PyProof.Rows.sortedAll_at s.heap its out.toArray
    have hlen : ((out.map sv).map V.str).length ≤ sizeLine := by
      rw [List.length_map, pm.length_eq]
      rw [List.length_map] at hz
      exact hz
    exact ⟨.ref _, upd H (s.heap.objs.size + 1) (.lst ((out.map sv).map V.str)), I.laid (t' := s.toks) (fun _ _ => PyProof.Rows.sortedAll_old) (Nat.le_succ _) ⟨hlen, out, ep, vals_of_strs (strs_sv ho), he'⟩, rfl, q _ _ pm (List.pairwise_map.mpr h1) (I.hok.fresh (Nat.le_succ _))⟩
  rcases hs with hs | hs
  · obtain ⟨its, rv, pl, hz⟩ := I.list hs
    exact go its rv (.inl pl.isList) (by first | exact hz | (rw [rv.length]; exact hz))
  · obtain ⟨its, rv, pl, hz⟩ := I.tuple hs
    exact go its rv (.inr (by first | exact pl | exact pl.isTuple)) (by first | exact hz | (rw [rv.length]; exact hz))
end
end MyS

set_option Elab.async false
set_option linter.all false
set_option maxRecDepth 100000
set_option maxHeartbeats 4000000
/-! sorted(xs), xs a list of tuples: pairs of texts, or tuples told apart by their first text. -/
namespace MyS
open PySem PySem.Spec PyProof.Rows L2
open SrtO hiding Str
section
variable {prog : Program} {w : World} {A : Around} {E : Value → Shared → Prop} {s : Shared}
/-- v is a tuple with these items -/
def IsTp (h : Heap) (v : Value) (a : Str) (r : List Value) : Prop := ∃ (b : Addr) (o : Obj) (xs : Array Value) (n : Nat) (t : Tok), v = .ref b ∧ h.get? b = some o ∧ o.cls = .type "tuple" ∧ o.data = .seq xs n ∧ xs.toList = .str a t :: r
theorem IsTp.keeps {h h' : Heap} {v : Value} {a : Str} {r : List Value} (x : IsTp h v a r) (k : ∀ b o, h.get? b = some o → o.cls = .type "tuple" → h'.get? b = some o) : IsTp h' v a r := by
  obtain ⟨b, o, xs, n, t, e, ho, hc, q⟩ := x
  exact ⟨b, o, xs, n, t, e, k b o ho hc, hc, q⟩
theorem firstsS {h : Heap} : ∀ {vs : List Value}, (∀ v ∈ vs, ∃ a r, IsTp h v a r) → ∃ fs : List Value, PySem.W.KatTups h vs fs ∧ fs.length = vs.length ∧ ∀ f ∈ fs, ∃ x t, f = Value.str x t
  | [], _ => ⟨[], PySem.W.KatTups.nil, rfl, fun _ hm => by simp at hm⟩
  | v :: vs, hp => by
    obtain ⟨fs, h1, h2, h3⟩ := firstsS (vs := vs) fun v' hm => hp v' (List.mem_cons_of_mem _ hm)
    obtain ⟨a, r, b, o, xs, n, t, e, ho, hc, hd, hx⟩ := hp v (List.mem_cons_self ..)
    subst e
    refine ⟨.str a t :: fs, PySem.W.KatTups.cons ho hc hd (by rw [← Array.getElem?_toList, hx]; rfl) h1, by rw [List.length_cons, List.length_cons, h2], fun f hm => ?_⟩
    rcases List.mem_cons.mp hm with rfl | hm
    · exact ⟨a, t, rfl⟩
    · exact h3 f hm
theorem kat_self {b fin : Bool} {Q : Bool → Shared → Prop} : ∀ (r : List Value) (i : Nat), Q fin s → PySem.W.KatLex prog w A b fin Q (r.zip r) i s
  | [], _, h => PySem.W.kat_nil h
  | v :: r, i, h => PySem.W.kat_cons (SeqAt.EqAt.same v prog w _ _ (PySem.W.kat_yes (kat_self r (i + 1) h)))
theorem slt_eqF {a b : Str} (h : a = b) : slt a b = false := by rw [h]; exact slt_irr b
/-- tuples told apart by their first text -/
theorem first_cmp {vs : List Value} {k : Value → Str} (hp : ∀ v ∈ vs, ∃ r, IsTp s.heap v (k v) r) (ne : ∀ v ∈ vs, ∀ u ∈ vs, k v = k u → v = u) : Cmp prog w A s (tuples' true) (fun p => p.1 ∈ vs) (lt2 fun v u => slt (k v) (k u)) := by
  intro p q hm hm'
  obtain ⟨r, b, o, xs, n, t, e, ho, hc, hd, hx⟩ := hp _ hm
  obtain ⟨r', b', o', xs', n', t', e', ho', hc', hd', hx'⟩ := hp _ hm'
  have hne := ne _ hm _ hm'
  show wpAny (model prog w) A (keyLt' (tuples' true) p.1 q.1) (fun r s' => s' = s ∧ r = slt (k p.1) (k q.1)) (fun _ _ => False) s
  generalize k p.1 = x at *
  generalize k q.1 = y at *
  rw [e, e'] at hne ⊢
  refine PySem.W.kat_lt ho hd ho' hd' ?_
  rw [hx, hx']
  show PySem.W.KatLex prog w A true (decide (xs.size < xs'.size)) _ ((.str x t, .str y t') :: r.zip r') 0 s
  refine PySem.W.kat_cons (SeqAt.EqAt.str_str x t y t' prog w _ _ ?_)
  refine PySem.W.kat_go (fun e1 => ?_) (fun e1 => ?_)
  · have ex : x = y := by simpa using e1
    have eb : Value.ref b = Value.ref b' := hne ex
    injection eb with eb
    subst eb
    obtain rfl : o = o' := Option.some.inj (ho.symm.trans ho')
    have e2 : PySem.Data.seq xs n = PySem.Data.seq xs' n' := hd.symm.trans hd'
    injection e2 with e2 e3
    subst e2
    have e4 := (List.cons.inj (hx.symm.trans hx')).2
    subst e4
    refine PySem.W.kat_yes (kat_self r 1 ⟨rfl, ?_⟩)
    rw [slt_eqF ex]
    exact decide_eq_false (Nat.lt_irrefl _)
  · exact PySem.W.kat_no (oneLt_str ⟨rfl, rfl⟩)
/-- pairs of texts -/
theorem pairs_cmp {vs : List Value} {k : Value → Str × Str} (hp : ∀ v ∈ vs, ∃ t, IsTp s.heap v (k v).1 [.str (k v).2 t]) : Cmp prog w A s (tuples' true) (fun p => p.1 ∈ vs) (lt2 fun v u => slt2 (k v) (k u)) := by
  intro p q hm hm'
  obtain ⟨t2, b, o, xs, n, t, e, ho, hc, hd, hx⟩ := hp _ hm
  obtain ⟨t2', b', o', xs', n', t', e', ho', hc', hd', hx'⟩ := hp _ hm'
  show wpAny (model prog w) A (keyLt' (tuples' true) p.1 q.1) (fun r s' => s' = s ∧ r = slt2 (k p.1) (k q.1)) (fun _ _ => False) s
  generalize k p.1 = x at *
  generalize k q.1 = y at *
  rw [e, e']
  have sz : xs.size = 2 := by rw [← Array.length_toList, hx]; rfl
  have sz' : xs'.size = 2 := by rw [← Array.length_toList, hx']; rfl
  refine PySem.W.kat_lt ho hd ho' hd' ?_
  rw [hx, hx', sz, sz']
  show PySem.W.KatLex prog w A true (decide (2 < 2)) _ [(.str x.1 t, .str y.1 t'), (.str x.2 t2, .str y.2 t2')] 0 s
  refine PySem.W.kat_cons (SeqAt.EqAt.str_str x.1 t y.1 t' prog w _ _ ?_)
  refine PySem.W.kat_go (fun e1 => ?_) (fun e1 => ?_)
  · have ex : x.1 = y.1 := by simpa using e1
    refine PySem.W.kat_yes (PySem.W.kat_cons (SeqAt.EqAt.str_str x.2 t2 y.2 t2' prog w _ _ ?_))
    refine PySem.W.kat_go (fun e2 => ?_) (fun e2 => ?_)
    · have ey : x.2 = y.2 := by simpa using e2
      refine PySem.W.kat_yes (PySem.W.kat_nil ⟨rfl, ?_⟩)
      rw [slt2_eq ex, slt_eqF ey]
      rfl
    · refine PySem.W.kat_no (PySem.W.kat_one _ _ ?_)
      refine PyProof.Rows.lt_str ?_
      exact ⟨rfl, (slt2_eq ex).symm⟩
  · have ex : ¬ x.1 = y.1 := by simpa using e1
    exact PySem.W.kat_no (oneLt_str ⟨rfl, (slt2_ne ex).symm⟩)
theorem tps_kind {vs : List Value} (h0 : 0 < vs.length) (hp : ∀ v ∈ vs, ∃ a r, IsTp s.heap v a r) {Q : SortKind → Shared → Prop} (hq : Q (tuples' true) s) : wpAny (model prog w) A (keyKind' vs.toArray) Q E s := by
  obtain ⟨fs, h1, h2, h3⟩ := firstsS hp
  refine PySem.W.kat_kind (T := .type "str") h1 (by omega) (fun f hm => ?_) (by rfl) ?_
  · obtain ⟨x, t, rfl⟩ := h3 f hm
    exact PySem.W.Looks.now
  · have e : (Value.type "str" != Value.type "tuple") = true := by first | decide +kernel | rfl | decide
    rw [e]
    exact hq
theorem first_sortable {a : Addr} {vs : List Value} {k : Value → Str} (h0 : 0 < vs.length) (hp : ∀ v ∈ vs, ∃ r, IsTp s.heap v (k v) r) (ne : ∀ v ∈ vs, ∀ u ∈ vs, k v = k u → v = u) (ha : ∀ o, s.heap.get? a = some o → o.cls ≠ .type "tuple") : SortableO prog w A s a vs fun v u => slt (k v) (k u) := by
  intro h' keep
  have hp' : ∀ v ∈ vs, ∃ r, IsTp h' v (k v) r := fun v hm => let ⟨r, z⟩ := hp v hm; ⟨r, z.keeps fun b o e c => keep b o (fun z => by subst z; exact ha o e c) e⟩
  exact ⟨tuples' true, fun Q E hq => tps_kind h0 (fun v hm => let ⟨r, z⟩ := hp' v hm; ⟨_, r, z⟩) hq, first_cmp hp' ne⟩
theorem pairs_sortable {a : Addr} {vs : List Value} {k : Value → Str × Str} (h0 : 0 < vs.length) (hp : ∀ v ∈ vs, ∃ t, IsTp s.heap v (k v).1 [.str (k v).2 t]) (ha : ∀ o, s.heap.get? a = some o → o.cls ≠ .type "tuple") : SortableO prog w A s a vs fun v u => slt2 (k v) (k u) := by
  intro h' keep
  have hp' : ∀ v ∈ vs, ∃ t, IsTp h' v (k v).1 [.str (k v).2 t] := fun v hm => let ⟨r, z⟩ := hp v hm; ⟨r, z.keeps fun b o e c => keep b o (fun z => by subst z; exact ha o e c) e⟩
  exact ⟨tuples' true, fun Q E hq => tps_kind h0 (fun v hm => let ⟨r, z⟩ := hp' v hm; ⟨_, _, z⟩) hq, pairs_cmp hp'⟩
end
section
variable {X : Cx}
theorem noTup {h : Heap} {a : Addr} {vs : List Value} (ha : h.get? a = some (seqObj "list" vs.toArray 0)) : ∀ o, h.get? a = some o → o.cls ≠ .type "tuple" := fun o e c => by
  have e' : some o = some (seqObj "list" vs.toArray 0) := e.symm.trans ha
  cases e'
  exact absurd (Value.type.inj c) (by decide)
/-- sorted(xs), xs a list of tuples told apart by their first text -/
def rSortR (K : PySem.W.Frag) : List V → Hp → VK → Prop := fun vs H Q => ∃ (a : Addr) (xs : List V) (k : V → Str), vs = [V.ref a] ∧ SqL K H a xs ∧ (∀ x ∈ xs, ∃ t r, x = V.ref t ∧ SqT K H t (.str (k x) :: r)) ∧ (∀ x ∈ xs, ∀ y ∈ xs, k x = k y → x = y) ∧
  ∀ ys p, ys.Perm xs → ys.Pairwise (fun x y => slt (k y) (k x) = false) → H p = none → Q (.ref p) (upd H p (.lst ys))
theorem cr_sortR : CallR X (.builtin "sorted") (rSortR X.K) := by
  intro pins s σ H vs us Q I r h
  obtain ⟨a, xs, k, rfl, hs, hx, ne, q⟩ := h
  obtain ⟨its, rv, hl, hz⟩ := I.list hs
  rw [Vals.ref1 r]
  obtain ⟨e1, e2⟩ := refs_back rv fun x m => by
    obtain ⟨t, r, e, _⟩ := hx x m
    exact ⟨t, e⟩
  have hp : ∀ v ∈ its, ∃ r, IsTp s.heap v (k (backV v)) r := fun v hv => by
    obtain ⟨t, rfl⟩ := e2 v hv
    have hm : V.ref t ∈ xs := by rw [e1]; exact List.mem_map.mpr ⟨_, hv, rfl⟩
    obtain ⟨t', r, e, ht⟩ := hx _ hm
    cases e
    obtain ⟨its2, r2, ⟨o, ho, hc, n, hd⟩, _⟩ := I.tuple ht
    cases r2 with
    | cons r0 r3 =>
      obtain ⟨tk, rfl⟩ := r0
      exact ⟨_, t, o, _, n, tk, rfl, ho, hc, hd, rfl⟩
  have ne' : ∀ v ∈ its, ∀ u ∈ its, k (backV v) = k (backV u) → v = u := fun v hv u hu e => by
    obtain ⟨t, rfl⟩ := e2 v hv
    obtain ⟨t', rfl⟩ := e2 u hu
    have q := ne (.ref t) (by rw [e1]; exact List.mem_map.mpr ⟨_, hv, rfl⟩) (.ref t') (by rw [e1]; exact List.mem_map.mpr ⟨_, hu, rfl⟩) e
    injection q with q
    rw [q]
  refine sorted_seq (swo_of swo_s fun u => k (backV u)) (.inl hl.isList) (by rw [← rv.length]; exact hz) (fun h2 h₁ a' ha' kk => first_sortable (by omega) (fun v hv => let ⟨r, z⟩ := hp v hv; ⟨r, z.keeps fun b o e _ => (kk b o e).2⟩) ne' (noTup ha')) fun out h1 h2 => ?_
  have h3 : ∀ u ∈ out, ∃ a, u = Value.ref a := fun u hu => e2 u (h2.perm.mem_iff.mp hu)
  obtain ⟨ep, he'⟩ := PyProof.Rows.sortedAll_at s.heap its out.toArray
  have pm : (out.map backV).Perm xs := by
    rw [e1]
    exact h2.perm.map backV
  refine ⟨.ref _, upd H (s.heap.objs.size + 1) (.lst (out.map backV)), I.laid (t' := s.toks) (fun _ _ => PyProof.Rows.sortedAll_old) (Nat.le_succ _) ⟨by rw [pm.length_eq]; exact hz, out, ep, vals_back h3, he'⟩, rfl, q _ _ pm (List.pairwise_map.mpr h1) (I.hok.fresh (Nat.le_succ _))⟩
/-- sorted(xs), xs a list of pairs of texts -/
def rSortB (K : PySem.W.Frag) : List V → Hp → VK → Prop := fun vs H Q => ∃ (a : Addr) (xs : List V) (k : V → Str × Str), vs = [V.ref a] ∧ SqL K H a xs ∧ (∀ x ∈ xs, ∃ t, x = V.ref t ∧ SqT K H t [.str (k x).1, .str (k x).2]) ∧
  ∀ ys p, ys.Perm xs → ys.Pairwise (fun x y => slt2 (k y) (k x) = false) → H p = none → Q (.ref p) (upd H p (.lst ys))
theorem cr_sortB : CallR X (.builtin "sorted") (rSortB X.K) := by
  intro pins s σ H vs us Q I r h
  obtain ⟨a, xs, k, rfl, hs, hx, q⟩ := h
  obtain ⟨its, rv, hl, hz⟩ := I.list hs
  rw [Vals.ref1 r]
  obtain ⟨e1, e2⟩ := refs_back rv fun x m => by
    obtain ⟨t, e, _⟩ := hx x m
    exact ⟨t, e⟩
  have hp : ∀ v ∈ its, ∃ t, IsTp s.heap v (k (backV v)).1 [.str (k (backV v)).2 t] := fun v hv => by
    obtain ⟨t, rfl⟩ := e2 v hv
    have hm : V.ref t ∈ xs := by rw [e1]; exact List.mem_map.mpr ⟨_, hv, rfl⟩
    obtain ⟨t', e, ht⟩ := hx _ hm
    cases e
    obtain ⟨its2, r2, ⟨o, ho, hc, n, hd⟩, _⟩ := I.tuple ht
    obtain ⟨u1, u2, rfl, ri, rj⟩ := vals2 r2
    obtain ⟨t1, rfl⟩ := ri
    obtain ⟨t2, rfl⟩ := rj
    exact ⟨t2, t, o, _, n, t1, rfl, ho, hc, hd, rfl⟩
  refine sorted_seq (swo_of swo_s2 fun u => k (backV u)) (.inl hl.isList) (by rw [← rv.length]; exact hz) (fun h2 h₁ a' ha' kk => pairs_sortable (by omega) (fun v hv => let ⟨r, z⟩ := hp v hv; ⟨r, z.keeps fun b o e _ => (kk b o e).2⟩) (noTup ha')) fun out h1 h2 => ?_
  have h3 : ∀ u ∈ out, ∃ a, u = Value.ref a := fun u hu => e2 u (h2.perm.mem_iff.mp hu)
  obtain ⟨ep, he'⟩ := PyProof.Rows.sortedAll_at s.heap its out.toArray
  have pm : (out.map backV).Perm xs := by
    rw [e1]
    exact h2.perm.map backV
  refine ⟨.ref _, upd H (s.heap.objs.size + 1) (.lst (out.map backV)), I.laid (t' := s.toks) (fun _ _ => PyProof.Rows.sortedAll_old) (Nat.le_succ _) ⟨by rw [pm.length_eq]; exact hz, out, ep, vals_back h3, he'⟩, rfl, q _ _ pm (List.pairwise_map.mpr h1) (I.hok.fresh (Nat.le_succ _))⟩
end
end MyS

set_option Elab.async false
set_option linter.all false
set_option maxRecDepth 100000
set_option maxHeartbeats 4000000
/-! {k: v for x in xs} with tuples as keys (the library's HandS.DictComp is for ints and texts; the steps are its steps, the store is another). -/
namespace MyS
open PySem PySem.Spec PyProof.Rows L2
section
variable {X : Cx}
theorem d_dictSetT {pins : List (Addr × Obj)} {σ : L2.St} {H : Hp} {s : Shared} {E : Value → Shared → Prop} {D b : Addr} {kvs : List (List Key × V)} {k : List Key} {v : V} {u r : Value} {Q : Unit → Shared → Prop} (hu : X.A.units + 1 < cLine) (I : Inv X pins σ H s) (hD : H D = some (.dT kvs)) (hz : kvs.length < sizeLine)
    (eb : H b = some (.tup (k.map kV))) (ry : RelV (.ref b) u) (rv : RelV v r) (h : ∀ s', Inv X pins σ (upd H D (.dT (putK kvs k v))) s' → Q () s') : wpAny (model X.prog X.w) X.A (dictSet D u r) Q E s := by
  cases (show u = Value.ref b from ry)
  obtain ⟨z, hd, xs, rel, dd⟩ := dt_of I.hok hD
  have hxs : xs.length ≤ sizeLine := by rw [← Paired.length rel]; exact z
  have hl : (putK kvs k v).length ≤ sizeLine := by have := length_putK kvs k v; omega
  refine wpAny_dictSet_heap (hsz := hxs) (show X.A.units < cLine from Nat.lt_of_succ_lt hu) (key_of I.hok eb) dd fun h' dd' hs => h _ ?_
  obtain ⟨q, es, ep, hq, h2, h3, h4, _, h5⟩ := dd'
  refine d_write I (by rw [hD]; exact True.intro) hs ⟨q, hq⟩ ⟨hl, hd, _, (rel.put k eb rv).keeps fun c ys ec => ?_, q, es, ep, hq, h2, h3, h4, h5⟩
  rw [upd_ne (ne_of ec hD (fun z => nomatch z))]
  exact ec
/-- {k: v for x in xs}: the tuple keys' own dict D; the loop by W as in a list comprehension -/
def tDcT (wi : TI) (g : TG) (tt : TT) (tk tv : TE) (vs : List Nat) : TE := fun σ H Q => wi σ H fun J H1 => ∀ D, H1 D = none → ∃ W : Nat → Nat → Hp → Prop, (∃ m, W 0 m (upd H1 D (.dT []))) ∧ ∀ i m H, W i m H →
  (J.stop i H ∧ Q (.ref D) H) ∨ (J.go i H ∧ ∃ Nx : Hp → Prop, (∀ H', Nx H' → ∃ m', m' < m ∧ W (i + 1) m' H') ∧ ∀ x H', J.yld i H x H' → g x (wipe σ vs) H' fun σ2 H2 => wipe σ2 vs = wipe σ vs ∧ tt σ2 H2 fun b H3 =>
    if b = true then tk σ2 H3 fun y H4 => tv σ2 H4 fun z H5 => ∃ kvs k c, y = .ref c ∧ H5 c = some (.tup (k.map kV)) ∧ H5 D = some (.dT kvs) ∧ kvs.length < sizeLine ∧ Nx (upd H5 D (.dT (putK kvs k z))) else Nx H3)
theorem pe_dcT {kx vx tg iter : Expr} {ifs : List Expr} {scope : Scope} {own : List (PySem.Str × Nat)} {pos : Pos} {wi : TI} {g : TG} {tt : TT} {tk tv : TE} (hu : X.A.units + 1 < cLine) (hc : X.calm = true) (hN : X.N.Nodup) (hi : PI X tg iter wi) (ok : BlkOk X.N X.env.scope scope own)
    (hg : ∀ (s : Shared) (H : Hp) (C : Addr) (cl : List (PySem.Str × Addr)) (fp : List Addr), PG (X.blk s H scope (compEnvC scope cl C X.env) fp) tg g) (ht : ∀ (s : Shared) (H : Hp) (C : Addr) (cl : List (PySem.Str × Addr)) (fp : List Addr), PTs (X.blk s H scope (compEnvC scope cl C X.env) fp) ifs tt)
    (hk : ∀ (s : Shared) (H : Hp) (C : Addr) (cl : List (PySem.Str × Addr)) (fp : List Addr), PE (X.blk s H scope (compEnvC scope cl C X.env) fp) kx tk)
    (he : ∀ (s : Shared) (H : Hp) (C : Addr) (cl : List (PySem.Str × Addr)) (fp : List Addr), PE (X.blk s H scope (compEnvC scope cl C X.env) fp) vx tv) (hs : ∀ x, foldedSetIterable iter X.env x = pure x := by intro _; rfl) :
    PE X (.DictComp kx vx [⟨tg, iter, ifs, 0⟩] scope pos) (tDcT wi g tt tk tv (own.map (·.2))) := by
  refine ⟨fun pins s σ H Q I h => ?_⟩
  rw [arm_eval_DictComp]
  have hfree : ∀ y ∈ scope.names, y.2 = .free → ∃ c, X.env.cells.lookup y.1 = some c := fun y hy e =>
    (ok.free y hy e).elim (fun k => I.ok.has _ (.inl k)) fun k => I.ok.has _ (.inr k)
  refine wpAny_comprehension_free (use := none) rfl hs (closure_ok hfree) ok.kind (fun y hy e => by rw [ok.uniq y hy, e]) (thn (hi.run pins s σ H _ I h) fun xv s1 hx => thn hx fun itv s2 h2 => ?_)
  obtain ⟨it, fp, tn, J, H2, rfl, I2, T, st2, f2, q⟩ := h2
  refine wpAny_newObj_type (newEnv_comp ?_)
  obtain ⟨W, ⟨m0, w0⟩, turn⟩ := q s2.heap.objs.size (I2.hok.fresh (Nat.le_refl _))
  -- the new dict
  have I3 : Inv X pins σ (upd H2 s2.heap.objs.size (.dT [])) { s2 with heap := s2.heap.push { cls := .type "dict", data := .dict #[] } } :=
    I2.laid (t' := s2.toks) (fun b o e => Heap.get?_push_of_some _ e) (Nat.le_refl _) (dt_empty s2.heap I2.big)
  have below : ∀ b ∈ fp, b < s2.heap.objs.size := fun b hb => let ⟨o, e, _⟩ := T.obj _ _ st2 b hb; Heap.lt_size e
  generalize hs3 : ({ s2 with heap := s2.heap.push { cls := .type "dict", data := .dict #[] } } : Shared) = s3 at I3
  have h3 : s3.heap = s2.heap.push { cls := .type "dict", data := .dict #[] } := by rw [← hs3]
  generalize hD : s2.heap.objs.size = D at I3 w0 turn below ⊢
  have f3 : ∀ b ∈ fp, FpOk X pins (upd H2 D (.dT [])) b ∧ b < s3.heap.objs.size := fun b hb =>
    ⟨⟨by rw [upd_ne (Nat.ne_of_lt (below b hb))]; exact (f2 b hb).1, (f2 b hb).2⟩, by rw [h3, Heap.size_push, hD]; exact Nat.lt_succ_of_lt (below b hb)⟩
  have st3 : tn 0 s3.heap := T.keep _ _ _ st2 fun b _ o e => by rw [h3]; exact Heap.get?_push_of_some _ e
  have I4 := block_start I3 ok hN f3
  generalize hC : cellsFrom (s3.heap.objs.size + 1) scope.names (cloFrom X.env.cells scope.names []) = cl at I4
  have pg := hg s3 (upd H2 D (.dT [])) s3.heap.objs.size cl fp
  have pt := ht s3 (upd H2 D (.dT [])) s3.heap.objs.size cl fp
  have pk := hk s3 (upd H2 D (.dT [])) s3.heap.objs.size cl fp
  have pe := he s3 (upd H2 D (.dT [])) s3.heap.objs.size cl fp
  have goal : codeAny (model X.prog X.w) X.A (.compStart (.DictComp kx vx [⟨tg, iter, ifs, 0⟩] scope pos) 0 (.ref it) (.ref D) (compEnvC scope cl s3.heap.objs.size X.env)) (compPost (model X.prog X.w) X.A X.xe none (EP X pins σ Q) (.ref D) s3.heap.objs.size) { s3 with heap := pushCells (s3.heap.push { cls := .type "dict", data := .dict #[] }) scope.names } := by
    have cL : (compEnvC scope cl s3.heap.objs.size X.env).locals = s3.heap.objs.size := rfl
    generalize compEnvC scope cl s3.heap.objs.size X.env = ce at I4 pg pt pk pe cL ⊢
    generalize hH3 : upd H2 D (.dT []) = H3 at I3 I4 pg pt pk pe w0 f3
    generalize hs4 : ({ s3 with heap := pushCells (s3.heap.push { cls := .type "dict", data := .dict #[] }) scope.names } : Shared) = s4 at I4 ⊢
    have st4 : tn 0 s4.heap := T.keep _ _ _ st3 fun b _ o e => by rw [← hs4]; exact pushCells_keeps _ _ _ _ (Heap.get?_push_of_some _ e)
    have stat : ∀ {σ' : L2.St} {H' : Hp} {s' : Shared}, Inv (X.blk s3 H3 scope ce fp) [] σ' H' s' → (∀ b ∈ fp, H' b = none) → ∀ b ∈ fp, FpOk (X.blk s3 H3 scope ce fp) [] H' b := fun {σ' H' s'} I' hn b hb =>
      ⟨hn b hb, (I'.ok.exf b hb).1, I'.ok.exfs b hb, .inl hb, fun x c e => (I'.ok.exf b hb).2 x c e, fun p hp => absurd (show p ∈ ([] : List (Addr × Obj)) ++ [] from hp) (by simp)⟩
    refine codeAny_compStart_dict ?lp (T.self X.A 0 _ _ _ st4 ?lp)
    refine compLoop_anyD (fun n s' => ∃ i H', Inv (X.blk s3 H3 scope ce fp) [] (wipe σ (own.map (·.2))) H' s' ∧ tn i s'.heap ∧ (∀ b ∈ fp, H' b = none) ∧ W i n H') ?_ m0 ⟨0, H3, I4, st4, fun b hb => (f3 b hb).1.1, w0⟩
    rintro n s5 ⟨i, H5, I5, st5, n5, w5⟩
    rcases turn i n H5 w5 with ⟨stop, qq⟩ | ⟨go, Nx, hNx, step⟩
    · refine thnF (T.done (X.blk s3 H3 scope ce fp) rfl rfl rfl hc i [] s5 _ H5 (fun _ _ => False) I5 (stat I5 n5) st5 stop) fun r s6 ⟨hr, I6⟩ => ?_
      subst hr
      have I7 : Inv X pins σ H5 s6 := I3.call' (ch := fp) I6.os I6.base I6.hok I6.bare fun b hb => ⟨(f3 b hb).1.2.2.2.1, (f3 b hb).1.2.1, (f3 b hb).1.2.2.2.2.1, (f3 b hb).1.2.2.2.2.2⟩
      have nC : H5 s3.heap.objs.size = none := by
        have z : H5 ce.locals = none := I6.free
        rw [cL] at z
        exact z
      obtain ⟨m, hn, _⟩ := I6.loc
      have hn : s6.heap.Ns ce.locals m := hn
      rw [cL] at hn
      obtain ⟨f0, f1, f2, f3, f4, f5⟩ := I3.fpOk (Nat.le_refl _) nC
      exact ⟨m, hn, fun h'' sb => ⟨.ref D, H5, I7.turned (t' := s6.toks) (fun b o hb e => (sb.2 b hb).trans e) f0 f1 f3 f4 f5, rfl, qq⟩⟩
    · refine thnF (T.item (X.blk s3 H3 scope ce fp) rfl rfl rfl hc i [] s5 _ H5 (fun _ _ => False) I5 (stat I5 n5) st5 go) fun r s6 ⟨u, hr, h6⟩ => ?_
      subst hr
      refine thnF h6 fun _ s7 ⟨x, H7, I7, r7, y7, st7, n7⟩ => ?_
      refine thnF (pg.run _ s7 _ H7 x u _ (I7.pinned (stat I7 n7) (T.obj _ _ st7)) r7 (step x H7 y7)) fun _ s8 ⟨σ8, H8, I8, hw8, q8⟩ => ?_
      refine thnF (pt.run _ s8 σ8 H8 _ I8 q8) fun b s9 ⟨H9, I9, q9⟩ => ?_
      have fin : ∀ {s' : Shared} {H' : Hp}, Inv (X.blk s3 H3 scope ce fp) ([] ++ pinsAt fp s7.heap) σ8 H' s' → Nx H' → ∃ m, m < n ∧ ∃ i H', Inv (X.blk s3 H3 scope ce fp) [] (wipe σ (own.map (·.2))) H' s' ∧ tn i s'.heap ∧ (∀ b ∈ fp, H' b = none) ∧ W i m H' := fun {s' H'} I' nx => by
        obtain ⟨m', hm, w'⟩ := hNx H' nx
        have pin' : ∀ b ∈ fp, ∀ o, s7.heap.get? b = some o → s'.heap.get? b = some o ∧ H' b = none := fun b hb o e =>
          have z := I'.pin (b, o) (List.mem_append_right _ (List.mem_append_right _ (mem_pinsAt hb e)))
          ⟨z.1, z.2.1⟩
        have hl : (wipe σ (own.map (·.2))).length = σ8.length := by rw [← hw8, wipe_length]
        refine ⟨m', hm, i + 1, H', (I'.unpinned (pins := [])).weak hl (fun j v e => ?_), T.keep _ _ _ st7 fun b hb o e => (pin' b hb o e).1, fun b hb => ?_, w'⟩
        · rw [← hw8] at e
          exact (wipe_some e).1
        · obtain ⟨o, e, _⟩ := T.obj _ _ st7 b hb
          exact (pin' b hb o e).2
      cases b with
      | false =>
        simp only [Bool.false_eq_true, if_false] at q9 ⊢
        exact fin I9 q9
      | true =>
        simp only [if_true] at q9 ⊢
        refine thnF (pk.run _ s9 σ8 H9 _ I9 q9) fun z s10 ⟨yk, H10, I10, r10, q10⟩ => ?_
        refine thnF (pe.run _ s10 σ8 H10 _ I10 q10) fun z2 s11 ⟨yv, H11, I11, r11, kvs, k, c, ek, ec, hD11, hz11, nx⟩ => ?_
        subst ek
        exact d_dictSetT (X := X.blk s3 H3 scope ce fp) hu I11 hD11 hz11 ec r10 r11 fun s12 I12 => fin I12 nx
  subst hD
  exact goal
/-- over a tuple that stays -/
theorem dcT_tup {K : PySem.W.Frag} {a : Addr} {xs : List V} {g : TG} {tt : TT} {tk tv : TE} {vs : List Nat} {σ : L2.St} {H1 : Hp} {D : Addr} {Qd : Hp → Prop} (Pv : Nat → Hp → Prop) (h0 : Pv 0 (upd H1 D (.dT []))) (hl : ∀ i H, i ≤ xs.length → Pv i H → SqT K H a xs)
    (hs : ∀ i x H, xs[i]? = some x → Pv i H → g x (wipe σ vs) H fun σ2 H2 => wipe σ2 vs = wipe σ vs ∧ tt σ2 H2 fun b H3 =>
      if b = true then tk σ2 H3 fun y H4 => tv σ2 H4 fun z H5 => ∃ kvs k c, y = .ref c ∧ H5 c = some (.tup (k.map kV)) ∧ H5 D = some (.dT kvs) ∧ kvs.length < sizeLine ∧ Pv (i + 1) (upd H5 D (.dT (putK kvs k z))) else Pv (i + 1) H3) (hd : ∀ H, Pv xs.length H → Qd H) :
    ∃ W : Nat → Nat → Hp → Prop, (∃ m, W 0 m (upd H1 D (.dT []))) ∧ ∀ i m H, W i m H →
      ((Itt K a).stop i H ∧ Qd H) ∨ ((Itt K a).go i H ∧ ∃ Nx : Hp → Prop, (∀ H', Nx H' → ∃ m', m' < m ∧ W (i + 1) m' H') ∧ ∀ x H', (Itt K a).yld i H x H' → g x (wipe σ vs) H' fun σ2 H2 => wipe σ2 vs = wipe σ vs ∧ tt σ2 H2 fun b H3 =>
        if b = true then tk σ2 H3 fun y H4 => tv σ2 H4 fun z H5 => ∃ kvs k c, y = .ref c ∧ H5 c = some (.tup (k.map kV)) ∧ H5 D = some (.dT kvs) ∧ kvs.length < sizeLine ∧ Nx (upd H5 D (.dT (putK kvs k z))) else Nx H3) := by
  refine ⟨fun i m H => m = xs.length - i ∧ i ≤ xs.length ∧ Pv i H, ⟨xs.length, by simp, Nat.zero_le _, h0⟩, ?_⟩
  rintro i m H ⟨rfl, hi, p⟩
  have q := hl i H hi p
  rcases Nat.lt_or_ge i xs.length with lt | ge
  · refine .inr ⟨⟨xs, xs[i], q, by simp [lt]⟩, Pv (i + 1), fun H' p' => ⟨xs.length - (i + 1), by omega, rfl, lt, p'⟩, fun x H' y => ?_⟩
    obtain ⟨rfl, y⟩ := y
    exact hs i x _ (y xs q) p
  · obtain rfl : i = xs.length := by omega
    exact .inl ⟨⟨xs, q, Nat.le_refl _⟩, hd H p⟩
end
end MyS

set_option Elab.async false
set_option linter.all false
set_option maxRecDepth 100000
set_option maxHeartbeats 4000000
namespace W
open PySem PySem.Spec PyProof.Rows L2 GxR MyG
/-! ### the text by places -/
def top (i : Nat) : Stmt := PySem.Challenge.pw_waypapers_k45_changes_taken_back.main.body.getD i (.Pass ⟨0, 0, 0, 0⟩)
abbrev sIsName : Stmt := top 24
abbrev sNames : Stmt := top 26
abbrev sDiff : Stmt := top 27
abbrev sRoads : Stmt := top 28
abbrev sRoad : Stmt := top 29
abbrev sHours : Stmt := top 30
abbrev sBars : Stmt := top 31
abbrev sInit : Stmt := inClass (top 32) 0

/-! ### names -/
def zLet : Str := "abcdefghijklmnopqrstuvwxyz"
def zDig : Str := "0123456789"
def goodC (c : Nat) : Bool := decide (c ∈ zLet.cps.toList) || decide (c ∈ zDig.cps.toList)
def isNm (z : Str) : Bool := decide (1 ≤ z.length) && decide (z.length ≤ 12) && (match z.cps.toList with | [] => false | c :: _ => decide (c ∈ zLet.cps.toList)) && z.cps.toList.all goodC
/-- the element of the generator: x in A or x in B -/
theorem elt_two {prog : Program} {w : World} {base : Heap} {mg : Str → Option Value} {scope : Scope} {x A B : Str} {a b : Str} {ta tb : Tok} {p1 p2 p3 p4 p5 p6 p7 : Pos} (hk : scope.kind = .function) (hl : scope.names.lookup x = some .local)
    (hA : scope.names.lookup A = some .globalImplicit) (hB : scope.names.lookup B = some .globalImplicit) (hns : base.Ns mainGlobals mg) (eA : mg A = some (.str a ta)) (eB : mg B = some (.str b tb))
    (hd : (x == ("__debug__" : Str)) = false := by decide) (hdA : (A == ("__debug__" : Str)) = false := by decide) (hdB : (B == ("__debug__" : Str)) = false := by decide) :
    EltB prog w base scope x (.BoolOp .Or [.Compare (.Name x p1) [.In] [.Name A p2] p3, .Compare (.Name x p4) [.In] [.Name B p5] p6] p7) (fun c => decide (c ∈ a.cps.toList) || decide (c ∈ b.cps.toList)) := by
  intro ce B' F c t z m hs hg hh hb hn hm
  have kf : ce.scope.kind = .function := by rw [hs]; exact hk
  have kx : ce.kindOf x = some .local := by show ce.scope.names.lookup x = _; rw [hs]; exact hl
  have nsz : ∀ (z' : Shared), Keeps z z' → z'.heap.Ns ce.globals mg := fun z' k => by
    rw [hg]
    obtain ⟨h', tk, rfl, kk⟩ := k
    exact (hns.keeps hb).keeps kk
  have one : ∀ (G : Str) (g : Str) (tg : Tok) (q1 q2 q3 : Pos) (Q : Value → Shared → Prop), (G == ("__debug__" : Str)) = false → scope.names.lookup G = some .globalImplicit → mg G = some (.str g tg) → Q (.bool (decide (c ∈ g.cps.toList))) z →
      wpAny (model prog w) B' (eval (.Compare (.Name x q1) [.In] [.Name G q2] q3) ce) Q F z := by
    intro G g tg q1 q2 q3 Q hdG hG eG hQ
    refine wpAny_Compare1 ?_
    refine wpAny_Name (wpAny_loadName_local kf kx hn hm ?_) hd
    refine Calls.Name_function_global kf (by show ce.scope.names.lookup G = _; rw [hs]; exact hG) (Calls.loadGlobal_global (nsz z (keeps_refl z)) eG ?_) hdG
    refine PyProof.Rows.in_str ?_
    rw [PySem.StrLaws.found_one g c]
    exact hQ
  refine BoolOp_or (one A a ta _ _ _ _ hdA hA eA ?_)
  refine wpAny_truthy_bool ?_
  by_cases ca : c ∈ a.cps.toList
  · have ea : decide (c ∈ a.cps.toList) = true := decide_eq_true ca
    rw [if_pos ea]
    refine ⟨?_, keeps_refl z⟩
    show Value.bool (decide (c ∈ a.cps.toList)) = Value.bool (decide (c ∈ a.cps.toList) || decide (c ∈ b.cps.toList))
    rw [ea]; rfl
  · have ea : decide (c ∈ a.cps.toList) = false := decide_eq_false ca
    rw [if_neg (by rw [ea]; exact Bool.false_ne_true)]
    refine BoolOp_one (one B b tb _ _ _ _ hdB hB eB ?_)
    refine ⟨?_, keeps_refl z⟩
    show Value.bool (decide (c ∈ b.cps.toList)) = Value.bool (decide (c ∈ a.cps.toList) || decide (c ∈ b.cps.toList))
    rw [ea]; rfl

theorem pe_gI {X : Cx} {x : Str} {i : Int} {t : Tok} {pos : Pos} (hm : X.mg x = some (.int i t)) (hg : Gl X x := by rfl) (hd : (x == ("__debug__" : Str)) = false := by decide) : PE X (.Name x pos) (tC (.int i)) := pe_glob hg hm ⟨_, rfl⟩ hd
theorem pe_gS {X : Cx} {x z : Str} {t : Tok} {pos : Pos} (hm : X.mg x = some (.str z t)) (hg : Gl X x := by rfl) (hd : (x == ("__debug__" : Str)) = false := by decide) : PE X (.Name x pos) (tC (.str z)) := pe_glob hg hm ⟨_, rfl⟩ hd
theorem nofree {names : List (Str × NameKind)} {Q : Str × NameKind → Prop} (h : names.all (fun y => y.2 != .free) = true) : ∀ y ∈ names, y.2 = .free → Q y := fun y hy e => by
  have q := List.all_eq_true.mp h y hy
  rw [e] at q
  exact absurd q (by decide)
theorem if_t {c : Bool} {A B : Prop} (hc : c = true) (h : A) : if c = true then A else B := by
  rw [if_pos hc]
  exact h
theorem if_f {c : Bool} {A B : Prop} (hc : c = false) (h : B) : if c = true then A else B := by
  rw [hc, if_neg Bool.false_ne_true]
  exact h
/-! ### what the top has written -/
structure Txt (K : PySem.W.Frag) (mg : Str → Option Value) (C P : Addr) : Prop where
  let_ : ∃ t, mg "LETTERS" = some (.str zLet t)
  dig : ∃ t, mg "DIGITS" = some (.str zDig t)
  ln : ∃ t, mg "LONGEST_NAME" = some (.int 12 t)
  len : mg "len" = none
  all : mg "all" = none

def spIsName (P : Addr) : Sp := fun vs H Q _ => ∃ z : Str, vs = [.str z] ∧ z.length ≤ sizeLine ∧ TabG H P ∧ ∀ H', Tabbed P H H' → Q (.bl (isNm z)) H'
section
variable {Pg : Program} {w : World} {K : PySem.W.Frag} {mg : Str → Option Value} {base : Heap} {C P : Addr}
theorem scIsName : FnScope ["text"] ["text"] (defScope sIsName) := ⟨rfl, rfl, rfl, by decide +kernel, rfl, by decide +kernel, by decide +kernel⟩
theorem str_len0 {z : Str} (h : ¬ 1 ≤ z.length) : isNm z = false := by
  unfold isNm
  simp [h]
theorem ok_isName {f c : Addr} {fd : FuncData} (F : Fun K "is_name" "is_name" sIsName f fd) (T : Txt K mg C P) (TB : TabB base mg c P) (hfc : fd.code = .ref c) (hns : base.Ns mainGlobals mg) : FnOk Pg w K mg base CX0 2 f fd ["text"] (spIsName P) := by
  obtain ⟨oc, od, kV, doc, pm, an, cdv, ct, osl, efd, lk, hcd⟩ := F.ex
  subst efd
  have ecd : cdv = .ref c := hfc
  subst ecd
  refine fn_of lk hcd scIsName (fun vs H Q E h => ?_) (fun A outer s H vs Q E hr h => ?_)
  · obtain ⟨z, rfl, _⟩ := h
    rfl
  · obtain ⟨z, rfl, hz, hP, k⟩ := h
    obtain ⟨tl, el⟩ := T.let_
    obtain ⟨td, ed⟩ := T.dig
    obtain ⟨tn, en⟩ := T.ln
    refine ⟨_, PSs.nox (pss_cons (ps_if (PW.pt (pw_or (pt_not (pt_chain op_le op_le pe_int (pe_callB call_len_str (by rfl) T.len PySem.boot_len (pa_cons (pv 0) pa_nil)) (pe_gI en)))
        (pw_or1 (pt_cmpR op_notIn_sign (pe_ix ix_str (pv 0) pe_int (fun _ _ => rfl)) (pe_gS el) (by rfl)))))
        (pss_one (ps_ret pe_bl)) pss_nil)
      (pss_one (ps_ret (pe_allB (scope := _) (P := P) hr rfl T.all TB rfl ⟨rfl, rfl, by decide +kernel, by decide +kernel, by decide +kernel, nofree (by decide +kernel)⟩ (pv 0) (elt_two rfl (by decide +kernel) (by decide +kernel) (by decide +kernel) hns el ed) (fun _ => rfl))))), ?_⟩
    have zl : z.length = z.cps.toList.length := by simp [Str.length]
    refine ⟨_, rfl, z, rfl, hz, 1, _, rfl, rfl, _, rfl, ?_⟩
    by_cases h1 : (1 : Int) ≤ (z.length : Int)
    · refine if_t (decide_eq_true h1) ⟨_, _, rfl, rfl, _, rfl, ?_⟩
      by_cases h2 : (z.length : Int) ≤ 12
      · rw [decide_eq_true h2]
        refine iteF ?_
        have hp : 0 < z.cps.toList.length := by omega
        have e0 : atI z.cps.toList 0 = some (z.cps.toList[0]'hp) := atI_nat (j := 0) (List.getElem?_eq_getElem hp)
        refine ⟨_, rfl, z, 0, _, rfl, rfl, hz, e0, _, _, rfl, rfl, _, rfl, ?_⟩
        by_cases h3 : z.cps.toList[0]'hp ∈ zLet.cps.toList
        · rw [decide_eq_true h3]
          refine iteF ⟨_, rfl, z, rfl, hP, fun H2 hH => ?_⟩
          have e := k H2 hH
          have en : isNm z = z.cps.toList.all goodC := by
            unfold isNm
            cases q : z.cps.toList with
            | nil => rw [q] at hp; exact absurd hp (by decide)
            | cons c r =>
              have h3' : c ∈ zLet.cps.toList := by
                have : z.cps.toList[0]'hp = c := by simp [q]
                rw [← this]; exact h3
              have a1 : 1 ≤ z.length := by omega
              have a2 : z.length ≤ 12 := by omega
              simp [a1, a2, h3']
          rw [en] at e
          exact e
        · rw [decide_eq_false h3]
          refine iteT ?_
          have en : isNm z = false := by
            unfold isNm
            cases q : z.cps.toList with
            | nil => simp
            | cons c r =>
              have h3' : c ∉ zLet.cps.toList := by
                have : z.cps.toList[0]'hp = c := by simp [q]
                rw [← this]; exact h3
              simp [h3']
          have e := k H ⟨hP, fun _ _ => rfl⟩
          rw [en] at e
          exact e
      · rw [decide_eq_false h2]
        refine iteT ?_
        have en : isNm z = false := by
          unfold isNm
          have a2 : ¬ z.length ≤ 12 := by omega
          simp [a2]
        have e := k H ⟨hP, fun _ _ => rfl⟩
        rw [en] at e
        exact e
    · refine if_f (decide_eq_false h1) ⟨_, rfl, ?_⟩
      refine iteT ?_
      have en : isNm z = false := by
        unfold isNm
        have a2 : ¬ 1 ≤ z.length := by omega
        simp [a2]
      have e := k H ⟨hP, fun _ _ => rfl⟩
      rw [en] at e
      exact e
end
end W

set_option Elab.async false
set_option linter.all false
set_option maxRecDepth 100000
set_option maxHeartbeats 400000
namespace W
open PySem PySem.Spec PyProof.Rows L2 GxR MyG MyS
/-! ### heaps that have grown: what stood (but the table at P) stands -/
structure Grew (P : Addr) (H H' : Hp) : Prop where
  tab : TabG H' P
  old : ∀ b o, b ≠ P → (∀ ps, o ≠ .tbl ps) → H b = some o → H' b = some o
  tabs : ∀ b, TabG H b → TabG H' b
  there : ∀ b, H b ≠ none → H' b ≠ none
section
variable {P : Addr} {H H1 H2 H' : Hp} {K : PySem.W.Frag}
theorem Grew.refl (h : TabG H P) : Grew P H H := ⟨h, fun _ _ _ _ e => e, fun _ q => q, fun _ q => q⟩
theorem Grew.trans (a : Grew P H H1) (b : Grew P H1 H2) : Grew P H H2 := ⟨b.tab, fun c o n d e => b.old c o n d (a.old c o n d e), fun c q => b.tabs c (a.tabs c q), fun c q => b.there c (a.there c q)⟩
theorem Grew.of (t : Tabbed P H H') : Grew P H H' := ⟨t.1, fun b o n _ e => by rw [t.2 b n]; exact e, fun b q => by
  by_cases n : b = P
  · rw [n]; exact t.1
  · obtain ⟨ps, e, r⟩ := q
    exact ⟨ps, by rw [t.2 b n]; exact e, r⟩, fun b q => by
  by_cases n : b = P
  · rw [n]
    obtain ⟨ps, e, r⟩ := t.1
    rw [e]
    exact fun z => by cases z
  · rw [t.2 b n]; exact q⟩
/-- another def's table has grown -/
theorem Grew.of2 {P2 : Addr} (h1 : TabG H P) (h2 : TabG H P2) (t : Tabbed P2 H H') : Grew P H H' := by
  have g := Grew.of t
  refine ⟨g.tabs P h1, fun b o n d e => g.old b o (fun z => ?_) d e, g.tabs, g.there⟩
  obtain ⟨ps, q, _⟩ := h2
  rw [z, q] at e
  exact d ps (Option.some.inj e).symm
theorem tabNe (h : TabG H P) {a : Addr} (n : H a = none) : a ≠ P := fun e => by
  obtain ⟨ps, q, _⟩ := h
  rw [e, q] at n
  cases n
theorem tabNe' (h : TabG H P) {a : Addr} {o : HO} (e : H a = some o) (d : ∀ ps, o ≠ .tbl ps) : a ≠ P := fun z => by
  obtain ⟨ps, q, _⟩ := h
  rw [z, q] at e
  exact d ps (Option.some.inj e).symm
theorem tabUpd (h : TabG H P) {a : Addr} {o : HO} (n : a ≠ P) : TabG (upd H a o) P := by
  obtain ⟨ps, q, t⟩ := h
  exact ⟨ps, by rw [upd_ne (Ne.symm n)]; exact q, t⟩
/-- a new object -/
theorem Grew.new (h : TabG H P) {a : Addr} {o : HO} (n : H a = none) : Grew P H (upd H a o) := ⟨tabUpd h (tabNe h n), fun b u _ _ e => by rw [upd_ne (ne_of_none e n)]; exact e, fun b q => by
  obtain ⟨ps, e, r⟩ := q
  exact ⟨ps, by rw [upd_ne (ne_of_none e n)]; exact e, r⟩, fun b q => by
  by_cases z : b = a
  · rw [z, upd_same]; exact fun z => by cases z
  · rw [upd_ne z]; exact q⟩
theorem Grew.put (g : Grew P H H1) {a : Addr} {o : HO} (n : H1 a = none) : Grew P H (L2.upd H1 a o) := g.trans (Grew.new g.tab n)
theorem Grew.get (g : Grew P H H') (h : TabG H P) {b : Addr} {o : HO} (e : H b = some o) (d : ∀ ps, o ≠ .tbl ps) : H' b = some o := g.old b o (tabNe' h e d) d e
theorem Grew.lst (g : Grew P H H') (h : TabG H P) {b : Addr} {xs : List V} (e : H b = some (.lst xs)) : H' b = some (.lst xs) := g.get h e (fun _ z => by cases z)
theorem Grew.tup (g : Grew P H H') (h : TabG H P) {b : Addr} {xs : List V} (e : H b = some (.tup xs)) : H' b = some (.tup xs) := g.get h e (fun _ z => by cases z)
theorem Grew.free (g : Grew P H H') {b : Addr} (n : H' b = none) : H b = none := by
  cases q : H b with
  | none => rfl
  | some o => exact absurd n (g.there b (by rw [q]; exact fun z => by cases z))
theorem Grew.sqL (g : Grew P H H') (h : TabG H P) {a : Addr} {xs : List V} (q : SqL K H a xs) : SqL K H' a xs := by
  rcases q with (q | ⟨o, q⟩) | q
  · exact .inl (.inl (g.lst h q))
  · exact .inl (.inr ⟨o, g.get h q (fun _ z => by cases z)⟩)
  · exact .inr q
theorem Grew.sqT (g : Grew P H H') (h : TabG H P) {a : Addr} {xs : List V} (q : SqT K H a xs) : SqT K H' a xs := by
  rcases q with (q | ⟨o, q⟩) | q
  · exact .inl (.inl (g.tup h q))
  · exact .inl (.inr ⟨o, g.get h q (fun _ z => by cases z)⟩)
  · exact .inr q
/-- an own object that was not there at H may be written -/
theorem Grew.write (g : Grew P H H1) {a : Addr} {o u : HO} (e : H1 a = some u) (d : ∀ ps, u ≠ .tbl ps) (n : H a = none) : Grew P H (L2.upd H1 a o) :=
  ⟨tabUpd g.tab (tabNe' g.tab e d), fun b v hb dv q => by rw [upd_ne (ne_of_none q n)]; exact g.old b v hb dv q, fun b q => by
    have q2 := g.tabs b q
    obtain ⟨ps, eb, _⟩ := q
    exact tabUpd q2 (ne_of_none eb n).symm, fun b q => by
    by_cases z : b = a
    · rw [z, upd_same]; exact fun z => by cases z
    · rw [upd_ne z]; exact g.there b q⟩
end

/-! ### what stands in tuples goes on standing -/
def KeepT (K : PySem.W.Frag) (H H' : Hp) : Prop := ∀ a xs, SqT K H a xs → SqT K H' a xs
theorem KeepT.refl {K : PySem.W.Frag} {H : Hp} : KeepT K H H := fun _ _ h => h
theorem KeepT.trans {K : PySem.W.Frag} {H H1 H2 : Hp} (x : KeepT K H H1) (y : KeepT K H1 H2) : KeepT K H H2 := fun a xs h => y a xs (x a xs h)
theorem KeepT.grew {K : PySem.W.Frag} {P : Addr} {H H' : Hp} (g : Grew P H H') (h : TabG H P) : KeepT K H H' := fun _ _ q => g.sqT h q
theorem KeepT.upd {K : PySem.W.Frag} {H : Hp} {D : Addr} {o : HO} (h1 : ∀ xs, H D ≠ some (.tup xs)) (h2 : ∀ xs u, H D ≠ some (.frz u (.tup xs))) : KeepT K H (L2.upd H D o) := fun a xs q => by
  rcases q with (q | ⟨u, q⟩) | q
  · have ne : a ≠ D := fun e => by subst e; exact h1 xs q
    exact .inl (.inl (by rw [upd_ne ne]; exact q))
  · have ne : a ≠ D := fun e => by subst e; exact h2 xs u q
    exact .inl (.inr ⟨u, by rw [upd_ne ne]; exact q⟩)
  · exact .inr q
theorem KeepT.lst {K : PySem.W.Frag} {H : Hp} {D : Addr} {o : HO} {l : List V} (e : H D = some (.lst l)) : KeepT K H (L2.upd H D o) := .upd (fun xs q => by rw [e] at q; cases q) (fun xs u q => by rw [e] at q; cases q)
theorem KeepT.ins {K : PySem.W.Frag} {H : Hp} {D C dx : Addr} {o : HO} {fs : List (Str × V)} (e : H D = some (.ins C dx fs)) : KeepT K H (L2.upd H D o) := .upd (fun xs q => by rw [e] at q; cases q) (fun xs u q => by rw [e] at q; cases q)
theorem KeepT.dK {K : PySem.W.Frag} {H : Hp} {D : Addr} {o : HO} {l : List (Key × V)} (e : H D = some (.dK l)) : KeepT K H (L2.upd H D o) := .upd (fun xs q => by rw [e] at q; cases q) (fun xs u q => by rw [e] at q; cases q)
theorem KeepT.dT {K : PySem.W.Frag} {H : Hp} {D : Addr} {o : HO} {l : List (List Key × V)} (e : H D = some (.dT l)) : KeepT K H (L2.upd H D o) := .upd (fun xs q => by rw [e] at q; cases q) (fun xs u q => by rw [e] at q; cases q)
theorem KeepT.new {K : PySem.W.Frag} {H : Hp} {D : Addr} {o : HO} (e : H D = none) : KeepT K H (L2.upd H D o) := .upd (fun xs q => by rw [e] at q; cases q) (fun xs u q => by rw [e] at q; cases q)
/-! ### a < b < c <= d -/
section
variable {X : Cx} {a b c e : Expr} {ta tb tc te : TE} {pos : Pos}
def tChain3 (r r' r'' : R2) (ta tb tc te : TE) : TE := fun σ H Q => ta σ H fun x H1 => tb σ H1 fun y H2 => r x y H2 fun k H3 => ∃ i, k = .bl i ∧
  (if i = true then tc σ H3 fun z H4 => r' y z H4 fun k H5 => ∃ i, k = .bl i ∧ (if i = true then te σ H5 fun u H6 => r'' z u H6 Q else Q (.bl false) H5) else Q (.bl false) H3)
theorem pt_chain3 {op op' op'' : CmpOp} {r r' r'' : R2} (ho : OpR X (compareOp op) r) (ho' : OpR X (compareOp op') r') (ho'' : OpR X (compareOp op'') r'') (ha : PE X a ta) (hb : PE X b tb) (hc : PE X c tc) (he : PE X e te)
    (hm : lastMarks [op, op', op''] [b, c, e] = false := by with_unfolding_all rfl) : PT X (.Compare a [op, op', op''] [b, c, e] pos) (tTest (tChain3 r r' r'' ta tb tc te)) := by
  refine ⟨fun pins s σ H Q I h => ?_⟩
  refine isTrue_chain (thn (ha.run pins s σ H _ I h) fun v s1 ⟨x, H1, I1, r1, q1⟩ => test_link (thn (hb.run pins s1 σ H1 _ I1 q1) fun u s2 ⟨y, H2, I2, r2, q2⟩ =>
    thn (ho pins s2 σ H2 x y v u _ I2 r1 r2 q2) fun d s3 ⟨z, H3, I3, r3, k, ek, q3⟩ => ?_)) hm
  subst ek
  cases r3
  refine wpAny_truthy_bool ?_
  cases k with
  | false =>
    obtain ⟨k', e', q'⟩ := q3
    cases e'
    exact ite_ff ⟨H3, I3, q'⟩
  | true =>
    refine ite_tt (test_link (thn (hc.run pins s3 σ H3 _ I3 q3) fun w' s4 ⟨z', H4, I4, r4, q4⟩ => thn (ho' pins s4 σ H4 y z' u w' _ I4 r2 r4 q4) fun d s5 ⟨z5, H5, I5, r5, k5, e5, q5⟩ => ?_))
    subst e5
    cases r5
    refine wpAny_truthy_bool ?_
    cases k5 with
    | false =>
      obtain ⟨k', e', q'⟩ := q5
      cases e'
      exact ite_ff ⟨H5, I5, q'⟩
    | true =>
      refine ite_tt (test_last (thn (he.run pins s5 σ H5 _ I5 q5) fun w6 s6 ⟨z6, H6, I6, r6, q6⟩ => thn (ho'' pins s6 σ H6 z' z6 w' w6 _ I6 r4 r6 q6) fun d s7 ⟨z7, H7, I7, r7, k7, e7, q7⟩ => ?_))
      subst e7
      cases r7
      exact wpAny_truthy_bool ⟨H7, I7, q7⟩
end
def rTupOf (K : PySem.W.Frag) : List V → Hp → VK → Prop := fun xs H Q => ∃ p ys, xs = [.ref p] ∧ ((SqL K H p ys ∧ ∀ l, H l = none → Q (.ref l) (upd H l (.tup ys))) ∨ (SqT K H p ys ∧ Q (.ref p) H))
/-! ### what a map's parts are -/
theorem Paired.snoc {α β : Type} {F : α → β → Prop} {a : α} {b : β} : ∀ {l : List α} {m : List β}, Paired F l m → F a b → Paired F (l ++ [a]) (m ++ [b])
  | _, _, .nil, h => .cons h .nil
  | _, _, .cons r t, h => .cons r (Paired.snoc t h)
theorem Paired.len {α β : Type} {F : α → β → Prop} : ∀ {l : List α} {m : List β}, Paired F l m → l.length = m.length
  | _, _, .nil => rfl
  | _, _, .cons _ t => congrArg Nat.succ (Paired.len t)
theorem Paired.at {α β : Type} {F : α → β → Prop} : ∀ {l : List α} {m : List β} {i : Nat} {b : β}, Paired F l m → m[i]? = some b → ∃ a, l[i]? = some a ∧ F a b
  | _, _, _, _, .nil, e => by simp at e
  | _, _, 0, _, .cons r _, e => ⟨_, rfl, by simp at e; subst e; exact r⟩
  | _, _, i + 1, _, .cons _ t, e => by
    obtain ⟨a, h1, h2⟩ := Paired.at (i := i) t (by simpa using e)
    exact ⟨a, by simpa using h1, h2⟩
theorem Paired.to {α β : Type} {F : α → β → Prop} : ∀ {l : List α} {m : List β} {i : Nat} {a : α}, Paired F l m → l[i]? = some a → ∃ b, m[i]? = some b ∧ F a b
  | _, _, _, _, .nil, e => by simp at e
  | _, _, 0, _, .cons r _, e => ⟨_, rfl, by simp at e; subst e; exact r⟩
  | _, _, i + 1, _, .cons _ t, e => by
    obtain ⟨a, h1, h2⟩ := Paired.to (i := i) t (by simpa using e)
    exact ⟨a, by simpa using h1, h2⟩
theorem Paired.map' {α β : Type} {F G : α → β → Prop} : ∀ {l : List α} {m : List β}, Paired F l m → (∀ a b, F a b → G a b) → Paired G l m
  | _, _, .nil, _ => .nil
  | _, _, .cons r t, f => .cons (f _ _ r) (Paired.map' t f)
structure RoadD where
  name : Str
  start : Str
  goal : Str
  minutes : Int
  users : List Str
  hours : Option (List (Int × Int))
/-- a pair of hours -/
def GPair (K : PySem.W.Frag) (H : Hp) (p : Int × Int) (x : V) : Prop := ∃ t, x = .ref t ∧ SqT K H t [.int p.1, .int p.2]
/-- the hours of a road -/
def GHours (K : PySem.W.Frag) (H : Hp) (hs : Option (List (Int × Int))) (v : V) : Prop := match hs with
  | none => v = .non
  | some ps => ∃ l xs, v = .ref l ∧ SqT K H l xs ∧ Paired (GPair K H) ps xs
def GRoad (K : PySem.W.Frag) (H : Hp) (r : RoadD) (v : V) : Prop := ∃ t u h, v = .ref t ∧ SqT K H t [.str r.name, .str r.start, .str r.goal, .int r.minutes, .ref u, h] ∧ SqT K H u (r.users.map V.str) ∧ GHours K H r.hours h
theorem GPair.keep {K : PySem.W.Frag} {H H' : Hp} {p : Int × Int} {x : V} (k : KeepT K H H') (g : GPair K H p x) : GPair K H' p x := let ⟨t, e, q⟩ := g; ⟨t, e, k _ _ q⟩
theorem GHours.keep {K : PySem.W.Frag} {H H' : Hp} {hs : Option (List (Int × Int))} {v : V} (k : KeepT K H H') (g : GHours K H hs v) : GHours K H' hs v := by
  cases hs with
  | none => exact g
  | some ps =>
    obtain ⟨l, xs, e, q, r⟩ := g
    exact ⟨l, xs, e, k _ _ q, Paired.map' r fun _ _ => GPair.keep k⟩
theorem GRoad.keep {K : PySem.W.Frag} {H H' : Hp} {r : RoadD} {v : V} (k : KeepT K H H') (g : GRoad K H r v) : GRoad K H' r v := by
  obtain ⟨t, u, h, e, q1, q2, q3⟩ := g
  exact ⟨t, u, h, e, k _ _ q1, k _ _ q2, q3.keep k⟩
/-- pairs in order, apart, within the day -/
def hoursOk (d : Int) : Int → List (Int × Int) → Prop
  | _, [] => True
  | c, p :: r => c < p.1 ∧ p.1 < p.2 ∧ p.2 ≤ d ∧ hoursOk d p.2 r
def HoursOk (d : Int) : Option (List (Int × Int)) → Prop
  | none => True
  | some ps => ps.length ≤ 4 ∧ hoursOk d (-1) ps
/-- where the next pair begins behind the first i -/
def lastOf (c : Int) (ps : List (Int × Int)) (i : Nat) : Int := ((ps.take i).getLast?.map (·.2)).getD c
theorem hoursOk_at {d : Int} : ∀ {ps : List (Int × Int)} {c : Int} {i : Nat} {p : Int × Int}, hoursOk d c ps → ps[i]? = some p → lastOf c ps i < p.1 ∧ p.1 < p.2 ∧ p.2 ≤ d
  | [], _, _, _, _, e => by simp at e
  | q :: r, c, 0, p, h, e => by
    simp at e
    subst e
    exact ⟨h.1, h.2.1, h.2.2.1⟩
  | q :: r, c, i + 1, p, h, e => by
    have k := hoursOk_at (i := i) h.2.2.2 (by simpa using e)
    refine ⟨?_, k.2⟩
    have e2 : lastOf c (q :: r) (i + 1) = lastOf q.2 r i := by
      unfold lastOf
      rw [List.take_succ_cons]
      cases r.take i with
      | nil => rfl
      | cons a l => rw [List.getLast?_cons_cons]; cases h : (a :: l).getLast? with
        | none => simp at h
        | some z => rfl
    rw [e2]; exact k.1
theorem lastOf_succ {ps : List (Int × Int)} {c : Int} {i : Nat} {p : Int × Int} (e : ps[i]? = some p) : lastOf c ps (i + 1) = p.2 := by
  unfold lastOf
  rw [List.take_succ, e]
  simp
theorem isNm_len {z : Str} (h : isNm z = true) : z.length ≤ 12 := by
  unfold isNm at h
  simp only [Bool.and_eq_true, decide_eq_true_eq] at h
  exact h.1.1.2
/-! ### _checked_day, _check_different, _checked_hours, _checked_names -/
structure TxtE (X : Str → Option Value) (K : PySem.W.Frag) (C : Addr) : Prop where
  gC : X "InvalidMap" = some (.ref C)
  xC : PySem.W.excIn K C [.type "ValueError", .type "Exception", .type "BaseException", .type "object"] "ValueError.__new__" = true
  kC : PySem.W.keepIn K (.ref C) = true
  bC : PySem.W.subIn K (.ref C) (.type "BaseException") = some true
  tC : PySem.W.typeIn K (.ref C) = some (.type "type")
abbrev sDay : Stmt := top 25
def spDay : Sp := fun vs H Q _ => ∃ d : Int, vs = [.int d] ∧ 1 ≤ d ∧ d ≤ 1440 ∧ Q (.int d) H
def DiffS (K : PySem.W.Frag) (H : Hp) (a : Addr) : Prop := ∃ ns : List Str, (SqL K H a (ns.map V.str) ∨ SqT K H a (ns.map V.str)) ∧ ns.length ≤ 1000 ∧ ns.Nodup
def DiffP (K : PySem.W.Frag) (H : Hp) (a : Addr) : Prop := ∃ ks : List (Addr × List Str), SqL K H a (ks.map fun p => V.ref p.1) ∧ (∀ p ∈ ks, SqT K H p.1 (p.2.map V.str)) ∧ ks.length < 64 ∧ (ks.map (·.2)).Nodup
def spDiff (K : PySem.W.Frag) : Sp := fun vs H Q _ => ∃ a : Addr, vs = [.ref a] ∧ (DiffS K H a ∨ DiffP K H a) ∧ Q .non H
def spHours (K : PySem.W.Frag) (P : Addr) : Sp := fun vs H Q _ => ∃ (d : Int) (hs : Option (List (Int × Int))) (hv : V), vs = [hv, .int d] ∧ GHours K H hs hv ∧ HoursOk d hs ∧ TabG H P ∧ ∀ H' v', Grew P H H' → GHours K H' hs v' → Q v' H'
section
variable {Pg : Program} {w : World} {K : PySem.W.Frag} {mg : Str → Option Value} {base : Heap} {C P : Addr}
theorem scDay : FnScope ["day"] ["day"] (defScope sDay) := ⟨rfl, rfl, rfl, by decide +kernel, rfl, by decide +kernel, by decide +kernel⟩
theorem ok_day {f : Addr} {fd : FuncData} {t : Tok} (F : Fun K "_checked_day" "_checked_day" sDay f fd) (hd : mg "LONGEST_DAY" = some (.int 1440 t)) : FnOk Pg w K mg base CX0 1 f fd ["day"] spDay := by
  refine F.ok scDay (fun vs H Q E h => ?_) (fun cdv A outer s H vs Q E hr h => ?_)
  · obtain ⟨d, rfl, _⟩ := h
    rfl
  · obtain ⟨d, rfl, h1, h2, k⟩ := h
    refine ⟨_, pss_cons (ps_if (pt_not (pt_chain op_le op_le pe_int (pv 0) (pe_gI hd))) (pss_one ps_never) pss_nil) (pss_one (ps_ret (pv 0))), ?_⟩
    refine ⟨_, rfl, _, _, rfl, rfl, _, rfl, if_t (decide_eq_true h1) ⟨_, _, rfl, rfl, _, rfl, ?_⟩⟩
    rw [decide_eq_true h2]
    exact iteF ⟨_, rfl, k⟩
theorem scDiff : FnScope ["parts"] ["parts"] (defScope sDiff) := ⟨rfl, rfl, rfl, by decide +kernel, rfl, by decide +kernel, by decide +kernel⟩
theorem ok_diff {f : Addr} {fd : FuncData} (F : Fun K "_check_different" "_check_different" sDiff f fd) (hl : mg "len" = none) (hs : mg "set" = none) : FnOk Pg w K mg base CX0 1 f fd ["parts"] (spDiff K) := by
  refine F.ok scDiff (fun vs H Q E h => ?_) (fun cdv A outer s H vs Q E hr h => ?_)
  · obtain ⟨a, rfl, _⟩ := h
    rfl
  · obtain ⟨a, rfl, (⟨ns, hS, h1, nd⟩ | ⟨ks, hS, ht, h1, nd⟩), k⟩ := h
    · refine ⟨_, pss_one (ps_if (pt_cmpR op_lt (pe_lenSetS rfl hl hs (pv 0)) (pe_callB call_len_seq (by rfl) hl PySem.boot_len (pa_cons (pv 0) pa_nil)) (nomark _)) (pss_one ps_never) pss_nil), ?_⟩
      refine ⟨_, rfl, a, ns, rfl, hS, by omega, fun n hc => ?_⟩
      have e : n = ns.length := hc.eq.mpr nd
      subst e
      refine ⟨_, rfl, a, _, rfl, hS, _, _, rfl, rfl, _, rfl, ?_⟩
      rw [List.length_map]
      exact if_f (decide_eq_false (Int.lt_irrefl _)) k
    · refine ⟨_, pss_one (ps_if (pt_cmpR op_lt (pe_lenSetP rfl hr.units hl hs (pv 0)) (pe_callB call_len_seq (by rfl) hl PySem.boot_len (pa_cons (pv 0) pa_nil)) (nomark _)) (pss_one ps_never) pss_nil), ?_⟩
      refine ⟨_, rfl, a, ks, rfl, .inl hS, ht, h1, fun n hc => ?_⟩
      have e : n = (ks.map (·.2)).length := hc.eq.mpr nd
      subst e
      refine ⟨_, rfl, a, _, rfl, .inl hS, _, _, rfl, rfl, _, rfl, ?_⟩
      rw [List.length_map, List.length_map]
      exact if_f (decide_eq_false (Int.lt_irrefl _)) k
abbrev nHours : List Str := ["hours", "day", "closed", "pair"]
theorem scHours : FnScope nHours ["hours", "day"] (defScope sHours) := ⟨rfl, rfl, rfl, by decide +kernel, rfl, by decide +kernel, by decide +kernel⟩
theorem ok_hours {f : Addr} {fd : FuncData} {t1 : Tok} (F : Fun K "_checked_hours" "_checked_hours" sHours f fd) (hl : mg "len" = none) (ht : mg "tuple" = none) (hp : mg "MOST_PAIRS" = some (.int 4 t1)) : FnOk Pg w K mg base CX0 1 f fd ["hours", "day"] (spHours K P) := by
  refine F.ok scHours (fun vs H Q E h => ?_) (fun cdv A outer s H vs Q E hr h => ?_)
  · obtain ⟨d, hs, hv, rfl, _⟩ := h
    rfl
  · obtain ⟨d, hs, hv, rfl, g, ok, hP, k⟩ := h
    refine ⟨_, pss_cons (ps_if (pt_cmp (pc_isN (pv 0))) (pss_one (ps_ret pe_non)) pss_nil)
      (pss_cons (ps_if (pt_cmpR op_gt (pe_callB call_len_seq (by rfl) hl PySem.boot_len (pa_cons (pv 0) pa_nil)) (pe_gI hp) (nomark _)) (pss_one ps_never) pss_nil)
      (pss_cons (ps_set (i := 2) scHours.nd rfl (Or.inl rfl) (pe_un un_neg pe_int))
      (pss_cons (ps_for PassesOwn.never rfl (pi_tup (pv 0)) (pg_name (i := 3) scHours.nd rfl (Or.inl rfl))
        (pss_cons (ps_if (pt_cmpR op_ne (pe_callB call_len_seq (by rfl) hl PySem.boot_len (pa_cons (pv 3) pa_nil)) pe_int (nomark _)) (pss_one ps_never) pss_nil)
        (pss_cons (ps_if (pt_not (pt_chain3 op_lt op_lt op_le (pv 2) (pe_ix ix_tup (pv 3) pe_int (fun _ _ => rfl)) (pe_ix ix_tup (pv 3) pe_int (fun _ _ => rfl)) (pv 1))) (pss_one ps_never) pss_nil)
        (pss_one (ps_set (i := 2) scHours.nd rfl (Or.inl rfl) (pe_ix ix_tup (pv 3) pe_int (fun _ _ => rfl)))))))
      (pss_one (ps_ret (pe_callTy call_tuple_of (by rfl) ht (by decide +kernel) (pa_cons (pe_lc (own := [("pair", 3)]) (g := gName 3) (tt := tYes) rfl scHours.nd (pi_tup (pv 0)) (blkOk_by (N := nHours) (sc := defScope sHours) (by decide +kernel)) (fun _ _ _ _ _ => pg_name (i := 3) scHours.nd rfl (Or.inl rfl)) (fun _ _ _ _ _ => pts_nil)
          (fun _ _ _ _ _ => pe_callTy (r := rTupOf K) call_tuple_of (by rfl) ht (by decide +kernel) (pa_cons (pv 3) pa_nil))) pa_nil))))))), ?_⟩
    cases hs with
    | none =>
      obtain rfl : hv = .non := g
      refine ⟨_, rfl, _, rfl, ?_⟩
      exact iteT (k H .non (Grew.refl hP) rfl)
    | some ps =>
      obtain ⟨l, xs, rfl, hS, hG⟩ := g
      obtain ⟨ok4, okc⟩ := ok
      have hlen := Paired.len hG
      refine ⟨_, rfl, _, rfl, ?_⟩
      refine iteF ?_
      refine ⟨_, rfl, l, _, rfl, .inr hS, _, _, rfl, rfl, _, rfl, if_f (decide_eq_false (by omega)) ?_⟩
      refine ⟨1, rfl, ?_⟩
      refine ⟨_, rfl, l, rfl, ⟨_, hS⟩, for_tup (K := K) (a := l) (xs := xs) (fun i σ H' => H' = H ∧ ∃ v, σ = [some (.ref l), some (.int d), some (.int (lastOf (-1) ps i)), v])
        ⟨rfl, none, rfl⟩ (fun i σ H' _ ⟨e, _⟩ => by rw [e]; exact hS) ?_ ?_⟩
      · rintro i y σ H' hi ⟨rfl, v, rfl⟩
        obtain ⟨p, hp, t, rfl, hT⟩ := Paired.at hG hi
        obtain ⟨o1, o2, o3⟩ := hoursOk_at okc hp
        have e0 : atI [V.int p.1, V.int p.2] 0 = some (.int p.1) := rfl
        have e1 : atI [V.int p.1, V.int p.2] 1 = some (.int p.2) := rfl
        refine ⟨_, rfl, t, _, rfl, .inr hT, rfl, _, rfl, if_f (by rfl) ?_⟩
        refine ⟨_, rfl, _, rfl, t, _, 0, _, rfl, rfl, hT, e0, _, _, rfl, rfl, _, rfl, if_t (decide_eq_true o1) ⟨_, rfl, t, _, 1, _, rfl, rfl, hT, e1, _, _, rfl, rfl, _, rfl, if_t (decide_eq_true o2) ⟨_, rfl, _, _, rfl, rfl, _, rfl, ?_⟩⟩⟩
        rw [decide_eq_true o3]
        refine iteF ⟨_, rfl, t, _, 1, _, rfl, rfl, hT, e1, rfl, some (.ref t), ?_⟩
        rw [lastOf_succ hp]
        rfl
      · rintro σ H' ⟨rfl, v, rfl⟩
        refine ⟨_, rfl, l, rfl, ⟨_, hS⟩, fun D nD => lc_tup (K := K) (a := l) (xs := xs) (fun i H1 => Grew P H' H1 ∧ H1 D = some (.lst (xs.take i)))
          ⟨Grew.new hP nD, upd_same⟩ (fun i H1 _ p => p.1.sqT hP hS) (fun i x H1 hx p => ?_) (fun H1 p => ?_)⟩
        · obtain ⟨g, hD⟩ := p
          obtain ⟨p, hp, t, rfl, hT⟩ := Paired.at hG hx
          refine ⟨rfl, _, rfl, t, _, rfl, .inr ⟨g.sqT hP hT, _, hD, ?_, g.write hD (fun _ z => by cases z) nD, ?_⟩⟩
          · rw [List.length_take, sizeLine_eq]; omega
          · rw [upd_same, List.take_succ, hx]; rfl
        · obtain ⟨g, hD⟩ := p
          rw [List.take_length] at hD
          refine ⟨D, _, rfl, .inl ⟨SqL.of hD, fun q nq => ?_⟩⟩
          have gq := g.put (o := .tup xs) nq
          exact k _ _ gq ⟨q, xs, rfl, SqT.of upd_same, Paired.map' hG fun a b m => m.keep (KeepT.grew gq hP)⟩
end
end W

set_option Elab.async false
set_option linter.all false
set_option maxRecDepth 100000
set_option maxHeartbeats 400000
namespace W
open PySem PySem.Spec PyProof.Rows L2 GxR MyG MyS
/-! ### _checked_names, _checked_road -/
def spNames (K : PySem.W.Frag) (P : Addr) : Sp := fun vs H Q _ => ∃ (a : Addr) (ns : List Str) (lo hi : Int), vs = [.ref a, .int lo, .int hi] ∧ SqL K H a (ns.map V.str) ∧ lo ≤ ns.length ∧ (ns.length : Int) ≤ hi ∧ ns.length ≤ 1000 ∧ ns.all isNm = true ∧ ns.Nodup ∧ TabG H P ∧
  ∀ H' p ys, Grew P H H' → H p = none → H' p = some (.tup (ys.map V.str)) → ys.Perm ns → Asc ys → Q (.ref p) H'
section
variable {Pg : Program} {w : World} {K : PySem.W.Frag} {mg : Str → Option Value} {base : Heap} {C P : Addr}
theorem scNames : FnScope ["names", "least", "most", "name"] ["names", "least", "most"] (defScope sNames) := ⟨rfl, rfl, rfl, by decide +kernel, rfl, by decide +kernel, by decide +kernel⟩
theorem ok_names {f fN fD : Addr} {fd fdN fdD : FuncData} (F : Fun K "_checked_names" "_checked_names" sNames f fd) (hl : mg "len" = none) (ht : mg "tuple" = none) (hs : mg "sorted" = none)
    (GN : FnOk Pg w K mg base CX0 2 fN fdN ["text"] (spIsName P)) (gN : mg "is_name" = some (.ref fN)) (kN : PySem.W.keepIn K (.ref fN) = true) (bN : Binds K fdN ["text"] [])
    (GD : FnOk Pg w K mg base CX0 1 fD fdD ["parts"] (spDiff K)) (gD : mg "_check_different" = some (.ref fD)) (kD : PySem.W.keepIn K (.ref fD) = true) (bD : Binds K fdD ["parts"] []) :
    FnOk Pg w K mg base CX0 3 f fd ["names", "least", "most"] (spNames K P) := by
  refine F.ok scNames (fun vs H Q E h => ?_) (fun cdv A outer s H vs Q E hr h => ?_)
  · obtain ⟨a, ns, lo, hi, rfl, _⟩ := h
    rfl
  · obtain ⟨a, ns, lo, hi, rfl, hS, hlo, hhi, h1, hz, nd, hP, kQ⟩ := h
    have hr1 : Room 1 _ := hr.mono (by decide)
    refine ⟨_, pss_cons (ps_if (pt_not (pt_chain op_le op_le (pv 1) (pe_callB call_len_seq (by rfl) hl PySem.boot_len (pa_cons (pv 0) pa_nil)) (pv 2))) (pss_one ps_never) pss_nil)
      (pss_cons (ps_for PassesOwn.never rfl (pi_list (pv 0)) (pg_name (i := 3) scNames.nd rfl (Or.inl rfl))
        (pss_one (ps_if (pt_not (pt_val (pe_call GN hr (by rfl) gN kN bN .nil pass0 (pa_cons (pv 3) pa_nil)))) (pss_one ps_never) pss_nil)))
      (pss_cons (ps_expr (pe_call GD hr1 (by rfl) gD kD bD .nil pass0 (pa_cons (pv 0) pa_nil)))
      (pss_one (ps_ret (pe_callTy call_tuple_of (by rfl) ht (by decide +kernel) (pa_cons (pe_callB cr_sortSQ (by rfl) hs (by decide +kernel) (pa_cons (pv 0) pa_nil)) pa_nil)))))), ?_⟩
    refine ⟨_, rfl, _, rfl, a, _, rfl, .inl hS, _, _, rfl, rfl, _, rfl, ?_⟩
    rw [List.length_map]
    refine if_t (decide_eq_true hlo) ⟨_, rfl, _, _, rfl, rfl, _, rfl, ?_⟩
    rw [decide_eq_true hhi]
    refine iteF ⟨_, rfl, a, rfl, ⟨_, hS⟩, for_list (K := K) (a := a) (xs := ns.map V.str) (fun i σ H' => ∃ v, σ = [some (.ref a), some (.int lo), some (.int hi), v] ∧ Grew P H H')
      ⟨none, rfl, Grew.refl hP⟩ (fun i σ H' _ ⟨_, _, g⟩ => g.sqL hP hS) ?_ ?_⟩
    · rintro i y σ H' hi ⟨v, rfl, g⟩
      obtain ⟨z, hzi, rfl⟩ : ∃ z, ns[i]? = some z ∧ y = V.str z := by
        rw [List.getElem?_map] at hi
        obtain ⟨z, e1, e2⟩ := Option.map_eq_some_iff.mp hi
        exact ⟨z, e1, e2.symm⟩
      have hn : isNm z = true := List.all_eq_true.mp hz z (List.mem_of_getElem? hzi)
      have hzl := isNm_len hn
      refine ⟨_, rfl, z, rfl, by rw [sizeLine_eq]; omega, g.tab, fun H2 t2 => ⟨_, rfl, ?_⟩⟩
      have g2 := g.trans (Grew.of t2)
      rw [hn]
      exact iteF ⟨_, rfl, g2⟩
    · rintro σ H' ⟨v, rfl, g⟩
      refine ⟨_, rfl, a, rfl, .inl ⟨ns, .inl (g.sqL hP hS), h1, nd⟩, ?_⟩
      refine ⟨_, rfl, a, ns, rfl, .inl (g.sqL hP hS), fun ys l hp hso hl => ⟨l, _, rfl, .inl ⟨SqL.of upd_same, fun p hp2 => ?_⟩⟩⟩
      have gl := g.put (o := .lst (ys.map V.str)) hl
      exact kQ _ p ys (gl.put hp2) (gl.free hp2) upd_same hp hso
/-- the road leads from place to place, for kinds of the map -/
structure RoadOk (d : Int) (ps ks : List Str) (r : RoadD) : Prop where
  s : r.start ∈ ps
  g : r.goal ∈ ps
  m1 : 1 ≤ r.minutes
  m2 : r.minutes ≤ 1000
  u : ∀ k ∈ r.users, k ∈ ks
  un : r.users.length ≤ 4
  ud : r.users.Nodup
  h : HoursOk d r.hours
/-- the road as the map keeps it -/
def Kept (r r' : RoadD) : Prop := r'.name = r.name ∧ r'.start = r.start ∧ r'.goal = r.goal ∧ r'.minutes = r.minutes ∧ r'.hours = r.hours ∧ r'.users.Perm r.users ∧ Asc r'.users
def spRoad (K : PySem.W.Frag) (P : Addr) : Sp := fun vs H Q _ => ∃ (x : V) (pl ki : Addr) (d : Int) (ps ks : List Str) (r : RoadD), vs = [x, .int d, .ref pl, .ref ki] ∧ GRoad K H r x ∧ SqT K H pl (ps.map V.str) ∧ SqT K H ki (ks.map V.str) ∧ RoadOk d ps ks r ∧ TabG H P ∧
  ∀ H' p q h r', Grew P H H' → Kept r r' → H p = none → H' p = some (.tup [.str r'.name, .str r'.start, .str r'.goal, .int r'.minutes, .ref q, h]) → H' q = some (.tup (r'.users.map V.str)) → GHours K H' r'.hours h → Q (.ref p) H'
theorem scRoad : FnScope ["road", "day", "places", "kinds", "name", "start", "end", "minutes", "users", "hours", "kind"] ["road", "day", "places", "kinds"] (defScope sRoad) := ⟨rfl, rfl, rfl, by decide +kernel, rfl, by decide +kernel, by decide +kernel⟩
theorem inV_str {x : Str} {xs : List Str} (h : x ∈ xs) : inV (.str x) (xs.map V.str) = true := by
  unfold inV
  rw [List.any_map, List.any_eq_true]
  exact ⟨x, h, by simp [eqV]⟩
theorem flat_strs (xs : List Str) : (xs.map V.str).all flatV = true := by
  rw [List.all_map]
  exact List.all_eq_true.mpr fun _ _ => rfl
theorem ok_road {f fH fD : Addr} {fd fdH fdD : FuncData} {t1 : Tok} (F : Fun K "_checked_road" "_checked_road" sRoad f fd) (ht : mg "tuple" = none) (hs : mg "sorted" = none) (hm : mg "MOST_MINUTES" = some (.int 1000 t1))
    (GD : FnOk Pg w K mg base CX0 1 fD fdD ["parts"] (spDiff K)) (gD : mg "_check_different" = some (.ref fD)) (kD : PySem.W.keepIn K (.ref fD) = true) (bD : Binds K fdD ["parts"] [])
    (GH : FnOk Pg w K mg base CX0 1 fH fdH ["hours", "day"] (spHours K P)) (gH : mg "_checked_hours" = some (.ref fH)) (kH : PySem.W.keepIn K (.ref fH) = true) (bH : Binds K fdH ["hours", "day"] []) :
    FnOk Pg w K mg base CX0 2 f fd ["road", "day", "places", "kinds"] (spRoad K P) := by
  refine F.ok scRoad (fun vs H Q E h => ?_) (fun cdv A outer s H vs Q E hr h => ?_)
  · obtain ⟨x, pl, ki, d, ps, ks, r, rfl, _⟩ := h
    rfl
  · obtain ⟨x, pl, ki, d, ps, ks, r, rfl, ⟨t, u, h, rfl, hT, hU, hH⟩, hPl, hKi, ok, hP, k⟩ := h
    refine ⟨_, pss_cons (ps_asg (pv 0) (pg_tup (by rfl) (pgs_cons (pg_name (i := 4) scRoad.nd rfl (.inl rfl)) (pgs_cons (pg_name (i := 5) scRoad.nd rfl (.inl rfl)) (pgs_cons (pg_name (i := 6) scRoad.nd rfl (.inl rfl))
        (pgs_cons (pg_name (i := 7) scRoad.nd rfl (.inl rfl)) (pgs_cons (pg_name (i := 8) scRoad.nd rfl (.inl rfl)) (pgs_cons (pg_name (i := 9) scRoad.nd rfl (.inl rfl)) pgs_nil))))))))
      (pss_cons (ps_if (PW.pt (pw_or (pt_cmpR op_notIn_seq (pv 5) (pv 2) (by rfl)) (pw_or1 (pt_cmpR op_notIn_seq (pv 6) (pv 2) (by rfl))))) (pss_one ps_never) pss_nil)
      (pss_cons (ps_if (pt_not (pt_chain op_le op_le pe_int (pv 7) (pe_gI hm))) (pss_one ps_never) pss_nil)
      (pss_cons (ps_for PassesOwn.never rfl (pi_tup (pv 8)) (pg_name (i := 10) scRoad.nd rfl (Or.inl rfl)) (pss_one (ps_if (pt_cmpR op_notIn_seq (pv 10) (pv 3) (by rfl)) (pss_one ps_never) pss_nil)))
      (pss_cons (ps_expr (pe_call GD hr (by rfl) gD kD bD .nil pass0 (pa_cons (pv 8) pa_nil)))
      (pss_one (ps_ret (pe_tup (pa_cons (pv 4) (pa_cons (pv 5) (pa_cons (pv 6) (pa_cons (pv 7) (pa_cons (pe_callTy call_tuple_of (by rfl) ht (by decide +kernel) (pa_cons (pe_callB cr_sortSQ (by rfl) hs (by decide +kernel) (pa_cons (pv 8) pa_nil)) pa_nil))
        (pa_cons (pe_call GH hr (by rfl) gH kH bH .nil pass0 (pa_cons (pv 9) (pa_cons (pv 1) pa_nil))) pa_nil))))))))))))), ?_⟩
    refine ⟨_, rfl, t, _, rfl, hT, rfl, _, _, rfl, _, _, rfl, _, _, rfl, _, _, rfl, _, _, rfl, _, _, rfl, rfl, ?_⟩
    have i1 := inV_str ok.s
    have i2 := inV_str ok.g
    refine ⟨_, rfl, _, rfl, pl, _, rfl, .inr hPl, rfl, flat_strs _, _, rfl, ?_⟩
    refine if_f (by simp [i1]) ?_
    refine ⟨_, rfl, _, rfl, pl, _, rfl, .inr hPl, rfl, flat_strs _, _, rfl, ?_⟩
    refine if_f (by simp [i2]) ?_
    refine ⟨_, rfl, _, _, rfl, rfl, _, rfl, if_t (decide_eq_true ok.m1) ⟨_, _, rfl, rfl, _, rfl, ?_⟩⟩
    rw [decide_eq_true ok.m2]
    refine iteF ?_
    refine ⟨_, rfl, u, rfl, ⟨_, hU⟩, for_tup (K := K) (a := u) (xs := r.users.map V.str) (fun i σ H' => H' = H ∧ ∃ v, σ = [some (.ref t), some (.int d), some (.ref pl), some (.ref ki), some (.str r.name), some (.str r.start), some (.str r.goal), some (.int r.minutes), some (.ref u), some h, v])
      ⟨rfl, none, rfl⟩ (fun i σ H' _ ⟨e, _⟩ => by rw [e]; exact hU) ?_ ?_⟩
    · rintro i y σ H' hi ⟨rfl, v, rfl⟩
      obtain ⟨z, hzi, rfl⟩ : ∃ z, r.users[i]? = some z ∧ y = V.str z := by
        rw [List.getElem?_map] at hi
        obtain ⟨z, e1, e2⟩ := Option.map_eq_some_iff.mp hi
        exact ⟨z, e1, e2.symm⟩
      have i3 := inV_str (ok.u z (List.mem_of_getElem? hzi))
      refine ⟨_, rfl, _, rfl, ki, _, rfl, .inr hKi, rfl, flat_strs _, _, rfl, ?_⟩
      refine if_f (by simp [i3]) ⟨rfl, _, rfl⟩
    · rintro σ H' ⟨rfl, v, rfl⟩
      have un := ok.un
      refine ⟨_, rfl, u, rfl, .inl ⟨r.users, .inr hU, by omega, ok.ud⟩, ?_⟩
      refine ⟨_, rfl, _, rfl, _, rfl, _, rfl, _, rfl, u, r.users, rfl, .inr hU, fun ys l hp hso hl => ⟨l, _, rfl, .inl ⟨SqL.of upd_same, fun q hq => ?_⟩⟩⟩
      have gl := Grew.new hP (o := .lst (ys.map V.str)) hl
      have gq := gl.put (o := .tup (ys.map V.str)) hq
      refine ⟨_, rfl, _, rfl, d, r.hours, h, rfl, hH.keep (KeepT.grew gq hP), ok.h, gq.tab, fun H2 v' g2 hv => ⟨by show 6 ≤ sizeLine; decide, fun p hp2 => ?_⟩⟩
      have g3 := gq.trans g2
      have gp := g3.put (o := .tup [.str r.name, .str r.start, .str r.goal, .int r.minutes, .ref q, v']) hp2
      have e2 : H2 q = some (.tup (ys.map V.str)) := g2.tup gq.tab upd_same
      exact k _ p q v' { r with users := ys } gp ⟨rfl, rfl, rfl, rfl, rfl, hp, hso⟩ (g3.free hp2) upd_same (by rw [upd_ne (ne_of_none e2 hp2)]; exact e2) (hv.keep (KeepT.new hp2))
end
end W

set_option Elab.async false
set_option linter.all false
set_option maxRecDepth 100000
set_option maxHeartbeats 400000
namespace W
open PySem PySem.Spec PyProof.Rows L2 GxR MyG MyS
/-! ### _checked_roads -/
/-- a road that was made here: its own tuples stand tracked, none was there at H0 -/
def MadeR (K : PySem.W.Frag) (H0 H : Hp) (r : RoadD) (v : V) : Prop := ∃ r' p q h, v = .ref p ∧ H0 p = none ∧ Kept r r' ∧ H p = some (.tup [.str r'.name, .str r'.start, .str r'.goal, .int r'.minutes, .ref q, h]) ∧ H q = some (.tup (r'.users.map V.str)) ∧ GHours K H r'.hours h
/-- the road v at H -/
def RoadAt (K : PySem.W.Frag) (H : Hp) (r : RoadD) (v : V) : Prop := ∃ p q h, v = .ref p ∧ H p = some (.tup [.str r.name, .str r.start, .str r.goal, .int r.minutes, .ref q, h]) ∧ H q = some (.tup (r.users.map V.str)) ∧ GHours K H r.hours h
theorem RoadAt.grew {K : PySem.W.Frag} {P : Addr} {H H' : Hp} {r : RoadD} {v : V} (g : Grew P H H') (h : TabG H P) (m : RoadAt K H r v) : RoadAt K H' r v := by
  obtain ⟨p, q, hv, e, e1, e2, e3⟩ := m
  exact ⟨p, q, hv, e, g.tup h e1, g.tup h e2, e3.keep (KeepT.grew g h)⟩
theorem RoadAt.upd {K : PySem.W.Frag} {H : Hp} {D : Addr} {o : HO} {r : RoadD} {v : V} (nt : ∀ xs, H D ≠ some (.tup xs)) (kt : KeepT K H (L2.upd H D o)) (m : RoadAt K H r v) : RoadAt K (L2.upd H D o) r v := by
  obtain ⟨p, q, hv, e, e1, e2, e3⟩ := m
  exact ⟨p, q, hv, e, by rw [upd_ne (fun z => nt _ (z ▸ e1))]; exact e1, by rw [upd_ne (fun z => nt _ (z ▸ e2))]; exact e2, e3.keep kt⟩
theorem RoadAt.road {K : PySem.W.Frag} {H : Hp} {r : RoadD} {v : V} (m : RoadAt K H r v) : GRoad K H r v := by
  obtain ⟨p, q, hv, e, e1, e2, e3⟩ := m
  exact ⟨p, q, hv, e, SqT.of e1, SqT.of e2, e3⟩
theorem ex_list {α β : Type} {F : α → β → Prop} : ∀ (l : List α), (∀ a ∈ l, ∃ b, F a b) → ∃ m, Paired F l m
  | [], _ => ⟨[], .nil⟩
  | a :: l, h => by
    obtain ⟨b, hb⟩ := h a List.mem_cons_self
    obtain ⟨m, hm⟩ := ex_list l fun a ha => h a (List.mem_cons_of_mem _ ha)
    exact ⟨b :: m, .cons hb hm⟩
theorem Paired.mem {α β : Type} {F : α → β → Prop} : ∀ {l : List α} {m : List β} {b : β}, Paired F l m → b ∈ m → ∃ a ∈ l, F a b
  | _, _, _, .cons r t, h => by
    rcases List.mem_cons.mp h with e | h
    · exact ⟨_, List.mem_cons_self, e ▸ r⟩
    · obtain ⟨a, ha, f⟩ := Paired.mem t h
      exact ⟨a, List.mem_cons_of_mem _ ha, f⟩
theorem Paired.mem' {α β : Type} {F : α → β → Prop} : ∀ {l : List α} {m : List β} {a : α}, Paired F l m → a ∈ l → ∃ b ∈ m, F a b
  | _, _, _, .cons r t, h => by
    rcases List.mem_cons.mp h with e | h
    · exact ⟨_, List.mem_cons_self, e ▸ r⟩
    · obtain ⟨a, ha, f⟩ := Paired.mem' t h
      exact ⟨a, List.mem_cons_of_mem _ ha, f⟩
theorem Paired.comp {α β γ : Type} {F : α → β → Prop} {G : β → γ → Prop} {E : α → γ → Prop} (h : ∀ a b c, F a b → G b c → E a c) : ∀ {l : List α} {m : List β} {n : List γ}, Paired F l m → Paired G m n → Paired E l n
  | _, _, _, .nil, .nil => .nil
  | _, _, _, .cons r t, .cons r' t' => .cons (h _ _ _ r r') (Paired.comp h t t')
/-- the values in another order: the things behind them too -/
theorem Paired.perm {α β : Type} {F : α → β → Prop} {m m' : List β} (p : m'.Perm m) : ∀ {l : List α}, Paired F l m → ∃ l' : List α, l'.Perm l ∧ Paired F l' m' := by
  induction p with
  | nil => exact fun h => ⟨_, List.Perm.refl _, h⟩
  | cons x p ih =>
    intro l h
    cases h with
    | cons r t =>
      obtain ⟨l', q1, q2⟩ := ih t
      exact ⟨_ :: l', q1.cons _, .cons r q2⟩
  | swap x y l0 =>
    intro l h
    cases h with
    | cons r t =>
      cases t with
      | cons r2 t => exact ⟨_ :: _ :: _, List.Perm.swap .., .cons r2 (.cons r t)⟩
  | trans p q ih1 ih2 =>
    intro l h
    obtain ⟨l1, a1, a2⟩ := ih2 h
    obtain ⟨l2, b1, b2⟩ := ih1 a2
    exact ⟨l2, b1.trans a1, b2⟩
theorem Paired.pair {α β : Type} {F : α → β → Prop} {R : β → β → Prop} {S : α → α → Prop} (h : ∀ a b x y, F a x → F b y → R x y → S a b) : ∀ {l : List α} {m : List β}, Paired F l m → m.Pairwise R → l.Pairwise S
  | _, _, .nil, _ => List.Pairwise.nil
  | _, _, .cons r t, p => by
    have q := List.pairwise_cons.mp p
    refine List.pairwise_cons.mpr ⟨fun a ha => ?_, Paired.pair h t q.2⟩
    obtain ⟨b, hb, f⟩ := Paired.mem' t ha
    exact h _ _ _ _ r f (q.1 b hb)
theorem Paired.inj {α β γ : Type} {F : α → β → Prop} {f : α → γ} {l : List α} {m : List β} (h : Paired F l m) (nd : (l.map f).Nodup) {x y : β} (hx : x ∈ m) (hy : y ∈ m) (hxy : ∀ a b, F a x → F b y → f a = f b) : x = y := by
  obtain ⟨i, hi, ei⟩ := List.getElem_of_mem hx
  obtain ⟨j, hj, ej⟩ := List.getElem_of_mem hy
  obtain ⟨a, ha, fa⟩ := Paired.at h (List.getElem?_eq_some_iff.mpr ⟨hi, ei⟩)
  obtain ⟨b, hb, fb⟩ := Paired.at h (List.getElem?_eq_some_iff.mpr ⟨hj, ej⟩)
  have e := hxy a b fa fb
  obtain ⟨hi', ea⟩ := List.getElem?_eq_some_iff.mp ha
  obtain ⟨hj', eb⟩ := List.getElem?_eq_some_iff.mp hb
  have ij : i = j := by
    rcases Nat.lt_trichotomy i j with c | c | c
    · exact absurd (by rw [List.getElem_map, List.getElem_map, ea, eb]; exact e) (List.pairwise_iff_getElem.mp nd i j (by rw [List.length_map]; exact hi') (by rw [List.length_map]; exact hj') c)
    · exact c
    · exact absurd (by rw [List.getElem_map, List.getElem_map, ea, eb]; exact e.symm) (List.pairwise_iff_getElem.mp nd j i (by rw [List.length_map]; exact hj') (by rw [List.length_map]; exact hi') c)
  subst ij
  exact ei.symm.trans ej
theorem kept_names : ∀ {rs ms : List RoadD}, Paired Kept rs ms → ms.map (·.name) = rs.map (·.name)
  | _, _, .nil => rfl
  | _, _, .cons r t => by
    rw [List.map_cons, List.map_cons, kept_names t, r.1]
/-- the name of a road's tuple -/
def nameAt (H : Hp) : V → Str
  | .ref t => match H t with
    | some (.tup (.str n :: _)) => n
    | _ => Str.empty
  | _ => Str.empty
theorem RoadAt.name {K : PySem.W.Frag} {H : Hp} {r : RoadD} {v : V} (m : RoadAt K H r v) : nameAt H v = r.name := by
  obtain ⟨p, q, hv, e, e1, _⟩ := m
  subst e
  unfold nameAt
  simp only [e1]
/-- the roads as the map keeps them: the same ones, each as it is kept, by their names -/
def KeptAll (rs rs' : List RoadD) : Prop := ∃ l, l.Perm rs' ∧ Paired Kept rs l
def AscR (rs : List RoadD) : Prop := rs.Pairwise fun a b => slt b.name a.name = false
structure RoadsOk (d : Int) (ps ks : List Str) (rs : List RoadD) : Prop where
  len : rs.length ≤ 60
  nm : (rs.map (·.name)).all isNm = true
  nd : (rs.map (·.name)).Nodup
  ok : ∀ r ∈ rs, RoadOk d ps ks r
def spRoads (K : PySem.W.Frag) (P : Addr) : Sp := fun vs H Q _ => ∃ (a pl ki : Addr) (d : Int) (ps ks : List Str) (rs : List RoadD) (xs : List V), vs = [.ref a, .int d, .ref pl, .ref ki] ∧ SqL K H a xs ∧ Paired (GRoad K H) rs xs ∧ SqT K H pl (ps.map V.str) ∧ SqT K H ki (ks.map V.str) ∧ RoadsOk d ps ks rs ∧ TabG H P ∧
  ∀ H' p rs' ys, Grew P H H' → KeptAll rs rs' → AscR rs' → H p = none → H' p = some (.tup ys) → Paired (RoadAt K H') rs' ys → Q (.ref p) H'
section
variable {Pg : Program} {w : World} {K : PySem.W.Frag} {mg : Str → Option Value} {base : Heap} {C P : Addr}
abbrev nRoads : List Str := ["roads", "day", "places", "kinds", "road", "kept"]
theorem scRoads : FnScope nRoads ["roads", "day", "places", "kinds"] (defScope sRoads) := ⟨rfl, rfl, rfl, by decide +kernel, rfl, by decide +kernel, by decide +kernel⟩
theorem ok_roads {f fN fR : Addr} {fd fdN fdR : FuncData} {t1 t2 t3 : Tok} (F : Fun K "_checked_roads" "_checked_roads" sRoads f fd) (hl : mg "len" = none) (ht : mg "tuple" = none) (hs : mg "sorted" = none)
    (hp : mg "PARTS" = some (.int 6 t1)) (hn : mg "NAME" = some (.int 0 t2)) (hm : mg "MOST_ROADS" = some (.int 60 t3))
    (GN : FnOk Pg w K mg base CX0 3 fN fdN ["names", "least", "most"] (spNames K P)) (gN : mg "_checked_names" = some (.ref fN)) (kN : PySem.W.keepIn K (.ref fN) = true) (bN : Binds K fdN ["names", "least", "most"] [])
    (GR : FnOk Pg w K mg base CX0 2 fR fdR ["road", "day", "places", "kinds"] (spRoad K P)) (gR : mg "_checked_road" = some (.ref fR)) (kR : PySem.W.keepIn K (.ref fR) = true) (bR : Binds K fdR ["road", "day", "places", "kinds"] []) :
    FnOk Pg w K mg base CX0 4 f fd ["roads", "day", "places", "kinds"] (spRoads K P) := by
  refine F.ok scRoads (fun vs H Q E h => ?_) (fun cdv A outer s H vs Q E hr h => ?_)
  · obtain ⟨a, pl, ki, d, ps, ks, rs, xs, rfl, _⟩ := h
    rfl
  · obtain ⟨a, pl, ki, d, ps, ks, rs, xs, rfl, hS, hG, hPl, hKi, ok, hP, k⟩ := h
    have hr2 : Room 2 _ := hr.mono (by decide)
    refine ⟨_, pss_cons (ps_for PassesOwn.never rfl (pi_list (pv 0)) (pg_name (i := 4) scRoads.nd rfl (Or.inl rfl)) (pss_one (ps_if (pt_cmpR op_ne (pe_callB call_len_seq (by rfl) hl PySem.boot_len (pa_cons (pv 4) pa_nil)) (pe_gI hp) (nomark _)) (pss_one ps_never) pss_nil)))
      (pss_cons (ps_expr (pe_call GN hr (by rfl) gN kN bN .nil pass0 (pa_cons (pe_lc (own := [("road", 4)]) (g := gName 4) (tt := tYes) rfl scRoads.nd (pi_list (pv 0)) (blkOk_by (N := nRoads) (sc := defScope sRoads) (by decide +kernel)) (fun _ _ _ _ _ => pg_name (i := 4) scRoads.nd rfl (Or.inl rfl)) (fun _ _ _ _ _ => pts_nil)
          (fun _ _ _ _ _ => pe_ix (r := rIxT K) ix_tup (pv 4) (pe_gI hn) (fun _ _ => rfl))) (pa_cons pe_int (pa_cons (pe_gI hm) pa_nil)))))
      (pss_cons (ps_setLc (i := 5) (own := [("road", 4)]) (g := gName 4) (tt := tYes) rfl scRoads.nd rfl rfl (sw_true rfl rfl rfl (by decide +kernel)) (pi_list (pv 0)) (blkOk_by (N := nRoads) (sc := defScope sRoads) (by decide +kernel)) (fun _ _ _ _ _ => pg_name (i := 4) scRoads.nd rfl (Or.inl rfl)) (fun _ _ _ _ _ => pts_nil)
          (fun _ _ _ _ _ => pe_call GR hr2 (by rfl) gR kR bR .nil pass0 (pa_cons (pv 4) (pa_cons (pv 1) (pa_cons (pv 2) (pa_cons (pv 3) pa_nil))))))
      (pss_one (ps_ret (pe_callTy call_tuple_of (by rfl) ht (by decide +kernel) (pa_cons (pe_callB cr_sortR (by rfl) hs (by decide +kernel) (pa_cons (pv 5) pa_nil)) pa_nil)))))), ?_⟩
    have hln : rs.length = xs.length := Paired.len hG
    have hl60 := ok.len
    refine ⟨_, rfl, a, rfl, ⟨_, hS⟩, for_list (K := K) (a := a) (xs := xs) (fun i σ H' => H' = H ∧ ∃ v, σ = [some (.ref a), some (.int d), some (.ref pl), some (.ref ki), v, none])
      ⟨rfl, none, rfl⟩ (fun i σ H' _ ⟨e, _⟩ => by rw [e]; exact hS) ?_ ?_⟩
    · rintro i y σ H' hi ⟨rfl, v, rfl⟩
      obtain ⟨r, hr, t, u, h, rfl, hT, _⟩ := Paired.at hG hi
      refine ⟨_, rfl, t, _, rfl, .inr hT, rfl, _, rfl, ?_⟩
      exact if_f (by rfl) ⟨rfl, _, rfl⟩
    · rintro σ H' ⟨rfl, v, rfl⟩
      refine ⟨_, rfl, a, rfl, ⟨_, hS⟩, fun D nD => lc_list (K := K) (a := a) (xs := xs) (fun i H1 => Grew P H' H1 ∧ H1 D = some (.lst (((rs.map (·.name)).take i).map V.str)))
        ⟨Grew.new hP nD, upd_same⟩ (fun i H1 _ p => p.1.sqL hP hS) (fun i x H1 hx p => ?_) (fun H1 p => ?_)⟩
      · obtain ⟨g, hD⟩ := p
        obtain ⟨r, hr, t, u, h, rfl, hT, _⟩ := Paired.at hG hx
        refine ⟨rfl, _, rfl, t, _, 0, .str r.name, rfl, rfl, g.sqT hP hT, rfl, _, hD, ?_, ?_, ?_⟩
        · rw [List.length_map, List.length_take, List.length_map, sizeLine_eq]
          omega
        · exact g.write hD (fun _ z => by cases z) nD
        · rw [upd_same, List.take_succ, List.getElem?_map, hr, List.map_append]
          rfl
      · obtain ⟨g, hD⟩ := p
        rw [← hln, ← List.length_map (f := (·.name)), List.take_length] at hD
        refine ⟨D, rs.map (·.name), 0, 60, rfl, SqL.of hD, by omega, by rw [List.length_map]; omega, by rw [List.length_map]; omega, ok.nm, ok.nd, g.tab, fun H2 p2 ys2 g2 np e2 _ _ => ?_⟩
        have g3 := g.trans g2
        refine ⟨_, rfl, a, rfl, ⟨_, g3.sqL hP hS⟩, fun D2 nD2 => lc_list (K := K) (a := a) (xs := xs) (fun i H1 => Grew P H' H1 ∧ ∃ acc ms, H1 D2 = some (.lst acc) ∧ Paired Kept (rs.take i) ms ∧ Paired (RoadAt K H1) ms acc)
          ⟨g3.put nD2, [], [], upd_same, .nil, .nil⟩ (fun i H1 _ p => p.1.sqL hP hS) (fun i x H1 hx p => ?_) (fun H1 p => ?_)⟩
        · obtain ⟨g4, acc, ms, hD4, hk4, hm4⟩ := p
          obtain ⟨r, hr, hgr⟩ := Paired.at hG hx
          have nD2' := g3.free nD2
          refine ⟨rfl, _, rfl, _, rfl, _, rfl, _, rfl, x, pl, ki, d, ps, ks, r, rfl, hgr.keep (KeepT.grew g4 hP), g4.sqT hP hPl, g4.sqT hP hKi, ok.ok r (List.mem_of_getElem? hr), g4.tab, fun H5 p5 q5 h5 r5 g5 kp n5 e5 f5 hh5 => ?_⟩
          have hD5 := g5.lst g4.tab hD4
          have g45 := g4.trans g5
          refine ⟨acc, hD5, ?_, g45.write hD5 (fun _ z => by cases z) nD2', acc ++ [.ref p5], ms ++ [r5], upd_same, ?_, ?_⟩
          · rw [← Paired.len hm4, ← Paired.len hk4, List.length_take, sizeLine_eq]
            omega
          · rw [List.take_succ, hr]
            exact Paired.snoc hk4 kp
          · have up : ∀ {r : RoadD} {v : V}, RoadAt K H5 r v → RoadAt K (L2.upd H5 D2 (.lst (acc ++ [.ref p5]))) r v := fun m => m.upd (fun xs z => by rw [hD5] at z; cases z) (KeepT.lst hD5)
            exact Paired.snoc (Paired.map' hm4 fun r v m => up (m.grew g5 g4.tab)) (up ⟨p5, q5, h5, rfl, e5, f5, hh5⟩)
        · obtain ⟨g4, acc, ms, hD4, hk4, hm4⟩ := p
          rw [← hln, List.take_length] at hk4
          have nd : (ms.map (·.name)).Nodup := by rw [kept_names hk4]; exact ok.nd
          refine ⟨_, rfl, D2, acc, nameAt H1, rfl, SqL.of hD4, fun x hx => ?_, fun x hx y hy e => Paired.inj hm4 nd hx hy fun r r' m m' => by rw [← m.name, ← m'.name]; exact e, fun ys l hpm hso hl => ⟨l, _, rfl, .inl ⟨SqL.of upd_same, fun p hp2 => ?_⟩⟩⟩
          · obtain ⟨r, _, m⟩ := Paired.mem hm4 hx
            have nm := m.name
            obtain ⟨p, q, hv, e, e1, _⟩ := m
            exact ⟨p, _, e, by rw [nm]; exact SqT.of e1⟩
          · obtain ⟨rs', pm, hr'⟩ := Paired.perm hpm hm4
            have gl := Grew.new g4.tab (o := .lst ys) hl
            have gp := gl.put (o := .tup ys) hp2
            exact k _ p rs' ys (g4.trans gp) ⟨ms, pm.symm, hk4⟩ (Paired.pair (fun a b x y m m' e => by rw [m.name, m'.name] at e; exact e) hr' hso) (g4.free (gl.free hp2)) upd_same (Paired.map' hr' fun _ _ m => m.grew gp g4.tab)
end
end W

set_option Elab.async false
set_option linter.all false
set_option maxRecDepth 100000
set_option maxHeartbeats 400000
namespace W
open PySem PySem.Spec PyProof.Rows L2 GxR MyG MyS
/-! ### _checked_bars -/
theorem u1 {n : Nat} (h : n + 64 < cLine) : n + 1 < cLine := by omega
def GBar (H : Hp) (b : Str × Str) (v : V) : Prop := ∃ t, v = .ref t ∧ H t = some (.tup [.str b.1, .str b.2])
theorem GBar.grew {P : Addr} {H H' : Hp} {b : Str × Str} {v : V} (g : Grew P H H') (h : TabG H P) (m : GBar H b v) : GBar H' b v := let ⟨t, e, q⟩ := m; ⟨t, e, g.tup h q⟩
theorem GBar.upd {H : Hp} {D : Addr} {o : HO} {b : Str × Str} {v : V} (nt : ∀ xs, H D ≠ some (.tup xs)) (m : GBar H b v) : GBar (L2.upd H D o) b v := by
  obtain ⟨t, e, q⟩ := m
  exact ⟨t, e, by rw [upd_ne (fun z => nt _ (z ▸ q))]; exact q⟩
/-- the pair of a bar's tuple -/
def barAt (H : Hp) : V → Str × Str
  | .ref t => match H t with
    | some (.tup [.str a, .str b]) => (a, b)
    | _ => (Str.empty, Str.empty)
  | _ => (Str.empty, Str.empty)
theorem GBar.at {H : Hp} {b : Str × Str} {v : V} (m : GBar H b v) : barAt H v = b := by
  obtain ⟨t, e, q⟩ := m
  subst e
  unfold barAt
  simp only [q]
theorem bars_keys {H : Hp} {K : PySem.W.Frag} : ∀ {bs : List (Str × Str)} {xs : List V}, Paired (GBar H) bs xs → ∃ ks : List (Addr × List Str), xs = ks.map (fun p => V.ref p.1) ∧ ks.map (·.2) = bs.map (fun b => [b.1, b.2]) ∧ ∀ p ∈ ks, SqT K H p.1 (p.2.map V.str)
  | _, _, .nil => ⟨[], rfl, rfl, fun _ h => by cases h⟩
  | _, _, .cons (a := b) ⟨t, e, q⟩ r => by
    obtain ⟨ks, e1, e2, e3⟩ := bars_keys (K := K) r
    refine ⟨(t, [b.1, b.2]) :: ks, by rw [e, e1]; rfl, by rw [List.map_cons, List.map_cons, e2], fun p hp => ?_⟩
    rcases List.mem_cons.mp hp with z | z
    · rw [z]; exact SqT.of q
    · exact e3 p z
theorem nodup_bars {bs : List (Str × Str)} (h : bs.Nodup) : (bs.map (fun b => [b.1, b.2])).Nodup :=
  List.pairwise_map.mpr (h.imp fun {a b} ne e => ne (Prod.ext (List.cons.inj e).1 (List.cons.inj (List.cons.inj e).2).1))
/-- the dict of the roads by their names -/
def DictR (K : PySem.W.Frag) (H : Hp) (d : Addr) (rs : List RoadD) : Prop := ∃ kvs, H d = some (.dK kvs) ∧ (∀ r ∈ rs, ∃ v, valV kvs (.inr r.name) = some v ∧ RoadAt K H r v) ∧ ∀ z, (∀ r ∈ rs, r.name ≠ z) → valV kvs (.inr z) = none
theorem DictR.grew {K : PySem.W.Frag} {P d : Addr} {H H' : Hp} {rs : List RoadD} (g : Grew P H H') (h : TabG H P) (m : DictR K H d rs) : DictR K H' d rs := by
  obtain ⟨kvs, e, m1, m2⟩ := m
  exact ⟨kvs, g.get h e (fun _ z => by cases z), fun r hr => let ⟨v, a, b⟩ := m1 r hr; ⟨v, a, b.grew g h⟩, m2⟩
structure BarsOk (rs : List RoadD) (bs : List (Str × Str)) : Prop where
  len : bs.length ≤ 40
  nd : bs.Nodup
  ok : ∀ b ∈ bs, ∃ r1 ∈ rs, ∃ r2 ∈ rs, b.1 = r1.name ∧ b.2 = r2.name ∧ r1.goal = r2.start
def AscB (bs : List (Str × Str)) : Prop := bs.Pairwise fun a b => slt2 b a = false
def spBars (K : PySem.W.Frag) (P : Addr) : Sp := fun vs H Q _ => ∃ (a d : Addr) (rs : List RoadD) (bs : List (Str × Str)) (xs : List V), vs = [.ref a, .ref d] ∧ SqL K H a xs ∧ Paired (GBar H) bs xs ∧ DictR K H d rs ∧ BarsOk rs bs ∧ TabG H P ∧
  ∀ H' p bs' ys, Grew P H H' → bs'.Perm bs → AscB bs' → H p = none → H' p = some (.tup ys) → Paired (GBar H') bs' ys → Q (.ref p) H'
section
variable {Pg : Program} {w : World} {K : PySem.W.Frag} {mg : Str → Option Value} {base : Heap} {C P : Addr}
abbrev nBars : List Str := ["bars", "roads_by_name", "bar", "first", "second", "kept"]
theorem scBars : FnScope nBars ["bars", "roads_by_name"] (defScope sBars) := ⟨rfl, rfl, rfl, by decide +kernel, rfl, by decide +kernel, by decide +kernel⟩
theorem ok_bars {f fD : Addr} {fd fdD : FuncData} {t1 t2 t3 : Tok} (F : Fun K "_checked_bars" "_checked_bars" sBars f fd) (hl : mg "len" = none) (ht : mg "tuple" = none) (hs : mg "sorted" = none)
    (hm : mg "MOST_BARS" = some (.int 40 t1)) (he : mg "END" = some (.int 2 t2)) (hst : mg "START" = some (.int 1 t3))
    (GD : FnOk Pg w K mg base CX0 1 fD fdD ["parts"] (spDiff K)) (gD : mg "_check_different" = some (.ref fD)) (kD : PySem.W.keepIn K (.ref fD) = true) (bD : Binds K fdD ["parts"] []) :
    FnOk Pg w K mg base CX0 2 f fd ["bars", "roads_by_name"] (spBars K P) := by
  refine F.ok scBars (fun vs H Q E h => ?_) (fun cdv A outer s H vs Q E hr h => ?_)
  · obtain ⟨a, d, rs, bs, xs, rfl, _⟩ := h
    rfl
  · obtain ⟨a, d, rs, bs, xs, rfl, hS, hG, hD, ok, hP, k⟩ := h
    refine ⟨_, pss_cons (ps_if (pt_cmpR op_gt (pe_callB call_len_seq (by rfl) hl PySem.boot_len (pa_cons (pv 0) pa_nil)) (pe_gI hm) (nomark _)) (pss_one ps_never) pss_nil)
      (pss_cons (ps_for PassesOwn.never rfl (pi_list (pv 0)) (pg_name (i := 2) scBars.nd rfl (Or.inl rfl))
        (pss_cons (ps_if (pt_cmpR op_ne (pe_callB call_len_seq (by rfl) hl PySem.boot_len (pa_cons (pv 2) pa_nil)) pe_int (nomark _)) (pss_one ps_never) pss_nil)
        (pss_cons (ps_asg (pv 2) (pg_tup (by rfl) (pgs_cons (pg_name (i := 3) scBars.nd rfl (.inl rfl)) (pgs_cons (pg_name (i := 4) scBars.nd rfl (.inl rfl)) pgs_nil))))
        (pss_cons (ps_if (PW.pt (pw_or (pt_cmp (pc_dnotin (u1 hr.units) (pv 3) (pv 1))) (pw_or1 (pt_cmp (pc_dnotin (u1 hr.units) (pv 4) (pv 1)))))) (pss_one ps_never) pss_nil)
        (pss_one (ps_if (pt_cmpR op_ne (pe_ix ix_tup (pe_dget (u1 hr.units) (pv 1) (pv 3) (fun _ _ => rfl)) (pe_gI he) (fun _ _ => rfl)) (pe_ix ix_tup (pe_dget (u1 hr.units) (pv 1) (pv 4) (fun _ _ => rfl)) (pe_gI hst) (fun _ _ => rfl)) (nomark _)) (pss_one ps_never) pss_nil))))))
      (pss_cons (ps_setLc (i := 5) (own := [("bar", 2)]) (g := gName 2) (tt := tYes) rfl scBars.nd rfl rfl (sw_true rfl rfl rfl (by decide +kernel)) (pi_list (pv 0)) (blkOk_by (N := nBars) (sc := defScope sBars) (by decide +kernel)) (fun _ _ _ _ _ => pg_name (i := 2) scBars.nd rfl (Or.inl rfl)) (fun _ _ _ _ _ => pts_nil)
          (fun _ _ _ _ _ => pe_callTy (r := rTupOf K) call_tuple_of (by rfl) ht (by decide +kernel) (pa_cons (pv 2) pa_nil)))
      (pss_cons (ps_expr (pe_call GD (hr.mono (by decide)) (by rfl) gD kD bD .nil pass0 (pa_cons (pv 5) pa_nil)))
      (pss_one (ps_ret (pe_callTy call_tuple_of (by rfl) ht (by decide +kernel) (pa_cons (pe_callB cr_sortB (by rfl) hs (by decide +kernel) (pa_cons (pv 5) pa_nil)) pa_nil))))))), ?_⟩
    have hln := Paired.len hG
    have hl40 := ok.len
    refine ⟨_, rfl, a, _, rfl, .inl hS, _, _, rfl, rfl, _, rfl, if_f (decide_eq_false (by omega)) ?_⟩
    refine ⟨_, rfl, a, rfl, ⟨_, hS⟩, for_list (K := K) (a := a) (xs := xs) (fun i σ H' => H' = H ∧ ∃ v1 v2 v3, σ = [some (.ref a), some (.ref d), v1, v2, v3, none])
      ⟨rfl, none, none, none, rfl⟩ (fun i σ H' _ ⟨e, _⟩ => by rw [e]; exact hS) ?_ ?_⟩
    · rintro i y σ H' hi ⟨rfl, v1, v2, v3, rfl⟩
      obtain ⟨b, hb, t, rfl, hT⟩ := Paired.at hG hi
      obtain ⟨r1, hr1, r2, hr2, e1, e2, e3⟩ := ok.ok b (List.mem_of_getElem? hb)
      obtain ⟨kvs, hd, hin, _⟩ := hD
      obtain ⟨w1, l1, p1, q1, h1, rfl, a1, _, _⟩ := hin r1 hr1
      obtain ⟨w2, l2, p2, q2, h2, rfl, a2, _, _⟩ := hin r2 hr2
      rw [← e1] at l1
      rw [← e2] at l2
      have g1 : DGet H' d (.str b.1) (some (.ref p1)) := by rw [← l1]; exact DGet.k (k := .inr b.1) hd
      have g2 : DGet H' d (.str b.2) (some (.ref p2)) := by rw [← l2]; exact DGet.k (k := .inr b.2) hd
      refine ⟨_, rfl, t, _, rfl, .inr (SqT.of hT), rfl, _, rfl, if_f (by rfl) ?_⟩
      refine ⟨_, rfl, t, _, rfl, SqT.of hT, rfl, _, _, rfl, _, _, rfl, rfl, ?_⟩
      refine ⟨_, rfl, _, rfl, d, _, rfl, g1, _, rfl, if_f (by rfl) ?_⟩
      refine ⟨_, rfl, _, rfl, d, _, rfl, g2, _, rfl, if_f (by rfl) ?_⟩
      refine ⟨_, rfl, _, rfl, d, _, rfl, g1, p1, _, 2, .str r1.goal, rfl, rfl, SqT.of a1, rfl, _, rfl, _, rfl, d, _, rfl, g2, p2, _, 1, .str r2.start, rfl, rfl, SqT.of a2, rfl, rfl, _, rfl, if_f ?_ ⟨rfl, _, _, _, rfl⟩⟩
      rw [e3]
      simp
    · rintro σ H' ⟨rfl, v1, v2, v3, rfl⟩
      refine ⟨_, rfl, a, rfl, ⟨_, hS⟩, fun D nD => lc_list (K := K) (a := a) (xs := xs) (fun i H1 => Grew P H' H1 ∧ H1 D = some (.lst (xs.take i)))
        ⟨Grew.new hP nD, upd_same⟩ (fun i H1 _ p => p.1.sqL hP hS) (fun i x H1 hx p => ?_) (fun H1 p => ?_)⟩
      · obtain ⟨g, hD1⟩ := p
        obtain ⟨b, hb, t, rfl, hT⟩ := Paired.at hG hx
        refine ⟨rfl, _, rfl, t, _, rfl, .inr ⟨SqT.of (g.tup hP hT), _, hD1, ?_, g.write hD1 (fun _ z => by cases z) nD, ?_⟩⟩
        · rw [List.length_take, sizeLine_eq]; omega
        · rw [upd_same, List.take_succ, hx]; rfl
      · obtain ⟨g, hD1⟩ := p
        rw [List.take_length] at hD1
        have hG1 : Paired (GBar H1) bs xs := Paired.map' hG fun b v m => m.grew g hP
        obtain ⟨ks, ek1, ek2, ek3⟩ := bars_keys (K := K) hG1
        have lk : ks.length = xs.length := by rw [ek1, List.length_map]
        refine ⟨_, rfl, D, rfl, .inr ⟨ks, by rw [← ek1]; exact SqL.of hD1, ek3, by omega, by rw [ek2]; exact nodup_bars ok.nd⟩, ?_⟩
        refine ⟨_, rfl, D, xs, barAt H1, rfl, SqL.of hD1, fun x hx => ?_, fun ys l hpm hso hl => ⟨l, _, rfl, .inl ⟨SqL.of upd_same, fun p hp2 => ?_⟩⟩⟩
        · obtain ⟨b, _, m⟩ := Paired.mem hG1 hx
          have nm := m.at
          obtain ⟨t, e, q⟩ := m
          exact ⟨t, e, by rw [nm]; exact SqT.of q⟩
        · obtain ⟨bs', pm, hr'⟩ := Paired.perm hpm hG1
          have gl := Grew.new g.tab (o := .lst ys) hl
          have gp := gl.put (o := .tup ys) hp2
          exact k _ p bs' ys (g.trans gp) pm (Paired.pair (fun a b x y m m' e => by rw [m.at, m'.at] at e; exact e) hr' hso) (g.free (gl.free hp2)) upd_same (Paired.map' hr' fun _ _ m => m.grew gp g.tab)
end
end W

set_option Elab.async false
set_option linter.all false
set_option maxRecDepth 100000
set_option maxHeartbeats 800000
namespace W
open PySem PySem.Spec PyProof.Rows L2 GxR MyG MyS
/-! ### Map.__init__ -/
abbrev nInit : List Str := ["self", "day", "kinds", "places", "roads", "bars", "road", "bar"]
abbrev pInit : List Str := ["self", "day", "kinds", "places", "roads", "bars"]
section
variable {K : PySem.W.Frag} {H : Hp} {x C dx : Addr} {fs : List (Str × V)} {o : HO}
theorem insNe (hx : H x = some (.ins C dx fs)) {a : Addr} {u : HO} (e : H a = some u) (d : ∀ C dx fs, u ≠ .ins C dx fs) : a ≠ x := fun z => by
  rw [z, hx] at e
  exact d _ _ _ (Option.some.inj e).symm
theorem tup_ins (hx : H x = some (.ins C dx fs)) {a : Addr} {l : List V} (e : H a = some (.tup l)) : L2.upd H x o a = some (.tup l) := by
  rw [upd_ne (insNe hx e (fun _ _ _ z => by cases z))]
  exact e
theorem RoadAt.ins (hx : H x = some (.ins C dx fs)) {r : RoadD} {v : V} (m : RoadAt K H r v) : RoadAt K (L2.upd H x o) r v := m.upd (fun xs z => by rw [hx] at z; cases z) (KeepT.ins hx)
theorem GBar.ins (hx : H x = some (.ins C dx fs)) {b : Str × Str} {v : V} (m : GBar H b v) : GBar (L2.upd H x o) b v := m.upd (fun xs z => by rw [hx] at z; cases z)
theorem DictR.ins (hx : H x = some (.ins C dx fs)) {d : Addr} {rs : List RoadD} (m : DictR K H d rs) : DictR K (L2.upd H x o) d rs := by
  obtain ⟨kvs, e, m1, m2⟩ := m
  exact ⟨kvs, by rw [upd_ne (insNe hx e (fun _ _ _ z => by cases z))]; exact e, fun r hr => let ⟨v, a, b⟩ := m1 r hr; ⟨v, a, b.ins hx⟩, m2⟩
end
/-- the dict of the bars -/
def DictB (H : Hp) (d : Addr) (bs : List (Str × Str)) : Prop := ∃ kvs : List (List Key × V), H d = some (.dT kvs) ∧ ∀ a b : Str, (valV kvs [.inr a, .inr b]).isSome = true ↔ (a, b) ∈ bs
/-- the fields of a map -/
def nmF : List Str := ["day", "kinds", "places", "roads", "_roads_by_name", "bars", "_barred"]
theorem noF {fs : List (Str × V)} {g : Str} {v : V} (h : ∀ f, f ∉ nmF → fs.lookup f = none) (hg : g ∈ nmF) : ∀ f, f ∉ nmF → (putF g v fs).lookup f = none := fun f hf => by
  rw [lookup_putF, if_neg (by intro e; subst e; exact hf hg)]
  exact h f hf
/-- the map at x -/
structure MapF (K : PySem.W.Frag) (H : Hp) (fs : List (Str × V)) (d : Int) (ks ps : List Str) (rs : List RoadD) (bs : List (Str × Str)) (kk pp rr D bb D2 : Addr) (ys zs : List V) : Prop where
  f0 : ∀ f, f ∉ nmF → fs.lookup f = none
  f1 : fs.lookup ("day" : Str) = some (V.int d)
  f2 : fs.lookup ("kinds" : Str) = some (V.ref kk)
  f3 : fs.lookup ("places" : Str) = some (V.ref pp)
  f4 : fs.lookup ("roads" : Str) = some (V.ref rr)
  f5 : fs.lookup ("_roads_by_name" : Str) = some (V.ref D)
  f6 : fs.lookup ("bars" : Str) = some (V.ref bb)
  f7 : fs.lookup ("_barred" : Str) = some (V.ref D2)
  k : H kk = some (.tup (ks.map V.str))
  p : H pp = some (.tup (ps.map V.str))
  r : H rr = some (.tup ys)
  ry : Paired (RoadAt K H) rs ys
  d : DictR K H D rs
  b : H bb = some (.tup zs)
  bz : Paired (GBar H) bs zs
  db : DictB H D2 bs
def MapAt (K : PySem.W.Frag) (H : Hp) (M x : Addr) (d : Int) (ks ps : List Str) (rs : List RoadD) (bs : List (Str × Str)) : Prop := ∃ dx fs kk pp rr D bb D2 ys zs, H x = some (.ins M dx fs) ∧ MapF K H fs d ks ps rs bs kk pp rr D bb D2 ys zs
structure PartsOk (d : Int) (ks ps : List Str) (rs : List RoadD) (bs : List (Str × Str)) : Prop where
  d1 : 1 ≤ d
  d2 : d ≤ 1440
  k1 : 1 ≤ ks.length
  k2 : ks.length ≤ 4
  p2 : ps.length ≤ 30
  kn : ks.all isNm = true
  pn : ps.all isNm = true
  kd : ks.Nodup
  pd : ps.Nodup
  r : RoadsOk d ps ks rs
  b : BarsOk rs bs
theorem RoadsOk.perm {d : Int} {ps ps' ks ks' : List Str} {rs : List RoadD} (h : RoadsOk d ps ks rs) (hp : ps'.Perm ps) (hk : ks'.Perm ks) : RoadsOk d ps' ks' rs := by
  obtain ⟨a, b, c, e⟩ := h
  refine ⟨a, b, c, fun r hr => ?_⟩
  obtain ⟨h1, h2, h3, h4, h5, h6, h7, h8⟩ := e r hr
  exact ⟨hp.mem_iff.mpr h1, hp.mem_iff.mpr h2, h3, h4, fun k hk' => hk.mem_iff.mpr (h5 k hk'), h6, h7, h8⟩
theorem BarsOk.kept {rs rs' : List RoadD} {bs : List (Str × Str)} (h : BarsOk rs bs) (k : KeptAll rs rs') : BarsOk rs' bs := by
  obtain ⟨a, b, c⟩ := h
  obtain ⟨l, pm, pr⟩ := k
  have f : ∀ r ∈ rs, ∃ r' ∈ rs', r'.name = r.name ∧ r'.start = r.start ∧ r'.goal = r.goal := fun r hr => by
    obtain ⟨r', hr', q⟩ := Paired.mem' pr hr
    exact ⟨r', pm.mem_iff.mp hr', q.1, q.2.1, q.2.2.1⟩
  refine ⟨a, b, fun z hz => ?_⟩
  obtain ⟨r1, h1, r2, h2, e1, e2, e3⟩ := c z hz
  obtain ⟨s1, m1, n1, _, g1⟩ := f r1 h1
  obtain ⟨s2, m2, n2, g2, _⟩ := f r2 h2
  exact ⟨s1, m1, s2, m2, by rw [n1]; exact e1, by rw [n2]; exact e2, by rw [g1, g2]; exact e3⟩
theorem KeptAll.nodup {rs rs' : List RoadD} (k : KeptAll rs rs') (h : (rs.map (·.name)).Nodup) : (rs'.map (·.name)).Nodup := by
  obtain ⟨l, pm, pr⟩ := k
  rw [← kept_names pr] at h
  exact (pm.map (·.name)).nodup_iff.mp h
theorem KeptAll.len {rs rs' : List RoadD} (k : KeptAll rs rs') : rs'.length = rs.length := by
  obtain ⟨l, pm, pr⟩ := k
  rw [← pm.length_eq, ← Paired.len pr]
def spInit (K : PySem.W.Frag) (M P : Addr) : Sp := fun vs H Q _ => ∃ (x dx ki pl ro ba : Addr) (d : Int) (ks ps : List Str) (rs : List RoadD) (bs : List (Str × Str)) (xs zs : List V) (H0 : Hp), vs = [.ref x, .int d, .ref ki, .ref pl, .ref ro, .ref ba] ∧
  Grew P H0 H ∧ TabG H0 P ∧ H0 x = none ∧ H x = some (.ins M dx []) ∧ SqL K H0 ki (ks.map V.str) ∧ SqL K H0 pl (ps.map V.str) ∧ SqL K H0 ro xs ∧ Paired (GRoad K H0) rs xs ∧ SqL K H0 ba zs ∧ Paired (GBar H0) bs zs ∧ PartsOk d ks ps rs bs ∧
  ∀ H' ks' ps' rs' bs', Grew P H0 H' → ks'.Perm ks → Asc ks' → ps'.Perm ps → Asc ps' → KeptAll rs rs' → AscR rs' → bs'.Perm bs → AscB bs' → MapAt K H' M x d ks' ps' rs' bs' → Q .non H'
structure TxtM (K : PySem.W.Frag) (M : Addr) : Prop where
  cl : Cls K M
  n1 : NoAttr K M "day"
  n2 : NoAttr K M "kinds"
  n3 : NoAttr K M "places"
  n4 : NoAttr K M "roads"
  n5 : NoAttr K M "_roads_by_name"
  n6 : NoAttr K M "bars"
  n7 : NoAttr K M "_barred"
section
variable {Pg : Program} {w : World} {K : PySem.W.Frag} {mg : Str → Option Value} {base : Heap} {C P : Addr}
theorem scInit : FnScope nInit pInit (defScope sInit) := ⟨rfl, rfl, rfl, by decide +kernel, rfl, by decide +kernel, by decide +kernel⟩
theorem ok_init {f fY fN fR fB M : Addr} {fd fdY fdN fdR fdB : FuncData} {t1 t2 t3 : Tok} {dvs : List V} {kws : List (Str × V)} (F : FunD K "__init__" "Map.__init__" (defArgs sInit) (defBody sInit) (defScope sInit) dvs kws f fd) (T : TxtM K M)
    (hn : mg "NAME" = some (.int 0 t1)) (hk : mg "MOST_KINDS" = some (.int 4 t2)) (hp : mg "MOST_PLACES" = some (.int 30 t3))
    (GY : FnOk Pg w K mg base CX0 1 fY fdY ["day"] spDay) (gY : mg "_checked_day" = some (.ref fY)) (kY : PySem.W.keepIn K (.ref fY) = true) (bY : Binds K fdY ["day"] [])
    (GN : FnOk Pg w K mg base CX0 3 fN fdN ["names", "least", "most"] (spNames K P)) (gN : mg "_checked_names" = some (.ref fN)) (kN : PySem.W.keepIn K (.ref fN) = true) (bN : Binds K fdN ["names", "least", "most"] [])
    (GR : FnOk Pg w K mg base CX0 4 fR fdR ["roads", "day", "places", "kinds"] (spRoads K P)) (gR : mg "_checked_roads" = some (.ref fR)) (kR : PySem.W.keepIn K (.ref fR) = true) (bR : Binds K fdR ["roads", "day", "places", "kinds"] [])
    (GB : FnOk Pg w K mg base CX0 2 fB fdB ["bars", "roads_by_name"] (spBars K P)) (gB : mg "_checked_bars" = some (.ref fB)) (kB : PySem.W.keepIn K (.ref fB) = true) (bB : Binds K fdB ["bars", "roads_by_name"] []) :
    FnOk Pg w K mg base CX0 5 f fd pInit (spInit K M P) := by
  refine F.ok scInit (fun vs H Q E h => ?_) (fun cdv A outer s H vs Q E hr h => ?_)
  · obtain ⟨x, dx, ki, pl, ro, ba, d, ks, ps, rs, bs, xs, zs, H0, rfl, _⟩ := h
    rfl
  · obtain ⟨x, dx, ki, pl, ro, ba, d, ks, ps, rs, bs, xs, zs, H0, rfl, g0, hP0, nx, hx, hKi, hPl, hRo, hG, hBa, hB, ok, k⟩ := h
    have hr1 : Room 1 _ := hr.mono (by decide)
    have hr2 : Room 2 _ := hr.mono (by decide)
    have hr3 : Room 3 _ := hr.mono (by decide)
    refine ⟨_, pss_cons (ps_fld (pv 0) (pe_call GY hr1 (by rfl) gY kY bY .nil pass0 (pa_cons (pv 1) pa_nil)) rfl)
      (pss_cons (ps_fld (pv 0) (pe_call GN hr3 (by rfl) gN kN bN .nil pass0 (pa_cons (pv 2) (pa_cons pe_int (pa_cons (pe_gI hk) pa_nil)))) rfl)
      (pss_cons (ps_fld (pv 0) (pe_call GN hr3 (by rfl) gN kN bN .nil pass0 (pa_cons (pv 3) (pa_cons pe_int (pa_cons (pe_gI hp) pa_nil)))) rfl)
      (pss_cons (ps_fld (pv 0) (pe_call GR hr (by rfl) gR kR bR .nil pass0 (pa_cons (pv 4) (pa_cons (pv 1) (pa_cons (pe_fld (pv 0) rfl) (pa_cons (pe_fld (pv 0) rfl) pa_nil))))) rfl)
      (pss_cons (ps_fld (pv 0) (pe_dc (own := [("road", 6)]) (g := gName 6) (tt := tYes) rfl scInit.nd (pi_tup (pe_fld (pv 0) rfl)) (blkOk_by (N := nInit) (sc := defScope sInit) (by decide +kernel)) (fun _ _ _ _ _ => pg_name (i := 6) scInit.nd rfl (Or.inl rfl)) (fun _ _ _ _ _ => pts_nil)
          (fun _ _ _ _ _ => pe_ix (r := rIxT K) ix_tup (pv 6) (pe_gI hn) (fun _ _ => rfl)) (fun _ _ _ _ _ => pv 6)) rfl)
      (pss_cons (ps_fld (pv 0) (pe_call GB hr2 (by rfl) gB kB bB .nil pass0 (pa_cons (pv 5) (pa_cons (pe_fld (pv 0) rfl) pa_nil))) rfl)
      (pss_one (ps_fld (pv 0) (pe_dcT (own := [("bar", 7)]) (g := gName 7) (tt := tYes) (u1 hr.units) rfl scInit.nd (pi_tup (pe_fld (pv 0) rfl)) (blkOk_by (N := nInit) (sc := defScope sInit) (by decide +kernel)) (fun _ _ _ _ _ => pg_name (i := 7) scInit.nd rfl (Or.inl rfl)) (fun _ _ _ _ _ => pts_nil)
          (fun _ _ _ _ _ => pv 7) (fun _ _ _ _ _ => pe_bl)) rfl))))))), ?_⟩
    have nins : ∀ (fs : List (Str × V)) (q : Array Value), (HO.ins M dx fs) ≠ .tbl q := fun _ _ z => by cases z
    have k1 := ok.k1
    have k2 := ok.k2
    have p2 := ok.p2
    -- day
    refine ⟨_, rfl, d, rfl, ok.d1, ok.d2, _, rfl, x, M, dx, [], rfl, hx, T.cl, T.n1, by decide, ?_⟩
    have ga := g0.write (o := .ins M dx (putF "day" (.int d) [])) hx (nins _) nx
    have la : (putF ("day" : Str) (V.int d) []).length ≤ 1 := length_putF _ _ []
    -- kinds
    refine ⟨_, rfl, ki, ks, 1, 4, rfl, ga.sqL hP0 hKi, by omega, by omega, by omega, ok.kn, ok.kd, ga.tab, fun Hb kk ks' gb nk ek pk ak => ?_⟩
    have xb := gb.get ga.tab upd_same (nins _)
    refine ⟨_, rfl, x, M, dx, _, rfl, xb, T.cl, T.n2, by omega, ?_⟩
    have gc := (ga.trans gb).write (o := .ins M dx (putF "kinds" (.ref kk) (putF "day" (.int d) []))) xb (nins _) nx
    have lc := length_putF ("kinds" : Str) (V.ref kk) (putF ("day" : Str) (V.int d) [])
    have tk := tup_ins (o := .ins M dx (putF "kinds" (.ref kk) (putF "day" (.int d) []))) xb ek
    -- places
    refine ⟨_, rfl, pl, ps, 0, 30, rfl, gc.sqL hP0 hPl, by omega, by omega, by omega, ok.pn, ok.pd, gc.tab, fun Hd pp ps' gd np ep pp' ap => ?_⟩
    have xd := gd.get gc.tab upd_same (nins _)
    refine ⟨_, rfl, x, M, dx, _, rfl, xd, T.cl, T.n3, by omega, ?_⟩
    have ge := (gc.trans gd).write (o := .ins M dx (putF "places" (.ref pp) (putF "kinds" (.ref kk) (putF "day" (.int d) [])))) xd (nins _) nx
    have le := length_putF ("places" : Str) (V.ref pp) (putF ("kinds" : Str) (V.ref kk) (putF ("day" : Str) (V.int d) []))
    generalize hfs : putF ("places" : Str) (V.ref pp) (putF ("kinds" : Str) (V.ref kk) (putF ("day" : Str) (V.int d) [])) = fs at ge le ⊢
    have f0 : ∀ f, f ∉ nmF → fs.lookup f = none := by rw [← hfs]; exact noF (noF (noF (fun _ _ => rfl) (by decide +kernel)) (by decide +kernel)) (by decide +kernel)
    have f3 : fs.lookup ("places" : Str) = some (V.ref pp) := by rw [← hfs, lookup_putF, if_pos rfl]
    have f2 : fs.lookup ("kinds" : Str) = some (V.ref kk) := by rw [← hfs, lookup_putF, if_neg (by decide +kernel), lookup_putF, if_pos rfl]
    have f1 : fs.lookup ("day" : Str) = some (V.int d) := by rw [← hfs, lookup_putF, if_neg (by decide +kernel), lookup_putF, if_neg (by decide +kernel), lookup_putF, if_pos rfl]
    have tk2 := tup_ins (o := .ins M dx fs) xd (gd.tup gc.tab tk)
    have tp2 := tup_ins (o := .ins M dx fs) xd ep
    -- roads
    have okr := ok.r.perm pp' pk
    refine ⟨_, rfl, _, rfl, _, rfl, x, M, dx, _, _, rfl, upd_same, T.cl, T.n3, f3, _, rfl, x, M, dx, _, _, rfl, upd_same, T.cl, T.n2, f2,
      ro, pp, kk, d, ps', ks', rs, xs, rfl, ge.sqL hP0 hRo, Paired.map' hG (fun r v m => m.keep (KeepT.grew ge hP0)), SqT.of tp2, SqT.of tk2, okr, ge.tab, fun Hf rr rs' ys gf kr ar nr er hm => ?_⟩
    have xf := gf.get ge.tab upd_same (nins _)
    refine ⟨_, rfl, x, M, dx, _, rfl, xf, T.cl, T.n4, by omega, ?_⟩
    have gg := (ge.trans gf).write (o := .ins M dx (putF "roads" (.ref rr) fs)) xf (nins _) nx
    have lg := length_putF ("roads" : Str) (V.ref rr) fs
    have fg4 : (putF ("roads" : Str) (V.ref rr) fs).lookup ("roads" : Str) = some (V.ref rr) := by rw [lookup_putF, if_pos rfl]
    have fg3 : (putF ("roads" : Str) (V.ref rr) fs).lookup ("places" : Str) = some (V.ref pp) := by rw [lookup_putF, if_neg (by decide +kernel)]; exact f3
    have fg2 : (putF ("roads" : Str) (V.ref rr) fs).lookup ("kinds" : Str) = some (V.ref kk) := by rw [lookup_putF, if_neg (by decide +kernel)]; exact f2
    have fg1 : (putF ("roads" : Str) (V.ref rr) fs).lookup ("day" : Str) = some (V.int d) := by rw [lookup_putF, if_neg (by decide +kernel)]; exact f1
    have fg0 := noF (v := V.ref rr) f0 (show ("roads" : Str) ∈ nmF by decide +kernel)
    generalize hgs : putF ("roads" : Str) (V.ref rr) fs = gs at gg lg fg0 fg1 fg2 fg3 fg4 ⊢
    have tr3 := tup_ins (o := .ins M dx gs) xf er
    have tk3 := tup_ins (o := .ins M dx gs) xf (gf.tup ge.tab tk2)
    have tp3 := tup_ins (o := .ins M dx gs) xf (gf.tup ge.tab tp2)
    have hm3 : Paired (RoadAt K (L2.upd Hf x (.ins M dx gs))) rs' ys := Paired.map' hm fun r v m => m.ins xf
    have lys : ys.length ≤ 60 := by rw [← Paired.len hm3, kr.len]; exact ok.r.len
    have ndr := kr.nodup ok.r.nd
    generalize hHg : L2.upd Hf x (.ins M dx gs) = Hg at gg tr3 tk3 tp3 hm3 ⊢
    have xg : Hg x = some (.ins M dx gs) := by rw [← hHg]; exact upd_same
    -- _roads_by_name
    refine ⟨_, rfl, x, M, dx, _, _, rfl, xg, T.cl, T.n4, fg4, rr, rfl, ⟨_, SqT.of tr3⟩, fun D nD => dc_tup (K := K) (a := rr) (xs := ys)
      (fun i H1 => Grew P Hg H1 ∧ ∃ kvs, H1 D = some (.dK kvs) ∧ kvs.length ≤ i ∧ (∀ (j : Nat) r v, j < i → rs'[j]? = some r → ys[j]? = some v → valV kvs (.inr r.name) = some v) ∧ ∀ z : Str, (∀ r ∈ rs'.take i, r.name ≠ z) → valV kvs (.inr z) = none)
      ⟨Grew.new gg.tab nD, [], upd_same, Nat.le_refl _, fun j r v h => absurd h (Nat.not_lt_zero _), fun z _ => rfl⟩ (fun i H1 _ p => SqT.of (p.1.tup gg.tab tr3)) (fun i y H1 hy p => ?_) (fun Hh p => ?_)⟩
    · obtain ⟨g, kvs, hD, hl, hin, hno⟩ := p
      obtain ⟨r, hri, m⟩ := Paired.at hm3 hy
      have hi : i < ys.length := (List.getElem?_eq_some_iff.mp hy).1
      have m1 := m.grew g gg.tab
      obtain ⟨t, q, h, rfl, et, _⟩ := m1
      refine ⟨rfl, _, rfl, t, _, 0, .str r.name, rfl, rfl, SqT.of et, rfl, _, rfl, kvs, .inr r.name, rfl, hD, ?_, g.write hD (fun _ z => by cases z) nD, _, upd_same, ?_, fun j r' v' hj hr' hv' => ?_, fun z hz => ?_⟩
      · rw [sizeLine_eq]; omega
      · exact Nat.le_trans (length_putK kvs (.inr r.name) _) (by omega)
      · rw [valV_put]
        by_cases e : j = i
        · subst e
          rw [hri] at hr'
          rw [hy] at hv'
          cases hr'; cases hv'
          rw [if_pos rfl]
        · have ne : ¬ (Sum.inr r'.name : Key) = .inr r.name := fun z => by
            injection z with z
            have hri' := (List.getElem?_eq_some_iff.mp hri)
            have hrj' := (List.getElem?_eq_some_iff.mp hr')
            obtain ⟨a1, a2⟩ := hri'
            obtain ⟨b1, b2⟩ := hrj'
            refine absurd ?_ (List.pairwise_iff_getElem.mp ndr j i (by rw [List.length_map]; exact b1) (by rw [List.length_map]; exact a1) (by omega))
            rw [List.getElem_map, List.getElem_map, a2, b2]
            exact z
          rw [if_neg ne]
          exact hin j r' v' (by omega) hr' hv'
      · rw [valV_put, if_neg ?_]
        · exact hno z fun r' hr' => hz r' (by rw [List.take_succ]; exact List.mem_append_left _ hr')
        · intro e
          injection e with e
          exact hz r (by rw [List.take_succ, hri]; exact List.mem_append_right _ (List.mem_singleton.mpr rfl)) e.symm
    · obtain ⟨gh, kvs, hD, hl, hin, hno⟩ := p
      have xh := gh.get gg.tab xg (nins _)
      refine ⟨_, rfl, x, M, dx, _, rfl, xh, T.cl, T.n5, by omega, ?_⟩
      have gi := (gg.trans gh).write (o := .ins M dx (putF "_roads_by_name" (.ref D) gs)) xh (nins _) nx
      have li := length_putF ("_roads_by_name" : Str) (V.ref D) gs
      have fi5 : (putF ("_roads_by_name" : Str) (V.ref D) gs).lookup ("_roads_by_name" : Str) = some (V.ref D) := by rw [lookup_putF, if_pos rfl]
      have fi4 : (putF ("_roads_by_name" : Str) (V.ref D) gs).lookup ("roads" : Str) = some (V.ref rr) := by rw [lookup_putF, if_neg (by decide +kernel)]; exact fg4
      have fi3 : (putF ("_roads_by_name" : Str) (V.ref D) gs).lookup ("places" : Str) = some (V.ref pp) := by rw [lookup_putF, if_neg (by decide +kernel)]; exact fg3
      have fi2 : (putF ("_roads_by_name" : Str) (V.ref D) gs).lookup ("kinds" : Str) = some (V.ref kk) := by rw [lookup_putF, if_neg (by decide +kernel)]; exact fg2
      have fi1 : (putF ("_roads_by_name" : Str) (V.ref D) gs).lookup ("day" : Str) = some (V.int d) := by rw [lookup_putF, if_neg (by decide +kernel)]; exact fg1
      have fi0 := noF (v := V.ref D) fg0 (show ("_roads_by_name" : Str) ∈ nmF by decide +kernel)
      generalize his : putF ("_roads_by_name" : Str) (V.ref D) gs = is at gi li fi0 fi1 fi2 fi3 fi4 fi5 ⊢
      have hmh : Paired (RoadAt K Hh) rs' ys := Paired.map' hm3 fun r v m => m.grew gh gg.tab
      have dR : DictR K (L2.upd Hh x (.ins M dx is)) D rs' := by
        refine DictR.ins xh ⟨kvs, hD, fun r hr => ?_, fun z hz => hno z fun r hr => hz r (List.mem_of_mem_take hr)⟩
        obtain ⟨j, hj, ej⟩ := List.getElem_of_mem hr
        have hj' : rs'[j]? = some r := List.getElem?_eq_some_iff.mpr ⟨hj, ej⟩
        obtain ⟨v, hv, m⟩ := Paired.to hmh hj'
        exact ⟨v, hin j r v (List.getElem?_eq_some_iff.mp hv).1 hj' hv, m⟩
      have tr4 := tup_ins (o := .ins M dx is) xh (gh.tup gg.tab tr3)
      have tk4 := tup_ins (o := .ins M dx is) xh (gh.tup gg.tab tk3)
      have tp4 := tup_ins (o := .ins M dx is) xh (gh.tup gg.tab tp3)
      have hm4 : Paired (RoadAt K (L2.upd Hh x (.ins M dx is))) rs' ys := Paired.map' hmh fun r v m => m.ins xh
      generalize hHi : L2.upd Hh x (.ins M dx is) = Hi at gi tr4 tk4 tp4 hm4 dR ⊢
      have xi : Hi x = some (.ins M dx is) := by rw [← hHi]; exact upd_same
      -- bars
      refine ⟨_, rfl, _, rfl, x, M, dx, _, _, rfl, xi, T.cl, T.n5, fi5, ba, D, rs', bs, zs, rfl, gi.sqL hP0 hBa, Paired.map' hB (fun b v m => m.grew gi hP0), dR, ok.b.kept kr, gi.tab, fun Hj bb bs' zs' gj pb ab nb eb hz => ?_⟩
      have xj := gj.get gi.tab xi (nins _)
      refine ⟨_, rfl, x, M, dx, _, rfl, xj, T.cl, T.n6, by omega, ?_⟩
      have gk := (gi.trans gj).write (o := .ins M dx (putF "bars" (.ref bb) is)) xj (nins _) nx
      have lk := length_putF ("bars" : Str) (V.ref bb) is
      have fk6 : (putF ("bars" : Str) (V.ref bb) is).lookup ("bars" : Str) = some (V.ref bb) := by rw [lookup_putF, if_pos rfl]
      have fk5 : (putF ("bars" : Str) (V.ref bb) is).lookup ("_roads_by_name" : Str) = some (V.ref D) := by rw [lookup_putF, if_neg (by decide +kernel)]; exact fi5
      have fk4 : (putF ("bars" : Str) (V.ref bb) is).lookup ("roads" : Str) = some (V.ref rr) := by rw [lookup_putF, if_neg (by decide +kernel)]; exact fi4
      have fk3 : (putF ("bars" : Str) (V.ref bb) is).lookup ("places" : Str) = some (V.ref pp) := by rw [lookup_putF, if_neg (by decide +kernel)]; exact fi3
      have fk2 : (putF ("bars" : Str) (V.ref bb) is).lookup ("kinds" : Str) = some (V.ref kk) := by rw [lookup_putF, if_neg (by decide +kernel)]; exact fi2
      have fk1 : (putF ("bars" : Str) (V.ref bb) is).lookup ("day" : Str) = some (V.int d) := by rw [lookup_putF, if_neg (by decide +kernel)]; exact fi1
      have fk0 := noF (v := V.ref bb) fi0 (show ("bars" : Str) ∈ nmF by decide +kernel)
      generalize hjs : putF ("bars" : Str) (V.ref bb) is = js at gk lk fk0 fk1 fk2 fk3 fk4 fk5 fk6 ⊢
      have tb5 := tup_ins (o := .ins M dx js) xj eb
      have tr5 := tup_ins (o := .ins M dx js) xj (gj.tup gi.tab tr4)
      have tk5 := tup_ins (o := .ins M dx js) xj (gj.tup gi.tab tk4)
      have tp5 := tup_ins (o := .ins M dx js) xj (gj.tup gi.tab tp4)
      have hm5 : Paired (RoadAt K (L2.upd Hj x (.ins M dx js))) rs' ys := Paired.map' hm4 fun r v m => (m.grew gj gi.tab).ins xj
      have hz5 : Paired (GBar (L2.upd Hj x (.ins M dx js))) bs' zs' := Paired.map' hz fun b v m => m.ins xj
      have dR5 : DictR K (L2.upd Hj x (.ins M dx js)) D rs' := (dR.grew gj gi.tab).ins xj
      have lzs : zs'.length ≤ 40 := by rw [← Paired.len hz5, pb.length_eq]; exact ok.b.len
      generalize hHk : L2.upd Hj x (.ins M dx js) = Hk at gk tb5 tr5 tk5 tp5 hm5 hz5 dR5 ⊢
      have xk : Hk x = some (.ins M dx js) := by rw [← hHk]; exact upd_same
      -- _barred
      refine ⟨_, rfl, x, M, dx, _, _, rfl, xk, T.cl, T.n6, fk6, bb, rfl, ⟨_, SqT.of tb5⟩, fun D2 nD2 => dcT_tup (K := K) (a := bb) (xs := zs')
        (fun i H1 => Grew P Hk H1 ∧ ∃ kvs : List (List Key × V), H1 D2 = some (.dT kvs) ∧ kvs.length ≤ i ∧ ∀ a b : Str, (valV kvs [.inr a, .inr b]).isSome = true ↔ (a, b) ∈ bs'.take i)
        ⟨Grew.new gk.tab nD2, [], upd_same, Nat.le_refl _, fun a b => by simp [valV_nil]⟩ (fun i H1 _ p => SqT.of (p.1.tup gk.tab tb5)) (fun i y H1 hy p => ?_) (fun Hl p => ?_)⟩
      · obtain ⟨g, kvs, hD, hl, hin⟩ := p
        obtain ⟨b, hbi, m⟩ := Paired.at hz5 hy
        have hi : i < zs'.length := (List.getElem?_eq_some_iff.mp hy).1
        obtain ⟨t, rfl, et⟩ := m.grew g gk.tab
        refine ⟨rfl, _, rfl, kvs, [.inr b.1, .inr b.2], t, rfl, et, hD, ?_, g.write hD (fun _ z => by cases z) nD2, _, upd_same, ?_, fun a' b' => ?_⟩
        · rw [sizeLine_eq]; omega
        · have := length_putK kvs ([.inr b.1, .inr b.2] : List Key) (V.bl true)
          omega
        · rw [valV_put, List.take_succ, hbi, List.mem_append]
          by_cases e : ([.inr a', .inr b'] : List Key) = [.inr b.1, .inr b.2]
          · rw [if_pos e]
            have e1 : a' = b.1 := Sum.inr.inj (List.cons.inj e).1
            have e2 : b' = b.2 := Sum.inr.inj (List.cons.inj (List.cons.inj e).2).1
            subst e1 e2
            exact ⟨fun _ => .inr (List.mem_singleton.mpr rfl), fun _ => rfl⟩
          · rw [if_neg e, hin a' b']
            refine ⟨.inl, fun h => h.elim id fun h => ?_⟩
            have h' : (a', b') = b := List.mem_singleton.mp h
            subst h'
            exact absurd rfl e
      · obtain ⟨gl, kvs, hD, hl, hin⟩ := p
        have lb : bs'.length = zs'.length := Paired.len hz5
        rw [← lb, List.take_length] at hin
        have xl := gl.get gk.tab xk (nins _)
        refine ⟨_, rfl, x, M, dx, _, rfl, xl, T.cl, T.n7, by omega, ?_⟩
        have gm := (gk.trans gl).write (o := .ins M dx (putF "_barred" (.ref D2) js)) xl (nins _) nx
        refine k _ ks' ps' rs' bs' gm pk ak pp' ap kr ar pb ab ⟨dx, putF "_barred" (.ref D2) js, kk, pp, rr, D, bb, D2, ys, zs', upd_same, ?_⟩
        constructor
        · exact noF fk0 (by decide +kernel)
        · rw [lookup_putF, if_neg (by decide +kernel)]; exact fk1
        · rw [lookup_putF, if_neg (by decide +kernel)]; exact fk2
        · rw [lookup_putF, if_neg (by decide +kernel)]; exact fk3
        · rw [lookup_putF, if_neg (by decide +kernel)]; exact fk4
        · rw [lookup_putF, if_neg (by decide +kernel)]; exact fk5
        · rw [lookup_putF, if_neg (by decide +kernel)]; exact fk6
        · rw [lookup_putF, if_pos rfl]
        · exact tup_ins xl (gl.tup gk.tab tk5)
        · exact tup_ins xl (gl.tup gk.tab tp5)
        · exact tup_ins xl (gl.tup gk.tab tr5)
        · exact Paired.map' hm5 fun r v m => (m.grew gl gk.tab).ins xl
        · exact (dR5.grew gl gk.tab).ins xl
        · exact tup_ins xl (gl.tup gk.tab tb5)
        · exact Paired.map' hz5 fun b v m => (m.grew gl gk.tab).ins xl
        · exact ⟨kvs, by rw [upd_ne (insNe xl hD (fun _ _ _ z => by cases z))]; exact hD, hin⟩
end
end W

set_option Elab.async false
set_option linter.all false
set_option maxRecDepth 100000
set_option maxHeartbeats 400000
namespace W
open PySem PySem.Spec PyProof.Rows L2 GxR MyG
abbrev sRow : Stmt := top 44
abbrev sNumbers : Stmt := top 45
/-- the drawn numbers are small -/
def Sm (ns : List Int) : Prop := ∀ n ∈ ns, 0 ≤ n ∧ n < 1009
theorem Sm.snoc {ns : List Int} {n : Int} (h : Sm ns) (h1 : 0 ≤ n) (h2 : n < 1009) : Sm (ns ++ [n]) := fun z hz => by
  rcases List.mem_append.mp hz with hz | hz
  · exact h z hz
  · rw [List.mem_singleton.mp hz]; exact ⟨h1, h2⟩
theorem mod1009 (a : Int) : 0 ≤ a % 1009 ∧ a % 1009 < 1009 := by omega
def spRow (P : Addr) : Sp := fun vs H Q _ => ∃ (c : Int) (m : Nat), vs = [.int c, .int m] ∧ m ≤ 1000 ∧ TabG H P ∧ ∀ H' p ns, Grew P H H' → H p = none → H' p = some (.lst (ns.map V.int)) → ns.length = m → Sm ns → Q (.ref p) H'
def spNumbers (K : PySem.W.Frag) (P : Addr) : Sp := fun vs H Q _ => ∃ (a : Addr) (zs : List Int) (m : Nat), vs = [.ref a, .int m] ∧ SqL K H a (zs.map V.int) ∧ zs.length ≤ 63 ∧ m ≤ 900 ∧ TabG H P ∧
  ∀ H' p ns, Grew P H H' → H p = none → H' p = some (.lst (ns.map V.int)) → ns.length = m → Sm ns → Q (.ref p) H'
section
variable {Pg : Program} {w : World} {K : PySem.W.Frag} {mg : Str → Option Value} {base : Heap} {C P : Addr}
abbrev nRow : List Str := ["cell", "many", "row", "rest", "mixed", "k"]
theorem scRow : FnScope nRow ["cell", "many"] (defScope sRow) := ⟨rfl, rfl, rfl, by decide +kernel, rfl, by decide +kernel, by decide +kernel⟩
theorem ok_row {f : Addr} {fd : FuncData} (F : Fun K "_law_row" "_law_row" sRow f fd) (ha : mg "abs" = none) (hi : mg "int" = none) (hr' : mg "range" = none) : FnOk Pg w K mg base CX0 1 f fd ["cell", "many"] (spRow P) := by
  refine F.ok scRow (fun vs H Q E h => ?_) (fun cdv A outer s H vs Q E hr h => ?_)
  · obtain ⟨c, m, rfl, _⟩ := h
    rfl
  · obtain ⟨c, m, rfl, hm, hP, k⟩ := h
    refine ⟨_, pss_cons (ps_set (i := 2) scRow.nd rfl (Or.inl rfl) (pe_lst pa_nil))
      (pss_cons (ps_set (i := 3) scRow.nd rfl (Or.inl rfl) (pe_callB call_abs (by rfl) ha (by decide +kernel) (pa_cons (pv 0) pa_nil)))
      (pss_cons (ps_set (i := 4) scRow.nd rfl (Or.inl rfl) (pe_op op_mod (pe_callTy call_int1 (by rfl) hi (by decide +kernel) (pa_cons (pe_op op_add (pe_op op_mul (pv 3) pe_int) pe_int) pa_nil)) pe_int))
      (pss_cons (ps_for PassesOwn.never rfl (pi_range1 rfl hr' (pa_cons (pv 1) pa_nil)) (pg_name (i := 5) scRow.nd rfl (Or.inl rfl))
        (pss_cons (ps_set (i := 4) scRow.nd rfl (Or.inl rfl) (pe_op op_mod (pe_callTy call_int1 (by rfl) hi (by decide +kernel) (pa_cons (pe_op op_add (pe_op op_mul (pv 4) pe_int) (pe_op op_mul pe_int (pe_op op_add (pv 5) pe_int))) pa_nil)) pe_int))
        (pss_one (ps_if (pt_cmpR op_ge (pe_callB call_abs (by rfl) ha (by decide +kernel) (pa_cons (pv 0) pa_nil)) (pe_op op_pow pe_int pe_int) (nomark _))
          (pss_cons (ps_expr (pe_bm PySem.F.plainAttrs_list PySem.F.slot_list_append PySem.F.type_list_append mt_append (pv 2) (pa_cons (pe_op op_mod (pe_callTy call_int1 (by rfl) hi (by decide +kernel) (pa_cons (pv 3) pa_nil)) pe_int) pa_nil)))
            (pss_one (ps_set (i := 3) scRow.nd rfl (Or.inl rfl) (pe_op op_fdiv (pv 3) pe_int))))
          (pss_one (ps_expr (pe_bm PySem.F.plainAttrs_list PySem.F.slot_list_append PySem.F.type_list_append mt_append (pv 2) (pa_cons (pe_op op_mod (pe_callTy call_int1 (by rfl) hi (by decide +kernel) (pa_cons (pe_op op_fdiv (pv 4) pe_int) pa_nil)) pe_int) pa_nil))))))))
      (pss_one (ps_ret (pv 2)))))), ?_⟩
    refine ⟨Nat.zero_le _, fun p np => ?_⟩
    refine ⟨_, rfl, _, rfl, ?_⟩
    refine ⟨_, rfl, _, _, rfl, rfl, .inr ⟨by decide, by decide⟩, _, _, rfl, rfl, .inl ⟨_, rfl, _, _, rfl, rfl, (show (0 : Int) < 2147483647 by decide), ?_⟩⟩
    refine ⟨_, rfl, m, rfl, by omega, by omega, for_range (n := m) (fun i σ H' => ∃ r mx kv, ∃ ns : List Int, σ = [some (.int c), some (.int m), some (.ref p), some (.int r), some (.int mx), kv] ∧ Grew P H H' ∧ H' p = some (.lst (ns.map V.int)) ∧ ns.length = i ∧ Sm ns)
      ⟨_, _, none, [], rfl, Grew.new hP np, upd_same, rfl, fun n hn => by cases hn⟩ ?_ ?_⟩
    · rintro i σ H' hi ⟨r, mx, kv, ns, rfl, g, hp, hl, hsm⟩
      refine ⟨_, rfl, _, _, rfl, rfl, .inr ⟨by decide, by decide⟩, _, rfl, _, _, rfl, rfl, _, _, rfl, rfl, .inl ⟨by decide, by decide⟩, _, _, rfl, rfl, .inl ⟨_, rfl, _, _, rfl, rfl, (show (0 : Int) < 2147483629 by decide), ?_⟩⟩
      refine ⟨_, rfl, _, rfl, _, _, rfl, rfl, ⟨by decide, by decide, by decide⟩, _, _, rfl, rfl, _, rfl, ?_⟩
      have hlen : (ns.map V.int).length < sizeLine := by rw [List.length_map, hl, sizeLine_eq]; omega
      refine ite2 (fun _ => ?_) (fun _ => ?_)
      · refine ⟨_, rfl, .inl ⟨rfl, _, SqL.of hp⟩, _, rfl, .inl ⟨_, rfl, _, _, rfl, rfl, (show (0 : Int) < 1009 by decide), p, _, _, rfl, rfl, hp, hlen, ?_⟩⟩
        refine ⟨_, rfl, _, _, rfl, rfl, ⟨by decide, by decide⟩, _, _, _, ns ++ [_], rfl, g.write hp (fun _ z => by cases z) np, by rw [upd_same, List.map_append]; rfl, by rw [List.length_append, hl]; rfl, hsm.snoc (mod1009 _).1 (mod1009 _).2⟩
      · refine ⟨_, rfl, .inl ⟨rfl, _, SqL.of hp⟩, _, rfl, _, _, rfl, rfl, ⟨by decide, by decide⟩, .inl ⟨_, rfl, _, _, rfl, rfl, (show (0 : Int) < 1009 by decide), p, _, _, rfl, rfl, hp, hlen, ?_⟩⟩
        refine ⟨_, _, _, ns ++ [_], rfl, g.write hp (fun _ z => by cases z) np, by rw [upd_same, List.map_append]; rfl, by rw [List.length_append, hl]; rfl, hsm.snoc (mod1009 _).1 (mod1009 _).2⟩
    · rintro σ H' ⟨r, mx, kv, ns, rfl, g, hp, hl, hsm⟩
      exact ⟨_, rfl, k H' p ns g np hp hl hsm⟩
end
end W

set_option Elab.async false
set_option linter.all false
set_option maxRecDepth 100000
set_option maxHeartbeats 400000
namespace W
open PySem PySem.Spec PyProof.Rows L2 GxR MyG
theorem cutV_pre (xs : List V) (n : Nat) : cutV xs none (some (n : Int)) = xs.take n := by
  unfold cutV
  rw [HT.sIx_none, HT.sIx_nat, List.drop_zero, Nat.sub_zero]
  rcases Nat.le_total n xs.length with h | h
  · rw [Nat.min_eq_left h]
  · rw [Nat.min_eq_right h, List.take_length, List.take_of_length_le h]
theorem Sm.take {ns : List Int} (h : Sm ns) (k : Nat) : Sm (ns.take k) := fun z hz => h z (List.mem_of_mem_take hz)
theorem Sm.app {ns ms : List Int} (h : Sm ns) (h2 : Sm ms) : Sm (ns ++ ms) := fun z hz => by
  rcases List.mem_append.mp hz with hz | hz
  · exact h z hz
  · exact h2 z hz
section
variable {Pg : Program} {w : World} {K : PySem.W.Frag} {mg : Str → Option Value} {base : Heap} {C P : Addr}
abbrev nNumbers : List Str := ["script", "many", "cells", "each", "numbers", "cell", "number"]
theorem scNumbers : FnScope nNumbers ["script", "many"] (defScope sNumbers) := ⟨rfl, rfl, rfl, by decide +kernel, rfl, by decide +kernel, by decide +kernel⟩
theorem ok_numbers {f fR : Addr} {fd fdR : FuncData} (F : Fun K "_law_numbers" "_law_numbers" sNumbers f fd) (hl : mg "len" = none) (hx : mg "max" = none)
    (GR : FnOk Pg w K mg base CX0 1 fR fdR ["cell", "many"] (spRow P)) (gR : mg "_law_row" = some (.ref fR)) (kR : PySem.W.keepIn K (.ref fR) = true) (bR : Binds K fdR ["cell", "many"] []) :
    FnOk Pg w K mg base CX0 2 f fd ["script", "many"] (spNumbers K P) := by
  refine F.ok scNumbers (fun vs H Q E h => ?_) (fun cdv A outer s H vs Q E hr h => ?_)
  · obtain ⟨a, zs, m, rfl, _⟩ := h
    rfl
  · obtain ⟨a, zs, m, rfl, hS, hz, hm, hP, k⟩ := h
    refine ⟨_, pss_cons (ps_set (i := 2) scNumbers.nd rfl (Or.inl rfl) (pe_slice sl_list (pv 0) po_none (po_some pe_int)))
      (pss_cons (ps_set (i := 3) scNumbers.nd rfl (Or.inl rfl) (pe_op op_add pe_int (pe_op op_fdiv (pv 1) (pe_callB (call_max2 rfl) (by rfl) hx (by decide +kernel) (pa_cons pe_int (pa_cons (pe_callB call_len_seq (by rfl) hl PySem.boot_len (pa_cons (pv 2) pa_nil)) pa_nil))))))
      (pss_cons (ps_set (i := 4) scNumbers.nd rfl (Or.inl rfl) (pe_lst pa_nil))
      (pss_cons (ps_for PassesOwn.never rfl (pi_list (pv 2)) (pg_name (i := 5) scNumbers.nd rfl (Or.inl rfl))
        (pss_one (ps_for PassesOwn.never rfl (pi_list (pe_call GR hr (by rfl) gR kR bR .nil pass0 (pa_cons (pv 5) (pa_cons (pv 3) pa_nil)))) (pg_name (i := 6) scNumbers.nd rfl (Or.inl rfl))
          (pss_one (ps_expr (pe_bm PySem.F.plainAttrs_list PySem.F.slot_list_append PySem.F.type_list_append mt_append (pv 4) (pa_cons (pv 6) pa_nil)))))))
      (pss_cons (ps_while PassesOwn.never (pt_cmpR op_lt (pe_callB call_len_seq (by rfl) hl PySem.boot_len (pa_cons (pv 4) pa_nil)) (pv 1) (nomark _))
          (pss_one (ps_expr (pe_bm PySem.F.plainAttrs_list PySem.F.slot_list_append PySem.F.type_list_append mt_append (pv 4) (pa_cons pe_int pa_nil)))))
      (pss_one (ps_ret (pe_slice sl_list (pv 4) po_none (po_some (pv 1))))))))), ?_⟩
    -- cells
    refine ⟨_, rfl, _, rfl, a, _, rfl, hS, fun c nc => ?_⟩
    have ec : cutV (zs.map V.int) none (some 63) = zs.map V.int := by
      have q := cutV_pre (zs.map V.int) 63
      rw [List.take_of_length_le (by rw [List.length_map]; exact hz)] at q
      exact q
    rw [ec]
    have g1 := Grew.new hP (o := .lst (zs.map V.int)) nc
    -- each
    refine ⟨_, rfl, _, rfl, c, _, rfl, .inl (SqL.of upd_same), 1, _, rfl, _, _, rfl, rfl, ?_, _, _, rfl, rfl, ?_⟩
    · rw [List.length_map]
      constructor
      · split <;> omega
      · split <;> omega
    rw [List.length_map]
    generalize hdv : (if ((zs.length : Nat) : Int) > 1 then ((zs.length : Nat) : Int) else 1) = dv
    have hdp : 0 < dv := by rw [← hdv]; split <;> omega
    obtain ⟨e, he, he2⟩ : ∃ e : Nat, 1 + (m : Int) / dv = (e : Int) ∧ e ≤ 1000 := by
      have h1 : 0 ≤ (m : Int) / dv := Int.ediv_nonneg (by omega) (by omega)
      have h2 : (m : Int) / dv ≤ m := Int.ediv_le_self _ (by omega)
      exact ⟨(1 + (m : Int) / dv).toNat, by omega, by omega⟩
    refine ⟨Nat.zero_le _, fun p np => ?_⟩
    have g2 := g1.put (o := .lst []) np
    have hc : L2.upd (L2.upd H c (.lst (zs.map V.int))) p (.lst []) c = some (.lst (zs.map V.int)) := (Grew.new g1.tab np).lst g1.tab upd_same
    have ncp : c ≠ p := ne_of_none upd_same np
    refine ⟨_, rfl, c, rfl, ⟨_, SqL.of hc⟩, for_list (K := K) (a := c) (xs := zs.map V.int) (fun i σ H' => ∃ v5 v6, ∃ ns : List Int, σ = [some (.ref a), some (.int m), some (.ref c), some (.int (1 + (m : Int) / dv)), some (.ref p), v5, v6] ∧ Grew P H H' ∧ H' c = some (.lst (zs.map V.int)) ∧ H' p = some (.lst (ns.map V.int)) ∧ ns.length ≤ 1000 * i ∧ Sm ns)
      ⟨none, none, [], rfl, g2, hc, upd_same, Nat.zero_le _, fun n hn => by cases hn⟩ (fun i σ H' _ ⟨_, _, _, _, _, h, _⟩ => SqL.of h) ?_ ?_⟩
    · rintro i y σ H' hi ⟨v5, v6, ns, rfl, g, hcc, hp, hln, hsm⟩
      obtain ⟨z, rfl⟩ : ∃ z, y = V.int z := by
        rw [List.getElem?_map] at hi
        cases q : zs[i]? with
        | none => rw [q] at hi; cases hi
        | some z => rw [q] at hi; exact ⟨z, (Option.some.inj hi).symm⟩
      have hi63 : i < 63 := by
        have q := (List.getElem?_eq_some_iff.mp hi).1
        rw [List.length_map] at q
        omega
      refine ⟨_, rfl, _, rfl, z, e, by rw [he]; rfl, he2, g.tab, fun H2 q rs gr nq eq hrl hrs => ?_⟩
      have np2 : p ≠ q := ne_of_none hp nq
      have np0 : H p = none := (Grew.new hP nc).free np
      refine ⟨q, rfl, ⟨_, SqL.of eq⟩, for_list (K := K) (a := q) (xs := rs.map V.int) (fun j σ H' => ∃ v5 v6, σ = [some (.ref a), some (.int m), some (.ref c), some (.int (1 + (m : Int) / dv)), some (.ref p), v5, v6] ∧ Grew P H H' ∧ H' c = some (.lst (zs.map V.int)) ∧ H' q = some (.lst (rs.map V.int)) ∧ H' p = some (.lst ((ns ++ rs.take j).map V.int)))
        ⟨_, _, rfl, g.trans gr, gr.lst g.tab hcc, eq, by rw [List.take_zero, List.append_nil]; exact gr.lst g.tab hp⟩ (fun j σ H' _ ⟨_, _, _, _, _, h, _⟩ => SqL.of h) ?_ ?_⟩
      · rintro j y σ H3 hj ⟨w5, w6, rfl, g3, hc3, hq3, hp3⟩
        obtain ⟨z2, hz2, rfl⟩ : ∃ z, rs[j]? = some z ∧ y = V.int z := by
          rw [List.getElem?_map] at hj
          cases q : rs[j]? with
          | none => rw [q] at hj; cases hj
          | some z => rw [q] at hj; exact ⟨z, rfl, (Option.some.inj hj).symm⟩
        refine ⟨_, rfl, .inl ⟨rfl, _, SqL.of hp3⟩, _, rfl, p, _, _, rfl, rfl, hp3, ?_, _, _, rfl, g3.write hp3 (fun _ z => by cases z) np0, ?_, ?_, ?_⟩
        · rw [List.length_map, List.length_append, List.length_take, sizeLine_eq]; omega
        · rw [upd_ne ncp]; exact hc3
        · rw [upd_ne np2.symm]; exact hq3
        · rw [upd_same, List.take_succ, hz2]; simp
      · rintro σ H3 ⟨w5, w6, rfl, g3, hc3, hq3, hp3⟩
        rw [List.length_map, List.take_length] at hp3
        exact ⟨_, _, ns ++ rs, rfl, g3, hc3, hp3, by rw [List.length_append]; omega, hsm.app hrs⟩
    · rintro σ H' ⟨v5, v6, ns, rfl, g, hcc, hp, hln, hsm⟩
      rw [List.length_map] at hln
      have np0 : H p = none := (Grew.new hP nc).free np
      refine ⟨fun n σ H' => ∃ ns : List Int, σ = [some (.ref a), some (.int m), some (.ref c), some (.int (1 + (m : Int) / dv)), some (.ref p), v5, v6] ∧ Grew P H H' ∧ H' p = some (.lst (ns.map V.int)) ∧ ns.length ≤ 70000 ∧ Sm ns ∧ n = m - ns.length,
        ⟨_, ns, rfl, g, hp, by omega, hsm, rfl⟩, ?_⟩
      rintro n σ H3 ⟨ms, rfl, g3, hp3, hl3, hs3, rfl⟩
      refine ⟨_, rfl, p, _, rfl, .inl (SqL.of hp3), _, rfl, _, _, rfl, rfl, _, rfl, ?_⟩
      rw [List.length_map]
      refine ite2 (fun hlt => ?_) (fun hge => ?_)
      · have hlt' : (ms.length : Int) < m := of_decide_eq_true hlt
        refine ⟨_, fun _ _ h => h, _, rfl, .inl ⟨rfl, _, SqL.of hp3⟩, p, _, _, rfl, rfl, hp3, ?_, m - (ms.length + 1), by omega, ms ++ [0], rfl, g3.write hp3 (fun _ z => by cases z) np0, ?_, ?_, hs3.snoc (by decide) (by decide), ?_⟩
        · rw [List.length_map, sizeLine_eq]; omega
        · rw [upd_same, List.map_append]; rfl
        · rw [List.length_append, List.length_singleton]; omega
        · rw [List.length_append, List.length_singleton]
      · have hge' : ¬ (ms.length : Int) < m := fun z => hge (decide_eq_true z)
        refine ⟨_, rfl, _, rfl, _, rfl, p, _, rfl, SqL.of hp3, fun r nr => ?_⟩
        have ec2 := cutV_pre (ms.map V.int) m
        rw [ec2, ← List.map_take]
        exact k _ r (ms.take m) (g3.put nr) (g3.free nr) upd_same (by rw [List.length_take]; omega) (hs3.take m)
end
end W

set_option Elab.async false
set_option linter.all false
set_option maxRecDepth 100000
set_option maxHeartbeats 1000000
/-! a list or a tuple walked; the texts of errors -/
namespace SqX
open PySem PySem.Spec PyProof.Rows L2
/-- a list (true) or a tuple (false) -/
def SqK (c : Bool) (K : PySem.W.Frag) (H : Hp) (a : Addr) (xs : List V) : Prop := match c with
  | true => SqL K H a xs
  | false => SqT K H a xs
theorem SqK.any {c : Bool} {K : PySem.W.Frag} {H : Hp} {a : Addr} {xs : List V} (h : SqK c K H a xs) : SqL K H a xs ∨ SqT K H a xs := by
  cases c with
  | true => exact .inl h
  | false => exact .inr h
def ItK (c : Bool) (K : PySem.W.Frag) (a : Addr) : It := match c with
  | true => Itl K a
  | false => Itt K a
theorem walk_sq {c : Bool} {K : PySem.W.Frag} {a : Addr} {xs : List V} : Walk (ItK c K a) xs.length (fun H => SqK c K H a xs) (YAt xs) := by
  cases c with
  | true => exact walk_list
  | false => exact walk_tup
def iSq (K : PySem.W.Frag) (tl : TE) : TI := fun σ H R => tl σ H fun x H1 => ∃ (c : Bool) (a : Addr), x = .ref a ∧ (∃ xs, SqK c K H1 a xs) ∧ R (ItK c K a) H1
section
variable {X : Cx} {tg : Expr}
theorem pi_sq {l : Expr} {tl : TE} (hl : PE X l tl) : PI X tg l (iSq X.K tl) := by
  refine ⟨fun pins s σ H R I h => ?_⟩
  refine thn (hl.run pins s σ H _ I h) fun v s1 ⟨x, H1, I1, r1, q1⟩ => ?_
  obtain ⟨c, a, e, ⟨xs, hq⟩, q⟩ := q1
  subst e
  cases r1
  cases c with
  | true =>
    obtain ⟨its, rv, p, hz⟩ := I1.list hq
    refine wpAny_pyIter_list p.isList ?_
    refine ⟨s1.heap.objs.size, [s1.heap.objs.size], _, _, H1, rfl, I1.kept (t' := s1.toks) fun b o e => Heap.get?_push_of_some _ e, turn_list a _, ⟨_, Heap.get?_push_size _ rfl, rfl, rfl⟩, fun b hb => ?_, q⟩
    have e : b = s1.heap.objs.size := by simpa using hb
    subst e
    exact I1.fpOk (Nat.le_refl _) (I1.hok.fresh (Nat.le_refl _))
  | false =>
    obtain ⟨its, rv, p, hz⟩ := I1.tuple hq
    refine wpAny_pyIter_tuple (show s1.heap.IsTuple a its.toArray from p) ?_
    refine ⟨s1.heap.objs.size, [s1.heap.objs.size], _, _, H1, rfl, I1.kept (t' := s1.toks) fun b o e => Heap.get?_push_of_some _ e, turn_tuple a _, ⟨_, Heap.get?_push_size _ rfl, rfl, rfl⟩, fun b hb => ?_, q⟩
    have e : b = s1.heap.objs.size := by simpa using hb
    subst e
    exact I1.fpOk (Nat.le_refl _) (I1.hok.fresh (Nat.le_refl _))
end
/-- for over a list or a tuple -/
theorem for_sq {K : PySem.W.Frag} {c : Bool} {a : Addr} {xs : List V} {g : TG} {tb : TS} {D : Ends} {σ : L2.St} {H : Hp} (Pv : Nat → L2.St → Hp → Prop) (h0 : Pv 0 σ H) (hl : ∀ i σ H', i ≤ xs.length → Pv i σ H' → SqK c K H' a xs)
    (hs : ∀ i x σ H', xs[i]? = some x → Pv i σ H' → g x σ H' fun σ2 H2 => tb { D with nx := Pv (i + 1), ct := Pv (i + 1), bk := D.nx } σ2 H2) (hd : ∀ σ H', Pv xs.length σ H' → D.nx σ H') :
    ∃ W : Nat → Nat → L2.St → Hp → Prop, (∃ m, W 0 m σ H) ∧ ∀ i m σ H, W i m σ H →
      ((ItK c K a).stop i H ∧ D.nx σ H) ∨ ((ItK c K a).go i H ∧ ∃ N : L2.St → Hp → Prop, (∀ σ' H', N σ' H' → ∃ m', m' < m ∧ W (i + 1) m' σ' H') ∧ ∀ x H', (ItK c K a).yld i H x H' → g x σ H' fun σ2 H2 => tb { D with nx := N, ct := N, bk := D.nx } σ2 H2) :=
  for_it walk_sq Pv h0 hl (fun i x σ H H' _ p y => by obtain ⟨e, hx⟩ := y; rw [e]; exact hs i x σ H hx p) hd
/-- a comprehension over a list or a tuple -/
theorem lc_sq {K : PySem.W.Frag} {c : Bool} {a : Addr} {xs : List V} {g : TG} {tt : TT} {te : TE} {vs : List Nat} {σ : L2.St} {H1 : Hp} {D : Addr} {Qd : Hp → Prop} (Pv : Nat → Hp → Prop) (h0 : Pv 0 (L2.upd H1 D (.lst []))) (hl : ∀ i H, i ≤ xs.length → Pv i H → SqK c K H a xs)
    (hs : ∀ i x H, xs[i]? = some x → Pv i H → g x (wipe σ vs) H fun σ2 H2 => wipe σ2 vs = wipe σ vs ∧ tt σ2 H2 fun b H3 =>
      if b = true then te σ2 H3 fun y H4 => ∃ acc, H4 D = some (.lst acc) ∧ acc.length < sizeLine ∧ Pv (i + 1) (L2.upd H4 D (.lst (acc ++ [y]))) else Pv (i + 1) H3) (hd : ∀ H, Pv xs.length H → Qd H) :
    ∃ W : Nat → Nat → Hp → Prop, (∃ m, W 0 m (L2.upd H1 D (.lst []))) ∧ ∀ i m H, W i m H →
      ((ItK c K a).stop i H ∧ Qd H) ∨ ((ItK c K a).go i H ∧ ∃ Nx : Hp → Prop, (∀ H', Nx H' → ∃ m', m' < m ∧ W (i + 1) m' H') ∧ ∀ x H', (ItK c K a).yld i H x H' → g x (wipe σ vs) H' fun σ2 H2 => wipe σ2 vs = wipe σ vs ∧ tt σ2 H2 fun b H3 =>
        if b = true then te σ2 H3 fun y H4 => ∃ acc, H4 D = some (.lst acc) ∧ acc.length < sizeLine ∧ Nx (L2.upd H4 D (.lst (acc ++ [y]))) else Nx H3) :=
  lc_it walk_sq Pv h0 hl (fun i x H H' _ p y => by obtain ⟨e, hx⟩ := y; rw [e]; exact hs i x H hx p) hd
/-! ### the texts of errors -/
/-- a part of a short text -/
def Short (t : TE) (σ : L2.St) (H : Hp) : Prop := ∀ Q : VK, (∀ y : Str, y.length ≤ 1000 → Q (.str y) H) → t σ H Q
theorem short_c {z : Str} {σ : L2.St} {H : Hp} (h : z.length ≤ 1000) : Short (tC (.str z)) σ H := fun Q k => k z h
theorem short_s {t : TE} {σ : L2.St} {H : Hp} {y : Str} (h : ∀ Q : VK, Q (.str y) H → t σ H Q) (hy : y.length ≤ 1000) : Short (tFmt t) σ H := fun Q k => h _ (.inl ⟨y, rfl, by rw [sizeLine_eq]; omega, k y hy⟩)
theorem short_i {t : TE} {σ : L2.St} {H : Hp} {n : Int} (h : ∀ Q : VK, Q (.int n) H → t σ H Q) (hn : n.natAbs < 10 ^ 12) : Short (tFmt t) σ H := fun Q k => h _ (.inr ⟨n, rfl, by
  by_cases c : n.natAbs = 0
  · rw [c]; decide
  · refine Nat.lt_of_lt_of_le ((Nat.log2_lt c).mpr (Nat.lt_of_lt_of_le hn (show 10 ^ 12 ≤ 2 ^ 40 by decide))) (by decide), k _ (by
  have q := PyData.shown_int_le (i := n) hn
  rw [PyData.shown_int] at q
  omega)⟩)
theorem short_v {σ : L2.St} {H : Hp} {i : Nat} {y : Str} (e : σ[i]? = some (some (.str y))) (hy : y.length ≤ 1000) : Short (tFmt (tVar i)) σ H := short_s (fun Q q => ⟨_, e, q⟩) hy
theorem short_n {σ : L2.St} {H : Hp} {i : Nat} {n : Int} (e : σ[i]? = some (some (.int n))) (hn : n.natAbs < 10 ^ 12) : Short (tFmt (tVar i)) σ H := short_i (fun Q q => ⟨_, e, q⟩) hn
theorem short_g {σ : L2.St} {H : Hp} {n : Int} (hn : n.natAbs < 10 ^ 12) : Short (tFmt (tC (.int n))) σ H := short_i (fun Q q => q) hn
theorem tJs_ok {σ : L2.St} {H : Hp} {Q : Str → Hp → Prop} (k : ∀ z, Q z H) : ∀ {ts : List TE} {acc : Str} (n : Nat), (∀ t ∈ ts, Short t σ H) → acc.length ≤ n → n + 1000 * ts.length ≤ 100000 → tJs ts acc σ H Q
  | [], acc, n, _, _, _ => k acc
  | t :: ts, acc, n, h, ha, hn => h t List.mem_cons_self _ fun y hy => ⟨y, rfl, by rw [PySem.Str.length_append, sizeLine_eq]; simp only [List.length_cons] at hn; omega,
      tJs_ok k (n + 1000) (fun u hu => h u (List.mem_cons_of_mem _ hu)) (by rw [PySem.Str.length_append]; omega) (by simp only [List.length_cons] at hn; omega)⟩
end SqX

set_option Elab.async false
set_option linter.all false
set_option maxRecDepth 100000
set_option maxHeartbeats 1000000
namespace W
open PySem PySem.Spec PyProof.Rows L2 GxR MyG MyS SqX
/-! ### the checks of a map, of whatever is given: they return, or InvalidMap is raised -/
/-- InvalidMap, the heap grown -/
def BadM (C P : Addr) (H : Hp) (E : XK) : Prop := ∀ H', Grew P H H' → E (.ref C) none H'
theorem BadM.on {C P : Addr} {H H1 : Hp} {E : XK} (h : BadM C P H E) (g : Grew P H H1) : BadM C P H1 E := fun H' g' => h H' (g.trans g')
theorem BadM.here {C P : Addr} {H : Hp} {E : XK} (h : BadM C P H E) (hP : TabG H P) : E (.ref C) none H := h H (Grew.refl hP)
theorem _root_.SqX.SqK.grew {c : Bool} {K : PySem.W.Frag} {P : Addr} {H H' : Hp} {a : Addr} {xs : List V} (h : SqK c K H a xs) (g : Grew P H H') (hP : TabG H P) : SqK c K H' a xs := by
  cases c with
  | true => exact g.sqL hP h
  | false => exact g.sqT hP h
def spDayX (C P : Addr) : Sp := fun vs H Q E => ∃ d : Int, vs = [.int d] ∧ d.natAbs < 10 ^ 12 ∧ TabG H P ∧ (1 ≤ d → d ≤ 1440 → Q (.int d) H) ∧ (¬ (1 ≤ d ∧ d ≤ 1440) → BadM C P H E)
/-- hours as they are given -/
def hoursG (hs : Option (List (Int × Int))) : Option (List (List Int)) := hs.map fun ps => ps.map fun p => [p.1, p.2]
def GPairX (K : PySem.W.Frag) (H : Hp) (p : List Int) (x : V) : Prop := ∃ t, x = .ref t ∧ SqT K H t (p.map V.int)
def GHoursX (K : PySem.W.Frag) (H : Hp) (hs : Option (List (List Int))) (v : V) : Prop := match hs with
  | none => v = .non
  | some ps => ∃ (l : Addr) (xs : List V) (c : Bool), v = .ref l ∧ SqK c K H l xs ∧ Paired (GPairX K H) ps xs
theorem GPairX.keep {K : PySem.W.Frag} {H H' : Hp} {p : List Int} {x : V} (k : KeepT K H H') (h : GPairX K H p x) : GPairX K H' p x := let ⟨t, a, b⟩ := h; ⟨t, a, k _ _ b⟩
theorem GHoursX.grew {K : PySem.W.Frag} {P : Addr} {H H' : Hp} {hs : Option (List (List Int))} {v : V} (g : Grew P H H') (hP : TabG H P) (h : GHoursX K H hs v) : GHoursX K H' hs v := by
  cases hs with
  | none => exact h
  | some ps =>
    obtain ⟨l, xs, c, a, b, d⟩ := h
    exact ⟨l, xs, c, a, b.grew g hP, Paired.map' d fun _ _ m => m.keep (KeepT.grew g hP)⟩
/-- hours that a road may have -/
def HoursGOk (d : Int) (hs : Option (List (List Int))) : Prop := ∃ h, hs = hoursG h ∧ HoursOk d h
def spHoursX (K : PySem.W.Frag) (C P : Addr) : Sp := fun vs H Q E => ∃ (d : Int) (hs : Option (List (List Int))) (hv : V), vs = [hv, .int d] ∧ GHoursX K H hs hv ∧ (∀ ps, hs = some ps → ps.length ≤ 1000) ∧ TabG H P ∧
  (∀ h, hs = hoursG h → HoursOk d h → ∀ H' v', Grew P H H' → GHours K H' h v' → Q v' H') ∧ (¬ HoursGOk d hs → BadM C P H E)
def spDiffX (K : PySem.W.Frag) (C P : Addr) : Sp := fun vs H Q E => ∃ a : Addr, vs = [.ref a] ∧ TabG H P ∧
  ((∃ ns : List Str, (SqL K H a (ns.map V.str) ∨ SqT K H a (ns.map V.str)) ∧ ns.length ≤ 1000 ∧ (ns.Nodup → Q .non H) ∧ (¬ ns.Nodup → BadM C P H E)) ∨
   ∃ ks : List (Addr × List Str), SqL K H a (ks.map fun p => V.ref p.1) ∧ (∀ p ∈ ks, SqT K H p.1 (p.2.map V.str)) ∧ ks.length < 64 ∧ ((ks.map (·.2)).Nodup → Q .non H) ∧ (¬ (ks.map (·.2)).Nodup → BadM C P H E))
/-- pairs one behind the other, from the place at which the last one closed -/
theorem lastOf_cons {q : Int × Int} {r : List (Int × Int)} {c : Int} (i : Nat) : lastOf c (q :: r) (i + 1) = lastOf q.2 r i := by
  unfold lastOf
  rw [List.take_succ_cons]
  cases r.take i with
  | nil => rfl
  | cons a l => rw [List.getLast?_cons_cons]; cases h : (a :: l).getLast? with
    | none => simp at h
    | some z => rfl
theorem hours_snoc {d : Int} : ∀ {ps : List (Int × Int)} {c : Int} {p : Int × Int}, hoursOk d c (ps ++ [p]) ↔ hoursOk d c ps ∧ (lastOf c ps ps.length < p.1 ∧ p.1 < p.2 ∧ p.2 ≤ d)
  | [], c, p => ⟨fun h => ⟨trivial, h.1, h.2.1, h.2.2.1⟩, fun h => ⟨h.2.1, h.2.2.1, h.2.2.2, trivial⟩⟩
  | q :: r, c, p => by
    have ih := hours_snoc (d := d) (ps := r) (c := q.2) (p := p)
    rw [List.length_cons, lastOf_cons]
    constructor
    · rintro ⟨a, b, e, f⟩
      obtain ⟨g, h⟩ := ih.mp f
      exact ⟨⟨a, b, e, g⟩, h⟩
    · rintro ⟨⟨a, b, e, g⟩, h⟩
      exact ⟨a, b, e, ih.mpr ⟨g, h⟩⟩
/-- from the first pairs to more of them -/
theorem hours_take {d : Int} : ∀ {ps : List (Int × Int)} {c : Int} (i : Nat), hoursOk d c ps → hoursOk d c (ps.take i)
  | [], _, i, _ => by cases i <;> exact trivial
  | q :: r, c, 0, _ => trivial
  | q :: r, c, i + 1, h => ⟨h.1, h.2.1, h.2.2.1, hours_take i h.2.2.2⟩
theorem pairs_of {K : PySem.W.Frag} {H : Hp} : ∀ {qs : List (Int × Int)} {xs : List V}, Paired (GPairX K H) (qs.map fun p => [p.1, p.2]) xs → Paired (GPair K H) qs xs
  | [], _, h => by cases h; exact .nil
  | p :: r, _, h => by
    cases h with
    | cons a b => exact .cons a (pairs_of b)
section
variable {Pg : Program} {w : World} {K : PySem.W.Frag} {mg : Str → Option Value} {base : Heap} {C P : Addr}
theorem ok_dayX {f : Addr} {fd : FuncData} {t1 : Tok} (F : Fun K "_checked_day" "_checked_day" sDay f fd) (T : TxtE mg K C) (hd : mg "LONGEST_DAY" = some (.int 1440 t1)) : FnOk Pg w K mg base (L2N.CX Pg w) 1 f fd ["day"] (spDayX C P) := by
  refine MyN.okN F scDay (fun vs H Q E h => ?_) (fun cdv A outer s H vs Q E hr h => ?_)
  · obtain ⟨d, rfl, _⟩ := h
    rfl
  · obtain ⟨d, rfl, hd9, hP, kQ, kE⟩ := h
    refine ⟨_, pss_cons (ps_if (pt_not (pt_chain op_le op_le pe_int (pv 0) (pe_gI hd))) (pss_one (L2N.ps_raise rfl (L2N.takes_of rfl rfl rfl rfl) (MyN.mk1 PySem.F.excBase_ValueError T.xC T.gC T.kC (raises_own T.bC T.tC) (by rfl) (pe_joined (PJ.cons pe_str (PJ.cons (pe_fmt (pv 0)) (PJ.cons pe_str PJ.nil))))))) pss_nil)
      (pss_one (ps_ret (pv 0))), ?_⟩
    have bad : ¬ (1 ≤ d ∧ d ≤ 1440) → ∀ z : Str, E (.ref C) none H := fun h _ => (kE h).here hP
    have parts : ∀ t ∈ [tC (.str "a day has no "), tFmt (tVar 0), tC (.str " minutes")], Short t [some (V.int d)] H := fun t ht => by
      simp only [List.mem_cons, List.not_mem_nil, or_false] at ht
      rcases ht with rfl | rfl | rfl
      · exact short_c (by decide +kernel)
      · exact short_n rfl hd9
      · exact short_c (by decide +kernel)
    refine ⟨_, rfl, _, _, rfl, rfl, _, rfl, ?_⟩
    by_cases h1 : 1 ≤ d
    · refine if_t (decide_eq_true h1) ⟨_, _, rfl, rfl, _, rfl, ?_⟩
      by_cases h2 : d ≤ 1440
      · rw [decide_eq_true h2]
        exact iteF ⟨_, rfl, kQ h1 h2⟩
      · rw [decide_eq_false h2]
        refine iteT ?_
        exact tJs_ok (bad fun h => h2 h.2) 0 parts (Nat.zero_le _) (by decide)
    · rw [decide_eq_false h1]
      refine iteF ⟨_, rfl, iteT ?_⟩
      exact tJs_ok (bad fun h => h1 h.1) 0 parts (Nat.zero_le _) (by decide)
theorem ok_diffX {f : Addr} {fd : FuncData} (F : Fun K "_check_different" "_check_different" sDiff f fd) (T : TxtE mg K C) (hl : mg "len" = none) (hs : mg "set" = none) : FnOk Pg w K mg base (L2N.CX Pg w) 1 f fd ["parts"] (spDiffX K C P) := by
  refine MyN.okN F scDiff (fun vs H Q E h => ?_) (fun cdv A outer s H vs Q E hr h => ?_)
  · obtain ⟨a, rfl, _⟩ := h
    rfl
  · obtain ⟨a, rfl, hP, (⟨ns, hS, h1, kQ, kE⟩ | ⟨ks, hS, ht, h1, kQ, kE⟩)⟩ := h
    · refine ⟨_, pss_one (ps_if (pt_cmpR op_lt (pe_lenSetS rfl hl hs (pv 0)) (pe_callB call_len_seq (by rfl) hl PySem.boot_len (pa_cons (pv 0) pa_nil)) (nomark _)) (pss_one (L2N.ps_raise rfl (L2N.takes_of rfl rfl rfl rfl) (MyN.mk1 PySem.F.excBase_ValueError T.xC T.gC T.kC (raises_own T.bC T.tC) (by rfl) pe_str))) pss_nil), ?_⟩
      refine ⟨_, rfl, a, ns, rfl, hS, by omega, fun n hc => ?_⟩
      refine ⟨_, rfl, a, _, rfl, hS, _, _, rfl, rfl, _, rfl, ?_⟩
      rw [List.length_map]
      by_cases nd : ns.Nodup
      · have e : n = ns.length := hc.eq.mpr nd
        subst e
        exact if_f (decide_eq_false (Int.lt_irrefl _)) (kQ nd)
      · have e : n ≠ ns.length := fun z => nd (hc.eq.mp z)
        have := hc.le
        exact if_t (decide_eq_true (by omega)) ((kE nd).here hP)
    · refine ⟨_, pss_one (ps_if (pt_cmpR op_lt (pe_lenSetP rfl hr.units hl hs (pv 0)) (pe_callB call_len_seq (by rfl) hl PySem.boot_len (pa_cons (pv 0) pa_nil)) (nomark _)) (pss_one (L2N.ps_raise rfl (L2N.takes_of rfl rfl rfl rfl) (MyN.mk1 PySem.F.excBase_ValueError T.xC T.gC T.kC (raises_own T.bC T.tC) (by rfl) pe_str))) pss_nil), ?_⟩
      refine ⟨_, rfl, a, ks, rfl, .inl hS, ht, h1, fun n hc => ?_⟩
      refine ⟨_, rfl, a, _, rfl, .inl hS, _, _, rfl, rfl, _, rfl, ?_⟩
      rw [List.length_map]
      by_cases nd : (ks.map (·.2)).Nodup
      · have e : n = (ks.map (·.2)).length := hc.eq.mpr nd
        rw [List.length_map] at e
        subst e
        exact if_f (decide_eq_false (Int.lt_irrefl _)) (kQ nd)
      · have e : n ≠ (ks.map (·.2)).length := fun z => nd (hc.eq.mp z)
        have := hc.le
        rw [List.length_map] at e this
        exact if_t (decide_eq_true (by omega)) ((kE nd).here hP)
theorem ok_hoursX {f : Addr} {fd : FuncData} {t1 : Tok} (F : Fun K "_checked_hours" "_checked_hours" sHours f fd) (T : TxtE mg K C) (hl : mg "len" = none) (ht : mg "tuple" = none) (hp : mg "MOST_PAIRS" = some (.int 4 t1)) : FnOk Pg w K mg base (L2N.CX Pg w) 1 f fd ["hours", "day"] (spHoursX K C P) := by
  refine MyN.okN F scHours (fun vs H Q E h => ?_) (fun cdv A outer s H vs Q E hr h => ?_)
  · obtain ⟨d, hs, hv, rfl, _⟩ := h
    rfl
  · obtain ⟨d, hs, hv, rfl, g, hsmall, hP, kQ, kE⟩ := h
    refine ⟨_, pss_cons (ps_if (pt_cmp (pc_isN (pv 0))) (pss_one (ps_ret pe_non)) pss_nil)
      (pss_cons (ps_if (pt_cmpR op_gt (pe_callB call_len_seq (by rfl) hl PySem.boot_len (pa_cons (pv 0) pa_nil)) (pe_gI hp) (nomark _)) (pss_one (L2N.ps_raise rfl (L2N.takes_of rfl rfl rfl rfl) (MyN.mk1 PySem.F.excBase_ValueError T.xC T.gC T.kC (raises_own T.bC T.tC) (by rfl) (pe_joined (PJ.cons pe_str (PJ.cons (pe_fmt (pe_gI hp)) (PJ.cons pe_str PJ.nil))))))) pss_nil)
      (pss_cons (ps_set (i := 2) scHours.nd rfl (Or.inl rfl) (pe_un un_neg pe_int))
      (pss_cons (ps_for (passes_of rfl) rfl (pi_sq (pv 0)) (pg_name (i := 3) scHours.nd rfl (Or.inl rfl))
        (pss_cons (ps_if (pt_cmpR op_ne (pe_callB call_len_seq (by rfl) hl PySem.boot_len (pa_cons (pv 3) pa_nil)) pe_int (nomark _)) (pss_one (L2N.ps_raise rfl (L2N.takes_of rfl rfl rfl rfl) (MyN.mk1 PySem.F.excBase_ValueError T.xC T.gC T.kC (raises_own T.bC T.tC) (by rfl) pe_str))) pss_nil)
        (pss_cons (ps_if (pt_not (pt_chain3 op_lt op_lt op_le (pv 2) (pe_ix ix_tup (pv 3) pe_int (fun _ _ => rfl)) (pe_ix ix_tup (pv 3) pe_int (fun _ _ => rfl)) (pv 1))) (pss_one (L2N.ps_raise rfl (L2N.takes_of rfl rfl rfl rfl) (MyN.mk1 PySem.F.excBase_ValueError T.xC T.gC T.kC (raises_own T.bC T.tC) (by rfl) pe_str))) pss_nil)
        (pss_one (ps_set (i := 2) scHours.nd rfl (Or.inl rfl) (pe_ix ix_tup (pv 3) pe_int (fun _ _ => rfl)))))))
      (pss_one (ps_ret (pe_callTy call_tuple_of (by rfl) ht (by decide +kernel) (pa_cons (pe_lc (own := [("pair", 3)]) (g := gName 3) (tt := tYes) rfl scHours.nd (pi_sq (pv 0)) (blkOk_by (N := nHours) (sc := defScope sHours) (by decide +kernel)) (fun _ _ _ _ _ => pg_name (i := 3) scHours.nd rfl (Or.inl rfl)) (fun _ _ _ _ _ => pts_nil)
          (fun _ _ _ _ _ => pe_callTy (r := rTupOf K) call_tuple_of (by rfl) ht (by decide +kernel) (pa_cons (pv 3) pa_nil))) pa_nil))))))), ?_⟩
    cases hs with
    | none =>
      obtain rfl : hv = .non := g
      refine ⟨_, rfl, _, rfl, ?_⟩
      exact iteT (kQ none rfl trivial H .non (Grew.refl hP) rfl)
    | some ps =>
      obtain ⟨l, xs, c, rfl, hS, hG⟩ := g
      have hlen := Paired.len hG
      have hps := hsmall ps rfl
      have bad : ¬ HoursGOk d (some ps) → E (.ref C) none H := fun h => (kE h).here hP
      refine ⟨_, rfl, _, rfl, ?_⟩
      refine iteF ?_
      refine ⟨_, rfl, l, _, rfl, hS.any, _, _, rfl, rfl, _, rfl, ?_⟩
      by_cases c4 : ps.length ≤ 4
      case neg =>
        refine if_t (decide_eq_true (by omega)) ?_
        refine tJs_ok (fun _ => bad fun ⟨h, e, o⟩ => ?_) 0 (fun t ht => ?_) (Nat.zero_le _) (by decide)
        · cases h with
          | none => cases e
          | some qs =>
            have e' := Option.some.inj e
            have := o.1
            rw [e', List.length_map] at c4
            exact c4 this
        · simp only [List.mem_cons, List.not_mem_nil, or_false] at ht
          rcases ht with rfl | rfl | rfl
          · exact short_c (by decide +kernel)
          · exact short_g (by decide)
          · exact short_c (by decide +kernel)
      refine if_f (decide_eq_false (by omega)) ?_
      refine ⟨1, rfl, ?_⟩
      refine ⟨_, rfl, c, l, rfl, ⟨_, hS⟩, for_sq (K := K) (c := c) (a := l) (xs := xs) (fun i σ H' => H' = H ∧ ∃ (v : Option V) (qs : List (Int × Int)), ps.take i = qs.map (fun p => [p.1, p.2]) ∧ hoursOk d (-1) qs ∧ σ = [some (.ref l), some (.int d), some (.int (lastOf (-1) qs qs.length)), v])
        ⟨rfl, none, [], by rw [List.take_zero]; rfl, trivial, rfl⟩ (fun i σ H' _ ⟨e, _⟩ => by rw [e]; exact hS) ?_ ?_⟩
      · rintro i y σ H' hi ⟨rfl, v, qs, eqs, hok, rfl⟩
        obtain ⟨p, hp, t, rfl, hT⟩ := Paired.at hG hi
        have enext : ps.take (i + 1) = qs.map (fun p => [p.1, p.2]) ++ [p] := by rw [List.take_succ, hp, eqs]; rfl
        refine ⟨_, rfl, t, _, rfl, .inr hT, rfl, _, rfl, ?_⟩
        rw [List.length_map]
        by_cases c2 : p.length = 2
        case neg =>
          refine if_t (by rw [decide_eq_false (fun e => c2 (by injection e with e; omega))]; rfl) (bad fun ⟨h, e, o⟩ => ?_)
          cases h with
          | none => cases e
          | some rs =>
            have e' := Option.some.inj e
            have hm : p ∈ ps := List.mem_of_getElem? hp
            rw [e'] at hm
            obtain ⟨z, _, ez⟩ := List.mem_map.mp hm
            rw [← ez] at c2
            exact c2 rfl
        refine if_f (by rw [decide_eq_true (by rw [c2]; rfl)]; rfl) ?_
        obtain ⟨a0, b0, rfl⟩ : ∃ a0 b0, p = [a0, b0] := by
          match p, c2 with
          | [a0, b0], _ => exact ⟨a0, b0, rfl⟩
        have e0 : atI (([a0, b0] : List Int).map V.int) 0 = some (.int a0) := rfl
        have e1 : atI (([a0, b0] : List Int).map V.int) 1 = some (.int b0) := rfl
        have hqn : ¬ (lastOf (-1) qs qs.length < a0 ∧ a0 < b0 ∧ b0 ≤ d) → E (.ref C) none H' := fun hn => bad fun ⟨h, e, o⟩ => by
          cases h with
          | none => cases e
          | some rs =>
            have e' : ps = rs.map (fun p => [p.1, p.2]) := Option.some.inj e
            have o2 := hours_take (i + 1) o.2
            have e3 : (rs.take (i + 1)).map (fun p => [p.1, p.2]) = (qs ++ [(a0, b0)]).map (fun p => [p.1, p.2]) := by
              rw [List.map_take, ← e', enext, List.map_append]
              rfl
            have inj : ∀ x y : Int × Int, [x.1, x.2] = [y.1, y.2] → x = y := fun x y h => by
              have h1 := (List.cons.inj h).1
              have h2 := (List.cons.inj (List.cons.inj h).2).1
              exact Prod.ext h1 h2
            have e4 : rs.take (i + 1) = qs ++ [(a0, b0)] := List.map_inj_right inj |>.mp e3
            rw [e4] at o2
            exact hn (hours_snoc.mp o2).2
        refine ⟨_, rfl, _, rfl, t, _, 0, _, rfl, rfl, hT, e0, _, _, rfl, rfl, _, rfl, ?_⟩
        by_cases o1 : lastOf (-1) qs qs.length < a0
        case neg =>
          rw [decide_eq_false o1]
          exact iteF ⟨_, rfl, iteT (hqn fun h => o1 h.1)⟩
        refine if_t (decide_eq_true o1) ⟨_, rfl, t, _, 1, _, rfl, rfl, hT, e1, _, _, rfl, rfl, _, rfl, ?_⟩
        by_cases o2 : a0 < b0
        case neg =>
          rw [decide_eq_false o2]
          exact iteF ⟨_, rfl, iteT (hqn fun h => o2 h.2.1)⟩
        refine if_t (decide_eq_true o2) ⟨_, rfl, _, _, rfl, rfl, _, rfl, ?_⟩
        by_cases o3 : b0 ≤ d
        case neg =>
          rw [decide_eq_false o3]
          exact iteT (hqn fun h => o3 h.2.2)
        rw [decide_eq_true o3]
        refine iteF ⟨_, rfl, t, _, 1, _, rfl, rfl, hT, e1, rfl, some (.ref t), qs ++ [(a0, b0)], ?_, hours_snoc.mpr ⟨hok, o1, o2, o3⟩, ?_⟩
        · rw [enext, List.map_append]
          rfl
        · have e5 : lastOf (-1) (qs ++ [(a0, b0)]) (qs ++ [(a0, b0)]).length = b0 := by
            unfold lastOf
            rw [List.take_length]
            simp
          rw [e5]
          rfl
      · rintro σ H' ⟨rfl, v, qs, eqs, hok, rfl⟩
        rw [← hlen, List.take_length] at eqs
        refine ⟨_, rfl, c, l, rfl, ⟨_, hS⟩, fun D nD => lc_sq (K := K) (c := c) (a := l) (xs := xs) (fun i H1 => Grew P H' H1 ∧ H1 D = some (.lst (xs.take i)) ∨ False)
          (.inl ⟨Grew.new hP nD, upd_same⟩) (fun i H1 _ p => p.elim (fun p => hS.grew p.1 hP) False.elim) (fun i x H1 hx p => ?_) (fun H1 p => ?_)⟩
        · obtain ⟨g, hD⟩ := p.elim id False.elim
          obtain ⟨p, hp, t, rfl, hT⟩ := Paired.at hG hx
          refine ⟨rfl, _, rfl, t, _, rfl, .inr ⟨g.sqT hP hT, _, hD, ?_, .inl ⟨g.write hD (fun _ z => by cases z) nD, ?_⟩⟩⟩
          · rw [List.length_take, sizeLine_eq]; omega
          · rw [upd_same, List.take_succ, hx]; rfl
        · obtain ⟨g, hD⟩ := p.elim id False.elim
          rw [List.take_length] at hD
          refine ⟨D, _, rfl, .inl ⟨SqL.of hD, fun q nq => ?_⟩⟩
          have gq := g.put (o := .tup xs) nq
          have hG2 : Paired (GPair K (L2.upd H1 q (.tup xs))) qs xs := pairs_of (by
            rw [eqs] at hG
            exact Paired.map' hG fun a b m => m.keep (KeepT.grew gq hP))
          refine kQ (some qs) (by rw [eqs]; rfl) ⟨?_, hok⟩ _ _ gq ⟨q, xs, rfl, SqT.of upd_same, hG2⟩
          rw [eqs, List.length_map] at c4
          exact c4
end
end W

set_option Elab.async false
set_option linter.all false
set_option maxRecDepth 100000
set_option maxHeartbeats 1000000
namespace W
open PySem PySem.Spec PyProof.Rows L2 GxR MyG MyS SqX
def NamesOk (lo hi : Int) (ns : List Str) : Prop := lo ≤ ns.length ∧ (ns.length : Int) ≤ hi ∧ ns.all isNm = true ∧ ns.Nodup
def spNamesX (K : PySem.W.Frag) (C P : Addr) : Sp := fun vs H Q E => ∃ (a : Addr) (c : Bool) (ns : List Str) (lo hi : Int), vs = [.ref a, .int lo, .int hi] ∧ SqK c K H a (ns.map V.str) ∧ ns.length ≤ 1000 ∧ (∀ z ∈ ns, z.length ≤ 1000) ∧ lo.natAbs < 1000 ∧ hi.natAbs < 1000 ∧ TabG H P ∧
  (NamesOk lo hi ns → ∀ H' p ys, Grew P H H' → H p = none → H' p = some (.tup (ys.map V.str)) → ys.Perm ns → Asc ys → Q (.ref p) H') ∧ (¬ NamesOk lo hi ns → BadM C P H E)
/-- a road as it is given -/
structure RoadG where
  name : Str
  start : Str
  goal : Str
  minutes : Int
  users : List Str
  hours : Option (List (List Int))
def rG (r : RoadD) : RoadG := ⟨r.name, r.start, r.goal, r.minutes, r.users, hoursG r.hours⟩
def GRoadX (K : PySem.W.Frag) (H : Hp) (r : RoadG) (v : V) : Prop := ∃ (t u : Addr) (h : V) (c : Bool), v = .ref t ∧ SqT K H t [.str r.name, .str r.start, .str r.goal, .int r.minutes, .ref u, h] ∧ SqK c K H u (r.users.map V.str) ∧ GHoursX K H r.hours h
theorem GRoadX.grew {K : PySem.W.Frag} {P : Addr} {H H' : Hp} {r : RoadG} {v : V} (g : Grew P H H') (hP : TabG H P) (h : GRoadX K H r v) : GRoadX K H' r v := by
  obtain ⟨t, u, x, c, a, b, d, e⟩ := h
  exact ⟨t, u, x, c, a, g.sqT hP b, d.grew g hP, e.grew g hP⟩
/-- of a size that is told -/
structure SmallG (r : RoadG) : Prop where
  n : r.name.length ≤ 1000
  s : r.start.length ≤ 1000
  g : r.goal.length ≤ 1000
  m : r.minutes.natAbs < 10 ^ 12
  ul : r.users.length ≤ 1000
  u : ∀ z ∈ r.users, z.length ≤ 1000
  h : ∀ ps, r.hours = some ps → ps.length ≤ 1000
def RoadGOk (d : Int) (ps ks : List Str) (r : RoadG) : Prop := ∃ r0, r = rG r0 ∧ RoadOk d ps ks r0
def spRoadX (K : PySem.W.Frag) (C P : Addr) : Sp := fun vs H Q E => ∃ (x : V) (pl ki : Addr) (d : Int) (ps ks : List Str) (r : RoadG), vs = [x, .int d, .ref pl, .ref ki] ∧ GRoadX K H r x ∧ SmallG r ∧ SqT K H pl (ps.map V.str) ∧ SqT K H ki (ks.map V.str) ∧ ks.length ≤ 4 ∧ TabG H P ∧
  (∀ r0, r = rG r0 → RoadOk d ps ks r0 → ∀ H' p q h r', Grew P H H' → Kept r0 r' → H p = none → H' p = some (.tup [.str r'.name, .str r'.start, .str r'.goal, .int r'.minutes, .ref q, h]) → H' q = some (.tup (r'.users.map V.str)) → GHours K H' r'.hours h → Q (.ref p) H') ∧
  (¬ RoadGOk d ps ks r → BadM C P H E)
theorem inV_dec (z : Str) (xs : List Str) : inV (.str z) (xs.map V.str) = decide (z ∈ xs) := by
  by_cases h : z ∈ xs
  · rw [inV_str h, decide_eq_true h]
  · rw [decide_eq_false h]
    unfold inV
    rw [List.any_map, List.any_eq_false]
    intro y hy e
    have q : y = z := by simpa [eqV] using e
    exact h (q ▸ hy)
theorem nodup_sub_len {α : Type} : ∀ {l m : List α}, l.Nodup → (∀ x ∈ l, x ∈ m) → l.length ≤ m.length
  | [], m, _, _ => Nat.zero_le _
  | a :: l, m, nd, h => by
    obtain ⟨s, t, rfl⟩ := List.append_of_mem (h a List.mem_cons_self)
    have nd' := List.nodup_cons.mp nd
    have := nodup_sub_len (l := l) (m := s ++ t) nd'.2 fun x hx => by
      have hm := h x (List.mem_cons_of_mem _ hx)
      rcases List.mem_append.mp hm with q | q
      · exact List.mem_append_left _ q
      · rcases List.mem_cons.mp q with e | q
        · rw [e] at hx; exact absurd hx nd'.1
        · exact List.mem_append_right _ q
    simp only [List.length_append, List.length_cons] at this ⊢
    omega
section
variable {Pg : Program} {w : World} {K : PySem.W.Frag} {mg : Str → Option Value} {base : Heap} {C P : Addr}
theorem ok_namesX {f fN fD : Addr} {fd fdN fdD : FuncData} (F : Fun K "_checked_names" "_checked_names" sNames f fd) (T : TxtE mg K C) (hl : mg "len" = none) (ht : mg "tuple" = none) (hs : mg "sorted" = none)
    (GN : FnOk Pg w K mg base CX0 2 fN fdN ["text"] (spIsName P)) (gN : mg "is_name" = some (.ref fN)) (kN : PySem.W.keepIn K (.ref fN) = true) (bN : Binds K fdN ["text"] [])
    (GD : FnOk Pg w K mg base (L2N.CX Pg w) 1 fD fdD ["parts"] (spDiffX K C P)) (gD : mg "_check_different" = some (.ref fD)) (kD : PySem.W.keepIn K (.ref fD) = true) (bD : Binds K fdD ["parts"] []) :
    FnOk Pg w K mg base (L2N.CX Pg w) 3 f fd ["names", "least", "most"] (spNamesX K C P) := by
  refine MyN.okN F scNames (fun vs H Q E h => ?_) (fun cdv A outer s H vs Q E hr h => ?_)
  · obtain ⟨a, c, ns, lo, hi, rfl, _⟩ := h
    rfl
  · obtain ⟨a, c, ns, lo, hi, rfl, hS, h1, hz, hlo9, hhi9, hP, kQ, kE⟩ := h
    have hr1 : Room 1 _ := hr.mono (by decide)
    refine ⟨_, pss_cons (ps_if (pt_not (pt_chain op_le op_le (pv 1) (pe_callB call_len_seq (by rfl) hl PySem.boot_len (pa_cons (pv 0) pa_nil)) (pv 2))) (pss_one (L2N.ps_raise rfl (L2N.takes_of rfl rfl rfl rfl) (MyN.mk1 PySem.F.excBase_ValueError T.xC T.gC T.kC (raises_own T.bC T.tC) (by rfl)
          (pe_joined (PJ.cons pe_str (PJ.cons (pe_fmt (pv 1)) (PJ.cons pe_str (PJ.cons (pe_fmt (pv 2)) (PJ.cons pe_str (PJ.cons (pe_fmt (pe_callB call_len_seq (by rfl) hl PySem.boot_len (pa_cons (pv 0) pa_nil))) PJ.nil)))))))))) pss_nil)
      (pss_cons (ps_for (passes_of rfl) rfl (pi_sq (pv 0)) (pg_name (i := 3) scNames.nd rfl (Or.inl rfl))
        (pss_one (ps_if (pt_not (pt_val (pe_call GN (hr.mono (by decide)) (by rfl) gN kN bN .nil pass0 (pa_cons (pv 3) pa_nil)))) (pss_one (L2N.ps_raise rfl (L2N.takes_of rfl rfl rfl rfl) (MyN.mk1 PySem.F.excBase_ValueError T.xC T.gC T.kC (raises_own T.bC T.tC) (by rfl) (pe_joined (PJ.cons pe_str (PJ.cons (pe_fmt (pv 3)) PJ.nil)))))) pss_nil)))
      (pss_cons (ps_expr (pe_call (E := E) GD hr1 (by rfl) gD kD bD .nil (L2N.passes_call (L2N.takes_of rfl rfl rfl rfl) (fun _ _ _ _ h => h)) (pa_cons (pv 0) pa_nil)))
      (pss_one (ps_ret (pe_callTy call_tuple_of (by rfl) ht (by decide +kernel) (pa_cons (pe_callB cr_sortSQ (by rfl) hs (by decide +kernel) (pa_cons (pv 0) pa_nil)) pa_nil)))))), ?_⟩
    have parts : ∀ t ∈ [tC (.str "not from "), tFmt (tVar 1), tC (.str " to "), tFmt (tVar 2), tC (.str " names: "), tFmt (tCB (fun xs H Q => ∃ p ys, xs = [V.ref p] ∧ (SqL K H p ys ∨ SqT K H p ys) ∧ Q (V.int ys.length) H) (tCons (tVar 0) tNil))], Short t [some (V.ref a), some (V.int lo), some (V.int hi), none] H := fun t ht => by
      simp only [List.mem_cons, List.not_mem_nil, or_false] at ht
      rcases ht with rfl | rfl | rfl | rfl | rfl | rfl
      · exact short_c (by decide +kernel)
      · exact short_n rfl (by omega)
      · exact short_c (by decide +kernel)
      · exact short_n rfl (by omega)
      · exact short_c (by decide +kernel)
      · exact short_i (n := (ns.length : Int)) (fun Q q => ⟨_, rfl, a, _, rfl, hS.any, by rw [List.length_map]; exact q⟩) (by omega)
    have bad : ¬ NamesOk lo hi ns → ∀ z : Str, E (.ref C) none H := fun h _ => (kE h).here hP
    refine ⟨_, rfl, _, rfl, a, _, rfl, hS.any, _, _, rfl, rfl, _, rfl, ?_⟩
    rw [List.length_map]
    by_cases q1 : lo ≤ ns.length
    case neg =>
      rw [decide_eq_false q1]
      refine iteF ⟨_, rfl, iteT ?_⟩
      exact tJs_ok (bad fun h => q1 h.1) 0 parts (Nat.zero_le _) (by show 0 + 1000 * 6 ≤ 100000; decide)
    refine if_t (decide_eq_true q1) ⟨_, rfl, _, _, rfl, rfl, _, rfl, ?_⟩
    by_cases q2 : (ns.length : Int) ≤ hi
    case neg =>
      rw [decide_eq_false q2]
      refine iteT ?_
      exact tJs_ok (bad fun h => q2 h.2.1) 0 parts (Nat.zero_le _) (by show 0 + 1000 * 6 ≤ 100000; decide)
    rw [decide_eq_true q2]
    refine iteF ⟨_, rfl, c, a, rfl, ⟨_, hS⟩, for_sq (K := K) (c := c) (a := a) (xs := ns.map V.str) (fun i σ H' => ∃ v, σ = [some (.ref a), some (.int lo), some (.int hi), v] ∧ Grew P H H' ∧ (ns.take i).all isNm = true)
      ⟨none, rfl, Grew.refl hP, by rw [List.take_zero]; rfl⟩ (fun i σ H' _ ⟨_, _, g, _⟩ => hS.grew g hP) ?_ ?_⟩
    · rintro i y σ H' hi ⟨v, rfl, g, hall⟩
      obtain ⟨z, hzi, rfl⟩ : ∃ z, ns[i]? = some z ∧ y = V.str z := by
        rw [List.getElem?_map] at hi
        obtain ⟨z, e1, e2⟩ := Option.map_eq_some_iff.mp hi
        exact ⟨z, e1, e2.symm⟩
      have hzl := hz z (List.mem_of_getElem? hzi)
      refine ⟨_, rfl, z, rfl, by rw [sizeLine_eq]; omega, g.tab, fun H2 t2 => ⟨_, rfl, ?_⟩⟩
      have g2 := g.trans (Grew.of t2)
      cases hn : isNm z with
      | true => exact iteF ⟨_, rfl, g2, by rw [List.take_succ, hzi, List.all_append, hall]; simp [hn]⟩
      | false =>
        refine iteT ?_
        refine tJs_ok (fun _ => kE (fun h => ?_) _ g2) 0 (fun t ht => ?_) (Nat.zero_le _) (by decide)
        · have := List.all_eq_true.mp h.2.2.1 z (List.mem_of_getElem? hzi)
          rw [hn] at this
          cases this
        · simp only [List.mem_cons, List.not_mem_nil, or_false] at ht
          rcases ht with rfl | rfl
          · exact short_c (by decide +kernel)
          · exact short_v rfl hzl
    · rintro σ H' ⟨v, rfl, g, hall⟩
      rw [List.length_map, List.take_length] at hall
      refine ⟨_, rfl, a, rfl, g.tab, .inl ⟨ns, (hS.grew g hP).any, h1, fun nd => ?_, fun nd => (kE fun h => nd h.2.2.2).on g⟩⟩
      refine ⟨_, rfl, a, ns, rfl, (hS.grew g hP).any, fun ys l hp hso hl => ⟨l, _, rfl, .inl ⟨SqL.of upd_same, fun p hp2 => ?_⟩⟩⟩
      have gl := g.put (o := .lst (ys.map V.str)) hl
      exact kQ ⟨q1, q2, hall, nd⟩ _ p ys (gl.put hp2) (gl.free hp2) upd_same hp hso
theorem ok_roadX {f fH fD : Addr} {fd fdH fdD : FuncData} {t1 : Tok} (F : Fun K "_checked_road" "_checked_road" sRoad f fd) (T : TxtE mg K C) (ht : mg "tuple" = none) (hs : mg "sorted" = none) (hm : mg "MOST_MINUTES" = some (.int 1000 t1))
    (GD : FnOk Pg w K mg base (L2N.CX Pg w) 1 fD fdD ["parts"] (spDiffX K C P)) (gD : mg "_check_different" = some (.ref fD)) (kD : PySem.W.keepIn K (.ref fD) = true) (bD : Binds K fdD ["parts"] [])
    (GH : FnOk Pg w K mg base (L2N.CX Pg w) 1 fH fdH ["hours", "day"] (spHoursX K C P)) (gH : mg "_checked_hours" = some (.ref fH)) (kH : PySem.W.keepIn K (.ref fH) = true) (bH : Binds K fdH ["hours", "day"] []) :
    FnOk Pg w K mg base (L2N.CX Pg w) 2 f fd ["road", "day", "places", "kinds"] (spRoadX K C P) := by
  refine MyN.okN F scRoad (fun vs H Q E h => ?_) (fun cdv A outer s H vs Q E hr h => ?_)
  · obtain ⟨x, pl, ki, d, ps, ks, r, rfl, _⟩ := h
    rfl
  · obtain ⟨x, pl, ki, d, ps, ks, r, rfl, ⟨t, u, h, c, rfl, hT, hU, hH⟩, sm, hPl, hKi, hk4, hP, kQ, kE⟩ := h
    refine ⟨_, pss_cons (ps_asg (pv 0) (pg_tup (by rfl) (pgs_cons (pg_name (i := 4) scRoad.nd rfl (.inl rfl)) (pgs_cons (pg_name (i := 5) scRoad.nd rfl (.inl rfl)) (pgs_cons (pg_name (i := 6) scRoad.nd rfl (.inl rfl))
        (pgs_cons (pg_name (i := 7) scRoad.nd rfl (.inl rfl)) (pgs_cons (pg_name (i := 8) scRoad.nd rfl (.inl rfl)) (pgs_cons (pg_name (i := 9) scRoad.nd rfl (.inl rfl)) pgs_nil))))))))
      (C8.pss_cut (ps_if (PW.pt (pw_or (pt_cmpR op_notIn_seq (pv 5) (pv 2) (by rfl)) (pw_or1 (pt_cmpR op_notIn_seq (pv 6) (pv 2) (by rfl))))) (pss_one (L2N.ps_raise rfl (L2N.takes_of rfl rfl rfl rfl) (MyN.mk1 PySem.F.excBase_ValueError T.xC T.gC T.kC (raises_own T.bC T.tC) (by rfl) (pe_joined (PJ.cons pe_str (PJ.cons (pe_fmt (pv 4)) (PJ.cons pe_str PJ.nil))))))) pss_nil)
      (pss_cons (ps_if (pt_not (pt_chain op_le op_le pe_int (pv 7) (pe_gI hm))) (pss_one (L2N.ps_raise rfl (L2N.takes_of rfl rfl rfl rfl) (MyN.mk1 PySem.F.excBase_ValueError T.xC T.gC T.kC (raises_own T.bC T.tC) (by rfl) (pe_joined (PJ.cons pe_str (PJ.cons (pe_fmt (pv 4)) (PJ.cons pe_str (PJ.cons (pe_fmt (pv 7)) (PJ.cons pe_str PJ.nil))))))))) pss_nil)
      (pss_cons (ps_for (passes_of rfl) rfl (pi_sq (pv 8)) (pg_name (i := 10) scRoad.nd rfl (Or.inl rfl)) (pss_one (ps_if (pt_cmpR op_notIn_seq (pv 10) (pv 3) (by rfl)) (pss_one (L2N.ps_raise rfl (L2N.takes_of rfl rfl rfl rfl) (MyN.mk1 PySem.F.excBase_ValueError T.xC T.gC T.kC (raises_own T.bC T.tC) (by rfl) (pe_joined (PJ.cons pe_str (PJ.cons (pe_fmt (pv 4)) (PJ.cons pe_str (PJ.cons (pe_fmt (pv 10)) PJ.nil)))))))) pss_nil)))
      (pss_cons (ps_expr (pe_call (E := E) GD (hr.mono (by decide)) (by rfl) gD kD bD .nil (L2N.passes_call (L2N.takes_of rfl rfl rfl rfl) (fun _ _ _ _ h => h)) (pa_cons (pv 8) pa_nil)))
      (pss_one (ps_ret (pe_tup (pa_cons (pv 4) (pa_cons (pv 5) (pa_cons (pv 6) (pa_cons (pv 7) (pa_cons (pe_callTy call_tuple_of (by rfl) ht (by decide +kernel) (pa_cons (pe_callB cr_sortSQ (by rfl) hs (by decide +kernel) (pa_cons (pv 8) pa_nil)) pa_nil))
        (pa_cons (pe_call (E := E) GH (hr.mono (by decide)) (by rfl) gH kH bH .nil (L2N.passes_call (L2N.takes_of rfl rfl rfl rfl) (fun _ _ _ _ h => h)) (pa_cons (pv 9) (pa_cons (pv 1) pa_nil))) pa_nil))))))))))))), ?_⟩
    have bad : ¬ RoadGOk d ps ks r → E (.ref C) none H := fun h => (kE h).here hP
    refine ⟨_, rfl, t, _, rfl, hT, rfl, _, _, rfl, _, _, rfl, _, _, rfl, _, _, rfl, _, _, rfl, _, _, rfl, rfl, ?_⟩
    obtain ⟨S, eS⟩ : ∃ S : L2.St, S = [some (V.ref t), some (.int d), some (.ref pl), some (.ref ki), some (.str r.name), some (.str r.start), some (.str r.goal), some (.int r.minutes), some (.ref u), some h, none] := ⟨_, rfl⟩
    refine ⟨fun σ H' => σ = S ∧ H' = H ∧ r.start ∈ ps ∧ r.goal ∈ ps, ?_, ?_⟩
    · have parts : ∀ t ∈ [tC (.str "the road "), tFmt (tVar 4), tC (.str " does not lead from a place to a place")], Short t S H := fun t ht => by
        simp only [List.mem_cons, List.not_mem_nil, or_false] at ht
        rcases ht with rfl | rfl | rfl
        · exact short_c (by decide +kernel)
        · exact short_v (y := r.name) (by rw [eS]; rfl) sm.n
        · exact short_c (by decide +kernel)
      rw [eS] at parts
      refine ⟨_, rfl, _, rfl, pl, _, rfl, .inr hPl, rfl, flat_strs _, _, rfl, ?_⟩
      rw [inV_dec]
      by_cases q1 : r.start ∈ ps
      case neg =>
        refine if_t (by rw [decide_eq_false q1]; rfl) ?_
        exact tJs_ok (fun _ => bad fun ⟨r0, e, o⟩ => q1 (by rw [e]; exact o.s)) 0 parts (Nat.zero_le _) (by decide)
      refine if_f (by rw [decide_eq_true q1]; rfl) ?_
      refine ⟨_, rfl, _, rfl, pl, _, rfl, .inr hPl, rfl, flat_strs _, _, rfl, ?_⟩
      rw [inV_dec]
      by_cases q2 : r.goal ∈ ps
      case neg =>
        refine if_t (by rw [decide_eq_false q2]; rfl) ?_
        exact tJs_ok (fun _ => bad fun ⟨r0, e, o⟩ => q2 (by rw [e]; exact o.g)) 0 parts (Nat.zero_le _) (by decide)
      exact if_f (by rw [decide_eq_true q2]; rfl) ⟨eS.symm, rfl, q1, q2⟩
    rintro σ H' ⟨eσ, eH, hs1, hs2⟩
    rw [eσ, eS, eH]
    have parts : ∀ t ∈ [tC (.str "the road "), tFmt (tVar 4), tC (.str " cannot take "), tFmt (tVar 7), tC (.str " minutes")], Short t S H := fun t ht => by
      simp only [List.mem_cons, List.not_mem_nil, or_false] at ht
      rcases ht with rfl | rfl | rfl | rfl | rfl
      · exact short_c (by decide +kernel)
      · exact short_v (y := r.name) (by rw [eS]; rfl) sm.n
      · exact short_c (by decide +kernel)
      · exact short_n (n := r.minutes) (by rw [eS]; rfl) sm.m
      · exact short_c (by decide +kernel)
    rw [eS] at parts
    refine ⟨_, rfl, _, _, rfl, rfl, _, rfl, ?_⟩
    by_cases m1 : 1 ≤ r.minutes
    case neg =>
      rw [decide_eq_false m1]
      refine iteF ⟨_, rfl, iteT ?_⟩
      exact tJs_ok (fun _ => bad fun ⟨r0, e, o⟩ => m1 (by rw [e]; exact o.m1)) 0 parts (Nat.zero_le _) (by decide)
    refine if_t (decide_eq_true m1) ⟨_, _, rfl, rfl, _, rfl, ?_⟩
    by_cases m2 : r.minutes ≤ 1000
    case neg =>
      rw [decide_eq_false m2]
      refine iteT ?_
      exact tJs_ok (fun _ => bad fun ⟨r0, e, o⟩ => m2 (by rw [e]; exact o.m2)) 0 parts (Nat.zero_le _) (by decide)
    rw [decide_eq_true m2]
    refine iteF ?_
    refine ⟨_, rfl, c, u, rfl, ⟨_, hU⟩, for_sq (K := K) (c := c) (a := u) (xs := r.users.map V.str) (fun i σ H' => H' = H ∧ (∃ v, σ = [some (.ref t), some (.int d), some (.ref pl), some (.ref ki), some (.str r.name), some (.str r.start), some (.str r.goal), some (.int r.minutes), some (.ref u), some h, v]) ∧ ∀ z ∈ r.users.take i, z ∈ ks)
      ⟨rfl, ⟨none, rfl⟩, fun z hz => by rw [List.take_zero] at hz; cases hz⟩ (fun i σ H' _ ⟨e, _⟩ => by rw [e]; exact hU) ?_ ?_⟩
    · rintro i y σ H' hi ⟨rfl, ⟨v, rfl⟩, hin⟩
      obtain ⟨z, hzi, rfl⟩ : ∃ z, r.users[i]? = some z ∧ y = V.str z := by
        rw [List.getElem?_map] at hi
        obtain ⟨z, e1, e2⟩ := Option.map_eq_some_iff.mp hi
        exact ⟨z, e1, e2.symm⟩
      have hzm := List.mem_of_getElem? hzi
      refine ⟨_, rfl, _, rfl, ki, _, rfl, .inr hKi, rfl, flat_strs _, _, rfl, ?_⟩
      rw [inV_dec]
      by_cases q : z ∈ ks
      case neg =>
        refine if_t (by rw [decide_eq_false q]; rfl) ?_
        refine tJs_ok (fun _ => bad fun ⟨r0, e, o⟩ => q (o.u z (by rw [e] at hzm; exact hzm))) 0 (fun t ht => ?_) (Nat.zero_le _) (by decide)
        simp only [List.mem_cons, List.not_mem_nil, or_false] at ht
        rcases ht with rfl | rfl | rfl | rfl
        · exact short_c (by decide +kernel)
        · exact short_v (y := r.name) rfl sm.n
        · exact short_c (by decide +kernel)
        · exact short_v (y := z) rfl (sm.u z hzm)
      refine if_f (by rw [decide_eq_true q]; rfl) ⟨rfl, ⟨_, rfl⟩, fun x hx => ?_⟩
      rw [List.take_succ, hzi] at hx
      rcases List.mem_append.mp hx with hx | hx
      · exact hin x hx
      · rw [List.mem_singleton.mp hx]; exact q
    · rintro σ H' ⟨rfl, ⟨v, rfl⟩, hin⟩
      rw [List.length_map, List.take_length] at hin
      refine ⟨_, rfl, u, rfl, hP, .inl ⟨r.users, hU.any, sm.ul, fun nd => ?_, fun nd => kE fun ⟨r0, e, o⟩ => nd (by rw [e]; exact o.ud)⟩⟩
      have un : r.users.length ≤ 4 := Nat.le_trans (nodup_sub_len nd hin) hk4
      refine ⟨_, rfl, _, rfl, _, rfl, _, rfl, _, rfl, u, r.users, rfl, hU.any, fun ys l hp hso hl => ⟨l, _, rfl, .inl ⟨SqL.of upd_same, fun q hq => ?_⟩⟩⟩
      have gl := Grew.new hP (o := .lst (ys.map V.str)) hl
      have gq := gl.put (o := .tup (ys.map V.str)) hq
      refine ⟨_, rfl, _, rfl, d, r.hours, h, rfl, hH.grew gq hP, sm.h, gq.tab, fun hh ehh okh H2 v' g2 hv => ⟨by show 6 ≤ sizeLine; decide, fun p hp2 => ?_⟩, fun nh => (kE fun ⟨r0, e, o⟩ => nh ⟨r0.hours, by rw [e]; rfl, o.h⟩).on gq⟩
      have g3 := gq.trans g2
      have gp := g3.put (o := .tup [.str r.name, .str r.start, .str r.goal, .int r.minutes, .ref q, v']) hp2
      have e2 : H2 q = some (.tup (ys.map V.str)) := g2.tup gq.tab upd_same
      have er : r = rG ⟨r.name, r.start, r.goal, r.minutes, r.users, hh⟩ := by
        unfold rG
        rw [← ehh]
      exact kQ ⟨r.name, r.start, r.goal, r.minutes, r.users, hh⟩ er ⟨hs1, hs2, m1, m2, hin, un, nd, okh⟩ _ p q v' ⟨r.name, r.start, r.goal, r.minutes, ys, hh⟩ gp ⟨rfl, rfl, rfl, rfl, rfl, hp, hso⟩ (g3.free hp2) upd_same (by rw [upd_ne (ne_of_none e2 hp2)]; exact e2) (hv.keep (KeepT.new hp2))
end
end W

set_option Elab.async false
set_option linter.all false
set_option maxRecDepth 100000
set_option maxHeartbeats 2000000
/-! a comprehension whose element (or test) may let an exception out -/
namespace CpN
open PySem PySem.Spec PyProof.Rows L2
/-- what a block lets out: an exception over the frames, and the block's own state without it -/
def OutB (X : Cx) (s : Shared) (H : Hp) (scope : Scope) (ce : Env) (fp : List Addr) (E : XK) (u : Value) (s' : Shared) : Prop :=
  ∃ (a : Addr) (B : Heap) (sI : Shared) (pb : List (Addr × Obj)) (σb : L2.St) (H' : Hp) (cls : Value) (d : Option Addr), u = .ref a ∧ Inv (X.blk s H scope ce fp) pb σb H' sI ∧ (∀ b o, sI.heap.get? b = some o → b ∉ frs X.stack → B.get? b = some o) ∧
    sI.heap.UpToSlots s'.heap ∧ HandSPX.FlyingZ B X.stack a (L2N.Zn cls d) s'.heap ∧ H' a = none ∧ s'.os = sI.os ∧ AllBare s'.gens ∧ E cls d H'
/-- the block with its wish -/
abbrev blkE (X : Cx) (E : XK) (s : Shared) (H : Hp) (scope : Scope) (ce : Env) (fp : List Addr) : Cx := (X.blk s H scope ce fp).wish (OutB X s H scope ce fp E)
/-- what a call lets out, over the state at the call without the exception's objects -/
theorem fly_of {X : Cx} {pins : List (Addr × Obj)} {σ : L2.St} {H : Hp} {s s' : Shared} {E : XK} {u : Value} (I : Inv X pins σ H s) (c : L2N.CX X.prog X.w X.stack H s E u s') :
    ∃ (a : Addr) (B : Heap) (sI : Shared) (H' : Hp) (cls : Value) (d : Option Addr), u = .ref a ∧ Inv X pins σ H' sI ∧ (∀ b o, sI.heap.get? b = some o → b ∉ frs X.stack → B.get? b = some o) ∧ sI.heap.UpToSlots s'.heap ∧ HandSPX.FlyingZ B X.stack a (L2N.Zn cls d) s'.heap ∧ H' a = none ∧ s'.os = sI.os ∧ AllBare s'.gens ∧ E cls d H' := by
  obtain ⟨a, B, H', cls, d, rfl, fl, hok, ub, na, os, ag, hE⟩ := c
  obtain ⟨G, in1, out1⟩ := restrict s'.heap fun b => decide (b ∈ frs X.stack) || (B.get? b).isSome
  have here : ∀ b o, G.get? b = some o → s'.heap.get? b = some o ∧ (b ∈ frs X.stack ∨ (B.get? b).isSome = true) := fun b o e => by
    by_cases q : (decide (b ∈ frs X.stack) || (B.get? b).isSome) = true
    · rw [in1 b q] at e
      rw [Bool.or_eq_true, decide_eq_true_iff] at q
      exact ⟨e, q⟩
    · rw [out1 b (by simpa using q)] at e
      cases e
  have low : ∀ b o, B.get? b = some o → G.get? b = some o := fun b o e => (in1 b (by rw [e]; simp)).trans (fl.1 b o e)
  have frm : ∀ b, b ∈ frs X.stack → G.get? b = s'.heap.get? b := fun b hb => in1 b (by rw [decide_eq_true hb]; rfl)
  have un : Un (frs X.stack) [] H H' s.heap G := by
    refine ⟨fun b o e n hb _ => low b o (ub.keep b o e n hb), fun b o e _ hb _ => ?_, fun b o e n _ => ub.free b o e n, fun b o e _ => ?_, ub.tups, ub.frzs, ub.tbls⟩
    · obtain ⟨sl, q⟩ := ub.slot b o e hb
      exact ⟨sl, (frm b hb).trans q⟩
    · by_cases hb : b ∈ frs X.stack
      · obtain ⟨sl, q⟩ := ub.slot b o e hb
        exact ⟨_, (frm b hb).trans q⟩
      · obtain ⟨o', q⟩ := ub.there b o e hb
        exact ⟨o', low b o' q⟩
  have J := I.call (g' := s'.gens) (d' := s'.drawn) (t' := s'.toks) un (hok.kept low) ag (fun _ z => nomatch z)
  refine ⟨a, B, _, H', cls, d, rfl, J, fun b o e hb => ?_, fun b o e _ => ⟨o.slots, (here b o e).1⟩, fl, na, os, ag, hE⟩
  obtain ⟨e1, e2⟩ := here b o e
  rcases e2 with h | h
  · exact absurd h hb
  · obtain ⟨o', q⟩ := Option.isSome_iff_exists.mp h
    have z := fl.1 b o' q
    rw [e1] at z
    cases z
    exact q
/-- what a call in the block may let out -/
theorem passB {X : Cx} {E : XK} {s : Shared} {H : Hp} {scope : Scope} {ce : Env} {fp : List Addr} {Pg : Program} {w : World} (hP : X.prog = Pg) (hw : X.w = w) : Passes (L2N.CX Pg w) (blkE X E s H scope ce fp) E := by
  subst hP hw
  intro pins σ Hc sc u s' I c
  obtain ⟨a, B, sI, H', cls, d, e, J, nb, up, fl, na, os, ag, hE⟩ := fly_of (X := X.blk s H scope ce fp) I.unwish c
  exact ⟨a, B, sI, pins, σ, H', cls, d, e, J, nb, up, fl, na, os, ag, hE⟩
theorem note_same {x : Value} {ce env : Env} (h : ce.frame = env.frame) : noteFrame x ce = noteFrame x env := by
  unfold noteFrame PySem.frameOf
  rw [h]
theorem ns_up {h h' : Heap} {a : Addr} {m : Str → Option Value} (n : h.Ns a m) (u : h.UpToSlots h') : h'.Ns a m := by
  obtain ⟨o, es, ep, ho, hd, r⟩ := n
  obtain ⟨sl, q⟩ := u a o ho (fun vs z => by rw [hd] at z; cases z)
  exact ⟨_, es, ep, q, hd, r⟩
theorem fun_at {base B h h' : Heap} (nn : ∀ b, base.get? b = none → B.get? b = none) : ∀ {l : List Env}, h.FunFrames base l → (∀ b ∈ frs l, h'.get? b = h.get? b) → h'.FunFrames B l
  | [], _, _ => trivial
  | e :: l, ⟨hk, ⟨L, o, hf, nb, ho, hd⟩, hr⟩, k => ⟨hk, ⟨L, o, hf, nn L nb, (k L (List.mem_filterMap.mpr ⟨e, List.mem_cons_self, hf⟩)).trans ho, hd⟩, fun_at nn hr fun b hb => k b (by
      obtain ⟨e2, m, q⟩ := List.mem_filterMap.mp hb
      exact List.mem_filterMap.mpr ⟨e2, List.mem_cons_of_mem _ m, q⟩)⟩
/-- the exception leaves the block: noted, the block's names let go, on in the def's frame -/
theorem leaves_block {X : Cx} {E : XK} {pins : List (Addr × Obj)} {σ : L2.St} {s : Shared} {H : Hp} {scope : Scope} {ce : Env} {fp : List Addr} {u : Value} {s' : Shared} {use : Option (Value → Sem Unit)} {Qf : Value → Shared → Prop} {acc : Value}
    (hs : X.stack = X.env :: X.outer) (hf : X.env.frame = some X.env.locals) (tk : L2N.Takes X (fun cls d _ H => E cls d H)) (I : Inv X pins σ H s) (hl : ce.locals = s.heap.objs.size) (hfr : ce.frame = X.env.frame)
    (hfp : ∀ b ∈ fp, FpOk X pins H b) (x : OutB X s H scope ce fp E u s') :
    notedBy (model X.prog X.w) X.A ce (fun e s'' => compEnds (model X.prog X.w) X.A X.xe use Qf acc ce (.error e) s'') u s' := by
  obtain ⟨a, B, sI, pb, σb, H', cls, d, rfl, J, nb, up, fl, na, os, ag, hE⟩ := x
  have frA : X.A.frames = some (X.env :: X.outer) := by rw [I.ok.frames, hs]
  show wpAny _ _ (noteFrame (.ref a) ce) _ _ _
  rw [note_same hfr]
  rw [hs] at fl
  refine PXN.looks_onZ L2N.Zn.steady frA hf fl fun h1 held up1 => ?_
  obtain ⟨m, nsI, _⟩ := J.loc
  have ns1 := ns_up (ns_up nsI up) up1
  have ends : CompFails (model X.prog X.w) X.A X.xe ce (.ref a) { s' with heap := h1 } := by
    refine ⟨m, ns1, fun h2 m2 ns2 same => ?_⟩
    obtain ⟨k1, k2, k3, oe, vs, T, oT, ts, he, hz, hd, hv, hnT, hTe, hT, hdT, h3⟩ := held
    have dict1 : ∃ o es ep, h1.get? ce.locals = some o ∧ o.data = .dict es ep := by
      obtain ⟨o, es, ep, ho, hdo, _⟩ := ns1
      exact ⟨o, es, ep, ho, hdo⟩
    obtain ⟨oc, es, ep, hoc, hdc⟩ := dict1
    have neA : a ≠ ce.locals := fun z => by
      rw [z, hoc] at he
      cases he
      rw [hd] at hdc
      cases hdc
    have neT : T ≠ ce.locals := fun z => by
      rw [z, hoc] at hT
      cases hT
      rw [hdT] at hdc
      cases hdc
    have neF : ∀ b ∈ frs X.stack, b ≠ ce.locals := fun b hb z => by
      obtain ⟨_, o, e, _⟩ := I.stack.mem hb
      have := Heap.lt_size e
      rw [z, hl] at this
      exact absurd this (Nat.lt_irrefl _)
    have hid : ∀ b o, (PySem.W.hideAll B [ce.locals]).get? b = some o → B.get? b = some o ∧ b ≠ ce.locals := fun b o e => by
      refine ⟨PySem.W.of_hideAll _ e, fun z => ?_⟩
      have q := PySem.W.of_hideAll _ e
      rw [PySem.W.hideAll_none _ (List.mem_singleton.mpr z)] at e
      cases e
    have none2 : ∀ b, B.get? b = none → (PySem.W.hideAll B [ce.locals]).get? b = none := fun b n => by
      cases q : (PySem.W.hideAll B [ce.locals]).get? b with
      | none => rfl
      | some o => rw [(hid b o q).1] at n; cases n
    have held2 : HandSPX.HeldZ (PySem.W.hideAll B [ce.locals]) (X.env :: X.outer) a (L2N.Zn cls d) X.env.locals h2 := by
      refine ⟨fun b o e => ?_, none2 a k2, ?_, oe, vs, T, oT, ts, (same.2 a neA).trans he, hz, hd, hv, none2 T hnT, hTe, (same.2 T neT).trans hT, hdT, h3⟩
      · obtain ⟨e1, n1⟩ := hid b o e
        exact (same.2 b n1).trans (k1 b o e1)
      · rw [← hs] at k3 ⊢
        exact fun_at none2 k3 fun b hb => same.2 b (neF b hb)
    -- the state of the def, without the block's names
    have un : Un (frs X.stack) fp H H' s.heap (PySem.W.hideAll sI.heap [ce.locals]) := by
      have at_ : ∀ b o, s.heap.get? b = some o → (PySem.W.hideAll sI.heap [ce.locals]).get? b = sI.heap.get? b := fun b o e => by
        have lt := Heap.lt_size e
        have nb : b ∉ [ce.locals] := fun z => by
          rw [List.mem_singleton.mp z, hl] at lt
          exact absurd lt (Nat.lt_irrefl _)
        cases q : sI.heap.get? b with
        | some o2 => exact PySem.W.hideAll_get _ q nb
        | none =>
          cases q2 : (PySem.W.hideAll sI.heap [ce.locals]).get? b with
          | none => rfl
          | some o2 => rw [PySem.W.of_hideAll _ q2] at q; cases q
      have bs : Un (frs X.stack) fp H H' s.heap sI.heap := J.base
      refine ⟨fun b o e n hb hx => (at_ b o e).trans (bs.keep b o e n hb hx), fun b o e n hb hx => ?_, bs.free, fun b o e hx => ?_, bs.tups, bs.frzs, bs.tbls⟩
      · obtain ⟨sl, q⟩ := bs.slot b o e n hb hx
        exact ⟨sl, (at_ b o e).trans q⟩
      · obtain ⟨o2, q⟩ := bs.there b o e hx
        exact ⟨o2, (at_ b o e).trans q⟩
    have cNone : H' ce.locals = none := J.free
    have hok2 : HOk X.prog X.w H' (PySem.W.hideAll sI.heap [ce.locals]) := fun b o q => (J.hok b o q).stay (fun c w hc r => PySem.W.hideAll_get _ r fun z => by
      rw [List.mem_singleton.mp z] at hc
      rcases hc with hc | hc
      · rw [← hc, cNone] at q; cases q
      · rw [cNone] at hc; cases hc) (fun _ r => r) fun _ _ r => r
    have I2 : Inv X pins σ H' { sI with heap := PySem.W.hideAll sI.heap [ce.locals] } := I.call' (ch := fp) J.os un hok2 J.bare fun b hb => ⟨(hfp b hb).2.2.2.1, (hfp b hb).2.1, (hfp b hb).2.2.2.2.1, (hfp b hb).2.2.2.2.2⟩
    have up2 : (PySem.W.hideAll sI.heap [ce.locals]).UpToSlots h2 := fun b o e hn => by
      have e1 := PySem.W.of_hideAll _ e
      have nb : b ≠ ce.locals := fun z => by
        rw [PySem.W.hideAll_none _ (List.mem_singleton.mpr z)] at e
        cases e
      obtain ⟨sl, q⟩ := (up.trans up1) b o e1 hn
      exact ⟨sl, (same.2 b nb).trans q⟩
    have nb2 : ∀ b o, (PySem.W.hideAll sI.heap [ce.locals]).get? b = some o → b ∉ frs X.stack → (PySem.W.hideAll B [ce.locals]).get? b = some o := fun b o e hb => by
      have e1 := PySem.W.of_hideAll _ e
      have nc : b ∉ [ce.locals] := fun z => by
        rw [PySem.W.hideAll_none _ z] at e
        cases e
      exact PySem.W.hideAll_get _ (nb b o e1 hb) nc
    obtain ⟨_, _, _, oe2, vs2, T2, _, _, he2, _, hd2, hv2, _⟩ := id held2
    unfold PySem.passOn
    refine wpAny_bind (wpAny_field he2 hd2 hv2 ?_)
    rw [if_neg (show ¬ ((Value.ref T2 == Value.none) = true) from by simp)]
    have fin : wpAny (model X.prog X.w) X.A (setFlight (.ref a) ce.frame) (fun _ s4 => wpAny (model X.prog X.w) X.A (throw (.ref a) : Sem Value) (fun _ _ => False) X.xe s4) X.xe { s' with heap := h2 } := by
      rw [hfr, hf]
      refine HandSPX.setFlight_onZ held2 fun h4 held4 up4 => wpAny_throw (tk _ _ ?_)
      exact ⟨a, _, _, pins, σ, H', cls, d, rfl, I2, nb2, up2.trans up4, .inr (.inr (by rw [hs]; exact held4)), na, os, ag, hE⟩
    first
      | exact wpAny_bind (wpAny_pure (wpAny_bind fin))
      | exact wpAny_bind fin
  cases use <;> exact ends
section
variable {X : Cx}
theorem core {E : XK} {pins : List (Addr × Obj)} {s : Shared} {σ : L2.St} {H : Hp} {Q : VK} {elt tg iter : Expr} {ifs : List Expr} {scope : Scope} {own : List (Str × Nat)} {pos pos' : Pos} {wi : TI} {g : TG} {tt : TT} {te : TE} {use : Option (Value → Sem Unit)} {Qf : Value → Shared → Prop}
    (hs : X.stack = X.env :: X.outer) (hf : X.env.frame = some X.env.locals) (tk : L2N.Takes X (fun cls d _ H => E cls d H)) (hc : X.calm = true) (hN : X.N.Nodup) (I : Inv X pins σ H s) (hi : PI X tg iter wi) (ok : BlkOk X.N X.env.scope scope own)
    (hg : ∀ (s : Shared) (H : Hp) (C : Addr) (cl : List (Str × Addr)) (fp : List Addr), PG (blkE X E s H scope (compEnvC scope cl C X.env) fp) tg g)
    (ht : ∀ (s : Shared) (H : Hp) (C : Addr) (cl : List (Str × Addr)) (fp : List Addr), PTs (blkE X E s H scope (compEnvC scope cl C X.env) fp) ifs tt)
    (he : ∀ (s : Shared) (H : Hp) (C : Addr) (cl : List (Str × Addr)) (fp : List Addr), PE (blkE X E s H scope (compEnvC scope cl C X.env) fp) elt te) (hset : ∀ x, foldedSetIterable iter X.env x = pure x)
    (h : tLc wi g tt te (own.map (·.2)) σ H Q)
    (done : ∀ N ce s' m H', Inv X pins σ H' s' → Q (.ref N) H' → s'.heap.Ns ce.locals m → FpOk X pins H' ce.locals → compEnds (model X.prog X.w) X.A X.xe use Qf (.ref N) ce (.ok .next) s') :
    wpAny (model X.prog X.w) X.A (comprehension (.ListComp elt [⟨tg, iter, ifs, 0⟩] scope pos) scope X.env pos' (newList []) false (eval iter X.env) use) Qf X.xe s := by
  have frees : ∀ y ∈ scope.names, y.2 = .free → ∃ c, X.env.cells.lookup y.1 = some c := fun y hy e => I.ok.has _ (ok.free y hy e)
  refine comprehension_at (use := use) rfl hset (closure_ok frees) ok.kind (fun y hy e => (ok.uniq y hy).trans (congrArg some e))
    (thn (hi.run pins s σ H _ I h) fun xv s1 hx => thn hx fun itv s2 h2 => ?_)
  obtain ⟨it, fp, tn, J, H2, rfl, I2, T, st2, f2, q⟩ := h2
  refine wpAny_newObj_type (newEnv_comp ?_) (by show 0 ≤ sizeLine; decide)
  generalize hD : s2.heap.objs.size = N
  have hDn : H2 N = none := I2.hok.fresh (Nat.le_of_eq hD)
  obtain ⟨W, ⟨m0, w0⟩, turn⟩ := q N hDn
  generalize hs3 : ({ s2 with heap := s2.heap.push { cls := .type "list", data := .seq ([] : List Value).toArray } } : Shared) = sN
  have h3 : sN.heap = s2.heap.push { cls := .type "list", data := .seq ([] : List Value).toArray } := by rw [← hs3]
  have IN : Inv X pins σ (upd H2 N (.lst [])) sN := by
    rw [← hs3]
    exact I2.laid (t' := s2.toks) (fun b o e => Heap.get?_push_of_some _ e) (Nat.le_of_eq hD) ⟨Nat.zero_le _, [], 0, .nil, by rw [← hD]; exact Heap.get?_push_size _ rfl⟩
  have fN : ∀ b ∈ fp, FpOk X pins (upd H2 N (.lst [])) b ∧ b < sN.heap.objs.size := fun b hb => by
    obtain ⟨o, e, _⟩ := T.obj _ _ st2 b hb
    have lt := Heap.lt_size e
    refine ⟨⟨?_, (f2 b hb).2⟩, by rw [h3, Heap.size_push]; exact Nat.lt_succ_of_lt lt⟩
    rw [upd_ne (by rw [← hD]; exact Nat.ne_of_lt lt)]
    exact (f2 b hb).1
  have stN : tn 0 sN.heap := T.keep _ _ _ st2 fun b _ o e => by rw [h3]; exact Heap.get?_push_of_some _ e
  have IB := block_start IN ok hN fN
  have pg := hg sN (upd H2 N (.lst [])) sN.heap.objs.size (cellsFrom (sN.heap.objs.size + 1) scope.names (cloFrom X.env.cells scope.names [])) fp
  have pt := ht sN (upd H2 N (.lst [])) sN.heap.objs.size (cellsFrom (sN.heap.objs.size + 1) scope.names (cloFrom X.env.cells scope.names [])) fp
  have pe := he sN (upd H2 N (.lst [])) sN.heap.objs.size (cellsFrom (sN.heap.objs.size + 1) scope.names (cloFrom X.env.cells scope.names [])) fp
  show codeAny _ _ (.compStart (.ListComp elt [⟨tg, iter, ifs, 0⟩] scope pos) 0 (.ref it) (.ref N) (compEnvC scope (cellsFrom (sN.heap.objs.size + 1) scope.names (cloFrom X.env.cells scope.names [])) sN.heap.objs.size X.env)) (compEnds (model X.prog X.w) X.A X.xe use Qf (.ref N) (compEnvC scope (cellsFrom (sN.heap.objs.size + 1) scope.names (cloFrom X.env.cells scope.names [])) sN.heap.objs.size X.env)) { sN with heap := pushCells (sN.heap.push { cls := .type "dict", data := .dict #[] }) scope.names }
  have nfp : ∀ b ∈ fp, (upd H2 N (.lst [])) b = none := fun b hb => (fN b hb).1.1
  generalize hce : compEnvC scope (cellsFrom (sN.heap.objs.size + 1) scope.names (cloFrom X.env.cells scope.names [])) sN.heap.objs.size X.env = ce at IB pg pt pe ⊢
  have cL : ce.locals = sN.heap.objs.size := by subst hce; rfl
  have cF : ce.frame = X.env.frame := by subst hce; rfl
  generalize hH3 : upd H2 N (.lst []) = HN at IN IB pg pt pe w0 nfp fN
  generalize hs4 : ({ sN with heap := pushCells (sN.heap.push { cls := .type "dict", data := .dict #[] }) scope.names } : Shared) = sB at IB ⊢
  have stB : tn 0 sB.heap := T.keep _ _ _ stN fun b _ o e => by rw [← hs4]; exact pushCells_keeps _ _ _ _ (Heap.get?_push_of_some _ e)
  have lv : ∀ {u : Value} {s' : Shared}, OutB X sN HN scope ce fp E u s' → notedBy (model X.prog X.w) X.A ce (fun e s'' => compEnds (model X.prog X.w) X.A X.xe use Qf (.ref N) ce (.error e) s'') u s' := fun x =>
    leaves_block hs hf tk IN cL cF (fun b hb => (fN b hb).1) x
  have stat : ∀ {σ' : L2.St} {H' : Hp} {s' : Shared}, Inv (X.blk sN HN scope ce fp) [] σ' H' s' → (∀ b ∈ fp, H' b = none) → ∀ b ∈ fp, FpOk (X.blk sN HN scope ce fp) [] H' b := fun I' hn b hb =>
    ⟨hn b hb, (I'.ok.exf b hb).1, I'.ok.exfs b hb, .inl hb, fun x c e => (I'.ok.exf b hb).2 x c e, fun p hp => absurd (show p ∈ ([] : List (Addr × Obj)) ++ [] from hp) (by simp)⟩
  have loop : codeAny (model X.prog X.w) X.A (.compLoop (.ListComp elt [⟨tg, iter, ifs, 0⟩] scope pos) 0 (.ref it) (.ref N) ce) (compEnds (model X.prog X.w) X.A X.xe use Qf (.ref N) ce) sB := by
    refine compLoop_any (fun n s' => ∃ i H', Inv (X.blk sN HN scope ce fp) [] (wipe σ (own.map (·.2))) H' s' ∧ tn i s'.heap ∧ (∀ b ∈ fp, H' b = none) ∧ W i n H') ?_ m0 ⟨0, HN, IB, stB, nfp, w0⟩
    rintro n s5 ⟨i, H5, I5, st5, n5, w5⟩
    rcases turn i n H5 w5 with ⟨stop, qq⟩ | ⟨go, Nx, hNx, step⟩
    · have td := T.done (X.blk sN HN scope ce fp) rfl rfl rfl hc i [] s5 _ H5 (fun _ _ => False) I5 (stat I5 n5) st5 stop
      refine thnF td fun r s6 ⟨hr, I6⟩ => ?_
      subst hr
      have I7 : Inv X pins σ H5 s6 := IN.call' (ch := fp) I6.os I6.base I6.hok I6.bare fun b hb => ⟨(fN b hb).1.2.2.2.1, (fN b hb).1.2.1, (fN b hb).1.2.2.2.2.1, (fN b hb).1.2.2.2.2.2⟩
      have nC : H5 ce.locals = none := I6.free
      obtain ⟨m, hn, _⟩ := I6.loc
      exact done N ce s6 m H5 I7 qq hn (IN.fpOk (Nat.le_of_eq cL.symm) nC)
    · have ti := T.item (X.blk sN HN scope ce fp) rfl rfl rfl hc i [] s5 _ H5 (fun _ _ => False) I5 (stat I5 n5) st5 go
      refine thnF ti fun r s6 ⟨u, hr, h6⟩ => ?_
      subst hr
      refine thnF h6 fun _ s7 ⟨x, H7, I7, r7, y7, st7, n7⟩ => ?_
      have I7' := I7.pinned (stat I7 n7) (T.obj _ _ st7)
      refine wpAny_mono (pg.run _ s7 _ H7 x u _ (I7'.wish _) r7 (step x H7 y7)) (fun _ s8 ⟨σ8, H8, I8, hw8, q8⟩ => ?_) fun _ _ x => lv x
      refine wpAny_mono (pt.run _ s8 σ8 H8 _ I8 q8) (fun b s9 ⟨H9, I9, q9⟩ => ?_) fun _ _ x => lv x
      have fin : ∀ {s' : Shared} {H' : Hp}, Inv (X.blk sN HN scope ce fp) ([] ++ pinsAt fp s7.heap) σ8 H' s' → Nx H' → ∃ m, m < n ∧ ∃ i H', Inv (X.blk sN HN scope ce fp) [] (wipe σ (own.map (·.2))) H' s' ∧ tn i s'.heap ∧ (∀ b ∈ fp, H' b = none) ∧ W i m H' := fun {s' H'} I' nx => by
        obtain ⟨m', hm, w'⟩ := hNx H' nx
        have pin' : ∀ b ∈ fp, ∀ o, s7.heap.get? b = some o → s'.heap.get? b = some o ∧ H' b = none := fun b hb o e => by
          have z := I'.pin (b, o) (List.mem_append_right _ (List.mem_append_right _ (mem_pinsAt hb e)))
          exact ⟨z.1, z.2.1⟩
        have hl : (wipe σ (own.map (·.2))).length = σ8.length := by rw [← hw8, wipe_length]
        refine ⟨m', hm, i + 1, H', (I'.unpinned (pins := [])).weak hl (fun j v e => ?_), T.keep _ _ _ st7 fun b hb o e => (pin' b hb o e).1, fun b hb => ?_, w'⟩
        · rw [← hw8] at e; exact (wipe_some e).1
        · obtain ⟨o, e, _⟩ := T.obj _ _ st7 b hb; exact (pin' b hb o e).2
      cases b with
      | false =>
        simp only [Bool.false_eq_true, if_false] at q9 ⊢
        exact fin I9.unwish q9
      | true =>
        simp only [if_true] at q9 ⊢
        refine wpAny_mono (pe.run _ s9 σ8 H9 _ I9 q9) (fun z s10 ⟨yv, H10, I10, r10, acc, hD10, hz10, nx⟩ => ?_) fun _ _ x => lv x
        exact app_ok (X := X.blk sN HN scope ce fp) I10.unwish hD10 hz10 r10 fun s11 I11 => fin I11 nx
  exact codeAny_compStart_list loop (T.self X.A 0 _ _ _ stB loop)
/-- as a value -/
theorem pe_lcX {E : XK} {elt tg iter : Expr} {ifs : List Expr} {scope : Scope} {own : List (Str × Nat)} {pos : Pos} {wi : TI} {g : TG} {tt : TT} {te : TE} (hs : X.stack = X.env :: X.outer) (hf : X.env.frame = some X.env.locals) (tk : L2N.Takes X (fun cls d _ H => E cls d H)) (hc : X.calm = true) (hN : X.N.Nodup) (hi : PI X tg iter wi) (ok : BlkOk X.N X.env.scope scope own)
    (hg : ∀ (s : Shared) (H : Hp) (C : Addr) (cl : List (Str × Addr)) (fp : List Addr), PG (blkE X E s H scope (compEnvC scope cl C X.env) fp) tg g)
    (ht : ∀ (s : Shared) (H : Hp) (C : Addr) (cl : List (Str × Addr)) (fp : List Addr), PTs (blkE X E s H scope (compEnvC scope cl C X.env) fp) ifs tt)
    (he : ∀ (s : Shared) (H : Hp) (C : Addr) (cl : List (Str × Addr)) (fp : List Addr), PE (blkE X E s H scope (compEnvC scope cl C X.env) fp) elt te) (hset : ∀ x, foldedSetIterable iter X.env x = pure x := by intro _; rfl) :
    PE X (.ListComp elt [⟨tg, iter, ifs, 0⟩] scope pos) (tLc wi g tt te (own.map (·.2))) := by
  refine ⟨fun pins s σ H Q I h => ?_⟩
  rw [eval_ListComp]
  refine core hs hf tk hc hN I hi ok hg ht he hset h fun N ce s' m H' I' q hn f => ⟨m, hn, fun h'' sb => ?_⟩
  obtain ⟨f0, f1, f2, f3, f4, f5⟩ := f
  exact ⟨.ref N, H', I'.turned (t' := s'.toks) (fun b o hb e => (sb.2 b hb).trans e) f0 f1 f3 f4 f5, rfl, q⟩
/-- given to a local on one row -/
theorem ps_setLcX {E : XK} {i : Nat} {y : Str} {py : Pos} {elt tg iter : Expr} {ifs : List Expr} {scope : Scope} {own : List (Str × Nat)} {pos spos : Pos} {wi : TI} {g : TG} {tt : TT} {te : TE} (hs : X.stack = X.env :: X.outer) (hf : X.env.frame = some X.env.locals) (tk : L2N.Takes X (fun cls d _ H => E cls d H)) (hc : X.calm = true) (hN : X.N.Nodup) (hy : X.N[i]? = some y) (hyl : X.env.scope.names.lookup y = some .local)
    (hsw : swapsWith (.ListComp elt [⟨tg, iter, ifs, 0⟩] scope pos) (some (.Name y py)) spos.line X.env = pure true) (hi : PI X tg iter wi) (ok : BlkOk X.N X.env.scope scope own)
    (hg : ∀ (s : Shared) (H : Hp) (C : Addr) (cl : List (Str × Addr)) (fp : List Addr), PG (blkE X E s H scope (compEnvC scope cl C X.env) fp) tg g)
    (ht : ∀ (s : Shared) (H : Hp) (C : Addr) (cl : List (Str × Addr)) (fp : List Addr), PTs (blkE X E s H scope (compEnvC scope cl C X.env) fp) ifs tt)
    (he : ∀ (s : Shared) (H : Hp) (C : Addr) (cl : List (Str × Addr)) (fp : List Addr), PE (blkE X E s H scope (compEnvC scope cl C X.env) fp) elt te) (hset : ∀ x, foldedSetIterable iter X.env x = pure x := by intro _; rfl) :
    PS X (.Assign [.Name y py] (.ListComp elt [⟨tg, iter, ifs, 0⟩] scope pos) spos) (tAsg (tLc wi g tt te (own.map (·.2))) (gName i)) := by
  refine ⟨fun pins s σ H D I h => ?_⟩
  rw [exec_Assign_Name_used _ _ _ _ hsw]
  refine wpAny_bind (wpAny_standAt (wpAny_bind ?_))
  have h' : tLc wi g tt te (own.map (·.2)) σ H (fun x H1 => gName i x σ H1 D.nx) := h
  refine wpAny_bind (thn (core (Qf := fun _ s' => SP X pins D .next s') hs hf tk hc hN I hi ok hg ht he hset h' fun N ce s' m H' I' q hn f => ?_) fun _ s' hq => wpAny_pure (wpAny_pure hq))
  show wpAny _ _ (assign (.Name y py) X.env (.ref N)) _ _ _
  obtain ⟨f0, f1, f2, f3, f4, f5⟩ := f
  refine wpAny_assign_Name (store_ok2 (v := V.ref N) I' hN hy (.inl hyl) rfl (fun s2 I2 ⟨a, sb, ha⟩ => ?_) (.inr hyl))
  have apart : ce.locals ≠ a := by
    rcases ha with z | z
    · rw [z]; exact f1
    · exact fun e => f4 y a z e.symm
  refine ⟨m, hn.sameBut sb apart, fun h3 sb3 => ⟨_, H', ?_, q⟩⟩
  exact I2.turned (t' := s2.toks) (fun b o hb e => (sb3.2 b hb).trans e) f0 f1 f3 f4 f5
end
end CpN

set_option Elab.async false
set_option linter.all false
set_option maxRecDepth 100000
set_option maxHeartbeats 1000000
namespace W
open PySem PySem.Spec PyProof.Rows L2 GxR MyG MyS SqX
/-- one of the roads that are given: of six parts, or of another number -/
abbrev RoadI := RoadG ⊕ Nat
def GItem (K : PySem.W.Frag) (H : Hp) (i : RoadI) (v : V) : Prop := match i with
  | .inl r => GRoadX K H r v
  | .inr n => ∃ t xs, v = .ref t ∧ SqT K H t xs ∧ xs.length = n ∧ n ≠ 6
theorem GItem.grew {K : PySem.W.Frag} {P : Addr} {H H' : Hp} {i : RoadI} {v : V} (g : Grew P H H') (hP : TabG H P) (h : GItem K H i v) : GItem K H' i v := by
  cases i with
  | inl r => exact GRoadX.grew g hP h
  | inr n =>
    obtain ⟨t, xs, a, b, c, d⟩ := h
    exact ⟨t, xs, a, g.sqT hP b, c, d⟩
def itemG (r : RoadD) : RoadI := .inl (rG r)
def RoadsGOk (d : Int) (ps ks : List Str) (gs : List RoadI) : Prop := ∃ rs, gs = rs.map itemG ∧ RoadsOk d ps ks rs
def spRoadsX (K : PySem.W.Frag) (C P : Addr) : Sp := fun vs H Q E => ∃ (a pl ki : Addr) (c : Bool) (d : Int) (ps ks : List Str) (gs : List RoadI) (xs : List V), vs = [.ref a, .int d, .ref pl, .ref ki] ∧ SqK c K H a xs ∧ Paired (GItem K H) gs xs ∧ (∀ r, Sum.inl r ∈ gs → SmallG r) ∧ gs.length ≤ 1000 ∧ SqT K H pl (ps.map V.str) ∧ SqT K H ki (ks.map V.str) ∧ ks.length ≤ 4 ∧ TabG H P ∧
  (∀ rs, gs = rs.map itemG → RoadsOk d ps ks rs → ∀ H' p rs' ys, Grew P H H' → KeptAll rs rs' → AscR rs' → H p = none → H' p = some (.tup ys) → Paired (RoadAt K H') rs' ys → Q (.ref p) H') ∧ (¬ RoadsGOk d ps ks gs → BadM C P H E)
theorem rG_inj {a b : RoadD} (h : rG a = rG b) : a = b := by
  obtain ⟨a1, a2, a3, a4, a5, a6⟩ := a
  obtain ⟨b1, b2, b3, b4, b5, b6⟩ := b
  unfold rG at h
  injection h with h1 h2 h3 h4 h5 h6
  have e : a6 = b6 := by
    have inj : ∀ x y : Int × Int, [x.1, x.2] = [y.1, y.2] → x = y := fun x y h => Prod.ext (List.cons.inj h).1 (List.cons.inj (List.cons.inj h).2).1
    cases a6 with
    | none => cases b6 with
      | none => rfl
      | some _ => cases h6
    | some x => cases b6 with
      | none => cases h6
      | some y => exact congrArg some (List.map_inj_right inj |>.mp (Option.some.inj h6))
  simp only at h1 h2 h3 h4 h5
  rw [h1, h2, h3, h4, h5, e]
theorem all_inl : ∀ {gs : List RoadI}, (∀ i ∈ gs, ∃ r, i = Sum.inl r) → ∃ gg : List RoadG, gs = gg.map Sum.inl
  | [], _ => ⟨[], rfl⟩
  | i :: gs, h => by
    obtain ⟨r, e⟩ := h i List.mem_cons_self
    obtain ⟨gg, e2⟩ := all_inl (gs := gs) fun x hx => h x (List.mem_cons_of_mem _ hx)
    exact ⟨r :: gg, by rw [e, e2]; rfl⟩
theorem paired_inl {K : PySem.W.Frag} {H : Hp} : ∀ {gg : List RoadG} {xs : List V}, Paired (GItem K H) (gg.map Sum.inl) xs → Paired (GRoadX K H) gg xs
  | [], _, h => by cases h; exact .nil
  | r :: gg, _, h => by
    cases h with
    | cons a b => exact .cons a (paired_inl b)
section
variable {Pg : Program} {w : World} {K : PySem.W.Frag} {mg : Str → Option Value} {base : Heap} {C P : Addr}
theorem ok_roadsX {f fN fR : Addr} {fd fdN fdR : FuncData} {t1 t2 t3 : Tok} (F : Fun K "_checked_roads" "_checked_roads" sRoads f fd) (T : TxtE mg K C) (hl : mg "len" = none) (ht : mg "tuple" = none) (hs : mg "sorted" = none)
    (hp : mg "PARTS" = some (.int 6 t1)) (hn : mg "NAME" = some (.int 0 t2)) (hm : mg "MOST_ROADS" = some (.int 60 t3))
    (GN : FnOk Pg w K mg base (L2N.CX Pg w) 3 fN fdN ["names", "least", "most"] (spNamesX K C P)) (gN : mg "_checked_names" = some (.ref fN)) (kN : PySem.W.keepIn K (.ref fN) = true) (bN : Binds K fdN ["names", "least", "most"] [])
    (GR : FnOk Pg w K mg base (L2N.CX Pg w) 2 fR fdR ["road", "day", "places", "kinds"] (spRoadX K C P)) (gR : mg "_checked_road" = some (.ref fR)) (kR : PySem.W.keepIn K (.ref fR) = true) (bR : Binds K fdR ["road", "day", "places", "kinds"] []) :
    FnOk Pg w K mg base (L2N.CX Pg w) 4 f fd ["roads", "day", "places", "kinds"] (spRoadsX K C P) := by
  refine MyN.okN F scRoads (fun vs H Q E h => ?_) (fun cdv A outer s H vs Q E hr h => ?_)
  · obtain ⟨a, pl, ki, c, d, ps, ks, gs, xs, rfl, _⟩ := h
    rfl
  · obtain ⟨a, pl, ki, c, d, ps, ks, gs, xs, rfl, hS, hG, hsm, hgl, hPl, hKi, hk4, hP, kQ, kE⟩ := h
    refine ⟨_, C8.pss_cut (ps_for (passes_of rfl) rfl (pi_sq (pv 0)) (pg_name (i := 4) scRoads.nd rfl (Or.inl rfl)) (pss_one (ps_if (pt_cmpR op_ne (pe_callB call_len_seq (by rfl) hl PySem.boot_len (pa_cons (pv 4) pa_nil)) (pe_gI hp) (nomark _)) (pss_one (L2N.ps_raise rfl (L2N.takes_of rfl rfl rfl rfl) (MyN.mk1 PySem.F.excBase_ValueError T.xC T.gC T.kC (raises_own T.bC T.tC) (by rfl) (pe_joined (PJ.cons pe_str (PJ.cons (pe_fmt (pe_gI hp)) (PJ.cons pe_str PJ.nil))))))) pss_nil)))
      (pss_cons (ps_expr (pe_call (E := E) GN (hr.mono (by decide)) (by rfl) gN kN bN .nil (L2N.passes_call (L2N.takes_of rfl rfl rfl rfl) (fun _ _ _ _ h => h)) (pa_cons (pe_lc (own := [("road", 4)]) (g := gName 4) (tt := tYes) rfl scRoads.nd (pi_sq (pv 0)) (blkOk_by (N := nRoads) (sc := defScope sRoads) (by decide +kernel)) (fun _ _ _ _ _ => pg_name (i := 4) scRoads.nd rfl (Or.inl rfl)) (fun _ _ _ _ _ => pts_nil)
          (fun _ _ _ _ _ => pe_ix (r := rIxT K) ix_tup (pv 4) (pe_gI hn) (fun _ _ => rfl))) (pa_cons pe_int (pa_cons (pe_gI hm) pa_nil)))))
      (pss_cons (CpN.ps_setLcX (E := E) (i := 5) (own := [("road", 4)]) (g := gName 4) (tt := tYes) rfl rfl (L2N.takes_of rfl rfl rfl rfl) rfl scRoads.nd rfl rfl (sw_true rfl rfl rfl (by decide +kernel)) (pi_sq (pv 0)) (blkOk_by (N := nRoads) (sc := defScope sRoads) (by decide +kernel)) (fun _ _ _ _ _ => pg_name (i := 4) scRoads.nd rfl (Or.inl rfl)) (fun _ _ _ _ _ => pts_nil)
          (fun _ _ _ _ _ => pe_call (E := E) GR (hr.mono (by decide)) (by rfl) gR kR bR .nil (CpN.passB rfl rfl) (pa_cons (pv 4) (pa_cons (pv 1) (pa_cons (pv 2) (pa_cons (pv 3) pa_nil))))))
      (pss_one (ps_ret (pe_callTy call_tuple_of (by rfl) ht (by decide +kernel) (pa_cons (pe_callB cr_sortR (by rfl) hs (by decide +kernel) (pa_cons (pv 5) pa_nil)) pa_nil)))))), ?_⟩
    have hln : gs.length = xs.length := Paired.len hG
    refine ⟨fun σ H' => H' = H ∧ (∃ v, σ = [some (.ref a), some (.int d), some (.ref pl), some (.ref ki), v, none]) ∧ ∀ i ∈ gs, ∃ r, i = Sum.inl r, ?_, ?_⟩
    · refine ⟨_, rfl, c, a, rfl, ⟨_, hS⟩, for_sq (K := K) (c := c) (a := a) (xs := xs) (fun i σ H' => H' = H ∧ (∃ v, σ = [some (.ref a), some (.int d), some (.ref pl), some (.ref ki), v, none]) ∧ ∀ q ∈ gs.take i, ∃ r, q = Sum.inl r)
        ⟨rfl, ⟨none, rfl⟩, fun q hq => by rw [List.take_zero] at hq; cases hq⟩ (fun i σ H' _ ⟨e, _⟩ => by rw [e]; exact hS) ?_ ?_⟩
      · rintro i y σ H' hi ⟨rfl, ⟨v, rfl⟩, hin⟩
        obtain ⟨q, hq, hgq⟩ := Paired.at hG hi
        have hqm := List.mem_of_getElem? hq
        cases q with
        | inl r =>
          obtain ⟨t, u, h, cc, rfl, hT, _⟩ := hgq
          refine ⟨_, rfl, t, _, rfl, .inr hT, rfl, _, rfl, ?_⟩
          refine if_f (by rfl) ⟨rfl, ⟨_, rfl⟩, fun x hx => ?_⟩
          rw [List.take_succ, hq] at hx
          rcases List.mem_append.mp hx with hx | hx
          · exact hin x hx
          · exact ⟨r, List.mem_singleton.mp hx⟩
        | inr n =>
          obtain ⟨t, ys, rfl, hT, el, n6⟩ := hgq
          refine ⟨_, rfl, t, _, rfl, .inr hT, rfl, _, rfl, ?_⟩
          refine if_t (by rw [decide_eq_false (fun e => n6 (by injection e with e; omega))]; rfl) ?_
          refine tJs_ok (fun _ => (kE fun ⟨rs, e, _⟩ => ?_).here hP) 0 (fun t ht => ?_) (Nat.zero_le _) (by decide)
          · rw [e] at hqm
            obtain ⟨z, _, ez⟩ := List.mem_map.mp hqm
            cases ez
          · simp only [List.mem_cons, List.not_mem_nil, or_false] at ht
            rcases ht with rfl | rfl | rfl
            · exact short_c (by decide +kernel)
            · exact short_g (by decide)
            · exact short_c (by decide +kernel)
      · rintro σ H' ⟨rfl, hv, hin⟩
        rw [← hln, List.take_length] at hin
        exact ⟨rfl, hv, hin⟩
    rintro σ H' ⟨rfl, ⟨v, rfl⟩, hin⟩
    obtain ⟨gg, rfl⟩ := all_inl hin
    have hG := paired_inl hG
    have hln : gg.length = xs.length := Paired.len hG
    rw [List.length_map] at hgl
    have hsm' : ∀ r ∈ gg, SmallG r := fun r hr => hsm r (List.mem_map.mpr ⟨r, hr, rfl⟩)
    -- the roads, where each of them is good
    have back : ∀ rs : List RoadD, gg.map Sum.inl = rs.map itemG ↔ gg = rs.map rG := fun rs => by
      have e : rs.map itemG = (rs.map rG).map (Sum.inl : RoadG → RoadI) := by rw [List.map_map]; rfl
      rw [e]
      exact List.map_inj_right fun x y h => Sum.inl.inj h
    have kE' : (∀ rs, gg = rs.map rG → ¬ RoadsOk d ps ks rs) → BadM C P H' E := fun h => kE fun ⟨rs, e, o⟩ => h rs ((back rs).mp e) o
    refine ⟨_, rfl, c, a, rfl, ⟨_, hS⟩, fun D nD => lc_sq (K := K) (c := c) (a := a) (xs := xs) (fun i H1 => Grew P H' H1 ∧ H1 D = some (.lst (((gg.map (·.name)).take i).map V.str)))
      ⟨Grew.new hP nD, upd_same⟩ (fun i H1 _ p => hS.grew p.1 hP) (fun i x H1 hx p => ?_) (fun H1 p => ?_)⟩
    · obtain ⟨g, hD⟩ := p
      obtain ⟨r, hr, t, u, h, cc, rfl, hT, _⟩ := Paired.at hG hx
      refine ⟨rfl, _, rfl, t, _, 0, .str r.name, rfl, rfl, g.sqT hP hT, rfl, _, hD, ?_, ?_, ?_⟩
      · rw [List.length_map, List.length_take, List.length_map, sizeLine_eq]
        omega
      · exact g.write hD (fun _ z => by cases z) nD
      · rw [upd_same, List.take_succ, List.getElem?_map, hr, List.map_append]
        rfl
    · obtain ⟨g, hD⟩ := p
      rw [← hln, ← List.length_map (f := (·.name)), List.take_length] at hD
      refine ⟨D, true, gg.map (·.name), 0, 60, rfl, SqL.of hD, by rw [List.length_map]; omega, fun z hz => ?_, by decide, by decide, g.tab, fun hok H2 p2 ys2 g2 np e2 _ _ => ?_, fun nok => (kE' fun rs e o => nok ?_).on g⟩
      · obtain ⟨r, hr, rfl⟩ := List.mem_map.mp hz
        exact (hsm' r hr).n
      case refine_3 =>
        have e3 : gg.map (·.name) = rs.map (·.name) := by rw [e, List.map_map]; rfl
        rw [e3]
        exact ⟨by omega, by rw [List.length_map]; have := o.len; omega, o.nm, o.nd⟩
      have g3 := g.trans g2
      refine ⟨_, rfl, c, a, rfl, ⟨_, hS.grew g3 hP⟩, fun D2 nD2 => lc_sq (K := K) (c := c) (a := a) (xs := xs) (fun i H1 => Grew P H' H1 ∧ ∃ acc ms rs, gg.take i = rs.map rG ∧ (∀ r ∈ rs, RoadOk d ps ks r) ∧ H1 D2 = some (.lst acc) ∧ Paired Kept rs ms ∧ Paired (RoadAt K H1) ms acc)
        ⟨g3.put nD2, [], [], [], by rw [List.take_zero]; rfl, fun r hr => (by cases hr), upd_same, .nil, .nil⟩ (fun i H1 _ p => hS.grew p.1 hP) (fun i x H1 hx p => ?_) (fun H1 p => ?_)⟩
      · obtain ⟨g4, acc, ms, rs, ers, hall, hD4, hk4', hm4⟩ := p
        obtain ⟨r, hr, hgr⟩ := Paired.at hG hx
        have hrm := List.mem_of_getElem? hr
        have nD2' := g3.free nD2
        refine ⟨rfl, _, rfl, _, rfl, _, rfl, _, rfl, x, pl, ki, d, ps, ks, r, rfl, hgr.grew g4 hP, hsm' r hrm, g4.sqT hP hPl, g4.sqT hP hKi, hk4, g4.tab, fun r0 er0 ok0 H5 p5 q5 h5 r5 g5 kp n5 e5 f5 hh5 => ?_, fun nok => (kE' fun rs' e o => nok ?_).on g4⟩
        · have hD5 := g5.lst g4.tab hD4
          have g45 := g4.trans g5
          have lrs : rs.length ≤ 1000 := by
            have := congrArg List.length ers
            rw [List.length_take, List.length_map] at this
            omega
          refine ⟨acc, hD5, ?_, g45.write hD5 (fun _ z => by cases z) nD2', acc ++ [.ref p5], ms ++ [r5], rs ++ [r0], ?_, fun r hr => ?_, upd_same, Paired.snoc hk4' kp, ?_⟩
          · rw [← Paired.len hm4, ← Paired.len hk4', sizeLine_eq]
            omega
          · rw [List.take_succ, hr, ers, List.map_append, er0]
            rfl
          · rcases List.mem_append.mp hr with hr | hr
            · exact hall r hr
            · rw [List.mem_singleton.mp hr]; exact ok0
          · have up : ∀ {r : RoadD} {v : V}, RoadAt K H5 r v → RoadAt K (L2.upd H5 D2 (.lst (acc ++ [.ref p5]))) r v := fun m => m.upd (fun xs z => by rw [hD5] at z; cases z) (KeepT.lst hD5)
            exact Paired.snoc (Paired.map' hm4 fun r v m => up (m.grew g5 g4.tab)) (up ⟨p5, q5, h5, rfl, e5, f5, hh5⟩)
        · rw [e] at hrm
          obtain ⟨z, hz, ez⟩ := List.mem_map.mp hrm
          exact ⟨z, ez.symm, o.ok z hz⟩
      · obtain ⟨g4, acc, ms, rs, ers, hall, hD4, hk4', hm4⟩ := p
        rw [← hln, List.take_length] at ers
        have e3 : gg.map (·.name) = rs.map (·.name) := by rw [ers, List.map_map]; rfl
        rw [e3] at hok
        have ok : RoadsOk d ps ks rs := ⟨by have := hok.2.1; rw [List.length_map] at this; omega, hok.2.2.1, hok.2.2.2, hall⟩
        have hl60 := ok.len
        have nd : (ms.map (·.name)).Nodup := by rw [kept_names hk4']; exact ok.nd
        refine ⟨_, rfl, D2, acc, nameAt H1, rfl, SqL.of hD4, fun x hx => ?_, fun x hx y hy e => Paired.inj hm4 nd hx hy fun r r' m m' => by rw [← m.name, ← m'.name]; exact e, fun ys l hpm hso hl => ⟨l, _, rfl, .inl ⟨SqL.of upd_same, fun p hp2 => ?_⟩⟩⟩
        · obtain ⟨r, _, m⟩ := Paired.mem hm4 hx
          have nm := m.name
          obtain ⟨p, q, hv, e, e1, _⟩ := m
          exact ⟨p, _, e, by rw [nm]; exact SqT.of e1⟩
        · obtain ⟨rs', pm, hr'⟩ := Paired.perm hpm hm4
          have gl := Grew.new g4.tab (o := .lst ys) hl
          have gp := gl.put (o := .tup ys) hp2
          exact kQ rs ((back rs).mpr ers) ok _ p rs' ys (g4.trans gp) ⟨ms, pm.symm, hk4'⟩ (Paired.pair (fun a b x y m m' e => by rw [m.name, m'.name] at e; exact e) hr' hso) (g4.free (gl.free hp2)) upd_same (Paired.map' hr' fun _ _ m => m.grew gp g4.tab)
end
end W

set_option Elab.async false
set_option linter.all false
set_option maxRecDepth 100000
set_option maxHeartbeats 1000000
namespace W
open PySem PySem.Spec PyProof.Rows L2 GxR MyG MyS SqX
theorem uniqN : ∀ {rs : List RoadD} {r r' : RoadD}, (rs.map (·.name)).Nodup → r ∈ rs → r' ∈ rs → r.name = r'.name → r = r'
  | a :: rs, r, r', nd, h, h', e => by
    rw [List.map_cons, List.nodup_cons] at nd
    rcases List.mem_cons.mp h with h | h <;> rcases List.mem_cons.mp h' with h' | h'
    · rw [h, h']
    · rw [h] at e; exact absurd (List.mem_map.mpr ⟨r', h', e.symm⟩) nd.1
    · rw [h'] at e; exact absurd (List.mem_map.mpr ⟨r, h, e⟩) nd.1
    · exact uniqN nd.2 h h' e
def p2 (b : Str × Str) : List Str := [b.1, b.2]
theorem p2_inj : ∀ x y : Str × Str, p2 x = p2 y → x = y := fun x y h => Prod.ext (List.cons.inj h).1 (List.cons.inj (List.cons.inj h).2).1
/-- unpacking of a tuple or of a list -/
def gAny (K : PySem.W.Frag) (n : Nat) (t : TGs) : TG := fun v σ H Q => ∃ a xs, v = .ref a ∧ (SqL K H a xs ∨ SqT K H a xs) ∧ xs.length = n ∧ t xs σ H Q
theorem pg_any {X : Cx} {pos : Pos} {es : List Expr} {k : Nat} {t : TGs} {n : Nat} (hc : X.calm = true) (h : PGs X es t)
    (hn : (assignEach es X.env).length = n := by rfl) (hst : (assignEach es X.env).findIdx? (·.1) = none := by rfl) : PG X (.Tuple es k pos) (gAny X.K n t) := by
  refine ⟨fun pins s σ H v u Q I r hw => ?_⟩
  obtain ⟨a, xs, e1, hq | hq, hl, hw⟩ := hw
  · exact (pg_lst hc h hn hst).run pins s σ H v u Q I r ⟨a, xs, e1, hq, hl, hw⟩
  · exact (pg_tup hc h hn hst).run pins s σ H v u Q I r ⟨a, xs, e1, hq, hl, hw⟩
/-- a bar as it is given: a tuple or a list -/
def GBarX (H : Hp) (b : List Str) (v : V) : Prop := ∃ t, v = .ref t ∧ (H t = some (.lst (b.map V.str)) ∨ H t = some (.tup (b.map V.str)))
theorem GBarX.grew {P : Addr} {H H' : Hp} {b : List Str} {v : V} (g : Grew P H H') (h : TabG H P) (m : GBarX H b v) : GBarX H' b v := let ⟨t, e, q⟩ := m; ⟨t, e, q.imp (g.lst h) (g.tup h)⟩
theorem paired_p2 {H : Hp} : ∀ {bs : List (Str × Str)} {xs : List V}, Paired (GBarX H) (bs.map p2) xs → Paired (fun b v => GBarX H (p2 b) v) bs xs
  | [], _, h => by cases h; exact .nil
  | b :: bs, _, h => by
    cases h with
    | cons a r => exact .cons a (paired_p2 r)
def BarsGOk (rs : List RoadD) (gs : List (List Str)) : Prop := ∃ bs, gs = bs.map p2 ∧ BarsOk rs bs
def spBarsX (K : PySem.W.Frag) (C P : Addr) : Sp := fun vs H Q E => ∃ (a d : Addr) (c : Bool) (rs : List RoadD) (gs : List (List Str)) (xs : List V), vs = [.ref a, .ref d] ∧ SqK c K H a xs ∧ Paired (GBarX H) gs xs ∧ gs.length ≤ 1000 ∧ (∀ b ∈ gs, ∀ z ∈ b, z.length ≤ 1000) ∧ DictR K H d rs ∧ (rs.map (·.name)).Nodup ∧ TabG H P ∧
  (∀ bs, gs = bs.map p2 → BarsOk rs bs → ∀ H' p bs' ys, Grew P H H' → bs'.Perm bs → AscB bs' → H p = none → H' p = some (.tup ys) → Paired (GBar H') bs' ys → Q (.ref p) H') ∧ (¬ BarsGOk rs gs → BadM C P H E)
theorem nodup_p2 {bs : List (Str × Str)} : (bs.map fun b => [b.1, b.2]).Nodup ↔ bs.Nodup :=
  ⟨fun h => (List.pairwise_map.mp h).imp fun {a b} ne e => ne (by rw [e]), nodup_bars⟩
section
variable {Pg : Program} {w : World} {K : PySem.W.Frag} {mg : Str → Option Value} {base : Heap} {C P : Addr}
theorem ok_barsX {f fD : Addr} {fd fdD : FuncData} {t1 t2 t3 : Tok} (F : Fun K "_checked_bars" "_checked_bars" sBars f fd) (T : TxtE mg K C) (hl : mg "len" = none) (ht : mg "tuple" = none) (hs : mg "sorted" = none)
    (hm : mg "MOST_BARS" = some (.int 40 t1)) (he : mg "END" = some (.int 2 t2)) (hst : mg "START" = some (.int 1 t3))
    (GD : FnOk Pg w K mg base (L2N.CX Pg w) 1 fD fdD ["parts"] (spDiffX K C P)) (gD : mg "_check_different" = some (.ref fD)) (kD : PySem.W.keepIn K (.ref fD) = true) (bD : Binds K fdD ["parts"] []) :
    FnOk Pg w K mg base (L2N.CX Pg w) 2 f fd ["bars", "roads_by_name"] (spBarsX K C P) := by
  refine MyN.okN F scBars (fun vs H Q E h => ?_) (fun cdv A outer s H vs Q E hr h => ?_)
  · obtain ⟨a, d, c, rs, gs, xs, rfl, _⟩ := h
    rfl
  · obtain ⟨a, d, c, rs, gs, xs, rfl, hS, hG, hgl, hsm, hD, hnd, hP, kQ, kE⟩ := h
    refine ⟨_, pss_cons (ps_if (pt_cmpR op_gt (pe_callB call_len_seq (by rfl) hl PySem.boot_len (pa_cons (pv 0) pa_nil)) (pe_gI hm) (nomark _)) (pss_one (L2N.ps_raise rfl (L2N.takes_of rfl rfl rfl rfl) (MyN.mk1 PySem.F.excBase_ValueError T.xC T.gC T.kC (raises_own T.bC T.tC) (by rfl) (pe_joined (PJ.cons pe_str (PJ.cons (pe_fmt (pe_gI hm)) (PJ.cons pe_str PJ.nil))))))) pss_nil)
      (pss_cons (ps_for (passes_of rfl) rfl (pi_sq (pv 0)) (pg_name (i := 2) scBars.nd rfl (Or.inl rfl))
        (pss_cons (ps_if (pt_cmpR op_ne (pe_callB call_len_seq (by rfl) hl PySem.boot_len (pa_cons (pv 2) pa_nil)) pe_int (nomark _)) (pss_one (L2N.ps_raise rfl (L2N.takes_of rfl rfl rfl rfl) (MyN.mk1 PySem.F.excBase_ValueError T.xC T.gC T.kC (raises_own T.bC T.tC) (by rfl) pe_str))) pss_nil)
        (pss_cons (ps_asg (pv 2) (pg_any (by rfl) (pgs_cons (pg_name (i := 3) scBars.nd rfl (.inl rfl)) (pgs_cons (pg_name (i := 4) scBars.nd rfl (.inl rfl)) pgs_nil))))
        (C8.pss_cut (ps_if (PW.pt (pw_or (pt_cmp (pc_dnotin (u1 hr.units) (pv 3) (pv 1))) (pw_or1 (pt_cmp (pc_dnotin (u1 hr.units) (pv 4) (pv 1)))))) (pss_one (L2N.ps_raise rfl (L2N.takes_of rfl rfl rfl rfl) (MyN.mk1 PySem.F.excBase_ValueError T.xC T.gC T.kC (raises_own T.bC T.tC) (by rfl) (pe_joined (PJ.cons pe_str (PJ.cons (pe_fmt (pv 3)) (PJ.cons pe_str (PJ.cons (pe_fmt (pv 4)) PJ.nil)))))))) pss_nil)
        (pss_one (ps_if (pt_cmpR op_ne (pe_ix ix_tup (pe_dget (u1 hr.units) (pv 1) (pv 3) (fun _ _ => rfl)) (pe_gI he) (fun _ _ => rfl)) (pe_ix ix_tup (pe_dget (u1 hr.units) (pv 1) (pv 4) (fun _ _ => rfl)) (pe_gI hst) (fun _ _ => rfl)) (nomark _)) (pss_one (L2N.ps_raise rfl (L2N.takes_of rfl rfl rfl rfl) (MyN.mk1 PySem.F.excBase_ValueError T.xC T.gC T.kC (raises_own T.bC T.tC) (by rfl) (pe_joined (PJ.cons pe_str (PJ.cons (pe_fmt (pv 3)) (PJ.cons pe_str (PJ.cons (pe_fmt (pv 4)) PJ.nil)))))))) pss_nil))))))
      (pss_cons (ps_setLc (i := 5) (own := [("bar", 2)]) (g := gName 2) (tt := tYes) rfl scBars.nd rfl rfl (sw_true rfl rfl rfl (by decide +kernel)) (pi_sq (pv 0)) (blkOk_by (N := nBars) (sc := defScope sBars) (by decide +kernel)) (fun _ _ _ _ _ => pg_name (i := 2) scBars.nd rfl (Or.inl rfl)) (fun _ _ _ _ _ => pts_nil)
          (fun _ _ _ _ _ => pe_callTy (r := rTupOf K) call_tuple_of (by rfl) ht (by decide +kernel) (pa_cons (pv 2) pa_nil)))
      (pss_cons (ps_expr (pe_call (E := E) GD (hr.mono (by decide)) (by rfl) gD kD bD .nil (L2N.passes_call (L2N.takes_of rfl rfl rfl rfl) (fun _ _ _ _ h => h)) (pa_cons (pv 5) pa_nil)))
      (pss_one (ps_ret (pe_callTy call_tuple_of (by rfl) ht (by decide +kernel) (pa_cons (pe_callB cr_sortB (by rfl) hs (by decide +kernel) (pa_cons (pv 5) pa_nil)) pa_nil))))))), ?_⟩
    have hln := Paired.len hG
    have bad : ¬ BarsGOk rs gs → ∀ z : Str, E (.ref C) none H := fun h _ => (kE h).here hP
    refine ⟨_, rfl, a, _, rfl, hS.any, _, _, rfl, rfl, _, rfl, ?_⟩
    by_cases c40 : gs.length ≤ 40
    case neg =>
      refine if_t (decide_eq_true (by omega)) ?_
      refine tJs_ok (bad fun ⟨bs, e, o⟩ => c40 (by rw [e, List.length_map]; exact o.len)) 0 (fun t ht => ?_) (Nat.zero_le _) (by decide)
      simp only [List.mem_cons, List.not_mem_nil, or_false] at ht
      rcases ht with rfl | rfl | rfl
      · exact short_c (by decide +kernel)
      · exact short_g (by decide)
      · exact short_c (by decide +kernel)
    refine if_f (decide_eq_false (by omega)) ?_
    refine ⟨_, rfl, c, a, rfl, ⟨_, hS⟩, for_sq (K := K) (c := c) (a := a) (xs := xs) (fun i σ H' => H' = H ∧ (∃ v1 v2 v3, σ = [some (.ref a), some (.ref d), v1, v2, v3, none]) ∧ ∃ bs, gs.take i = bs.map p2 ∧ ∀ b ∈ bs, ∃ r1 ∈ rs, ∃ r2 ∈ rs, b.1 = r1.name ∧ b.2 = r2.name ∧ r1.goal = r2.start)
      ⟨rfl, ⟨none, none, none, rfl⟩, [], by rw [List.take_zero]; rfl, fun b hb => (by cases hb)⟩ (fun i σ H' _ ⟨e, _⟩ => by rw [e]; exact hS) ?_ ?_⟩
    · rintro i y σ H' hi ⟨rfl, ⟨v1, v2, v3, rfl⟩, bs, ebs, hall⟩
      obtain ⟨b, hb, t, rfl, hT⟩ := Paired.at hG hi
      have hbm := List.mem_of_getElem? hb
      have hTT : SqL K H' t (b.map V.str) ∨ SqT K H' t (b.map V.str) := hT.imp SqL.of SqT.of
      refine ⟨_, rfl, t, _, rfl, hTT, rfl, _, rfl, ?_⟩
      rw [List.length_map]
      by_cases cb : b.length = 2
      case neg =>
        refine if_t (by rw [decide_eq_false (fun e => cb (by injection e with e; omega))]; rfl) ?_
        refine bad (fun ⟨bs2, e, o⟩ => ?_) Str.empty
        rw [e] at hbm
        obtain ⟨z, _, ez⟩ := List.mem_map.mp hbm
        rw [← ez] at cb
        exact cb rfl
      refine if_f (by rw [decide_eq_true (by rw [cb]; rfl)]; rfl) ?_
      obtain ⟨x1, x2, rfl⟩ : ∃ x1 x2, b = [x1, x2] := by
        match b, cb with
        | [x1, x2], _ => exact ⟨x1, x2, rfl⟩
      have s1 := hsm _ hbm x1 (by simp)
      have s2 := hsm _ hbm x2 (by simp)
      have need : BarsGOk rs gs → ∃ r1 ∈ rs, ∃ r2 ∈ rs, x1 = r1.name ∧ x2 = r2.name ∧ r1.goal = r2.start := fun ⟨bs2, e, o⟩ => by
        have hbm' := hbm
        rw [e] at hbm'
        obtain ⟨z, hz, ez⟩ := List.mem_map.mp hbm'
        obtain rfl : z = (x1, x2) := p2_inj _ _ ez
        exact o.ok _ hz
      obtain ⟨kvs, hd, hdin, hdno⟩ := hD
      refine ⟨_, rfl, t, _, rfl, hTT, rfl, _, _, rfl, _, _, rfl, rfl, ?_⟩
      obtain ⟨S, eS⟩ : ∃ S : L2.St, S = [some (V.ref a), some (.ref d), some (.ref t), some (.str x1), some (.str x2), none] := ⟨_, rfl⟩
      have parts : ∀ tt ∈ [tC (.str "a bar of strange roads: "), tFmt (tVar 3), tC (.str " "), tFmt (tVar 4)], SqX.Short tt [some (V.ref a), some (.ref d), some (.ref t), some (.str x1), some (.str x2), none] H' := fun tt ht => by
        simp only [List.mem_cons, List.not_mem_nil, or_false] at ht
        rcases ht with rfl | rfl | rfl | rfl
        · exact short_c (by decide +kernel)
        · exact short_v (y := x1) rfl s1
        · exact short_c (by decide +kernel)
        · exact short_v (y := x2) rfl s2
      have parts2 : ∀ tt ∈ [tC (.str "a bar of roads that do not touch: "), tFmt (tVar 3), tC (.str " "), tFmt (tVar 4)], SqX.Short tt [some (V.ref a), some (.ref d), some (.ref t), some (.str x1), some (.str x2), none] H' := fun tt ht => by
        simp only [List.mem_cons, List.not_mem_nil, or_false] at ht
        rcases ht with rfl | rfl | rfl | rfl
        · exact short_c (by decide +kernel)
        · exact short_v (y := x1) rfl s1
        · exact short_c (by decide +kernel)
        · exact short_v (y := x2) rfl s2
      have gd : ∀ z : Str, DGet H' d (.str z) (valV kvs (.inr z)) := fun z => DGet.k (k := .inr z) hd
      refine ⟨fun σ2 H2 => σ2 = S ∧ H2 = H' ∧ (∃ r1 ∈ rs, r1.name = x1) ∧ ∃ r2 ∈ rs, r2.name = x2, ?_, ?_⟩
      · refine ⟨_, rfl, _, rfl, d, _, rfl, gd x1, _, rfl, ?_⟩
        by_cases q1 : ∃ r1 ∈ rs, r1.name = x1
        case neg =>
          refine if_t (by rw [hdno x1 fun r hr e => q1 ⟨r, hr, e⟩]; rfl) ?_
          exact tJs_ok (bad fun h => by obtain ⟨r1, h1, _, _, e1, _⟩ := need h; exact q1 ⟨r1, h1, e1.symm⟩) 0 parts (Nat.zero_le _) (by decide)
        obtain ⟨r1, h1, e1⟩ := q1
        obtain ⟨w1, l1, _⟩ := hdin r1 h1
        rw [e1] at l1
        refine if_f (by rw [l1]; rfl) ?_
        refine ⟨_, rfl, _, rfl, d, _, rfl, gd x2, _, rfl, ?_⟩
        by_cases q2 : ∃ r2 ∈ rs, r2.name = x2
        case neg =>
          refine if_t (by rw [hdno x2 fun r hr e => q2 ⟨r, hr, e⟩]; rfl) ?_
          exact tJs_ok (bad fun h => by obtain ⟨_, _, r2, h2, _, e2, _⟩ := need h; exact q2 ⟨r2, h2, e2.symm⟩) 0 parts (Nat.zero_le _) (by decide)
        obtain ⟨r2, h2, e2⟩ := q2
        obtain ⟨w2, l2, _⟩ := hdin r2 h2
        rw [e2] at l2
        exact if_f (by rw [l2]; rfl) ⟨eS.symm, rfl, ⟨r1, h1, e1⟩, r2, h2, e2⟩
      rintro σ2 H2 ⟨eσ, eH, ⟨r1, h1, e1⟩, r2, h2, e2⟩
      rw [eσ, eS, eH]
      obtain ⟨w1, l1, p1, q1, hh1, rfl, a1, _, _⟩ := hdin r1 h1
      obtain ⟨w2, l2, p2', q2, hh2, rfl, a2, _, _⟩ := hdin r2 h2
      rw [e1] at l1
      rw [e2] at l2
      have g1 := gd x1
      have g2 := gd x2
      rw [l1] at g1
      rw [l2] at g2
      refine ⟨_, rfl, _, rfl, d, _, rfl, g1, p1, _, 2, .str r1.goal, rfl, rfl, SqT.of a1, rfl, _, rfl, _, rfl, d, _, rfl, g2, p2', _, 1, .str r2.start, rfl, rfl, SqT.of a2, rfl, rfl, _, rfl, ?_⟩
      by_cases c3 : r1.goal = r2.start
      case neg =>
        refine if_t (by rw [decide_eq_false (fun e => c3 (by injection e with e))]; rfl) ?_
        refine tJs_ok (bad fun h => ?_) 0 parts2 (Nat.zero_le _) (by decide)
        obtain ⟨r1', h1', r2', h2', e1', e2', e3'⟩ := need h
        have u1 : r1 = r1' := uniqN hnd h1 h1' (e1.trans e1')
        have u2 : r2 = r2' := uniqN hnd h2 h2' (e2.trans e2')
        rw [u1, u2] at c3
        exact c3 e3'
      refine if_f (by rw [c3]; simp) ⟨rfl, ⟨_, _, _, rfl⟩, bs ++ [(x1, x2)], ?_, fun b hb => ?_⟩
      · rw [List.take_succ, hb, ebs, List.map_append]
        rfl
      · rcases List.mem_append.mp hb with hb | hb
        · exact hall b hb
        · rw [List.mem_singleton.mp hb]
          exact ⟨r1, h1, r2, h2, e1.symm, e2.symm, c3⟩
    · rintro σ H' ⟨rfl, ⟨v1, v2, v3, rfl⟩, bs, ebs, hall⟩
      rw [← hln, List.take_length] at ebs
      have hGB : Paired (fun b v => GBarX H' (p2 b) v) bs xs := paired_p2 (by rw [← ebs]; exact hG)
      have kE' : ¬ BarsOk rs bs → BadM C P H' E := fun h => kE fun ⟨bs2, e, o⟩ => h (by
        have : bs2 = bs := List.map_inj_right p2_inj |>.mp (e.symm.trans ebs)
        rw [← this]; exact o)
      have hl40 : bs.length ≤ 40 := by rw [ebs, List.length_map] at c40; exact c40
      have hlb : bs.length = xs.length := Paired.len hGB
      refine ⟨_, rfl, c, a, rfl, ⟨_, hS⟩, fun D nD => lc_sq (K := K) (c := c) (a := a) (xs := xs) (fun i H1 => Grew P H' H1 ∧ ∃ acc, H1 D = some (.lst acc) ∧ Paired (GBar H1) (bs.take i) acc)
        ⟨Grew.new hP nD, [], upd_same, .nil⟩ (fun i H1 _ p => hS.grew p.1 hP) (fun i x H1 hx p => ?_) (fun H1 p => ?_)⟩
      · obtain ⟨g, acc, hD1, hacc⟩ := p
        obtain ⟨b, hb, t, rfl, hT⟩ := Paired.at hGB hx
        have la := Paired.len hacc
        rw [List.length_take] at la
        have et : bs.take (i + 1) = bs.take i ++ [b] := by rw [List.take_succ, hb]; rfl
        have kb : ∀ {H2 : Hp} {ys zs : List V} {b : Str × Str} {v : V}, H2 D = some (.lst ys) → GBar H2 b v → GBar (L2.upd H2 D (.lst zs)) b v := fun h m => m.upd (fun xs z => by rw [h] at z; cases z)
        rcases hT with hT | hT
        · refine ⟨rfl, _, rfl, t, _, rfl, .inl ⟨SqL.of (g.lst hP hT), fun u nu => ?_⟩⟩
          have gu := Grew.new g.tab (o := .tup ((p2 b).map V.str)) nu
          have hD2 := gu.lst g.tab hD1
          refine ⟨_, hD2, by rw [sizeLine_eq]; omega, (g.trans gu).write hD2 (fun _ z => by cases z) nD, acc ++ [.ref u], upd_same, ?_⟩
          rw [et]
          exact Paired.snoc (Paired.map' hacc fun _ _ m => kb hD2 (m.grew gu g.tab)) (kb hD2 ⟨u, rfl, upd_same⟩)
        · refine ⟨rfl, _, rfl, t, _, rfl, .inr ⟨SqT.of (g.tup hP hT), _, hD1, by rw [sizeLine_eq]; omega, g.write hD1 (fun _ z => by cases z) nD, acc ++ [.ref t], upd_same, ?_⟩⟩
          rw [et]
          exact Paired.snoc (Paired.map' hacc fun _ _ m => kb hD1 m) (kb hD1 ⟨t, rfl, g.tup hP hT⟩)
      · obtain ⟨g, acc, hD1, hG1⟩ := p
        rw [← hlb, List.take_length] at hG1
        have lacc := Paired.len hG1
        obtain ⟨ks, ek1, ek2, ek3⟩ := bars_keys (K := K) hG1
        have lk : ks.length = acc.length := by rw [ek1, List.length_map]
        refine ⟨_, rfl, D, rfl, g.tab, .inr ⟨ks, by rw [← ek1]; exact SqL.of hD1, ek3, by omega, fun nd => ?_, fun nd => (kE' fun o => nd (by rw [ek2]; exact nodup_bars o.nd)).on g⟩⟩
        rw [ek2] at nd
        have ok : BarsOk rs bs := ⟨hl40, nodup_p2.mp nd, hall⟩
        refine ⟨_, rfl, D, acc, barAt H1, rfl, SqL.of hD1, fun x hx => ?_, fun ys l hpm hso hl => ⟨l, _, rfl, .inl ⟨SqL.of upd_same, fun p hp2 => ?_⟩⟩⟩
        · obtain ⟨b, _, m⟩ := Paired.mem hG1 hx
          have nm := m.at
          obtain ⟨t, e, q⟩ := m
          exact ⟨t, e, by rw [nm]; exact SqT.of q⟩
        · obtain ⟨bs', pm, hr'⟩ := Paired.perm hpm hG1
          have gl := Grew.new g.tab (o := .lst ys) hl
          have gp := gl.put (o := .tup ys) hp2
          exact kQ bs ebs ok _ p bs' ys (g.trans gp) pm (Paired.pair (fun a b x y m m' e => by rw [m.at, m'.at] at e; exact e) hr' hso) (g.free (gl.free hp2)) upd_same (Paired.map' hr' fun _ _ m => m.grew gp g.tab)
end
end W

set_option Elab.async false
set_option linter.all false
set_option maxRecDepth 100000
set_option maxHeartbeats 1000000
namespace W
open PySem PySem.Spec PyProof.Rows L2 GxR MyG MyS SqX
/-! ### Map.__init__ of whatever is given -/
structure GivenSm (d : Int) (ks ps : List Str) (gs : List RoadI) (bg : List (List Str)) : Prop where
  d : d.natAbs < 10 ^ 12
  kl : ks.length ≤ 1000
  k : ∀ z ∈ ks, z.length ≤ 1000
  pl : ps.length ≤ 1000
  p : ∀ z ∈ ps, z.length ≤ 1000
  rl : gs.length ≤ 1000
  r : ∀ r, Sum.inl r ∈ gs → SmallG r
  bl : bg.length ≤ 1000
  b : ∀ b ∈ bg, ∀ z ∈ b, z.length ≤ 1000
def GivenOk (d : Int) (ks ps : List Str) (gs : List RoadI) (bg : List (List Str)) : Prop := ∃ rs bs, gs = rs.map itemG ∧ bg = bs.map p2 ∧ PartsOk d ks ps rs bs
theorem BarsOk.keptR {rs rs' : List RoadD} {bs : List (Str × Str)} (h : BarsOk rs' bs) (k : KeptAll rs rs') : BarsOk rs bs := by
  obtain ⟨a, b, c⟩ := h
  obtain ⟨l, pm, pr⟩ := k
  have f : ∀ r' ∈ rs', ∃ r ∈ rs, r.name = r'.name ∧ r.start = r'.start ∧ r.goal = r'.goal := fun r' hr' => by
    obtain ⟨r, hr, q⟩ := Paired.mem pr (pm.mem_iff.mpr hr')
    exact ⟨r, hr, q.1.symm, q.2.1.symm, q.2.2.1.symm⟩
  refine ⟨a, b, fun z hz => ?_⟩
  obtain ⟨r1, h1, r2, h2, e1, e2, e3⟩ := c z hz
  obtain ⟨s1, m1, n1, _, g1⟩ := f r1 h1
  obtain ⟨s2, m2, n2, g2, _⟩ := f r2 h2
  exact ⟨s1, m1, s2, m2, by rw [n1]; exact e1, by rw [n2]; exact e2, by rw [g1, g2]; exact e3⟩
def spInitX (K : PySem.W.Frag) (M C P : Addr) : Sp := fun vs H Q E => ∃ (x dx ki pl ro ba : Addr) (ck cp cr cb : Bool) (d : Int) (ks ps : List Str) (gs : List RoadI) (bg : List (List Str)) (xs zs : List V) (H0 : Hp), vs = [.ref x, .int d, .ref ki, .ref pl, .ref ro, .ref ba] ∧
  Grew P H0 H ∧ TabG H0 P ∧ H0 x = none ∧ H x = some (.ins M dx []) ∧ SqK ck K H0 ki (ks.map V.str) ∧ SqK cp K H0 pl (ps.map V.str) ∧ SqK cr K H0 ro xs ∧ Paired (GItem K H0) gs xs ∧ SqK cb K H0 ba zs ∧ Paired (GBarX H0) bg zs ∧ GivenSm d ks ps gs bg ∧
  (∀ rs bs, gs = rs.map itemG → bg = bs.map p2 → PartsOk d ks ps rs bs → ∀ H' ks' ps' rs' bs', Grew P H0 H' → ks'.Perm ks → Asc ks' → ps'.Perm ps → Asc ps' → KeptAll rs rs' → AscR rs' → bs'.Perm bs → AscB bs' → MapAt K H' M x d ks' ps' rs' bs' → Q .non H') ∧
  (¬ GivenOk d ks ps gs bg → BadM C P H0 E)
section
variable {Pg : Program} {w : World} {K : PySem.W.Frag} {mg : Str → Option Value} {base : Heap} {C P : Addr}
theorem ok_initX {f fY fN fR fB M : Addr} {fd fdY fdN fdR fdB : FuncData} {t1 t2 t3 : Tok} {dvs : List V} {kws : List (Str × V)} (F : FunD K "__init__" "Map.__init__" (defArgs sInit) (defBody sInit) (defScope sInit) dvs kws f fd) (T : TxtM K M) (TE : TxtE mg K C)
    (hn : mg "NAME" = some (.int 0 t1)) (hk : mg "MOST_KINDS" = some (.int 4 t2)) (hp : mg "MOST_PLACES" = some (.int 30 t3))
    (GY : FnOk Pg w K mg base (L2N.CX Pg w) 1 fY fdY ["day"] (spDayX C P)) (gY : mg "_checked_day" = some (.ref fY)) (kY : PySem.W.keepIn K (.ref fY) = true) (bY : Binds K fdY ["day"] [])
    (GN : FnOk Pg w K mg base (L2N.CX Pg w) 3 fN fdN ["names", "least", "most"] (spNamesX K C P)) (gN : mg "_checked_names" = some (.ref fN)) (kN : PySem.W.keepIn K (.ref fN) = true) (bN : Binds K fdN ["names", "least", "most"] [])
    (GR : FnOk Pg w K mg base (L2N.CX Pg w) 4 fR fdR ["roads", "day", "places", "kinds"] (spRoadsX K C P)) (gR : mg "_checked_roads" = some (.ref fR)) (kR : PySem.W.keepIn K (.ref fR) = true) (bR : Binds K fdR ["roads", "day", "places", "kinds"] [])
    (GB : FnOk Pg w K mg base (L2N.CX Pg w) 2 fB fdB ["bars", "roads_by_name"] (spBarsX K C P)) (gB : mg "_checked_bars" = some (.ref fB)) (kB : PySem.W.keepIn K (.ref fB) = true) (bB : Binds K fdB ["bars", "roads_by_name"] []) :
    FnOk Pg w K mg base (L2N.CX Pg w) 5 f fd pInit (spInitX K M C P) := by
  refine F.ok scInit (fun vs H Q E h => ?_) (fun cdv A outer s H vs Q E hr h => ?_)
  · obtain ⟨x, dx, ki, pl, ro, ba, ck, cp, cr, cb, d, ks, ps, gs, bg, xs, zs, H0, rfl, _⟩ := h
    rfl
  · obtain ⟨x, dx, ki, pl, ro, ba, ck, cp, cr, cb, d, ks, ps, gs, bg, xs, zs, H0, rfl, g0, hP0, nx, hx, hKi, hPl, hRo, hG, hBa, hB, sm, kQ, kE⟩ := h
    have hr1 : Room 1 _ := hr.mono (by decide)
    have hr2 : Room 2 _ := hr.mono (by decide)
    have hr3 : Room 3 _ := hr.mono (by decide)
    refine ⟨_, pss_cons (ps_fld (pv 0) (pe_call (E := E) GY hr1 (by rfl) gY kY bY .nil (L2N.passes_call (L2N.takes_of rfl rfl rfl rfl) (fun _ _ _ _ h => h)) (pa_cons (pv 1) pa_nil)) rfl)
      (pss_cons (ps_fld (pv 0) (pe_call (E := E) GN hr3 (by rfl) gN kN bN .nil (L2N.passes_call (L2N.takes_of rfl rfl rfl rfl) (fun _ _ _ _ h => h)) (pa_cons (pv 2) (pa_cons pe_int (pa_cons (pe_gI hk) pa_nil)))) rfl)
      (pss_cons (ps_fld (pv 0) (pe_call (E := E) GN hr3 (by rfl) gN kN bN .nil (L2N.passes_call (L2N.takes_of rfl rfl rfl rfl) (fun _ _ _ _ h => h)) (pa_cons (pv 3) (pa_cons pe_int (pa_cons (pe_gI hp) pa_nil)))) rfl)
      (pss_cons (ps_fld (pv 0) (pe_call (E := E) GR hr (by rfl) gR kR bR .nil (L2N.passes_call (L2N.takes_of rfl rfl rfl rfl) (fun _ _ _ _ h => h)) (pa_cons (pv 4) (pa_cons (pv 1) (pa_cons (pe_fld (pv 0) rfl) (pa_cons (pe_fld (pv 0) rfl) pa_nil))))) rfl)
      (pss_cons (ps_fld (pv 0) (pe_dc (own := [("road", 6)]) (g := gName 6) (tt := tYes) rfl scInit.nd (pi_tup (pe_fld (pv 0) rfl)) (blkOk_by (N := nInit) (sc := defScope sInit) (by decide +kernel)) (fun _ _ _ _ _ => pg_name (i := 6) scInit.nd rfl (Or.inl rfl)) (fun _ _ _ _ _ => pts_nil)
          (fun _ _ _ _ _ => pe_ix (r := rIxT K) ix_tup (pv 6) (pe_gI hn) (fun _ _ => rfl)) (fun _ _ _ _ _ => pv 6)) rfl)
      (pss_cons (ps_fld (pv 0) (pe_call (E := E) GB hr2 (by rfl) gB kB bB .nil (L2N.passes_call (L2N.takes_of rfl rfl rfl rfl) (fun _ _ _ _ h => h)) (pa_cons (pv 5) (pa_cons (pe_fld (pv 0) rfl) pa_nil))) rfl)
      (pss_one (ps_fld (pv 0) (pe_dcT (own := [("bar", 7)]) (g := gName 7) (tt := tYes) (u1 hr.units) rfl scInit.nd (pi_tup (pe_fld (pv 0) rfl)) (blkOk_by (N := nInit) (sc := defScope sInit) (by decide +kernel)) (fun _ _ _ _ _ => pg_name (i := 7) scInit.nd rfl (Or.inl rfl)) (fun _ _ _ _ _ => pts_nil)
          (fun _ _ _ _ _ => pv 7) (fun _ _ _ _ _ => pe_bl)) rfl))))))), ?_⟩
    have nins : ∀ (fs : List (Str × V)) (q : Array Value), (HO.ins M dx fs) ≠ .tbl q := fun _ _ z => by cases z
    -- day
    refine ⟨_, rfl, d, rfl, sm.d, g0.tab, fun d1 d2 => ?_, fun nd => (kE fun ⟨_, _, _, _, o⟩ => nd ⟨o.d1, o.d2⟩).on g0⟩
    refine ⟨_, rfl, x, M, dx, [], rfl, hx, T.cl, T.n1, by decide, ?_⟩
    have ga := g0.write (o := .ins M dx (putF "day" (.int d) [])) hx (nins _) nx
    have la : (putF ("day" : Str) (V.int d) []).length ≤ 1 := length_putF _ _ []
    -- kinds
    refine ⟨_, rfl, ki, ck, ks, 1, 4, rfl, hKi.grew ga hP0, sm.kl, sm.k, by decide, by decide, ga.tab, fun kok Hb kk ks' gb nk ek pk ak => ?_, fun nok => (kE fun ⟨_, _, _, _, o⟩ => nok ⟨by have := o.k1; omega, by have := o.k2; omega, o.kn, o.kd⟩).on ga⟩
    have xb := gb.get ga.tab upd_same (nins _)
    refine ⟨_, rfl, x, M, dx, _, rfl, xb, T.cl, T.n2, by omega, ?_⟩
    have gc := (ga.trans gb).write (o := .ins M dx (putF "kinds" (.ref kk) (putF "day" (.int d) []))) xb (nins _) nx
    have lc := length_putF ("kinds" : Str) (V.ref kk) (putF ("day" : Str) (V.int d) [])
    have tk := tup_ins (o := .ins M dx (putF "kinds" (.ref kk) (putF "day" (.int d) []))) xb ek
    -- places
    refine ⟨_, rfl, pl, cp, ps, 0, 30, rfl, hPl.grew gc hP0, sm.pl, sm.p, by decide, by decide, gc.tab, fun pok Hd pp ps' gd np ep pp' ap => ?_, fun nok => (kE fun ⟨_, _, _, _, o⟩ => nok ⟨by omega, by have := o.p2; omega, o.pn, o.pd⟩).on gc⟩
    have xd := gd.get gc.tab upd_same (nins _)
    refine ⟨_, rfl, x, M, dx, _, rfl, xd, T.cl, T.n3, by omega, ?_⟩
    have ge := (gc.trans gd).write (o := .ins M dx (putF "places" (.ref pp) (putF "kinds" (.ref kk) (putF "day" (.int d) [])))) xd (nins _) nx
    have le := length_putF ("places" : Str) (V.ref pp) (putF ("kinds" : Str) (V.ref kk) (putF ("day" : Str) (V.int d) []))
    generalize hfs : putF ("places" : Str) (V.ref pp) (putF ("kinds" : Str) (V.ref kk) (putF ("day" : Str) (V.int d) [])) = fs at ge le ⊢
    have f0 : ∀ f, f ∉ nmF → fs.lookup f = none := by rw [← hfs]; exact noF (noF (noF (fun _ _ => rfl) (by decide +kernel)) (by decide +kernel)) (by decide +kernel)
    have f3 : fs.lookup ("places" : Str) = some (V.ref pp) := by rw [← hfs, lookup_putF, if_pos rfl]
    have f2 : fs.lookup ("kinds" : Str) = some (V.ref kk) := by rw [← hfs, lookup_putF, if_neg (by decide +kernel), lookup_putF, if_pos rfl]
    have f1 : fs.lookup ("day" : Str) = some (V.int d) := by rw [← hfs, lookup_putF, if_neg (by decide +kernel), lookup_putF, if_neg (by decide +kernel), lookup_putF, if_pos rfl]
    have tk2 := tup_ins (o := .ins M dx fs) xd (gd.tup gc.tab tk)
    have tp2 := tup_ins (o := .ins M dx fs) xd ep
    -- roads
    refine ⟨_, rfl, _, rfl, _, rfl, x, M, dx, _, _, rfl, upd_same, T.cl, T.n3, f3, _, rfl, x, M, dx, _, _, rfl, upd_same, T.cl, T.n2, f2,
      ro, pp, kk, cr, d, ps', ks', gs, xs, rfl, hRo.grew ge hP0, Paired.map' hG (fun r v m => GItem.grew ge hP0 m), sm.r, sm.rl, SqT.of tp2, SqT.of tk2, by have := kok.2.1; rw [pk.length_eq]; omega, ge.tab, fun rs ers okr' Hf rr rs' ys gf kr ar nr er hm => ?_, fun nok => (kE fun ⟨rs, _, e, _, o⟩ => nok ⟨rs, e, o.r.perm pp' pk⟩).on ge⟩
    have okr : RoadsOk d ps ks rs := okr'.perm pp'.symm pk.symm
    have xf := gf.get ge.tab upd_same (nins _)
    refine ⟨_, rfl, x, M, dx, _, rfl, xf, T.cl, T.n4, by omega, ?_⟩
    have gg := (ge.trans gf).write (o := .ins M dx (putF "roads" (.ref rr) fs)) xf (nins _) nx
    have lg := length_putF ("roads" : Str) (V.ref rr) fs
    have fg4 : (putF ("roads" : Str) (V.ref rr) fs).lookup ("roads" : Str) = some (V.ref rr) := by rw [lookup_putF, if_pos rfl]
    have fg3 : (putF ("roads" : Str) (V.ref rr) fs).lookup ("places" : Str) = some (V.ref pp) := by rw [lookup_putF, if_neg (by decide +kernel)]; exact f3
    have fg2 : (putF ("roads" : Str) (V.ref rr) fs).lookup ("kinds" : Str) = some (V.ref kk) := by rw [lookup_putF, if_neg (by decide +kernel)]; exact f2
    have fg1 : (putF ("roads" : Str) (V.ref rr) fs).lookup ("day" : Str) = some (V.int d) := by rw [lookup_putF, if_neg (by decide +kernel)]; exact f1
    have fg0 := noF (v := V.ref rr) f0 (show ("roads" : Str) ∈ nmF by decide +kernel)
    generalize hgs : putF ("roads" : Str) (V.ref rr) fs = gs at gg lg fg0 fg1 fg2 fg3 fg4 ⊢
    have tr3 := tup_ins (o := .ins M dx gs) xf er
    have tk3 := tup_ins (o := .ins M dx gs) xf (gf.tup ge.tab tk2)
    have tp3 := tup_ins (o := .ins M dx gs) xf (gf.tup ge.tab tp2)
    have hm3 : Paired (RoadAt K (L2.upd Hf x (.ins M dx gs))) rs' ys := Paired.map' hm fun r v m => m.ins xf
    have lys : ys.length ≤ 60 := by rw [← Paired.len hm3, kr.len]; exact okr.len
    have ndr := kr.nodup okr.nd
    generalize hHg : L2.upd Hf x (.ins M dx gs) = Hg at gg tr3 tk3 tp3 hm3 ⊢
    have xg : Hg x = some (.ins M dx gs) := by rw [← hHg]; exact upd_same
    -- _roads_by_name
    refine ⟨_, rfl, x, M, dx, _, _, rfl, xg, T.cl, T.n4, fg4, rr, rfl, ⟨_, SqT.of tr3⟩, fun D nD => dc_tup (K := K) (a := rr) (xs := ys)
      (fun i H1 => Grew P Hg H1 ∧ ∃ kvs, H1 D = some (.dK kvs) ∧ kvs.length ≤ i ∧ (∀ (j : Nat) r v, j < i → rs'[j]? = some r → ys[j]? = some v → valV kvs (.inr r.name) = some v) ∧ ∀ z : Str, (∀ r ∈ rs'.take i, r.name ≠ z) → valV kvs (.inr z) = none)
      ⟨Grew.new gg.tab nD, [], upd_same, Nat.le_refl _, fun j r v h => absurd h (Nat.not_lt_zero _), fun z _ => rfl⟩ (fun i H1 _ p => SqT.of (p.1.tup gg.tab tr3)) (fun i y H1 hy p => ?_) (fun Hh p => ?_)⟩
    · obtain ⟨g, kvs, hD, hl, hin, hno⟩ := p
      obtain ⟨r, hri, m⟩ := Paired.at hm3 hy
      have hi : i < ys.length := (List.getElem?_eq_some_iff.mp hy).1
      have m1 := m.grew g gg.tab
      obtain ⟨t, q, h, rfl, et, _⟩ := m1
      refine ⟨rfl, _, rfl, t, _, 0, .str r.name, rfl, rfl, SqT.of et, rfl, _, rfl, kvs, .inr r.name, rfl, hD, ?_, g.write hD (fun _ z => by cases z) nD, _, upd_same, ?_, fun j r' v' hj hr' hv' => ?_, fun z hz => ?_⟩
      · rw [sizeLine_eq]; omega
      · exact Nat.le_trans (length_putK kvs (.inr r.name) _) (by omega)
      · rw [valV_put]
        by_cases e : j = i
        · subst e
          rw [hri] at hr'
          rw [hy] at hv'
          cases hr'; cases hv'
          rw [if_pos rfl]
        · have ne : ¬ (Sum.inr r'.name : Key) = .inr r.name := fun z => by
            injection z with z
            have hri' := (List.getElem?_eq_some_iff.mp hri)
            have hrj' := (List.getElem?_eq_some_iff.mp hr')
            obtain ⟨a1, a2⟩ := hri'
            obtain ⟨b1, b2⟩ := hrj'
            refine absurd ?_ (List.pairwise_iff_getElem.mp ndr j i (by rw [List.length_map]; exact b1) (by rw [List.length_map]; exact a1) (by omega))
            rw [List.getElem_map, List.getElem_map, a2, b2]
            exact z
          rw [if_neg ne]
          exact hin j r' v' (by omega) hr' hv'
      · rw [valV_put, if_neg ?_]
        · exact hno z fun r' hr' => hz r' (by rw [List.take_succ]; exact List.mem_append_left _ hr')
        · intro e
          injection e with e
          exact hz r (by rw [List.take_succ, hri]; exact List.mem_append_right _ (List.mem_singleton.mpr rfl)) e.symm
    · obtain ⟨gh, kvs, hD, hl, hin, hno⟩ := p
      have xh := gh.get gg.tab xg (nins _)
      refine ⟨_, rfl, x, M, dx, _, rfl, xh, T.cl, T.n5, by omega, ?_⟩
      have gi := (gg.trans gh).write (o := .ins M dx (putF "_roads_by_name" (.ref D) gs)) xh (nins _) nx
      have li := length_putF ("_roads_by_name" : Str) (V.ref D) gs
      have fi5 : (putF ("_roads_by_name" : Str) (V.ref D) gs).lookup ("_roads_by_name" : Str) = some (V.ref D) := by rw [lookup_putF, if_pos rfl]
      have fi4 : (putF ("_roads_by_name" : Str) (V.ref D) gs).lookup ("roads" : Str) = some (V.ref rr) := by rw [lookup_putF, if_neg (by decide +kernel)]; exact fg4
      have fi3 : (putF ("_roads_by_name" : Str) (V.ref D) gs).lookup ("places" : Str) = some (V.ref pp) := by rw [lookup_putF, if_neg (by decide +kernel)]; exact fg3
      have fi2 : (putF ("_roads_by_name" : Str) (V.ref D) gs).lookup ("kinds" : Str) = some (V.ref kk) := by rw [lookup_putF, if_neg (by decide +kernel)]; exact fg2
      have fi1 : (putF ("_roads_by_name" : Str) (V.ref D) gs).lookup ("day" : Str) = some (V.int d) := by rw [lookup_putF, if_neg (by decide +kernel)]; exact fg1
      have fi0 := noF (v := V.ref D) fg0 (show ("_roads_by_name" : Str) ∈ nmF by decide +kernel)
      generalize his : putF ("_roads_by_name" : Str) (V.ref D) gs = is at gi li fi0 fi1 fi2 fi3 fi4 fi5 ⊢
      have hmh : Paired (RoadAt K Hh) rs' ys := Paired.map' hm3 fun r v m => m.grew gh gg.tab
      have dR : DictR K (L2.upd Hh x (.ins M dx is)) D rs' := by
        refine DictR.ins xh ⟨kvs, hD, fun r hr => ?_, fun z hz => hno z fun r hr => hz r (List.mem_of_mem_take hr)⟩
        obtain ⟨j, hj, ej⟩ := List.getElem_of_mem hr
        have hj' : rs'[j]? = some r := List.getElem?_eq_some_iff.mpr ⟨hj, ej⟩
        obtain ⟨v, hv, m⟩ := Paired.to hmh hj'
        exact ⟨v, hin j r v (List.getElem?_eq_some_iff.mp hv).1 hj' hv, m⟩
      have tr4 := tup_ins (o := .ins M dx is) xh (gh.tup gg.tab tr3)
      have tk4 := tup_ins (o := .ins M dx is) xh (gh.tup gg.tab tk3)
      have tp4 := tup_ins (o := .ins M dx is) xh (gh.tup gg.tab tp3)
      have hm4 : Paired (RoadAt K (L2.upd Hh x (.ins M dx is))) rs' ys := Paired.map' hmh fun r v m => m.ins xh
      generalize hHi : L2.upd Hh x (.ins M dx is) = Hi at gi tr4 tk4 tp4 hm4 dR ⊢
      have xi : Hi x = some (.ins M dx is) := by rw [← hHi]; exact upd_same
      -- bars
      refine ⟨_, rfl, _, rfl, x, M, dx, _, _, rfl, xi, T.cl, T.n5, fi5, ba, D, cb, rs', bg, zs, rfl, hBa.grew gi hP0, Paired.map' hB (fun b v m => GBarX.grew gi hP0 m), sm.bl, sm.b, dR, ndr, gi.tab, fun bs ebs okb' Hj bb bs' zs' gj pb ab nb eb hz => ?_, fun nok => (kE fun ⟨rs2, bs, e2, e, o⟩ => nok ⟨bs, e, by
        have q : rs2 = rs := List.map_inj_right (fun a b h => rG_inj (Sum.inl.inj h)) |>.mp (e2.symm.trans ers)
        rw [q] at o
        exact o.b.kept kr⟩).on gi⟩
      have okb : BarsOk rs bs := okb'.keptR kr
      have xj := gj.get gi.tab xi (nins _)
      refine ⟨_, rfl, x, M, dx, _, rfl, xj, T.cl, T.n6, by omega, ?_⟩
      have gk := (gi.trans gj).write (o := .ins M dx (putF "bars" (.ref bb) is)) xj (nins _) nx
      have lk := length_putF ("bars" : Str) (V.ref bb) is
      have fk6 : (putF ("bars" : Str) (V.ref bb) is).lookup ("bars" : Str) = some (V.ref bb) := by rw [lookup_putF, if_pos rfl]
      have fk5 : (putF ("bars" : Str) (V.ref bb) is).lookup ("_roads_by_name" : Str) = some (V.ref D) := by rw [lookup_putF, if_neg (by decide +kernel)]; exact fi5
      have fk4 : (putF ("bars" : Str) (V.ref bb) is).lookup ("roads" : Str) = some (V.ref rr) := by rw [lookup_putF, if_neg (by decide +kernel)]; exact fi4
      have fk3 : (putF ("bars" : Str) (V.ref bb) is).lookup ("places" : Str) = some (V.ref pp) := by rw [lookup_putF, if_neg (by decide +kernel)]; exact fi3
      have fk2 : (putF ("bars" : Str) (V.ref bb) is).lookup ("kinds" : Str) = some (V.ref kk) := by rw [lookup_putF, if_neg (by decide +kernel)]; exact fi2
      have fk1 : (putF ("bars" : Str) (V.ref bb) is).lookup ("day" : Str) = some (V.int d) := by rw [lookup_putF, if_neg (by decide +kernel)]; exact fi1
      have fk0 := noF (v := V.ref bb) fi0 (show ("bars" : Str) ∈ nmF by decide +kernel)
      generalize hjs : putF ("bars" : Str) (V.ref bb) is = js at gk lk fk0 fk1 fk2 fk3 fk4 fk5 fk6 ⊢
      have tb5 := tup_ins (o := .ins M dx js) xj eb
      have tr5 := tup_ins (o := .ins M dx js) xj (gj.tup gi.tab tr4)
      have tk5 := tup_ins (o := .ins M dx js) xj (gj.tup gi.tab tk4)
      have tp5 := tup_ins (o := .ins M dx js) xj (gj.tup gi.tab tp4)
      have hm5 : Paired (RoadAt K (L2.upd Hj x (.ins M dx js))) rs' ys := Paired.map' hm4 fun r v m => (m.grew gj gi.tab).ins xj
      have hz5 : Paired (GBar (L2.upd Hj x (.ins M dx js))) bs' zs' := Paired.map' hz fun b v m => m.ins xj
      have dR5 : DictR K (L2.upd Hj x (.ins M dx js)) D rs' := (dR.grew gj gi.tab).ins xj
      have lzs : zs'.length ≤ 40 := by rw [← Paired.len hz5, pb.length_eq]; exact okb.len
      generalize hHk : L2.upd Hj x (.ins M dx js) = Hk at gk tb5 tr5 tk5 tp5 hm5 hz5 dR5 ⊢
      have xk : Hk x = some (.ins M dx js) := by rw [← hHk]; exact upd_same
      -- _barred
      refine ⟨_, rfl, x, M, dx, _, _, rfl, xk, T.cl, T.n6, fk6, bb, rfl, ⟨_, SqT.of tb5⟩, fun D2 nD2 => dcT_tup (K := K) (a := bb) (xs := zs')
        (fun i H1 => Grew P Hk H1 ∧ ∃ kvs : List (List Key × V), H1 D2 = some (.dT kvs) ∧ kvs.length ≤ i ∧ ∀ a b : Str, (valV kvs [.inr a, .inr b]).isSome = true ↔ (a, b) ∈ bs'.take i)
        ⟨Grew.new gk.tab nD2, [], upd_same, Nat.le_refl _, fun a b => by simp [valV_nil]⟩ (fun i H1 _ p => SqT.of (p.1.tup gk.tab tb5)) (fun i y H1 hy p => ?_) (fun Hl p => ?_)⟩
      · obtain ⟨g, kvs, hD, hl, hin⟩ := p
        obtain ⟨b, hbi, m⟩ := Paired.at hz5 hy
        have hi : i < zs'.length := (List.getElem?_eq_some_iff.mp hy).1
        obtain ⟨t, rfl, et⟩ := m.grew g gk.tab
        refine ⟨rfl, _, rfl, kvs, [.inr b.1, .inr b.2], t, rfl, et, hD, ?_, g.write hD (fun _ z => by cases z) nD2, _, upd_same, ?_, fun a' b' => ?_⟩
        · rw [sizeLine_eq]; omega
        · have := length_putK kvs ([.inr b.1, .inr b.2] : List Key) (V.bl true)
          omega
        · rw [valV_put, List.take_succ, hbi, List.mem_append]
          by_cases e : ([.inr a', .inr b'] : List Key) = [.inr b.1, .inr b.2]
          · rw [if_pos e]
            have e1 : a' = b.1 := Sum.inr.inj (List.cons.inj e).1
            have e2 : b' = b.2 := Sum.inr.inj (List.cons.inj (List.cons.inj e).2).1
            subst e1 e2
            exact ⟨fun _ => .inr (List.mem_singleton.mpr rfl), fun _ => rfl⟩
          · rw [if_neg e, hin a' b']
            refine ⟨.inl, fun h => h.elim id fun h => ?_⟩
            have h' : (a', b') = b := List.mem_singleton.mp h
            subst h'
            exact absurd rfl e
      · obtain ⟨gl, kvs, hD, hl, hin⟩ := p
        have lb : bs'.length = zs'.length := Paired.len hz5
        rw [← lb, List.take_length] at hin
        have xl := gl.get gk.tab xk (nins _)
        refine ⟨_, rfl, x, M, dx, _, rfl, xl, T.cl, T.n7, by omega, ?_⟩
        have gm := (gk.trans gl).write (o := .ins M dx (putF "_barred" (.ref D2) js)) xl (nins _) nx
        refine kQ rs bs ers ebs ⟨d1, d2, by have := kok.1; omega, by have := kok.2.1; omega, by have := pok.2.1; omega, kok.2.2.1, pok.2.2.1, kok.2.2.2, pok.2.2.2, okr, okb⟩ _ ks' ps' rs' bs' gm pk ak pp' ap kr ar pb ab ⟨dx, putF "_barred" (.ref D2) js, kk, pp, rr, D, bb, D2, ys, zs', upd_same, ?_⟩
        constructor
        · exact noF fk0 (by decide +kernel)
        · rw [lookup_putF, if_neg (by decide +kernel)]; exact fk1
        · rw [lookup_putF, if_neg (by decide +kernel)]; exact fk2
        · rw [lookup_putF, if_neg (by decide +kernel)]; exact fk3
        · rw [lookup_putF, if_neg (by decide +kernel)]; exact fk4
        · rw [lookup_putF, if_neg (by decide +kernel)]; exact fk5
        · rw [lookup_putF, if_neg (by decide +kernel)]; exact fk6
        · rw [lookup_putF, if_pos rfl]
        · exact tup_ins xl (gl.tup gk.tab tk5)
        · exact tup_ins xl (gl.tup gk.tab tp5)
        · exact tup_ins xl (gl.tup gk.tab tr5)
        · exact Paired.map' hm5 fun r v m => (m.grew gl gk.tab).ins xl
        · exact (dR5.grew gl gk.tab).ins xl
        · exact tup_ins xl (gl.tup gk.tab tb5)
        · exact Paired.map' hz5 fun b v m => (m.grew gl gk.tab).ins xl
        · exact ⟨kvs, by rw [upd_ne (insNe xl hD (fun _ _ _ z => by cases z))]; exact hD, hin⟩
end
end W

set_option Elab.async false
set_option linter.all false
set_option maxRecDepth 100000
set_option maxHeartbeats 400000
namespace W
open PySem PySem.Spec PyProof.Rows L2 GxR MyG MyS
abbrev sLNames : Stmt := top 46
abbrev sLRoadG : Stmt := top 48
abbrev sLHours : Stmt := top 47
abbrev sLBarsG : Stmt := top 49
abbrev sLPartsG : Stmt := top 50
def zGood : Str := "abcdefghijklmnopqrstuvwxyz0123456789"
theorem str_len (z : Str) : z.length = z.cps.toList.length := by simp [Str.length]
/-! ### drawn names -/
/-- of the signs of names alone -/
def Gd (z : Str) : Prop := ∀ c ∈ z.cps.toList, goodC c = true
theorem good_all : ∀ c ∈ zGood.cps.toList, goodC c = true := by decide +kernel
theorem good_len : zGood.cps.toList.length = 36 := by decide +kernel
theorem good_nodup : zGood.cps.toList.Nodup := by decide +kernel
theorem good_let : ∀ c ∈ zGood.cps.toList.take 26, c ∈ zLet.cps.toList := by decide +kernel
theorem Gd.one {c : Nat} (h : c ∈ zGood.cps.toList) : Gd ⟨#[c]⟩ := fun x hx => by
  have e : x = c := by simpa using hx
  rw [e]; exact good_all c h
theorem app_cps (a b : Str) : (a ++ b).cps.toList = a.cps.toList ++ b.cps.toList := by
  show (a.cps ++ b.cps).toList = _
  exact Array.toList_append
theorem Gd.app {a b : Str} (h : Gd a) (k : Gd b) : Gd (a ++ b) := fun c hc => by
  rw [app_cps] at hc
  rcases List.mem_append.mp hc with hc | hc
  · exact h c hc
  · exact k c hc
theorem cutS_sub {z : Str} {lo hi : Option Int} {c : Nat} (h : c ∈ (cutS z lo hi).cps.toList) : c ∈ z.cps.toList := by
  unfold cutS at h
  have h2 : c ∈ (z.cps.toList.drop (HT.sIx z.length 0 lo)).take (HT.sIx z.length z.length hi - HT.sIx z.length 0 lo) := by simpa using h
  exact List.mem_of_mem_drop (List.mem_of_mem_take h2)
theorem Gd.cut {z : Str} (h : Gd z) (lo hi : Option Int) : Gd (cutS z lo hi) := fun c hc => h c (cutS_sub hc)
theorem fold_mem {sep : Str} {c : Nat} : ∀ (rest : List Str) (acc : Array Nat), c ∈ (rest.foldl (fun acc p => acc ++ sep.cps ++ p.cps) acc).toList → c ∈ acc.toList ∨ c ∈ sep.cps.toList ∨ ∃ p ∈ rest, c ∈ p.cps.toList
  | [], _, h => .inl h
  | p :: rest, acc, h => by
    rcases fold_mem rest _ h with h | h | ⟨q, hq, h⟩
    · rw [Array.toList_append, Array.toList_append] at h
      rcases List.mem_append.mp h with h | h
      · rcases List.mem_append.mp h with h | h
        · exact .inl h
        · exact .inr (.inl h)
      · exact .inr (.inr ⟨p, List.mem_cons_self, h⟩)
    · exact .inr (.inl h)
    · exact .inr (.inr ⟨q, List.mem_cons_of_mem _ hq, h⟩)
theorem Gd.join {ys : List Str} (h : ∀ y ∈ ys, Gd y) : Gd (Txt.join (Str.ofString "") ys) := fun c hc => by
  have hc2 : c ∈ ((ys.drop 1).foldl (fun acc p => acc ++ (Str.ofString "").cps ++ p.cps) (ys.headD Str.empty).cps).toList := hc
  rcases fold_mem _ _ hc2 with q | q | ⟨p, hp, q⟩
  · cases ys with
    | nil =>
      have e : (([] : List Str).headD Str.empty).cps.toList = [] := by decide +kernel
      rw [e] at q
      cases q
    | cons y ys => exact h y List.mem_cons_self c q
  · have e : (Str.ofString "").cps.toList = [] := by decide +kernel
    rw [e] at q
    cases q
  · exact h p (List.mem_of_mem_drop hp) c q
theorem join_len (ys : List Str) : (Txt.join (Str.ofString "") ys).length = (ys.map (·.length)).sum := by
  have e := size_glued (Str.ofString "") ys
  have e0 : (Str.ofString "").length = 0 := by decide +kernel
  rw [e0, Nat.mul_zero, Nat.add_zero] at e
  exact e
theorem cut_pre {z : Str} {k : Nat} (h : k ≤ z.length) : (cutS z none (some (k : Int))).cps.toList = z.cps.toList.take k := by
  unfold cutS
  rw [HT.sIx_none, HT.sIx_nat, List.drop_zero, Nat.sub_zero, Nat.min_eq_left h]
theorem cut_suf {z : Str} {k : Nat} (h : k ≤ z.length) : (cutS z (some (k : Int)) none).cps.toList = z.cps.toList.drop k := by
  unfold cutS
  rw [HT.sIx_none, HT.sIx_nat, Nat.min_eq_left h]
  show (z.cps.toList.drop k).take (z.length - k) = z.cps.toList.drop k
  refine List.take_of_length_le ?_
  rw [List.length_drop, str_len]
  exact Nat.le_refl _
theorem at_some {α : Type} {l : List α} {i : Int} (h0 : 0 ≤ i) (h1 : i < l.length) : ∃ c, atI l i = some c ∧ l[i.toNat]? = some c := by
  obtain ⟨n, rfl⟩ := Int.eq_ofNat_of_zero_le h0
  have hn : n < l.length := by omega
  exact ⟨l[n], atI_nat (List.getElem?_eq_getElem hn), List.getElem?_eq_getElem hn⟩
/-- a drawn name: the letter, a part, a sign, the rest -/
def nameOf (c : Nat) (z : Str) (k : Nat) (e : Nat) : Str := (((⟨#[c]⟩ : Str) ++ cutS z none (some (k : Int))) ++ (⟨#[e]⟩ : Str)) ++ cutS z (some (k : Int)) none
theorem nameOf_cps {c : Nat} {z : Str} {k e : Nat} (h : k ≤ z.length) : (nameOf c z k e).cps.toList = c :: (z.cps.toList.take k ++ e :: z.cps.toList.drop k) := by
  unfold nameOf
  rw [app_cps, app_cps, app_cps, cut_pre h, cut_suf h]
  simp
theorem nameOf_ok {c : Nat} {z : Str} {k e : Nat} (h : k ≤ z.length) (h10 : z.length ≤ 10) (hz : Gd z) (hc : c ∈ zLet.cps.toList) (he : e ∈ zGood.cps.toList) : isNm (nameOf c z k e) = true := by
  have q := nameOf_cps (c := c) (e := e) h
  have hl : (nameOf c z k e).length = z.length + 2 := by
    rw [str_len, q, List.length_cons, List.length_append, List.length_take, List.length_cons, List.length_drop, ← str_len]
    omega
  unfold isNm
  rw [q]
  simp only [Bool.and_eq_true, decide_eq_true_eq]
  refine ⟨⟨⟨by omega, by omega⟩, hc⟩, List.all_eq_true.mpr fun x hx => ?_⟩
  rcases List.mem_cons.mp hx with e1 | hx
  · subst e1
    unfold goodC
    rw [decide_eq_true hc]; rfl
  · rcases List.mem_append.mp hx with hx | hx
    · exact hz x (List.mem_of_mem_take hx)
    · rcases List.mem_cons.mp hx with e2 | hx
      · subst e2; exact good_all _ he
      · exact hz x (List.mem_of_mem_drop hx)
end W

set_option Elab.async false
set_option linter.all false
set_option maxRecDepth 100000
set_option maxHeartbeats 400000
namespace W
open PySem PySem.Spec PyProof.Rows L2 GxR MyG MyS
theorem heads_nodup (n : Int) {m : Nat} (hm : m ≤ 9) : ((List.range m).map fun (j : Nat) => zGood.cps.toList[((n + 3 * (j : Int)) % 26).toNat]?).Nodup := by
  refine List.pairwise_map.mpr (List.pairwise_iff_getElem.mpr fun a b ha hb hab e => ?_)
  rw [List.length_range] at ha hb
  rw [List.getElem_range, List.getElem_range] at e
  have h1 : ((n + 3 * (a : Int)) % 26).toNat < zGood.cps.toList.length := by rw [good_len]; omega
  have q := (List.getElem?_inj h1 good_nodup).mp e
  omega
/-- the first signs differ -/
def heads (ns : List Str) : List (Option Nat) := ns.map fun z => z.cps.toList.head?
def spLNames (P : Addr) : Sp := fun vs H Q _ => ∃ (n : Int) (m : Nat), vs = [.int n, .int m] ∧ 0 ≤ n ∧ m ≤ 9 ∧ TabG H P ∧ ∀ H' p (ns : List Str), Grew P H H' → H p = none → H' p = some (.lst (ns.map V.str)) → ns.length = m → ns.all isNm = true → ns.Nodup → Q (.ref p) H'
abbrev nLNames : List Str := ["number", "many", "letters", "size", "k", "rest", "place", "names", "own", "spot", "step"]
def rInt1 : List V → Hp → VK → Prop := fun xs H Q => (∃ i, xs = [.int i] ∧ Q (.int i) H) ∨ ∃ k, xs = [.bl k] ∧ Q (.int (if k then 1 else 0)) H
section
variable {Pg : Program} {w : World} {K : PySem.W.Frag} {mg : Str → Option Value} {base : Heap} {C P : Addr}
theorem scLNames : FnScope nLNames ["number", "many"] (defScope sLNames) := ⟨rfl, rfl, rfl, by decide +kernel, rfl, by decide +kernel, by decide +kernel⟩
theorem ok_lnames {f : Addr} {fd : FuncData} (F : Fun K "_law_names" "_law_names" sLNames f fd) (hi : mg "int" = none) (hr' : mg "range" = none) (hl : mg "len" = none) (hm : mg "min" = none) : FnOk Pg w K mg base CX0 1 f fd ["number", "many"] (spLNames P) := by
  refine F.ok scLNames (fun vs H Q E h => ?_) (fun cdv A outer s H vs Q E hr h => ?_)
  · obtain ⟨n, m, rfl, _⟩ := h
    rfl
  · obtain ⟨n, m, rfl, hn, hm9, hP, k⟩ := h
    refine ⟨_, pss_cons (ps_set (i := 2) scLNames.nd rfl (Or.inr rfl) pe_str)
      (pss_cons (ps_set (i := 3) scLNames.nd rfl (Or.inl rfl) (pe_op op_mod (pe_callTy call_int1 (by rfl) hi (by decide +kernel) (pa_cons (pv 0) pa_nil)) pe_int))
      (pss_cons (ps_set (i := 5) scLNames.nd rfl (Or.inl rfl) (pe_join pe_str (pe_lc (own := [("k", 4)]) (g := gName 4) (tt := tYes) rfl scLNames.nd (pi_range1 rfl hr' (pa_cons (pv 3) pa_nil)) (blkOk_by (N := nLNames) (sc := defScope sLNames) (by decide +kernel)) (fun _ _ _ _ _ => pg_name (i := 4) scLNames.nd rfl (Or.inl rfl)) (fun _ _ _ _ _ => pts_nil)
          (fun _ _ _ _ _ => pe_ix (r := rIxS) ix_str (pv 2) (pe_op op_mod (pe_callTy (r := rInt1) call_int1 (by rfl) hi (by decide +kernel) (pa_cons (pe_op op_add (pv 0) (pe_op op_mul (pe_op op_mul pe_int (pv 4)) (pv 4))) pa_nil)) pe_int) (fun _ _ => rfl)))))
      (pss_cons (ps_set (i := 6) scLNames.nd rfl (Or.inl rfl) (pe_op op_mod (pe_op op_fdiv (pv 0) pe_int) (pe_op op_add (pv 3) pe_int)))
      (pss_cons (ps_set (i := 7) scLNames.nd rfl (Or.inl rfl) (pe_lst pa_nil))
      (pss_cons (ps_for PassesOwn.never rfl (pi_range1 rfl hr' (pa_cons (pv 1) pa_nil)) (pg_name (i := 4) scLNames.nd rfl (Or.inl rfl))
        (pss_cons (ps_set (i := 8) scLNames.nd rfl (Or.inl rfl) (pv 5))
        (C8.pss_cut (ps_if (pt_cmpR op_eq (pe_op op_mod (pe_callTy call_int1 (by rfl) hi (by decide +kernel) (pa_cons (pe_op op_add (pe_op op_fdiv (pv 0) pe_int) (pv 4)) pa_nil)) pe_int) pe_int (nomark _))
          (pss_one (ps_set (i := 8) scLNames.nd rfl (Or.inl rfl) (pe_slice sl_str (pv 5) (po_some pe_int) po_none))) pss_nil)
        (pss_cons (ps_set (i := 9) scLNames.nd rfl (Or.inl rfl) (pe_callB (call_min2 rfl) (by rfl) hm (by decide +kernel) (pa_cons (pv 6) (pa_cons (pe_callB call_len_str (by rfl) hl PySem.boot_len (pa_cons (pv 8) pa_nil)) pa_nil))))
        (pss_cons (ps_set (i := 10) scLNames.nd rfl (Or.inl rfl) pe_int)
        (C8.pss_cut (ps_if (pt_cmpR op_eq (pe_op op_mod (pe_op op_fdiv (pv 0) pe_int) pe_int) pe_int (nomark _))
          (pss_one (ps_set (i := 10) scLNames.nd rfl (Or.inl rfl) pe_int)) pss_nil)
        (pss_one (ps_expr (pe_bm PySem.F.plainAttrs_list PySem.F.slot_list_append PySem.F.type_list_append mt_append (pv 7) (pa_cons
          (pe_op op_add_str (pe_op op_add_str (pe_op op_add_str (pe_ix ix_str (pv 2) (pe_op op_mod (pe_callTy call_int1 (by rfl) hi (by decide +kernel) (pa_cons (pe_op op_add (pv 0) (pe_op op_mul pe_int (pv 4))) pa_nil)) pe_int) (fun _ _ => rfl)) (pe_slice sl_str (pv 8) po_none (po_some (pv 9)))) (pe_ix ix_str (pv 2) (pe_op op_mod (pe_callTy call_int1 (by rfl) hi (by decide +kernel) (pa_cons (pe_op op_add (pv 0) (pe_op op_mul (pv 10) (pv 4))) pa_nil)) pe_int) (fun _ _ => rfl))) (pe_slice sl_str (pv 8) (po_some (pv 9)) po_none)) pa_nil))))))))))
      (pss_one (ps_ret (pv 7)))))))), ?_⟩
    have sG : zGood.length ≤ sizeLine := by rw [str_len, good_len, sizeLine_eq]; decide
    refine ⟨_, rfl, .inl ⟨_, rfl, _, _, rfl, rfl, (show (0 : Int) < 11 by decide), ?_⟩⟩
    have hsz : 0 ≤ n % 11 ∧ n % 11 < 11 := by omega
    refine ⟨⟨_, rfl⟩, _, rfl, n % 11, rfl, by omega, by omega, fun D nD => lc_range (n := (n % 11).toNat) (fun i H1 => Grew P H H1 ∧ ∃ ys : List Str, H1 D = some (.lst (ys.map V.str)) ∧ ys.length = i ∧ ∀ y ∈ ys, Gd y ∧ y.length = 1)
      ⟨Grew.new hP nD, [], upd_same, rfl, fun y hy => by cases hy⟩ (fun i H1 hi p => ?_) (fun H1 p => ?_)⟩
    · obtain ⟨g, ys, hD, hl1, hy⟩ := p
      have hb : 0 ≤ (n + 7 * (0 + (i : Int)) * (0 + (i : Int))) % 36 ∧ (n + 7 * (0 + (i : Int)) * (0 + (i : Int))) % 36 < 36 := by omega
      obtain ⟨c, ec, ec2⟩ := at_some (l := zGood.cps.toList) hb.1 (by rw [good_len]; exact hb.2)
      refine ⟨rfl, _, rfl, _, rfl, _, rfl, _, _, rfl, rfl, .inl ⟨by decide, by decide⟩, _, rfl, _, _, rfl, rfl, .inr ⟨by omega, by omega⟩, _, _, rfl, rfl, .inl ⟨_, rfl, _, _, rfl, rfl, (show (0 : Int) < 36 by decide), _, _, c, rfl, rfl, sG, ec, _, hD, ?_, g.write hD (fun _ z => by cases z) nD, ys ++ [⟨#[c]⟩], ?_, ?_, ?_⟩⟩
      · rw [List.length_map, hl1, sizeLine_eq]; omega
      · rw [upd_same, List.map_append]; rfl
      · rw [List.length_append, hl1]; rfl
      · intro y hy2
        rcases List.mem_append.mp hy2 with hy2 | hy2
        · exact hy y hy2
        · rw [List.mem_singleton.mp hy2]
          exact ⟨Gd.one (List.mem_of_getElem? ec2), rfl⟩
    · obtain ⟨g, ys, hD, hl1, hy⟩ := p
      have hsum : ∀ ys : List Str, (∀ y ∈ ys, y.length = 1) → (ys.map (·.length)).sum = ys.length := by
        intro ys
        induction ys with
        | nil => intro _; rfl
        | cons y ys ih =>
          intro h
          rw [List.map_cons, List.sum_cons, ih fun z hz => h z (List.mem_cons_of_mem _ hz), h y List.mem_cons_self, List.length_cons]
          omega
      have hs1 := hsum ys fun y h => (hy y h).2
      have e0 : (Str.ofString "").length = 0 := by decide +kernel
      refine ⟨_, D, ys, rfl, rfl, .inl (SqL.of hD), by rw [hs1, e0]; omega, ?_⟩
      have hjl := join_len ys
      have hjg := Gd.join fun y h => (hy y h).1
      rw [hs1] at hjl
      generalize Txt.join (Str.ofString "") ys = rest at hjl hjg ⊢
      have hr10 : rest.length ≤ 10 := by omega
      refine ⟨_, rfl, _, _, rfl, rfl, ⟨by decide, by decide⟩, _, rfl, _, _, rfl, rfl, _, _, rfl, rfl, (show (0 : Int) < n % 11 + 1 by omega), ?_⟩
      have hpl : 0 ≤ n / 11 % (n % 11 + 1) := Int.emod_nonneg _ (by omega)
      refine ⟨Nat.zero_le _, fun p np => ?_⟩
      refine ⟨_, rfl, m, rfl, by omega, by omega, for_range (n := m) (fun i σ H' => ∃ kv ov sv tv, ∃ ns : List Str, σ = [some (.int n), some (.int m), some (.str zGood), some (.int (n % 11)), kv, some (.str rest), some (.int (n / 11 % (n % 11 + 1))), some (.ref p), ov, sv, tv] ∧ Grew P H H' ∧ H' p = some (.lst (ns.map V.str)) ∧ ns.length = i ∧ ns.all isNm = true ∧
          heads ns = (List.range i).map fun (j : Nat) => zGood.cps.toList[((n + 3 * (j : Int)) % 26).toNat]?)
        ⟨none, none, none, none, [], rfl, g.put np, upd_same, rfl, rfl, rfl⟩ ?_ ?_⟩
      · rintro i σ H' hi ⟨kv, ov, sv, tv, ns, rfl, g1, hp, hln, hall, hheads⟩
        refine ⟨_, rfl, ?_⟩
        -- own
        refine ⟨fun σ2 H2 => ∃ own : Str, σ2 = [some (.int n), some (.int m), some (.str zGood), some (.int (n % 11)), some (.int (0 + (i : Int))), some (.str rest), some (.int (n / 11 % (n % 11 + 1))), some (.ref p), some (.str own), sv, tv] ∧ own.length ≤ 10 ∧ Gd own ∧ H2 = H', ?_, ?_⟩
        · refine ⟨_, rfl, _, _, rfl, rfl, ⟨by decide, by decide⟩, _, rfl, _, _, rfl, rfl, .inl ⟨_, rfl, _, _, rfl, rfl, (show (0 : Int) < 3 by decide), rfl, _, rfl, ?_⟩⟩
          refine ite2 (fun _ => ?_) (fun _ => ?_)
          · have hc : (cutS rest (some 1) none).length ≤ 10 := by
              rw [str_len]
              have q : (cutS rest (some 1) none).cps.toList.length ≤ rest.cps.toList.length := by
                unfold cutS
                show ((rest.cps.toList.drop _).take _).toArray.toList.length ≤ _
                rw [List.toList_toArray, List.length_take, List.length_drop]
                omega
              rw [← str_len rest] at q
              omega
            exact ⟨_, rfl, 1, rfl, rest, rfl, by rw [sizeLine_eq]; omega, _, rfl, hc, hjg.cut _ _, rfl⟩
          · exact ⟨rest, rfl, hr10, hjg, rfl⟩
        rintro σ2 H2 ⟨own, rfl, ho10, hog, rfl⟩
        -- spot
        refine ⟨_, rfl, _, rfl, own, rfl, by rw [sizeLine_eq]; omega, _, _, rfl, ?_⟩
        obtain ⟨sp, hsp, hsp2⟩ : ∃ sp : Nat, (if ((own.length : Nat) : Int) < n / 11 % (n % 11 + 1) then ((own.length : Nat) : Int) else n / 11 % (n % 11 + 1)) = (sp : Int) ∧ sp ≤ own.length := by
          by_cases c : ((own.length : Nat) : Int) < n / 11 % (n % 11 + 1)
          · exact ⟨own.length, if_pos c, Nat.le_refl _⟩
          · refine ⟨(n / 11 % (n % 11 + 1)).toNat, ?_, by omega⟩
            rw [if_neg c]
            omega
        rw [hsp]
        -- step
        refine ⟨fun σ2 H3 => ∃ st : Int, σ2 = [some (.int n), some (.int m), some (.str zGood), some (.int (n % 11)), some (.int (0 + (i : Int))), some (.str rest), some (.int (n / 11 % (n % 11 + 1))), some (.ref p), some (.str own), some (.int sp), some (.int st)] ∧ 0 ≤ st ∧ st ≤ 31 ∧ H3 = H2, ?_, ?_⟩
        · refine ⟨_, rfl, _, _, rfl, rfl, ⟨by decide, by decide⟩, _, _, rfl, rfl, (show (0 : Int) < 2 by decide), rfl, _, rfl, ?_⟩
          refine ite2 (fun _ => ?_) (fun _ => ?_)
          · exact ⟨31, rfl, by decide, by decide, rfl⟩
          · exact ⟨5, rfl, by decide, by decide, rfl⟩
        rintro σ2 H3 ⟨st, rfl, hst1, hst2, rfl⟩
        have b1 : 0 ≤ (n + 3 * (0 + (i : Int))) % 26 ∧ (n + 3 * (0 + (i : Int))) % 26 < 26 := by omega
        have b2 : 0 ≤ (n + st * (0 + (i : Int))) % 36 ∧ (n + st * (0 + (i : Int))) % 36 < 36 := by omega
        obtain ⟨c, ec, ec'⟩ := at_some (l := zGood.cps.toList) b1.1 (by rw [good_len]; omega)
        obtain ⟨e, ee, ee'⟩ := at_some (l := zGood.cps.toList) b2.1 (by rw [good_len]; exact b2.2)
        have l1 : (cutS own none (some (sp : Int))).length = sp := by
          rw [str_len, cut_pre hsp2, List.length_take, ← str_len]; omega
        have l2 : (cutS own (some (sp : Int)) none).length = own.length - sp := by
          rw [str_len, cut_suf hsp2, List.length_drop, ← str_len]
        have lo : ∀ c : Nat, (⟨#[c]⟩ : Str).length = 1 := fun _ => rfl
        have s1 : ((⟨#[c]⟩ : Str) ++ cutS own none (some (sp : Int))).length = 1 + sp := by rw [PySem.Str.length_append, l1, lo]
        have s2 : ((⟨#[c]⟩ : Str) ++ cutS own none (some (sp : Int)) ++ (⟨#[e]⟩ : Str)).length = 1 + sp + 1 := by rw [PySem.Str.length_append, s1, lo]
        refine ⟨_, rfl, .inl ⟨rfl, _, SqL.of hp⟩, _, rfl, _, rfl, _, rfl, _, _, rfl, rfl, .inl ⟨by decide, by decide⟩, _, _, rfl, rfl, .inl ⟨_, rfl, _, _, rfl, rfl, (show (0 : Int) < 26 by decide), _, _, c, rfl, rfl, sG, ec, _, rfl, _, rfl, _, rfl, own, rfl, by rw [sizeLine_eq]; omega, _, _, rfl, rfl, by rw [l1, lo, sizeLine_eq]; omega,
          _, rfl, _, rfl, _, rfl, _, rfl, _, _, rfl, rfl, .inl ⟨by omega, by omega⟩, _, _, rfl, rfl, .inl ⟨_, rfl, _, _, rfl, rfl, (show (0 : Int) < 36 by decide), _, _, e, rfl, rfl, sG, ee, _, _, rfl, rfl, by rw [s1, lo, sizeLine_eq]; omega,
          _, rfl, _, rfl, _, rfl, own, rfl, by rw [sizeLine_eq]; omega, _, _, rfl, rfl, by rw [s2, l2, sizeLine_eq]; omega, p, _, _, rfl, rfl, hp, by rw [List.length_map, hln, sizeLine_eq]; omega, ?_⟩⟩⟩
        have hok : isNm (nameOf c own sp e) = true := nameOf_ok hsp2 ho10 hog (good_let c ?_) (List.mem_of_getElem? ee')
        · refine ⟨_, _, _, _, ns ++ [nameOf c own sp e], rfl, g1.write hp (fun _ z => by cases z) (g.free np), ?_, ?_, ?_, ?_⟩
          · rw [upd_same, List.map_append]; rfl
          · rw [List.length_append, hln]; rfl
          · rw [List.all_append, hall, List.all_cons, hok]; rfl
          · unfold heads at hheads ⊢
            rw [List.map_append, hheads, List.range_succ, List.map_append]
            congr 1
            show [(nameOf c own sp e).cps.toList.head?] = [_]
            rw [nameOf_cps hsp2]
            have ez : (0 : Int) + (i : Int) = (i : Int) := by omega
            rw [ez] at ec'
            exact congrArg (fun z => [z]) ec'.symm
        · exact List.mem_of_getElem? (i := ((n + 3 * (0 + (i : Int))) % 26).toNat) (by rw [List.getElem?_take_of_lt (by omega)]; exact ec')
      · rintro σ H' ⟨kv, ov, sv, tv, ns, rfl, g1, hp, hln, hall, hheads⟩
        refine ⟨_, rfl, k H' p ns g1 (g.free np) hp hln hall ?_⟩
        have nd : (heads ns).Nodup := by
          rw [hheads]
          exact heads_nodup n hm9
        exact List.Pairwise.of_map _ (fun a b hne e => hne (congrArg (fun z : Str => z.cps.toList.head?) e)) nd
end
end W

set_option Elab.async false
set_option linter.all false
set_option maxRecDepth 100000
set_option maxHeartbeats 400000
namespace W
open PySem PySem.Spec PyProof.Rows L2 GxR MyG MyS
theorem at_num {ns : List Int} (hs : Sm ns) {i : Int} (h0 : 0 ≤ i) (h1 : i < ns.length) : ∃ n, atI (ns.map V.int) i = some (.int n) ∧ 0 ≤ n ∧ n < 1009 := by
  obtain ⟨k, rfl⟩ := Int.eq_ofNat_of_zero_le h0
  have hn : k < ns.length := by omega
  refine ⟨ns[k], atI_nat (by rw [List.getElem?_map, List.getElem?_eq_getElem hn]; rfl), hs _ (List.getElem_mem hn)⟩
def lastP (c : Int) (ps : List (Int × Int)) : Int := (ps.getLast?.map (·.2)).getD c
theorem hoursOk_snoc {d : Int} {q : Int × Int} : ∀ {ps : List (Int × Int)} {c : Int}, hoursOk d c ps → lastP c ps < q.1 → q.1 < q.2 → q.2 ≤ d → hoursOk d c (ps ++ [q])
  | [], _, _, h1, h2, h3 => ⟨h1, h2, h3, True.intro⟩
  | p :: ps, c, h, h1, h2, h3 => by
    refine ⟨h.1, h.2.1, h.2.2.1, hoursOk_snoc h.2.2.2 ?_ h2 h3⟩
    have e : lastP c (p :: ps) = lastP p.2 ps := by
      unfold lastP
      cases ps with
      | nil => rfl
      | cons a l =>
        rw [List.getLast?_cons_cons]
        cases h : (a :: l).getLast? with
        | none => simp at h
        | some z => rfl
    rw [← e]; exact h1
theorem lastP_snoc (c : Int) (ps : List (Int × Int)) (q : Int × Int) : lastP c (ps ++ [q]) = q.2 := by
  unfold lastP
  rw [List.getLast?_concat]
  rfl
def spLHours (K : PySem.W.Frag) (P : Addr) : Sp := fun vs H Q _ => ∃ (a : Addr) (ns : List Int) (at_ d : Int), vs = [.ref a, .int at_, .int d] ∧ SqL K H a (ns.map V.int) ∧ Sm ns ∧ 0 ≤ at_ ∧ at_ + 4 ≤ ns.length ∧ 1 ≤ d ∧ TabG H P ∧ ∀ H' hs v, Grew P H H' → GHours K H' hs v → HoursOk d hs → Q v H'
section
variable {Pg : Program} {w : World} {K : PySem.W.Frag} {mg : Str → Option Value} {base : Heap} {C P : Addr}
abbrev nLHours : List Str := ["numbers", "at", "day", "hours", "last", "k", "opened", "closed"]
theorem scLHours : FnScope nLHours ["numbers", "at", "day"] (defScope sLHours) := ⟨rfl, rfl, rfl, by decide +kernel, rfl, by decide +kernel, by decide +kernel⟩
theorem ok_lhours {f : Addr} {fd : FuncData} (F : Fun K "_law_hours" "_law_hours" sLHours f fd) (hi : mg "int" = none) (ht : mg "tuple" = none) (hr' : mg "range" = none) : FnOk Pg w K mg base CX0 1 f fd ["numbers", "at", "day"] (spLHours K P) := by
  refine F.ok scLHours (fun vs H Q E h => ?_) (fun cdv A outer s H vs Q E hr h => ?_)
  · obtain ⟨a, ns, at_, d, rfl, _⟩ := h
    rfl
  · obtain ⟨a, ns, at_, d, rfl, hS, hsm, ha0, ha1, hd, hP, k⟩ := h
    refine ⟨_, pss_cons (ps_if (pt_cmpR op_eq (pe_op op_mod (pe_callTy call_int1 (by rfl) hi (by decide +kernel) (pa_cons (pe_ix ix_list (pv 0) (pv 1) (fun _ _ => rfl)) pa_nil)) pe_int) pe_int (nomark _)) (pss_one (ps_ret pe_non)) pss_nil)
      (pss_cons (ps_set (i := 3) scLHours.nd rfl (Or.inl rfl) (pe_lst pa_nil))
      (pss_cons (ps_set (i := 4) scLHours.nd rfl (Or.inl rfl) (pe_un un_neg pe_int))
      (pss_cons (ps_for PassesOwn.never rfl (pi_range1 rfl hr' (pa_cons (pe_op op_mod (pe_callTy call_int1 (by rfl) hi (by decide +kernel) (pa_cons (pe_ix ix_list (pv 0) (pv 1) (fun _ _ => rfl)) pa_nil)) pe_int) pa_nil)) (pg_name (i := 5) scLHours.nd rfl (Or.inl rfl))
        (pss_cons (ps_set (i := 6) scLHours.nd rfl (Or.inl rfl) (pe_op op_add (pe_op op_add (pv 4) pe_int) (pe_op op_mod (pe_callTy call_int1 (by rfl) hi (by decide +kernel) (pa_cons (pe_ix ix_list (pv 0) (pe_op op_add (pe_op op_add (pv 1) pe_int) (pv 5)) (fun _ _ => rfl)) pa_nil)) pe_int)))
        (pss_cons (ps_set (i := 7) scLHours.nd rfl (Or.inl rfl) (pe_op op_add (pe_op op_add (pv 6) pe_int) (pe_op op_mod (pe_op op_fdiv (pe_ix ix_list (pv 0) (pe_op op_add (pe_op op_add (pv 1) pe_int) (pv 5)) (fun _ _ => rfl)) pe_int) pe_int)))
        (pss_one (ps_if (pt_cmpR op_le (pv 7) (pv 2) (nomark _))
          (pss_cons (ps_expr (pe_bm PySem.F.plainAttrs_list PySem.F.slot_list_append PySem.F.type_list_append mt_append (pv 3) (pa_cons (pe_tup (pa_cons (pv 6) (pa_cons (pv 7) pa_nil))) pa_nil)))
          (pss_one (ps_set (i := 4) scLHours.nd rfl (Or.inl rfl) (pv 7)))) pss_nil)))))
      (pss_one (ps_ret (pe_callTy call_tuple_of (by rfl) ht (by decide +kernel) (pa_cons (pv 3) pa_nil))))))), ?_⟩
    obtain ⟨n0, e0, l0, u0⟩ := at_num hsm (i := at_) ha0 (by omega)
    refine ⟨_, rfl, _, rfl, a, _, _, _, rfl, rfl, hS, e0, .inl ⟨_, rfl, _, _, rfl, rfl, (show (0 : Int) < 3 by decide), rfl, _, rfl, ?_⟩⟩
    refine ite2 (fun _ => k H none .non (Grew.refl hP) rfl True.intro) (fun _ => ?_)
    refine ⟨Nat.zero_le _, fun p np => ⟨1, rfl, ?_⟩⟩
    have g1 := Grew.new hP (o := .lst []) np
    refine ⟨_, rfl, _, rfl, a, _, _, _, rfl, rfl, g1.sqL hP hS, e0, .inl ⟨_, rfl, _, _, rfl, rfl, (show (0 : Int) < 4 by decide), n0 % 4, rfl, by omega, by omega,
      for_range (n := (n0 % 4).toNat) (fun i σ H' => ∃ kv ov cv, ∃ (ps : List (Int × Int)) (xs : List V), σ = [some (.ref a), some (.int at_), some (.int d), some (.ref p), some (.int (lastP (-1) ps)), kv, ov, cv] ∧ Grew P H H' ∧ H' p = some (.lst xs) ∧ Paired (GPair K H') ps xs ∧ ps.length ≤ i ∧ hoursOk d (-1) ps)
        ⟨none, none, none, [], [], rfl, g1, upd_same, .nil, Nat.le_refl _, True.intro⟩ ?_ ?_⟩⟩
    · rintro i σ H' hi ⟨kv, ov, cv, ps, xs, rfl, g, hp, hps, hln, hok⟩
      have hi3 : i < 3 := by omega
      obtain ⟨n2, e2, l2, u2⟩ := at_num hsm (i := at_ + 1 + (0 + (i : Int))) (by omega) (by omega)
      have hS2 := g.sqL hP hS
      refine ⟨_, rfl, _, _, rfl, rfl, _, rfl, _, rfl, _, _, rfl, rfl, _, rfl, _, _, rfl, rfl, a, _, _, _, rfl, rfl, hS2, e2, .inl ⟨_, rfl, _, _, rfl, rfl, (show (0 : Int) < 4 by decide), _, _, rfl, rfl, ?_⟩⟩
      refine ⟨_, rfl, _, _, rfl, rfl, _, rfl, _, rfl, _, _, rfl, rfl, _, rfl, _, _, rfl, rfl, a, _, _, _, rfl, rfl, hS2, e2, _, _, rfl, rfl, ⟨by decide, by decide⟩, _, _, rfl, rfl, (show (0 : Int) < 6 by decide), _, _, rfl, rfl, ?_⟩
      have r1 : 0 ≤ n2 % 4 := Int.emod_nonneg _ (by omega)
      have r2 : 0 ≤ n2 / 4 % 6 := Int.emod_nonneg _ (by omega)
      refine ⟨_, rfl, _, rfl, _, _, rfl, rfl, _, rfl, ?_⟩
      refine ite2 (fun hle => ?_) (fun _ => ⟨_, _, _, ps, xs, rfl, g, hp, hps, by omega, hok⟩)
      have hle' := of_decide_eq_true hle
      refine ⟨_, rfl, .inl ⟨rfl, _, SqL.of hp⟩, _, rfl, _, rfl, by show 2 ≤ sizeLine; decide, fun q hq => ?_⟩
      have gq := g.put (o := .tup [.int (lastP (-1) ps + 1 + n2 % 4), .int (lastP (-1) ps + 1 + n2 % 4 + 1 + n2 / 4 % 6)]) hq
      have hpq := (Grew.new g.tab (o := .tup [.int (lastP (-1) ps + 1 + n2 % 4), .int (lastP (-1) ps + 1 + n2 % 4 + 1 + n2 / 4 % 6)]) hq).lst g.tab hp
      have lx := Paired.len hps
      have kt := KeepT.trans (KeepT.new (K := K) (o := .tup [.int (lastP (-1) ps + 1 + n2 % 4), .int (lastP (-1) ps + 1 + n2 % 4 + 1 + n2 / 4 % 6)]) hq) (KeepT.lst (o := .lst (xs ++ [.ref q])) hpq)
      refine ⟨p, _, _, rfl, rfl, hpq, by rw [sizeLine_eq]; omega, _, rfl, some (.int (0 + (i : Int))), some (.int (lastP (-1) ps + 1 + n2 % 4)), some (.int (lastP (-1) ps + 1 + n2 % 4 + 1 + n2 / 4 % 6)), ps ++ [(lastP (-1) ps + 1 + n2 % 4, lastP (-1) ps + 1 + n2 % 4 + 1 + n2 / 4 % 6)], xs ++ [.ref q], ?_, gq.write hpq (fun _ z => by cases z) np, upd_same, ?_, ?_, ?_⟩
      · rw [lastP_snoc]; rfl
      · refine Paired.snoc (Paired.map' hps fun _ _ m => m.keep kt) ⟨q, rfl, ?_⟩
        exact (KeepT.lst (K := K) (o := .lst (xs ++ [.ref q])) hpq) _ _ (SqT.of upd_same)
      · rw [List.length_append, List.length_singleton]; omega
      · exact hoursOk_snoc hok (by show lastP (-1) ps < lastP (-1) ps + 1 + n2 % 4; omega) (by show lastP (-1) ps + 1 + n2 % 4 < lastP (-1) ps + 1 + n2 % 4 + 1 + n2 / 4 % 6; omega) hle'
    · rintro σ H' ⟨kv, ov, cv, ps, xs, rfl, g, hp, hps, hln, hok⟩
      refine ⟨_, rfl, p, _, rfl, .inl ⟨SqL.of hp, fun q nq => ?_⟩⟩
      exact k _ (some ps) _ (g.put nq) ⟨q, xs, rfl, SqT.of upd_same, Paired.map' hps fun _ _ m => m.keep (KeepT.new nq)⟩ ⟨by omega, hok⟩
end
end W

set_option Elab.async false
set_option linter.all false
set_option maxRecDepth 100000
set_option maxHeartbeats 1000000
namespace W
open PySem PySem.Spec PyProof.Rows L2 GxR MyG MyS
/-! ### _law_road (parts of tuples) -/
theorem at_str {ns : List Str} {i : Int} (h0 : 0 ≤ i) (h1 : i < ns.length) : ∃ z, atI (ns.map V.str) i = some (.str z) ∧ ns[i.toNat]? = some z ∧ z ∈ ns := by
  obtain ⟨k, rfl⟩ := Int.eq_ofNat_of_zero_le h0
  have hn : k < ns.length := by omega
  exact ⟨ns[k], atI_nat (by rw [List.getElem?_map, List.getElem?_eq_getElem hn]; rfl), by rw [Int.toNat_natCast]; exact List.getElem?_eq_getElem hn, List.getElem_mem hn⟩
def spLRoadG (K : PySem.W.Frag) (P : Addr) : Sp := fun vs H Q _ => ∃ (a ki pl : Addr) (ns : List Int) (at_ d : Int) (z : Str) (ks ps : List Str), vs = [.ref a, .int at_, .str z, .int d, .ref ki, .ref pl] ∧ SqL K H a (ns.map V.int) ∧ Sm ns ∧ 0 ≤ at_ ∧ at_ + 9 ≤ ns.length ∧ 1 ≤ d ∧ H ki = some (.tup (ks.map V.str)) ∧ H pl = some (.tup (ps.map V.str)) ∧ 1 ≤ ps.length ∧ ks.length ≤ 4 ∧ ks.Nodup ∧ TabG H P ∧
  ∀ H' r t, Grew P H H' → H t = none → RoadAt K H' r (.ref t) → r.name = z → RoadOk d ps ks r → r.users.Sublist ks → Q (.ref t) H'
theorem of9 (j : Int) (h0 : 0 ≤ j) (h3 : j < 3) : ∃ c : Int, atI [V.int 9, V.int 9, V.int 40] j = some (.int c) ∧ 0 < c ∧ c ≤ 40 := by
  have : j = 0 ∨ j = 1 ∨ j = 2 := by omega
  rcases this with rfl | rfl | rfl <;> exact ⟨_, rfl, by decide, by decide⟩
section
variable {Pg : Program} {w : World} {K : PySem.W.Frag} {mg : Str → Option Value} {base : Heap} {C P : Addr}
abbrev nRoadG : List Str := ["numbers", "at", "name", "day", "kinds", "places", "start", "end", "minutes", "used", "k"]
theorem scRoadG : FnScope nRoadG ["numbers", "at", "name", "day", "kinds", "places"] (defScope sLRoadG) := ⟨rfl, rfl, rfl, by decide +kernel, rfl, by decide +kernel, by decide +kernel⟩
theorem ok_lroadG {f fH : Addr} {fd fdH : FuncData} (F : Fun K "_law_road" "_law_road" sLRoadG f fd) (hi : mg "int" = none) (hl : mg "len" = none) (ht : mg "tuple" = none) (hr' : mg "range" = none)
    (GH : FnOk Pg w K mg base CX0 1 fH fdH ["numbers", "at", "day"] (spLHours K P)) (gH : mg "_law_hours" = some (.ref fH)) (kH : PySem.W.keepIn K (.ref fH) = true) (bH : Binds K fdH ["numbers", "at", "day"] []) :
    FnOk Pg w K mg base CX0 2 f fd ["numbers", "at", "name", "day", "kinds", "places"] (spLRoadG K P) := by
  refine F.ok scRoadG (fun vs H Q E h => ?_) (fun cdv A outer s H vs Q E hr h => ?_)
  · obtain ⟨a, ki, pl, ns, at_, d, z, ks, ps, rfl, _⟩ := h
    rfl
  · obtain ⟨a, ki, pl, ns, at_, d, z, ks, ps, rfl, hS, hsm, ha0, ha1, hd, hki, hpl, lp, lk, ndk, hP, k⟩ := h
    refine ⟨_, pss_cons (ps_set (i := 6) scRoadG.nd rfl (Or.inl rfl) (pe_ix ix_tup (pv 5) (pe_op op_mod (pe_callTy call_int1 (by rfl) hi (by decide +kernel) (pa_cons (pe_ix ix_list (pv 0) (pv 1) (fun _ _ => rfl)) pa_nil)) (pe_callB call_len_seq (by rfl) hl PySem.boot_len (pa_cons (pv 5) pa_nil))) (fun _ _ => rfl)))
      (pss_cons (ps_set (i := 7) scRoadG.nd rfl (Or.inl rfl) (pe_ix ix_tup (pv 5) (pe_op op_mod (pe_callTy call_int1 (by rfl) hi (by decide +kernel) (pa_cons (pe_ix ix_list (pv 0) (pe_op op_add (pv 1) pe_int) (fun _ _ => rfl)) pa_nil)) (pe_callB call_len_seq (by rfl) hl PySem.boot_len (pa_cons (pv 5) pa_nil))) (fun _ _ => rfl)))
      (pss_cons (ps_set (i := 8) scRoadG.nd rfl (Or.inl rfl) (pe_op op_add pe_int (pe_op op_mod (pe_callTy call_int1 (by rfl) hi (by decide +kernel) (pa_cons (pe_ix ix_list (pv 0) (pe_op op_add (pv 1) pe_int) (fun _ _ => rfl)) pa_nil)) (pe_ix ix_tup (pe_tup (pa_cons pe_int (pa_cons pe_int (pa_cons pe_int pa_nil)))) (pe_op op_mod (pe_callTy call_int1 (by rfl) hi (by decide +kernel) (pa_cons (pe_ix ix_list (pv 0) (pe_op op_add (pv 1) pe_int) (fun _ _ => rfl)) pa_nil)) pe_int) (fun _ _ => rfl)))))
      (C8.pss_cut (ps_set (i := 9) scRoadG.nd rfl (Or.inl rfl) (pe_callTy call_tuple_of (by rfl) ht (by decide +kernel) (pa_cons (pe_lc (own := [("k", 10)]) (g := gName 10) rfl scRoadG.nd (pi_range1 rfl hr' (pa_cons (pe_callB call_len_seq (by rfl) hl PySem.boot_len (pa_cons (pv 4) pa_nil)) pa_nil)) (blkOk_by (N := nRoadG) (sc := defScope sLRoadG) (by decide +kernel)) (fun _ _ _ _ _ => pg_name (i := 10) scRoadG.nd rfl (Or.inl rfl))
          (fun _ _ _ _ _ => pts_one (pt_cmpR op_gt (pe_op op_mod (pe_callTy (r := rInt1) call_int1 (by rfl) hi (by decide +kernel) (pa_cons (pe_op op_add (pe_ix (r := rIxL K) ix_list (pv 0) (pe_op op_add (pv 1) pe_int) (fun _ _ => rfl)) (pv 10)) pa_nil)) pe_int) pe_int (nomark _))) (fun _ _ _ _ _ => pe_ix (r := rIxT K) ix_tup (pv 4) (pv 10) (fun _ _ => rfl))) pa_nil)))
      (pss_one (ps_ret (pe_tup (pa_cons (pv 2) (pa_cons (pv 6) (pa_cons (pv 7) (pa_cons (pv 8) (pa_cons (pv 9) (pa_cons (pe_call GH hr (by rfl) gH kH bH .nil pass0 (pa_cons (pv 0) (pa_cons (pe_op op_add (pv 1) pe_int) (pa_cons (pv 3) pa_nil)))) pa_nil)))))))))))), ?_⟩
    obtain ⟨n0, e0, l0, u0⟩ := at_num hsm (i := at_) ha0 (by omega)
    obtain ⟨n1, e1, l1, u1⟩ := at_num hsm (i := at_ + 1) (by omega) (by omega)
    obtain ⟨n2, e2, l2, u2⟩ := at_num hsm (i := at_ + 2) (by omega) (by omega)
    obtain ⟨n3, e3, l3, u3⟩ := at_num hsm (i := at_ + 3) (by omega) (by omega)
    obtain ⟨n4, e4, l4, u4⟩ := at_num hsm (i := at_ + 4) (by omega) (by omega)
    have cp : (0 : Int) < (((ps.map V.str).length : Nat) : Int) := by rw [List.length_map]; omega
    obtain ⟨s0, es, _, hs'⟩ := at_str (ns := ps) (i := n0 % ((ps.map V.str).length : Nat)) (Int.emod_nonneg _ (by omega)) (by have := Int.emod_lt_of_pos n0 cp; rw [List.length_map] at *; exact this)
    obtain ⟨s1, et, _, hg⟩ := at_str (ns := ps) (i := n1 % ((ps.map V.str).length : Nat)) (Int.emod_nonneg _ (by omega)) (by have := Int.emod_lt_of_pos n1 cp; rw [List.length_map] at *; exact this)
    obtain ⟨c, ec, hc0, hc40⟩ := of9 (n3 % 3) (Int.emod_nonneg _ (by decide)) (Int.emod_lt_of_pos _ (by decide))
    -- start, end
    refine ⟨_, rfl, _, rfl, _, rfl, a, _, _, _, rfl, rfl, hS, e0, .inl ⟨_, rfl, _, rfl, pl, _, rfl, .inr (SqT.of hpl), _, _, rfl, rfl, cp, pl, _, _, _, rfl, rfl, SqT.of hpl, es, ?_⟩⟩
    refine ⟨_, rfl, _, rfl, _, rfl, _, _, rfl, rfl, a, _, _, _, rfl, rfl, hS, e1, .inl ⟨_, rfl, _, rfl, pl, _, rfl, .inr (SqT.of hpl), _, _, rfl, rfl, cp, pl, _, _, _, rfl, rfl, SqT.of hpl, et, ?_⟩⟩
    -- minutes
    refine ⟨_, rfl, _, rfl, _, _, rfl, rfl, a, _, _, _, rfl, rfl, hS, e2, .inl ⟨_, rfl, by show 3 ≤ sizeLine; decide, fun T3 nT3 => ?_⟩⟩
    have g3 := Grew.new hP (o := .tup [V.int 9, V.int 9, V.int 40]) nT3
    have hT3 : (L2.upd H T3 (.tup [V.int 9, V.int 9, V.int 40])) T3 = some (.tup [V.int 9, V.int 9, V.int 40]) := upd_same
    generalize L2.upd H T3 (.tup [V.int 9, V.int 9, V.int 40]) = H1 at g3 hT3
    refine ⟨_, rfl, _, rfl, _, _, rfl, rfl, a, _, _, _, rfl, rfl, g3.sqL hP hS, e3, .inl ⟨_, rfl, _, _, rfl, rfl, (show (0 : Int) < 3 by decide), T3, _, _, _, rfl, rfl, SqT.of hT3, ec, _, _, rfl, rfl, hc0, _, _, rfl, rfl, ?_⟩⟩
    have b0 : 0 ≤ n2 % c := Int.emod_nonneg _ (by omega)
    have b1 : n2 % c < c := Int.emod_lt_of_pos _ hc0
    have hki1 := g3.tup hP hki
    have hS1 := g3.sqL hP hS
    -- used
    refine ⟨fun σ H' => ∃ (u : Addr) (us : List Str), σ = [some (.ref a), some (.int at_), some (.str z), some (.int d), some (.ref ki), some (.ref pl), some (.str s0), some (.str s1), some (.int (1 + n2 % c)), some (.ref u), none] ∧ Grew P H1 H' ∧ H' u = some (.tup (us.map V.str)) ∧ us.Sublist ks, ?_, ?_⟩
    · refine ⟨_, rfl, ki, _, rfl, .inr (SqT.of hki1), _, rfl, by rw [List.length_map]; omega, by rw [List.length_map]; omega, fun D nD => lc_range (n := (((ks.map V.str).length : Nat) : Int).toNat) (fun i H' => Grew P H1 H' ∧ ∃ us : List Str, H' D = some (.lst (us.map V.str)) ∧ us.Sublist (ks.take i))
        ⟨Grew.new g3.tab nD, [], upd_same, List.nil_sublist _⟩ (fun i H2 hi p => ?_) (fun H2 p => ?_)⟩
      · obtain ⟨g, us, hD, hsub⟩ := p
        have hi2 : i < ks.length := by rw [List.length_map] at hi; omega
        have lu : us.length ≤ 4 := Nat.le_trans hsub.length_le (by rw [List.length_take]; omega)
        have tk : ks.take (i + 1) = ks.take i ++ [ks[i]] := by rw [List.take_succ, List.getElem?_eq_getElem hi2]; rfl
        have ek : atI (ks.map V.str) (0 + (i : Int)) = some (.str ks[i]) := by
          rw [Int.zero_add]
          exact atI_nat (by rw [List.getElem?_map, List.getElem?_eq_getElem hi2]; rfl)
        refine ⟨rfl, _, rfl, _, rfl, _, _, rfl, rfl, a, _, _, _, rfl, rfl, g.sqL g3.tab hS1, e4, _, rfl, _, _, rfl, rfl, .inl ⟨_, rfl, _, _, rfl, rfl, (show (0 : Int) < 4 by decide), _, _, rfl, rfl, _, rfl, ?_⟩⟩
        refine ite2 (fun _ => ?_) (fun _ => ⟨g, us, hD, hsub.trans (by rw [tk]; exact List.sublist_append_left _ _)⟩)
        refine ⟨_, rfl, _, rfl, ki, _, _, _, rfl, rfl, SqT.of (g.tup g3.tab hki1), ek, _, hD, by rw [List.length_map, sizeLine_eq]; omega, g.write hD (fun _ z => by cases z) nD, us ++ [ks[i]], ?_, ?_⟩
        · rw [upd_same, List.map_append]; rfl
        · rw [tk]; exact hsub.append (List.Sublist.refl _)
      · obtain ⟨g, us, hD, hsub⟩ := p
        refine ⟨D, _, rfl, .inl ⟨SqL.of hD, fun u nu => ⟨u, us, rfl, g.trans (Grew.new g.tab nu), upd_same, hsub.trans (List.take_sublist _ _)⟩⟩⟩
    rintro σ H2 ⟨u, us, rfl, g2, hu, hsub⟩
    have g02 := g3.trans g2
    refine ⟨_, rfl, _, rfl, _, rfl, _, rfl, _, rfl, _, rfl, _, rfl, _, _, rfl, rfl, _, rfl, a, ns, at_ + 5, d, rfl, g02.sqL hP hS, hsm, by omega, by omega, hd, g02.tab, fun H3 hs v g4 hv hho => ?_⟩
    have g03 := g02.trans g4
    have hu3 := g4.tup g02.tab hu
    refine ⟨by show 6 ≤ sizeLine; decide, fun t nt => ?_⟩
    refine k _ ⟨z, s0, s1, 1 + n2 % c, us, hs⟩ t (g03.trans (Grew.new g03.tab nt)) (g03.free nt) ⟨t, u, v, rfl, upd_same, (Grew.new g03.tab nt).tup g03.tab hu3, hv.keep (KeepT.new nt)⟩ rfl ?_ hsub
    exact ⟨hs', hg, by show 1 ≤ 1 + n2 % c; omega, by show 1 + n2 % c ≤ 1000; omega, fun y hy => hsub.subset hy, Nat.le_trans hsub.length_le lk, ndk.sublist hsub, hho⟩
end
end W

set_option Elab.async false
set_option linter.all false
set_option maxRecDepth 100000
set_option maxHeartbeats 1000000
namespace W
open PySem PySem.Spec PyProof.Rows L2 GxR MyG MyS
/-! ### _law_bars (parts of tuples) -/
theorem RoadAt.keepT {K : PySem.W.Frag} {P : Addr} {H H' : Hp} {r : RoadD} {v : V} (m : RoadAt K H r v) (h : TabG H P) (g : Grew P H H') : RoadAt K H' r v := m.grew g h
/-- the pairs of roads that meet -/
def meetL (rs : List RoadD) (one : RoadD) : List (Str × Str) := (rs.filter fun o => decide (one.goal = o.start)).map fun o => (one.name, o.name)
theorem meetL_len (rs : List RoadD) (one : RoadD) : (meetL rs one).length ≤ rs.length := by
  unfold meetL
  rw [List.length_map]
  exact List.length_filter_le _ _
def pairL (rs l : List RoadD) : List (Str × Str) := l.flatMap (meetL rs)
theorem pairL_len (rs : List RoadD) : ∀ l : List RoadD, (pairL rs l).length ≤ l.length * rs.length
  | [] => Nat.zero_le _
  | a :: l => by
    have h := pairL_len rs l
    have h2 := meetL_len rs a
    show (meetL rs a ++ pairL rs l).length ≤ _
    rw [List.length_append, List.length_cons, Nat.succ_mul]
    omega
theorem meetL_mem {rs : List RoadD} {one : RoadD} {b : Str × Str} (h : b ∈ meetL rs one) : b.1 = one.name ∧ ∃ o ∈ rs, b.2 = o.name ∧ one.goal = o.start := by
  obtain ⟨o, ho, rfl⟩ := List.mem_map.mp h
  obtain ⟨h1, h2⟩ := List.mem_filter.mp ho
  exact ⟨rfl, o, h1, rfl, of_decide_eq_true h2⟩
theorem pairL_ok {rs l : List RoadD} {b : Str × Str} (h : b ∈ pairL rs l) : ∃ r1 ∈ l, ∃ r2 ∈ rs, b.1 = r1.name ∧ b.2 = r2.name ∧ r1.goal = r2.start := by
  obtain ⟨one, h1, h2⟩ := List.mem_flatMap.mp h
  obtain ⟨e, o, ho, e2, e3⟩ := meetL_mem h2
  exact ⟨one, h1, o, ho, e, e2, e3⟩
theorem pairL_nd {rs : List RoadD} (nd : (rs.map (·.name)).Nodup) : ∀ {l : List RoadD}, (l.map (·.name)).Nodup → (pairL rs l).Nodup
  | [], _ => List.nodup_nil
  | a :: l, h => by
    obtain ⟨h1, h2⟩ := List.nodup_cons.mp h
    refine List.nodup_append.mpr ⟨?_, pairL_nd nd h2, fun b hb c hc e => ?_⟩
    · unfold meetL
      have s : ((rs.filter fun o => decide (a.goal = o.start)).map (·.name)).Nodup := nd.sublist (List.Sublist.map _ List.filter_sublist)
      refine List.pairwise_map.mpr ((List.pairwise_map.mp s).imp fun {x y} n e => n (congrArg Prod.snd e))
    · subst e
      obtain ⟨r1, m, r2, _, e1, _⟩ := pairL_ok hc
      exact h1 (List.mem_map.mpr ⟨r1, m, by rw [← e1]; exact (meetL_mem hb).1⟩)
theorem paired_app {α β : Type} {F : α → β → Prop} : ∀ {l l2 : List α} {m m2 : List β}, Paired F l m → Paired F l2 m2 → Paired F (l ++ l2) (m ++ m2)
  | _, _, _, _, .nil, h => h
  | _, _, _, _, .cons a r, h => .cons a (paired_app r h)
def spLBarsG (K : PySem.W.Frag) (P : Addr) : Sp := fun vs H Q _ => ∃ (a ro : Addr) (ns : List Int) (at_ : Int) (rs : List RoadD) (xs : List V), vs = [.ref a, .int at_, .ref ro] ∧ SqL K H a (ns.map V.int) ∧ Sm ns ∧ 0 ≤ at_ ∧ at_ + 7 ≤ ns.length ∧ H ro = some (.tup xs) ∧ Paired (RoadAt K H) rs xs ∧ rs.length ≤ 12 ∧ (rs.map (·.name)).Nodup ∧ TabG H P ∧
  ∀ H' p bs ys, Grew P H H' → H p = none → H' p = some (.tup ys) → Paired (GBar H') bs ys → AscB bs → BarsOk rs bs → Q (.ref p) H'
section
variable {Pg : Program} {w : World} {K : PySem.W.Frag} {mg : Str → Option Value} {base : Heap} {C P : Addr}
abbrev nBarsG : List Str := ["numbers", "at", "roads", "pairs", "one", "other", "chosen", "k"]
theorem scBarsG : FnScope nBarsG ["numbers", "at", "roads"] (defScope sLBarsG) := ⟨rfl, rfl, rfl, by decide +kernel, rfl, by decide +kernel, by decide +kernel⟩
theorem ok_lbarsG {f : Addr} {fd : FuncData} (F : Fun K "_law_bars" "_law_bars" sLBarsG f fd) (hi : mg "int" = none) (hl : mg "len" = none) (ht : mg "tuple" = none) (hr' : mg "range" = none) (hs : mg "sorted" = none) :
    FnOk Pg w K mg base CX0 1 f fd ["numbers", "at", "roads"] (spLBarsG K P) := by
  refine F.ok scBarsG (fun vs H Q E h => ?_) (fun cdv A outer s H vs Q E hr h => ?_)
  · obtain ⟨a, ro, ns, at_, rs, xs, rfl, _⟩ := h
    rfl
  · obtain ⟨a, ro, ns, at_, rs, xs, rfl, hS, hsm, ha0, ha1, hro, hrs, lr, nd, hP, k⟩ := h
    refine ⟨_, pss_cons (ps_set (i := 3) scBarsG.nd rfl (Or.inl rfl) (pe_lst pa_nil))
      (C8.pss_cut (ps_for PassesOwn.never rfl (pi_tup (pv 2)) (pg_name (i := 4) scBarsG.nd rfl (Or.inl rfl))
        (pss_one (ps_for PassesOwn.never rfl (pi_tup (pv 2)) (pg_name (i := 5) scBarsG.nd rfl (Or.inl rfl))
          (pss_one (ps_if (pt_cmpR op_eq (pe_ix (r := rIxT K) ix_tup (pv 4) pe_int (fun _ _ => rfl)) (pe_ix (r := rIxT K) ix_tup (pv 5) pe_int (fun _ _ => rfl)) (nomark _))
            (pss_one (ps_expr (pe_bm PySem.F.plainAttrs_list PySem.F.slot_list_append PySem.F.type_list_append mt_append (pv 3) (pa_cons (pe_tup (pa_cons (pe_ix (r := rIxT K) ix_tup (pv 4) pe_int (fun _ _ => rfl)) (pa_cons (pe_ix (r := rIxT K) ix_tup (pv 5) pe_int (fun _ _ => rfl)) pa_nil))) pa_nil)))) pss_nil)))))
      (pss_cons (ps_set (i := 6) scBarsG.nd rfl (Or.inl rfl) (pe_lst pa_nil))
      (C8.pss_cut (ps_for PassesOwn.never rfl (pi_range1 rfl hr' (pa_cons (pe_callB call_len_seq (by rfl) hl PySem.boot_len (pa_cons (pv 3) pa_nil)) pa_nil)) (pg_name (i := 7) scBarsG.nd rfl (Or.inl rfl))
        (pss_one (ps_if (PW.pt (pw_and (pt_cmpR op_eq (pe_op op_mod (pe_callTy call_int1 (by rfl) hi (by decide +kernel) (pa_cons (pe_op op_add (pe_ix ix_list (pv 0) (pe_op op_add (pv 1) (pe_op op_mod (pv 7) pe_int)) (fun _ _ => rfl)) (pe_op op_mul pe_int (pv 7))) pa_nil)) pe_int) pe_int (nomark _)) (pw_and1 (pt_cmpR op_lt (pe_callB call_len_seq (by rfl) hl PySem.boot_len (pa_cons (pv 6) pa_nil)) pe_int (nomark _)))))
          (pss_one (ps_expr (pe_bm PySem.F.plainAttrs_list PySem.F.slot_list_append PySem.F.type_list_append mt_append (pv 6) (pa_cons (pe_ix ix_list (pv 3) (pv 7) (fun _ _ => rfl)) pa_nil)))) pss_nil)))
      (pss_one (ps_ret (pe_callTy call_tuple_of (by rfl) ht (by decide +kernel) (pa_cons (pe_callB cr_sortB (by rfl) hs (by decide +kernel) (pa_cons (pv 6) pa_nil)) pa_nil))))))), ?_⟩
    have lx := Paired.len hrs
    refine ⟨Nat.zero_le _, fun p0 np0 => ?_⟩
    have g0 := Grew.new hP (o := .lst []) np0
    have hp0 : (L2.upd H p0 (.lst [])) p0 = some (.lst []) := upd_same
    generalize L2.upd H p0 (.lst []) = H0 at g0 hp0
    -- pairs
    refine ⟨fun σ H' => ∃ (q : Addr) (v4 v5 : Option V) (ys : List V), σ = [some (.ref a), some (.int at_), some (.ref ro), some (.ref q), v4, v5, none, none] ∧ Grew P H H' ∧ H' q = some (.lst ys) ∧ Paired (GBar H') (pairL rs rs) ys, ?_, ?_⟩
    · refine ⟨_, rfl, ro, rfl, ⟨_, SqT.of (g0.tup hP hro)⟩, for_tup (K := K) (a := ro) (xs := xs) (fun i σ H' => ∃ (v4 v5 : Option V) (ys : List V), σ = [some (.ref a), some (.int at_), some (.ref ro), some (.ref p0), v4, v5, none, none] ∧ Grew P H H' ∧ H' p0 = some (.lst ys) ∧ Paired (GBar H') (pairL rs (rs.take i)) ys)
        ⟨none, none, [], rfl, g0, hp0, .nil⟩ (fun i σ H' _ ⟨_, _, _, _, g, _⟩ => SqT.of (g.tup hP hro)) ?_ ?_⟩
      · rintro i v σ H1 hv ⟨v4, v5, ys, rfl, g1, hq, hys⟩
        obtain ⟨one, hone, hr1⟩ := Paired.at hrs hv
        have hr1' := hr1.grew g1 hP
        obtain ⟨t1, u1, h1, rfl, e1, _, _⟩ := hr1'
        have hil := (List.getElem?_eq_some_iff.mp hone).1
        have lp := pairL_len rs (rs.take i)
        rw [List.length_take] at lp
        have b1 : (pairL rs (rs.take i)).length ≤ 12 * 12 := Nat.le_trans lp (Nat.mul_le_mul (by omega) lr)
        refine ⟨_, rfl, ro, rfl, ⟨_, SqT.of (g1.tup hP hro)⟩, for_tup (K := K) (a := ro) (xs := xs) (fun j σ H' => ∃ (v5 : Option V) (ys : List V), σ = [some (.ref a), some (.int at_), some (.ref ro), some (.ref p0), some (.ref t1), v5, none, none] ∧ Grew P H H' ∧ H' t1 = some (.tup [.str one.name, .str one.start, .str one.goal, .int one.minutes, .ref u1, h1]) ∧ H' p0 = some (.lst ys) ∧ Paired (GBar H') (pairL rs (rs.take i) ++ meetL (rs.take j) one) ys)
          ⟨v5, ys, rfl, g1, e1, hq, by rw [List.take_zero, show meetL [] one = [] from rfl, List.append_nil]; exact hys⟩ (fun j σ H' _ ⟨_, _, _, g, _⟩ => SqT.of (g.tup hP hro)) ?_ ?_⟩
        · rintro j v σ H2 hj ⟨v5, ys, rfl, g2, e12, hq, hacc⟩
          obtain ⟨o, ho, hr2⟩ := Paired.at hrs hj
          have hr2' := hr2.grew g2 hP
          obtain ⟨t2, u2, h2, rfl, e2, _, _⟩ := hr2'
          have hjl := (List.getElem?_eq_some_iff.mp ho).1
          have la := Paired.len hacc
          have lm := meetL_len (rs.take j) one
          rw [List.length_take] at lm
          rw [List.length_append] at la
          have et : meetL (rs.take (j + 1)) one = meetL (rs.take j) one ++ (if decide (one.goal = o.start) = true then [(one.name, o.name)] else []) := by
            unfold meetL
            have e0 : rs.take (j + 1) = rs.take j ++ [o] := by rw [List.take_succ, ho]; rfl
            rw [e0, List.filter_append, List.map_append, List.filter_cons]
            split <;> rfl
          refine ⟨_, rfl, t1, _, 2, _, rfl, rfl, SqT.of e12, rfl, _, rfl, t2, _, 1, _, rfl, rfl, SqT.of e2, rfl, rfl, _, rfl, ?_⟩
          by_cases c : one.goal = o.start
          · rw [if_pos (decide_eq_true c)] at et
            refine if_t (decide_eq_true (congrArg V.str c)) ?_
            refine ⟨_, rfl, .inl ⟨rfl, _, SqL.of hq⟩, _, rfl, t1, _, 0, _, rfl, rfl, SqT.of e12, rfl, _, rfl, t2, _, 0, _, rfl, rfl, SqT.of e2, rfl, by show 2 ≤ sizeLine; decide, fun tp ntp => ?_⟩
            have gt := Grew.new g2.tab (o := .tup [.str one.name, .str o.name]) ntp
            have hq3 := gt.lst g2.tab hq
            have htp : (L2.upd H2 tp (.tup [.str one.name, .str o.name])) tp = some (.tup [.str one.name, .str o.name]) := upd_same
            have e13 := gt.tup g2.tab e12
            generalize L2.upd H2 tp (.tup [.str one.name, .str o.name]) = H3 at gt hq3 htp e13
            have kp : ∀ {b : Str × Str} {v : V}, GBar H3 b v → GBar (L2.upd H3 p0 (.lst (ys ++ [.ref tp]))) b v := fun {b v} ⟨t, a, m⟩ => ⟨t, a, by rw [upd_ne (fun z => by rw [z, hq3] at m; cases m)]; exact m⟩
            refine ⟨p0, ys, _, rfl, rfl, hq3, by rw [sizeLine_eq]; omega, _, _, rfl, (g2.trans gt).write hq3 (fun _ z => by cases z) np0, by rw [upd_ne (fun z => by rw [z, hq3] at e13; cases e13)]; exact e13, upd_same, ?_⟩
            rw [et, ← List.append_assoc]
            exact Paired.snoc (Paired.map' hacc fun b v m => kp (m.grew gt g2.tab)) (kp ⟨tp, rfl, htp⟩)
          · rw [if_neg (by rw [decide_eq_true_iff]; exact c), List.append_nil] at et
            exact if_f (decide_eq_false (fun e => c (V.str.inj e))) ⟨_, ys, rfl, g2, e12, hq, by rw [et]; exact hacc⟩
        · rintro σ H2 ⟨v5, ys, rfl, g2, _, hq, hacc⟩
          rw [← lx, List.take_length] at hacc
          have et : pairL rs (rs.take (i + 1)) = pairL rs (rs.take i) ++ meetL rs one := by
            unfold pairL
            rw [List.take_succ, hone, List.flatMap_append]
            simp
          exact ⟨_, _, ys, rfl, g2, hq, by rw [et]; exact hacc⟩
      · rintro σ H' ⟨v4, v5, ys, rfl, g, hq, hys⟩
        rw [← lx, List.take_length] at hys
        exact ⟨p0, v4, v5, ys, rfl, g, hq, hys⟩
    rintro σ H1 ⟨q, v4, v5, ys, rfl, g1, hq, hys⟩
    have ly := Paired.len hys
    have lpp := pairL_len rs rs
    have b1 : (pairL rs rs).length ≤ 12 * 12 := Nat.le_trans lpp (Nat.mul_le_mul lr lr)
    have ndp := pairL_nd nd nd
    have okp : ∀ b ∈ pairL rs rs, ∃ r1 ∈ rs, ∃ r2 ∈ rs, b.1 = r1.name ∧ b.2 = r2.name ∧ r1.goal = r2.start := fun b hb => pairL_ok hb
    generalize pairL rs rs = PL at hys ly b1 ndp okp
    -- chosen
    refine ⟨Nat.zero_le _, fun ch nch => ?_⟩
    have gc := Grew.new g1.tab (o := .lst []) nch
    have hch : (L2.upd H1 ch (.lst [])) ch = some (.lst []) := upd_same
    have hq2 := gc.lst g1.tab hq
    generalize L2.upd H1 ch (.lst []) = H2 at gc hch hq2
    refine ⟨fun σ H' => ∃ (v6 : Option V) (bs : List (Str × Str)) (zs : List V), σ = [some (.ref a), some (.int at_), some (.ref ro), some (.ref q), v4, v5, some (.ref ch), v6] ∧ Grew P H1 H' ∧ H' ch = some (.lst zs) ∧ Paired (GBar H') bs zs ∧ bs.Sublist PL ∧ bs.length ≤ 40, ?_, ?_⟩
    · refine ⟨_, rfl, q, _, rfl, .inl (SqL.of hq2), (ys.length : Int), rfl, by omega, by omega, for_range (n := ys.length) (fun i σ H' => ∃ (v6 : Option V) (bs : List (Str × Str)) (zs : List V), σ = [some (.ref a), some (.int at_), some (.ref ro), some (.ref q), v4, v5, some (.ref ch), v6] ∧ Grew P H1 H' ∧ H' ch = some (.lst zs) ∧ Paired (GBar H') bs zs ∧ bs.Sublist (PL.take i) ∧ bs.length ≤ 40)
        ⟨none, [], [], rfl, gc, hch, .nil, List.nil_sublist _, Nat.zero_le _⟩ ?_ ?_⟩
      · rintro i σ H3 hi ⟨v6, bs, zs, rfl, g3, hz, hbz, hsub, l40⟩
        rw [Int.zero_add]
        have m7 : 0 ≤ (i : Int) % 7 := Int.emod_nonneg _ (by decide)
        have m7' : (i : Int) % 7 < 7 := Int.emod_lt_of_pos _ (by decide)
        obtain ⟨n0, e0, l0, u0⟩ := at_num hsm (i := at_ + (i : Int) % 7) (by omega) (by omega)
        have hi2 : i < PL.length := by omega
        have hyi : ys[i]? = some (ys[i]'hi) := List.getElem?_eq_getElem hi
        generalize ys[i]'hi = yv at hyi
        obtain ⟨b, hb, hbv⟩ := Paired.at hys hyi
        have tk : PL.take (i + 1) = PL.take i ++ [b] := by rw [List.take_succ, hb]; rfl
        have lz := Paired.len hbz
        have skip : ∃ (v6 : Option V) (bs : List (Str × Str)) (zs : List V), ([some (.ref a), some (.int at_), some (.ref ro), some (.ref q), v4, v5, some (.ref ch), some (.int (i : Int))] : L2.St) = [some (.ref a), some (.int at_), some (.ref ro), some (.ref q), v4, v5, some (.ref ch), v6] ∧ Grew P H1 H3 ∧ H3 ch = some (.lst zs) ∧ Paired (GBar H3) bs zs ∧ bs.Sublist (PL.take (i + 1)) ∧ bs.length ≤ 40 :=
          ⟨_, bs, zs, rfl, g3, hz, hbz, hsub.trans (by rw [tk]; exact List.sublist_append_left _ _), l40⟩
        refine ⟨_, rfl, _, rfl, _, rfl, _, _, rfl, rfl, (show (0 : Int) < 7 by decide), _, _, rfl, rfl, a, _, _, _, rfl, rfl, (g1.trans g3).sqL hP hS, e0, _, rfl, _, _, rfl, rfl, .inl ⟨by decide, by decide⟩, _, _, rfl, rfl, .inl ⟨_, rfl, _, _, rfl, rfl, (show (0 : Int) < 6 by decide), rfl, _, rfl, ?_⟩⟩
        refine ite2 (fun _ => ?_) (fun _ => skip)
        refine ⟨_, rfl, ch, _, rfl, .inl (SqL.of hz), _, _, rfl, rfl, _, rfl, ?_⟩
        refine ite2 (fun c => ?_) (fun _ => skip)
        have c' : (zs.length : Int) < 40 := of_decide_eq_true c
        refine ⟨_, rfl, .inl ⟨rfl, _, SqL.of hz⟩, _, rfl, _, rfl, q, _, _, _, rfl, rfl, SqL.of (g3.lst g1.tab hq), atI_nat hyi, ch, _, _, rfl, rfl, hz, by rw [sizeLine_eq]; omega, ?_⟩
        have kp : ∀ {b : Str × Str} {v : V}, GBar H3 b v → GBar (L2.upd H3 ch (.lst (zs ++ [yv]))) b v := fun {b v} ⟨t, a, m⟩ => ⟨t, a, by rw [upd_ne (fun z => by rw [z, hz] at m; cases m)]; exact m⟩
        refine ⟨_, bs ++ [b], zs ++ [yv], rfl, g3.write hz (fun _ z => by cases z) nch, upd_same, Paired.snoc (Paired.map' hbz fun b v m => kp m) (kp (hbv.grew g3 g1.tab)), ?_, ?_⟩
        · rw [tk]; exact hsub.append (List.Sublist.refl _)
        · rw [List.length_append, List.length_singleton]; omega
      · rintro σ H' ⟨v6, bs, zs, rfl, g, hz, hbz, hsub, l40⟩
        exact ⟨v6, bs, zs, rfl, g, hz, hbz, hsub.trans (List.take_sublist _ _), l40⟩
    rintro σ H3 ⟨v6, bs, zs, rfl, g3, hz, hbz, hsub, l40⟩
    have g13 := g1.trans g3
    refine ⟨_, rfl, ch, zs, barAt H3, rfl, SqL.of hz, fun x hx => ?_, fun ws l hpm hso hl => ⟨l, _, rfl, .inl ⟨SqL.of upd_same, fun p hp2 => ?_⟩⟩⟩
    · obtain ⟨b, _, m⟩ := Paired.mem hbz hx
      have nm := m.at
      obtain ⟨t, e, q⟩ := m
      exact ⟨t, e, by rw [nm]; exact SqT.of q⟩
    · obtain ⟨bs', pm, hr'⟩ := Paired.perm hpm hbz
      have gl := Grew.new g13.tab (o := .lst ws) hl
      have gp := gl.put (o := .tup ws) hp2
      refine k _ p bs' ws (g13.trans gp) (g13.free (gl.free hp2)) upd_same (Paired.map' hr' fun _ _ m => m.grew gp g13.tab) (Paired.pair (fun a b x y m m' e => by rw [m.at, m'.at] at e; exact e) hr' hso) ⟨?_, ?_, fun b hb => okp b (hsub.subset (pm.mem_iff.mp hb))⟩
      · rw [pm.length_eq]; exact l40
      · exact pm.nodup_iff.mpr (ndp.sublist hsub)
end
end W

set_option Elab.async false
set_option linter.all false
set_option maxRecDepth 100000
set_option maxHeartbeats 1000000
namespace W
open PySem PySem.Spec PyProof.Rows L2 GxR MyG MyS
/-! ### _law_parts (of tuples) -/
/-- parts whose kinds, places, roads and bars are tuples -/
def PartsT (K : PySem.W.Frag) (H : Hp) (p : Addr) (d : Int) (ks ps : List Str) (rs : List RoadD) (bs : List (Str × Str)) : Prop := ∃ ki pl ro ba xs zs, H p = some (.lst [.int d, .ref ki, .ref pl, .ref ro, .ref ba]) ∧
  H ki = some (.tup (ks.map V.str)) ∧ H pl = some (.tup (ps.map V.str)) ∧ H ro = some (.tup xs) ∧ Paired (RoadAt K H) rs xs ∧ H ba = some (.tup zs) ∧ Paired (GBar H) bs zs
theorem PartsT.grew {K : PySem.W.Frag} {P : Addr} {H H' : Hp} {p : Addr} {d : Int} {ks ps : List Str} {rs : List RoadD} {bs : List (Str × Str)} (m : PartsT K H p d ks ps rs bs) (g : Grew P H H') (h : TabG H P) : PartsT K H' p d ks ps rs bs := by
  obtain ⟨ki, pl, ro, ba, xs, zs, e0, e1, e2, e3, e4, e5, e6⟩ := m
  exact ⟨ki, pl, ro, ba, xs, zs, g.lst h e0, g.tup h e1, g.tup h e2, g.tup h e3, Paired.map' e4 fun _ _ m => m.grew g h, g.tup h e5, Paired.map' e6 fun _ _ m => m.grew g h⟩
def spLPartsG (K : PySem.W.Frag) (P : Addr) : Sp := fun vs H Q _ => ∃ (a : Addr) (ns : List Int) (at_ : Int), vs = [.ref a, .int at_] ∧ SqL K H a (ns.map V.int) ∧ Sm ns ∧ 0 ≤ at_ ∧ at_ + 97 ≤ ns.length ∧ TabG H P ∧
  ∀ H' p d ks ps rs bs, Grew P H H' → H p = none → PartsT K H' p d ks ps rs bs → PartsOk d ks ps rs bs → Asc ks → Asc ps → AscR rs → AscB bs → 2 ≤ ps.length → 1 ≤ rs.length → rs.length ≤ 8 → (∀ r ∈ rs, Asc r.users) → ks.length ≤ 2 → Q (.ref p) H'
theorem day4 (x j : Int) (h0 : 0 ≤ j) (h3 : j < 4) (a : 1 ≤ x) (b : x ≤ 1440) : ∃ c : Int, atI [V.int x, V.int 24, V.int 1440, V.int x] j = some (.int c) ∧ 1 ≤ c ∧ c ≤ 1440 := by
  have : j = 0 ∨ j = 1 ∨ j = 2 ∨ j = 3 := by omega
  rcases this with rfl | rfl | rfl | rfl
  · exact ⟨_, rfl, a, b⟩
  · exact ⟨_, rfl, by decide, by decide⟩
  · exact ⟨_, rfl, by decide, by decide⟩
  · exact ⟨_, rfl, a, b⟩
section
variable {Pg : Program} {w : World} {K : PySem.W.Frag} {mg : Str → Option Value} {base : Heap} {C P : Addr}
abbrev nPartsG : List Str := ["numbers", "at", "day", "kinds", "places", "names", "roads", "k"]
theorem scPartsG : FnScope nPartsG ["numbers", "at"] (defScope sLPartsG) := ⟨rfl, rfl, rfl, by decide +kernel, rfl, by decide +kernel, by decide +kernel⟩
theorem ok_lpartsG {f fN fR fB : Addr} {fd fdN fdR fdB : FuncData} (F : Fun K "_law_parts" "_law_parts" sLPartsG f fd) (hi : mg "int" = none) (ht : mg "tuple" = none) (hr' : mg "range" = none) (hs : mg "sorted" = none)
    (GN : FnOk Pg w K mg base CX0 1 fN fdN ["number", "many"] (spLNames P)) (gN : mg "_law_names" = some (.ref fN)) (kN : PySem.W.keepIn K (.ref fN) = true) (bN : Binds K fdN ["number", "many"] [])
    (GR : FnOk Pg w K mg base CX0 2 fR fdR ["numbers", "at", "name", "day", "kinds", "places"] (spLRoadG K P)) (gR : mg "_law_road" = some (.ref fR)) (kR : PySem.W.keepIn K (.ref fR) = true) (bR : Binds K fdR ["numbers", "at", "name", "day", "kinds", "places"] [])
    (GB : FnOk Pg w K mg base CX0 1 fB fdB ["numbers", "at", "roads"] (spLBarsG K P)) (gB : mg "_law_bars" = some (.ref fB)) (kB : PySem.W.keepIn K (.ref fB) = true) (bB : Binds K fdB ["numbers", "at", "roads"] []) :
    FnOk Pg w K mg base CX0 3 f fd ["numbers", "at"] (spLPartsG K P) := by
  refine F.ok scPartsG (fun vs H Q E h => ?_) (fun cdv A outer s H vs Q E hr h => ?_)
  · obtain ⟨a, ns, at_, rfl, _⟩ := h
    rfl
  · obtain ⟨a, ns, at_, rfl, hS, hsm, ha0, ha1, hP, k⟩ := h
    refine ⟨_, C8.pss_cut (ps_set (i := 2) scPartsG.nd rfl (Or.inl rfl) (pe_ix ix_tup (pe_tup (pa_cons (pe_op op_add pe_int (pe_op op_mod (pe_callTy call_int1 (by rfl) hi (by decide +kernel) (pa_cons (pe_ix ix_list (pv 0) (pv 1) (fun _ _ => rfl)) pa_nil)) pe_int)) (pa_cons pe_int (pa_cons pe_int (pa_cons (pe_op op_add pe_int (pe_op op_mod (pe_callTy call_int1 (by rfl) hi (by decide +kernel) (pa_cons (pe_ix ix_list (pv 0) (pv 1) (fun _ _ => rfl)) pa_nil)) pe_int)) pa_nil)))))
        (pe_op op_mod (pe_callTy call_int1 (by rfl) hi (by decide +kernel) (pa_cons (pe_ix ix_list (pv 0) (pe_op op_add (pv 1) pe_int) (fun _ _ => rfl)) pa_nil)) pe_int) (fun _ _ => rfl)))
      (C8.pss_cut (ps_set (i := 3) scPartsG.nd rfl (Or.inl rfl) (pe_callTy call_tuple_of (by rfl) ht (by decide +kernel) (pa_cons (pe_callB cr_sortSQ (by rfl) hs (by decide +kernel) (pa_cons (pe_call GN (hr.mono (by decide)) (by rfl) gN kN bN .nil pass0 (pa_cons (pe_ix ix_list (pv 0) (pe_op op_add (pv 1) pe_int) (fun _ _ => rfl)) (pa_cons (pe_op op_add pe_int (pe_op op_mod (pe_callTy call_int1 (by rfl) hi (by decide +kernel) (pa_cons (pe_ix ix_list (pv 0) (pe_op op_add (pv 1) pe_int) (fun _ _ => rfl)) pa_nil)) pe_int)) pa_nil))) pa_nil)) pa_nil)))
      (C8.pss_cut (ps_set (i := 4) scPartsG.nd rfl (Or.inl rfl) (pe_callTy call_tuple_of (by rfl) ht (by decide +kernel) (pa_cons (pe_callB cr_sortSQ (by rfl) hs (by decide +kernel) (pa_cons (pe_call GN (hr.mono (by decide)) (by rfl) gN kN bN .nil pass0 (pa_cons (pe_ix ix_list (pv 0) (pe_op op_add (pv 1) pe_int) (fun _ _ => rfl)) (pa_cons (pe_op op_add pe_int (pe_op op_mod (pe_callTy call_int1 (by rfl) hi (by decide +kernel) (pa_cons (pe_ix ix_list (pv 0) (pe_op op_add (pv 1) pe_int) (fun _ _ => rfl)) pa_nil)) pe_int)) pa_nil))) pa_nil)) pa_nil)))
      (C8.pss_cut (ps_set (i := 5) scPartsG.nd rfl (Or.inl rfl) (pe_call GN (hr.mono (by decide)) (by rfl) gN kN bN .nil pass0 (pa_cons (pe_ix ix_list (pv 0) (pe_op op_add (pv 1) pe_int) (fun _ _ => rfl)) (pa_cons pe_int pa_nil))))
      (pss_cons (ps_set (i := 6) scPartsG.nd rfl (Or.inl rfl) (pe_lst pa_nil))
      (C8.pss_cut (ps_for PassesOwn.never rfl (pi_range1 rfl hr' (pa_cons (pe_op op_add pe_int (pe_op op_mod (pe_callTy call_int1 (by rfl) hi (by decide +kernel) (pa_cons (pe_ix ix_list (pv 0) (pe_op op_add (pv 1) pe_int) (fun _ _ => rfl)) pa_nil)) pe_int)) pa_nil)) (pg_name (i := 7) scPartsG.nd rfl (Or.inl rfl))
        (pss_one (ps_expr (pe_bm PySem.F.plainAttrs_list PySem.F.slot_list_append PySem.F.type_list_append mt_append (pv 6) (pa_cons (pe_call GR hr (by rfl) gR kR bR .nil pass0 (pa_cons (pv 0) (pa_cons (pe_op op_add (pe_op op_add (pv 1) pe_int) (pe_op op_mul pe_int (pv 7))) (pa_cons (pe_ix ix_list (pv 5) (pv 7) (fun _ _ => rfl)) (pa_cons (pv 2) (pa_cons (pv 3) (pa_cons (pv 4) pa_nil))))))) pa_nil)))))
      (C8.pss_cut (ps_set (i := 6) scPartsG.nd rfl (Or.inl rfl) (pe_callTy call_tuple_of (by rfl) ht (by decide +kernel) (pa_cons (pe_callB cr_sortR (by rfl) hs (by decide +kernel) (pa_cons (pv 6) pa_nil)) pa_nil)))
      (pss_one (ps_ret (pe_lst (pa_cons (pv 2) (pa_cons (pv 3) (pa_cons (pv 4) (pa_cons (pv 6) (pa_cons (pe_call GB (hr.mono (by decide)) (by rfl) gB kB bB .nil pass0 (pa_cons (pv 0) (pa_cons (pe_op op_add (pv 1) pe_int) (pa_cons (pv 6) pa_nil)))) pa_nil)))))))))))))), ?_⟩
    have num : ∀ {j : Int}, 0 ≤ j → j < at_ + 97 → ∃ n, atI (ns.map V.int) j = some (.int n) ∧ 0 ≤ n ∧ n < 1009 := fun h0 h1 => at_num hsm h0 (by omega)
    obtain ⟨n0, e0, l0, u0⟩ := num (j := at_) (by omega) (by omega)
    obtain ⟨n1, e1, l1, u1⟩ := num (j := at_ + 1) (by omega) (by omega)
    obtain ⟨n2, e2, l2, u2⟩ := num (j := at_ + 2) (by omega) (by omega)
    obtain ⟨n3, e3, l3, u3⟩ := num (j := at_ + 3) (by omega) (by omega)
    obtain ⟨n4, e4, l4, u4⟩ := num (j := at_ + 4) (by omega) (by omega)
    obtain ⟨n5, e5, l5, u5⟩ := num (j := at_ + 5) (by omega) (by omega)
    obtain ⟨n6, e6, l6, u6⟩ := num (j := at_ + 6) (by omega) (by omega)
    obtain ⟨n7, e7, l7, u7⟩ := num (j := at_ + 7) (by omega) (by omega)
    have A0 : L2.start nPartsG [.ref a, .int at_] = [some (.ref a), some (.int at_), none, none, none, none, none, none] := rfl
    -- day
    refine ⟨fun σ H' => ∃ d : Int, σ = [some (.ref a), some (.int at_), some (.int d), none, none, none, none, none] ∧ Grew P H H' ∧ 1 ≤ d ∧ d ≤ 1440, ?_, ?_⟩
    · obtain ⟨c, ec, c1, c2⟩ := day4 (1 + n0 % 24) (n1 % 4) (Int.emod_nonneg _ (by decide)) (Int.emod_lt_of_pos _ (by decide)) (by omega) (by omega)
      refine ⟨_, rfl, _, rfl, a, _, _, _, rfl, rfl, hS, e0, .inl ⟨_, rfl, _, _, rfl, rfl, (show (0 : Int) < 24 by decide), _, _, rfl, rfl, ?_⟩⟩
      refine ⟨_, rfl, _, rfl, a, _, _, _, rfl, rfl, hS, e0, .inl ⟨_, rfl, _, _, rfl, rfl, (show (0 : Int) < 24 by decide), _, _, rfl, rfl, by show 4 ≤ sizeLine; decide, fun T nT => ?_⟩⟩
      have gT := Grew.new hP (o := .tup [V.int (1 + n0 % 24), V.int 24, V.int 1440, V.int (1 + n0 % 24)]) nT
      exact ⟨_, rfl, _, rfl, _, _, rfl, rfl, a, _, _, _, rfl, rfl, gT.sqL hP hS, e1, .inl ⟨_, rfl, _, _, rfl, rfl, (show (0 : Int) < 4 by decide), T, _, _, _, rfl, rfl, SqT.of upd_same, ec, c, rfl, gT, c1, c2⟩⟩
    rintro σ H1 ⟨d, rfl, g1, d1, d2⟩
    -- kinds
    refine ⟨fun σ H' => ∃ (ki : Addr) (ks : List Str), σ = [some (.ref a), some (.int at_), some (.int d), some (.ref ki), none, none, none, none] ∧ Grew P H1 H' ∧ H' ki = some (.tup (ks.map V.str)) ∧ 1 ≤ ks.length ∧ ks.length ≤ 2 ∧ ks.all isNm = true ∧ ks.Nodup ∧ Asc ks, ?_, ?_⟩
    · refine ⟨_, rfl, _, rfl, _, _, rfl, rfl, a, _, _, _, rfl, rfl, g1.sqL hP hS, e2, _, rfl, _, rfl, _, _, rfl, rfl, a, _, _, _, rfl, rfl, g1.sqL hP hS, e3, .inl ⟨_, rfl, _, _, rfl, rfl, (show (0 : Int) < 2 by decide), _, _, rfl, rfl,
        n2, (1 + n3 % 2).toNat, congrArg (fun z => [V.int n2, V.int z]) (Int.toNat_of_nonneg (show 0 ≤ 1 + n3 % 2 by omega)).symm, l2, by omega, g1.tab, fun Ha ki ks ga nki eki lks aks dks => ?_⟩⟩
      refine ⟨_, ks, rfl, .inl (SqL.of eki), fun ys l pm asc nl => ⟨l, _, rfl, .inl ⟨SqL.of upd_same, fun q nq => ?_⟩⟩⟩
      have gl := Grew.new ga.tab (o := .lst (ys.map V.str)) nl
      have gq := gl.put (o := .tup (ys.map V.str)) nq
      refine ⟨q, ys, rfl, ga.trans gq, upd_same, ?_, ?_, ?_, pm.nodup_iff.mpr dks, asc⟩
      · rw [pm.length_eq, lks]; omega
      · rw [pm.length_eq, lks]; omega
      · exact List.all_eq_true.mpr fun z hz => List.all_eq_true.mp aks z (pm.mem_iff.mp hz)
    rintro σ H2 ⟨ki, ks, rfl, g2, hki, k1, k2, aks, dks, sks⟩
    have g02 := g1.trans g2
    -- places
    refine ⟨fun σ H' => ∃ (pl : Addr) (ps : List Str), σ = [some (.ref a), some (.int at_), some (.int d), some (.ref ki), some (.ref pl), none, none, none] ∧ Grew P H2 H' ∧ H' pl = some (.tup (ps.map V.str)) ∧ 2 ≤ ps.length ∧ ps.length ≤ 5 ∧ ps.all isNm = true ∧ ps.Nodup ∧ Asc ps, ?_, ?_⟩
    · refine ⟨_, rfl, _, rfl, _, _, rfl, rfl, a, _, _, _, rfl, rfl, g02.sqL hP hS, e4, _, rfl, _, rfl, _, _, rfl, rfl, a, _, _, _, rfl, rfl, g02.sqL hP hS, e5, .inl ⟨_, rfl, _, _, rfl, rfl, (show (0 : Int) < 4 by decide), _, _, rfl, rfl,
        n4, (2 + n5 % 4).toNat, congrArg (fun z => [V.int n4, V.int z]) (Int.toNat_of_nonneg (show 0 ≤ 2 + n5 % 4 by omega)).symm, l4, by omega, g02.tab, fun Ha ki ks ga nki eki lks aks dks => ?_⟩⟩
      refine ⟨_, ks, rfl, .inl (SqL.of eki), fun ys l pm asc nl => ⟨l, _, rfl, .inl ⟨SqL.of upd_same, fun q nq => ?_⟩⟩⟩
      have gl := Grew.new ga.tab (o := .lst (ys.map V.str)) nl
      have gq := gl.put (o := .tup (ys.map V.str)) nq
      refine ⟨q, ys, rfl, ga.trans gq, upd_same, ?_, ?_, ?_, pm.nodup_iff.mpr dks, asc⟩
      · rw [pm.length_eq, lks]; omega
      · rw [pm.length_eq, lks]; omega
      · exact List.all_eq_true.mpr fun z hz => List.all_eq_true.mp aks z (pm.mem_iff.mp hz)
    rintro σ H3 ⟨pl, ps, rfl, g3, hpl, p1, p2, aps, dps, sps⟩
    have g03 := g02.trans g3
    have hki3 := g3.tup g02.tab hki
    -- names
    refine ⟨fun σ H' => ∃ (nm : Addr) (names : List Str), σ = [some (.ref a), some (.int at_), some (.int d), some (.ref ki), some (.ref pl), some (.ref nm), none, none] ∧ Grew P H3 H' ∧ H' nm = some (.lst (names.map V.str)) ∧ names.length = 8 ∧ names.all isNm = true ∧ names.Nodup, ?_, ?_⟩
    · exact ⟨_, rfl, _, rfl, _, _, rfl, rfl, a, _, _, _, rfl, rfl, g03.sqL hP hS, e6, n6, 8, rfl, l6, by decide, g03.tab, fun Ha q names ga nq eq lq aq dq => ⟨q, names, rfl, ga, eq, lq, aq, dq⟩⟩
    rintro σ H4 ⟨nm, names, rfl, g4, hnm, lnm, anm, dnm⟩
    have g04 := g03.trans g4
    have hki4 := g4.tup g03.tab hki3
    have hpl4 := g4.tup g03.tab hpl
    -- roads
    refine ⟨Nat.zero_le _, fun ro nro => ?_⟩
    have gr := Grew.new g04.tab (o := .lst []) nro
    have hro : (L2.upd H4 ro (.lst [])) ro = some (.lst []) := upd_same
    generalize L2.upd H4 ro (.lst []) = H5 at gr hro
    have nro0 : H ro = none := g04.free nro
    have m8 : 0 ≤ n7 % 8 := Int.emod_nonneg _ (by decide)
    have m8' : n7 % 8 < 8 := Int.emod_lt_of_pos _ (by decide)
    refine ⟨fun σ H' => ∃ (v7 : Option V) (rs : List RoadD) (xs : List V), σ = [some (.ref a), some (.int at_), some (.int d), some (.ref ki), some (.ref pl), some (.ref nm), some (.ref ro), v7] ∧ Grew P H4 H' ∧ H' ro = some (.lst xs) ∧ Paired (RoadAt K H') rs xs ∧ (∀ r ∈ rs, RoadOk d ps ks r ∧ r.users.Sublist ks) ∧ rs.map (·.name) = names.take rs.length ∧ 1 ≤ rs.length ∧ rs.length ≤ 8, ?_, ?_⟩
    · refine ⟨_, rfl, _, rfl, _, _, rfl, rfl, a, _, _, _, rfl, rfl, (g04.trans gr).sqL hP hS, e7, .inl ⟨_, rfl, _, _, rfl, rfl, (show (0 : Int) < 8 by decide), _, _, rfl, rfl, 1 + n7 % 8, rfl, by omega, by omega,
        for_range (n := (1 + n7 % 8).toNat) (fun i σ H' => ∃ (v7 : Option V) (rs : List RoadD) (xs : List V), σ = [some (.ref a), some (.int at_), some (.int d), some (.ref ki), some (.ref pl), some (.ref nm), some (.ref ro), v7] ∧ Grew P H4 H' ∧ H' ro = some (.lst xs) ∧ Paired (RoadAt K H') rs xs ∧ (∀ r ∈ rs, RoadOk d ps ks r ∧ r.users.Sublist ks) ∧ rs.map (·.name) = names.take i ∧ rs.length = i)
          ⟨none, [], [], rfl, gr, hro, .nil, fun r hr => absurd hr (by simp), rfl, rfl⟩ ?_ ?_⟩⟩
      · rintro i σ H6 hi ⟨v7, rs, xs, rfl, g6, hxs, hrs, hok, hnms, lrs⟩
        rw [Int.zero_add]
        have hi8 : i < names.length := by omega
        have g06 := g04.trans g6
        have en : names[i]? = some names[i] := List.getElem?_eq_getElem hi8
        refine ⟨_, rfl, .inl ⟨rfl, _, SqL.of hxs⟩, ?_⟩
        refine ⟨_, rfl, _, rfl, _, _, rfl, rfl, _, rfl, _, _, rfl, rfl, .inl ⟨by decide, by decide⟩, _, _, rfl, rfl, _, rfl, _, rfl, nm, _, _, _, rfl, rfl, SqL.of (g6.lst g04.tab hnm), atI_nat (by rw [List.getElem?_map, en]; rfl), _, rfl, _, rfl, _, rfl,
          a, ki, pl, ns, at_ + 8 + 10 * (i : Int), d, names[i], ks, ps, rfl, g06.sqL hP hS, hsm, by omega, by omega, d1, g6.tup g04.tab hki4, g6.tup g04.tab hpl4, by omega, by omega, dks, g06.tab, fun H7 r t g7 nt hr hn hro7 hsub7 => ?_⟩
        have hxs7 := g7.lst g06.tab hxs
        have lx := Paired.len hrs
        have up : ∀ {r : RoadD} {v : V}, RoadAt K H7 r v → RoadAt K (L2.upd H7 ro (.lst (xs ++ [.ref t]))) r v := fun m => m.upd (fun xs z => by rw [hxs7] at z; cases z) (KeepT.lst hxs7)
        refine ⟨ro, _, .ref t, rfl, rfl, hxs7, by rw [sizeLine_eq]; omega, _, rs ++ [r], xs ++ [.ref t], rfl, (g6.trans g7).write hxs7 (fun _ z => by cases z) nro, upd_same, Paired.snoc (Paired.map' hrs fun r v m => up (m.grew g7 g06.tab)) (up hr), ?_, ?_, ?_⟩
        · intro y hy
          rcases List.mem_append.mp hy with hy | hy
          · exact hok y hy
          · rw [List.mem_singleton.mp hy]; exact ⟨hro7, hsub7⟩
        · rw [List.map_append, hnms, List.take_succ, en]
          show _ ++ [r.name] = _
          rw [hn]
          rfl
        · rw [List.length_append, lrs]; rfl
      · rintro σ H' ⟨v7, rs, xs, rfl, g6, hxs, hrs, hok, hnms, lrs⟩
        exact ⟨v7, rs, xs, rfl, g6, hxs, hrs, hok, by rw [hnms, lrs], by omega, by omega⟩
    rintro σ H6 ⟨v7, rs, xs, rfl, g6, hxs, hrs, hok, hnms, r1, r8⟩
    have g06 := g04.trans g6
    have nd : (rs.map (·.name)).Nodup := by rw [hnms]; exact dnm.sublist (List.take_sublist _ _)
    have nmA : (rs.map (·.name)).all isNm = true := by
      rw [hnms]
      exact List.all_eq_true.mpr fun z hz => List.all_eq_true.mp anm z (List.mem_of_mem_take hz)
    -- sorted
    refine ⟨fun σ H' => ∃ (ro2 : Addr) (rs2 : List RoadD) (ys : List V), σ = [some (.ref a), some (.int at_), some (.int d), some (.ref ki), some (.ref pl), some (.ref nm), some (.ref ro2), v7] ∧ Grew P H6 H' ∧ H' ro2 = some (.tup ys) ∧ Paired (RoadAt K H') rs2 ys ∧ rs2.Perm rs ∧ AscR rs2, ?_, ?_⟩
    · refine ⟨_, rfl, ro, xs, nameAt H6, rfl, SqL.of hxs, fun x hx => ?_, fun x hx y hy e => Paired.inj hrs nd hx hy fun r r' m m' => by rw [← m.name, ← m'.name]; exact e, fun ys l hpm hso hl => ⟨l, _, rfl, .inl ⟨SqL.of upd_same, fun p hp2 => ?_⟩⟩⟩
      · obtain ⟨r, _, m⟩ := Paired.mem hrs hx
        have nm := m.name
        obtain ⟨p, q, hv, e, e1, _⟩ := m
        exact ⟨p, _, e, by rw [nm]; exact SqT.of e1⟩
      · obtain ⟨rs', pm, hr'⟩ := Paired.perm hpm hrs
        have gl := Grew.new g06.tab (o := .lst ys) hl
        have gp := gl.put (o := .tup ys) hp2
        exact ⟨p, rs', ys, rfl, gp, upd_same, Paired.map' hr' fun _ _ m => m.grew gp g06.tab, pm, Paired.pair (fun a b x y m m' e => by rw [m.name, m'.name] at e; exact e) hr' hso⟩
    rintro σ H7 ⟨ro2, rs2, ys, rfl, g7, hys, hrs2, pm, asc⟩
    have g07 := g06.trans g7
    have hki7 := g7.tup g06.tab (g6.tup g04.tab hki4)
    have hpl7 := g7.tup g06.tab (g6.tup g04.tab hpl4)
    have nd2 : (rs2.map (·.name)).Nodup := (pm.map _).nodup_iff.mpr nd
    refine ⟨_, rfl, _, rfl, _, rfl, _, rfl, _, rfl, _, rfl, _, _, rfl, rfl, _, rfl, a, ro2, ns, at_ + 90, rs2, ys, rfl, g07.sqL hP hS, hsm, by omega, by omega, hys, hrs2, by rw [pm.length_eq]; omega, nd2, g07.tab, fun H8 ba bs zs g8 nba hba hzs ab bok => ?_⟩
    have g08 := g07.trans g8
    refine ⟨by show 5 ≤ sizeLine; decide, fun q nq => ?_⟩
    have gq := Grew.new g08.tab (o := .lst [V.int d, .ref ki, .ref pl, .ref ro2, .ref ba]) nq
    refine k _ q d ks ps rs2 bs (g08.trans gq) (g08.free nq) ⟨ki, pl, ro2, ba, ys, zs, upd_same, gq.tup g08.tab (g8.tup g07.tab hki7), gq.tup g08.tab (g8.tup g07.tab hpl7), gq.tup g08.tab (g8.tup g07.tab hys), Paired.map' hrs2 fun _ _ m => (m.grew g8 g07.tab).grew gq g08.tab, gq.tup g08.tab hba, Paired.map' hzs fun _ _ m => m.grew gq g08.tab⟩ ?_ sks sps asc ab p1 (by rw [pm.length_eq]; exact r1) (by rw [pm.length_eq]; exact r8) (fun r hr => sks.sublist (hok r (pm.mem_iff.mp hr)).2) k2
    refine ⟨d1, d2, k1, by omega, by omega, aks, aps, dks, dps, ⟨by rw [pm.length_eq]; omega, ?_, nd2, fun r hr => (hok r (pm.mem_iff.mp hr)).1⟩, bok⟩
    exact List.all_eq_true.mpr fun z hz => List.all_eq_true.mp nmA z ((pm.map _).mem_iff.mp hz)
end
end W

set_option Elab.async false
set_option linter.all false
set_option maxRecDepth 100000
set_option maxHeartbeats 2000000
namespace W
open PySem PySem.Spec PyProof.Rows L2 GxR MyG MyS SqX
/-! ### parts as a map keeps them: there is one way only -/
structure Srt (ks ps : List Str) (rs : List RoadD) (bs : List (Str × Str)) (ks' ps' : List Str) (rs' : List RoadD) (bs' : List (Str × Str)) : Prop where
  k : ks'.Perm ks
  ka : Asc ks'
  p : ps'.Perm ps
  pa : Asc ps'
  r : KeptAll rs rs'
  ra : AscR rs'
  b : bs'.Perm bs
  ba : AscB bs'
theorem asc_one {l m n : List Str} (h1 : l.Perm n) (h2 : m.Perm n) (a1 : Asc l) (a2 : Asc m) : l = m :=
  List.Perm.eq_of_pairwise (le := fun a b => slt b a = false) (fun a b _ _ x y => slt_tri y x) a1 a2 (h1.trans h2.symm)
theorem slt2_tri {a b : Str × Str} (h1 : slt2 a b = false) (h2 : slt2 b a = false) : a = b := by
  by_cases e : a.1 = b.1
  · rw [slt2_eq e] at h1
    rw [slt2_eq e.symm] at h2
    exact Prod.ext e (slt_tri h1 h2)
  · rw [slt2_ne e] at h1
    rw [slt2_ne (fun c => e c.symm)] at h2
    exact absurd (slt_tri h1 h2) e
theorem ascB_one {l m n : List (Str × Str)} (h1 : l.Perm n) (h2 : m.Perm n) (a1 : AscB l) (a2 : AscB m) : l = m :=
  List.Perm.eq_of_pairwise (le := fun a b => slt2 b a = false) (fun a b _ _ x y => slt2_tri y x) a1 a2 (h1.trans h2.symm)
theorem kept_one {r a b : RoadD} (h1 : Kept r a) (h2 : Kept r b) : a = b := by
  obtain ⟨a1, a2, a3, a4, a5, a6, a7⟩ := h1
  obtain ⟨b1, b2, b3, b4, b5, b6, b7⟩ := h2
  have e := asc_one a6 b6 a7 b7
  cases a
  cases b
  simp_all
theorem paired_one {α β : Type} {F : α → β → Prop} (u : ∀ a b c, F a b → F a c → b = c) : ∀ {l : List α} {m n : List β}, Paired F l m → Paired F l n → m = n
  | _, _, _, .nil, h => by cases h; rfl
  | _, _, _, .cons x r, h => by
    cases h with
    | cons y s => rw [u _ _ _ x y, paired_one u r s]
theorem roads_one {rs l m : List RoadD} (nd : (rs.map (·.name)).Nodup) (h1 : KeptAll rs l) (h2 : KeptAll rs m) (a1 : AscR l) (a2 : AscR m) : l = m := by
  have n1 := h1.nodup nd
  obtain ⟨x, px, qx⟩ := h1
  obtain ⟨y, py, qy⟩ := h2
  have e : x = y := paired_one (F := Kept) (fun _ _ _ a b => kept_one a b) qx qy
  subst e
  have pm : l.Perm m := px.symm.trans py
  exact List.Perm.eq_of_pairwise (le := fun a b : RoadD => slt b.name a.name = false) (fun a b ha hb p q => uniqN n1 ha (pm.mem_iff.mpr hb) (slt_tri q p)) a1 a2 pm
theorem Srt.one {ks ps ks1 ps1 ks2 ps2 : List Str} {rs rs1 rs2 : List RoadD} {bs bs1 bs2 : List (Str × Str)} (nd : (rs.map (·.name)).Nodup) (h1 : Srt ks ps rs bs ks1 ps1 rs1 bs1) (h2 : Srt ks ps rs bs ks2 ps2 rs2 bs2) : ks1 = ks2 ∧ ps1 = ps2 ∧ rs1 = rs2 ∧ bs1 = bs2 :=
  ⟨asc_one h1.k h2.k h1.ka h2.ka, asc_one h1.p h2.p h1.pa h2.pa, roads_one nd h1.r h2.r h1.ra h2.ra, ascB_one h1.b h2.b h1.ba h2.ba⟩
/-! ### data -/
def pairP (p : Int × Int) : PyData := .tuple [.int p.1, .int p.2]
def hoursP : Option (List (Int × Int)) → PyData
  | none => .none
  | some gs => .tuple (gs.map pairP)
def roadP (r : RoadD) : PyData := .tuple [.str r.name, .str r.start, .str r.goal, .int r.minutes, .tuple (r.users.map .str), hoursP r.hours]
def barP (b : Str × Str) : PyData := .tuple [.str b.1, .str b.2]
theorem dpAll_of {α : Type} {F : α → V → Prop} {f : α → PyData} {K : PySem.W.Frag} {H : Hp} (u : ∀ a v, F a v → Dp K H v (f a)) : ∀ {l : List α} {xs : List V}, Paired F l xs → DpAll K H xs (l.map f)
  | _, _, .nil => .nil
  | _, _, .cons a r => .cons (u _ _ a) (dpAll_of u r)
theorem dpAll_strs {K : PySem.W.Frag} {H : Hp} : ∀ ns : List Str, DpAll K H (ns.map V.str) (ns.map PyData.str)
  | [] => .nil
  | n :: ns => .cons (.str n) (dpAll_strs ns)
theorem GPair.dp {K : PySem.W.Frag} {H : Hp} {p : Int × Int} {v : V} (h : GPair K H p v) : Dp K H v (pairP p) := by
  obtain ⟨t, rfl, e⟩ := h
  exact .tup e (.cons (.int _) (.cons (.int _) .nil))
theorem GHours.dp {K : PySem.W.Frag} {H : Hp} {hs : Option (List (Int × Int))} {v : V} (h : GHours K H hs v) : Dp K H v (hoursP hs) := by
  cases hs with
  | none =>
    have e : v = .non := h
    rw [e]
    exact .non
  | some gs =>
    obtain ⟨l, xs, rfl, q, r⟩ := h
    exact .tup q (dpAll_of (fun _ _ m => m.dp) r)
theorem RoadAt.dp {K : PySem.W.Frag} {H : Hp} {r : RoadD} {v : V} (h : RoadAt K H r v) : Dp K H v (roadP r) := by
  obtain ⟨p, q, h, rfl, e, e2, g⟩ := h
  exact .tup (SqT.of e) (.cons (.str _) (.cons (.str _) (.cons (.str _) (.cons (.int _) (.cons (.tup (SqT.of e2) (dpAll_strs _)) (.cons g.dp .nil))))))
theorem GBar.dp {K : PySem.W.Frag} {H : Hp} {b : Str × Str} {v : V} (h : GBar H b v) : Dp K H v (barP b) := by
  obtain ⟨t, rfl, e⟩ := h
  exact .tup (SqT.of e) (.cons (.str _) (.cons (.str _) .nil))
def Lay (n : Nat) (d : PyData) : Prop := d.canLay0 = true ∧ d.depth ≤ n
theorem lay_all {n : Nat} : ∀ {ds : List PyData}, (∀ d ∈ ds, Lay n d) → PyData.canLayAll0 ds = true ∧ PyData.depthAll ds ≤ n
  | [], _ => ⟨rfl, Nat.zero_le _⟩
  | d :: ds, h => by
    obtain ⟨a, b⟩ := h d List.mem_cons_self
    obtain ⟨c, e⟩ := lay_all fun x hx => h x (List.mem_cons_of_mem _ hx)
    refine ⟨by simp [PyData.canLayAll0, a, c], ?_⟩
    simp only [PyData.depthAll]
    omega
theorem Lay.tuple {n : Nat} {ds : List PyData} (h : ∀ d ∈ ds, Lay n d) : Lay (n + 1) (.tuple ds) := by
  obtain ⟨a, b⟩ := lay_all h
  refine ⟨by simpa [PyData.canLay0] using a, ?_⟩
  simp only [PyData.depth]
  omega
theorem Lay.mono {n m : Nat} {d : PyData} (h : Lay n d) (hm : n ≤ m) : Lay m d := ⟨h.1, Nat.le_trans h.2 hm⟩
theorem Lay.int (i : Int) : Lay 1 (.int i) := ⟨rfl, by simp [PyData.depth]⟩
theorem Lay.none : Lay 1 .none := ⟨rfl, by simp [PyData.depth]⟩
theorem Lay.str {z : Str} (h : PyData.strOk z = true) : Lay 1 (.str z) := ⟨by simpa [PyData.canLay0] using h, by simp [PyData.depth]⟩
theorem Lay.shaped {n : Nat} {d : PyData} (h : Lay n d) (hn : n ≤ 64) : SeqAt.shaped d = true := by
  unfold SeqAt.shaped
  rw [Bool.and_eq_true]
  exact ⟨h.1, decide_eq_true (Nat.le_trans h.2 hn)⟩
theorem Lay.refl {n : Nat} {d : PyData} (h : Lay n d) : PyData.eqv d d = true := SeqAt.eqv_refl _ h.1
structure TxtR (r : RoadD) : Prop where
  n : PyData.strOk r.name = true
  s : PyData.strOk r.start = true
  g : PyData.strOk r.goal = true
  u : ∀ z ∈ r.users, PyData.strOk z = true
theorem lay_strs {ns : List Str} (h : ∀ z ∈ ns, PyData.strOk z = true) : Lay 2 (.tuple (ns.map .str)) := Lay.tuple fun d hd => by
  obtain ⟨z, hz, rfl⟩ := List.mem_map.mp hd
  exact Lay.str (h z hz)
theorem lay_hours (hs : Option (List (Int × Int))) : Lay 3 (hoursP hs) := by
  cases hs with
  | none => exact Lay.none.mono (by decide)
  | some gs =>
    refine Lay.tuple fun d hd => ?_
    obtain ⟨p, _, rfl⟩ := List.mem_map.mp hd
    refine Lay.tuple fun d hd => ?_
    simp only [List.mem_cons, List.not_mem_nil, or_false] at hd
    rcases hd with rfl | rfl <;> exact Lay.int _
theorem TxtR.lay {r : RoadD} (h : TxtR r) : Lay 4 (roadP r) := Lay.tuple fun d hd => by
  simp only [List.mem_cons, List.not_mem_nil, or_false] at hd
  rcases hd with rfl | rfl | rfl | rfl | rfl | rfl
  · exact (Lay.str h.n).mono (by decide)
  · exact (Lay.str h.s).mono (by decide)
  · exact (Lay.str h.g).mono (by decide)
  · exact (Lay.int _).mono (by decide)
  · exact (lay_strs h.u).mono (by decide)
  · exact lay_hours _
theorem lay_roads {rs : List RoadD} (h : ∀ r ∈ rs, TxtR r) : Lay 5 (.tuple (rs.map roadP)) := Lay.tuple fun d hd => by
  obtain ⟨r, hr, rfl⟩ := List.mem_map.mp hd
  exact (h r hr).lay
theorem lay_bars {bs : List (Str × Str)} (h : ∀ b ∈ bs, PyData.strOk b.1 = true ∧ PyData.strOk b.2 = true) : Lay 3 (.tuple (bs.map barP)) := Lay.tuple fun d hd => by
  obtain ⟨b, hb, rfl⟩ := List.mem_map.mp hd
  refine Lay.tuple fun d hd => ?_
  simp only [List.mem_cons, List.not_mem_nil, or_false] at hd
  rcases hd with rfl | rfl
  · exact Lay.str (h b hb).1
  · exact Lay.str (h b hb).2
theorem nm_ok {z : Str} (h : isNm z = true) : PyData.strOk z = true := by
  unfold isNm at h
  simp only [Bool.and_eq_true] at h
  have h4 := h.2
  unfold PyData.strOk
  rw [← Array.all_toList]
  refine List.all_eq_true.mpr fun c hc => ?_
  have g := List.all_eq_true.mp h4 c hc
  have a1 : ∀ c ∈ zLet.cps.toList, decide (c < 0x110000) = true := by decide +kernel
  have a2 : ∀ c ∈ zDig.cps.toList, decide (c < 0x110000) = true := by decide +kernel
  unfold goodC at g
  rcases Bool.or_eq_true_iff.mp g with g | g
  · exact a1 c (of_decide_eq_true g)
  · exact a2 c (of_decide_eq_true g)
/-- texts that may be compared -/
structure TxtP (ks ps : List Str) (rs : List RoadD) (bs : List (Str × Str)) : Prop where
  k : ∀ z ∈ ks, PyData.strOk z = true
  p : ∀ z ∈ ps, PyData.strOk z = true
  r : ∀ r ∈ rs, TxtR r
  b : ∀ b ∈ bs, PyData.strOk b.1 = true ∧ PyData.strOk b.2 = true
theorem all_nm {ns : List Str} (h : ns.all isNm = true) : ∀ z ∈ ns, PyData.strOk z = true := fun z hz => nm_ok (List.all_eq_true.mp h z hz)
theorem PartsOk.txt {d : Int} {ks ps : List Str} {rs : List RoadD} {bs : List (Str × Str)} (h : PartsOk d ks ps rs bs) : TxtP ks ps rs bs := by
  have hn : ∀ r ∈ rs, PyData.strOk r.name = true := fun r hr => all_nm h.r.nm _ (List.mem_map.mpr ⟨r, hr, rfl⟩)
  refine ⟨all_nm h.kn, all_nm h.pn, fun r hr => ?_, fun b hb => ?_⟩
  · have o := h.r.ok r hr
    exact ⟨hn r hr, all_nm h.pn _ o.s, all_nm h.pn _ o.g, fun z hz => all_nm h.kn _ (o.u z hz)⟩
  · obtain ⟨r1, h1, r2, h2, e1, e2, _⟩ := h.b.ok b hb
    rw [e1, e2]
    exact ⟨hn r1 h1, hn r2 h2⟩
theorem TxtP.srt {ks ps ks' ps' : List Str} {rs rs' : List RoadD} {bs bs' : List (Str × Str)} (h : TxtP ks ps rs bs) (s : Srt ks ps rs bs ks' ps' rs' bs') : TxtP ks' ps' rs' bs' := by
  refine ⟨fun z hz => h.k z (s.k.mem_iff.mp hz), fun z hz => h.p z (s.p.mem_iff.mp hz), fun r hr => ?_, fun b hb => h.b b (s.b.mem_iff.mp hb)⟩
  obtain ⟨l, pm, q⟩ := s.r
  obtain ⟨r0, h0, a1, a2, a3, _, _, a6, _⟩ := Paired.mem q (pm.mem_iff.mpr hr)
  have o := h.r r0 h0
  exact ⟨by rw [a1]; exact o.n, by rw [a2]; exact o.s, by rw [a3]; exact o.g, fun z hz => o.u z (a6.mem_iff.mp hz)⟩
/-! ### of the size that the map's checks ask for -/
theorem parts_small {d : Int} {ks ps : List Str} {rs : List RoadD} {bs : List (Str × Str)} (h : PartsOk d ks ps rs bs) : GivenSm d ks ps (rs.map itemG) (bs.map p2) := by
  have ln : ∀ {ns : List Str}, ns.all isNm = true → ∀ z ∈ ns, z.length ≤ 1000 := fun h z hz => Nat.le_trans (isNm_len (List.all_eq_true.mp h z hz)) (by decide)
  have hn : ∀ r ∈ rs, r.name.length ≤ 1000 := fun r hr => ln h.r.nm _ (List.mem_map.mpr ⟨r, hr, rfl⟩)
  refine ⟨by have := h.d1; have := h.d2; omega, by have := h.k2; omega, ln h.kn, by have := h.p2; omega, ln h.pn, by rw [List.length_map]; have := h.r.len; omega, fun g hg => ?_, by rw [List.length_map]; have := h.b.len; omega, fun b hb z hz => ?_⟩
  · obtain ⟨r, hr, e⟩ := List.mem_map.mp hg
    have e' : rG r = g := Sum.inl.inj e
    subst e'
    have o := h.r.ok r hr
    refine ⟨hn r hr, ln h.pn _ o.s, ln h.pn _ o.g, by show r.minutes.natAbs < _; have := o.m1; have := o.m2; omega, by show r.users.length ≤ _; have := o.un; omega, fun z hz => ln h.kn _ (o.u z hz), fun ps hps => ?_⟩
    have oh := o.h
    obtain ⟨hs, ehs⟩ : ∃ hs, hs = r.hours := ⟨_, rfl⟩
    rw [← ehs] at oh
    have hps' : hoursG hs = some ps := by rw [ehs]; exact hps
    cases hs with
    | none => cases hps'
    | some gs =>
      have e : gs.map (fun p => [p.1, p.2]) = ps := Option.some.inj hps'
      rw [← e, List.length_map]
      have := oh.1
      omega
  · obtain ⟨b0, h0, rfl⟩ := List.mem_map.mp hb
    obtain ⟨r1, h1, r2, h2, e1, e2, _⟩ := h.b.ok b0 h0
    have : z = b0.1 ∨ z = b0.2 := by simpa [p2] using hz
    rcases this with rfl | rfl
    · rw [e1]; exact hn r1 h1
    · rw [e2]; exact hn r2 h2
end W

set_option Elab.async false
set_option linter.all false
set_option maxRecDepth 100000
set_option maxHeartbeats 1000000
namespace W
open PySem PySem.Spec PyProof.Rows L2 GxR MyG MyS SqX
/-! ### a map made of parts that are as they should be -/
theorem passF {P : Program} {w : World} {X : Cx} (hP : X.prog = P) (hw : X.w = w) : Passes (L2N.CX P w) X E0 := fun pins σ H s e s' I c => by
  obtain ⟨_, _, _, _, _, _, _, _, _, _, _, _, q⟩ := c
  exact q.elim
abbrev kMapA : List Str := ["day", "places", "kinds", "roads", "bars"]
def gMapA {α : Type} (us mv ws : List α) : List α := us ++ ((match ws with | [a, b, c, d, e] => [a, c, b, d, e] | _ => []) ++ mv)
abbrev kMapB : List Str := ["day", "kinds"]
def gMapB {α : Type} (us mv ws : List α) : List α := us ++ (ws ++ mv)
theorem paired_mapl {α β γ : Type} {F : α → γ → Prop} {G : β → γ → Prop} {f : α → β} (u : ∀ a c, F a c → G (f a) c) : ∀ {l : List α} {m : List γ}, Paired F l m → Paired G (l.map f) m
  | _, _, .nil => .nil
  | _, _, .cons a r => .cons (u _ _ a) (paired_mapl u r)
theorem GHours.gen {K : PySem.W.Frag} {H : Hp} {hs : Option (List (Int × Int))} {v : V} (m : GHours K H hs v) : GHoursX K H (hoursG hs) v := by
  cases hs with
  | none => exact m
  | some gs =>
    obtain ⟨l, xs, e, a, b⟩ := m
    exact ⟨l, xs, false, e, a, paired_mapl (fun p c ⟨t, e1, e2⟩ => ⟨t, e1, e2⟩) b⟩
theorem RoadAt.gen {K : PySem.W.Frag} {H : Hp} {r : RoadD} {v : V} (m : RoadAt K H r v) : GItem K H (itemG r) v := by
  obtain ⟨t, u, h, a, b, c, d⟩ := m
  exact ⟨t, u, h, false, a, SqT.of b, SqT.of c, d.gen⟩
theorem GBar.gen {H : Hp} {b : Str × Str} {v : V} (m : GBar H b v) : GBarX H (p2 b) v := let ⟨t, e, q⟩ := m; ⟨t, e, .inr q⟩
def MadeQ (K : PySem.W.Frag) (M P x : Addr) (H : Hp) (d : Int) (ks ps : List Str) (rs : List RoadD) (bs : List (Str × Str)) (R : Hp → Prop) : Prop := ∀ H' ks' ps' rs' bs', Grew P H H' → H x = none → Srt ks ps rs bs ks' ps' rs' bs' → MapAt K H' M x d ks' ps' rs' bs' → R H'
/-- parts that are not too large for Map -/
structure PartsSm (d : Int) (ks ps : List Str) (rs : List RoadD) (bs : List (Str × Str)) : Prop where
  sm : GivenSm d ks ps (rs.map itemG) (bs.map p2)
theorem PartsOk.sm {d : Int} {ks ps : List Str} {rs : List RoadD} {bs : List (Str × Str)} (h : PartsOk d ks ps rs bs) : PartsSm d ks ps rs bs := ⟨parts_small h⟩
theorem initG_of {K : PySem.W.Frag} {M C P x dx ki pl ro ba : Addr} {H : Hp} {ck cp cr cb : Bool} {d : Int} {ks ps : List Str} {rs : List RoadD} {bs : List (Str × Str)} {xs zs : List V} {Q : VK} {E : XK} (hP : TabG H P) (nx : H x = none) (ndx : H dx = none) (nex : dx ≠ x)
    (hk : SqK ck K H ki (ks.map V.str)) (hp : SqK cp K H pl (ps.map V.str)) (hr : SqK cr K H ro xs) (hrs : Paired (GItem K H) (rs.map itemG) xs) (hb : SqK cb K H ba zs) (hbs : Paired (fun b v => GBarX H (p2 b) v) bs zs) (sm : PartsSm d ks ps rs bs)
    (k : PartsOk d ks ps rs bs → MadeQ K M P x H d ks ps rs bs fun H' => Q .non H') (kE : ¬ PartsOk d ks ps rs bs → BadM C P H E) : spInitX K M C P [.ref x, .int d, .ref ki, .ref pl, .ref ro, .ref ba] (L2.upd (L2.upd H dx (.own x)) x (.ins M dx [])) Q E := by
  have gx : Grew P H (L2.upd (L2.upd H dx (.own x)) x (.ins M dx [])) := (Grew.new hP ndx).put (by rw [upd_ne nex.symm]; exact nx)
  have inj : ∀ {rs0 : List RoadD} {bs0 : List (Str × Str)}, rs.map itemG = rs0.map itemG → bs.map p2 = bs0.map p2 → rs = rs0 ∧ bs = bs0 := fun e1 e2 =>
    ⟨List.map_inj_right (fun a b h => rG_inj (Sum.inl.inj h)) |>.mp e1, List.map_inj_right (fun a b h => p2_inj a b h) |>.mp e2⟩
  refine ⟨x, dx, ki, pl, ro, ba, ck, cp, cr, cb, d, ks, ps, rs.map itemG, bs.map p2, xs, zs, H, rfl, gx, hP, nx, upd_same, hk, hp, hr, hrs, hb, paired_mapl (f := p2) (G := GBarX H) (fun _ _ m => m) hbs, sm.sm, fun rs0 bs0 e1 e2 ok' H' ks' ps' rs' bs' g a1 a2 a3 a4 a5 a6 a7 a8 m => ?_, fun no => kE fun o => no ⟨rs, bs, rfl, rfl, o⟩⟩
  obtain ⟨q1, q2⟩ := inj e1 e2
  subst q1 q2
  exact k ok' H' ks' ps' rs' bs' g nx ⟨a1, a2, a3, a4, a5, a6, a7, a8⟩ m
theorem initX_of {K : PySem.W.Frag} {M C P x dx ki pl ro ba : Addr} {H : Hp} {ck cp cr cb : Bool} {d : Int} {ks ps : List Str} {rs : List RoadD} {bs : List (Str × Str)} {xs zs : List V} {Q : VK} {E : XK} (hP : TabG H P) (nx : H x = none) (ndx : H dx = none) (nex : dx ≠ x)
    (hk : SqK ck K H ki (ks.map V.str)) (hp : SqK cp K H pl (ps.map V.str)) (hr : SqK cr K H ro xs) (hrs : Paired (GItem K H) (rs.map itemG) xs) (hb : SqK cb K H ba zs) (hbs : Paired (GBar H) bs zs) (ok : PartsOk d ks ps rs bs)
    (k : MadeQ K M P x H d ks ps rs bs fun H' => Q .non H') : spInitX K M C P [.ref x, .int d, .ref ki, .ref pl, .ref ro, .ref ba] (L2.upd (L2.upd H dx (.own x)) x (.ins M dx [])) Q E :=
  initG_of hP nx ndx nex hk hp hr hrs hb (Paired.map' hbs fun _ _ m => m.gen) ok.sm (fun _ => k) (fun no => absurd ok no)
section
variable {Pg : Program} {w : World} {K : PySem.W.Frag} {mg : Str → Option Value} {base : Heap} {C P : Addr}
theorem mapA_binds {f : Addr} {fd : FuncData} {T1 T2 T : Addr} (F : FunD K "__init__" "Map.__init__" (defArgs sInit) (defBody sInit) (defScope sInit) [] [("places", V.ref T1), ("roads", V.ref T2), ("bars", V.ref T)] f fd) :
    ∃ mv : List Value, KBn K fd pInit 1 kMapA (fun us ws => gMapA us mv ws) (fun vs zs => gMapA vs (([] : List (Str × V)).map (·.2)) zs) := by
  refine FunD.kbinds0 F 1 kMapA [] gMapA (by simp) (by simp) ?_ ?_
  · intro vs mz zs us mv ws r1 r2 r3
    unfold gMapA
    refine r1.append (Vals.append ?_ r2)
    cases r3 with
    | nil => exact .nil
    | cons a r3 =>
      cases r3 with
      | nil => exact .nil
      | cons b r3 =>
        cases r3 with
        | nil => exact .nil
        | cons c r3 =>
          cases r3 with
          | nil => exact .nil
          | cons d r3 =>
            cases r3 with
            | nil => exact .nil
            | cons e r3 =>
              cases r3 with
              | nil => exact .cons a (.cons c (.cons b (.cons d (.cons e .nil))))
              | cons g r3 => exact .nil
  · intro D doc pm an cdv ct us mv ws h1 h2 h3
    match us, mv, ws, h1, h2, h3 with
    | [u], [], [a, b, c, d, e], _, _, _ =>
      exact rfl
theorem mapB_binds {f : Addr} {fd : FuncData} {T1 T2 T : Addr} (F : FunD K "__init__" "Map.__init__" (defArgs sInit) (defBody sInit) (defScope sInit) [] [("places", V.ref T1), ("roads", V.ref T2), ("bars", V.ref T)] f fd) :
    ∃ mv : List Value, KBn K fd pInit 1 kMapB (fun us ws => gMapB us mv ws) (fun vs zs => gMapB vs ([(("places" : Str), V.ref T1), ("roads", V.ref T2), ("bars", V.ref T)].map (·.2)) zs) := by
  refine FunD.kbinds0 F 1 kMapB [(("places" : Str), V.ref T1), ("roads", V.ref T2), ("bars", V.ref T)] gMapB (by simp) (by simp) ?_ ?_
  · intro vs mz zs us mv ws r1 r2 r3
    exact r1.append (Vals.append r3 r2)
  · intro D doc pm an cdv ct us mv ws h1 h2 h3
    match us, mv, ws, h1, h2, h3 with
    | [u], [m1, m2, m3], [a, b], _, _, _ =>
      exact ⟨_, _, _, _, _, _, rfl, rfl, _, _, _, _, _, _, rfl, rfl, _, _, _, _, _, _, rfl, rfl, rfl⟩
end
end W

set_option Elab.async false
set_option linter.all false
set_option maxRecDepth 100000
set_option maxHeartbeats 400000
namespace W
open PySem PySem.Spec PyProof.Rows L2 GxR MyG MyS
/-! ### Map.check_road, Map.road -/
abbrev sRoadM : Stmt := inClass (top 32) 2
abbrev sCheck : Stmt := inClass (top 32) 3
/-- an UnknownName with this name flies -/
def Unk (U : Addr) (H : Hp) (E : XK) (z : Str) : Prop := ∀ e, H e = none → E (.ref U) (some e) (L2.upd H e (.xd [("name", V.str z)]))
/-- UnknownName.__init__ -/
def spUInit (K : PySem.W.Frag) (U : Addr) : Sp := fun vs H Q _ => ∃ (a : Addr) (z : Str), vs = [.ref a, .str z] ∧ z.length ≤ 1000 ∧ H a = some (exo a U none) ∧ ∀ dx, H dx = none → dx ≠ a → Q .non (L2.upd (L2.upd H dx (exd dx [("name", V.str z)])) a (exo a U (some dx)))
def spCheck (K : PySem.W.Frag) (M U : Addr) : Sp := fun vs H Q E => ∃ (x : Addr) (z : Str) (d : Int) (ks ps : List Str) (rs : List RoadD) (bs : List (Str × Str)), vs = [.ref x, .str z] ∧ z.length ≤ 1000 ∧ MapAt K H M x d ks ps rs bs ∧
  ((∃ r ∈ rs, r.name = z) → Q .non H) ∧ ((∀ r ∈ rs, r.name ≠ z) → Unk U H E z)
def spRoadM (K : PySem.W.Frag) (M U : Addr) : Sp := fun vs H Q E => ∃ (x : Addr) (z : Str) (d : Int) (ks ps : List Str) (rs : List RoadD) (bs : List (Str × Str)), vs = [.ref x, .str z] ∧ z.length ≤ 1000 ∧ MapAt K H M x d ks ps rs bs ∧
  (∀ r ∈ rs, r.name = z → ∀ v, RoadAt K H r v → Q v H) ∧ ((∀ r ∈ rs, r.name ≠ z) → Unk U H E z)
theorem flown {H : Hp} {U a dx : Addr} {fs : List (Str × V)} (na : H a = none) (ndx : (L2.upd H a (exo a U none)) dx = none) : L2.upd (del (L2.upd (L2.upd (L2.upd H a (exo a U none)) dx (exd dx fs)) a (exo a U (some dx))) a) dx (.xd fs) = L2.upd H dx (.xd fs) := by
  funext b
  by_cases h1 : b = dx
  · subst h1; rw [upd_same, upd_same]
  · rw [upd_ne h1, upd_ne h1]
    by_cases h2 : b = a
    · subst h2; rw [del_same, na]
    · rw [del_ne h2, upd_ne h2, upd_ne h1, upd_ne h2]
section
variable {Pg : Program} {w : World} {K : PySem.W.Frag} {mg : Str → Option Value} {base : Heap} {C P : Addr}
theorem scCheck : FnScope ["self", "name"] ["self", "name"] (defScope sCheck) := ⟨rfl, rfl, rfl, by decide +kernel, rfl, by decide +kernel, by decide +kernel⟩
theorem ok_check {f M U fU : Addr} {fd fdU : FuncData} (F : Fun K "check_road" "Map.check_road" sCheck f fd) (TM : TxtM K M) (gU : mg "UnknownName" = some (.ref U)) (TU : OexC K U) (iU : PySem.W.findIn K (.ref U) "__init__" = some (some (.ref fU))) (tU : PySem.W.typeIn K (.ref fU) = some (.type "function"))
    (GU : FnOk Pg w K mg base CX0 1 fU fdU ["self", "name"] (spUInit K U)) (bU : Binds K fdU ["self", "name"] []) :
    FnOk Pg w K mg base (L2N.CX Pg w) 3 f fd ["self", "name"] (spCheck K M U) := by
  refine MyN.okN F scCheck (fun vs H Q E h => ?_) (fun cdv A outer s H vs Q E hr h => ?_)
  · obtain ⟨x, z, d, ks, ps, rs, bs, rfl, _⟩ := h
    rfl
  · obtain ⟨x, z, d, ks, ps, rs, bs, rfl, hz, hM, kQ, kE⟩ := h
    refine ⟨_, pss_one (ps_if (pt_cmp (pc_dnotin (u1 hr.units) (pv 1) (pe_fld (pv 0) rfl))) (pss_one (L2N.ps_raise rfl (L2N.takes_of rfl rfl rfl rfl) (MyN.mkO TU iU tU GU (hr.mono (by decide)) bU .nil pass0 (by rfl) gU (pa_cons (pv 1) pa_nil)))) pss_nil), ?_⟩
    obtain ⟨dx, fs, kk, pp, rr, D, bb, D2, ys, zs, hx, F7⟩ := hM
    obtain ⟨kvs, hD, hin, hno⟩ := F7.d
    refine ⟨_, rfl, _, rfl, x, M, dx, fs, _, rfl, hx, TM.cl, TM.n5, F7.f5, D, _, rfl, DGet.k (k := .inr z) hD, _, rfl, ?_⟩
    by_cases ex : ∃ r ∈ rs, r.name = z
    · obtain ⟨r, hr1, hr2⟩ := ex
      obtain ⟨v, hv, _⟩ := hin r hr1
      rw [hr2] at hv
      rw [hv]
      exact iteF (kQ ⟨r, hr1, hr2⟩)
    · have no : ∀ r ∈ rs, r.name ≠ z := fun r hr e => ex ⟨r, hr, e⟩
      rw [hno z no]
      refine iteT ⟨_, rfl, by simp, fun a na => ⟨a, z, rfl, hz, upd_same, fun dx2 nd ne => ⟨rfl, dx2, [("name", .str z)], upd_same, ?_, ?_, ?_⟩⟩⟩
      · rw [upd_ne ne]; exact upd_same
      · rw [upd_ne ne] at nd; exact nd
      · rw [flown na nd]
        rw [upd_ne ne] at nd
        exact kE no dx2 nd
theorem scRoadM : FnScope ["self", "name"] ["self", "name"] (defScope sRoadM) := ⟨rfl, rfl, rfl, by decide +kernel, rfl, by decide +kernel, by decide +kernel⟩
theorem ok_roadM {f M U fC : Addr} {fd fdC : FuncData} (F : Fun K "road" "Map.road" sRoadM f fd) (TM : TxtM K M) (mC : Meth K M "check_road" fC)
    (GC : FnOk Pg w K mg base (L2N.CX Pg w) 3 fC fdC ["self", "name"] (spCheck K M U)) (bC : Binds K fdC ["self", "name"] []) :
    FnOk Pg w K mg base (L2N.CX Pg w) 4 f fd ["self", "name"] (spRoadM K M U) := by
  refine MyN.okN F scRoadM (fun vs H Q E h => ?_) (fun cdv A outer s H vs Q E hr h => ?_)
  · obtain ⟨x, z, d, ks, ps, rs, bs, rfl, _⟩ := h
    rfl
  · obtain ⟨x, z, d, ks, ps, rs, bs, rfl, hz, hM, kQ, kE⟩ := h
    refine ⟨_, pss_cons (ps_expr (pe_meth (E := E) (pv 0) TM.cl mC GC hr bC .nil (L2N.passes_call (L2N.takes_of rfl rfl rfl rfl) (fun _ _ _ _ h => h)) (pa_cons (pv 1) pa_nil)))
      (pss_one (ps_ret (pe_dget (u1 hr.units) (pe_fld (pv 0) rfl) (pv 1) (fun _ _ => rfl)))), ?_⟩
    have hM2 := hM
    obtain ⟨dx, fs, kk, pp, rr, D, bb, D2, ys, zs, hx, F7⟩ := hM
    obtain ⟨kvs, hD, hin, hno⟩ := F7.d
    refine ⟨_, rfl, x, dx, fs, rfl, hx, F7.f0 _ (by decide +kernel), _, rfl, x, z, d, ks, ps, rs, bs, rfl, hz, hM2, fun ⟨r, hr1, hr2⟩ => ?_, kE⟩
    obtain ⟨v, hv, m⟩ := hin r hr1
    rw [hr2] at hv
    refine ⟨_, rfl, x, M, dx, fs, _, rfl, hx, TM.cl, TM.n5, F7.f5, _, rfl, D, v, rfl, ?_, kQ r hr1 hr2 v m⟩
    rw [← hv]
    exact DGet.k (k := .inr z) hD
end
end W

set_option Elab.async false
set_option linter.all false
set_option maxRecDepth 100000
set_option maxHeartbeats 800000
namespace MyR
open PySem PySem.Spec PyProof.Rows L2
/-! ### repr of data, where no repr is under way -/
def rRep (K : PySem.W.Frag) : List V → Hp → VK → Prop := fun xs H Q => ∃ (a : Addr) (d : PyData), xs = [.ref a] ∧ Dp K H (.ref a) d ∧ d.showable = true ∧ d.hasDict = false ∧ d.depth ≤ 8 ∧ d.shown.length ≤ sizeLine ∧ Q (.str d.shown) H
theorem call_repD {X : Cx} (hg : X.A.guards = some []) (hu : X.A.units + 64 < cLine) : CallR X (.builtin "repr") (rRep X.K) := by
  intro pins s σ H xs us Q I r h
  obtain ⟨a, d, rfl, hd, hs, hn, hp, hz, q⟩ := h
  obtain ⟨u, rfl, r1⟩ := vals1 r
  obtain rfl : u = Value.ref a := r1
  obtain ⟨as, rd⟩ := Dp.reads I d _ _ hd rfl
  exact repr_of_reads' rd hs (fun e => by rw [hn] at e; cases e) hg (by omega) (fun _ _ e => e) (fun h' u tk k => ⟨.str _, H, I.kept k, ⟨u, rfl⟩, q⟩) hz
end MyR

set_option Elab.async false
set_option linter.all false
set_option maxRecDepth 100000
set_option maxHeartbeats 2000000
namespace MyR
open PySem PySem.Spec PyProof.Rows L2
/-! ### the law's own call: here, and only here, it is known that no repr is under way -/
/-- f called by the caller of the law keeps sp -/
def RunG (P : Program) (w : World) (K : PySem.W.Frag) (mg : Str → Option Value) (base : Heap) (CX : CXT) (f : Addr) (sp : Sp) : Prop :=
  ∀ (s : Shared) (H : Hp) (a : Addr) (Q : VK) (E : XK), Env0 P w K mg base callerA [] s H → sp [.ref a] H Q E → codeAny (model P w) callerA (.call (.ref f) ⟨[.ref a], []⟩) (CR CX [] P w H s Q E) s
section
variable {P : Program} {w : World} {K : PySem.W.Frag} {mg : Str → Option Value} {base : Heap}
theorem runG_of {CX : CXT} {f : Addr} {name qual x : Str} {params : Arguments} {body : List Stmt} {scope : Scope} {dV kV doc pm cdv ct oc : Value} {an od : Option Addr} {osl : Array (Option Value)} {N : List Str} {sp : Sp}
    (lk : K.lookup f = some ⟨oc, od, .func (PySem.W.fnOf name qual params body scope dV kV doc pm an cdv ct), osl⟩) (hcd : PySem.W.codeIn K cdv qual = true) (S : FnScope N [x] scope)
    (hb : ∀ (s : Shared) (u : Value), BindsTo s (PySem.W.fnOf name qual params body scope dV kV doc pm an cdv ct) ⟨[u], []⟩ [(x, u)]) (hr : Room 8 callerA)
    (hbody : ∀ (s : Shared) (H : Hp) (a : Addr) (Q : VK) (E : XK), sp [.ref a] H Q E → ∃ t, PSs (cxOf CX P w K mg base N qual scope f cdv callerA [] s H E) body t ∧ t { nx := fun _ H' => Q .non H', rt := Q } (start N [.ref a]) H) :
    RunG P w K mg base CX f sp := fun s H a Q E e0 hsp => by
  have up : ∀ b o, base.get? b = some o → s.heap.get? b = some o := fun b o e => (e0.bs b o e).1
  have KX : K.In s.heap := e0.mod.kin.keeps up
  have hx : scope.names.lookup x = some .local ∨ (scope.names.lookup x = some .cell ∧ ((cellsFrom (s.heap.objs.size + 1) scope.names []).lookup x).isSome = true) :=
    (S.par x (List.mem_singleton.mpr rfl)).imp id fun q => ⟨q, PySem.W.cellsFrom_some _ _ _ (.inl q)⟩
  refine codeAny_call_function hr.depth (KX _ _ lk) rfl S.co S.gen rfl (PySem.W.codeRec_of KX hcd) (hb s (.ref a) _ _ _ _ ?_)
  refine wpAny_newFunctionEnv_cells S.kind (fun y hy => by rw [List.mem_singleton.mp hy]; exact hx) fun env he s1 st => ?_
  subst he
  refine ⟨(e0.mod.nolimit.keeps up).keeps st.toInCall.keep, codeAny_func ?_⟩
  obtain ⟨t, ht, hq⟩ := hbody s H a Q E hsp
  have I : Inv (cxOf CX P w K mg base N qual scope f cdv callerA [] s H E) [] (start N [.ref a]) H s1 := inv_start S hr.hd e0 rfl (.cons rfl .nil) st
  have out : ∀ {σ2 : L2.St} {H2 : Hp} {s2 : Shared} {v : V} {u : Value}, Inv (cxOf CX P w K mg base N qual scope f cdv callerA [] s H E) [] σ2 H2 s2 → RelV v u → Q v H2 → CE [] P w H s Q u s2 :=
    fun {σ2 H2 s2 v u} J rv q => ⟨v, H2, J.os, J.bare, J.base, J.hok, rv, q⟩
  refine wpAny_mono (ht.run [] s1 _ H _ I hq) (fun fl s2 hs => ?_) fun _ _ z => z
  match fl, hs with
  | .ret u, ⟨v, σ2, H2, J, rv, q⟩ => exact out J rv q
  | .next, ⟨σ2, H2, J, q⟩ => exact out (v := V.non) (u := Value.none) J rfl q
  | .brk, ⟨_, _, _, z⟩ => exact z.elim
  | .cont, ⟨_, _, _, z⟩ => exact z.elim
/-- what is tracked at the top: the one table, and the script where it is not written down -/
def topH (K : PySem.W.Frag) (T a : Addr) (o : Obj) (xs : List V) : Hp := fun b => if b = T then some (.tbl #[]) else if b = a ∧ K.lookup a = none then some (.frz o (.lst xs)) else none
theorem topH_cases {T a b : Addr} {o : Obj} {xs : List V} {u : HO} (h : topH K T a o xs b = some u) : (b = T ∧ u = .tbl #[]) ∨ (b ≠ T ∧ b = a ∧ K.lookup a = none ∧ u = .frz o (.lst xs)) := by
  unfold topH at h
  by_cases h1 : b = T
  · rw [if_pos h1] at h
    exact .inl ⟨h1, (Option.some.inj h).symm⟩
  · rw [if_neg h1] at h
    by_cases h2 : b = a ∧ K.lookup a = none
    · rw [if_pos h2] at h
      exact .inr ⟨h1, h2.1, h2.2, (Option.some.inj h).symm⟩
    · rw [if_neg h2] at h
      cases h
theorem top_call {mb : Str → Option Value} {CX : CXT} {f a c T : Addr} {sp : Sp} {s : Shared} {vs : List Value} {ns : List Int} (KX : K.In s.heap) (G : s.heap.Ns mainGlobals mg) (B : s.heap.Ns builtinsNs mb) (hB : ∀ x : Str, x ≠ "__name__" → mb x = bootBuiltins x) (lim : s.heap.NoLimit) (ng : s.gens = #[])
    (eT : s.heap.get? T = some { cls := .none, data := .fields #[] }) (nT : K.lookup T = none) (C : PySem.W.CodeHd s.heap c T)
    (hbm : ∃ (bm : Addr) (ob : Obj), mg "__builtins__" = some (.ref bm) ∧ bm ≠ builtinsNs ∧ s.heap.get? bm = some ob ∧ ob.cls = .type "module" ∧ ob.dict = some builtinsNs ∧ ob.data = .plain)
    (ea : s.heap.get? a = some { cls := .type "list", data := .seq vs.toArray }) (hi : IntsAre vs ns) (hl : ns.length ≤ sizeLine)
    (R : ∀ base : Heap, K.In base → base.Ns mainGlobals mg → LamX.TabB base mg c T → RunG P w K mg base CX f sp)
    (hsp : ∀ H : Hp, H T = some (.tbl #[]) → SqL K H a (ns.map V.int) → sp [.ref a] H (fun v _ => v = .bl true) fun _ _ _ => False)
    (no : ∀ H e s', CX [] H s (fun _ _ _ => False) e s' → False) :
    codeAny (model P w) callerA (.call (.ref f) ⟨[.ref a], []⟩) (fun r s' => r = .ok (.ret (.bool true)) ∧ OldK s.heap s'.heap ∧ s'.os = s.os ∧ AllBare s'.gens) s := by
  have rv := vals_ints hi
  have nz : a ≠ T := fun z => by
    rw [z, eT] at ea
    cases ea
  obtain ⟨H, eH⟩ : ∃ H, H = topH K T a { cls := .type "list", data := .seq vs.toArray } (ns.map V.int) := ⟨_, rfl⟩
  have tr : ∀ {b : Addr} {u : HO}, H b = some u → _ := fun {b u} h => topH_cases (by rw [eH] at h; exact h)
  have HT : H T = some (.tbl #[]) := by
    rw [eH]
    exact if_pos rfl
  have hS : SqL K H a (ns.map V.int) := by
    cases q : K.lookup a with
    | none => exact .inl (.inr ⟨_, by rw [eH]; exact (if_neg nz).trans (if_pos ⟨rfl, q⟩)⟩)
    | some o =>
      have e := KX a o q
      rw [ea] at e
      cases e
      exact .inr ⟨_, vs.toArray, _, q, rfl, rfl, rfl, by rw [List.size_toArray, hi.length]; exact hl, by simpa using rv⟩
  have ok : HOk P w H s.heap := fun b u h => by
    rcases tr h with ⟨rfl, rfl⟩ | ⟨_, rfl, _, rfl⟩
    · exact eT
    · exact ⟨ea, by rw [List.length_map]; exact hl, vs, _, rv, ea⟩
  have gone : ∀ {b : Addr} {o : Obj}, s.heap.get? b = some o → (∀ xs n, o.data ≠ .seq xs n) → o.data ≠ .fields #[] → H b = none := fun {b o} e d1 d2 => by
    cases h : H b with
    | none => rfl
    | some u =>
      rcases tr h with ⟨rfl, _⟩ | ⟨_, rfl, _, _⟩
      · rw [eT] at e
        cases e
        exact (d2 rfl).elim
      · rw [ea] at e
        cases e
        exact (d1 _ _ rfl).elim
  have toB : ∀ {b : Addr} {m : Str → Option Value}, s.heap.Ns b m → (hidT s.heap H).Ns b m := fun {b m} ⟨o, es, ep, e, d, r⟩ =>
    ⟨o, es, ep, hidT_get e (gone e (fun xs n z => by rw [d] at z; cases z) (fun z => by rw [d] at z; cases z)), d, r⟩
  have KB : K.In (hidT s.heap H) := fun b o e => hidT_get (KX b o e) (by
    cases h : H b with
    | none => rfl
    | some u =>
      rcases tr h with ⟨rfl, _⟩ | ⟨_, rfl, k, _⟩
      · rw [nT] at e; cases e
      · rw [k] at e; cases e)
  have TB : LamX.TabB (hidT s.heap H) mg c T := by
    refine ⟨?_, ?_, fun z => ?_⟩
    · obtain ⟨o, us, file, tf, flags, tg, inF, text, tt, e1, r1, r2, r3, r⟩ := C
      exact ⟨o, us, file, tf, flags, tg, inF, text, tt, hidT_get e1 (gone e1 (fun xs n z => by rw [r2] at z; cases z) (fun z => by rw [r2] at z; cases z; simp at r3)), r1, r2, r3, r⟩
    · obtain ⟨bm, ob, b1, b2, b3, b4, b5, b6⟩ := hbm
      refine ⟨bm, ob, b1, b2, fun z => ?_, fun z => ?_, hidT_get b3 (gone b3 (fun xs n z => by rw [b6] at z; cases z) (fun z => by rw [b6] at z; cases z)), b4, b5, b6⟩
      · obtain ⟨o, es, ep, e, d, _⟩ := G
        rw [z, e] at b3
        cases b3
        rw [d] at b6
        cases b6
      · rw [z, eT] at b3
        cases b3
        cases b6
    · obtain ⟨o, es, ep, e, d, _⟩ := G
      rw [z, eT] at e
      cases e
      cases d
  have e0 : Env0 P w K mg (hidT s.heap H) callerA [] s H :=
    ⟨rfl, ⟨KB, toB G, ⟨mb, toB B, hB⟩, let ⟨mc, h1, h2⟩ := lim; ⟨mc, toB h1, h2⟩⟩, fun b o e => of_hidT e, Nat.le_of_eq (hidT_size _ _), trivial, fun b hb => absurd (show b ∈ ([] : List Addr) from hb) (by simp), ok, .of_eq ng⟩
  refine codeAny_mono (R _ KB (toB G) TB s H a _ _ e0 (hsp H HT hS)) fun r s' h => ?_
  match r, h with
  | .error e, h => exact (no H e s' h).elim
  | .ok .next, h => exact False.elim h
  | .ok .brk, h => exact False.elim h
  | .ok .cont, h => exact False.elim h
  | .ok (.ret u), ⟨v, H', os, bare, un, ok', r', q⟩ =>
    obtain rfl : v = .bl true := q
    obtain rfl : u = Value.bool true := r'
    obtain ⟨more, hm⟩ : ∃ more : Array Value, s'.heap.get? T = some { cls := .none, data := .fields more } := by
      obtain ⟨more, z⟩ := un.tbls T #[] HT
      exact ⟨_, ok' T _ z⟩
    have old : ∀ b o, b ≠ T → s.heap.get? b = some o → s'.heap.get? b = some o := fun b o ne e => by
      cases h : H b with
      | none => exact un.keep b o e h (fun z => absurd (show b ∈ ([] : List Addr) from z) (by simp)) (by simp)
      | some u =>
        rcases tr h with ⟨z, _⟩ | ⟨_, rfl, _, rfl⟩
        · exact absurd z ne
        · obtain ⟨e2, _⟩ := ok' b _ (un.frzs b _ _ h)
          rw [ea] at e
          cases e
          exact e2
    refine ⟨rfl, ⟨fun b o e => ?_, fun b o e => ?_⟩, os, bare⟩
    · by_cases hb : b = T
      · subst hb
        rw [eT] at e
        cases e
        exact .inr (.inl ⟨(C.tab eT).isCodeTable, rfl, #[], more, rfl, by rw [Array.empty_append]; exact hm⟩)
      · exact .inl (old b o hb e)
    · by_cases hb : b = T
      · rw [hb]
        exact ⟨_, hm⟩
      · exact ⟨o, old b o hb e⟩
end

/-- what the law's end asks: the table T of the code object c, and the promise sp -/
def LawG (l : PySem.W.OpenLaw) (w : World) (K : PySem.W.Frag) (CX : CXT) (n : Nat) (mg : Str → Option Value) (fa : Addr) (h : Heap) : Prop :=
  ∃ (c T : Addr) (sp : Sp), h.get? T = some { cls := .none, data := .fields #[] } ∧ K.lookup T = none ∧ PySem.W.CodeHd h c T ∧
    (∀ (H : Hp) (a : Addr) (ns : List Int), ns.length ≤ n → H T = some (.tbl #[]) → SqL K H a (ns.map V.int) → sp [.ref a] H (fun v _ => v = .bl true) fun _ _ _ => False) ∧
    ∀ base : Heap, K.In base → base.Ns mainGlobals mg → LamX.TabB base mg c T → RunG l.prog w K mg base CX fa sp
theorem walk_ofG {l : PySem.W.OpenLaw} {n : Nat} {q : Program} {loose : List Str} {XP : (Str → Option Value) → Heap → Prop} {YP : World → Heap → Prop} {d : DefRec} {K : Params → PySem.W.Frag} {CX : World → CXT} (names : List Str)
    (hn : l.most = some n) (hn2 : n ≤ sizeLine) (hdf : d.params.defaults = []) (hrec : names.all (fun y => (recsOf q).any fun e => e.name == y) = true) (hY : ∀ (w : World) (h : Heap), YP w h → (K w.params).In h)
    (F : ∀ (w : World) (mg : Str → Option Value) (fa : Addr) (h : Heap), YP w h → (K w.params).In h → h.Ns mainGlobals mg → mg d.name = some (.ref fa) → (∀ y ∈ names, ∀ f, mg y = some (.ref f) → LamX.OwnTab (K w.params) f h) → LawG l w (K w.params) (CX w) n mg fa h)
    (no : ∀ (w : World) (H : Hp) (s : Shared) (e : Value) (s' : Shared), CX w [] H s (fun _ _ _ => False) e s' → False) :
    PySem.W.WalkO q loose XP YP l.row.toRowW d [] (fun f vs => PySem.call f vs) := by
  refine Att.attach_callB hn hdf fun w s₀ s₁ mg mb fa o pm cd doc a vs ns G Y ho hd hcd hmg hobj hints hlen hbits hg => ?_
  have KX := hY w _ Y
  obtain ⟨c, T, sp, eT, nT, C, hsp, R⟩ := F w mg fa _ Y KX G.T.g hmg (fun y hy f hf c P o1 fd1 e dd vs1 sl k1 k2 k3 k4 k5 => by
    obtain ⟨dL, hm, hn1⟩ := List.any_eq_true.mp (List.all_eq_true.mp hrec y hy)
    obtain ⟨a', o', fd', c', P', h1, h2, h3, h4, h5, h6⟩ := G.T.tab dL hm
    rw [beq_iff_eq.mp hn1, hf] at h1
    cases h1
    have g1 := KX _ _ k1
    rw [g1] at h2
    cases h2
    rw [k2] at h3
    cases h3
    rw [k3] at h4
    cases h4
    obtain ⟨⟨oc, vc, e1, _, e3, e4⟩, hP⟩ := h6
    have g2 := KX _ _ k4
    rw [g2] at e1
    cases e1
    cases e3
    rw [k5] at e4
    cases e4
    exact hP)
  exact top_call KX G.T.g G.T.b G.T.builtins G.T.nolimit hg eT nT C G.T.bmain hobj hints (Nat.le_trans hlen hn2) R (fun H hH hS => hsp H a ns hlen hH hS) fun H e s' => no w H s₁ e s'
end MyR

set_option Elab.async false
set_option linter.all false
set_option maxRecDepth 100000
set_option maxHeartbeats 800000
namespace W
open PySem PySem.Spec PyProof.Rows L2 GxR MyG MyS
/-! ### isinstance of a caught error with fields -/
structure ExcD (K : PySem.W.Frag) (D : Addr) : Prop where
  cl : (PySem.W.clsIn K D).isSome = true
  hg : PySem.W.findIn K (.ref D) "__getattribute__" = some (some (.builtin "BaseException.__getattribute__"))
  hk : PySem.W.findIn K (.ref D) "__getattr__" = some none
  hs : PySem.W.subIn K (.ref D) (.type "BaseException") = some true
  ha : PySem.W.findIn K (.ref D) "__class__" = some (some (.builtin "object.__class__"))
  hn : PySem.W.specialIn K (.builtin "object.__class__") "__get__" = some (some (.builtin "getset_descriptor.__get__"))
  ht : PySem.W.takesIn K (.builtin "object.__class__") = some true
  hm : PySem.W.mroIn K D (.type "object") = some true
def rIsD (K : PySem.W.Frag) (D a : Addr) (cls : Value) (d : Option Addr) : List V → Hp → VK → Prop := fun xs H Q => ∃ (c : V) (cv : Value) (dd : Addr) (fs : List (Str × V)) (b : Bool), xs = [.ref a, c] ∧ cls = .ref D ∧ d = some dd ∧ (∀ u, RelV c u → u = cv) ∧ H dd = some (.xd fs) ∧ PySem.W.kitOne K (.ref D) cv = some b ∧ Q (.bl b) H
theorem call_isD {X : Cx} {a D : Addr} {cls : Value} {d : Option Addr} {oe : Obj} {pn : List (Addr × Obj)} (C : ExcD X.K D) (hz : Zc cls d oe) (hf : ∃ vs, oe.data = .fields vs) : CallR (X.suite a ((a, oe) :: pn)) (.builtin "isinstance") (rIsD X.K D a cls d) := by
  intro pins s σ H xs us Q I r h
  obtain ⟨c, cv, dd, fs, b, rfl, rfl, rfl, hcv, ed, e, q⟩ := h
  obtain ⟨u1, u2, rfl, r1, r2⟩ := vals2 r
  obtain rfl : u1 = Value.ref a := r1
  obtain rfl : u2 = cv := hcv _ r2
  obtain ⟨hget, _⟩ := I.pin (a, oe) (List.mem_append.mpr (.inl List.mem_cons_self))
  obtain ⟨vs, hd⟩ := hf
  have hx : ObjOk X.prog X.w H s.heap dd (.xd fs) := I.hok dd _ ed
  obtain ⟨mA, hns, hr⟩ := hx
  obtain ⟨od, ho, hl⟩ := lookIn_ns hns
  have J : PySem.W.InstAt s.heap a oe D (some od) := ⟨hget, hz.1, by unfold PySem.W.notCls; rw [hd] <;> rfl, by rw [hz.2]; exact ho⟩
  exact PySem.W.kia_one (PySem.W.kitx_exc C.cl C.hg C.hk C.hs C.ha C.hn C.ht C.hm) I.kIn J e (fun z => nomatch z) fun tk => ⟨.bl b, H, I.kept (t' := tk) fun _ _ z => z, rfl, q⟩
/-! ### super().__init__(..) of an own error: the bound __init__ called -/
section
variable {prog : Program} {w : World} {A : Around} {E : Value → Shared → Prop} {h : Heap} {g : Array GenState} {d : Drawn} {t : Nat} {os : OsState}
variable {nm q : Str} {C N : Addr} {bs bm bmB : List Value} {hdct : Bool} {sn : List Str} {sub : List Value} {ab : Bool} {col : Option Bool} {dd : Option Addr} {k0 k1 k2 k3 k5 : Option Value} {newId initId : String} {B : String}
theorem call_mw (FB : ExcBaseFacts B newId initId bmB) {u a t0 : Addr} {rest : List Value} {Q : Value → Shared → Prop} (hu : h.get? u = some (PySem.W.kxs_mw initId a)) (hC : h.get? C = some (excClassObj nm q C N bs bm hdct sn sub ab col dd k0 k1 k2 k3 k5 newId)) (he : h.get? a = some (PySem.HandSPX.excO C t0)) (hz : rest.length ≤ sizeLine)
    (hq : ∀ h' t1, (∀ b o, b ≠ a → h.get? b = some o → h'.get? b = some o) → h'.get? a = some (PySem.HandSPX.excO C t1) → Q .none ⟨h', g, d, t, os⟩) :
    wpAny (model prog w) A (call (.ref u) rest) Q E ⟨h, g, d, t, os⟩ := by
  refine wpAny_call (codeAny_of_tree ?_)
  show wpAny _ A.in1 (callAny (.ref u) ⟨rest, []⟩) _ _ _
  simp only [callAny]
  refine wpAny_bind (wpAny_load hu ?_)
  simp only [PySem.W.kxs_mw, show (Value.type "method-wrapper" == Value.type "method" || Value.type "method-wrapper" == Value.type "builtin_function_or_method" || Value.type "method-wrapper" == Value.type "method-wrapper") = true by decide, if_true]
  refine PySem.W.KFB.if_so (by decide) ?_
  refine wpAny_bind (PySem.W.check_bound_init FB.toExcCallFacts hC he rfl ?_)
  refine wpAny_bind (wpAny_pure (wpAny_pure ?_))
  refine ⟨plainId_quiet FB.init.plain _, codeAny_builtin FB.initEntry ?_⟩
  exact PySem.W.exc_init_tree (cls := .ref C) (t0 := t0) (dv := none) (c2 := .none) (c3 := .none) (b4 := .bool false) he hz fun h' k e1 _ => hq h' _ k e1
end
end W

set_option Elab.async false
set_option linter.all false
set_option maxRecDepth 100000
set_option maxHeartbeats 1000000
namespace W
open PySem PySem.Spec PyProof.Rows L2 GxR MyG MyS SqX
/-! ### the questions of a map: answered, or UnknownName -/
abbrev sCheckP : Stmt := inClass (top 32) 4
abbrev sCheckK : Stmt := inClass (top 32) 5
abbrev sRFrom : Stmt := inClass (top 32) 6
abbrev sRTo : Stmt := inClass (top 32) 7
abbrev sBarred : Stmt := inClass (top 32) 8
abbrev sMayF : Stmt := inClass (top 32) 9
abbrev sFoll : Stmt := inClass (top 32) 10
abbrev sMayU : Stmt := inClass (top 32) 11
theorem pe_fldK {X : Cx} {e : Expr} {f : Str} {pos : Pos} {ta : TE} {K : PySem.W.Frag} (hK : X.K = K) (he : PE X e ta) (hb : attributeBase e f X.env (eval e X.env) = eval e X.env) : PE X (.Attribute e f pos) (tFld K ta f) := by
  subst hK
  exact pe_fld he hb
theorem MapAt.grew {K : PySem.W.Frag} {H H' : Hp} {M x P : Addr} {d : Int} {ks ps : List Str} {rs : List RoadD} {bs : List (Str × Str)} (g : Grew P H H') (h : TabG H P) (m : MapAt K H M x d ks ps rs bs) : MapAt K H' M x d ks ps rs bs := by
  obtain ⟨dx, fs, kk, pp, rr, D, bb, D2, ys, zs, hx, F⟩ := m
  obtain ⟨kvs, hd, hin⟩ := F.db
  exact ⟨dx, fs, kk, pp, rr, D, bb, D2, ys, zs, g.get h hx (fun _ z => by cases z), ⟨F.f0, F.f1, F.f2, F.f3, F.f4, F.f5, F.f6, F.f7, g.tup h F.k, g.tup h F.p, g.tup h F.r, Paired.map' F.ry (fun _ _ m => m.grew g h), F.d.grew g h, g.tup h F.b, Paired.map' F.bz (fun _ _ m => m.grew g h), ⟨kvs, g.get h hd (fun _ z => by cases z), hin⟩⟩⟩
def namesV (rs : List RoadD) : List V := (rs.map (·.name)).map V.str
theorem filter_take {α : Type} {p : α → Bool} {l : List α} {i : Nat} {a : α} (h : l[i]? = some a) : (l.take (i + 1)).filter p = if p a = true then (l.take i).filter p ++ [a] else (l.take i).filter p := by
  rw [List.take_succ, h, List.filter_append]
  by_cases c : p a = true
  · rw [if_pos c]
    simp [c]
  · rw [if_neg c]
    simp [c]
theorem namesV_app (a b : List RoadD) : namesV (a ++ b) = namesV a ++ namesV b := by
  unfold namesV
  rw [List.map_append, List.map_append]
theorem namesV_len (a : List RoadD) : (namesV a).length ≤ a.length := by
  unfold namesV
  rw [List.length_map, List.length_map]
  exact Nat.le_refl _
def Known (rs : List RoadD) (z : Str) : Prop := ∃ r ∈ rs, r.name = z
theorem unknown {rs : List RoadD} {z : Str} (h : ¬ Known rs z) : ∀ r ∈ rs, r.name ≠ z := fun r hr e => h ⟨r, hr, e⟩
structure MIn (K : PySem.W.Frag) (H : Hp) (M P x : Addr) (d : Int) (ks ps : List Str) (rs : List RoadD) (bs : List (Str × Str)) : Prop where
  m : MapAt K H M x d ks ps rs bs
  t : TabG H P
  ok : PartsOk d ks ps rs bs
theorem MIn.nd {K : PySem.W.Frag} {H : Hp} {M P x : Addr} {d : Int} {ks ps : List Str} {rs : List RoadD} {bs : List (Str × Str)} (h : MIn K H M P x d ks ps rs bs) : (rs.map (·.name)).Nodup := h.ok.r.nd
theorem MIn.l60 {K : PySem.W.Frag} {H : Hp} {M P x : Addr} {d : Int} {ks ps : List Str} {rs : List RoadD} {bs : List (Str × Str)} (h : MIn K H M P x d ks ps rs bs) : rs.length ≤ 60 := h.ok.r.len
theorem MIn.nl {K : PySem.W.Frag} {H : Hp} {M P x : Addr} {d : Int} {ks ps : List Str} {rs : List RoadD} {bs : List (Str × Str)} (h : MIn K H M P x d ks ps rs bs) : ∀ r ∈ rs, r.name.length ≤ 1000 := fun r hr => Nat.le_trans (isNm_len (List.all_eq_true.mp h.ok.r.nm _ (List.mem_map.mpr ⟨r, hr, rfl⟩))) (by decide)
theorem MIn.gl {K : PySem.W.Frag} {H : Hp} {M P x : Addr} {d : Int} {ks ps : List Str} {rs : List RoadD} {bs : List (Str × Str)} (h : MIn K H M P x d ks ps rs bs) : ∀ r ∈ rs, r.goal.length ≤ 1000 := fun r hr => Nat.le_trans (isNm_len (List.all_eq_true.mp h.ok.pn _ (h.ok.r.ok r hr).g)) (by decide)
theorem MIn.grew {K : PySem.W.Frag} {H H' : Hp} {M P x : Addr} {d : Int} {ks ps : List Str} {rs : List RoadD} {bs : List (Str × Str)} (h : MIn K H M P x d ks ps rs bs) (g : Grew P H H') : MIn K H' M P x d ks ps rs bs :=
  ⟨MapAt.grew g h.t h.m, g.tab, h.ok⟩
def spChkL (K : PySem.W.Frag) (M U : Addr) (f : List Str → List Str → List Str) : Sp := fun vs H Q E => ∃ (x : Addr) (z : Str) (d : Int) (ks ps : List Str) (rs : List RoadD) (bs : List (Str × Str)), vs = [.ref x, .str z] ∧ z.length ≤ 1000 ∧ MapAt K H M x d ks ps rs bs ∧
  (z ∈ f ks ps → Q .non H) ∧ (z ∉ f ks ps → Unk U H E z)
def selK (ks _ps : List Str) : List Str := ks
def selP (_ks ps : List Str) : List Str := ps
def spBarredB (K : PySem.W.Frag) (M U P : Addr) : Sp := fun vs H Q E => ∃ (x : Addr) (a b : Str) (d : Int) (ks ps : List Str) (rs : List RoadD) (bs : List (Str × Str)), vs = [.ref x, .str a, .str b] ∧ a.length ≤ 1000 ∧ b.length ≤ 1000 ∧ MIn K H M P x d ks ps rs bs ∧
  (Known rs a → Known rs b → ∀ H', Grew P H H' → Q (.bl (decide ((a, b) ∈ bs))) H') ∧ (¬ Known rs a → Unk U H E a) ∧ (Known rs a → ¬ Known rs b → Unk U H E b)
def spMayFB (K : PySem.W.Frag) (M U P : Addr) : Sp := fun vs H Q E => ∃ (x : Addr) (a b : Str) (d : Int) (ks ps : List Str) (rs : List RoadD) (bs : List (Str × Str)), vs = [.ref x, .str a, .str b] ∧ a.length ≤ 1000 ∧ b.length ≤ 1000 ∧ MIn K H M P x d ks ps rs bs ∧
  (∀ r1 ∈ rs, r1.name = a → ∀ r2 ∈ rs, r2.name = b → ∀ H', Grew P H H' → Q (.bl (decide (r1.goal = r2.start) && !decide ((a, b) ∈ bs))) H') ∧ (¬ Known rs a → Unk U H E a) ∧ (Known rs a → ¬ Known rs b → Unk U H E b)
def spMayUB (K : PySem.W.Frag) (M U P : Addr) : Sp := fun vs H Q E => ∃ (x : Addr) (a b : Str) (d : Int) (ks ps : List Str) (rs : List RoadD) (bs : List (Str × Str)), vs = [.ref x, .str a, .str b] ∧ a.length ≤ 1000 ∧ b.length ≤ 1000 ∧ MIn K H M P x d ks ps rs bs ∧
  (a ∈ ks → ∀ r ∈ rs, r.name = b → Q (.bl (decide (a ∈ r.users))) H) ∧ (a ∉ ks → Unk U H E a) ∧ (a ∈ ks → ¬ Known rs b → Unk U H E b)
def spPlaceB (K : PySem.W.Frag) (M U P : Addr) (f : RoadD → Str) : Sp := fun vs H Q E => ∃ (x : Addr) (z : Str) (d : Int) (ks ps : List Str) (rs : List RoadD) (bs : List (Str × Str)), vs = [.ref x, .str z] ∧ z.length ≤ 1000 ∧ MIn K H M P x d ks ps rs bs ∧
  (z ∈ ps → ∀ H' p, Grew P H H' → H p = none → H' p = some (.lst (namesV (rs.filter fun r => decide (f r = z)))) → Q (.ref p) H') ∧ (z ∉ ps → Unk U H E z)
def spFollB (K : PySem.W.Frag) (M U P : Addr) : Sp := fun vs H Q E => ∃ (x : Addr) (z : Str) (d : Int) (ks ps : List Str) (rs : List RoadD) (bs : List (Str × Str)), vs = [.ref x, .str z] ∧ z.length ≤ 1000 ∧ MIn K H M P x d ks ps rs bs ∧
  (∀ r0 ∈ rs, r0.name = z → ∀ H' p, Grew P H H' → H p = none → H' p = some (.lst (namesV (rs.filter fun r => decide (r.start = r0.goal) && !decide ((z, r.name) ∈ bs)))) → Q (.ref p) H') ∧ (¬ Known rs z → Unk U H E z)
section
variable {Pg : Program} {w : World} {K : PySem.W.Frag} {mg : Str → Option Value} {base : Heap} {C P : Addr}
theorem raise_end {H : Hp} {U a : Addr} {E : XK} {z : Str} (na : H a = none) (kE : Unk U H E z) :
    ∀ dx, (L2.upd H a (exo a U none)) dx = none → dx ≠ a → ∀ H2, H2 = L2.upd (del (L2.upd (L2.upd (L2.upd H a (exo a U none)) dx (exd dx [("name", V.str z)])) a (exo a U (some dx))) a) dx (.xd [("name", V.str z)]) → E (.ref U) (some dx) H2 := fun dx nd ne H2 e2 => by
  rw [e2, flown na nd]
  rw [upd_ne ne] at nd
  exact kE dx nd
theorem scCheckP : FnScope ["self", "place"] ["self", "place"] (defScope sCheckP) := ⟨rfl, rfl, rfl, by decide +kernel, rfl, by decide +kernel, by decide +kernel⟩
theorem ok_checkP {f M U fU : Addr} {fd fdU : FuncData} (F : Fun K "check_place" "Map.check_place" sCheckP f fd) (TM : TxtM K M) (gU : mg "UnknownName" = some (.ref U)) (TU : OexC K U) (iU : PySem.W.findIn K (.ref U) "__init__" = some (some (.ref fU))) (tU : PySem.W.typeIn K (.ref fU) = some (.type "function"))
    (GU : FnOk Pg w K mg base CX0 1 fU fdU ["self", "name"] (spUInit K U)) (bU : Binds K fdU ["self", "name"] []) :
    FnOk Pg w K mg base (L2N.CX Pg w) 3 f fd ["self", "place"] (spChkL K M U selP) := by
  refine MyN.okN F scCheckP (fun vs H Q E h => ?_) (fun cdv A outer s H vs Q E hr h => ?_)
  · obtain ⟨x, z, d, ks, ps, rs, bs, rfl, _⟩ := h
    rfl
  · obtain ⟨x, z, d, ks, ps, rs, bs, rfl, hz, hM, kQ, kE⟩ := h
    refine ⟨_, pss_one (ps_if (pt_cmpR op_notIn_seq (pv 1) (pe_fld (pv 0) rfl) (by rfl)) (pss_one (L2N.ps_raise rfl (L2N.takes_of rfl rfl rfl rfl) (MyN.mkO TU iU tU GU (hr.mono (by decide)) bU .nil pass0 (by rfl) gU (pa_cons (pv 1) pa_nil)))) pss_nil), ?_⟩
    obtain ⟨dx, fs, kk, pp, rr, D, bb, D2, ys, zs, hx, F7⟩ := hM
    refine ⟨_, rfl, _, rfl, x, M, dx, fs, _, rfl, hx, TM.cl, TM.n3, F7.f3, pp, _, rfl, .inr (SqT.of F7.p), rfl, flat_strs _, _, rfl, ?_⟩
    by_cases hin : z ∈ ps
    · exact if_f (by simp [inV_dec, hin]) (kQ hin)
    · refine if_t (by simp [inV_dec, hin]) ⟨_, rfl, by simp, fun a na => ⟨a, z, rfl, hz, upd_same, fun dx2 nd ne => ⟨rfl, dx2, [("name", .str z)], upd_same, ?_, ?_, ?_⟩⟩⟩
      · rw [upd_ne ne]; exact upd_same
      · rw [upd_ne ne] at nd; exact nd
      · exact raise_end na (kE hin) dx2 nd ne _ rfl
theorem scBarred : FnScope ["self", "first", "second"] ["self", "first", "second"] (defScope sBarred) := ⟨rfl, rfl, rfl, by decide +kernel, rfl, by decide +kernel, by decide +kernel⟩
theorem ok_barred {f M U fC : Addr} {fd fdC : FuncData} (F : Fun K "is_barred" "Map.is_barred" sBarred f fd) (TM : TxtM K M) (mC : Meth K M "check_road" fC)
    (GC : FnOk Pg w K mg base (L2N.CX Pg w) 3 fC fdC ["self", "name"] (spCheck K M U)) (bC : Binds K fdC ["self", "name"] []) :
    FnOk Pg w K mg base (L2N.CX Pg w) 4 f fd ["self", "first", "second"] (spBarredB K M U P) := by
  refine MyN.okN F scBarred (fun vs H Q E h => ?_) (fun cdv A outer s H vs Q E hr h => ?_)
  · obtain ⟨x, a, b, d, ks, ps, rs, bs, rfl, _⟩ := h
    rfl
  · obtain ⟨x, a, b, d, ks, ps, rs, bs, rfl, hla, hlb, hM, kQ, kE1, kE2⟩ := h
    refine ⟨_, pss_cons (ps_expr (pe_meth (E := E) (pv 0) TM.cl mC GC hr bC .nil (L2N.passes_call (L2N.takes_of rfl rfl rfl rfl) (fun _ _ _ _ h => h)) (pa_cons (pv 1) pa_nil)))
      (pss_cons (ps_expr (pe_meth (E := E) (pv 0) TM.cl mC GC hr bC .nil (L2N.passes_call (L2N.takes_of rfl rfl rfl rfl) (fun _ _ _ _ h => h)) (pa_cons (pv 2) pa_nil)))
      (pss_one (ps_ret (pe_cmp (pc_din (u1 hr.units) (pe_tup (pa_cons (pv 1) (pa_cons (pv 2) pa_nil))) (pe_fld (pv 0) rfl)))))), ?_⟩
    obtain ⟨dx, fs, kk, pp, rr, D, bb, D2, ys, zs, hx, F7⟩ := hM.m
    refine ⟨_, rfl, x, dx, fs, rfl, hx, F7.f0 _ (by decide +kernel), _, rfl, x, a, d, ks, ps, rs, bs, rfl, hla, hM.m, fun h1 => ?_, fun no => kE1 fun ⟨r, hr, e⟩ => no r hr e⟩
    refine ⟨_, rfl, x, dx, fs, rfl, hx, F7.f0 _ (by decide +kernel), _, rfl, x, b, d, ks, ps, rs, bs, rfl, hlb, hM.m, fun h2 => ?_, fun no => kE2 h1 fun ⟨r, hr, e⟩ => no r hr e⟩
    refine ⟨_, rfl, _, rfl, by show 2 ≤ sizeLine; decide, fun q nq => ?_⟩
    have g := Grew.new hM.t (o := .tup [.str a, .str b]) nq
    obtain ⟨kvs, hd, hin⟩ := F7.db
    refine ⟨_, rfl, x, M, dx, fs, _, rfl, g.get hM.t hx (fun _ z => by cases z), TM.cl, TM.n7, F7.f7, D2, _, rfl, DGet.t (k := [.inr a, .inr b]) (g.get hM.t hd (fun _ z => by cases z)) upd_same, ?_⟩
    have e : (valV kvs [.inr a, .inr b]).isSome = decide ((a, b) ∈ bs) := by
      by_cases hb : (a, b) ∈ bs
      · rw [(hin _ _).mpr hb, decide_eq_true hb]
      · rw [decide_eq_false hb]
        cases c : (valV kvs [.inr a, .inr b]).isSome with
        | false => rfl
        | true => exact absurd ((hin _ _).mp c) hb
    rw [e]
    exact kQ h1 h2 _ g
end
end W

set_option Elab.async false
set_option linter.all false
set_option maxRecDepth 100000
set_option maxHeartbeats 4000000
namespace W
open PySem PySem.Spec PyProof.Rows L2 GxR MyG MyS SqX
/-! ### Map._with_parts of whatever parts -/
abbrev sWithP : Stmt := inClass (top 32) 19
abbrev kMapC : List Str := ["day", "kinds", "places", "roads", "bars"]
def gMapC {α : Type} (us mv ws : List α) : List α := us ++ (ws ++ mv)
theorem filter_nodup_map {α β : Type} {f : α → β} {p : α → Bool} : ∀ {l : List α}, (l.map f).Nodup → ((l.filter p).map f).Nodup := fun {l} h => (List.Sublist.map f List.filter_sublist).nodup h
theorem filter_takeA {α : Type} {p : α → Bool} {l : List α} {i : Nat} {a : α} (e : l[i]? = some a) : (l.take (i + 1)).filter p = (l.take i).filter p ++ if p a then [a] else [] := by
  rw [List.take_succ, e, List.filter_append]
  by_cases h : p a = true
  · rw [if_pos h]; simp [h]
  · rw [if_neg h]; simp [h]
/-- the roads but one -/
def butR (z : Str) (rs : List RoadD) : List RoadD := rs.filter fun r => !decide (r.name = z)
def butB (z : Str) (bs : List (Str × Str)) : List (Str × Str) := bs.filter fun b => !decide (z = b.1 ∨ z = b.2)
theorem mem_butR {z : Str} {rs : List RoadD} {r : RoadD} : r ∈ butR z rs ↔ r ∈ rs ∧ r.name ≠ z := by
  unfold butR
  rw [List.mem_filter]
  simp
theorem mem_butB {z : Str} {bs : List (Str × Str)} {b : Str × Str} : b ∈ butB z bs ↔ b ∈ bs ∧ z ≠ b.1 ∧ z ≠ b.2 := by
  unfold butB
  rw [List.mem_filter]
  simp
theorem PartsOk.but {d : Int} {ks ps : List Str} {rs : List RoadD} {bs : List (Str × Str)} (h : PartsOk d ks ps rs bs) (z : Str) : PartsOk d ks ps (butR z rs) (butB z bs) := by
  obtain ⟨d1, d2, k1, k2, p2, kn, pn, kd, pd, hr, hb⟩ := h
  refine ⟨d1, d2, k1, k2, p2, kn, pn, kd, pd, ?_, ?_⟩
  · obtain ⟨a, b, c, e⟩ := hr
    refine ⟨Nat.le_trans (List.length_filter_le _ _) a, ?_, filter_nodup_map c, fun r hr => e r (mem_butR.mp hr).1⟩
    refine List.all_eq_true.mpr fun n hn => ?_
    obtain ⟨r, hr, rfl⟩ := List.mem_map.mp hn
    exact List.all_eq_true.mp b _ (List.mem_map.mpr ⟨r, (mem_butR.mp hr).1, rfl⟩)
  · obtain ⟨a, b, c⟩ := hb
    refine ⟨Nat.le_trans (List.length_filter_le _ _) a, List.filter_sublist.nodup b, fun x hx => ?_⟩
    obtain ⟨x1, x2, x3⟩ := mem_butB.mp hx
    obtain ⟨r1, h1, r2, h2, e1, e2, e3⟩ := c x x1
    exact ⟨r1, mem_butR.mpr ⟨h1, fun e => x2 (by rw [e1, e])⟩, r2, mem_butR.mpr ⟨h2, fun e => x3 (by rw [e2, e])⟩, e1, e2, e3⟩
/-- a map of these parts, or InvalidMap -/
def EitherM (K : PySem.W.Frag) (M C P : Addr) (H : Hp) (d : Int) (ks ps : List Str) (rs : List RoadD) (bs : List (Str × Str)) (Q : VK) (E : XK) : Prop :=
  (PartsOk d ks ps rs bs → ∀ y, MadeQ K M P y H d ks ps rs bs fun H' => Q (.ref y) H') ∧ (¬ PartsOk d ks ps rs bs → BadM C P H E)
theorem EitherM.on {K : PySem.W.Frag} {M C P : Addr} {H H1 : Hp} {d : Int} {ks ps : List Str} {rs : List RoadD} {bs : List (Str × Str)} {Q : VK} {E : XK} (h : EitherM K M C P H d ks ps rs bs Q E) (g : Grew P H H1) : EitherM K M C P H1 d ks ps rs bs Q E :=
  ⟨fun ok y H' ks' ps' rs' bs' g' nx s m => h.1 ok y H' ks' ps' rs' bs' (g.trans g') (g.free nx) s m, fun no => (h.2 no).on g⟩
def spWithPX (K : PySem.W.Frag) (M C P : Addr) : Sp := fun vs H Q E => ∃ (x pl ro ba : Addr) (cp cr cb : Bool) (d : Int) (ks ps ps0 : List Str) (rs rs0 : List RoadD) (bs bs0 : List (Str × Str)) (xs zs : List V), vs = [.ref x, .ref pl, .ref ro, .ref ba] ∧ MapAt K H M x d ks ps0 rs0 bs0 ∧ TabG H P ∧
  SqK cp K H pl (ps.map V.str) ∧ SqK cr K H ro xs ∧ Paired (fun r v => GRoadX K H (rG r) v) rs xs ∧ SqK cb K H ba zs ∧ Paired (GBar H) bs zs ∧ PartsSm d ks ps rs bs ∧ EitherM K M C P H d ks ps rs bs Q E
section
variable {Pg : Program} {w : World} {K : PySem.W.Frag} {mg : Str → Option Value} {base : Heap} {C P : Addr}
theorem mapC_binds {f : Addr} {fd : FuncData} {T1 T2 T : Addr} (F : FunD K "__init__" "Map.__init__" (defArgs sInit) (defBody sInit) (defScope sInit) [] [("places", V.ref T1), ("roads", V.ref T2), ("bars", V.ref T)] f fd) :
    ∃ mv : List Value, KBn K fd pInit 1 kMapC (fun us ws => gMapC us mv ws) (fun vs zs => gMapC vs (([] : List (Str × V)).map (·.2)) zs) := by
  refine FunD.kbinds0 F 1 kMapC [] gMapC (by simp) (by simp) ?_ ?_
  · intro vs mz zs us mv ws r1 r2 r3
    exact r1.append (Vals.append r3 r2)
  · intro D doc pm an cdv ct us mv ws h1 h2 h3
    match us, mv, ws, h1, h2, h3 with
    | [u], [], [a, b, c, d, e], _, _, _ => exact rfl
theorem scWithP : FnScope ["self", "places", "roads", "bars"] ["self", "places", "roads", "bars"] (defScope sWithP) := ⟨rfl, rfl, rfl, by decide +kernel, rfl, by decide +kernel, by decide +kernel⟩
theorem ok_withPX {f fI M : Addr} {fd fdI : FuncData} {mv : List Value} (F : Fun K "_with_parts" "Map._with_parts" sWithP f fd) (TM : TxtM K M) (Mk : L2.Mk K M fI) (gM : mg "Map" = some (.ref M))
    (GI : FnOk Pg w K mg base (L2N.CX Pg w) 5 fI fdI pInit (spInitX K M C P)) (kb : KBn K fdI pInit 1 kMapC (fun us ws => gMapC us mv ws) (fun vs zs => gMapC vs (([] : List (Str × V)).map (·.2)) zs)) :
    FnOk Pg w K mg base (L2N.CX Pg w) 7 f fd ["self", "places", "roads", "bars"] (spWithPX K M C P) := by
  refine MyN.okN F scWithP (fun vs H Q E h => ?_) (fun cdv A outer s H vs Q E hr h => ?_)
  · obtain ⟨x, pl, ro, ba, cp, cr, cb, d, ks, ps, ps0, rs, rs0, bs, bs0, xs, zs, rfl, _⟩ := h
    rfl
  · obtain ⟨x, pl, ro, ba, cp, cr, cb, d, ks, ps, ps0, rs, rs0, bs, bs0, xs, zs, rfl, hM, hP, hpl, hro, hrs, hba, hbs, sm, k, kE⟩ := h
    refine ⟨_, pss_one (ps_ret (pe_makeK0 (E := E) Mk GI (hr.mono (by decide)) (by rfl) gM kb (L2N.passes_call (L2N.takes_of rfl rfl rfl rfl) (fun _ _ _ _ h => h)) (pk_cons (pe_fld (pv 0) rfl) (pk_cons (pe_fld (pv 0) rfl) (pk_cons (pv 1) (pk_cons (pv 2) (pk_cons (pv 3) pk_nil))))))), ?_⟩
    obtain ⟨dx0, fs, kk, pp, rr, D, bb, D2, ys, zs0, hx, F7⟩ := id hM
    refine ⟨_, rfl, x, M, dx0, fs, .int d, rfl, hx, TM.cl, TM.n1, F7.f1, ?_⟩
    refine ⟨_, rfl, x, M, dx0, fs, .ref kk, rfl, hx, TM.cl, TM.n2, F7.f2, ?_⟩
    refine ⟨_, rfl, _, rfl, _, rfl, rfl, rfl, fun y dx ny ndx nex => ?_⟩
    exact initG_of (ck := false) (cp := cp) (cr := cr) (cb := cb) (xs := xs) (zs := zs) hP ny ndx nex (SqT.of F7.k) hpl hro (paired_mapl (f := itemG) (G := GItem K H) (fun _ _ m => m) hrs) hba (Paired.map' hbs fun _ _ m => m.gen) sm (fun ok H' ks' ps' rs' bs' g5 ny' q hm => ⟨rfl, k ok y H' ks' ps' rs' bs' g5 ny' q hm⟩) kE
end
end W

set_option Elab.async false
set_option linter.all false
set_option maxRecDepth 100000
set_option maxHeartbeats 4000000
namespace W
open PySem PySem.Spec PyProof.Rows L2 GxR MyG MyS SqX
theorem Paired.app {α β : Type} {F : α → β → Prop} {l l2 : List α} {m m2 : List β} (h : Paired F l m) (g : Paired F l2 m2) : Paired F (l ++ l2) (m ++ m2) := paired_app h g
/-! ### Map.with_road, Map.with_hours -/
abbrev sWithR : Stmt := inClass (top 32) 12
abbrev sWithH : Stmt := inClass (top 32) 14
def putR (r : RoadD) (rs : List RoadD) : List RoadD := butR r.name rs ++ [r]
def spWithRX (K : PySem.W.Frag) (M C P : Addr) : Sp := fun vs H Q E => ∃ (x : Addr) (v : V) (r : RoadD) (d : Int) (ks ps : List Str) (rs : List RoadD) (bs : List (Str × Str)), vs = [.ref x, v] ∧ GRoadX K H (rG r) v ∧ MapAt K H M x d ks ps rs bs ∧ rs.length ≤ 60 ∧ TabG H P ∧ PartsSm d ks ps (putR r rs) bs ∧
  EitherM K M C P H d ks ps (putR r rs) bs Q E
def spWithHX (K : PySem.W.Frag) (M C U P : Addr) : Sp := fun vs H Q E => ∃ (x : Addr) (z : Str) (v : V) (hs : Option (List (Int × Int))) (d : Int) (ks ps : List Str) (rs : List RoadD) (bs : List (Str × Str)), vs = [.ref x, .str z, v] ∧ z.length ≤ 1000 ∧ GHoursX K H (hoursG hs) v ∧ MapAt K H M x d ks ps rs bs ∧ rs.length ≤ 60 ∧ TabG H P ∧
  (∀ r ∈ rs, r.name = z → PartsSm d ks ps (putR { r with hours := hs } rs) bs ∧ EitherM K M C P H d ks ps (putR { r with hours := hs } rs) bs Q E) ∧ (¬ Known rs z → Unk U H E z)
section
variable {Pg : Program} {w : World} {K : PySem.W.Frag} {mg : Str → Option Value} {base : Heap} {C P : Addr}
abbrev nWR : List Str := ["self", "road", "others", "other"]
theorem scWR : FnScope nWR ["self", "road"] (defScope sWithR) := ⟨rfl, rfl, rfl, by decide +kernel, rfl, by decide +kernel, by decide +kernel⟩
theorem ok_withRX {f fW M : Addr} {fd fdW : FuncData} {t1 : Tok} (F : Fun K "with_road" "Map.with_road" sWithR f fd) (TM : TxtM K M) (i_NAME : mg "NAME" = some (.int 0 t1))
    (mW : Meth K M "_with_parts" fW) (GW : FnOk Pg w K mg base (L2N.CX Pg w) 7 fW fdW ["self", "places", "roads", "bars"] (spWithPX K M C P)) (bW : Binds K fdW ["self", "places", "roads", "bars"] []) :
    FnOk Pg w K mg base (L2N.CX Pg w) 8 f fd ["self", "road"] (spWithRX K M C P) := by
  refine MyN.okN F scWR (fun vs H Q E h => ?_) (fun cdv A outer s H vs Q E hr h => ?_)
  · obtain ⟨x, v, r, d, ks, ps, rs, bs, rfl, _⟩ := h
    rfl
  · obtain ⟨x, v, r, d, ks, ps, rs, bs, rfl, hv, hM, l60, hP, sm, k⟩ := h
    refine ⟨_, (pss_cons (ps_setLc (i := 2) (own := [("other", 3)]) (g := (gName 3)) rfl scWR.nd rfl rfl (sw_true rfl rfl rfl (by decide +kernel)) (pi_tup (pe_fld (pv 0) rfl)) (blkOk_by (N := nWR) (sc := defScope sWithR) (by decide +kernel)) (fun _ _ _ _ _ => pg_name (i := 3) scWR.nd rfl (Or.inl rfl)) (fun _ _ _ _ _ => pts_one (pt_cmpR op_ne (pe_ix (r := rIxT K) ix_tup (pv 3) (pe_gI i_NAME) (fun _ _ => rfl)) (pe_ix (r := rIxT K) ix_tup (pv 1) (pe_gI i_NAME) (fun _ _ => rfl)) (nomark _))) (fun _ _ _ _ _ => (pv 3)))
      (pss_one (ps_ret (pe_meth (E := E) (pv 0) TM.cl mW GW (hr.mono (by decide)) bW .nil (L2N.passes_call (L2N.takes_of rfl rfl rfl rfl) (fun _ _ _ _ h => h)) (pa_cons (pe_fld (pv 0) rfl) (pa_cons (pe_lst (StX.pa_star (pv 2) (pa_cons (pv 1) pa_nil))) (pa_cons (pe_fld (pv 0) rfl) pa_nil))))))), ?_⟩
    obtain ⟨dx, fs, kk, pp, rr, D, bb, D2, ys, zs, hx, m⟩ := id hM
    obtain ⟨t, u, hh, cu, rfl, et, eu, eh⟩ := id hv
    have lys := Paired.len m.ry
    refine ⟨_, rfl, x, M, dx, fs, _, rfl, hx, TM.cl, TM.n4, m.f4, rr, rfl, ⟨_, SqT.of m.r⟩, fun N nN => lc_tup (K := K) (a := rr) (xs := ys) (fun j H2 => Grew P H H2 ∧ ∃ acc, H2 N = some (.lst acc) ∧ Paired (RoadAt K H2) ((rs.take j).filter fun q => !decide (q.name = r.name)) acc)
      ⟨Grew.new hP nN, [], upd_same, .nil⟩ (fun j H2 _ p => SqT.of (p.1.tup hP m.r)) (fun j y H2 hj p => ?_) (fun H2 p => ?_)⟩
    · obtain ⟨g2, acc, hN, hacc⟩ := p
      obtain ⟨q, hqj, hqm0⟩ := Paired.at m.ry hj
      have hqm := hqm0.grew g2 hP
      have ft := filter_takeA (p := fun q : RoadD => !decide (q.name = r.name)) hqj
      have ly := Paired.len hacc
      have lj : ((rs.take j).filter fun q => !decide (q.name = r.name)).length ≤ 60 := by
        refine Nat.le_trans (List.length_filter_le _ _) ?_
        rw [List.length_take]; omega
      obtain ⟨tq, uq, hq, rfl, etq, _, _⟩ := id hqm
      refine ⟨rfl, _, rfl, tq, _, 0, .str q.name, rfl, rfl, SqT.of etq, rfl, _, rfl, t, _, 0, .str r.name, rfl, rfl, g2.sqT hP et, rfl, rfl, _, rfl, ?_⟩
      have kb : ∀ {o : HO} {b : RoadD} {v : V}, RoadAt K H2 b v → RoadAt K (L2.upd H2 N o) b v := fun m => m.upd (fun xs z => by rw [hN] at z; cases z) (KeepT.lst hN)
      by_cases c : q.name = r.name
      · refine if_f (by rw [c]; simp) ⟨g2, acc, hN, ?_⟩
        rw [ft, if_neg (by rw [c]; simp), List.append_nil]
        exact hacc
      · have c' : ¬ V.str q.name = V.str r.name := fun e => c (by injection e)
        refine if_t (by rw [decide_eq_false c']; rfl) ⟨_, rfl, acc, hN, by rw [sizeLine_eq]; omega, g2.write hN (fun _ z => by cases z) nN, _, upd_same, ?_⟩
        rw [ft, if_pos (by simp [c])]
        exact Paired.snoc (Paired.map' hacc fun _ _ m => kb m) (kb hqm)
    obtain ⟨g1, acc, hN, hacc⟩ := p
    rw [← lys, List.take_length] at hacc
    have hacc' : Paired (RoadAt K H2) (butR r.name rs) acc := hacc
    have la := Paired.len hacc'
    have lb : (butR r.name rs).length ≤ 60 := Nat.le_trans (List.length_filter_le _ _) l60
    have hx1 := g1.get hP hx (fun _ z => by cases z)
    refine ⟨_, rfl, x, dx, fs, rfl, hx1, m.f0 _ (by decide +kernel), ?_⟩
    refine ⟨_, rfl, x, M, dx, fs, _, rfl, hx1, TM.cl, TM.n3, m.f3, ?_⟩
    refine ⟨_, rfl, N, _, rfl, .inr (SqL.of hN), _, rfl, by simp only [List.length_append, List.length_cons, List.length_nil]; rw [sizeLine_eq]; omega, fun L nL => ?_⟩
    have gL := Grew.new g1.tab (o := .lst (acc ++ [V.ref t])) nL
    have g2 := g1.trans gL
    refine ⟨_, rfl, x, M, dx, fs, _, rfl, gL.get g1.tab hx1 (fun _ z => by cases z), TM.cl, TM.n6, m.f6, ?_⟩
    refine ⟨x, pp, L, bb, false, true, false, d, ks, ps, ps, putR r rs, rs, bs, bs, acc ++ [.ref t], zs, rfl, MapAt.grew g2 hP hM, g2.tab, SqT.of (g2.tup hP m.p), SqL.of upd_same, ?_, SqT.of (g2.tup hP m.b), Paired.map' m.bz fun _ _ m => m.grew g2 hP, sm, k.on g2⟩
    exact Paired.app (Paired.map' hacc' fun _ _ m => (m.grew gL g1.tab).gen) (.cons (GRoadX.grew g2 hP hv) .nil)
end
end W

set_option Elab.async false
set_option linter.all false
set_option maxRecDepth 100000
set_option maxHeartbeats 4000000
namespace W
open PySem PySem.Spec PyProof.Rows L2 GxR MyG MyS SqX
theorem eqvAll_strs : ∀ (xs ys : List Str), PyData.eqvAll (xs.map .str) (ys.map .str) = decide (xs = ys)
  | [], [] => by simp [PyData.eqvAll]
  | [], y :: ys => by simp [PyData.eqvAll]
  | x :: xs, [] => by simp [PyData.eqvAll]
  | x :: xs, y :: ys => by
    rw [List.map_cons, List.map_cons, PyData.eqvAll, eqvAll_strs xs ys]
    have e : PyData.eqv (.str x) (.str y) = decide (x = y) := by
      rw [PyData.eqv]
      exact Bool.beq_eq_decide_eq ..
    rw [e, Bool.eq_iff_iff, Bool.and_eq_true, decide_eq_true_eq, decide_eq_true_eq, decide_eq_true_eq, List.cons.injEq]
theorem eqv_lists (xs ys : List Str) : PyData.eqv (.list (xs.map .str)) (.list (ys.map .str)) = decide (xs = ys) := by
  rw [PyData.eqv]
  exact eqvAll_strs xs ys
/-! ### Map.without_road, with_place, without_place, with_bar, without_bar -/
abbrev sWithoutR : Stmt := inClass (top 32) 13
abbrev sWithPl : Stmt := inClass (top 32) 15
abbrev sWoutPl : Stmt := inClass (top 32) 16
abbrev sWithB : Stmt := inClass (top 32) 17
abbrev sWoutB : Stmt := inClass (top 32) 18
def spWithoutRX (K : PySem.W.Frag) (M C U P : Addr) : Sp := fun vs H Q E => ∃ (x : Addr) (z : Str) (d : Int) (ks ps : List Str) (rs : List RoadD) (bs : List (Str × Str)), vs = [.ref x, .str z] ∧ z.length ≤ 1000 ∧ MIn K H M P x d ks ps rs bs ∧
  (Known rs z → EitherM K M C P H d ks ps (butR z rs) (butB z bs) Q E) ∧ (¬ Known rs z → Unk U H E z)
def spWithPlX (K : PySem.W.Frag) (M C P : Addr) : Sp := fun vs H Q E => ∃ (x : Addr) (z : Str) (d : Int) (ks ps : List Str) (rs : List RoadD) (bs : List (Str × Str)), vs = [.ref x, .str z] ∧ MIn K H M P x d ks ps rs bs ∧ PartsSm d ks (ps ++ [z]) rs bs ∧
  EitherM K M C P H d ks (ps ++ [z]) rs bs Q E
def outP (z : Str) (ps : List Str) : List Str := ps.filter fun q => !decide (q = z)
def spWoutPlX (K : PySem.W.Frag) (M C U P : Addr) : Sp := fun vs H Q E => ∃ (x : Addr) (z : Str) (d : Int) (ks ps : List Str) (rs : List RoadD) (bs : List (Str × Str)), vs = [.ref x, .str z] ∧ z.length ≤ 1000 ∧ MIn K H M P x d ks ps rs bs ∧
  (z ∈ ps → EitherM K M C P H d ks (outP z ps) rs bs Q E) ∧ (z ∉ ps → Unk U H E z)
def spWithBX (K : PySem.W.Frag) (M C U P : Addr) : Sp := fun vs H Q E => ∃ (x : Addr) (a b : Str) (d : Int) (ks ps : List Str) (rs : List RoadD) (bs : List (Str × Str)), vs = [.ref x, .str a, .str b] ∧ a.length ≤ 1000 ∧ b.length ≤ 1000 ∧ MIn K H M P x d ks ps rs bs ∧
  (Known rs a → Known rs b → EitherM K M C P H d ks ps rs (bs ++ [(a, b)]) Q E) ∧ (¬ Known rs a → Unk U H E a) ∧ (Known rs a → ¬ Known rs b → Unk U H E b)
def outB (a b : Str) (bs : List (Str × Str)) : List (Str × Str) := bs.filter fun q => !decide (q = (a, b))
def spWoutBX (K : PySem.W.Frag) (M C U P : Addr) : Sp := fun vs H Q E => ∃ (x : Addr) (a b : Str) (d : Int) (ks ps : List Str) (rs : List RoadD) (bs : List (Str × Str)), vs = [.ref x, .str a, .str b] ∧ a.length ≤ 1000 ∧ b.length ≤ 1000 ∧ PyData.strOk a = true ∧ PyData.strOk b = true ∧ MIn K H M P x d ks ps rs bs ∧
  (Known rs a → Known rs b → (a, b) ∈ bs → EitherM K M C P H d ks ps rs (outB a b bs) Q E) ∧ (Known rs a → Known rs b → (a, b) ∉ bs → BadM C P H E) ∧ (¬ Known rs a → Unk U H E a) ∧ (Known rs a → ¬ Known rs b → Unk U H E b)
theorem sm_less {d : Int} {ks ps ps' : List Str} {rs rs' : List RoadD} {bs bs' : List (Str × Str)} (h : PartsSm d ks ps rs bs) (hp : ∀ z ∈ ps', z ∈ ps) (hr : ∀ r ∈ rs', r ∈ rs) (hb : ∀ b ∈ bs', b ∈ bs) (lp : ps'.length ≤ ps.length) (lr : rs'.length ≤ rs.length) (lb : bs'.length ≤ bs.length) : PartsSm d ks ps' rs' bs' := by
  obtain ⟨s⟩ := h
  have q1 := s.pl
  have q2 := s.rl
  have q3 := s.bl
  rw [List.length_map] at q2 q3
  refine ⟨⟨s.d, s.kl, s.k, by omega, fun z hz => s.p z (hp z hz), by rw [List.length_map]; omega, fun r hr' => s.r r ?_, by rw [List.length_map]; omega, fun b hb' => s.b b ?_⟩⟩
  · obtain ⟨r0, h0, e⟩ := List.mem_map.mp hr'
    exact List.mem_map.mpr ⟨r0, hr r0 h0, e⟩
  · obtain ⟨b0, h0, e⟩ := List.mem_map.mp hb'
    exact List.mem_map.mpr ⟨b0, hb b0 h0, e⟩
section
variable {Pg : Program} {w : World} {K : PySem.W.Frag} {mg : Str → Option Value} {base : Heap} {C P : Addr}
abbrev nWo : List Str := ["self", "name", "roads", "bars", "road", "bar"]
theorem scWo : FnScope nWo ["self", "name"] (defScope sWithoutR) := ⟨rfl, rfl, rfl, by decide +kernel, rfl, by decide +kernel, by decide +kernel⟩
theorem ok_woRX {f M U fC fW : Addr} {fd fdC fdW : FuncData} {t1 : Tok} (F : Fun K "without_road" "Map.without_road" sWithoutR f fd) (TM : TxtM K M) (i_NAME : mg "NAME" = some (.int 0 t1))
    (mC : Meth K M "check_road" fC) (GC : FnOk Pg w K mg base (L2N.CX Pg w) 3 fC fdC ["self", "name"] (spCheck K M U)) (bC : Binds K fdC ["self", "name"] [])
    (mW : Meth K M "_with_parts" fW) (GW : FnOk Pg w K mg base (L2N.CX Pg w) 7 fW fdW ["self", "places", "roads", "bars"] (spWithPX K M C P)) (bW : Binds K fdW ["self", "places", "roads", "bars"] []) :
    FnOk Pg w K mg base (L2N.CX Pg w) 8 f fd ["self", "name"] (spWithoutRX K M C U P) := by
  refine MyN.okN F scWo (fun vs H Q E h => ?_) (fun cdv A outer s H vs Q E hr h => ?_)
  · obtain ⟨x, z, d, ks, ps, rs, bs, rfl, _⟩ := h
    rfl
  · obtain ⟨x, z, d, ks, ps, rs, bs, rfl, hz, hI, kQ, kE⟩ := h
    have hM := hI.m
    have hP := hI.t
    have ok := hI.ok
    refine ⟨_, (pss_cons (ps_expr (pe_meth (E := E) (pv 0) TM.cl mC GC (hr.mono (by decide)) bC .nil (L2N.passes_call (L2N.takes_of rfl rfl rfl rfl) (fun _ _ _ _ h => h)) (pa_cons (pv 1) pa_nil)))
      (pss_cons (ps_setLc (i := 2) (own := [("road", 4)]) (g := (gName 4)) rfl scWo.nd rfl rfl (sw_true rfl rfl rfl (by decide +kernel)) (pi_tup (pe_fld (pv 0) rfl)) (blkOk_by (N := nWo) (sc := defScope sWithoutR) (by decide +kernel)) (fun _ _ _ _ _ => pg_name (i := 4) scWo.nd rfl (Or.inl rfl)) (fun _ _ _ _ _ => pts_one (pt_cmpR op_ne (pe_ix (r := rIxT K) ix_tup (pv 4) (pe_gI i_NAME) (fun _ _ => rfl)) (pv 1) (nomark _))) (fun _ _ _ _ _ => (pv 4)))
      (pss_cons (ps_setLc (i := 3) (own := [("bar", 5)]) (g := (gName 5)) rfl scWo.nd rfl rfl (sw_true rfl rfl rfl (by decide +kernel)) (pi_tup (pe_fld (pv 0) rfl)) (blkOk_by (N := nWo) (sc := defScope sWithoutR) (by decide +kernel)) (fun _ _ _ _ _ => pg_name (i := 5) scWo.nd rfl (Or.inl rfl)) (fun _ _ _ _ _ => pts_one (pt_cmpR (r := rIn K true) op_notIn_seq (pv 1) (pv 5) (by rfl))) (fun _ _ _ _ _ => (pv 5)))
      (pss_one (ps_ret (pe_meth (E := E) (pv 0) TM.cl mW GW (hr.mono (by decide)) bW .nil (L2N.passes_call (L2N.takes_of rfl rfl rfl rfl) (fun _ _ _ _ h => h)) (pa_cons (pe_fld (pv 0) rfl) (pa_cons (pv 2) (pa_cons (pv 3) pa_nil))))))))), ?_⟩
    obtain ⟨dx, fs, kk, pp, rr, D, bb, D2, ys, zs, hx, m⟩ := id hM
    refine ⟨_, rfl, x, dx, fs, rfl, hx, m.f0 _ (by decide +kernel), _, rfl, x, z, d, ks, ps, rs, bs, rfl, hz, hM, fun hkn => ?_, fun no => kE fun ⟨r, hr, e⟩ => no r hr e⟩
    have k := kQ hkn
    have lys := Paired.len m.ry
    have lzs := Paired.len m.bz
    have l60 := ok.r.len
    have l40 := ok.b.len
    refine ⟨_, rfl, x, M, dx, fs, _, rfl, hx, TM.cl, TM.n4, m.f4, rr, rfl, ⟨_, SqT.of m.r⟩, fun N nN => lc_tup (K := K) (a := rr) (xs := ys) (fun j H2 => Grew P H H2 ∧ ∃ acc, H2 N = some (.lst acc) ∧ Paired (RoadAt K H2) ((rs.take j).filter fun q => !decide (q.name = z)) acc)
      ⟨Grew.new hP nN, [], upd_same, .nil⟩ (fun j H2 _ p => SqT.of (p.1.tup hP m.r)) (fun j y H2 hj p => ?_) (fun H2 p => ?_)⟩
    · obtain ⟨g2, acc, hN, hacc⟩ := p
      obtain ⟨q, hqj, hqm0⟩ := Paired.at m.ry hj
      have hqm := hqm0.grew g2 hP
      have ft := filter_takeA (p := fun q : RoadD => !decide (q.name = z)) hqj
      have ly := Paired.len hacc
      have lj : ((rs.take j).filter fun q => !decide (q.name = z)).length ≤ 60 := by
        refine Nat.le_trans (List.length_filter_le _ _) ?_
        rw [List.length_take]; omega
      obtain ⟨tq, uq, hq, rfl, etq, _, _⟩ := id hqm
      refine ⟨rfl, _, rfl, tq, _, 0, .str q.name, rfl, rfl, SqT.of etq, rfl, _, rfl, rfl, _, rfl, ?_⟩
      have kb : ∀ {o : HO} {b : RoadD} {v : V}, RoadAt K H2 b v → RoadAt K (L2.upd H2 N o) b v := fun m => m.upd (fun xs z => by rw [hN] at z; cases z) (KeepT.lst hN)
      by_cases c : q.name = z
      · refine if_f (by rw [c]; simp) ⟨g2, acc, hN, ?_⟩
        rw [ft, if_neg (by rw [c]; simp), List.append_nil]
        exact hacc
      · have c' : ¬ V.str q.name = V.str z := fun e => c (by injection e)
        refine if_t (by rw [decide_eq_false c']; rfl) ⟨_, rfl, acc, hN, by rw [sizeLine_eq]; omega, g2.write hN (fun _ z => by cases z) nN, _, upd_same, ?_⟩
        rw [ft, if_pos (by simp [c])]
        exact Paired.snoc (Paired.map' hacc fun _ _ m => kb m) (kb hqm)
    obtain ⟨g1, acc, hN, hacc⟩ := p
    rw [← lys, List.take_length] at hacc
    have hacc' : Paired (RoadAt K H2) (butR z rs) acc := hacc
    have hx1 := g1.get hP hx (fun _ z => by cases z)
    have hba6 := g1.tup hP m.b
    have hbz6 : Paired (GBar H2) bs zs := Paired.map' m.bz fun _ _ m => m.grew g1 hP
    refine ⟨_, rfl, x, M, dx, fs, _, rfl, hx1, TM.cl, TM.n6, m.f6, bb, rfl, ⟨_, SqT.of hba6⟩, fun N2 nN2 => lc_tup (K := K) (a := bb) (xs := zs) (fun j H3 => Grew P H2 H3 ∧ ∃ acc, H3 N2 = some (.lst acc) ∧ Paired (GBar H3) ((bs.take j).filter fun b => !decide (z = b.1 ∨ z = b.2)) acc)
      ⟨Grew.new g1.tab nN2, [], upd_same, .nil⟩ (fun j H3 _ p => SqT.of (p.1.tup g1.tab hba6)) (fun j y H3 hj p => ?_) (fun H3 p => ?_)⟩
    · obtain ⟨g2, acc2, hN2, hacc2⟩ := p
      obtain ⟨b1, hbj, hbar0⟩ := Paired.at hbz6 hj
      have hbar := hbar0.grew g2 g1.tab
      have ft := filter_takeA (p := fun b : Str × Str => !decide (z = b.1 ∨ z = b.2)) hbj
      have ly := Paired.len hacc2
      have lj : ((bs.take j).filter fun b => !decide (z = b.1 ∨ z = b.2)).length ≤ 40 := by
        refine Nat.le_trans (List.length_filter_le _ _) ?_
        rw [List.length_take]; omega
      have kb : ∀ {o : HO} {b : Str × Str} {v : V}, GBar H3 b v → GBar (L2.upd H3 N2 o) b v := fun m => m.upd (fun xs z => by rw [hN2] at z; cases z)
      obtain ⟨t, rfl, ht⟩ := id hbar
      have ei : inV (.str z) [.str b1.1, .str b1.2] = decide (z = b1.1 ∨ z = b1.2) := by
        rw [show [V.str b1.1, V.str b1.2] = [b1.1, b1.2].map V.str from rfl, inV_dec]
        simp
      refine ⟨rfl, _, rfl, _, rfl, t, _, rfl, .inr (SqT.of ht), rfl, flat_strs [b1.1, b1.2], _, rfl, ?_⟩
      refine ite2 (fun c => ?_) (fun c => ?_)
      · have c' : (!decide (z = b1.1 ∨ z = b1.2)) = true := by rw [← ei]; exact c
        refine ⟨_, rfl, acc2, hN2, by rw [sizeLine_eq]; omega, g2.write hN2 (fun _ z => by cases z) nN2, _, upd_same, ?_⟩
        rw [ft, if_pos c']
        exact Paired.snoc (Paired.map' hacc2 fun _ _ m => kb m) (kb hbar)
      · have c' : ¬ (!decide (z = b1.1 ∨ z = b1.2)) = true := by rw [← ei]; exact c
        refine ⟨g2, acc2, hN2, ?_⟩
        rw [ft, if_neg c', List.append_nil]
        exact hacc2
    obtain ⟨g2, acc2, hN2, hacc2⟩ := p
    rw [← lzs, List.take_length] at hacc2
    have hacc2' : Paired (GBar H3) (butB z bs) acc2 := hacc2
    have g03 := g1.trans g2
    have hx2 := g03.get hP hx (fun _ z => by cases z)
    refine ⟨_, rfl, x, dx, fs, rfl, hx2, m.f0 _ (by decide +kernel), ?_⟩
    refine ⟨_, rfl, x, M, dx, fs, _, rfl, hx2, TM.cl, TM.n3, m.f3, _, rfl, _, rfl, ?_⟩
    exact ⟨x, pp, N, N2, false, true, true, d, ks, ps, ps, butR z rs, rs, butB z bs, bs, acc, acc2, rfl, MapAt.grew g03 hP hM, g03.tab, SqT.of (g03.tup hP m.p), SqL.of (g2.lst g1.tab hN), Paired.map' hacc' fun _ _ m => (m.grew g2 g1.tab).gen, SqL.of hN2, hacc2', (ok.but z).sm, k.on g03⟩
abbrev nWPl : List Str := ["self", "place"]
theorem scWPl : FnScope nWPl ["self", "place"] (defScope sWithPl) := ⟨rfl, rfl, rfl, by decide +kernel, rfl, by decide +kernel, by decide +kernel⟩
theorem ok_withPlX {f fW M : Addr} {fd fdW : FuncData} (F : Fun K "with_place" "Map.with_place" sWithPl f fd) (TM : TxtM K M)
    (mW : Meth K M "_with_parts" fW) (GW : FnOk Pg w K mg base (L2N.CX Pg w) 7 fW fdW ["self", "places", "roads", "bars"] (spWithPX K M C P)) (bW : Binds K fdW ["self", "places", "roads", "bars"] []) :
    FnOk Pg w K mg base (L2N.CX Pg w) 8 f fd ["self", "place"] (spWithPlX K M C P) := by
  refine MyN.okN F scWPl (fun vs H Q E h => ?_) (fun cdv A outer s H vs Q E hr h => ?_)
  · obtain ⟨x, z, d, ks, ps, rs, bs, rfl, _⟩ := h
    rfl
  · obtain ⟨x, z, d, ks, ps, rs, bs, rfl, hI, sm, k⟩ := h
    have hM := hI.m
    have hP := hI.t
    have p30 := hI.ok.p2
    refine ⟨_, (pss_one (ps_ret (pe_meth (E := E) (pv 0) TM.cl mW GW (hr.mono (by decide)) bW .nil (L2N.passes_call (L2N.takes_of rfl rfl rfl rfl) (fun _ _ _ _ h => h)) (pa_cons (pe_lst (StX.pa_star (pe_fld (pv 0) rfl) (pa_cons (pv 1) pa_nil))) (pa_cons (pe_fld (pv 0) rfl) (pa_cons (pe_fld (pv 0) rfl) pa_nil)))))), ?_⟩
    obtain ⟨dx, fs, kk, pp, rr, D, bb, D2, ys, zs, hx, m⟩ := id hM
    refine ⟨_, rfl, x, dx, fs, rfl, hx, m.f0 _ (by decide +kernel), ?_⟩
    refine ⟨_, rfl, x, M, dx, fs, _, rfl, hx, TM.cl, TM.n3, m.f3, pp, _, rfl, .inl (SqT.of m.p), _, rfl, by simp only [List.length_append, List.length_cons, List.length_nil, List.length_map]; rw [sizeLine_eq]; omega, fun L nL => ?_⟩
    have eV : ps.map V.str ++ [V.str z] = (ps ++ [z]).map V.str := by rw [List.map_append]; rfl
    rw [eV]
    have g1 := Grew.new hP (o := .lst ((ps ++ [z]).map V.str)) nL
    have hx1 := g1.get hP hx (fun _ z => by cases z)
    refine ⟨_, rfl, x, M, dx, fs, _, rfl, hx1, TM.cl, TM.n4, m.f4, _, rfl, x, M, dx, fs, _, rfl, hx1, TM.cl, TM.n6, m.f6, ?_⟩
    exact ⟨x, L, rr, bb, true, false, false, d, ks, ps ++ [z], ps, rs, rs, bs, bs, ys, zs, rfl, MapAt.grew g1 hP hM, g1.tab, SqL.of upd_same, SqT.of (g1.tup hP m.r), Paired.map' m.ry fun _ _ m => (m.grew g1 hP).gen, SqT.of (g1.tup hP m.b), Paired.map' m.bz fun _ _ m => m.grew g1 hP, sm, k.on g1⟩
abbrev nOP : List Str := ["self", "place", "places", "other"]
theorem scOP : FnScope nOP ["self", "place"] (defScope sWoutPl) := ⟨rfl, rfl, rfl, by decide +kernel, rfl, by decide +kernel, by decide +kernel⟩
theorem ok_woutPlX {f fW fC M U : Addr} {fd fdW fdC : FuncData} (F : Fun K "without_place" "Map.without_place" sWoutPl f fd) (TM : TxtM K M)
    (mC : Meth K M "check_place" fC) (GC : FnOk Pg w K mg base (L2N.CX Pg w) 3 fC fdC ["self", "place"] (spChkL K M U selP)) (bC : Binds K fdC ["self", "place"] [])
    (mW : Meth K M "_with_parts" fW) (GW : FnOk Pg w K mg base (L2N.CX Pg w) 7 fW fdW ["self", "places", "roads", "bars"] (spWithPX K M C P)) (bW : Binds K fdW ["self", "places", "roads", "bars"] []) :
    FnOk Pg w K mg base (L2N.CX Pg w) 8 f fd ["self", "place"] (spWoutPlX K M C U P) := by
  refine MyN.okN F scOP (fun vs H Q E h => ?_) (fun cdv A outer s H vs Q E hr h => ?_)
  · obtain ⟨x, z, d, ks, ps, rs, bs, rfl, _⟩ := h
    rfl
  · obtain ⟨x, z, d, ks, ps, rs, bs, rfl, hz, hI, kQ, kE⟩ := h
    have hM := hI.m
    have hP := hI.t
    have p30 := hI.ok.p2
    refine ⟨_, (pss_cons (ps_expr (pe_meth (E := E) (pv 0) TM.cl mC GC (hr.mono (by decide)) bC .nil (L2N.passes_call (L2N.takes_of rfl rfl rfl rfl) (fun _ _ _ _ h => h)) (pa_cons (pv 1) pa_nil)))
      (pss_cons (ps_setLc (i := 2) (own := [("other", 3)]) (g := (gName 3)) rfl scOP.nd rfl rfl (sw_true rfl rfl rfl (by decide +kernel)) (pi_tup (pe_fld (pv 0) rfl)) (blkOk_by (N := nOP) (sc := defScope sWoutPl) (by decide +kernel)) (fun _ _ _ _ _ => pg_name (i := 3) scOP.nd rfl (Or.inl rfl)) (fun _ _ _ _ _ => pts_one (pt_cmpR op_ne (pv 3) (pv 1) (nomark _))) (fun _ _ _ _ _ => (pv 3)))
      (pss_one (ps_ret (pe_meth (E := E) (pv 0) TM.cl mW GW (hr.mono (by decide)) bW .nil (L2N.passes_call (L2N.takes_of rfl rfl rfl rfl) (fun _ _ _ _ h => h)) (pa_cons (pv 2) (pa_cons (pe_fld (pv 0) rfl) (pa_cons (pe_fld (pv 0) rfl) pa_nil)))))))), ?_⟩
    obtain ⟨dx, fs, kk, pp, rr, D, bb, D2, ys, zs, hx, m⟩ := id hM
    refine ⟨_, rfl, x, dx, fs, rfl, hx, m.f0 _ (by decide +kernel), _, rfl, x, z, d, ks, ps, rs, bs, rfl, hz, hM, fun hin => ?_, fun no => kE no⟩
    have k := kQ hin
    refine ⟨_, rfl, x, M, dx, fs, _, rfl, hx, TM.cl, TM.n3, m.f3, pp, rfl, ⟨_, SqT.of m.p⟩, fun N nN => lc_tup (K := K) (a := pp) (xs := ps.map V.str) (fun j H2 => Grew P H H2 ∧ H2 N = some (.lst (((ps.take j).filter fun q => !decide (q = z)).map V.str)))
      ⟨Grew.new hP nN, upd_same⟩ (fun j H2 _ p => SqT.of (p.1.tup hP m.p)) (fun j y H2 hj p => ?_) (fun H2 p => ?_)⟩
    · obtain ⟨g2, hN⟩ := p
      rw [List.getElem?_map] at hj
      obtain ⟨q, hqj, rfl⟩ := Option.map_eq_some_iff.mp hj
      have ft := filter_takeA (p := fun q : Str => !decide (q = z)) hqj
      have lj : ((ps.take j).filter fun q => !decide (q = z)).length ≤ 30 := by
        refine Nat.le_trans (List.length_filter_le _ _) ?_
        rw [List.length_take]; omega
      refine ⟨rfl, _, rfl, _, rfl, rfl, _, rfl, ?_⟩
      by_cases c : q = z
      · refine if_f (by rw [c]; simp) ⟨g2, ?_⟩
        rw [ft, if_neg (by rw [c]; simp), List.append_nil]
        exact hN
      · have c' : ¬ V.str q = V.str z := fun e => c (by injection e)
        refine if_t (by rw [decide_eq_false c']; rfl) ⟨_, rfl, _, hN, by rw [List.length_map, sizeLine_eq]; omega, g2.write hN (fun _ z => by cases z) nN, ?_⟩
        rw [upd_same, ft, if_pos (by simp [c]), List.map_append]
        rfl
    obtain ⟨g1, hN⟩ := p
    rw [List.length_map, List.take_length] at hN
    have hN' : H2 N = some (.lst ((outP z ps).map V.str)) := hN
    have hx1 := g1.get hP hx (fun _ z => by cases z)
    refine ⟨_, rfl, x, dx, fs, rfl, hx1, m.f0 _ (by decide +kernel), _, rfl, ?_⟩
    refine ⟨_, rfl, x, M, dx, fs, _, rfl, hx1, TM.cl, TM.n4, m.f4, _, rfl, x, M, dx, fs, _, rfl, hx1, TM.cl, TM.n6, m.f6, ?_⟩
    exact ⟨x, N, rr, bb, true, false, false, d, ks, outP z ps, ps, rs, rs, bs, bs, ys, zs, rfl, MapAt.grew g1 hP hM, g1.tab, SqL.of hN', SqT.of (g1.tup hP m.r), Paired.map' m.ry fun _ _ m => (m.grew g1 hP).gen, SqT.of (g1.tup hP m.b), Paired.map' m.bz fun _ _ m => m.grew g1 hP, sm_less hI.ok.sm (fun x hx => (List.mem_filter.mp hx).1) (fun _ h => h) (fun _ h => h) (List.length_filter_le _ _) (Nat.le_refl _) (Nat.le_refl _), k.on g1⟩
abbrev nWB : List Str := ["self", "first", "second"]
theorem scWB : FnScope nWB ["self", "first", "second"] (defScope sWithB) := ⟨rfl, rfl, rfl, by decide +kernel, rfl, by decide +kernel, by decide +kernel⟩
theorem ok_withBX {f fW fC M U : Addr} {fd fdW fdC : FuncData} (F : Fun K "with_bar" "Map.with_bar" sWithB f fd) (TM : TxtM K M)
    (mC : Meth K M "check_road" fC) (GC : FnOk Pg w K mg base (L2N.CX Pg w) 3 fC fdC ["self", "name"] (spCheck K M U)) (bC : Binds K fdC ["self", "name"] [])
    (mW : Meth K M "_with_parts" fW) (GW : FnOk Pg w K mg base (L2N.CX Pg w) 7 fW fdW ["self", "places", "roads", "bars"] (spWithPX K M C P)) (bW : Binds K fdW ["self", "places", "roads", "bars"] []) :
    FnOk Pg w K mg base (L2N.CX Pg w) 8 f fd ["self", "first", "second"] (spWithBX K M C U P) := by
  refine MyN.okN F scWB (fun vs H Q E h => ?_) (fun cdv A outer s H vs Q E hr h => ?_)
  · obtain ⟨x, a, b, d, ks, ps, rs, bs, rfl, _⟩ := h
    rfl
  · obtain ⟨x, a, b, d, ks, ps, rs, bs, rfl, hla, hlb, hI, kQ, kE1, kE2⟩ := h
    have hM := hI.m
    have hP := hI.t
    have b40 := hI.ok.b.len
    refine ⟨_, (pss_cons (ps_expr (pe_meth (E := E) (pv 0) TM.cl mC GC (hr.mono (by decide)) bC .nil (L2N.passes_call (L2N.takes_of rfl rfl rfl rfl) (fun _ _ _ _ h => h)) (pa_cons (pv 1) pa_nil)))
      (pss_cons (ps_expr (pe_meth (E := E) (pv 0) TM.cl mC GC (hr.mono (by decide)) bC .nil (L2N.passes_call (L2N.takes_of rfl rfl rfl rfl) (fun _ _ _ _ h => h)) (pa_cons (pv 2) pa_nil)))
      (pss_one (ps_ret (pe_meth (E := E) (pv 0) TM.cl mW GW (hr.mono (by decide)) bW .nil (L2N.passes_call (L2N.takes_of rfl rfl rfl rfl) (fun _ _ _ _ h => h)) (pa_cons (pe_fld (pv 0) rfl) (pa_cons (pe_fld (pv 0) rfl) (pa_cons (pe_lst (StX.pa_star (pe_fld (pv 0) rfl) (pa_cons (pe_tup (pa_cons (pv 1) (pa_cons (pv 2) pa_nil))) pa_nil))) pa_nil)))))))), ?_⟩
    obtain ⟨dx, fs, kk, pp, rr, D, bb, D2, ys, zs, hx, m⟩ := id hM
    have lzs := Paired.len m.bz
    refine ⟨_, rfl, x, dx, fs, rfl, hx, m.f0 _ (by decide +kernel), _, rfl, x, a, d, ks, ps, rs, bs, rfl, hla, hM, fun h1 => ?_, fun no => kE1 fun ⟨r, hr, e⟩ => no r hr e⟩
    refine ⟨_, rfl, x, dx, fs, rfl, hx, m.f0 _ (by decide +kernel), _, rfl, x, b, d, ks, ps, rs, bs, rfl, hlb, hM, fun h2 => ?_, fun no => kE2 h1 fun ⟨r, hr, e⟩ => no r hr e⟩
    have k := kQ h1 h2
    refine ⟨_, rfl, x, dx, fs, rfl, hx, m.f0 _ (by decide +kernel), ?_⟩
    refine ⟨_, rfl, x, M, dx, fs, _, rfl, hx, TM.cl, TM.n3, m.f3, _, rfl, x, M, dx, fs, _, rfl, hx, TM.cl, TM.n4, m.f4, _, rfl, x, M, dx, fs, _, rfl, hx, TM.cl, TM.n6, m.f6, bb, _, rfl, .inl (SqT.of m.b), ?_⟩
    refine ⟨_, rfl, _, rfl, (show 2 ≤ sizeLine by decide), fun q nq => ⟨by simp only [List.length_append, List.length_cons, List.length_nil]; rw [sizeLine_eq]; omega, fun L nL => ?_⟩⟩
    have ga := Grew.new hP (o := .tup [.str a, .str b]) nq
    have gb := Grew.new ga.tab (o := .lst (zs ++ [.ref q])) nL
    have g1 := ga.trans gb
    refine ⟨x, pp, rr, L, false, false, true, d, ks, ps, ps, rs, rs, bs ++ [(a, b)], bs, ys, zs ++ [.ref q], rfl, MapAt.grew g1 hP hM, g1.tab, SqT.of (g1.tup hP m.p), SqT.of (g1.tup hP m.r), Paired.map' m.ry fun _ _ m => (m.grew g1 hP).gen, SqL.of upd_same, ?_, ?_, k.on g1⟩
    · exact Paired.app (Paired.map' m.bz fun _ _ m => m.grew g1 hP) (.cons ⟨q, rfl, gb.tup ga.tab upd_same⟩ .nil)
    · obtain ⟨s⟩ := hI.ok.sm
      have q3 := s.bl
      rw [List.length_map] at q3
      refine ⟨⟨s.d, s.kl, s.k, s.pl, s.p, s.rl, s.r, by rw [List.length_map, List.length_append]; show _ + 1 ≤ _; omega, fun b' hb' => ?_⟩⟩
      rw [List.map_append] at hb'
      rcases List.mem_append.mp hb' with h | h
      · exact s.b b' h
      · have e : b' = [a, b] := List.mem_singleton.mp h
        rw [e]
        intro z hz
        simp only [List.mem_cons, List.not_mem_nil, or_false] at hz
        rcases hz with rfl | rfl
        · exact hla
        · exact hlb
abbrev nOB : List Str := ["self", "first", "second", "bars", "bar"]
theorem scOB : FnScope nOB ["self", "first", "second"] (defScope sWoutB) := ⟨rfl, rfl, rfl, by decide +kernel, rfl, by decide +kernel, by decide +kernel⟩
theorem ok_woutBX {f fW fB M U : Addr} {fd fdW fdB : FuncData} (F : Fun K "without_bar" "Map.without_bar" sWoutB f fd) (TM : TxtM K M) (T : TxtE mg K C)
    (mB : Meth K M "is_barred" fB) (GB : FnOk Pg w K mg base (L2N.CX Pg w) 4 fB fdB ["self", "first", "second"] (spBarredB K M U P)) (bB : Binds K fdB ["self", "first", "second"] [])
    (mW : Meth K M "_with_parts" fW) (GW : FnOk Pg w K mg base (L2N.CX Pg w) 7 fW fdW ["self", "places", "roads", "bars"] (spWithPX K M C P)) (bW : Binds K fdW ["self", "places", "roads", "bars"] []) :
    FnOk Pg w K mg base (L2N.CX Pg w) 8 f fd ["self", "first", "second"] (spWoutBX K M C U P) := by
  refine MyN.okN F scOB (fun vs H Q E h => ?_) (fun cdv A outer s H vs Q E hr h => ?_)
  · obtain ⟨x, a, b, d, ks, ps, rs, bs, rfl, _⟩ := h
    rfl
  · obtain ⟨x, a, b, d, ks, ps, rs, bs, rfl, hla, hlb, hoa, hob, hI, kQ, kB, kE1, kE2⟩ := h
    have hM := hI.m
    have hP := hI.t
    have b40 := hI.ok.b.len
    refine ⟨_, (pss_cons (ps_if (pt_not (pt_val (pe_meth (E := E) (pv 0) TM.cl mB GB (hr.mono (by decide)) bB .nil (L2N.passes_call (L2N.takes_of rfl rfl rfl rfl) (fun _ _ _ _ h => h)) (pa_cons (pv 1) (pa_cons (pv 2) pa_nil))))) (pss_one (L2N.ps_raise rfl (L2N.takes_of rfl rfl rfl rfl) (MyN.mk1 PySem.F.excBase_ValueError T.xC T.gC T.kC (raises_own T.bC T.tC) (by rfl) (pe_joined (PJ.cons pe_str (PJ.cons (pe_fmt (pv 1)) (PJ.cons pe_str (PJ.cons (pe_fmt (pv 2)) PJ.nil))))))))
        pss_nil)
      (pss_cons (ps_setLc (i := 3) (own := [("bar", 4)]) (g := (gName 4)) rfl scOB.nd rfl rfl (sw_true rfl rfl rfl (by decide +kernel)) (pi_tup (pe_fld (pv 0) rfl)) (blkOk_by (N := nOB) (sc := defScope sWoutB) (by decide +kernel)) (fun _ _ _ _ _ => pg_name (i := 4) scOB.nd rfl (Or.inl rfl)) (fun _ _ _ _ _ => pts_one (pt_cmpR (r := rNeD K) (op_neD hr.units) (pv 4) (pe_tup (pa_cons (pv 1) (pa_cons (pv 2) pa_nil))) (nomark _))) (fun _ _ _ _ _ => (pv 4)))
      (pss_one (ps_ret (pe_meth (E := E) (pv 0) TM.cl mW GW (hr.mono (by decide)) bW .nil (L2N.passes_call (L2N.takes_of rfl rfl rfl rfl) (fun _ _ _ _ h => h)) (pa_cons (pe_fld (pv 0) rfl) (pa_cons (pe_fld (pv 0) rfl) (pa_cons (pv 3) pa_nil)))))))), ?_⟩
    obtain ⟨dx, fs, kk, pp, rr, D, bb, D2, ys, zs, hx, m⟩ := id hM
    have lzs := Paired.len m.bz
    refine ⟨_, rfl, x, dx, fs, rfl, hx, m.f0 _ (by decide +kernel), _, rfl, _, rfl, x, a, b, d, ks, ps, rs, bs, rfl, hla, hlb, hI, fun h1 h2 H1 g1 => ⟨_, rfl, ?_⟩, kE1, kE2⟩
    by_cases c : (a, b) ∈ bs
    case neg =>
      rw [decide_eq_false c]
      refine iteT ?_
      refine tJs_ok (fun z => (kB h1 h2 c).on g1 _ (Grew.refl g1.tab)) 0 (fun t ht => ?_) (Nat.zero_le _) (by decide)
      simp only [List.mem_cons, List.not_mem_nil, or_false] at ht
      rcases ht with rfl | rfl | rfl | rfl
      · exact short_c (by decide +kernel)
      · exact short_v (y := a) rfl hla
      · exact short_c (by decide +kernel)
      · exact short_v (y := b) rfl hlb
    rw [decide_eq_true c]
    refine iteF ?_
    have k := kQ h1 h2 c
    have hM1 := MapAt.grew g1 hP hM
    have hx1 := g1.get hP hx (fun _ z => by cases z)
    have hba1 := g1.tup hP m.b
    have hbz1 : Paired (GBar H1) bs zs := Paired.map' m.bz fun _ _ m => m.grew g1 hP
    refine ⟨_, rfl, x, M, dx, fs, _, rfl, hx1, TM.cl, TM.n6, m.f6, bb, rfl, ⟨_, SqT.of hba1⟩, fun N nN => lc_tup (K := K) (a := bb) (xs := zs) (fun j H2 => Grew P H1 H2 ∧ ∃ acc, H2 N = some (.lst acc) ∧ Paired (GBar H2) ((bs.take j).filter fun q => !decide (q = (a, b))) acc)
      ⟨Grew.new g1.tab nN, [], upd_same, .nil⟩ (fun j H2 _ p => SqT.of (p.1.tup g1.tab hba1)) (fun j y H2 hj p => ?_) (fun H2 p => ?_)⟩
    · obtain ⟨g2, acc, hN, hacc⟩ := p
      obtain ⟨q, hqj, hbar0⟩ := Paired.at hbz1 hj
      have hbar := hbar0.grew g2 g1.tab
      have hqm := List.mem_of_getElem? hqj
      have tq := hI.ok.txt.b q hqm
      have ft := filter_takeA (p := fun q : Str × Str => !decide (q = (a, b))) hqj
      have ly := Paired.len hacc
      have lj : ((bs.take j).filter fun q => !decide (q = (a, b))).length ≤ 40 := by
        refine Nat.le_trans (List.length_filter_le _ _) ?_
        rw [List.length_take]; omega
      refine ⟨rfl, _, rfl, _, rfl, _, rfl, (show 2 ≤ sizeLine by decide), fun T nT => ?_⟩
      have gT := Grew.new g2.tab (o := .tup [.str a, .str b]) nT
      have hT : GBar (L2.upd H2 T (.tup [.str a, .str b])) (a, b) (.ref T) := ⟨T, rfl, upd_same⟩
      have hN' := gT.lst g2.tab hN
      have hbar' := hbar.grew gT g2.tab
      have sq : ∀ {b : Str × Str}, PyData.strOk b.1 = true → PyData.strOk b.2 = true → SeqAt.shaped (barP b) = true := fun h1 h2 => (Lay.tuple (n := 1) (ds := [.str _, .str _]) fun d hd => by
        simp only [List.mem_cons, List.not_mem_nil, or_false] at hd
        rcases hd with rfl | rfl
        · exact Lay.str h1
        · exact Lay.str h2).shaped (by decide)
      refine ⟨barP q, barP (a, b), hbar'.dp, hT.dp, sq tq.1 tq.2, sq hoa hob, _, rfl, ?_⟩
      have ee : PyData.eqv (barP q) (barP (a, b)) = decide (q = (a, b)) := by
        have e1 : PyData.eqv (barP q) (barP (a, b)) = PyData.eqv (.list ([q.1, q.2].map .str)) (.list ([a, b].map .str)) := by
          show PyData.eqv (.tuple _) (.tuple _) = _
          rw [PyData.eqv, PyData.eqv]
          rfl
        rw [e1, eqv_lists, decide_eq_decide]
        constructor
        · intro e
          exact Prod.ext (List.cons.inj e).1 (List.cons.inj (List.cons.inj e).2).1
        · intro e
          rw [e]
      rw [ee]
      have kb : ∀ {o : HO} {b' : Str × Str} {v : V}, GBar (L2.upd H2 T (.tup [.str a, .str b])) b' v → GBar (L2.upd (L2.upd H2 T (.tup [.str a, .str b])) N o) b' v := fun m => m.upd (fun xs z => by rw [hN'] at z; cases z)
      by_cases cq : q = (a, b)
      · refine if_f (by rw [decide_eq_true cq]; rfl) ⟨g2.trans gT, acc, hN', ?_⟩
        rw [ft, if_neg (by rw [decide_eq_true cq]; decide), List.append_nil]
        exact Paired.map' hacc fun _ _ m => m.grew gT g2.tab
      · refine if_t (by rw [decide_eq_false cq]; rfl) ⟨_, rfl, acc, hN', by rw [sizeLine_eq]; omega, (g2.trans gT).write hN' (fun _ z => by cases z) nN, _, upd_same, ?_⟩
        rw [ft, if_pos (by rw [decide_eq_false cq]; rfl)]
        exact Paired.snoc (Paired.map' hacc fun _ _ m => kb (m.grew gT g2.tab)) (kb hbar')
    obtain ⟨g2, acc, hN, hacc⟩ := p
    rw [← lzs, List.take_length] at hacc
    have hacc' : Paired (GBar H2) (outB a b bs) acc := hacc
    have g02 := g1.trans g2
    have hx2 := g02.get hP hx (fun _ z => by cases z)
    refine ⟨_, rfl, x, dx, fs, rfl, hx2, m.f0 _ (by decide +kernel), ?_⟩
    refine ⟨_, rfl, x, M, dx, fs, _, rfl, hx2, TM.cl, TM.n3, m.f3, _, rfl, x, M, dx, fs, _, rfl, hx2, TM.cl, TM.n4, m.f4, _, rfl, ?_⟩
    exact ⟨x, pp, rr, N, false, false, true, d, ks, ps, ps, rs, rs, outB a b bs, bs, ys, acc, rfl, MapAt.grew g02 hP hM, g02.tab, SqT.of (g02.tup hP m.p), SqT.of (g02.tup hP m.r), Paired.map' m.ry fun _ _ m => (m.grew g02 hP).gen, SqL.of hN, hacc', sm_less hI.ok.sm (fun _ h => h) (fun _ h => h) (fun x hx => (List.mem_filter.mp hx).1) (Nat.le_refl _) (Nat.le_refl _) (List.length_filter_le _ _), k.on g02⟩
end
end W

set_option Elab.async false
set_option linter.all false
set_option maxRecDepth 100000
set_option maxHeartbeats 2000000
namespace W
open PySem PySem.Spec PyProof.Rows L2 GxR MyG MyS SqX
/-! ### parts in another order, parts as a map keeps them -/
theorem paired_flip {α β : Type} {F : α → β → Prop} {G : β → α → Prop} (u : ∀ a b, F a b → G b a) : ∀ {l : List α} {m : List β}, Paired F l m → Paired G m l
  | _, _, .nil => .nil
  | _, _, .cons a r => .cons (u _ _ a) (paired_flip u r)
theorem paired_rev {α β : Type} {F : α → β → Prop} {l : List α} {m : List β} (h : Paired F l m) : Paired F l.reverse m.reverse := by
  induction h with
  | nil => exact .nil
  | cons a _ ih =>
    rw [List.reverse_cons, List.reverse_cons]
    exact Paired.snoc ih a
theorem all_perm {α : Type} {f : α → Bool} {l m : List α} (p : l.Perm m) (h : m.all f = true) : l.all f = true := List.all_eq_true.mpr fun x hx => List.all_eq_true.mp h x (p.mem_iff.mp hx)
theorem roadOk_in {d : Int} {ps ks ps' ks' : List Str} {r : RoadD} (h : RoadOk d ps ks r) (hp : ∀ z ∈ ps, z ∈ ps') (hk : ∀ z ∈ ks, z ∈ ks') : RoadOk d ps' ks' r := ⟨hp _ h.s, hp _ h.g, h.m1, h.m2, fun z hz => hk _ (h.u z hz), h.un, h.ud, h.h⟩
theorem partsOk_perm {d : Int} {ks ps ks' ps' : List Str} {rs rs' : List RoadD} {bs bs' : List (Str × Str)} (h : PartsOk d ks ps rs bs) (hk : ks'.Perm ks) (hp : ps'.Perm ps) (hr : rs'.Perm rs) (hb : bs'.Perm bs) : PartsOk d ks' ps' rs' bs' := by
  refine ⟨h.d1, h.d2, by rw [hk.length_eq]; exact h.k1, by rw [hk.length_eq]; exact h.k2, by rw [hp.length_eq]; exact h.p2, all_perm hk h.kn, all_perm hp h.pn, hk.nodup_iff.mpr h.kd, hp.nodup_iff.mpr h.pd, ⟨by rw [hr.length_eq]; exact h.r.len, all_perm (hr.map _) h.r.nm, (hr.map _).nodup_iff.mpr h.r.nd, fun r m => roadOk_in (h.r.ok r (hr.mem_iff.mp m)) (fun z => hp.mem_iff.mpr) (fun z => hk.mem_iff.mpr)⟩, ⟨by rw [hb.length_eq]; exact h.b.len, hb.nodup_iff.mpr h.b.nd, fun b m => ?_⟩⟩
  obtain ⟨r1, m1, r2, m2, q⟩ := h.b.ok b (hb.mem_iff.mp m)
  exact ⟨r1, hr.mem_iff.mpr m1, r2, hr.mem_iff.mpr m2, q⟩
theorem partsOk_srt {d : Int} {ks ps ks' ps' : List Str} {rs rs' : List RoadD} {bs bs' : List (Str × Str)} (h : PartsOk d ks ps rs bs) (s : Srt ks ps rs bs ks' ps' rs' bs') : PartsOk d ks' ps' rs' bs' := by
  have ek : ∀ r' ∈ rs', ∃ r ∈ rs, Kept r r' := fun r' hr' => by
    obtain ⟨l, pm, q⟩ := s.r
    exact Paired.mem q (pm.mem_iff.mpr hr')
  have ke : ∀ r ∈ rs, ∃ r' ∈ rs', Kept r r' := fun r hr => by
    obtain ⟨l, pm, q⟩ := s.r
    obtain ⟨i, hi, e⟩ := List.getElem_of_mem hr
    obtain ⟨v, hv, m⟩ := Paired.to q (List.getElem?_eq_some_iff.mpr ⟨hi, e⟩)
    exact ⟨v, pm.mem_iff.mp (List.mem_of_getElem? hv), m⟩
  refine ⟨h.d1, h.d2, by rw [s.k.length_eq]; exact h.k1, by rw [s.k.length_eq]; exact h.k2, by rw [s.p.length_eq]; exact h.p2, all_perm s.k h.kn, all_perm s.p h.pn, s.k.nodup_iff.mpr h.kd, s.p.nodup_iff.mpr h.pd, ⟨by rw [s.r.len]; exact h.r.len, List.all_eq_true.mpr fun z hz => ?_, s.r.nodup h.r.nd, fun r' m => ?_⟩, ⟨by rw [s.b.length_eq]; exact h.b.len, s.b.nodup_iff.mpr h.b.nd, fun b m => ?_⟩⟩
  · obtain ⟨r', hr', rfl⟩ := List.mem_map.mp hz
    obtain ⟨r, hr, k⟩ := ek r' hr'
    show isNm r'.name = true
    rw [k.1]
    exact List.all_eq_true.mp h.r.nm _ (List.mem_map.mpr ⟨r, hr, rfl⟩)
  · obtain ⟨r, hr, k1, k2, k3, k4, k5, k6, k7⟩ := ek r' m
    have o := h.r.ok r hr
    exact ⟨s.p.mem_iff.mpr (by rw [k2]; exact o.s), s.p.mem_iff.mpr (by rw [k3]; exact o.g), by rw [k4]; exact o.m1, by rw [k4]; exact o.m2, fun z hz => s.k.mem_iff.mpr (o.u z (k6.mem_iff.mp hz)), by rw [k6.length_eq]; exact o.un, k6.nodup_iff.mpr o.ud, by rw [k5]; exact o.h⟩
  · obtain ⟨r1, m1, r2, m2, e1, e2, e3⟩ := h.b.ok b (s.b.mem_iff.mp m)
    obtain ⟨s1, n1, k1⟩ := ke r1 m1
    obtain ⟨s2, n2, k2⟩ := ke r2 m2
    exact ⟨s1, n1, s2, n2, by rw [k1.1]; exact e1, by rw [k2.1]; exact e2, by rw [k1.2.2.1, k2.2.1]; exact e3⟩
theorem kept_trans {a b c : RoadD} (h1 : Kept a b) (h2 : Kept b c) : Kept a c := ⟨h2.1.trans h1.1, h2.2.1.trans h1.2.1, h2.2.2.1.trans h1.2.2.1, h2.2.2.2.1.trans h1.2.2.2.1, h2.2.2.2.2.1.trans h1.2.2.2.2.1, h2.2.2.2.2.2.1.trans h1.2.2.2.2.2.1, h2.2.2.2.2.2.2⟩
theorem paired_trans {α β γ : Type} {F : α → β → Prop} {G : β → γ → Prop} {R : α → γ → Prop} (u : ∀ a b c, F a b → G b c → R a c) : ∀ {l : List α} {m : List β} {n : List γ}, Paired F l m → Paired G m n → Paired R l n
  | _, _, _, .nil, h => by cases h; exact .nil
  | _, _, _, .cons a r, h => by
    cases h with
    | cons b s => exact .cons (u _ _ _ a b) (paired_trans u r s)
theorem keptAll_trans {a b c : List RoadD} (h1 : KeptAll a b) (h2 : KeptAll b c) : KeptAll a c := by
  obtain ⟨l, p, q⟩ := h1
  obtain ⟨m, p2, q2⟩ := h2
  -- a ~Kept~ l, l ~ b, b ~Kept~ m, m ~ c
  obtain ⟨m', p3, q3⟩ := Paired.perm p (paired_flip (G := fun y x => Kept x y) (fun _ _ h => h) q2)
  have q4 : Paired Kept l m' := paired_flip (fun _ _ h => h) q3
  exact ⟨m', p3.trans p2, paired_trans (F := Kept) (G := Kept) (R := Kept) (fun _ _ _ h1 h2 => kept_trans h1 h2) q q4⟩
theorem Srt.trans {ks ps ks1 ps1 ks2 ps2 : List Str} {rs rs1 rs2 : List RoadD} {bs bs1 bs2 : List (Str × Str)} (h1 : Srt ks ps rs bs ks1 ps1 rs1 bs1) (h2 : Srt ks1 ps1 rs1 bs1 ks2 ps2 rs2 bs2) : Srt ks ps rs bs ks2 ps2 rs2 bs2 :=
  ⟨h2.k.trans h1.k, h2.ka, h2.p.trans h1.p, h2.pa, keptAll_trans h1.r h2.r, h2.ra, h2.b.trans h1.b, h2.ba⟩
theorem Srt.rev {ks ps ks2 ps2 : List Str} {rs rs2 : List RoadD} {bs bs2 : List (Str × Str)} (h : Srt ks.reverse ps.reverse rs.reverse bs.reverse ks2 ps2 rs2 bs2) : Srt ks ps rs bs ks2 ps2 rs2 bs2 := by
  refine ⟨h.k.trans (List.reverse_perm _), h.ka, h.p.trans (List.reverse_perm _), h.pa, ?_, h.ra, h.b.trans (List.reverse_perm _), h.ba⟩
  obtain ⟨l, p, q⟩ := h.r
  have q2 := paired_rev q
  rw [List.reverse_reverse] at q2
  exact ⟨l.reverse, (List.reverse_perm l).trans p, q2⟩
theorem srt_bare {ks ks2 ps2 : List Str} {rs2 : List RoadD} {bs2 : List (Str × Str)} (h : Srt ks [] [] [] ks2 ps2 rs2 bs2) : ps2 = [] ∧ rs2 = [] ∧ bs2 = [] := by
  obtain ⟨l, p, q⟩ := h.r
  cases q
  exact ⟨List.perm_nil.mp h.p, List.nil_perm.mp p, List.perm_nil.mp h.b⟩
theorem partsOk_bare {d : Int} {ks ps : List Str} {rs : List RoadD} {bs : List (Str × Str)} (h : PartsOk d ks ps rs bs) : PartsOk d ks [] [] [] :=
  ⟨h.d1, h.d2, h.k1, h.k2, Nat.zero_le _, h.kn, rfl, h.kd, List.nodup_nil, ⟨Nat.zero_le _, rfl, List.nodup_nil, fun r h => (by cases h)⟩, ⟨Nat.zero_le _, List.nodup_nil, fun r h => (by cases h)⟩⟩
end W

set_option Elab.async false
set_option linter.all false
set_option maxRecDepth 100000
/-! x in t, x not in t, where t is a tuple of data of any depth -/
namespace MyH
open PySem PySem.Spec PyProof.Rows L2
section
variable {X : Cx}
def rInDT (K : PySem.W.Frag) : R2 := fun x y H Q => ∃ d ds, Dp K H x d ∧ Dp K H y (.tuple ds) ∧ SeqAt.shaped d = true ∧ SeqAt.shaped (.tuple ds) = true ∧ Q (.bl (ds.any fun z => PyData.eqv z d)) H
def rNotInDT (K : PySem.W.Frag) : R2 := fun x y H Q => ∃ d ds, Dp K H x d ∧ Dp K H y (.tuple ds) ∧ SeqAt.shaped d = true ∧ SeqAt.shaped (.tuple ds) = true ∧ Q (.bl (!ds.any fun z => PyData.eqv z d)) H
theorem op_inDT (hu : X.A.units + 65 < cLine) : OpR X (compareOp .In) (rInDT X.K) := by
  intro pins s σ H x y v u Q I rx ry h
  obtain ⟨d, ds, hd, he, sd, se, q⟩ := h
  obtain ⟨as, r1⟩ := Dp.reads I d x v hd rx
  obtain ⟨bs, r2⟩ := Dp.reads I (.tuple ds) y u he ry
  exact SeqAt.in_tuple_reads r2 r1 (SeqAt.canLay_of_shaped se) (SeqAt.canLay_of_shaped sd) (room_in_shaped sd hu) ⟨.bl _, H, I, rfl, q⟩
theorem op_notInDT (hu : X.A.units + 65 < cLine) : OpR X (compareOp .NotIn) (rNotInDT X.K) := by
  intro pins s σ H x y v u Q I rx ry h
  obtain ⟨d, ds, hd, he, sd, se, q⟩ := h
  obtain ⟨as, r1⟩ := Dp.reads I d x v hd rx
  obtain ⟨bs, r2⟩ := Dp.reads I (.tuple ds) y u he ry
  exact SeqAt.notIn_tuple_reads r2 r1 (SeqAt.canLay_of_shaped se) (SeqAt.canLay_of_shaped sd) (room_in_shaped sd hu) ⟨.bl _, H, I, rfl, q⟩
end
end MyH

set_option Elab.async false
set_option linter.all false
set_option maxRecDepth 100000
set_option maxHeartbeats 2000000
set_option exponentiation.threshold 2000
namespace W
open PySem PySem.Spec PyProof.Rows L2 GxR MyG MyS SqX
/-! ### plain data: it is equal as Python says exactly if it is the same -/
mutual
def Pl : PyData → Prop
  | .none => True
  | .bool _ => False
  | .int _ => True
  | .str _ => True
  | .list xs => PlAll xs
  | .tuple xs => PlAll xs
  | .dict _ => False
def PlAll : List PyData → Prop
  | [] => True
  | d :: ds => Pl d ∧ PlAll ds
end
mutual
theorem eqv_iff : ∀ (d e : PyData), Pl d → Pl e → (PyData.eqv d e = true ↔ d = e)
  | .none, e, _, he => by cases e <;> simp [PyData.eqv]
  | .bool b, e, h, _ => h.elim
  | .int i, e, _, he => by
    cases e with
    | bool b => exact he.elim
    | int j => simp [PyData.eqv]
    | _ => simp [PyData.eqv]
  | .str x, e, _, he => by
    cases e with
    | str y => rw [PyData.eqv, beq_iff_eq, PyData.str.injEq]
    | _ => simp [PyData.eqv]
  | .list xs, e, h, he => by
    cases e with
    | list ys => rw [PyData.eqv, eqvAll_iff xs ys h he, PyData.list.injEq]
    | _ => simp [PyData.eqv]
  | .tuple xs, e, h, he => by
    cases e with
    | tuple ys => rw [PyData.eqv, eqvAll_iff xs ys h he, PyData.tuple.injEq]
    | _ => simp [PyData.eqv]
  | .dict kvs, e, h, _ => h.elim
theorem eqvAll_iff : ∀ (ds es : List PyData), PlAll ds → PlAll es → (PyData.eqvAll ds es = true ↔ ds = es)
  | [], [], _, _ => by simp [PyData.eqvAll]
  | [], _ :: _, _, _ => by simp [PyData.eqvAll]
  | _ :: _, [], _, _ => by simp [PyData.eqvAll]
  | d :: ds, e :: es, h, he => by
    rw [PyData.eqvAll, Bool.and_eq_true, eqv_iff d e h.1 he.1, eqvAll_iff ds es h.2 he.2, List.cons.injEq]
end
theorem plAll_of {ds : List PyData} (h : ∀ d ∈ ds, Pl d) : PlAll ds := by
  induction ds with
  | nil => exact True.intro
  | cons d ds ih => exact ⟨h d List.mem_cons_self, ih fun x hx => h x (List.mem_cons_of_mem _ hx)⟩
theorem Pl.map {α : Type} {f : α → PyData} (h : ∀ a, Pl (f a)) (l : List α) : Pl (.tuple (l.map f)) := plAll_of fun d hd => by
  obtain ⟨a, _, rfl⟩ := List.mem_map.mp hd
  exact h a
theorem pl_strs (ns : List Str) : Pl (.tuple (ns.map .str)) := Pl.map (f := PyData.str) (fun _ => by show True; exact True.intro) ns
theorem pl_pair (p : Int × Int) : Pl (pairP p) := ⟨True.intro, True.intro, True.intro⟩
theorem pl_hours (hs : Option (List (Int × Int))) : Pl (hoursP hs) := by
  cases hs with
  | none => exact True.intro
  | some gs => exact Pl.map pl_pair gs
theorem pl_road (r : RoadD) : Pl (roadP r) := ⟨True.intro, True.intro, True.intro, True.intro, pl_strs _, pl_hours _, True.intro⟩
theorem pl_bar (b : Str × Str) : Pl (barP b) := ⟨True.intro, True.intro, True.intro⟩
theorem map_inj' {α β : Type} {f : α → β} (h : ∀ a b, f a = f b → a = b) : ∀ {l m : List α}, l.map f = m.map f → l = m
  | [], [], _ => rfl
  | [], _ :: _, e => by cases e
  | _ :: _, [], e => by cases e
  | a :: l, b :: m, e => by
    rw [List.map_cons, List.map_cons] at e
    injection e with e1 e2
    rw [h a b e1, map_inj' h e2]
theorem strs_inj {a b : List Str} (e : a.map PyData.str = b.map PyData.str) : a = b := map_inj' (fun x y h => by injection h) e
theorem pairP_inj (p q : Int × Int) (e : pairP p = pairP q) : p = q := by
  unfold pairP at e
  injection e with e
  injection e with e1 e
  injection e with e2
  injection e1 with e1
  injection e2 with e2
  exact Prod.ext e1 e2
theorem hoursP_inj {a b : Option (List (Int × Int))} (e : hoursP a = hoursP b) : a = b := by
  cases a with
  | none => cases b with
    | none => rfl
    | some _ => cases e
  | some x => cases b with
    | none => cases e
    | some y => exact congrArg some (map_inj' pairP_inj (PyData.tuple.inj e))
theorem roadP_inj {r s : RoadD} (e : roadP r = roadP s) : r = s := by
  obtain ⟨a1, a2, a3, a4, a5, a6⟩ := r
  obtain ⟨b1, b2, b3, b4, b5, b6⟩ := s
  unfold roadP at e
  simp only [PyData.tuple.injEq, List.cons.injEq, PyData.str.injEq, PyData.int.injEq, and_true] at e
  obtain ⟨rfl, rfl, rfl, rfl, e5, e6⟩ := e
  rw [strs_inj e5, hoursP_inj e6]
theorem barP_inj {r s : Str × Str} (e : barP r = barP s) : r = s := by
  unfold barP at e
  simp only [PyData.tuple.injEq, List.cons.injEq, PyData.str.injEq, and_true] at e
  exact Prod.ext e.1 e.2
/-- is it in the list: as Python says -/
theorem any_eqv {α : Type} {f : α → PyData} (hp : ∀ a, Pl (f a)) (hi : ∀ a b, f a = f b → a = b) (l : List α) (a : α) : ((l.map f).any fun z => PyData.eqv z (f a)) = true ↔ a ∈ l := by
  rw [List.any_eq_true]
  constructor
  · rintro ⟨z, hz, e⟩
    obtain ⟨b, hb, rfl⟩ := List.mem_map.mp hz
    rw [← hi b a ((eqv_iff _ _ (hp b) (hp a)).mp e)]
    exact hb
  · intro h
    exact ⟨f a, List.mem_map.mpr ⟨a, h, rfl⟩, (eqv_iff _ _ (hp a) (hp a)).mpr rfl⟩
/-! ### changes -/
/-- a part of a road that a change may change -/
inductive Pt
  | mi (i : Int)
  | ki (us : List Str)
  | ho (hs : Option (List (Int × Int)))
def Pt.of (r : RoadD) : Pt → Pt
  | .mi _ => .mi r.minutes
  | .ki _ => .ki r.users
  | .ho _ => .ho r.hours
def Pt.put (r : RoadD) : Pt → RoadD
  | .mi i => { r with minutes := i }
  | .ki us => { r with users := us }
  | .ho hs => { r with hours := hs }
def Pt.word : Pt → Str
  | .mi _ => "minutes"
  | .ki _ => "kinds"
  | .ho _ => "hours"
def Pt.spot : Pt → Nat
  | .mi _ => 3
  | .ki _ => 4
  | .ho _ => 5
def ptP : Pt → PyData
  | .mi i => .int i
  | .ki us => .tuple (us.map .str)
  | .ho hs => hoursP hs
def PtAt (K : PySem.W.Frag) (H : Hp) : Pt → V → Prop
  | .mi i, v => v = .int i
  | .ki us, v => ∃ q, v = .ref q ∧ H q = some (.tup (us.map V.str))
  | .ho hs, v => GHours K H hs v
inductive Chg
  | place (up : Bool) (z : Str)
  | road (up : Bool) (r : RoadD)
  | part (n : Str) (a b : Pt)
  | bar (up : Bool) (b : Str × Str)
def wPl : Bool → Str
  | true => "place"
  | false => "unplace"
def wRd : Bool → Str
  | true => "road"
  | false => "unroad"
def wBr : Bool → Str
  | true => "bar"
  | false => "unbar"
def Chg.word : Chg → Str
  | .place up _ => wPl up
  | .road up _ => wRd up
  | .part _ a _ => a.word
  | .bar up _ => wBr up
def chgP : Chg → PyData
  | .place up z => .tuple [.str (wPl up), .str z]
  | .road up r => .tuple [.str (wRd up), roadP r]
  | .part n a b => .tuple [.str a.word, .str n, ptP a, ptP b]
  | .bar up b => .tuple [.str (wBr up), .str b.1, .str b.2]
/-- what stands behind the word -/
def TailAt (K : PySem.W.Frag) (H : Hp) : Chg → List V → Prop
  | .place _ z, xs => xs = [.str z]
  | .road _ r, xs => ∃ v, xs = [v] ∧ RoadAt K H r v
  | .part n a b, xs => ∃ u v, xs = [.str n, u, v] ∧ PtAt K H a u ∧ PtAt K H b v
  | .bar _ b, xs => xs = [.str b.1, .str b.2]
def ChgAt (K : PySem.W.Frag) (H : Hp) (c : Chg) (v : V) : Prop := ∃ t xs, v = .ref t ∧ H t = some (.tup (.str c.word :: xs)) ∧ TailAt K H c xs
theorem GHours.grew {K : PySem.W.Frag} {P : Addr} {H H' : Hp} {hs : Option (List (Int × Int))} {v : V} (m : GHours K H hs v) (g : Grew P H H') (h : TabG H P) : GHours K H' hs v := m.keep (KeepT.grew g h)
theorem PtAt.grew {K : PySem.W.Frag} {P : Addr} {H H' : Hp} {p : Pt} {v : V} (m : PtAt K H p v) (g : Grew P H H') (h : TabG H P) : PtAt K H' p v := by
  cases p with
  | mi i => exact m
  | ki us => obtain ⟨q, e, e2⟩ := m; exact ⟨q, e, g.tup h e2⟩
  | ho hs => exact GHours.grew m g h
theorem TailAt.grew {K : PySem.W.Frag} {P : Addr} {H H' : Hp} {c : Chg} {xs : List V} (m : TailAt K H c xs) (g : Grew P H H') (h : TabG H P) : TailAt K H' c xs := by
  cases c with
  | place up z => exact m
  | road up r => obtain ⟨v, e, m⟩ := m; exact ⟨v, e, m.grew g h⟩
  | part n a b => obtain ⟨u, v, e, m1, m2⟩ := m; exact ⟨u, v, e, m1.grew g h, m2.grew g h⟩
  | bar up b => exact m
theorem ChgAt.grew {K : PySem.W.Frag} {P : Addr} {H H' : Hp} {c : Chg} {v : V} (m : ChgAt K H c v) (g : Grew P H H') (h : TabG H P) : ChgAt K H' c v := by
  obtain ⟨t, xs, e, q, m⟩ := m
  exact ⟨t, xs, e, g.tup h q, m.grew g h⟩
/-- a heap in which the tuples stay -/
structure TKp (H H' : Hp) : Prop where
  t : ∀ a xs, H a = some (.tup xs) → H' a = some (.tup xs)
  f : ∀ a u xs, H a = some (.frz u (.tup xs)) → H' a = some (.frz u (.tup xs))
theorem TKp.lst {H : Hp} {D : Addr} {o : HO} {l : List V} (e : H D = some (.lst l)) : TKp H (L2.upd H D o) := by
  refine ⟨fun a xs q => ?_, fun a u xs q => ?_⟩
  · rw [upd_ne (fun z => by rw [z, e] at q; cases q)]
    exact q
  · rw [upd_ne (fun z => by rw [z, e] at q; cases q)]
    exact q
theorem TKp.sq {K : PySem.W.Frag} {H H' : Hp} {a : Addr} {xs : List V} (k : TKp H H') (h : SqT K H a xs) : SqT K H' a xs := by
  rcases h with (h | ⟨u, h⟩) | h
  · exact .inl (.inl (k.t _ _ h))
  · exact .inl (.inr ⟨u, k.f _ _ _ h⟩)
  · exact .inr h
theorem GHours.kp {K : PySem.W.Frag} {H H' : Hp} {hs : Option (List (Int × Int))} {v : V} (k : TKp H H') (m : GHours K H hs v) : GHours K H' hs v := by
  cases hs with
  | none => exact m
  | some ps =>
    obtain ⟨l, xs, e, q, p⟩ := m
    exact ⟨l, xs, e, k.sq q, Paired.map' p fun _ _ m => let ⟨t, a, b⟩ := m; ⟨t, a, k.sq b⟩⟩
theorem RoadAt.kp {K : PySem.W.Frag} {H H' : Hp} {r : RoadD} {v : V} (k : TKp H H') (m : RoadAt K H r v) : RoadAt K H' r v := by
  obtain ⟨p, q, h, e, e1, e2, e3⟩ := m
  exact ⟨p, q, h, e, k.t _ _ e1, k.t _ _ e2, e3.kp k⟩
theorem PtAt.kp {K : PySem.W.Frag} {H H' : Hp} {p : Pt} {v : V} (k : TKp H H') (m : PtAt K H p v) : PtAt K H' p v := by
  cases p with
  | mi i => exact m
  | ki us => obtain ⟨q, e, e2⟩ := m; exact ⟨q, e, k.t _ _ e2⟩
  | ho hs => exact GHours.kp k m
theorem ChgAt.kp {K : PySem.W.Frag} {H H' : Hp} {c : Chg} {v : V} (k : TKp H H') (m : ChgAt K H c v) : ChgAt K H' c v := by
  obtain ⟨t, xs, e, q, m⟩ := m
  refine ⟨t, xs, e, k.t _ _ q, ?_⟩
  cases c with
  | place up z => exact m
  | road up r => obtain ⟨v, e, m⟩ := m; exact ⟨v, e, m.kp k⟩
  | part n a b => obtain ⟨u, v, e, m1, m2⟩ := m; exact ⟨u, v, e, m1.kp k, m2.kp k⟩
  | bar up b => exact m
theorem PtAt.dp {K : PySem.W.Frag} {H : Hp} {p : Pt} {v : V} (m : PtAt K H p v) : Dp K H v (ptP p) := by
  cases p with
  | mi i => have e : v = .int i := m; rw [e]; exact .int i
  | ki us => obtain ⟨q, rfl, e2⟩ := m; exact .tup (SqT.of e2) (dpAll_strs _)
  | ho hs => exact GHours.dp m
theorem ChgAt.dp {K : PySem.W.Frag} {H : Hp} {c : Chg} {v : V} (m : ChgAt K H c v) : Dp K H v (chgP c) := by
  obtain ⟨t, xs, rfl, q, m⟩ := m
  cases c with
  | place up z => obtain rfl := m; exact .tup (SqT.of q) (.cons (.str _) (.cons (.str _) .nil))
  | road up r => obtain ⟨v, rfl, m⟩ := m; exact .tup (SqT.of q) (.cons (.str _) (.cons m.dp .nil))
  | part n a b => obtain ⟨u, v, rfl, m1, m2⟩ := m; exact .tup (SqT.of q) (.cons (.str _) (.cons (.str _) (.cons m1.dp (.cons m2.dp .nil))))
  | bar up b => obtain rfl := m; exact .tup (SqT.of q) (.cons (.str _) (.cons (.str _) (.cons (.str _) .nil)))
theorem pl_pt (p : Pt) : Pl (ptP p) := by
  cases p with
  | mi i => exact True.intro
  | ki us => exact pl_strs us
  | ho hs => exact pl_hours hs
/-! ### which changes are drawn -/
structure GoodR (d : Int) (ks : List Str) (r : RoadD) : Prop where
  n : isNm r.name = true
  s : isNm r.start = true
  g : isNm r.goal = true
  m1 : 1 ≤ r.minutes
  m2 : r.minutes ≤ 1000
  u : ∀ k ∈ r.users, k ∈ ks
  un : r.users.length ≤ 4
  ud : r.users.Nodup
  ua : Asc r.users
  h : HoursOk d r.hours
def PtSm : Pt → Prop
  | .mi i => i.natAbs < 10 ^ 9
  | .ki us => us.length ≤ 5 ∧ us.all isNm = true
  | .ho hs => ∀ gs, hs = some gs → gs.length ≤ 4 ∧ ∀ p ∈ gs, p.1.natAbs < 10 ^ 9 ∧ p.2.natAbs < 10 ^ 9
def SameK : Pt → Pt → Prop
  | .mi _, .mi _ => True
  | .ki _, .ki _ => True
  | .ho _, .ho _ => True
  | _, _ => False
def ChgOk (d : Int) (ks : List Str) : Chg → Prop
  | .place _ z => isNm z = true
  | .road _ r => GoodR d ks r
  | .part n a b => isNm n = true ∧ SameK a b ∧ PtSm a ∧ PtSm b
  | .bar _ b => isNm b.1 = true ∧ isNm b.2 = true
theorem GoodR.txt {d : Int} {ks : List Str} {r : RoadD} (h : GoodR d ks r) (hk : ks.all isNm = true) : TxtR r :=
  ⟨nm_ok h.n, nm_ok h.s, nm_ok h.g, fun z hz => all_nm hk z (h.u z hz)⟩
theorem lay_pt {p : Pt} (h : PtSm p) : Lay 3 (ptP p) := by
  cases p with
  | mi i => exact (Lay.int i).mono (by decide)
  | ki us => exact (lay_strs (all_nm h.2)).mono (by decide)
  | ho hs => exact lay_hours hs
theorem ptWord_ok (p : Pt) : PyData.strOk p.word = true := by
  cases p
  · show PyData.strOk "minutes" = true; decide +kernel
  · show PyData.strOk "kinds" = true; decide +kernel
  · show PyData.strOk "hours" = true; decide +kernel
theorem wPl_ok (b : Bool) : PyData.strOk (wPl b) = true := by cases b <;> decide +kernel
theorem wRd_ok (b : Bool) : PyData.strOk (wRd b) = true := by cases b <;> decide +kernel
theorem wBr_ok (b : Bool) : PyData.strOk (wBr b) = true := by cases b <;> decide +kernel
theorem chg_lay {d : Int} {ks : List Str} {c : Chg} (hk : ks.all isNm = true) (h : ChgOk d ks c) : Lay 5 (chgP c) := by
  cases c with
  | place up z =>
    refine Lay.tuple fun e he => ?_
    simp only [List.mem_cons, List.not_mem_nil, or_false] at he
    rcases he with rfl | rfl
    · exact (Lay.str (wPl_ok up)).mono (by decide)
    · exact (Lay.str (nm_ok h)).mono (by decide)
  | road up r =>
    refine Lay.tuple fun e he => ?_
    simp only [List.mem_cons, List.not_mem_nil, or_false] at he
    rcases he with rfl | rfl
    · exact (Lay.str (wRd_ok up)).mono (by decide)
    · exact (GoodR.txt h hk).lay
  | part n a b =>
    refine Lay.tuple fun e he => ?_
    simp only [List.mem_cons, List.not_mem_nil, or_false] at he
    rcases he with rfl | rfl | rfl | rfl
    · exact (Lay.str (ptWord_ok a)).mono (by decide)
    · exact (Lay.str (nm_ok h.1)).mono (by decide)
    · exact (lay_pt h.2.2.1).mono (by decide)
    · exact (lay_pt h.2.2.2).mono (by decide)
  | bar up b =>
    refine Lay.tuple fun e he => ?_
    simp only [List.mem_cons, List.not_mem_nil, or_false] at he
    rcases he with rfl | rfl | rfl
    · exact (Lay.str (wBr_ok up)).mono (by decide)
    · exact (Lay.str (nm_ok h.1)).mono (by decide)
    · exact (Lay.str (nm_ok h.2)).mono (by decide)
end W

set_option Elab.async false
set_option linter.all false
set_option maxRecDepth 100000
set_option maxHeartbeats 2000000
namespace W
open PySem PySem.Spec PyProof.Rows L2 GxR MyG MyS SqX
/-! ### what a change makes of parts as a map keeps them -/
noncomputable instance : DecidableEq RoadD := fun a b => Classical.propDecidable (a = b)
noncomputable def srtS (l : List Str) : List Str := open Classical in if h : ∃ m : List Str, m.Perm l ∧ Asc m then h.choose else l
noncomputable def srtB (l : List (Str × Str)) : List (Str × Str) := open Classical in if h : ∃ m : List (Str × Str), m.Perm l ∧ AscB m then h.choose else l
noncomputable def srtR (l : List RoadD) : List RoadD := open Classical in if h : ∃ m : List RoadD, m.Perm l ∧ AscR m then h.choose else l
theorem srtS_eq {l m : List Str} (p : m.Perm l) (a : Asc m) : srtS l = m := by
  have h : ∃ m : List Str, m.Perm l ∧ Asc m := ⟨m, p, a⟩
  unfold srtS
  rw [dif_pos h]
  exact asc_one h.choose_spec.1 p h.choose_spec.2 a
theorem srtB_eq {l m : List (Str × Str)} (p : m.Perm l) (a : AscB m) : srtB l = m := by
  have h : ∃ m : List (Str × Str), m.Perm l ∧ AscB m := ⟨m, p, a⟩
  unfold srtB
  rw [dif_pos h]
  exact ascB_one h.choose_spec.1 p h.choose_spec.2 a
theorem ascR_one {l m n : List RoadD} (nd : (n.map (·.name)).Nodup) (h1 : l.Perm n) (h2 : m.Perm n) (a1 : AscR l) (a2 : AscR m) : l = m :=
  List.Perm.eq_of_pairwise (le := fun a b : RoadD => slt b.name a.name = false) (fun a b ha hb p q => uniqN nd (h1.mem_iff.mp ha) (h2.mem_iff.mp hb) (slt_tri q p)) a1 a2 (h1.trans h2.symm)
theorem srtR_eq {l m : List RoadD} (nd : (l.map (·.name)).Nodup) (p : m.Perm l) (a : AscR m) : srtR l = m := by
  have h : ∃ m : List RoadD, m.Perm l ∧ AscR m := ⟨m, p, a⟩
  unfold srtR
  rw [dif_pos h]
  exact ascR_one nd h.choose_spec.1 p h.choose_spec.2 a
/-- the parts that a change may change -/
structure PT where
  ps : List Str
  rs : List RoadD
  bs : List (Str × Str)
def nmsR (rs : List RoadD) : List Str := rs.map (·.name)
noncomputable def outR (r : RoadD) (rs : List RoadD) : List RoadD := rs.filter fun x => !decide (x = r)
def setR (n : Str) (b : Pt) (rs : List RoadD) : List RoadD := rs.map fun r => if r.name = n then Pt.put r b else r
def fits (d : Int) (ks : List Str) : Pt → Prop
  | .mi i => 1 ≤ i ∧ i ≤ 1000
  | .ki us => us = ks.filter fun k => decide (k ∈ us)
  | .ho hs => ∀ gs, hs = some gs → hoursOk d (-1) gs
def Meets (rs : List RoadD) (b : Str × Str) : Prop := ∃ r1 ∈ rs, ∃ r2 ∈ rs, b.1 = r1.name ∧ b.2 = r2.name ∧ r1.goal = r2.start
noncomputable def chg (d : Int) (ks : List Str) (q : PT) : Chg → Option PT := open Classical in fun
  | .place true z => if z ∈ q.ps ∨ q.ps.length = 30 then none else some ⟨srtS (q.ps ++ [z]), q.rs, q.bs⟩
  | .place false z => if z ∉ q.ps ∨ ∃ r ∈ q.rs, z = r.start ∨ z = r.goal then none else some ⟨outP z q.ps, q.rs, q.bs⟩
  | .road true r => if r.name ∈ nmsR q.rs ∨ q.rs.length = 60 ∨ r.start ∉ q.ps ∨ r.goal ∉ q.ps then none else some ⟨q.ps, srtR (q.rs ++ [r]), q.bs⟩
  | .road false r => if r ∉ q.rs ∨ ∃ b ∈ q.bs, r.name = b.1 ∨ r.name = b.2 then none else some ⟨q.ps, outR r q.rs, q.bs⟩
  | .part n a b => if ∃ r ∈ q.rs, r.name = n ∧ Pt.of r b = a ∧ a ≠ b ∧ fits d ks b then some ⟨q.ps, setR n b q.rs, q.bs⟩ else none
  | .bar true b => if b ∈ q.bs ∨ q.bs.length = 40 ∨ ¬ Meets q.rs b then none else some ⟨q.ps, q.rs, srtB (q.bs ++ [b])⟩
  | .bar false b => if b ∈ q.bs then some ⟨q.ps, q.rs, outB b.1 b.2 q.bs⟩ else none
/-- parts as a map keeps them -/
structure SP (d : Int) (ks : List Str) (q : PT) : Prop where
  ok : PartsOk d ks q.ps q.rs q.bs
  ka : Asc ks
  pa : Asc q.ps
  ra : AscR q.rs
  ba : AscB q.bs
  ua : ∀ r ∈ q.rs, Asc r.users
theorem kept_self {r : RoadD} (h : Asc r.users) : Kept r r := ⟨rfl, rfl, rfl, rfl, rfl, List.Perm.refl _, h⟩
theorem keptAll_perm {rs l : List RoadD} (h : KeptAll rs l) (ua : ∀ r ∈ rs, Asc r.users) : l.Perm rs := by
  obtain ⟨m, pm, q⟩ := h
  have e : m = rs := by
    have key : ∀ {a b : List RoadD}, Paired Kept a b → (∀ r ∈ a, Asc r.users) → b = a := by
      intro a b h
      induction h with
      | nil => intro _; rfl
      | cons x _ ih =>
        intro hu
        rw [ih fun r hr => hu r (List.mem_cons_of_mem _ hr), kept_one x (kept_self (hu _ List.mem_cons_self))]
    exact key q ua
  rw [← e]
  exact pm.symm
/-- a map made of such parts holds them so -/
theorem SP.made {d : Int} {ks ps' ks2 ps2 : List Str} {rs' rs2 : List RoadD} {bs' bs2 : List (Str × Str)} {q : PT} (h : SP d ks q) (pp : ps'.Perm q.ps) (pr : rs'.Perm q.rs) (pb : bs'.Perm q.bs) (s : Srt ks ps' rs' bs' ks2 ps2 rs2 bs2) : ks2 = ks ∧ ps2 = q.ps ∧ rs2 = q.rs ∧ bs2 = q.bs :=
  ⟨asc_one s.k (List.Perm.refl _) s.ka h.ka, asc_one s.p pp.symm s.pa h.pa, ascR_one (n := rs') ((pr.map _).nodup_iff.mpr h.ok.r.nd) (keptAll_perm s.r fun r hr => h.ua r (pr.mem_iff.mp hr)) pr.symm s.ra h.ra, ascB_one s.b pb.symm s.ba h.ba⟩
theorem SP.of_srt {d : Int} {ks ps ks' ps' : List Str} {rs rs' : List RoadD} {bs bs' : List (Str × Str)} (ok : PartsOk d ks ps rs bs) (s : Srt ks ps rs bs ks' ps' rs' bs') : SP d ks' ⟨ps', rs', bs'⟩ := by
  refine ⟨partsOk_srt ok s, s.ka, s.pa, s.ra, s.ba, fun r hr => ?_⟩
  obtain ⟨l, pm, q⟩ := s.r
  obtain ⟨r0, _, k⟩ := Paired.mem q (pm.mem_iff.mpr hr)
  exact k.2.2.2.2.2.2
theorem SP.self {d : Int} {ks : List Str} {q : PT} (h : SP d ks q) : Srt ks q.ps q.rs q.bs ks q.ps q.rs q.bs := by
  refine ⟨List.Perm.refl _, h.ka, List.Perm.refl _, h.pa, ⟨q.rs, List.Perm.refl _, ?_⟩, h.ra, List.Perm.refl _, h.ba⟩
  have key : ∀ {a : List RoadD}, (∀ r ∈ a, Asc r.users) → Paired Kept a a := by
    intro a
    induction a with
    | nil => intro _; exact .nil
    | cons x l ih => intro hu; exact .cons (kept_self (hu x List.mem_cons_self)) (ih fun r hr => hu r (List.mem_cons_of_mem _ hr))
  exact key h.ua
/-! ### there is a sorted list of each -/
theorem srt_ex {α : Type} (lt : α → α → Bool) (ntr : ∀ x y z, lt y x = false → lt z y = false → lt z x = false) (asym : ∀ a b, lt a b = true → lt b a = false) (l : List α) : ∃ m : List α, m.Perm l ∧ m.Pairwise fun a b => lt b a = false := by
  refine ⟨l.mergeSort fun a b => !lt b a, List.mergeSort_perm _ _, (List.pairwise_mergeSort ?_ ?_ l).imp fun {a b} h => by simpa using h⟩
  · intro a b c h1 h2
    simp only [Bool.not_eq_true'] at h1 h2 ⊢
    exact ntr a b c h1 h2
  · intro a b
    cases e : lt b a with
    | false => rfl
    | true => simp [asym b a e]
theorem srtS_ok (l : List Str) : (srtS l).Perm l ∧ Asc (srtS l) := by
  obtain ⟨m, p, a⟩ := srt_ex slt (fun x y z => slt_ntr) (fun a b => slt_asym) l
  rw [srtS_eq p a]
  exact ⟨p, a⟩
theorem srtR_ok {l : List RoadD} (nd : (l.map (·.name)).Nodup) : (srtR l).Perm l ∧ AscR (srtR l) := by
  obtain ⟨m, p, a⟩ := srt_ex (fun a b : RoadD => slt a.name b.name) (fun x y z => slt_ntr) (fun a b => slt_asym) l
  rw [srtR_eq nd p a]
  exact ⟨p, a⟩
theorem slt2_ntr' {x y z : Str × Str} (h1 : slt2 y x = false) (h2 : slt2 z y = false) : slt2 z x = false := by
  by_cases e1 : x.1 = y.1
  · by_cases e2 : y.1 = z.1
    · rw [slt2_eq e1.symm] at h1
      rw [slt2_eq e2.symm] at h2
      rw [slt2_eq (e1.trans e2).symm]
      exact slt_ntr h1 h2
    · rw [slt2_ne (Ne.symm e2)] at h2
      rw [slt2_ne (fun c => e2 (e1.symm.trans c.symm)), e1]
      exact h2
  · by_cases e2 : y.1 = z.1
    · rw [slt2_ne (Ne.symm e1)] at h1
      rw [slt2_ne (fun c => e1 (c.symm.trans e2.symm)), ← e2]
      exact h1
    · rw [slt2_ne (Ne.symm e1)] at h1
      rw [slt2_ne (Ne.symm e2)] at h2
      have h3 := slt_ntr h1 h2
      by_cases e3 : z.1 = x.1
      · rw [e3] at h2
        exact absurd (slt_tri h2 h1) e1
      · rw [slt2_ne e3]
        exact h3
theorem slt2_asym {a b : Str × Str} (h : slt2 a b = true) : slt2 b a = false := by
  by_cases e : a.1 = b.1
  · rw [slt2_eq e] at h
    rw [slt2_eq e.symm]
    exact slt_asym h
  · rw [slt2_ne e] at h
    rw [slt2_ne (Ne.symm e)]
    exact slt_asym h
theorem srtB_ok (l : List (Str × Str)) : (srtB l).Perm l ∧ AscB (srtB l) := by
  obtain ⟨m, p, a⟩ := srt_ex slt2 (fun x y z => slt2_ntr') (fun a b => slt2_asym) l
  rw [srtB_eq p a]
  exact ⟨p, a⟩
/-! ### when the changed parts make a map -/
theorem mem_outP {z a : Str} {ps : List Str} : a ∈ outP z ps ↔ a ∈ ps ∧ a ≠ z := by
  unfold outP
  rw [List.mem_filter]
  simp
theorem mem_outB {a b : Str} {x : Str × Str} {bs : List (Str × Str)} : x ∈ outB a b bs ↔ x ∈ bs ∧ x ≠ (a, b) := by
  unfold outB
  rw [List.mem_filter]
  simp
section
variable {d : Int} {ks : List Str} {q : PT}
theorem ok_place (h : PartsOk d ks q.ps q.rs q.bs) {z : Str} (hz : isNm z = true) : PartsOk d ks (q.ps ++ [z]) q.rs q.bs ↔ ¬ (z ∈ q.ps ∨ q.ps.length = 30) := by
  constructor
  · intro o hn
    rcases hn with hn | hn
    · have q := (List.nodup_append.mp o.pd).2.2 z hn z (List.mem_singleton.mpr rfl)
      exact q rfl
    · have q := o.p2
      rw [List.length_append, hn, List.length_singleton] at q
      omega
  · intro hn
    have hn1 : z ∉ q.ps := fun c => hn (.inl c)
    have hn2 : q.ps.length ≠ 30 := fun c => hn (.inr c)
    have p2 := h.p2
    refine ⟨h.d1, h.d2, h.k1, h.k2, by rw [List.length_append, List.length_singleton]; omega, h.kn, by rw [List.all_append, h.pn]; simp [hz], h.kd, List.nodup_append.mpr ⟨h.pd, List.nodup_cons.mpr ⟨by simp, List.nodup_nil⟩, fun a ha b hb e => hn1 (by rw [← List.mem_singleton.mp hb, ← e]; exact ha)⟩, ⟨h.r.len, h.r.nm, h.r.nd, fun r hr => ?_⟩, h.b⟩
    have o := h.r.ok r hr
    exact ⟨List.mem_append.mpr (.inl o.s), List.mem_append.mpr (.inl o.g), o.m1, o.m2, o.u, o.un, o.ud, o.h⟩
theorem ok_unplace (h : PartsOk d ks q.ps q.rs q.bs) (z : Str) : PartsOk d ks (outP z q.ps) q.rs q.bs ↔ ¬ ∃ r ∈ q.rs, z = r.start ∨ z = r.goal := by
  constructor
  · rintro o ⟨r, hr, e⟩
    have w := o.r.ok r hr
    rcases e with e | e
    · exact (mem_outP.mp w.s).2 e.symm
    · exact (mem_outP.mp w.g).2 e.symm
  · intro hn
    have p2 := h.p2
    have lf : (outP z q.ps).length ≤ q.ps.length := List.length_filter_le _ _
    refine ⟨h.d1, h.d2, h.k1, h.k2, by omega, h.kn, List.all_eq_true.mpr fun a ha => List.all_eq_true.mp h.pn a (mem_outP.mp ha).1, h.kd, h.pd.sublist List.filter_sublist, ⟨h.r.len, h.r.nm, h.r.nd, fun r hr => ?_⟩, h.b⟩
    have o := h.r.ok r hr
    exact ⟨mem_outP.mpr ⟨o.s, fun e => hn ⟨r, hr, .inl e.symm⟩⟩, mem_outP.mpr ⟨o.g, fun e => hn ⟨r, hr, .inr e.symm⟩⟩, o.m1, o.m2, o.u, o.un, o.ud, o.h⟩
theorem butR_none {n : Str} {rs : List RoadD} (h : n ∉ nmsR rs) : butR n rs = rs := by
  unfold butR
  refine List.filter_eq_self.mpr fun r hr => ?_
  simp only [Bool.not_eq_true', decide_eq_false_iff_not]
  exact fun e => h (List.mem_map.mpr ⟨r, hr, e⟩)
theorem GoodR.ok {r : RoadD} (h : GoodR d ks r) {ps : List Str} (hs : r.start ∈ ps) (hg : r.goal ∈ ps) : RoadOk d ps ks r := ⟨hs, hg, h.m1, h.m2, h.u, h.un, h.ud, h.h⟩
theorem okP_road (h : PartsOk d ks q.ps q.rs q.bs) {r : RoadD} (hr : GoodR d ks r) (hn : r.name ∉ nmsR q.rs) : PartsOk d ks q.ps (putR r q.rs) q.bs ↔ ¬ (q.rs.length = 60 ∨ r.start ∉ q.ps ∨ r.goal ∉ q.ps) := by
  have e : putR r q.rs = q.rs ++ [r] := by unfold putR; rw [butR_none hn]
  rw [e]
  have hrm : r ∈ q.rs ++ [r] := List.mem_append.mpr (.inr List.mem_cons_self)
  constructor
  · intro o hx
    rcases hx with hx | hx | hx
    · have := o.r.len
      rw [List.length_append, hx, List.length_singleton] at this
      omega
    · exact hx (o.r.ok r hrm).s
    · exact hx (o.r.ok r hrm).g
  · intro hx
    have h1 : q.rs.length ≠ 60 := fun c => hx (.inl c)
    have h2 : r.start ∈ q.ps := Classical.byContradiction fun c => hx (.inr (.inl c))
    have h3 : r.goal ∈ q.ps := Classical.byContradiction fun c => hx (.inr (.inr c))
    have l60 := h.r.len
    refine ⟨h.d1, h.d2, h.k1, h.k2, h.p2, h.kn, h.pn, h.kd, h.pd, ⟨by rw [List.length_append, List.length_singleton]; omega, ?_, ?_, fun x hx => ?_⟩, ⟨h.b.len, h.b.nd, fun b hb => ?_⟩⟩
    · rw [List.map_append, List.all_append, h.r.nm]
      simp [hr.n]
    · rw [List.map_append]
      exact List.nodup_append.mpr ⟨h.r.nd, List.nodup_cons.mpr ⟨by simp, List.nodup_nil⟩, fun a ha b hb e => hn (by rw [show r.name = b from (List.mem_singleton.mp hb).symm, ← e]; exact ha)⟩
    · rcases List.mem_append.mp hx with c | c
      · exact h.r.ok x c
      · rw [List.mem_singleton.mp c]
        exact hr.ok h2 h3
    · obtain ⟨r1, m1, r2, m2, e1, e2, e3⟩ := h.b.ok b hb
      exact ⟨r1, List.mem_append.mpr (.inl m1), r2, List.mem_append.mpr (.inl m2), e1, e2, e3⟩
theorem butB_none {z : Str} {bs : List (Str × Str)} (h : ¬ ∃ b ∈ bs, z = b.1 ∨ z = b.2) : butB z bs = bs := by
  unfold butB
  refine List.filter_eq_self.mpr fun b hb => ?_
  simp only [Bool.not_eq_true', decide_eq_false_iff_not]
  exact fun e => h ⟨b, hb, e⟩
theorem outR_but {rs : List RoadD} (nd : (rs.map (·.name)).Nodup) {r : RoadD} (hr : r ∈ rs) : outR r rs = butR r.name rs := by
  unfold outR butR
  refine List.filter_congr fun x hx => ?_
  congr 1
  by_cases e : x = r
  · rw [decide_eq_true e, decide_eq_true (by rw [e])]
  · rw [decide_eq_false e, decide_eq_false (fun c => e (uniqN nd hx hr c))]
theorem ok_unroad (h : PartsOk d ks q.ps q.rs q.bs) {r : RoadD} (hn : ¬ ∃ b ∈ q.bs, r.name = b.1 ∨ r.name = b.2) : PartsOk d ks q.ps (butR r.name q.rs) q.bs := by
  have l60 := h.r.len
  have lf : (butR r.name q.rs).length ≤ q.rs.length := List.length_filter_le _ _
  refine ⟨h.d1, h.d2, h.k1, h.k2, h.p2, h.kn, h.pn, h.kd, h.pd, ⟨by omega, List.all_eq_true.mpr fun a ha => ?_, h.r.nd.sublist (List.filter_sublist.map _), fun x hx => h.r.ok x (mem_butR.mp hx).1⟩, ⟨h.b.len, h.b.nd, fun b hb => ?_⟩⟩
  · obtain ⟨x, hx, rfl⟩ := List.mem_map.mp ha
    exact List.all_eq_true.mp h.r.nm _ (List.mem_map.mpr ⟨x, (mem_butR.mp hx).1, rfl⟩)
  · obtain ⟨r1, m1, r2, m2, e1, e2, e3⟩ := h.b.ok b hb
    exact ⟨r1, mem_butR.mpr ⟨m1, fun c => hn ⟨b, hb, .inl (c.symm.trans e1.symm)⟩⟩, r2, mem_butR.mpr ⟨m2, fun c => hn ⟨b, hb, .inr (c.symm.trans e2.symm)⟩⟩, e1, e2, e3⟩
theorem put_name (r : RoadD) (b : Pt) : (Pt.put r b).name = r.name ∧ (Pt.put r b).start = r.start ∧ (Pt.put r b).goal = r.goal := by cases b <;> exact ⟨rfl, rfl, rfl⟩
theorem setR_names (n : Str) (b : Pt) (rs : List RoadD) : (setR n b rs).map (·.name) = rs.map (·.name) := by
  unfold setR
  rw [List.map_map]
  refine List.map_congr_left fun r _ => ?_
  show (if r.name = n then Pt.put r b else r).name = r.name
  split
  · exact (put_name r b).1
  · rfl
theorem setR_none {n : Str} {b : Pt} {rs : List RoadD} (h : ∀ r ∈ rs, r.name ≠ n) : setR n b rs = rs := by
  unfold setR
  exact (List.map_congr_left (g := id) fun r hr => if_neg (h r hr)).trans (List.map_id rs)
theorem setR_perm {rs : List RoadD} (nd : (rs.map (·.name)).Nodup) {r : RoadD} (hr : r ∈ rs) (b : Pt) : (putR (Pt.put r b) rs).Perm (setR r.name b rs) := by
  obtain ⟨l1, l2, rfl⟩ := List.append_of_mem hr
  rw [List.map_append, List.map_cons] at nd
  obtain ⟨n1, n2, n3⟩ := List.nodup_append.mp nd
  have h1 : ∀ x ∈ l1, x.name ≠ r.name := fun x hx e => n3 x.name (List.mem_map.mpr ⟨x, hx, rfl⟩) r.name List.mem_cons_self e
  have h2 : ∀ x ∈ l2, x.name ≠ r.name := fun x hx e => (List.nodup_cons.mp n2).1 (List.mem_map.mpr ⟨x, hx, e⟩)
  have e1 : setR r.name b (l1 ++ r :: l2) = l1 ++ Pt.put r b :: l2 := by
    have : setR r.name b (l1 ++ r :: l2) = setR r.name b l1 ++ (if r.name = r.name then Pt.put r b else r) :: setR r.name b l2 := by unfold setR; rw [List.map_append, List.map_cons]
    rw [this, setR_none h1, setR_none h2, if_pos rfl]
  have e2 : butR (Pt.put r b).name (l1 ++ r :: l2) = l1 ++ l2 := by
    rw [(put_name r b).1]
    have : butR r.name (l1 ++ r :: l2) = butR r.name l1 ++ butR r.name l2 := by
      unfold butR
      rw [List.filter_append, List.filter_cons]
      simp
    rw [this, butR_none (fun c => by obtain ⟨x, hx, e⟩ := List.mem_map.mp c; exact h1 x hx e), butR_none (fun c => by obtain ⟨x, hx, e⟩ := List.mem_map.mp c; exact h2 x hx e)]
  unfold putR
  rw [e1, e2, List.append_assoc]
  refine List.Perm.append_left l1 ?_
  exact List.perm_append_comm (l₁ := l2) (l₂ := [Pt.put r b])
theorem ok_set (h : PartsOk d ks q.ps q.rs q.bs) {r : RoadD} (hr : r ∈ q.rs) (b : Pt) : PartsOk d ks q.ps (setR r.name b q.rs) q.bs ↔ RoadOk d q.ps ks (Pt.put r b) := by
  have nm := setR_names r.name b q.rs
  have len : (setR r.name b q.rs).length = q.rs.length := by unfold setR; rw [List.length_map]
  have hin : Pt.put r b ∈ setR r.name b q.rs := List.mem_map.mpr ⟨r, hr, if_pos rfl⟩
  constructor
  · intro o
    exact o.r.ok _ hin
  · intro o
    refine ⟨h.d1, h.d2, h.k1, h.k2, h.p2, h.kn, h.pn, h.kd, h.pd, ⟨by rw [len]; exact h.r.len, by rw [nm]; exact h.r.nm, by rw [nm]; exact h.r.nd, fun x hx => ?_⟩, ⟨h.b.len, h.b.nd, fun x hx => ?_⟩⟩
    · obtain ⟨y, hy, rfl⟩ := List.mem_map.mp hx
      by_cases e : y.name = r.name
      · rw [if_pos e, uniqN h.r.nd hy hr e]
        exact o
      · rw [if_neg e]
        exact h.r.ok y hy
    · obtain ⟨r1, m1, r2, m2, e1, e2, e3⟩ := h.b.ok x hx
      have key : ∀ y : RoadD, (if y.name = r.name then Pt.put y b else y).name = y.name ∧ (if y.name = r.name then Pt.put y b else y).start = y.start ∧ (if y.name = r.name then Pt.put y b else y).goal = y.goal := fun y => by
        split
        · exact put_name y b
        · exact ⟨rfl, rfl, rfl⟩
      exact ⟨_, List.mem_map.mpr ⟨r1, m1, rfl⟩, _, List.mem_map.mpr ⟨r2, m2, rfl⟩, by rw [(key r1).1]; exact e1, by rw [(key r2).1]; exact e2, by rw [(key r1).2.2, (key r2).2.1]; exact e3⟩
theorem fits_iff (h : SP d ks q) {r : RoadD} (hr : r ∈ q.rs) {b : Pt} (hb : PtSm b) : (RoadOk d q.ps ks (Pt.put r b) ∧ Asc (Pt.put r b).users) ↔ fits d ks b := by
  have o := h.ok.r.ok r hr
  have a := h.ua r hr
  cases b with
  | mi i => exact ⟨fun ⟨w, _⟩ => ⟨w.m1, w.m2⟩, fun ⟨w1, w2⟩ => ⟨⟨o.s, o.g, w1, w2, o.u, o.un, o.ud, o.h⟩, a⟩⟩
  | ki us =>
    constructor
    · rintro ⟨w, wa⟩
      refine asc_one (l := us) (n := us) (List.Perm.refl _) ?_ wa (h.ka.sublist List.filter_sublist)
      refine (List.perm_ext_iff_of_nodup (h.ok.kd.sublist List.filter_sublist) w.ud).mpr fun z => ?_
      rw [List.mem_filter, decide_eq_true_eq]
      exact ⟨fun c => c.2, fun c => ⟨w.u z c, c⟩⟩
    · intro e
      have e' : us = ks.filter fun k => decide (k ∈ us) := e
      have sb : us.Sublist ks := by rw [e']; exact List.filter_sublist
      have l4 := sb.length_le
      have k2 := h.ok.k2
      exact ⟨⟨o.s, o.g, o.m1, o.m2, fun z hz => sb.subset hz, by show us.length ≤ 4; omega, h.ok.kd.sublist sb, o.h⟩, h.ka.sublist sb⟩
  | ho hs =>
    constructor
    · rintro ⟨w, _⟩ gs e
      have q := w.h
      have q' : HoursOk d hs := q
      rw [e] at q'
      exact q'.2
    · intro w
      refine ⟨⟨o.s, o.g, o.m1, o.m2, o.u, o.un, o.ud, ?_⟩, a⟩
      show HoursOk d hs
      cases hs with
      | none => exact True.intro
      | some gs => exact ⟨(hb gs rfl).1, w gs rfl⟩
theorem ok_bar (h : PartsOk d ks q.ps q.rs q.bs) (b : Str × Str) : PartsOk d ks q.ps q.rs (q.bs ++ [b]) ↔ ¬ (b ∈ q.bs ∨ q.bs.length = 40 ∨ ¬ Meets q.rs b) := by
  constructor
  · intro o hx
    rcases hx with hx | hx | hx
    · exact (List.nodup_append.mp o.b.nd).2.2 b hx b List.mem_cons_self rfl
    · have := o.b.len
      rw [List.length_append, hx, List.length_singleton] at this
      omega
    · exact hx (o.b.ok b (List.mem_append.mpr (.inr List.mem_cons_self)))
  · intro hx
    have h1 : b ∉ q.bs := fun c => hx (.inl c)
    have h2 : q.bs.length ≠ 40 := fun c => hx (.inr (.inl c))
    have h3 : Meets q.rs b := Classical.byContradiction fun c => hx (.inr (.inr c))
    have l40 := h.b.len
    refine ⟨h.d1, h.d2, h.k1, h.k2, h.p2, h.kn, h.pn, h.kd, h.pd, h.r, ⟨by rw [List.length_append, List.length_singleton]; omega, List.nodup_append.mpr ⟨h.b.nd, List.nodup_cons.mpr ⟨by simp, List.nodup_nil⟩, fun x hx y hy e => h1 (by rw [← List.mem_singleton.mp hy, ← e]; exact hx)⟩, fun x hx => ?_⟩⟩
    rcases List.mem_append.mp hx with c | c
    · exact h.b.ok x c
    · rw [List.mem_singleton.mp c]
      exact h3
theorem ok_unbar (h : PartsOk d ks q.ps q.rs q.bs) (a b : Str) : PartsOk d ks q.ps q.rs (outB a b q.bs) := by
  have l40 := h.b.len
  have lf : (outB a b q.bs).length ≤ q.bs.length := List.length_filter_le _ _
  exact ⟨h.d1, h.d2, h.k1, h.k2, h.p2, h.kn, h.pn, h.kd, h.pd, h.r, ⟨by omega, h.b.nd.sublist List.filter_sublist, fun x hx => h.b.ok x (mem_outB.mp hx).1⟩⟩
theorem ascR_set {rs : List RoadD} (a : AscR rs) (n : Str) (b : Pt) : AscR (setR n b rs) := by
  unfold AscR setR
  refine List.pairwise_map.mpr (a.imp fun {x y} h => ?_)
  have key : ∀ y : RoadD, (if y.name = n then Pt.put y b else y).name = y.name := fun y => by
    split
    · exact (put_name y b).1
    · rfl
  rw [key, key]
  exact h
/-- what a change makes of parts as a map keeps them is kept so -/
theorem chg_sp (h : SP d ks q) {c : Chg} (hc : ChgOk d ks c) {q' : PT} (e : chg d ks q c = some q') : SP d ks q' := by
  cases c with
  | place up z =>
    cases up with
    | true =>
      simp only [chg] at e
      split at e
      · cases e
      · rename_i hn
        obtain rfl := Option.some.inj e
        obtain ⟨pm, pa⟩ := srtS_ok (q.ps ++ [z])
        exact ⟨partsOk_perm ((ok_place h.ok hc).mpr hn) (List.Perm.refl _) pm (List.Perm.refl _) (List.Perm.refl _), h.ka, pa, h.ra, h.ba, h.ua⟩
    | false =>
      simp only [chg] at e
      split at e
      · cases e
      · rename_i hn
        obtain rfl := Option.some.inj e
        exact ⟨(ok_unplace h.ok z).mpr fun c => hn (.inr c), h.ka, h.pa.sublist List.filter_sublist, h.ra, h.ba, h.ua⟩
  | road up r =>
    cases up with
    | true =>
      simp only [chg] at e
      split at e
      · cases e
      · rename_i hn
        obtain rfl := Option.some.inj e
        have hnm : r.name ∉ nmsR q.rs := fun c => hn (.inl c)
        have o := (okP_road h.ok hc hnm).mpr fun c => hn (.inr c)
        have ep : putR r q.rs = q.rs ++ [r] := by unfold putR; rw [butR_none hnm]
        rw [ep] at o
        obtain ⟨pm, pa⟩ := srtR_ok o.r.nd
        refine ⟨partsOk_perm o (List.Perm.refl _) (List.Perm.refl _) pm (List.Perm.refl _), h.ka, h.pa, pa, h.ba, fun x hx => ?_⟩
        rcases List.mem_append.mp (pm.mem_iff.mp hx) with w | w
        · exact h.ua x w
        · rw [List.mem_singleton.mp w]
          exact hc.ua
    | false =>
      simp only [chg] at e
      split at e
      · cases e
      · rename_i hn
        obtain rfl := Option.some.inj e
        have hr : r ∈ q.rs := Classical.byContradiction fun c => hn (.inl c)
        have er := outR_but h.ok.r.nd hr
        refine ⟨by show PartsOk d ks q.ps (outR r q.rs) q.bs; rw [er]; exact ok_unroad h.ok fun c => hn (.inr c), h.ka, h.pa, h.ra.sublist List.filter_sublist, h.ba, fun x hx => h.ua x (List.mem_filter.mp hx).1⟩
  | part n a b =>
    simp only [chg] at e
    split at e
    · rename_i hx
      obtain rfl := Option.some.inj e
      obtain ⟨r, hr, rfl, _, _, hf⟩ := hx
      obtain ⟨w1, w2⟩ := (fits_iff h hr hc.2.2.2).mpr hf
      refine ⟨(ok_set h.ok hr b).mpr w1, h.ka, h.pa, ascR_set h.ra _ _, h.ba, fun x hx => ?_⟩
      obtain ⟨y, hy, rfl⟩ := List.mem_map.mp hx
      by_cases ey : y.name = r.name
      · rw [if_pos ey, uniqN h.ok.r.nd hy hr ey]
        exact w2
      · rw [if_neg ey]
        exact h.ua y hy
    · cases e
  | bar up b =>
    cases up with
    | true =>
      simp only [chg] at e
      split at e
      · cases e
      · rename_i hn
        obtain rfl := Option.some.inj e
        obtain ⟨pm, pa⟩ := srtB_ok (q.bs ++ [b])
        exact ⟨partsOk_perm ((ok_bar h.ok b).mpr hn) (List.Perm.refl _) (List.Perm.refl _) (List.Perm.refl _) pm, h.ka, h.pa, h.ra, pa, h.ua⟩
    | false =>
      simp only [chg] at e
      split at e
      · obtain rfl := Option.some.inj e
        exact ⟨ok_unbar h.ok _ _, h.ka, h.pa, h.ra, h.ba.sublist List.filter_sublist, h.ua⟩
      · cases e
end
end W

set_option Elab.async false
set_option linter.all false
set_option maxRecDepth 100000
set_option maxHeartbeats 1000000
/-! t[::-1] of a tuple -/
namespace RevT
open PySem PySem.Spec PyProof.Rows HT L2
section
variable {prog : Program} {w : World} {A : Around} {E : Value → Shared → Prop} {s : Shared}
theorem adjust_rev (n : Nat) : Builtin.Slice.sliceAdjust none none (-1) (n : Int) = ((n : Int) - 1, -1) := by
  unfold Builtin.Slice.sliceAdjust
  rfl
theorem places_rev (n : Nat) : Builtin.Slice.slicePlaces ((n : Int) - 1) (-1) (-1) = n := by
  unfold Builtin.Slice.slicePlaces
  rw [if_neg (by decide)]
  by_cases h : (n : Int) - 1 > -1
  · rw [if_pos h, show (- -1 : Int) = 1 by decide, Int.ediv_one]
    omega
  · rw [if_neg h]
    omega
theorem fm_congr {α β : Type} {f g : α → Option β} : ∀ {l : List α}, (∀ a ∈ l, f a = g a) → l.filterMap f = l.filterMap g
  | [], _ => rfl
  | a :: l, h => by rw [List.filterMap_cons, List.filterMap_cons, h a List.mem_cons_self, fm_congr fun b hb => h b (List.mem_cons_of_mem _ hb)]
theorem pick_rev (xs : Array Value) : ((List.range xs.size).filterMap fun (m : Nat) => xs[(((xs.size : Int) - 1) + (m : Int) * (-1)).toNat]?).toArray = xs.toList.reverse.toArray := by
  congr 1
  have e : ((List.range xs.size).filterMap fun (m : Nat) => xs[(((xs.size : Int) - 1) + (m : Int) * (-1)).toNat]?) = ((List.range xs.size).map fun k => xs.size - 1 - k).filterMap (xs[·]?) := by
    rw [List.filterMap_map]
    refine fm_congr fun m hm => ?_
    have := List.mem_range.mp hm
    show xs[(((xs.size : Int) - 1) + (m : Int) * (-1)).toNat]? = xs[xs.size - 1 - m]?
    congr 1
    omega
  rw [e, PySem.W.krv_range, List.filterMap_reverse, PySem.W.krv_all]
theorem sliceApplied_rev {sl : Addr} {vs : Value} {n : Nat} {Q : Int × Int × Nat → Shared → Prop} (hs : s.heap.IsSliceOf sl .none .none vs) (ps : IsPart vs (some (-1)))
    (h : Q ((n : Int) - 1, -1, n) s) : wpAny (model prog w) A (Builtin.Slice.sliceApplied (.ref sl) (pure (n : Int))) Q E s := by
  obtain ⟨os, hos, hcs, hds⟩ := id hs
  unfold Builtin.Slice.sliceApplied Builtin.Slice.sliceFields
  refine wpAny_bind (wpAny_bind (wpAny_field hos hds (x := .none) rfl (wpAny_bind (wpAny_field hos hds (x := .none) rfl (wpAny_bind (wpAny_field hos hds (x := vs) rfl (wpAny_pure ?_)))))))
  refine wpAny_bind (slicePart_ ps ?_)
  show wpAny _ _ (if ((-1 : Int) == 0) = true then _ else _) _ _ s
  rw [if_neg (by decide)]
  refine wpAny_bind (slicePart_none (wpAny_bind (slicePart_none (wpAny_bind (wpAny_pure ?_)))))
  show wpAny _ _ (match Builtin.Slice.sliceAdjust none none (-1) (n : Int) with | (lo, hi) => pure (lo, (-1 : Int), Builtin.Slice.slicePlaces lo hi (-1))) _ _ s
  rw [adjust_rev n]
  show wpAny _ _ (pure ((n : Int) - 1, (-1 : Int), Builtin.Slice.slicePlaces ((n : Int) - 1) (-1) (-1))) _ _ s
  rw [places_rev]
  exact wpAny_pure h
theorem getItem_tuple_rev {t sl : Addr} {items : Array Value} {vs : Value} {Q : Value → Shared → Prop} (ht : IsTup s.heap t items) (hs : s.heap.IsSliceOf sl .none .none vs) (ps : IsPart vs (some (-1)))
    (h : Q (.ref s.heap.objs.size) { s with heap := s.heap.push { cls := .type "tuple", data := .seq items.toList.reverse.toArray } })
    (hsz : items.size ≤ sizeLine) : wpAny (model prog w) A (getItem (.ref t) (.ref sl)) Q E s := by
  have htake : sizeOk (.seq items.toList.reverse.toArray) := by
    show items.toList.reverse.toArray.size ≤ sizeLine
    rw [List.size_toArray, List.length_reverse, Array.length_toList]
    omega
  obtain ⟨os, hos, hcs, hds⟩ := id hs
  have hTs : s.TypeIs (.ref sl) "slice" := ⟨os, hos, hcs⟩
  unfold getItem
  try with_reducible refine wpAny_holding ?_
  first | refine wpAny_bind (wpAny_pure ?_) | skip
  refine wpAny_bind (wpAny_sequenceKey ht.typeIs (by decide) ?_)
  refine wpAny_bind (wpAny_callSpecial?_slot (name := Str.ofString "__getitem__") ht.typeIs PyProof.Rows.slot_tuple_getitem
    (wpAny_call_entry PyProof.Rows.slot_tuple_getitem ht.typeIs entry_tuple_getitem ?_ (args_tuple_getitem _ _)))
  show wpAny _ _ (Builtin.Tuple.tupleItemsOf (.ref t) >>= _) _ _ s
  refine wpAny_bind (tupleItemsOf_ ht ?_)
  refine wpAny_bind (wpAny_typeOf hTs ?_)
  rw [if_pos (by decide)]
  refine wpAny_bind (sliceApplied_rev hs ps ?_)
  show wpAny _ _ (if (((items.size : Int) - 1) == 0 && (-1 : Int) == 1 && items.size == items.size) = true then _ else _) _ _ s
  rw [if_neg (by rw [show ((-1 : Int) == 1) = false by decide, Bool.and_false, Bool.false_and]; decide), pick_rev]
  first
    | exact wpAny_bind (m := Builtin.Tuple.tupleExact _) (wpAny_newObj_type (wpAny_pure ⟨_, rfl, wpAny_pure h⟩) htake)
    | exact wpAny_bind (m := Builtin.Tuple.tupleExact _) (wpAny_newObj_type (wpAny_bind (wpAny_pure (wpAny_pure ⟨_, rfl, wpAny_pure h⟩))) htake)
    | exact wpAny_bind (wpAny_bind (m := Builtin.Tuple.tupleExact _) (wpAny_newObj_type (wpAny_pure (wpAny_pure ⟨_, rfl, wpAny_pure h⟩)) htake))
    | exact wpAny_bind (wpAny_bind (m := Builtin.Tuple.tupleExact _) (wpAny_newObj_type (wpAny_pure ⟨_, rfl, wpAny_pure h⟩) htake))
end
/-! ### t[::-1] -/
def tRevT (K : PySem.W.Frag) (te : TE) : TE := fun σ H Q => te σ H fun x H1 => ∃ a xs, x = .ref a ∧ SqT K H1 a xs ∧ ∀ p, H1 p = none → Q (.ref p) (upd H1 p (.tup xs.reverse))
theorem pe_revT {X : Cx} {e : Expr} {te : TE} {k : Nat} {p1 p2 p3 pos : Pos} (he : PE X e te) : PE X (.Subscript e (.Slice none none (some (.UnaryOp .USub (.Constant (.int 1) k p1) p2)) p3) pos) (tRevT X.K te) := by
  refine ⟨fun pins s σ H Q I h => ?_⟩
  refine Subscript_ (thn (he.run pins s σ H _ I h) fun v s1 ⟨x, H1, I1, r1, q1⟩ => ?_)
  obtain ⟨a, xs, ex, hx, q⟩ := q1
  subst ex
  cases r1
  have hst : PO X (some (.UnaryOp .USub (.Constant (.int 1) k p1) p2)) (tPart (tUn (rU fun i => .int (-i)) (tC (.int 1)))) := po_some (pe_un un_neg pe_int)
  refine wpAny_Slice (thn (po_none.run pins s1 σ H1 (fun o H2 => o = none ∧ H2 = H1) I1 ⟨rfl, rfl⟩) fun vl s2 ⟨l, H2, I2, pl, el, e2⟩ => ?_)
  subst el e2
  refine thn (po_none.run pins s2 σ H2 (fun o H3 => o = none ∧ H3 = H2) I2 ⟨rfl, rfl⟩) fun vu s3 ⟨u, H3, I3, pu, eu, e3⟩ => ?_
  subst eu e3
  refine thn (hst.run pins s3 σ H3 (fun o H4 => o = some (-1) ∧ H4 = H3) I3 ⟨1, rfl, -1, rfl, rfl, rfl⟩) fun vs s4 ⟨o, H4, I4, ps, eo, e4⟩ => ?_
  subst eo e4
  have I5 : Inv X pins σ H4 { s4 with heap := s4.heap.push { cls := .type "slice", data := .fields #[vl, vu, vs] } } := I4.kept (t' := s4.toks) fun b ob q => Heap.get?_push_of_some _ q
  obtain ⟨its, r, ht, hz⟩ := I5.tuple hx
  have hlen := r.length
  show wpAny (model X.prog X.w) X.A (subscriptTail e (.Slice none none (some (.UnaryOp .USub (.Constant (.int 1) k p1) p2)) p3) (.ref a) (.ref s4.heap.objs.size)) (EP X pins σ Q) X.xe { s4 with heap := s4.heap.push { cls := .type "slice", data := .fields #[vl, vu, vs] } }
  refine tail_any (ops := [.ref a, .ref s4.heap.objs.size]) ht.typeIs (PyProof.Rows.slot_tuple_getitem.lookup) ?_ (by with_unfolding_all rfl)
  cases pl
  cases pu
  refine getItem_tuple_rev ht (Heap.IsSliceOf.new _ .none .none vs) ps ?_ (by rw [List.size_toArray]; omega)
  rw [List.toList_toArray]
  refine ⟨.ref _, _, I5.laid (t' := s4.toks) (o := .tup xs.reverse) (fun b ob q => Heap.get?_push_of_some _ q) (Nat.le_refl _) ?_, rfl, q _ (I5.hok.fresh (Nat.le_refl _))⟩
  exact ⟨by rw [List.length_reverse]; exact hz, _, r.reverse, IsTup.new _ _⟩
end RevT

set_option Elab.async false
set_option linter.all false
set_option maxRecDepth 100000
set_option maxHeartbeats 8000000
set_option exponentiation.threshold 2000
namespace W
open PySem PySem.Spec PyProof.Rows L2 GxR MyG MyS SqX
/-! ### _law_drawn_change -/
abbrev sDc : Stmt := top 51
abbrev nDc : List Str := ["numbers", "at", "parts", "words", "word", "names", "options", "name", "road", "following", "other"]
theorem scDc : FnScope nDc ["numbers", "at", "parts"] (defScope sDc) := ⟨rfl, rfl, rfl, by decide +kernel, rfl, by decide +kernel, by decide +kernel⟩
def rLenK (K : PySem.W.Frag) : List V → Hp → VK → Prop := fun xs H Q => ∃ p ys, xs = [V.ref p] ∧ (SqL K H p ys ∨ SqT K H p ys) ∧ Q (V.int ys.length) H
def wordsS : List Str := ["place", "unplace", "road", "unroad", "minutes", "minutes", "hours", "kinds", "bar", "unbar", "road", "unroad"]
def newS : List Str := ["new1", "new2"]
def freshS : List Str := ["fresh", "fresh2", "fresh3"]
theorem fresh_nm : freshS.all isNm = true := by decide +kernel
theorem atI_in {α : Type} {xs : List α} {i : Int} (h0 : 0 ≤ i) (h1 : i < (xs.length : Int)) : ∃ c, atI xs i = some c ∧ c ∈ xs := by
  obtain ⟨k, rfl⟩ := Int.eq_ofNat_of_zero_le h0
  have hk : k < xs.length := by omega
  exact ⟨xs[k], atI_nat (List.getElem?_eq_getElem hk), List.getElem_mem hk⟩
theorem atI_mod {α : Type} {xs : List α} {n : Int} (hl : 0 < xs.length) : ∃ c, atI xs (n % (xs.length : Int)) = some c ∧ c ∈ xs :=
  atI_in (Int.emod_nonneg _ (by omega)) (Int.emod_lt_of_pos _ (by omega))
theorem at_strs {ns : List Str} {n : Int} (hl : 0 < ns.length) : ∃ z, atI (ns.map V.str) (n % (ns.length : Int)) = some (.str z) ∧ z ∈ ns := by
  obtain ⟨v, ev, hv⟩ := atI_mod (xs := ns.map V.str) (n := n) (by rw [List.length_map]; exact hl)
  obtain ⟨z, hz, rfl⟩ := List.mem_map.mp hv
  rw [List.length_map] at ev
  exact ⟨z, ev, hz⟩
theorem hours_sm {d : Int} {hs : Option (List (Int × Int))} (h : HoursOk d hs) (hd : d ≤ 1440) : PtSm (.ho hs) := fun gs e => by
  subst e
  obtain ⟨h1, h2⟩ := h
  refine ⟨h1, ?_⟩
  have key : ∀ (gs : List (Int × Int)) (c : Int), -1 ≤ c → hoursOk d c gs → ∀ p ∈ gs, p.1.natAbs < 10 ^ 9 ∧ p.2.natAbs < 10 ^ 9 := by
    intro gs
    induction gs with
    | nil => intro c _ _ p hp; cases hp
    | cons x l ih =>
      intro c hc h p hp
      obtain ⟨q1, q2, q3, q4⟩ := h
      rcases List.mem_cons.mp hp with rfl | hp
      · constructor <;> omega
      · exact ih _ (by omega) q4 p hp
  exact key gs (-1) (by decide) h2
/-- the law's parts -/
def PrtAt (K : PySem.W.Frag) (H : Hp) (p : Addr) (d : Int) (ks : List Str) (q : PT) : Prop := PartsT K H p d ks q.ps q.rs q.bs
theorem PrtAt.grew {K : PySem.W.Frag} {P : Addr} {H H' : Hp} {p : Addr} {d : Int} {ks : List Str} {q : PT} (m : PrtAt K H p d ks q) (g : Grew P H H') (h : TabG H P) : PrtAt K H' p d ks q := PartsT.grew m g h
def spDrawn (K : PySem.W.Frag) (P : Addr) : Sp := fun vs H Q _ => ∃ (a p : Addr) (ns : List Int) (at_ d : Int) (ks : List Str) (q : PT), vs = [.ref a, .int at_, .ref p] ∧ SqL K H a (ns.map V.int) ∧ Sm ns ∧ 0 ≤ at_ ∧ at_ + 12 ≤ ns.length ∧ PrtAt K H p d ks q ∧ SP d ks q ∧ TabG H P ∧
  ∀ H' c v, Grew P H H' → ChgAt K H' c v → ChgOk d ks c → Q v H'
theorem namesV_take {rs : List RoadD} {i : Nat} {r : RoadD} (h : rs[i]? = some r) : namesV (rs.take (i + 1)) = namesV (rs.take i) ++ [.str r.name] := by
  have e : rs.take (i + 1) = rs.take i ++ [r] := by rw [List.take_succ, h]; rfl
  rw [e, namesV_app]
  rfl
section
variable {Pg : Program} {w : World} {K : PySem.W.Frag} {mg : Str → Option Value} {base : Heap} {C P : Addr}
theorem ok_drawn {f fLr fLh : Addr} {fd fdLr fdLh : FuncData} (F : Fun K "_law_drawn_change" "_law_drawn_change" sDc f fd) (hi : mg "int" = none) (hl : mg "len" = none) (hls : mg "list" = none)
    (GLr : FnOk Pg w K mg base CX0 2 fLr fdLr ["numbers", "at", "name", "day", "kinds", "places"] (spLRoadG K P)) (gLr : mg "_law_road" = some (.ref fLr)) (kLr : PySem.W.keepIn K (.ref fLr) = true) (bLr : Binds K fdLr ["numbers", "at", "name", "day", "kinds", "places"] [])
    (GLh : FnOk Pg w K mg base CX0 1 fLh fdLh ["numbers", "at", "day"] (spLHours K P)) (gLh : mg "_law_hours" = some (.ref fLh)) (kLh : PySem.W.keepIn K (.ref fLh) = true) (bLh : Binds K fdLh ["numbers", "at", "day"] []) :
    FnOk Pg w K mg base CX0 3 f fd ["numbers", "at", "parts"] (spDrawn K P) := by
  refine F.ok scDc (fun vs H Q E h => ?_) (fun cdv A outer s H vs Q E hr h => ?_)
  · obtain ⟨a, p, ns, at_, d, ks, q, rfl, _⟩ := h
    rfl
  · obtain ⟨a, p, ns, at_, d, ks, q, rfl, hS, hsm, ha0, ha1, hp0, sp, hP, kQ⟩ := h
    refine ⟨_, (pss_cons (ps_set (i := 3) scDc.nd rfl (Or.inl rfl) (pe_tup (pa_cons pe_str (pa_cons pe_str (pa_cons pe_str (pa_cons pe_str (pa_cons pe_str (pa_cons pe_str (pa_cons pe_str (pa_cons pe_str (pa_cons pe_str (pa_cons pe_str (pa_cons pe_str (pa_cons pe_str pa_nil))))))))))))))
      (pss_cons (ps_set (i := 4) scDc.nd rfl (Or.inl rfl) (pe_ix (r := rIxT K) ix_tup (pv 3) (pe_op op_mod (pe_callTy (r := rInt1) call_int1 (by rfl) hi (by decide +kernel) (pa_cons (pe_ix (r := rIxL K) ix_list (pv 0) (pv 1) (fun _ _ => rfl)) pa_nil)) pe_int) (fun _ _ => rfl)))
      (C8.pss_cut (ps_setLc (i := 5) (own := [("road", 8)]) (g := (gName 8)) (tt := tYes) rfl scDc.nd rfl rfl (sw_true rfl rfl rfl (by decide +kernel)) (pi_tup (pe_ix (r := rIxL K) ix_list (pv 2) pe_int (fun _ _ => rfl))) (blkOk_by (N := nDc) (sc := defScope sDc) (by decide +kernel)) (fun _ _ _ _ _ => pg_name (i := 8) scDc.nd rfl (Or.inl rfl)) (fun _ _ _ _ _ => pts_nil) (fun _ _ _ _ _ => (pe_ix (r := rIxT K) ix_tup (pv 8) pe_int (fun _ _ => rfl))))
      (pss_cons (ps_if (PW.pt (pw_or (pt_cmpR op_eq (pv 4) pe_str (nomark _)) (pw_or1 (pt_cmpR op_eq (pv 4) pe_str (nomark _))))) (pss_cons (ps_set (i := 6) scDc.nd rfl (Or.inl rfl) (pe_op op_cat (pe_callTy call_list_of (by rfl) hls (by decide +kernel) (pa_cons (pe_ix (r := rIxL K) ix_list (pv 2) pe_int (fun _ _ => rfl)) pa_nil)) (pe_lst (pa_cons pe_str (pa_cons pe_str pa_nil)))))
      (pss_one (ps_ret (pe_tup (pa_cons (pv 4) (pa_cons (pe_ix (r := rIxL K) ix_list (pv 6) (pe_op op_mod (pe_callTy (r := rInt1) call_int1 (by rfl) hi (by decide +kernel) (pa_cons (pe_ix (r := rIxL K) ix_list (pv 0) (pe_op op_add (pv 1) pe_int) (fun _ _ => rfl)) pa_nil)) (pe_callB (r := rLenK K) call_len_seq (by rfl) hl PySem.boot_len (pa_cons (pv 6) pa_nil))) (fun _ _ => rfl)) pa_nil))))))
        pss_nil)
      (pss_cons (ps_if (PW.pt (pw_or (pt_cmpR op_eq (pe_callB (r := rLenK K) call_len_seq (by rfl) hl PySem.boot_len (pa_cons (pe_ix (r := rIxL K) ix_list (pv 2) pe_int (fun _ _ => rfl)) pa_nil)) pe_int (nomark _)) (pw_or1 (pt_cmpR op_eq (pv 4) pe_str (nomark _))))) (pss_cons (ps_set (i := 7) scDc.nd rfl (Or.inl rfl) (pe_ix (r := rIxT K) ix_tup (pe_tup (pa_cons pe_str (pa_cons pe_str (pa_cons pe_str pa_nil)))) (pe_op op_mod (pe_callTy (r := rInt1) call_int1 (by rfl) hi (by decide +kernel) (pa_cons (pe_ix (r := rIxL K) ix_list (pv 0) (pe_op op_add (pv 1) pe_int) (fun _ _ => rfl)) pa_nil)) pe_int) (fun _ _ => rfl)))
      (pss_cons (ps_if (pt_cmpR op_eq (pe_callB (r := rLenK K) call_len_seq (by rfl) hl PySem.boot_len (pa_cons (pe_ix (r := rIxL K) ix_list (pv 2) pe_int (fun _ _ => rfl)) pa_nil)) pe_int (nomark _)) (pss_one (ps_ret (pe_tup (pa_cons pe_str (pa_cons (pv 7) pa_nil)))))
        pss_nil)
      (pss_cons (ps_set (i := 8) scDc.nd rfl (Or.inr rfl) (pe_call GLr (hr.mono (by decide)) (by rfl) gLr kLr bLr .nil pass0 (pa_cons (pv 0) (pa_cons (pe_op op_add (pv 1) pe_int) (pa_cons (pv 7) (pa_cons (pe_ix (r := rIxL K) ix_list (pv 2) pe_int (fun _ _ => rfl)) (pa_cons (pe_ix (r := rIxL K) ix_list (pv 2) pe_int (fun _ _ => rfl)) (pa_cons (pe_op op_catA (pe_ix (r := rIxL K) ix_list (pv 2) pe_int (fun _ _ => rfl)) (pe_slice sl_tupA (pe_tup (pa_cons pe_str pa_nil)) po_none (po_some (pe_op op_fdiv (pe_op op_mod (pe_callTy (r := rInt1) call_int1 (by rfl) hi (by decide +kernel) (pa_cons (pe_ix (r := rIxL K) ix_list (pv 0) (pe_op op_add (pv 1) pe_int) (fun _ _ => rfl)) pa_nil)) pe_int) pe_int)))) pa_nil))))))))
      (pss_one (ps_ret (pe_tup (pa_cons pe_str (pa_cons (pv 8) pa_nil))))))))
        pss_nil)
      (pss_cons (ps_set (i := 8) scDc.nd rfl (Or.inr rfl) (pe_ix (r := rIxT K) ix_tup (pe_ix (r := rIxL K) ix_list (pv 2) pe_int (fun _ _ => rfl)) (pe_op op_mod (pe_callTy (r := rInt1) call_int1 (by rfl) hi (by decide +kernel) (pa_cons (pe_ix (r := rIxL K) ix_list (pv 0) (pe_op op_add (pv 1) pe_int) (fun _ _ => rfl)) pa_nil)) (pe_callB (r := rLenK K) call_len_seq (by rfl) hl PySem.boot_len (pa_cons (pe_ix (r := rIxL K) ix_list (pv 2) pe_int (fun _ _ => rfl)) pa_nil))) (fun _ _ => rfl)))
      (pss_cons (ps_if (pt_cmpR op_eq (pv 4) pe_str (nomark _)) (pss_one (ps_ret (pe_tup (pa_cons (pv 4) (pa_cons (pv 8) pa_nil)))))
        pss_nil)
      (pss_cons (ps_if (pt_cmpR op_eq (pv 4) pe_str (nomark _)) (pss_one (ps_ret (pe_tup (pa_cons (pv 4) (pa_cons (pe_ix (r := rIxT K) ix_tup (pv 8) pe_int (fun _ _ => rfl)) (pa_cons (pe_ix (r := rIxT K) ix_tup (pv 8) pe_int (fun _ _ => rfl)) (pa_cons (pe_ifExp (pt_cmpR op_eq (pe_op op_mod (pe_callTy (r := rInt1) call_int1 (by rfl) hi (by decide +kernel) (pa_cons (pe_ix (r := rIxL K) ix_list (pv 0) (pe_op op_add (pv 1) pe_int) (fun _ _ => rfl)) pa_nil)) pe_int) pe_int (nomark _)) (pe_ix (r := rIxT K) ix_tup (pe_tup (pa_cons pe_int (pa_cons pe_int (pa_cons pe_int pa_nil)))) (pe_op op_mod (pe_callTy (r := rInt1) call_int1 (by rfl) hi (by decide +kernel) (pa_cons (pe_ix (r := rIxL K) ix_list (pv 0) (pe_op op_add (pv 1) pe_int) (fun _ _ => rfl)) pa_nil)) pe_int) (fun _ _ => rfl)) (pe_op op_add pe_int (pe_op op_mod (pe_callTy (r := rInt1) call_int1 (by rfl) hi (by decide +kernel) (pa_cons (pe_ix (r := rIxL K) ix_list (pv 0) (pe_op op_add (pv 1) pe_int) (fun _ _ => rfl)) pa_nil)) pe_int))) pa_nil)))))))
        pss_nil)
      (pss_cons (ps_if (pt_cmpR op_eq (pv 4) pe_str (nomark _)) (pss_cons (ps_if (pt_cmpR op_eq (pe_op op_mod (pe_callTy (r := rInt1) call_int1 (by rfl) hi (by decide +kernel) (pa_cons (pe_ix (r := rIxL K) ix_list (pv 0) (pe_op op_add (pv 1) pe_int) (fun _ _ => rfl)) pa_nil)) pe_int) pe_int (nomark _)) (pss_one (ps_ret (pe_tup (pa_cons (pv 4) (pa_cons (pe_ix (r := rIxT K) ix_tup (pv 8) pe_int (fun _ _ => rfl)) (pa_cons (pe_ix (r := rIxT K) ix_tup (pv 8) pe_int (fun _ _ => rfl)) (pa_cons (pe_ix (r := rIxT K) ix_tup (pe_tup (pa_cons (pe_tup (pa_cons (pe_tup (pa_cons pe_int (pa_cons (pe_op op_add (pe_ix (r := rIxL K) ix_list (pv 2) pe_int (fun _ _ => rfl)) pe_int) pa_nil))) pa_nil)) (pa_cons (pe_tup (pa_cons (pe_tup (pa_cons pe_int (pa_cons pe_int pa_nil))) pa_nil)) (pa_cons (pe_tup (pa_cons (pe_tup (pa_cons pe_int (pa_cons pe_int pa_nil))) (pa_cons (pe_tup (pa_cons pe_int (pa_cons pe_int pa_nil))) pa_nil))) (pa_cons (pe_tup (pa_cons (pe_tup (pa_cons pe_int (pa_cons pe_int pa_nil))) (pa_cons (pe_tup (pa_cons pe_int (pa_cons pe_int pa_nil))) pa_nil))) pa_nil))))) (pe_op op_mod (pe_callTy (r := rInt1) call_int1 (by rfl) hi (by decide +kernel) (pa_cons (pe_ix (r := rIxL K) ix_list (pv 0) (pe_op op_add (pv 1) pe_int) (fun _ _ => rfl)) pa_nil)) pe_int) (fun _ _ => rfl)) pa_nil)))))))
        pss_nil)
      (pss_one (ps_ret (pe_tup (pa_cons (pv 4) (pa_cons (pe_ix (r := rIxT K) ix_tup (pv 8) pe_int (fun _ _ => rfl)) (pa_cons (pe_ix (r := rIxT K) ix_tup (pv 8) pe_int (fun _ _ => rfl)) (pa_cons (pe_call GLh (hr.mono (by decide)) (by rfl) gLh kLh bLh .nil pass0 (pa_cons (pv 0) (pa_cons (pe_op op_add (pv 1) pe_int) (pa_cons (pe_ix (r := rIxL K) ix_list (pv 2) pe_int (fun _ _ => rfl)) pa_nil)))) pa_nil))))))))
        pss_nil)
      (pss_cons (ps_if (pt_cmpR op_eq (pv 4) pe_str (nomark _)) (pss_cons (ps_if (pt_cmpR op_eq (pe_op op_mod (pe_callTy (r := rInt1) call_int1 (by rfl) hi (by decide +kernel) (pa_cons (pe_ix (r := rIxL K) ix_list (pv 0) (pe_op op_add (pv 1) pe_int) (fun _ _ => rfl)) pa_nil)) pe_int) pe_int (nomark _)) (pss_one (ps_ret (pe_tup (pa_cons (pv 4) (pa_cons (pe_ix (r := rIxT K) ix_tup (pv 8) pe_int (fun _ _ => rfl)) (pa_cons (pe_ix (r := rIxT K) ix_tup (pv 8) pe_int (fun _ _ => rfl)) (pa_cons (pe_ix (r := rIxT K) ix_tup (pe_tup (pa_cons (pe_tup (pa_cons pe_str pa_nil)) (pa_cons (RevT.pe_revT (pe_ix (r := rIxL K) ix_list (pv 2) pe_int (fun _ _ => rfl))) (pa_cons (pe_op op_catA (pe_ix (r := rIxL K) ix_list (pv 2) pe_int (fun _ _ => rfl)) (pe_slice sl_tupA (pe_ix (r := rIxL K) ix_list (pv 2) pe_int (fun _ _ => rfl)) po_none (po_some pe_int))) pa_nil)))) (pe_op op_mod (pe_callTy (r := rInt1) call_int1 (by rfl) hi (by decide +kernel) (pa_cons (pe_ix (r := rIxL K) ix_list (pv 0) (pe_op op_add (pv 1) pe_int) (fun _ _ => rfl)) pa_nil)) pe_int) (fun _ _ => rfl)) pa_nil)))))))
        pss_nil)
      (pss_one (ps_ret (pe_tup (pa_cons (pv 4) (pa_cons (pe_ix (r := rIxT K) ix_tup (pv 8) pe_int (fun _ _ => rfl)) (pa_cons (pe_ix (r := rIxT K) ix_tup (pv 8) pe_int (fun _ _ => rfl)) (pa_cons (pe_slice sl_tupA (pe_ix (r := rIxL K) ix_list (pv 2) pe_int (fun _ _ => rfl)) po_none (po_some (pe_op op_mod (pe_callTy (r := rInt1) call_int1 (by rfl) hi (by decide +kernel) (pa_cons (pe_ix (r := rIxL K) ix_list (pv 0) (pe_op op_add (pv 1) pe_int) (fun _ _ => rfl)) pa_nil)) (pe_op op_add (pe_callB (r := rLenK K) call_len_seq (by rfl) hl PySem.boot_len (pa_cons (pe_ix (r := rIxL K) ix_list (pv 2) pe_int (fun _ _ => rfl)) pa_nil)) pe_int)))) pa_nil))))))))
        pss_nil)
      (C8.pss_cut (ps_if (PW.pt (pw_and (pt_cmpR op_eq (pv 4) pe_str (nomark _)) (pw_and1 (pt_cmpR op_gt (pe_callB (r := rLenK K) call_len_seq (by rfl) hl PySem.boot_len (pa_cons (pe_ix (r := rIxL K) ix_list (pv 2) pe_int (fun _ _ => rfl)) pa_nil)) pe_int (nomark _))))) (pss_one (ps_ret (pe_op op_catA (pe_tup (pa_cons (pv 4) pa_nil)) (pe_ix (r := rIxT K) ix_tup (pe_ix (r := rIxL K) ix_list (pv 2) pe_int (fun _ _ => rfl)) (pe_op op_mod (pe_callTy (r := rInt1) call_int1 (by rfl) hi (by decide +kernel) (pa_cons (pe_ix (r := rIxL K) ix_list (pv 0) (pe_op op_add (pv 1) pe_int) (fun _ _ => rfl)) pa_nil)) (pe_callB (r := rLenK K) call_len_seq (by rfl) hl PySem.boot_len (pa_cons (pe_ix (r := rIxL K) ix_list (pv 2) pe_int (fun _ _ => rfl)) pa_nil))) (fun _ _ => rfl)))))
        pss_nil)
      (pss_cons (ps_set (i := 9) scDc.nd rfl (Or.inl rfl) (pe_op op_cat (pe_lc (own := [("other", 10)]) (g := (gName 10)) rfl scDc.nd (pi_tup (pe_ix (r := rIxL K) ix_list (pv 2) pe_int (fun _ _ => rfl))) (blkOk_by (N := nDc) (sc := defScope sDc) (by decide +kernel)) (fun _ _ _ _ _ => pg_name (i := 10) scDc.nd rfl (Or.inl rfl)) (fun _ _ _ _ _ => pts_one (pt_cmpR op_eq (pe_ix (r := rIxT K) ix_tup (pv 10) pe_int (fun _ _ => rfl)) (pe_ix (r := rIxT K) ix_tup (pv 8) pe_int (fun _ _ => rfl)) (nomark _))) (fun _ _ _ _ _ => (pe_ix (r := rIxT K) ix_tup (pv 10) pe_int (fun _ _ => rfl)))) (pe_slice sl_list (pv 5) po_none (po_some pe_int))))
      (pss_one (ps_ret (pe_tup (pa_cons pe_str (pa_cons (pe_ix (r := rIxT K) ix_tup (pv 8) pe_int (fun _ _ => rfl)) (pa_cons (pe_ix (r := rIxL K) ix_list (pv 9) (pe_op op_mod (pe_callTy (r := rInt1) call_int1 (by rfl) hi (by decide +kernel) (pa_cons (pe_ix (r := rIxL K) ix_list (pv 0) (pe_op op_add (pv 1) pe_int) (fun _ _ => rfl)) pa_nil)) (pe_callB (r := rLenK K) call_len_seq (by rfl) hl PySem.boot_len (pa_cons (pv 9) pa_nil))) (fun _ _ => rfl)) pa_nil)))))))))))))))))), ?_⟩
    obtain ⟨ki, pl, ro, ba, xs, zs, hp, hki, hpl, hro, hrs, hba, hzs⟩ := id hp0
    have ok := sp.ok
    have lx := Paired.len hrs
    have lz := Paired.len hzs
    have l60 := ok.r.len
    have l40 := ok.b.len
    have l4 := ok.k2
    have l30 := ok.p2
    have bd1 := ok.d1
    have bd2 := ok.d2
    have good : ∀ r ∈ q.rs, GoodR d ks r := fun r hr => by
      have o := ok.r.ok r hr
      exact ⟨List.all_eq_true.mp ok.r.nm _ (List.mem_map.mpr ⟨r, hr, rfl⟩), List.all_eq_true.mp ok.pn _ o.s, List.all_eq_true.mp ok.pn _ o.g, o.m1, o.m2, o.u, o.un, o.ud, sp.ua r hr, o.h⟩
    obtain ⟨n0, e0, l0, u0⟩ := at_num hsm (i := at_) ha0 (by omega)
    obtain ⟨n1, e1, l1, u1⟩ := at_num hsm (i := at_ + 1) (by omega) (by omega)
    obtain ⟨n2, e2, l2, u2⟩ := at_num hsm (i := at_ + 2) (by omega) (by omega)
    obtain ⟨n3, e3, l3, u3⟩ := at_num hsm (i := at_ + 3) (by omega) (by omega)
    obtain ⟨v0, ev0, hv0⟩ := atI_mod (xs := wordsS.map V.str) (n := n0) (by decide)
    obtain ⟨w0, hw0, rfl⟩ := List.mem_map.mp hv0
    refine ⟨(show 12 ≤ sizeLine by decide), fun W nW => ?_⟩
    generalize eH1 : L2.upd H W _ = H1
    have gW : Grew P H H1 := by rw [← eH1]; exact Grew.new hP nW
    have hW : H1 W = some (.tup (wordsS.map V.str)) := by rw [← eH1]; exact upd_same
    refine ⟨_, rfl, _, rfl, _, rfl, a, _, _, _, rfl, rfl, gW.sqL hP hS, e0, .inl ⟨n0, rfl, _, _, rfl, rfl, (show (0 : Int) < 12 by decide), W, _, _, _, rfl, rfl, SqT.of hW, ev0, ?_⟩⟩
    refine ⟨fun σ H' => ∃ D : Addr, σ = [some (.ref a), some (.int at_), some (.ref p), some (.ref W), some (.str w0), some (.ref D), none, none, none, none, none] ∧ Grew P H H' ∧ H' D = some (.lst (namesV q.rs)), ?_, ?_⟩
    · refine ⟨_, rfl, p, _, 3, _, rfl, rfl, SqL.of (gW.lst hP hp), rfl, ro, rfl, ⟨_, SqT.of (gW.tup hP hro)⟩, fun D nD => lc_tup (K := K) (a := ro) (xs := xs) (fun j H' => Grew P H1 H' ∧ H' D = some (.lst (namesV (q.rs.take j)))) ⟨Grew.new gW.tab nD, upd_same⟩ (fun j H' _ h => SqT.of ((gW.trans h.1).tup hP hro)) (fun j v H2 hj h => ?_) (fun H2 h => ?_)⟩
      · obtain ⟨g2, hD⟩ := h
        obtain ⟨r, hr1, hm⟩ := Paired.at hrs hj
        obtain ⟨t, u, hh, rfl, et, _, _⟩ := hm.grew (gW.trans g2) hP
        refine ⟨rfl, _, rfl, t, _, 0, _, rfl, rfl, SqT.of et, rfl, _, hD, ?_, g2.write hD (fun _ z => by cases z) nD, ?_⟩
        · have q1 := namesV_len (q.rs.take j)
          rw [List.length_take] at q1
          rw [sizeLine_eq]
          omega
        · rw [upd_same, namesV_take hr1]
      · obtain ⟨g2, hD⟩ := h
        rw [← lx, List.take_length] at hD
        exact ⟨D, rfl, gW.trans g2, hD⟩
    rintro σ H2 ⟨D, rfl, g2, hD⟩
    have hp2 := g2.lst hP hp
    have hki2 := g2.tup hP hki
    have hpl2 := g2.tup hP hpl
    have hro2 := g2.tup hP hro
    have hba2 := g2.tup hP hba
    have hrs2 : Paired (RoadAt K H2) q.rs xs := Paired.map' hrs fun _ _ m => m.grew g2 hP
    have hzs2 : Paired (GBar H2) q.bs zs := Paired.map' hzs fun _ _ m => m.grew g2 hP
    have hS2 := g2.sqL hP hS
    have kQ2 : ∀ H' c v, Grew P H2 H' → ChgAt K H' c v → ChgOk d ks c → Q v H' := fun H' c v g => kQ H' c v (g2.trans g)
    have t2 := g2.tab
    have G0 := Grew.refl t2
    -- place, unplace
    refine ⟨_, rfl, rfl, _, rfl, ite2 (fun c => ?b1) fun c => ⟨_, rfl, rfl, _, rfl, ite2 (fun c' => ?b2) fun c' => ?rest1⟩⟩
    case' b1 => have hup : ∃ up, w0 = wPl up := ⟨true, V.str.inj (of_decide_eq_true c)⟩
    case' b2 => have hup : ∃ up, w0 = wPl up := ⟨false, V.str.inj (of_decide_eq_true c')⟩
    case b1 | b2 =>
      obtain ⟨up, rfl⟩ := hup
      refine ⟨_, rfl, p, _, 2, _, rfl, rfl, SqL.of hp2, rfl, pl, _, rfl, .inr (SqT.of hpl2), fun A1 m1 => ?_⟩
      have gA := Grew.new t2 (o := .lst (q.ps.map V.str)) m1
      refine ⟨(show 2 ≤ sizeLine by decide), fun A3 m3 => ?_⟩
      generalize eHb : L2.upd _ A3 _ = Hb
      have gB := (Grew.new gA.tab (o := .lst (newS.map V.str)) m3)
      have eHb' : L2.upd _ A3 (.lst (newS.map V.str)) = Hb := eHb
      rw [eHb'] at gB
      have hA3 : Hb A3 = some (.lst (newS.map V.str)) := by rw [← eHb']; exact upd_same
      refine ⟨A1, A3, _, _, rfl, rfl, gB.lst gA.tab upd_same, hA3, (by rw [List.length_map, sizeLine_eq]; show _ + 2 ≤ _; omega), fun A4 m4 => ?_⟩
      generalize eH5 : L2.upd Hb A4 _ = H5
      have gC : Grew P Hb H5 := by rw [← eH5]; exact Grew.new gB.tab m4
      have hA4 : H5 A4 = some (.lst ((q.ps ++ newS).map V.str)) := by rw [← eH5, List.map_append]; exact upd_same
      have gg := gA.trans (gB.trans gC)
      obtain ⟨v, ev, hv⟩ := atI_mod (xs := (q.ps ++ newS).map V.str) (n := n1) (by rw [List.length_map, List.length_append]; show 0 < _ + 2; omega)
      obtain ⟨z, hz, rfl⟩ := List.mem_map.mp hv
      have hzn : isNm z = true := by
        rcases List.mem_append.mp hz with h | h
        · exact List.all_eq_true.mp ok.pn z h
        · exact List.all_eq_true.mp (show newS.all isNm = true by decide +kernel) z h
      refine ⟨_, rfl, _, rfl, _, rfl, _, rfl, _, _, rfl, rfl, a, _, _, _, rfl, rfl, gg.sqL t2 hS2, e1, .inl ⟨n1, rfl, _, rfl, A4, _, rfl, .inl (SqL.of hA4), _, _, rfl, rfl, (by rw [List.length_map, List.length_append]; show (0 : Int) < ((_ + 2 : Nat) : Int); omega), A4, _, _, _, rfl, rfl, SqL.of hA4, ev, (show 2 ≤ sizeLine by decide), fun T nT => ?_⟩⟩
      exact kQ2 _ (.place up z) _ (gg.trans (Grew.new gg.tab nT)) ⟨T, [.str z], rfl, upd_same, rfl⟩ hzn
    -- road
    refine ⟨_, rfl, p, _, 3, _, rfl, rfl, SqL.of hp2, rfl, ro, _, rfl, .inr (SqT.of hro2), rfl, _, rfl, ite2 (fun d1 => ?r1) fun d1 => ⟨_, rfl, rfl, _, rfl, ite2 (fun d2 => ?r2) fun d2 => ?rest2⟩⟩
    case r1 | r2 =>
      obtain ⟨vf, evf, hvf⟩ := atI_mod (xs := freshS.map V.str) (n := n1) (by decide)
      obtain ⟨z, hz, rfl⟩ := List.mem_map.mp hvf
      have hzn := List.all_eq_true.mp fresh_nm z hz
      refine ⟨(show 3 ≤ sizeLine by decide), fun F1 m1 => ?_⟩
      generalize eH3 : L2.upd H2 F1 _ = H3
      have gF : Grew P H2 H3 := by rw [← eH3]; exact Grew.new t2 m1
      have hF : H3 F1 = some (.tup (freshS.map V.str)) := by rw [← eH3]; exact upd_same
      refine ⟨_, rfl, _, rfl, _, _, rfl, rfl, a, _, _, _, rfl, rfl, gF.sqL t2 hS2, e1, .inl ⟨n1, rfl, _, _, rfl, rfl, (show (0 : Int) < 3 by decide), F1, _, _, _, rfl, rfl, SqT.of hF, evf, ?_⟩⟩
      have hp3 := gF.lst t2 hp2
      have hpl3 := gF.tup t2 hpl2
      refine ⟨_, rfl, p, _, 2, _, rfl, rfl, SqL.of hp3, rfl, pl, _, rfl, .inr (SqT.of hpl3), rfl, _, rfl, ite2 (fun c2 => ?_) fun c2 => ?_⟩
      · refine ⟨_, rfl, (show 2 ≤ sizeLine by decide), fun T nT => ?_⟩
        exact kQ2 _ (.place true z) _ (gF.trans (Grew.new gF.tab nT)) ⟨T, [.str z], rfl, upd_same, rfl⟩ hzn
      · have hne : q.ps ≠ [] := fun e => by rw [e] at c2; exact absurd c2 (by decide)
        have hpos : 0 < q.ps.length := List.length_pos_iff.mpr hne
        refine ⟨_, rfl, _, rfl, _, _, rfl, rfl, _, rfl, _, rfl, p, _, 0, _, rfl, rfl, SqL.of hp3, rfl, _, rfl, p, _, 1, _, rfl, rfl, SqL.of hp3, rfl, _, rfl, p, _, 2, _, rfl, rfl, SqL.of hp3, rfl, (show 1 ≤ sizeLine by decide), fun A1 a1 => ?_⟩
        generalize eH4 : L2.upd H3 A1 _ = H4
        have gA : Grew P H2 H4 := gF.trans (by rw [← eH4]; exact Grew.new gF.tab a1)
        have hA1 : H4 A1 = some (.tup [V.str "new1"]) := by rw [← eH4]; exact upd_same
        have hpl4 := gA.tup t2 hpl2
        have tl : ∀ (H6 : Hp) (r : RoadD) (t : Addr), Grew P H2 H6 → RoadAt K H6 r (.ref t) → GoodR d ks r → ∀ T, H6 T = none → Q (.ref T) (L2.upd H6 T (.tup [V.str "road", .ref t])) := fun H6 r t g6 hr hg T nT =>
          kQ2 _ (.road true r) _ (g6.trans (Grew.new g6.tab nT)) ⟨T, [.ref t], rfl, upd_same, .ref t, rfl, hr.grew (Grew.new g6.tab nT) g6.tab⟩ hg
        obtain ⟨kb, ekb, hkb⟩ : ∃ kb : Nat, n1 % 5 / 4 = (kb : Int) ∧ kb ≤ 1 := ⟨(n1 % 5 / 4).toNat, by omega, by omega⟩
        refine ⟨_, rfl, _, rfl, _, _, rfl, rfl, a, _, _, _, rfl, rfl, gA.sqL t2 hS2, e1, .inl ⟨n1, rfl, _, _, rfl, rfl, (show (0 : Int) < 5 by decide), _, _, rfl, rfl, ⟨by decide, by decide⟩, _, rfl, A1, _, rfl, SqT.of hA1, fun w => ?_, fun w A2 a2 => ?_⟩⟩
        · refine ⟨pl, A1, _, _, rfl, rfl, SqT.of hpl4, SqT.of hA1, (by rw [List.length_map, sizeLine_eq]; show _ + 1 ≤ _; omega), fun e => absurd (List.map_eq_nil_iff.mp e) hne, fun _ e => (by cases e), fun _ _ A3 a3 => ?_⟩
          have g3 := gA.trans (Grew.new gA.tab (o := .tup (q.ps.map V.str ++ [V.str "new1"])) a3)
          have hnm5 : (q.ps ++ newS.take 1).all isNm = true := by rw [List.all_append, ok.pn]; decide +kernel
          refine ⟨a, ki, A3, ns, at_ + 2, d, z, ks, q.ps ++ newS.take 1, rfl, (g3).sqL t2 hS2, hsm, by omega, by omega, ok.d1, (g3).tup t2 hki2, by rw [List.map_append]; exact upd_same, by rw [List.length_append]; omega, l4, ok.kd, (g3).tab, fun H6 r t g6 nt hr hn ho hsub => ?_⟩
          refine ⟨_, rfl, (show 2 ≤ sizeLine by decide), fun T nT => tl H6 r t ((g3).trans g6) hr ⟨by rw [hn]; exact hzn, List.all_eq_true.mp hnm5 _ ho.s, List.all_eq_true.mp hnm5 _ ho.g, ho.m1, ho.m2, ho.u, ho.un, ho.ud, sp.ka.sublist hsub, ho.h⟩ T nT⟩
        · have hk0 : kb = 0 := by
            rcases Nat.lt_or_ge kb 1 with h | h
            · omega
            · have hk1 : kb = 1 := by omega
              rw [ekb, hk1] at w
              exact absurd ⟨rfl, rfl⟩ w
          have ec : cutV [V.str "new1"] none (some (n1 % 5 / 4)) = [] := by rw [ekb, hk0]; rfl
          have gB := gA.trans (Grew.new gA.tab (o := .tup (cutV [V.str "new1"] none (some (n1 % 5 / 4)))) a2)
          refine ⟨pl, A2, _, _, rfl, rfl, SqT.of (gB.tup t2 hpl2), SqT.of upd_same, (by rw [List.length_map, ec, sizeLine_eq]; show _ + 0 ≤ _; omega), fun e => absurd (List.map_eq_nil_iff.mp e) hne, fun _ _ => ?_, fun _ e => absurd ec e⟩
          have hnm5 : (q.ps).all isNm = true := ok.pn
          refine ⟨a, ki, pl, ns, at_ + 2, d, z, ks, q.ps, rfl, (gB).sqL t2 hS2, hsm, by omega, by omega, ok.d1, (gB).tup t2 hki2, gB.tup t2 hpl2, hpos, l4, ok.kd, (gB).tab, fun H6 r t g6 nt hr hn ho hsub => ?_⟩
          refine ⟨_, rfl, (show 2 ≤ sizeLine by decide), fun T nT => tl H6 r t ((gB).trans g6) hr ⟨by rw [hn]; exact hzn, List.all_eq_true.mp hnm5 _ ho.s, List.all_eq_true.mp hnm5 _ ho.g, ho.m1, ho.m2, ho.u, ho.un, ho.ud, sp.ka.sublist hsub, ho.h⟩ T nT⟩
    -- a road that is there
    have hxpos : 0 < xs.length := by
      rcases Nat.eq_zero_or_pos xs.length with h | h
      · exact absurd (congrArg (fun n : Nat => V.int (n : Int)) h) (fun e => d1 (decide_eq_true e))
      · exact h
    obtain ⟨vr, evr, hvr⟩ := atI_mod (xs := xs) (n := n1) hxpos
    obtain ⟨r, hr, hm⟩ := Paired.mem hrs2 hvr
    obtain ⟨t, u, hh, rfl, et, eu, eh⟩ := id hm
    have gr := good r hr
    refine ⟨_, rfl, p, _, 3, _, rfl, rfl, SqL.of hp2, rfl, _, rfl, _, rfl, _, _, rfl, rfl, a, _, _, _, rfl, rfl, hS2, e1, .inl ⟨n1, rfl, _, rfl, p, _, 3, _, rfl, rfl, SqL.of hp2, rfl, ro, _, rfl, .inr (SqT.of hro2), _, _, rfl, rfl, (show (0 : Int) < (xs.length : Int) by omega), ro, _, _, _, rfl, rfl, SqT.of hro2, evr, ?_⟩⟩
    refine ⟨_, rfl, rfl, _, rfl, ite2 (fun c3 => ?_) fun c3 => ?_⟩
    · obtain rfl : w0 = "unroad" := V.str.inj (of_decide_eq_true c3)
      refine ⟨_, rfl, _, rfl, (show 2 ≤ sizeLine by decide), fun T nT => ?_⟩
      exact kQ2 _ (.road false r) _ (Grew.new t2 nT) ⟨T, [.ref t], rfl, upd_same, .ref t, rfl, hm.grew (Grew.new t2 nT) t2⟩ gr
    refine ⟨_, rfl, rfl, _, rfl, ite2 (fun c4 => ?_) fun c4 => ?_⟩
    · obtain rfl : w0 = "minutes" := V.str.inj (of_decide_eq_true c4)
      have mm : PtSm (.mi r.minutes) := by have := gr.m1; have := gr.m2; show r.minutes.natAbs < 10 ^ 9; omega
      refine ⟨_, rfl, _, rfl, t, _, 0, _, rfl, rfl, SqT.of et, rfl, _, rfl, t, _, 3, _, rfl, rfl, SqT.of et, rfl, _, rfl, _, rfl, _, _, rfl, rfl, a, _, _, _, rfl, rfl, hS2, e2, .inl ⟨n2, rfl, _, _, rfl, rfl, (show (0 : Int) < 9 by decide), rfl, _, rfl, ite2 (fun c => ?_) fun c => ?_⟩⟩
      · obtain ⟨vi, evi, hvi⟩ := atI_mod (xs := ([0, 1001, 1000] : List Int).map V.int) (n := n3) (by decide)
        obtain ⟨i, hi3, rfl⟩ := List.mem_map.mp hvi
        refine ⟨(show 3 ≤ sizeLine by decide), fun T1 m1 => ?_⟩
        generalize eH3 : L2.upd H2 T1 _ = H3
        have g1 : Grew P H2 H3 := by rw [← eH3]; exact Grew.new t2 m1
        have hT1 : H3 T1 = some (.tup (([0, 1001, 1000] : List Int).map V.int)) := by rw [← eH3]; exact upd_same
        refine ⟨_, rfl, _, rfl, _, _, rfl, rfl, a, _, _, _, rfl, rfl, g1.sqL t2 hS2, e3, .inl ⟨n3, rfl, _, _, rfl, rfl, (show (0 : Int) < 3 by decide), T1, _, _, _, rfl, rfl, SqT.of hT1, evi, (show 4 ≤ sizeLine by decide), fun T nT => ?_⟩⟩
        refine kQ2 _ (.part r.name (.mi r.minutes) (.mi i)) _ (g1.trans (Grew.new g1.tab nT)) ⟨T, [.str r.name, .int r.minutes, .int i], rfl, upd_same, _, _, rfl, rfl, rfl⟩ ⟨gr.n, True.intro, mm, ?_⟩
        show i.natAbs < 10 ^ 9
        simp only [List.mem_cons, List.not_mem_nil, or_false] at hi3
        omega
      · refine ⟨_, rfl, _, rfl, _, _, rfl, rfl, a, _, _, _, rfl, rfl, hS2, e2, .inl ⟨n2, rfl, _, _, rfl, rfl, (show (0 : Int) < 12 by decide), _, _, rfl, rfl, (show 4 ≤ sizeLine by decide), fun T nT => ?_⟩⟩
        refine kQ2 _ (.part r.name (.mi r.minutes) (.mi (1 + n2 % 12))) _ (Grew.new t2 nT) ⟨T, [.str r.name, .int r.minutes, .int (1 + n2 % 12)], rfl, upd_same, _, _, rfl, rfl, rfl⟩ ⟨gr.n, True.intro, mm, ?_⟩
        show (1 + n2 % 12).natAbs < 10 ^ 9
        omega

    refine ⟨_, rfl, rfl, _, rfl, ite2 (fun c5 => ?_) fun c5 => ?_⟩
    · obtain rfl : w0 = "hours" := V.str.inj (of_decide_eq_true c5)
      have mm : PtSm (.ho r.hours) := hours_sm gr.h bd2
      refine ⟨_, rfl, _, rfl, _, _, rfl, rfl, a, _, _, _, rfl, rfl, hS2, e2, .inl ⟨n2, rfl, _, _, rfl, rfl, (show (0 : Int) < 9 by decide), rfl, _, rfl, ite2 (fun c => ?_) fun c => ?_⟩⟩
      · refine ⟨_, rfl, _, rfl, t, _, 0, _, rfl, rfl, SqT.of et, rfl, _, rfl, t, _, 5, _, rfl, rfl, SqT.of et, rfl, _, rfl, p, _, 0, _, rfl, rfl, SqL.of hp2, rfl, _, _, rfl, rfl, (show 2 ≤ sizeLine by decide), fun B1 b1 => ?_⟩
        generalize eK1 : L2.upd H2 B1 _ = K1
        have g1' : Grew P H2 K1 := by rw [← eK1]; exact Grew.new t2 b1
        have x1 : K1 B1 = some (.tup [V.int 0, V.int (d + 1)]) := by rw [← eK1]; exact upd_same
        have G1 := g1'
        refine ⟨(show 1 ≤ sizeLine by decide), fun B2 b2 => ?_⟩
        generalize eK2 : L2.upd K1 B2 _ = K2
        have g2' : Grew P K1 K2 := by rw [← eK2]; exact Grew.new G1.tab b2
        have x2 : K2 B2 = some (.tup [V.ref B1]) := by rw [← eK2]; exact upd_same
        have G2 := G1.trans g2'
        refine ⟨(show 2 ≤ sizeLine by decide), fun B3 b3 => ?_⟩
        generalize eK3 : L2.upd K2 B3 _ = K3
        have g3' : Grew P K2 K3 := by rw [← eK3]; exact Grew.new G2.tab b3
        have x3 : K3 B3 = some (.tup [V.int 0, V.int 0]) := by rw [← eK3]; exact upd_same
        have G3 := G2.trans g3'
        refine ⟨(show 1 ≤ sizeLine by decide), fun B4 b4 => ?_⟩
        generalize eK4 : L2.upd K3 B4 _ = K4
        have g4' : Grew P K3 K4 := by rw [← eK4]; exact Grew.new G3.tab b4
        have x4 : K4 B4 = some (.tup [V.ref B3]) := by rw [← eK4]; exact upd_same
        have G4 := G3.trans g4'
        refine ⟨(show 2 ≤ sizeLine by decide), fun B5 b5 => ?_⟩
        generalize eK5 : L2.upd K4 B5 _ = K5
        have g5' : Grew P K4 K5 := by rw [← eK5]; exact Grew.new G4.tab b5
        have x5 : K5 B5 = some (.tup [V.int 1, V.int 2]) := by rw [← eK5]; exact upd_same
        have G5 := G4.trans g5'
        refine ⟨(show 2 ≤ sizeLine by decide), fun B6 b6 => ?_⟩
        generalize eK6 : L2.upd K5 B6 _ = K6
        have g6' : Grew P K5 K6 := by rw [← eK6]; exact Grew.new G5.tab b6
        have x6 : K6 B6 = some (.tup [V.int 2, V.int 3]) := by rw [← eK6]; exact upd_same
        have G6 := G5.trans g6'
        refine ⟨(show 2 ≤ sizeLine by decide), fun B7 b7 => ?_⟩
        generalize eK7 : L2.upd K6 B7 _ = K7
        have g7' : Grew P K6 K7 := by rw [← eK7]; exact Grew.new G6.tab b7
        have x7 : K7 B7 = some (.tup [V.ref B5, V.ref B6]) := by rw [← eK7]; exact upd_same
        have G7 := G6.trans g7'
        refine ⟨(show 2 ≤ sizeLine by decide), fun B8 b8 => ?_⟩
        generalize eK8 : L2.upd K7 B8 _ = K8
        have g8' : Grew P K7 K8 := by rw [← eK8]; exact Grew.new G7.tab b8
        have x8 : K8 B8 = some (.tup [V.int 0, V.int 1]) := by rw [← eK8]; exact upd_same
        have G8 := G7.trans g8'
        refine ⟨(show 2 ≤ sizeLine by decide), fun B9 b9 => ?_⟩
        generalize eK9 : L2.upd K8 B9 _ = K9
        have g9' : Grew P K8 K9 := by rw [← eK9]; exact Grew.new G8.tab b9
        have x9 : K9 B9 = some (.tup [V.int 2, V.int 1]) := by rw [← eK9]; exact upd_same
        have G9 := G8.trans g9'
        refine ⟨(show 2 ≤ sizeLine by decide), fun B10 b10 => ?_⟩
        generalize eK10 : L2.upd K9 B10 _ = K10
        have g10' : Grew P K9 K10 := by rw [← eK10]; exact Grew.new G9.tab b10
        have x10 : K10 B10 = some (.tup [V.ref B8, V.ref B9]) := by rw [← eK10]; exact upd_same
        have G10 := G9.trans g10'
        refine ⟨(show 4 ≤ sizeLine by decide), fun B11 b11 => ?_⟩
        generalize eK11 : L2.upd K10 B11 _ = K11
        have g11' : Grew P K10 K11 := by rw [← eK11]; exact Grew.new G10.tab b11
        have x11 : K11 B11 = some (.tup [V.ref B2, V.ref B4, V.ref B7, V.ref B10]) := by rw [← eK11]; exact upd_same
        have G11 := G10.trans g11'
        have w1 := (g2'.trans (g3'.trans (g4'.trans (g5'.trans (g6'.trans (g7'.trans (g8'.trans (g9'.trans (g10'.trans (g11')))))))))).tup G1.tab x1
        have w2 := (g3'.trans (g4'.trans (g5'.trans (g6'.trans (g7'.trans (g8'.trans (g9'.trans (g10'.trans (g11'))))))))).tup G2.tab x2
        have w3 := (g4'.trans (g5'.trans (g6'.trans (g7'.trans (g8'.trans (g9'.trans (g10'.trans (g11')))))))).tup G3.tab x3
        have w4 := (g5'.trans (g6'.trans (g7'.trans (g8'.trans (g9'.trans (g10'.trans (g11'))))))).tup G4.tab x4
        have w5 := (g6'.trans (g7'.trans (g8'.trans (g9'.trans (g10'.trans (g11')))))).tup G5.tab x5
        have w6 := (g7'.trans (g8'.trans (g9'.trans (g10'.trans (g11'))))).tup G6.tab x6
        have w7 := (g8'.trans (g9'.trans (g10'.trans (g11')))).tup G7.tab x7
        have w8 := (g9'.trans (g10'.trans (g11'))).tup G8.tab x8
        have w9 := (g10'.trans (g11')).tup G9.tab x9
        have w10 := g11'.tup G10.tab x10
        have w11 := x11
        have gv : ∀ v ∈ [V.ref B2, V.ref B4, V.ref B7, V.ref B10], ∃ hs, GHours K K11 hs v ∧ PtSm (.ho hs) := by
          intro v hv
          simp only [List.mem_cons, List.not_mem_nil, or_false] at hv
          rcases hv with rfl | rfl | rfl | rfl
          · exact ⟨some [(0, d + 1)], ⟨B2, _, rfl, SqT.of w2, .cons ⟨B1, rfl, SqT.of w1⟩ .nil⟩, fun gs e => by obtain rfl := Option.some.inj e; exact ⟨by show 1 ≤ 4; decide, fun p hp => by rw [List.mem_singleton.mp hp]; exact ⟨by show (0 : Int).natAbs < 10 ^ 9; decide, by show (d + 1).natAbs < 10 ^ 9; omega⟩⟩⟩
          · exact ⟨some [(0, 0)], ⟨B4, _, rfl, SqT.of w4, .cons ⟨B3, rfl, SqT.of w3⟩ .nil⟩, fun gs e => by obtain rfl := Option.some.inj e; exact ⟨by decide, by decide⟩⟩
          · exact ⟨some [(1, 2), (2, 3)], ⟨B7, _, rfl, SqT.of w7, .cons ⟨B5, rfl, SqT.of w5⟩ (.cons ⟨B6, rfl, SqT.of w6⟩ .nil)⟩, fun gs e => by obtain rfl := Option.some.inj e; exact ⟨by decide, by decide⟩⟩
          · exact ⟨some [(0, 1), (2, 1)], ⟨B10, _, rfl, SqT.of w10, .cons ⟨B8, rfl, SqT.of w8⟩ (.cons ⟨B9, rfl, SqT.of w9⟩ .nil)⟩, fun gs e => by obtain rfl := Option.some.inj e; exact ⟨by decide, by decide⟩⟩
        have hB11 := w11
        obtain ⟨v, ev, hv⟩ := atI_mod (xs := [V.ref B2, V.ref B4, V.ref B7, V.ref B10]) (n := n3) (by show 0 < 4; decide)
        obtain ⟨hs, hg, hsm2⟩ := gv v hv
        refine ⟨_, rfl, _, rfl, _, _, rfl, rfl, a, _, _, _, rfl, rfl, G11.sqL t2 hS2, e3, .inl ⟨n3, rfl, _, _, rfl, rfl, (show (0 : Int) < 4 by decide), B11, _, _, _, rfl, rfl, SqT.of hB11, ev, (show 4 ≤ sizeLine by decide), fun T nT => ?_⟩⟩
        have gT := Grew.new G11.tab (o := .tup [V.str "hours", .str r.name, hh, v]) nT
        exact kQ2 _ (.part r.name (.ho r.hours) (.ho hs)) _ (G11.trans gT) ⟨T, [.str r.name, hh, v], rfl, upd_same, _, _, rfl, eh.grew (G11.trans gT) t2, hg.grew gT G11.tab⟩ ⟨gr.n, True.intro, mm, hsm2⟩
      · refine ⟨_, rfl, _, rfl, t, _, 0, _, rfl, rfl, SqT.of et, rfl, _, rfl, t, _, 5, _, rfl, rfl, SqT.of et, rfl, _, rfl, _, rfl, _, _, rfl, rfl, _, rfl, p, _, 0, _, rfl, rfl, SqL.of hp2, rfl, a, ns, at_ + 2, d, rfl, hS2, hsm, by omega, by omega, bd1, t2, fun H3 hs v g3 hg ho => ?_⟩
        refine ⟨(show 4 ≤ sizeLine by decide), fun T nT => ?_⟩
        have gT := Grew.new g3.tab (o := .tup [V.str "hours", .str r.name, hh, v]) nT
        exact kQ2 _ (.part r.name (.ho r.hours) (.ho hs)) _ (g3.trans gT) ⟨T, [.str r.name, hh, v], rfl, upd_same, _, _, rfl, eh.grew (g3.trans gT) t2, hg.grew gT g3.tab⟩ ⟨gr.n, True.intro, mm, hours_sm ho bd2⟩
    refine ⟨_, rfl, rfl, _, rfl, ite2 (fun c6 => ?_) fun c6 => ?_⟩
    · obtain rfl : w0 = "kinds" := V.str.inj (of_decide_eq_true c6)
      have kn5 : ∀ us : List Str, (∀ z ∈ us, z ∈ ks) → us.length ≤ 5 → PtSm (.ki us) := fun us h l => ⟨l, List.all_eq_true.mpr fun z hz => List.all_eq_true.mp ok.kn z (h z hz)⟩
      have mm : PtSm (.ki r.users) := kn5 _ gr.u (by have := gr.un; omega)
      have fin : ∀ (H5 : Hp) (b : Addr) (us : List Str), Grew P H2 H5 → H5 b = some (.tup (us.map V.str)) → PtSm (.ki us) → ∀ T, H5 T = none → Q (.ref T) (L2.upd H5 T (.tup [V.str "kinds", .str r.name, .ref u, .ref b])) := fun H5 b us g5 hb hsm5 T nT => by
        have gT := Grew.new g5.tab (o := .tup [V.str "kinds", .str r.name, .ref u, .ref b]) nT
        exact kQ2 _ (.part r.name (.ki r.users) (.ki us)) _ (g5.trans gT) ⟨T, [.str r.name, .ref u, .ref b], rfl, upd_same, _, _, rfl, ⟨u, rfl, (g5.trans gT).tup t2 eu⟩, ⟨b, rfl, gT.tup g5.tab hb⟩⟩ ⟨gr.n, True.intro, mm, hsm5⟩
      refine ⟨_, rfl, _, rfl, _, _, rfl, rfl, a, _, _, _, rfl, rfl, hS2, e2, .inl ⟨n2, rfl, _, _, rfl, rfl, (show (0 : Int) < 7 by decide), rfl, _, rfl, ite2 (fun c => ?_) fun c => ?_⟩⟩
      · refine ⟨_, rfl, _, rfl, t, _, 0, _, rfl, rfl, SqT.of et, rfl, _, rfl, t, _, 4, _, rfl, rfl, SqT.of et, rfl, (show 1 ≤ sizeLine by decide), fun B1 b1 => ?_⟩
        generalize eH3 : L2.upd H2 B1 _ = H3
        have G1 : Grew P H2 H3 := by rw [← eH3]; exact Grew.new t2 b1
        have hB1 : H3 B1 = some (.tup (([ "zz" ] : List Str).map V.str)) := by rw [← eH3]; exact upd_same
        refine ⟨_, rfl, p, _, 1, _, rfl, rfl, SqL.of (G1.lst t2 hp2), rfl, ki, _, rfl, SqT.of (G1.tup t2 hki2), fun B2 b2 => ?_⟩
        generalize eH4 : L2.upd H3 B2 _ = H4
        have g2' : Grew P H3 H4 := by rw [← eH4]; exact Grew.new G1.tab b2
        have G2 := G1.trans g2'
        have w1 := g2'.tup G1.tab hB1
        have w2 : H4 B2 = some (.tup (ks.reverse.map V.str)) := by rw [← eH4, List.map_reverse]; exact upd_same
        have tail : ∀ (H5 : Hp) (s5 : Addr), Grew P H4 H5 → H5 s5 = some (.tup ((ks.take 1).map V.str)) → ∀ B3, H5 B3 = none → ∀ B4, (L2.upd H5 B3 (.tup (ks.map V.str ++ (ks.take 1).map V.str))) B4 = none → ∃ H6, H6 = L2.upd (L2.upd H5 B3 (.tup (ks.map V.str ++ (ks.take 1).map V.str))) B4 (.tup [V.ref B1, V.ref B2, V.ref B3]) ∧ Grew P H2 H6 ∧ H6 B4 = some (.tup [V.ref B1, V.ref B2, V.ref B3]) ∧ ∀ v ∈ [V.ref B1, V.ref B2, V.ref B3], ∃ b us, v = .ref b ∧ H6 b = some (.tup (us.map V.str)) ∧ PtSm (.ki us) := fun H5 s5 g5 h5 B3 b3 B4 b4 => by
          have g3' := Grew.new g5.tab (o := .tup (ks.map V.str ++ (ks.take 1).map V.str)) b3
          have g4' := Grew.new g3'.tab (o := .tup [V.ref B1, V.ref B2, V.ref B3]) b4
          have g45 := g5.trans (g3'.trans g4')
          refine ⟨_, rfl, G2.trans g45, upd_same, fun v hv => ?_⟩
          simp only [List.mem_cons, List.not_mem_nil, or_false] at hv
          rcases hv with rfl | rfl | rfl
          · exact ⟨B1, ["zz"], rfl, g45.tup G2.tab w1, by decide, by decide +kernel⟩
          · exact ⟨B2, ks.reverse, rfl, g45.tup G2.tab w2, kn5 _ (fun z hz => List.mem_reverse.mp hz) (by rw [List.length_reverse]; omega)⟩
          · exact ⟨B3, ks ++ ks.take 1, rfl, by rw [List.map_append]; exact g4'.tup g3'.tab upd_same, kn5 _ (fun z hz => (List.mem_append.mp hz).elim id fun h => List.mem_of_mem_take h) (by rw [List.length_append, List.length_take]; omega)⟩
        have k1 := ok.k1
        have hkne : ks.map V.str ≠ [] := fun e => by rw [List.map_eq_nil_iff.mp e] at k1; exact absurd k1 (by decide)
        have hne1 : (ks.take 1).map V.str ≠ [] := fun e => by
          have q1 := congrArg List.length e
          rw [List.length_map, List.length_take] at q1
          simp only [List.length_nil] at q1
          omega
        obtain ⟨v, ev, hv⟩ : ∃ f : Addr → V, (∀ B3, atI [V.ref B1, V.ref B2, V.ref B3] (n3 % 3) = some (f B3)) ∧ ∀ B3, f B3 ∈ [V.ref B1, V.ref B2, V.ref B3] := by
          have key : ∀ B3 : Addr, ∃ v, atI [V.ref B1, V.ref B2, V.ref B3] (n3 % 3) = some v ∧ v ∈ [V.ref B1, V.ref B2, V.ref B3] := fun B3 => atI_mod (xs := [V.ref B1, V.ref B2, V.ref B3]) (n := n3) (by show 0 < 3; decide)
          exact ⟨fun B3 => (key B3).choose, fun B3 => (key B3).choose_spec.1, fun B3 => (key B3).choose_spec.2⟩
        refine ⟨_, rfl, p, _, 1, _, rfl, rfl, SqL.of (G2.lst t2 hp2), rfl, _, rfl, p, _, 1, _, rfl, rfl, SqL.of (G2.lst t2 hp2), rfl, _, rfl, ki, _, rfl, SqT.of (G2.tup t2 hki2), fun w => ?_, fun w B5 b5 => ?_⟩
        · have e1 : ks.take 1 = ks := by
            have q1 : min 1 (ks.map V.str).length = (ks.map V.str).length := w.2
            rw [List.length_map] at q1
            exact List.take_of_length_le (by omega)
          refine ⟨ki, ki, _, _, rfl, rfl, SqT.of (G2.tup t2 hki2), SqT.of (G2.tup t2 hki2), (by rw [List.length_map, sizeLine_eq]; omega), fun e => absurd e hkne, fun _ e => absurd e hkne, fun _ _ B3 b3 => ?_⟩
          refine ⟨(show 3 ≤ sizeLine by decide), fun B4 b4 => ?_⟩
          obtain ⟨H6, e6, G6, h6, gv⟩ := tail H4 ki (Grew.refl G2.tab) (by rw [e1]; exact G2.tup t2 hki2) B3 b3 B4 (by rw [e1]; exact b4)
          rw [e1] at e6
          rw [← e6]
          obtain ⟨b, us, evb, hb, hus⟩ := gv (v B3) (hv B3)
          have ev3 := ev B3
          rw [evb] at ev3
          exact ⟨_, rfl, _, rfl, _, _, rfl, rfl, a, _, _, _, rfl, rfl, G6.sqL t2 hS2, e3, .inl ⟨n3, rfl, _, _, rfl, rfl, (show (0 : Int) < 3 by decide), B4, _, _, _, rfl, rfl, SqT.of h6, ev3, (show 4 ≤ sizeLine by decide), fun T nT => fin H6 b us G6 hb hus T nT⟩⟩
        · have e1 : cutV (ks.map V.str) none (some 1) = (ks.take 1).map V.str := by
            rw [show (1 : Int) = ((1 : Nat) : Int) from rfl, cutV_pre, List.map_take]
          have gB := Grew.new G2.tab (o := .tup (cutV (ks.map V.str) none (some 1))) b5
          have hB5 : L2.upd H4 B5 (.tup (cutV (ks.map V.str) none (some 1))) B5 = some (.tup ((ks.take 1).map V.str)) := by rw [← e1]; exact upd_same
          rw [e1] at gB hB5 ⊢
          refine ⟨ki, B5, _, _, rfl, rfl, SqT.of ((G2.trans gB).tup t2 hki2), SqT.of hB5, (by rw [List.length_map, List.length_map, List.length_take, sizeLine_eq]; omega), fun e => absurd e hkne, fun _ e => absurd e hne1, fun _ _ B3 b3 => ?_⟩
          refine ⟨(show 3 ≤ sizeLine by decide), fun B4 b4 => ?_⟩
          obtain ⟨H6, e6, G6, h6, gv⟩ := tail _ B5 gB hB5 B3 b3 B4 b4
          rw [← e6]
          obtain ⟨b, us, evb, hb, hus⟩ := gv (v B3) (hv B3)
          have ev3 := ev B3
          rw [evb] at ev3
          exact ⟨_, rfl, _, rfl, _, _, rfl, rfl, a, _, _, _, rfl, rfl, G6.sqL t2 hS2, e3, .inl ⟨n3, rfl, _, _, rfl, rfl, (show (0 : Int) < 3 by decide), B4, _, _, _, rfl, rfl, SqT.of h6, ev3, (show 4 ≤ sizeLine by decide), fun T nT => fin H6 b us G6 hb hus T nT⟩⟩
      · obtain ⟨m, em⟩ : ∃ m : Nat, n2 % (((ks.map V.str).length : Nat) + 1 : Int) = (m : Int) := ⟨(n2 % (((ks.map V.str).length : Nat) + 1 : Int)).toNat, (Int.toNat_of_nonneg (Int.emod_nonneg _ (by omega))).symm⟩
        refine ⟨_, rfl, _, rfl, t, _, 0, _, rfl, rfl, SqT.of et, rfl, _, rfl, t, _, 4, _, rfl, rfl, SqT.of et, rfl, _, rfl, p, _, 1, _, rfl, rfl, SqL.of hp2, rfl, _, rfl, _, rfl, _, _, rfl, rfl, a, _, _, _, rfl, rfl, hS2, e2, .inl ⟨n2, rfl, _, rfl, p, _, 1, _, rfl, rfl, SqL.of hp2, rfl, ki, _, rfl, .inr (SqT.of hki2), _, _, rfl, rfl, _, _, rfl, rfl, (by omega), _, rfl, ki, _, rfl, SqT.of hki2, fun w => ?_, fun w B5 b5 => ?_⟩⟩
        · exact ⟨(show 4 ≤ sizeLine by decide), fun T nT => fin H2 ki ks G0 hki2 (kn5 _ (fun z hz => hz) (by omega)) T nT⟩
        · have gB := Grew.new t2 (o := .tup (cutV (ks.map V.str) none (some (n2 % (((ks.map V.str).length : Nat) + 1 : Int))))) b5
          refine ⟨(show 4 ≤ sizeLine by decide), fun T nT => fin _ B5 (ks.take m) gB ?_ (kn5 _ (fun z hz => List.mem_of_mem_take hz) (by rw [List.length_take]; omega)) T nT⟩
          rw [upd_same, em, cutV_pre, List.map_take]
    refine ⟨fun σ H' => σ = [some (.ref a), some (.int at_), some (.ref p), some (.ref W), some (.str w0), some (.ref D), none, none, some (.ref t), none, none] ∧ H' = H2, ?_, ?_⟩
    · refine ⟨_, rfl, rfl, _, rfl, ite2 (fun c7 => ?_) fun c7 => if_f rfl ⟨rfl, rfl⟩⟩
      obtain rfl : w0 = "unbar" := V.str.inj (of_decide_eq_true c7)
      refine ⟨_, rfl, p, _, 4, _, rfl, rfl, SqL.of hp2, rfl, ba, _, rfl, .inr (SqT.of hba2), _, _, rfl, rfl, _, rfl, ite2 (fun c8 => ?_) fun c8 => ⟨rfl, rfl⟩⟩
      have c8' : (0 : Int) < (zs.length : Int) := of_decide_eq_true c8
      obtain ⟨vb, evb, hvb⟩ := atI_mod (xs := zs) (n := n2) (by omega)
      obtain ⟨b, hb, tb, rfl, etb⟩ := Paired.mem hzs2 hvb
      have bn : isNm b.1 = true ∧ isNm b.2 = true := by
        obtain ⟨r1, m1, r2, m2, e1, e2, _⟩ := ok.b.ok b hb
        rw [e1, e2]
        exact ⟨(good r1 m1).n, (good r2 m2).n⟩
      refine ⟨_, rfl, (show 1 ≤ sizeLine by decide), fun B1 b1 => ?_⟩
      generalize eH3 : L2.upd H2 B1 _ = H3
      have G1 : Grew P H2 H3 := by rw [← eH3]; exact Grew.new t2 b1
      have hB1 : H3 B1 = some (.tup [V.str "unbar"]) := by rw [← eH3]; exact upd_same
      refine ⟨_, rfl, p, _, 4, _, rfl, rfl, SqL.of (G1.lst t2 hp2), rfl, _, rfl, _, rfl, _, _, rfl, rfl, a, _, _, _, rfl, rfl, G1.sqL t2 hS2, e2, .inl ⟨n2, rfl, _, rfl, p, _, 4, _, rfl, rfl, SqL.of (G1.lst t2 hp2), rfl, ba, _, rfl, .inr (SqT.of (G1.tup t2 hba2)), _, _, rfl, rfl, c8', ba, _, _, _, rfl, rfl, SqT.of (G1.tup t2 hba2), evb, B1, tb, _, _, rfl, rfl, SqT.of hB1, SqT.of (G1.tup t2 etb), (show 3 ≤ sizeLine by decide), fun e => (by cases e), fun _ e => (by cases e), fun _ _ T nT => ?_⟩⟩
      exact kQ2 _ (.bar false b) _ (G1.trans (Grew.new G1.tab nT)) ⟨T, [.str b.1, .str b.2], rfl, upd_same, rfl⟩ bn
    rintro σ H' ⟨rfl, rfl⟩
    refine ⟨_, rfl, p, _, 3, _, rfl, rfl, SqL.of hp2, rfl, ro, rfl, ⟨_, SqT.of hro2⟩, fun E1 m1 => lc_tup (K := K) (a := ro) (xs := xs) (fun j H4 => Grew P H' H4 ∧ ∃ acc : List Str, H4 E1 = some (.lst (acc.map V.str)) ∧ acc.length ≤ j ∧ ∀ z ∈ acc, isNm z = true) ⟨Grew.new t2 m1, [], upd_same, Nat.le_refl _, fun z hz => by cases hz⟩ (fun j H4 _ h => SqT.of (h.1.tup t2 hro2)) (fun j v H4 hj h => ?_) (fun H4 h => ?_)⟩
    · obtain ⟨g4, acc, hE, la, hac⟩ := h
      obtain ⟨o, ho, hm4⟩ := Paired.at hrs2 hj
      obtain ⟨t4, u4, h4, rfl, et4, _, _⟩ := hm4.grew g4 t2
      have hjl := (List.getElem?_eq_some_iff.mp hj).1
      refine ⟨rfl, _, rfl, t4, _, 1, _, rfl, rfl, SqT.of et4, rfl, _, rfl, t, _, 2, _, rfl, rfl, SqT.of (g4.tup t2 et), rfl, rfl, _, rfl, ite2 (fun c => ?_) fun c => ⟨g4, acc, hE, by omega, hac⟩⟩
      refine ⟨_, rfl, t4, _, 0, _, rfl, rfl, SqT.of et4, rfl, _, hE, by rw [List.length_map, sizeLine_eq]; omega, g4.write hE (fun _ z => by cases z) m1, acc ++ [o.name], by rw [upd_same, List.map_append]; rfl, by rw [List.length_append]; show _ + 1 ≤ _; omega, fun z hz => ?_⟩
      rcases List.mem_append.mp hz with h | h
      · exact hac z h
      · rw [List.mem_singleton.mp h]
        exact (good o (List.mem_of_getElem? ho)).n
    obtain ⟨g4, acc, hE, la, hac⟩ := h
    have hD4 := g4.lst t2 hD
    refine ⟨_, rfl, _, rfl, D, _, rfl, SqL.of hD4, fun E2 m2 => ?_⟩
    have ec : cutV (namesV q.rs) none (some 1) = ((q.rs.map (·.name)).take 1).map V.str := by
      rw [show (1 : Int) = ((1 : Nat) : Int) from rfl, cutV_pre]
      unfold namesV
      rw [List.map_take]
    rw [ec]
    have g5 := Grew.new g4.tab (o := .lst (((q.rs.map (·.name)).take 1).map V.str)) m2
    refine ⟨E1, E2, _, _, rfl, rfl, g5.lst g4.tab hE, upd_same, (by rw [List.length_map, List.length_map, List.length_take, sizeLine_eq]; omega), fun E3 m3 => ?_⟩
    have g6 := Grew.new g5.tab (o := .lst (acc.map V.str ++ ((q.rs.map (·.name)).take 1).map V.str)) m3
    have G6 := g4.trans (g5.trans g6)
    have hE3 : L2.upd (L2.upd H4 E2 (.lst (((q.rs.map (·.name)).take 1).map V.str))) E3 (.lst (acc.map V.str ++ ((q.rs.map (·.name)).take 1).map V.str)) E3 = some (.lst ((acc ++ (q.rs.map (·.name)).take 1).map V.str)) := by rw [List.map_append]; exact upd_same
    generalize L2.upd (L2.upd H4 E2 (.lst (((q.rs.map (·.name)).take 1).map V.str))) E3 (.lst (acc.map V.str ++ ((q.rs.map (·.name)).take 1).map V.str)) = H7 at G6 hE3 ⊢
    have lpos : 0 < ((acc ++ (q.rs.map (·.name)).take 1).map V.str).length := by
      rw [List.length_map, List.length_append, List.length_take, List.length_map]
      omega
    obtain ⟨v, ev, hv⟩ := atI_mod (xs := (acc ++ (q.rs.map (·.name)).take 1).map V.str) (n := n2) lpos
    obtain ⟨z, hz, rfl⟩ := List.mem_map.mp hv
    have hzn : isNm z = true := by
      rcases List.mem_append.mp hz with h | h
      · exact hac z h
      · exact List.all_eq_true.mp ok.r.nm z (List.mem_of_mem_take h)
    refine ⟨_, rfl, t, _, 0, _, rfl, rfl, SqT.of (G6.tup t2 et), rfl, _, rfl, _, rfl, _, rfl, _, _, rfl, rfl, a, _, _, _, rfl, rfl, G6.sqL t2 hS2, e2, .inl ⟨n2, rfl, _, rfl, E3, _, rfl, .inl (SqL.of hE3), _, _, rfl, rfl, (by omega), E3, _, _, _, rfl, rfl, SqL.of hE3, ev, (show 3 ≤ sizeLine by decide), fun T nT => ?_⟩⟩
    exact kQ2 _ (.bar true (r.name, z)) _ (G6.trans (Grew.new G6.tab nT)) ⟨T, [.str r.name, .str z], rfl, upd_same, rfl⟩ ⟨gr.n, hzn⟩
end
end W

set_option Elab.async false
set_option linter.all false
set_option maxRecDepth 100000
set_option maxHeartbeats 1000000
namespace MyS
open PySem PySem.Spec PyProof.Rows L2
open SrtO hiding Str
section
variable {X : Cx}
/-- sorted(xs), xs a list of tuples told apart by their first text -/
def rSortRQ (K : PySem.W.Frag) : List V → Hp → VK → Prop := fun vs H Q => ∃ (a : Addr) (xs : List V) (k : V → Str), vs = [V.ref a] ∧ (SqL K H a xs ∨ SqT K H a xs) ∧ (∀ x ∈ xs, ∃ t r, x = V.ref t ∧ SqT K H t (.str (k x) :: r)) ∧ (∀ x ∈ xs, ∀ y ∈ xs, k x = k y → x = y) ∧
  ∀ ys p, ys.Perm xs → ys.Pairwise (fun x y => slt (k y) (k x) = false) → H p = none → Q (.ref p) (upd H p (.lst ys))
theorem cr_sortRQ : CallR X (.builtin "sorted") (rSortRQ X.K) := by
  intro pins s σ H vs us Q I r h
  obtain ⟨a, xs, k, rfl, hs, hx, ne, q⟩ := h
  obtain ⟨its, rv, hl, hz⟩ : ∃ its : List Value, Vals xs its ∧ (s.heap.IsList a its.toArray ∨ s.heap.IsTuple a its.toArray) ∧ xs.length ≤ sizeLine := by
    rcases hs with hs | hs
    · obtain ⟨its, rv, pl, hz⟩ := I.list hs
      exact ⟨its, rv, .inl pl.isList, hz⟩
    · obtain ⟨its, rv, pl, hz⟩ := I.tuple hs
      exact ⟨its, rv, .inr (by first | exact pl | exact pl.isTuple), hz⟩
  rw [Vals.ref1 r]
  obtain ⟨e1, e2⟩ := refs_back rv fun x m => by
    obtain ⟨t, r, e, _⟩ := hx x m
    exact ⟨t, e⟩
  have hp : ∀ v ∈ its, ∃ r, IsTp s.heap v (k (backV v)) r := fun v hv => by
    obtain ⟨t, rfl⟩ := e2 v hv
    have hm : V.ref t ∈ xs := by rw [e1]; exact List.mem_map.mpr ⟨_, hv, rfl⟩
    obtain ⟨t', r, e, ht⟩ := hx _ hm
    cases e
    obtain ⟨its2, r2, ⟨o, ho, hc, n, hd⟩, _⟩ := I.tuple ht
    cases r2 with
    | cons r0 r3 =>
      obtain ⟨tk, rfl⟩ := r0
      exact ⟨_, t, o, _, n, tk, rfl, ho, hc, hd, rfl⟩
  have ne' : ∀ v ∈ its, ∀ u ∈ its, k (backV v) = k (backV u) → v = u := fun v hv u hu e => by
    obtain ⟨t, rfl⟩ := e2 v hv
    obtain ⟨t', rfl⟩ := e2 u hu
    have q := ne (.ref t) (by rw [e1]; exact List.mem_map.mpr ⟨_, hv, rfl⟩) (.ref t') (by rw [e1]; exact List.mem_map.mpr ⟨_, hu, rfl⟩) e
    injection q with q
    rw [q]
  refine sorted_seq (swo_of swo_s fun u => k (backV u)) hl (by rw [← rv.length]; exact hz) (fun h2 h₁ a' ha' kk => first_sortable (by omega) (fun v hv => let ⟨r, z⟩ := hp v hv; ⟨r, z.keeps fun b o e _ => (kk b o e).2⟩) ne' (noTup ha')) fun out h1 h2 => ?_
  have h3 : ∀ u ∈ out, ∃ a, u = Value.ref a := fun u hu => e2 u (h2.perm.mem_iff.mp hu)
  obtain ⟨ep, he'⟩ := PyProof.Rows.sortedAll_at s.heap its out.toArray
  have pm : (out.map backV).Perm xs := by
    rw [e1]
    exact h2.perm.map backV
  refine ⟨.ref _, upd H (s.heap.objs.size + 1) (.lst (out.map backV)), I.laid (t' := s.toks) (fun _ _ => PyProof.Rows.sortedAll_old) (Nat.le_succ _) ⟨by rw [pm.length_eq]; exact hz, out, ep, vals_back h3, he'⟩, rfl, q _ _ pm (List.pairwise_map.mpr h1) (I.hok.fresh (Nat.le_succ _))⟩
/-- sorted(xs), xs a list of pairs of texts -/
def rSortBQ (K : PySem.W.Frag) : List V → Hp → VK → Prop := fun vs H Q => ∃ (a : Addr) (xs : List V) (k : V → Str × Str), vs = [V.ref a] ∧ (SqL K H a xs ∨ SqT K H a xs) ∧ (∀ x ∈ xs, ∃ t, x = V.ref t ∧ SqT K H t [.str (k x).1, .str (k x).2]) ∧
  ∀ ys p, ys.Perm xs → ys.Pairwise (fun x y => slt2 (k y) (k x) = false) → H p = none → Q (.ref p) (upd H p (.lst ys))
theorem cr_sortBQ : CallR X (.builtin "sorted") (rSortBQ X.K) := by
  intro pins s σ H vs us Q I r h
  obtain ⟨a, xs, k, rfl, hs, hx, q⟩ := h
  obtain ⟨its, rv, hl, hz⟩ : ∃ its : List Value, Vals xs its ∧ (s.heap.IsList a its.toArray ∨ s.heap.IsTuple a its.toArray) ∧ xs.length ≤ sizeLine := by
    rcases hs with hs | hs
    · obtain ⟨its, rv, pl, hz⟩ := I.list hs
      exact ⟨its, rv, .inl pl.isList, hz⟩
    · obtain ⟨its, rv, pl, hz⟩ := I.tuple hs
      exact ⟨its, rv, .inr (by first | exact pl | exact pl.isTuple), hz⟩
  rw [Vals.ref1 r]
  obtain ⟨e1, e2⟩ := refs_back rv fun x m => by
    obtain ⟨t, e, _⟩ := hx x m
    exact ⟨t, e⟩
  have hp : ∀ v ∈ its, ∃ t, IsTp s.heap v (k (backV v)).1 [.str (k (backV v)).2 t] := fun v hv => by
    obtain ⟨t, rfl⟩ := e2 v hv
    have hm : V.ref t ∈ xs := by rw [e1]; exact List.mem_map.mpr ⟨_, hv, rfl⟩
    obtain ⟨t', e, ht⟩ := hx _ hm
    cases e
    obtain ⟨its2, r2, ⟨o, ho, hc, n, hd⟩, _⟩ := I.tuple ht
    obtain ⟨u1, u2, rfl, ri, rj⟩ := vals2 r2
    obtain ⟨t1, rfl⟩ := ri
    obtain ⟨t2, rfl⟩ := rj
    exact ⟨t2, t, o, _, n, t1, rfl, ho, hc, hd, rfl⟩
  refine sorted_seq (swo_of swo_s2 fun u => k (backV u)) hl (by rw [← rv.length]; exact hz) (fun h2 h₁ a' ha' kk => pairs_sortable (by omega) (fun v hv => let ⟨r, z⟩ := hp v hv; ⟨r, z.keeps fun b o e _ => (kk b o e).2⟩) (noTup ha')) fun out h1 h2 => ?_
  have h3 : ∀ u ∈ out, ∃ a, u = Value.ref a := fun u hu => e2 u (h2.perm.mem_iff.mp hu)
  obtain ⟨ep, he'⟩ := PyProof.Rows.sortedAll_at s.heap its out.toArray
  have pm : (out.map backV).Perm xs := by
    rw [e1]
    exact h2.perm.map backV
  refine ⟨.ref _, upd H (s.heap.objs.size + 1) (.lst (out.map backV)), I.laid (t' := s.toks) (fun _ _ => PyProof.Rows.sortedAll_old) (Nat.le_succ _) ⟨by rw [pm.length_eq]; exact hz, out, ep, vals_back h3, he'⟩, rfl, q _ _ pm (List.pairwise_map.mpr h1) (I.hok.fresh (Nat.le_succ _))⟩
end
end MyS

set_option Elab.async false
set_option linter.all false
set_option maxRecDepth 100000
set_option maxHeartbeats 1000000
/-! a tuple just made, known to have no dict: its methods may be called -/
namespace TpF
open PySem PySem.Spec PyProof.Rows L2
def TupF (H : Hp) (a : Addr) (xs : List V) : Prop := ∃ o : Obj, o.cls = .type "tuple" ∧ o.dict = none ∧ H a = some (.frz o (.tup xs))
theorem TupF.sq {K : PySem.W.Frag} {H : Hp} {a : Addr} {xs : List V} (h : TupF H a xs) : SqT K H a xs := let ⟨o, _, _, e⟩ := h; .inl (.inr ⟨o, e⟩)
section
variable {X : Cx}
theorem call_tuple_fz : CallR X (.type "tuple") (fun xs H Q => ∃ p ys, xs = [.ref p] ∧ SqL X.K H p ys ∧ ∀ l o, H l = none → o.cls = .type "tuple" → o.dict = none → Q (.ref l) (upd H l (.frz o (.tup ys)))) := by
  intro pins s σ H xs us Q I r h
  obtain ⟨p, ys, rfl, hq, q⟩ := h
  obtain ⟨u, rfl, rx⟩ := vals1 r
  cases rx
  obtain ⟨its, r', pl, hz⟩ := I.list hq
  have hlen := r'.length
  refine call_tuple_list pl.isList (fun h' kp => ?_) (by simp only [List.size_toArray] <;> omega)
  have I1 : Inv X pins σ H { s with heap := h' } := I.kept (t' := s.toks) kp
  have I2 : Inv X pins σ (upd H h'.objs.size (.frz { cls := .type "tuple", data := .seq its.toArray } (.tup ys))) { s with heap := h'.push { cls := .type "tuple", data := .seq its.toArray } } :=
    I1.laid (t' := s.toks) (fun b o e => Heap.get?_push_of_some _ e) (Nat.le_refl _) (show ObjOk X.prog X.w _ _ _ (.frz _ (.tup ys)) from ⟨Heap.get?_push_size _ rfl, hz, its, r', IsTup.new _ _⟩)
  exact ⟨.ref h'.objs.size, _, I2, rfl, q _ _ (I1.hok.fresh (Nat.le_refl _)) rfl rfl⟩
def tBMF (r : V → List V → Hp → VK → Prop) (to : TE) (t : TA) : TE := fun σ H Q => to σ H fun x H1 => (∃ a xs, x = .ref a ∧ TupF H1 a xs) ∧ t σ H1 fun xs H2 => r x xs H2 Q
theorem pe_bmF {o e : Expr} {es : List Expr} {to : TE} {t : TA} {name : Str} {apos cpos : Pos} {id : String} {r : V → List V → Hp → VK → Prop} (pa : PlainAttrs "tuple") (slot : Slot "tuple" name id) (hty : typeOf (.builtin id) = pure (.type "method_descriptor")) (hm : MtR X id r) (ho : PE X o to) (ha : PA X (e :: es) t)
    (hbase : attributeBase o name X.env (eval o X.env) = eval o X.env := by rfl)
    (hfew : ((backTo cpos (starEach (e :: es) X.env)).all (fun x => !x.1) && (backToKw cpos (keywordEach [] X.env)).all (fun x => x.1.isSome)
      && decide ((e :: es).length + ([] : List Keyword).length + (if ([] : List Keyword).isEmpty then 0 else 1) < 30)) = true := by rfl)
    (hline : (apos.endLine == cpos.line) = true := by rfl) (hs : starEach (e :: es) X.env = (false, eval e X.env) :: starEach es X.env := by rfl) (hplain : (backTo cpos (starEach es X.env)).any (·.1) = false := by rfl) :
    PE X (.Call (.Attribute o name apos) (e :: es) [] cpos) (tBMF r to t) := by
  refine ⟨fun pins s σ H Q I h => ?_⟩
  refine wpAny_Call_method_late hbase hfew hline rfl (thn (ho.run pins s σ H _ I h) fun v s1 ⟨x, H1, I1, r1, ty, q1⟩ => ?_)
  obtain ⟨a, xs, rfl, ob, hc, hd, hf⟩ := ty
  obtain rfl : v = Value.ref a := r1
  have e1 : s1.heap.get? a = some ob := (I1.hok a _ hf).1
  refine ⟨"tuple", id, pa, slot, hty, ⟨ob, e1, hc⟩, fun b eb => by cases eb; exact ⟨ob, e1, hd⟩, ?_⟩
  have hA := ha.run cpos pins s1 σ H1 _ I1 q1
  rw [hs] at hA ⊢
  refine Calls.callWith_builtin (by show (false || (backTo cpos (starEach es X.env)).any (·.1)) = false; rw [hplain] <;> rfl) (Calls.evalArgs_plain ?_)
  exact thn hA fun us s2 ⟨vs, H2, I2, r2, q2⟩ => hm pins s2 σ H2 (V.ref a) vs _ us Q I2 rfl r2 q2
end
end TpF

set_option Elab.async false
set_option linter.all false
set_option maxRecDepth 100000
set_option maxHeartbeats 1000000
/-! a tuple as it is written, known to have no dict -/
namespace TpF
open PySem PySem.Spec PyProof.Rows L2
variable {X : Cx}
def tTupF (t : TA) : TE := fun σ H Q => t σ H fun xs H2 => xs.length ≤ sizeLine ∧ ∀ l o, H2 l = none → o.cls = .type "tuple" → o.dict = none → Q (.ref l) (upd H2 l (.frz o (.tup xs)))
theorem pe_tupF {es : List Expr} {t : TA} {pos : Pos} {x1} (h : PA X es t) : PE X (.Tuple es x1 pos) (tTupF t) := by
  refine ⟨fun pins s σ H Q I hq => ?_⟩
  refine wpAny_Tuple_spliced (thn (h.run pos pins s σ H _ I hq) fun us s1 ⟨xs, H1, I1, r, z, q⟩ => ⟨by rw [← r.length]; exact z, ?_⟩)
  have hf : H1 s1.heap.objs.size = none := I1.hok.fresh (Nat.le_refl _)
  have I2 : Inv X pins σ (upd H1 s1.heap.objs.size (.frz { cls := .type "tuple", data := .seq us.toArray } (.tup xs))) { s1 with heap := s1.heap.push { cls := .type "tuple", data := .seq us.toArray } } :=
    I1.laid (t' := s1.toks) (fun b u e => Heap.get?_push_of_some _ e) (Nat.le_refl _) (show ObjOk X.prog X.w _ _ _ (.frz _ (.tup xs)) from ⟨Heap.get?_push_size _ rfl, z, us, r, IsTup.new _ _⟩)
  exact ⟨.ref s1.heap.objs.size, _, I2, rfl, q _ _ hf rfl rfl⟩
end TpF

set_option Elab.async false
set_option linter.all false
set_option maxRecDepth 100000
set_option maxHeartbeats 4000000
namespace W
open PySem PySem.Spec PyProof.Rows L2 GxR MyG MyS SqX
/-! ### _law_fits_road -/
abbrev sFi : Stmt := top 52
abbrev nFi : List Str := ["day", "kinds", "word", "part", "last", "pair", "kind"]
theorem scFi : FnScope nFi ["day", "kinds", "word", "part"] (defScope sFi) := ⟨rfl, rfl, rfl, by decide +kernel, rfl, by decide +kernel, by decide +kernel⟩
theorem dec_ww (a b : Str) : decide (V.str a = V.str b) = decide (a = b) := by
  by_cases e : a = b
  · rw [e]
    simp
  · rw [decide_eq_false e, decide_eq_false fun c => e (V.str.inj c)]
theorem w_mm (i : Int) : decide (V.str (Pt.mi i).word = V.str (Str.ofString "minutes")) = true := decide_eq_true rfl
theorem w_km (us : List Str) : decide (V.str (Pt.ki us).word = V.str (Str.ofString "minutes")) = false := by rw [dec_ww]; show decide (Str.ofString "kinds" = Str.ofString "minutes") = false; decide +kernel
theorem w_kk (us : List Str) : decide (V.str (Pt.ki us).word = V.str (Str.ofString "kinds")) = true := decide_eq_true rfl
theorem w_hm (hs : Option (List (Int × Int))) : decide (V.str (Pt.ho hs).word = V.str (Str.ofString "minutes")) = false := by rw [dec_ww]; show decide (Str.ofString "hours" = Str.ofString "minutes") = false; decide +kernel
theorem w_hk (hs : Option (List (Int × Int))) : decide (V.str (Pt.ho hs).word = V.str (Str.ofString "kinds")) = false := by rw [dec_ww]; show decide (Str.ofString "hours" = Str.ofString "kinds") = false; decide +kernel
def spFits (K : PySem.W.Frag) (P : Addr) : Sp := fun vs H Q _ => ∃ (ki : Addr) (d : Int) (ks : List Str) (b : Pt) (v : V), vs = [.int d, .ref ki, .str b.word, v] ∧ H ki = some (.tup (ks.map V.str)) ∧ ks.length ≤ 4 ∧ ks.all isNm = true ∧ PtAt K H b v ∧ PtSm b ∧ TabG H P ∧
  ∀ (H' : Hp) (r : Bool), Grew P H H' → (r = true ↔ fits d ks b) → Q (.bl r) H'
theorem lastOf_take (c : Int) (ps : List (Int × Int)) (i : Nat) : lastOf c ps i = lastP c (ps.take i) := rfl
theorem filter_take' {p : Str → Bool} {l : List Str} {i : Nat} {a : Str} (h : l[i]? = some a) : (l.take (i + 1)).filter p = if p a = true then (l.take i).filter p ++ [a] else (l.take i).filter p := filter_take h
section
variable {Pg : Program} {w : World} {K : PySem.W.Frag} {mg : Str → Option Value} {base : Heap} {C P : Addr}
theorem ok_fits {f : Addr} {fd : FuncData} (F : Fun K "_law_fits_road" "_law_fits_road" sFi f fd) (ht : mg "tuple" = none) :
    FnOk Pg w K mg base CX0 1 f fd ["day", "kinds", "word", "part"] (spFits K P) := by
  refine F.ok scFi (fun vs H Q E h => ?_) (fun cdv A outer s H vs Q E hr h => ?_)
  · obtain ⟨ki, d, ks, b, v, rfl, _⟩ := h
    rfl
  · obtain ⟨ki, d, ks, b, v, rfl, hki, lk, kn, hv, hsm, hP, kQ⟩ := h
    refine ⟨_, (pss_cons (ps_if (pt_cmpR op_eq (pv 2) pe_str (nomark _)) (pss_one (ps_ret (pe_chain op_le op_le pe_int (pv 3) pe_int)))
        pss_nil)
      (pss_cons (ps_if (pt_cmpR op_eq (pv 2) pe_str (nomark _)) (pss_one (ps_ret (pe_cmpR (r := rEqD K) (op_eqD hr.units) (pv 3) (pe_callTy call_tuple_of (by rfl) ht (by decide +kernel) (pa_cons (pe_lc (own := [("kind", 6)]) (g := (gName 6)) rfl scFi.nd (pi_tup (pv 1)) (blkOk_by (N := nFi) (sc := defScope sFi) (by decide +kernel)) (fun _ _ _ _ _ => pg_name (i := 6) scFi.nd rfl (Or.inl rfl)) (fun _ _ _ _ _ => pts_one (pt_cmpR (r := rIn K false) op_in_seq (pv 6) (pv 3) (by rfl))) (fun _ _ _ _ _ => (pv 6))) pa_nil)) (nomark _))))
        pss_nil)
      (pss_cons (ps_set (i := 4) scFi.nd rfl (Or.inl rfl) (pe_un un_neg pe_int))
      (pss_cons (ps_if (pt_cmp (pc_isN (pv 3))) (pss_one (ps_ret pe_bl))
        pss_nil)
      (pss_cons (ps_for PassesOwn.never rfl (pi_tup (pv 3)) (pg_name (i := 5) scFi.nd rfl (Or.inl rfl))
        (pss_cons (ps_if (pt_not (pt_chain3 op_lt op_lt op_le (pv 4) (pe_ix (r := rIxT K) ix_tup (pv 5) pe_int (fun _ _ => rfl)) (pe_ix (r := rIxT K) ix_tup (pv 5) pe_int (fun _ _ => rfl)) (pv 0))) (pss_one (ps_ret pe_bl))
        pss_nil)
      (pss_one (ps_set (i := 4) scFi.nd rfl (Or.inl rfl) (pe_ix (r := rIxT K) ix_tup (pv 5) pe_int (fun _ _ => rfl))))))
      (pss_one (ps_ret pe_bl))))))), ?_⟩
    cases b with
    | mi i =>
      have ev : v = .int i := hv
      subst ev
      refine ⟨_, rfl, rfl, _, rfl, if_t (w_mm i) ?_⟩
      refine ⟨_, rfl, _, _, rfl, rfl, _, rfl, ?_⟩
      by_cases c : 1 ≤ i
      · refine if_t (decide_eq_true c) ⟨_, _, rfl, rfl, ?_⟩
        refine kQ H _ (Grew.refl hP) ?_
        rw [decide_eq_true_eq]
        exact ⟨fun c2 => ⟨c, c2⟩, fun c2 => c2.2⟩
      · refine if_f (decide_eq_false c) ?_
        exact kQ H false (Grew.refl hP) ⟨fun e => Bool.noConfusion e, fun e => absurd e.1 c⟩
    | ki us =>
      obtain ⟨q, rfl, hq⟩ := hv
      refine ⟨_, rfl, rfl, _, rfl, if_f (w_km us) ?_⟩
      refine ⟨_, rfl, rfl, _, rfl, if_t (w_kk us) ?_⟩
      refine ⟨_, rfl, _, rfl, ki, rfl, ⟨_, SqT.of hki⟩, fun D nD => lc_tup (K := K) (a := ki) (xs := ks.map V.str) (fun j H' => Grew P H H' ∧ H' D = some (.lst (((ks.take j).filter fun k => decide (k ∈ us)).map V.str))) ⟨Grew.new hP nD, upd_same⟩ (fun j H' _ h => SqT.of (h.1.tup hP hki)) (fun j y H2 hj h => ?_) (fun H2 h => ?_)⟩
      · obtain ⟨g2, hD⟩ := h
        obtain ⟨z, hzi, rfl⟩ : ∃ z, ks[j]? = some z ∧ y = V.str z := by
          rw [List.getElem?_map] at hj
          obtain ⟨z, e1, e2⟩ := Option.map_eq_some_iff.mp hj
          exact ⟨z, e1, e2.symm⟩
        refine ⟨rfl, _, rfl, _, rfl, q, _, rfl, .inr (SqT.of (g2.tup hP hq)), rfl, flat_strs _, _, rfl, ?_⟩
        rw [inV_dec]
        have ft := filter_take' (p := fun k => decide (k ∈ us)) hzi
        by_cases c : z ∈ us
        · refine if_t (decide_eq_true c) ⟨_, rfl, _, hD, ?_, g2.write hD (fun _ z => by cases z) nD, ?_⟩
          · have q1 : ((ks.take j).filter fun k => decide (k ∈ us)).length ≤ (ks.take j).length := List.length_filter_le _ _
            rw [List.length_take] at q1
            rw [List.length_map, sizeLine_eq]
            omega
          · rw [upd_same, ft, if_pos (decide_eq_true c), List.map_append]
            rfl
        · refine if_f (decide_eq_false c) ⟨g2, ?_⟩
          rw [ft, if_neg (by rw [decide_eq_false c]; exact Bool.false_ne_true)]
          exact hD
      · obtain ⟨g2, hD⟩ := h
        rw [List.length_map, List.take_length] at hD
        refine ⟨D, _, rfl, .inl ⟨SqL.of hD, fun p np => ?_⟩⟩
        have g3 := g2.trans (Grew.new g2.tab (o := .tup ((ks.filter fun k => decide (k ∈ us)).map V.str)) np)
        have sub : ∀ z ∈ ks.filter (fun k => decide (k ∈ us)), z ∈ ks := fun z hz => (List.mem_filter.mp hz).1
        refine ⟨.tuple (us.map .str), .tuple ((ks.filter fun k => decide (k ∈ us)).map .str), .tup (SqT.of (g3.tup hP hq)) (dpAll_strs _), .tup (SqT.of upd_same) (dpAll_strs _), (lay_strs (all_nm hsm.2)).shaped (by decide), (lay_strs fun z hz => all_nm kn z (sub z hz)).shaped (by decide), ?_⟩
        refine kQ _ _ g3 ?_
        rw [eqv_iff _ _ (pl_strs _) (pl_strs _)]
        show _ ↔ us = ks.filter fun k => decide (k ∈ us)
        exact ⟨fun e => strs_inj (PyData.tuple.inj e), fun e => congrArg (fun l : List Str => PyData.tuple (l.map .str)) e⟩
    | ho hs =>
      refine ⟨_, rfl, rfl, _, rfl, if_f (w_hm hs) ?_⟩
      refine ⟨_, rfl, rfl, _, rfl, if_f (w_hk hs) ?_⟩
      refine ⟨1, rfl, ?_⟩
      cases hs with
      | none =>
        have ev : v = .non := hv
        subst ev
        refine ⟨_, rfl, _, rfl, iteT ?_⟩
        exact kQ H true (Grew.refl hP) ⟨fun _ gs e => (by cases e), fun _ => rfl⟩
      | some ps =>
        obtain ⟨l, xs, rfl, hS, hG⟩ := hv
        have hlen := Paired.len hG
        refine ⟨_, rfl, _, rfl, iteF ?_⟩
        refine ⟨_, rfl, l, rfl, ⟨_, hS⟩, for_tup (K := K) (a := l) (xs := xs) (fun i σ H' => H' = H ∧ hoursOk d (-1) (ps.take i) ∧ ∃ v, σ = [some (.int d), some (.ref ki), some (.str (Pt.word (.ho (some ps)))), some (.ref l), some (.int (lastOf (-1) ps i)), v, none])
          ⟨rfl, True.intro, none, rfl⟩ (fun i σ H' _ ⟨e, _⟩ => by rw [e]; exact hS) ?_ ?_⟩
        · rintro i y σ H' hi ⟨rfl, hok, v, rfl⟩
          obtain ⟨p, hp, t, rfl, hT⟩ := Paired.at hG hi
          have bad : ¬ (lastOf (-1) ps i < p.1 ∧ p.1 < p.2 ∧ p.2 ≤ d) → Q (.bl false) H' := fun hn => kQ H' false (Grew.refl hP) ⟨fun e => Bool.noConfusion e, fun e => absurd (hoursOk_at (e ps rfl) hp) hn⟩
          have e0 : atI [V.int p.1, V.int p.2] 0 = some (.int p.1) := rfl
          have e1 : atI [V.int p.1, V.int p.2] 1 = some (.int p.2) := rfl
          refine ⟨_, rfl, _, rfl, t, _, 0, _, rfl, rfl, hT, e0, _, _, rfl, rfl, _, rfl, ?_⟩
          by_cases o1 : lastOf (-1) ps i < p.1
          case neg => exact if_f (decide_eq_false o1) ⟨_, rfl, iteT (bad fun h => o1 h.1)⟩
          refine if_t (decide_eq_true o1) ⟨_, rfl, t, _, 1, _, rfl, rfl, hT, e1, _, _, rfl, rfl, _, rfl, ?_⟩
          by_cases o2 : p.1 < p.2
          case neg => exact if_f (decide_eq_false o2) ⟨_, rfl, iteT (bad fun h => o2 h.2.1)⟩
          refine if_t (decide_eq_true o2) ⟨_, rfl, _, _, rfl, rfl, _, rfl, ?_⟩
          by_cases o3 : p.2 ≤ d
          case neg =>
            rw [decide_eq_false o3]
            exact iteT (bad fun h => o3 h.2.2)
          rw [decide_eq_true o3]
          refine iteF ⟨_, rfl, t, _, 1, _, rfl, rfl, hT, e1, rfl, ?_, some (.ref t), ?_⟩
          · have tk : ps.take (i + 1) = ps.take i ++ [p] := by rw [List.take_succ, hp]; rfl
            rw [tk]
            exact hoursOk_snoc hok o1 o2 o3
          · rw [lastOf_succ hp]
            rfl
        · rintro σ H' ⟨rfl, hok, v, rfl⟩
          rw [← hlen, List.take_length] at hok
          exact kQ H' true (Grew.refl hP) ⟨fun _ gs e => by obtain rfl := Option.some.inj e; exact hok, fun _ => rfl⟩
end
end W

set_option Elab.async false
set_option linter.all false
set_option maxRecDepth 100000
set_option maxHeartbeats 1000000
/-! t + u, t[a:b] of tuples: one answer, whatever object it is -/
namespace CatB
open PySem PySem.Spec PyProof.Rows L2
def NewT (H H' : Hp) (p : Addr) (zs : List V) : Prop := (H' = H ∨ (H p = none ∧ H' = upd H p (.tup zs))) ∧ H' p = some (.tup zs)
def rCat : R2 := fun x y H Q => ∃ a b xs ys, x = .ref a ∧ y = .ref b ∧ H a = some (.tup xs) ∧ H b = some (.tup ys) ∧ xs.length + ys.length ≤ sizeLine ∧ ∀ H' p, NewT H H' p (xs ++ ys) → Q (.ref p) H'
theorem op_catB {X : Cx} : OpR X (binaryOp .Add) rCat := by
  intro pins s σ H x y v u Q I rx ry h
  obtain ⟨a, b, xs, ys, ex, ey, ha, hb, hz, k⟩ := h
  refine op_catA pins s σ H x y v u Q I rx ry ⟨a, b, xs, ys, ex, ey, SqT.of ha, SqT.of hb, hz, fun e => k H b ⟨.inl rfl, by rw [e]; exact hb⟩, fun _ e => k H a ⟨.inl rfl, by rw [e, List.append_nil]; exact ha⟩, fun _ _ p np => k _ p ⟨.inr ⟨np, rfl⟩, upd_same⟩⟩
theorem cut_whole {xs : List V} {lo hi : Option Int} (w : HT.sIx xs.length 0 lo = 0 ∧ HT.sIx xs.length xs.length hi = xs.length) : cutV xs lo hi = xs := by
  unfold cutV
  rw [w.1, w.2, List.drop_zero, Nat.sub_zero, List.take_length]
def rSl : V → Option Int → Option Int → Hp → VK → Prop := fun x lo hi H Q => ∃ a xs, x = .ref a ∧ H a = some (.tup xs) ∧ ∀ H' p, NewT H H' p (cutV xs lo hi) → Q (.ref p) H'
theorem sl_tupB {X : Cx} : SlR X rSl := by
  intro pins s σ H x v vl vu lo hi sl Q I rx hs pl pu h
  obtain ⟨a, xs, ex, ha, k⟩ := h
  exact sl_tupA pins s σ H x v vl vu lo hi sl Q I rx hs pl pu ⟨a, xs, ex, SqT.of ha, fun w => k H a ⟨.inl rfl, by rw [cut_whole w]; exact ha⟩, fun _ p np => k _ p ⟨.inr ⟨np, rfl⟩, upd_same⟩⟩
end CatB

set_option Elab.async false
set_option linter.all false
set_option maxRecDepth 100000
set_option maxHeartbeats 8000000
set_option exponentiation.threshold 2000
namespace W
open PySem PySem.Spec PyProof.Rows L2 GxR MyG MyS SqX
open CatB (NewT)
open MyH (rInDT rNotInDT op_inDT op_notInDT)
/-! ### _law_changed -/
abbrev sCh : Stmt := top 53
abbrev nCh : List Str := ["parts", "change", "day", "kinds", "places", "roads", "bars", "word", "names", "road", "bar", "spot", "place", "other"]
theorem scCh : FnScope nCh ["parts", "change"] (defScope sCh) := ⟨rfl, rfl, rfl, by decide +kernel, rfl, by decide +kernel, by decide +kernel⟩
theorem u65 {k : Nat} {A : Around} (h : Room k A) : A.units + 65 < cLine := by
  have := h.un
  omega
theorem eqV_str (a b : Str) : eqV (.str a) (.str b) = decide (a = b) := by by_cases h : a = b <;> simp [eqV, h]
theorem tst (a b : Str) (h : decide (a = b) = false) : decide (V.str a = V.str b) = false := by rw [dec_ww]; exact h
theorem tsy (a : Str) : decide (V.str a = V.str a) = true := decide_eq_true rfl
theorem newT_grew {P : Addr} {H H' : Hp} {p : Addr} {zs : List V} (n : NewT H H' p zs) (h : TabG H P) : Grew P H H' := by
  rcases n.1 with e | ⟨np, e⟩
  · rw [e]; exact Grew.refl h
  · rw [e]; exact Grew.new h np
theorem lay_roadsP {d : Int} {ks : List Str} {rs : List RoadD} (h : ∀ r ∈ rs, GoodR d ks r) (hk : ks.all isNm = true) : Lay 5 (.tuple (rs.map roadP)) := Lay.tuple fun e he => by
  obtain ⟨r, hr, rfl⟩ := List.mem_map.mp he
  exact (GoodR.txt (h r hr) hk).lay
theorem lay_barP {b : Str × Str} (h : isNm b.1 = true ∧ isNm b.2 = true) : Lay 2 (barP b) := Lay.tuple fun e he => by
  simp only [List.mem_cons, List.not_mem_nil, or_false] at he
  rcases he with rfl | rfl
  · exact Lay.str (nm_ok h.1)
  · exact Lay.str (nm_ok h.2)
theorem lay_barsP {bs : List (Str × Str)} (h : ∀ b ∈ bs, isNm b.1 = true ∧ isNm b.2 = true) : Lay 3 (.tuple (bs.map barP)) := Lay.tuple fun e he => by
  obtain ⟨b, hb, rfl⟩ := List.mem_map.mp he
  exact lay_barP (h b hb)
theorem SP.good {d : Int} {ks : List Str} {q : PT} (sp : SP d ks q) : ∀ r ∈ q.rs, GoodR d ks r := fun r hr => by
  have ok := sp.ok
  have o := ok.r.ok r hr
  exact ⟨List.all_eq_true.mp ok.r.nm _ (List.mem_map.mpr ⟨r, hr, rfl⟩), List.all_eq_true.mp ok.pn _ o.s, List.all_eq_true.mp ok.pn _ o.g, o.m1, o.m2, o.u, o.un, o.ud, sp.ua r hr, o.h⟩
theorem SP.bnm {d : Int} {ks : List Str} {q : PT} (sp : SP d ks q) : ∀ b ∈ q.bs, isNm b.1 = true ∧ isNm b.2 = true := fun b hb => by
  obtain ⟨r1, m1, r2, m2, e1, e2, _⟩ := sp.ok.b.ok b hb
  rw [e1, e2]
  exact ⟨(sp.good r1 m1).n, (sp.good r2 m2).n⟩
def spotsS : List Str := ["", "", "", "minutes", "kinds", "hours"]
theorem spot_at (a : Pt) : spotsS[a.spot]? = some a.word ∧ ∀ m, m < a.spot → spotsS[m]? ≠ some a.word := by
  cases a with
  | mi i => exact ⟨rfl, fun m hm => (show ∀ m, m < 3 → spotsS[m]? ≠ some (Str.ofString "minutes") by decide +kernel) m hm⟩
  | ki us => exact ⟨rfl, fun m hm => (show ∀ m, m < 4 → spotsS[m]? ≠ some (Str.ofString "kinds") by decide +kernel) m hm⟩
  | ho hs => exact ⟨rfl, fun m hm => (show ∀ m, m < 5 → spotsS[m]? ≠ some (Str.ofString "hours") by decide +kernel) m hm⟩
theorem cutV_sufL (xs : List V) (n : Nat) : cutV xs (some (n : Int)) none = xs.drop n := by
  unfold cutV
  have h : HT.sIx xs.length 0 (some (n : Int)) = min n xs.length := by
    show (if (n : Int) < 0 then ((n : Int) + (xs.length : Int)).toNat else min (n : Int).toNat xs.length) = _
    rw [if_neg (by omega), Int.toNat_natCast]
  rw [h, show HT.sIx xs.length xs.length none = xs.length from rfl]
  rcases Nat.le_total n xs.length with c | c
  · rw [Nat.min_eq_left c, List.take_of_length_le (by rw [List.length_drop]; exact Nat.le_refl _)]
  · rw [Nat.min_eq_right c, List.drop_of_length_le (Nat.le_refl _), List.drop_of_length_le c]
    simp
def spChanged (K : PySem.W.Frag) (P : Addr) : Sp := fun vs H Q _ => ∃ (p t : Addr) (d : Int) (ks : List Str) (q : PT) (c : Chg), vs = [.ref p, .ref t] ∧ PrtAt K H p d ks q ∧ SP d ks q ∧ ChgAt K H c (.ref t) ∧ ChgOk d ks c ∧ TabG H P ∧
  (∀ H' p' q', Grew P H H' → H p' = none → chg d ks q c = some q' → PrtAt K H' p' d ks q' → Q (.ref p') H') ∧ (chg d ks q c = none → ∀ H', Grew P H H' → Q .non H')
theorem outP_take {ps : List Str} {i : Nat} {a z : Str} (h : ps[i]? = some a) : outP z (ps.take (i + 1)) = if a = z then outP z (ps.take i) else outP z (ps.take i) ++ [a] := by
  unfold outP
  rw [filter_take h]
  by_cases e : a = z
  · rw [if_pos e, if_neg (by simp [e])]
  · rw [if_neg e, if_pos (by simp [e])]
theorem outR_take {rs : List RoadD} {i : Nat} {a z : RoadD} (h : rs[i]? = some a) : outR z (rs.take (i + 1)) = if a = z then outR z (rs.take i) else outR z (rs.take i) ++ [a] := by
  unfold outR
  rw [filter_take h]
  by_cases e : a = z
  · rw [if_pos e, if_neg (by simp [e])]
  · rw [if_neg e, if_pos (by simp [e])]
theorem outB_take {bs : List (Str × Str)} {i : Nat} {a z : Str × Str} (h : bs[i]? = some a) : outB z.1 z.2 (bs.take (i + 1)) = if a = z then outB z.1 z.2 (bs.take i) else outB z.1 z.2 (bs.take i) ++ [a] := by
  unfold outB
  rw [filter_take h]
  by_cases e : a = z
  · rw [if_pos e, if_neg (by simp [e])]
  · rw [if_neg e, if_pos (by simp [e])]
theorem at_name {rs : List RoadD} {n : Str} (h : n ∈ nmsR rs) : ∃ (j : Nat) (r : RoadD), rs[j]? = some r ∧ r.name = n ∧ (namesV rs)[j]? = some (.str n) ∧ ∀ m z, m < j → (namesV rs)[m]? = some z → eqV z (.str n) = false := by
  unfold nmsR at h
  induction rs with
  | nil => cases h
  | cons x l ih =>
    by_cases e : x.name = n
    · exact ⟨0, x, rfl, e, by rw [← e]; rfl, fun m z hm => absurd hm (Nat.not_lt_zero m)⟩
    · have h' : n ∈ l.map (·.name) := by
        rcases List.mem_cons.mp h with q | q
        · exact absurd q.symm e
        · exact q
      obtain ⟨j, r, h1, h2, h3, h4⟩ := ih h'
      refine ⟨j + 1, r, h1, h2, h3, fun m z hm hz => ?_⟩
      cases m with
      | zero =>
        have ez : V.str x.name = z := Option.some.inj hz
        rw [← ez]
        rw [eqV_str]
        exact decide_eq_false e
      | succ m => exact h4 m z (by omega) hz
theorem setR_at {rs : List RoadD} {j : Nat} {r : RoadD} (nd : (rs.map (·.name)).Nodup) (h : rs[j]? = some r) (b : Pt) : setR r.name b rs = rs.take j ++ [Pt.put r b] ++ rs.drop (j + 1) := by
  induction rs generalizing j with
  | nil => cases h
  | cons x l ih =>
    rw [List.map_cons] at nd
    obtain ⟨n1, n2⟩ := List.nodup_cons.mp nd
    cases j with
    | zero =>
      obtain rfl : x = r := Option.some.inj h
      have e : setR x.name b (x :: l) = (if x.name = x.name then Pt.put x b else x) :: setR x.name b l := rfl
      rw [e, if_pos rfl, setR_none fun y hy c => n1 (by rw [← c]; exact List.mem_map.mpr ⟨y, hy, rfl⟩)]
      rfl
    | succ j =>
      have h' : l[j]? = some r := h
      have hx : x.name ≠ r.name := fun c => n1 (by rw [c]; exact List.mem_map.mpr ⟨r, List.mem_of_getElem? h', rfl⟩)
      have e : setR r.name b (x :: l) = (if x.name = r.name then Pt.put x b else x) :: setR r.name b l := rfl
      rw [e, if_neg hx, ih n2 h']
      rfl
theorem paired_take {α β : Type} {F : α → β → Prop} : ∀ {l : List α} {m : List β} (j : Nat), Paired F l m → Paired F (l.take j) (m.take j)
  | _, _, 0, _ => .nil
  | _, _, _ + 1, .nil => .nil
  | _, _, j + 1, .cons a h => .cons a (paired_take j h)
theorem paired_drop {α β : Type} {F : α → β → Prop} : ∀ {l : List α} {m : List β} (j : Nat), Paired F l m → Paired F (l.drop j) (m.drop j)
  | _, _, 0, h => h
  | _, _, _ + 1, .nil => .nil
  | _, _, j + 1, .cons a h => paired_drop j h
theorem meets_at {d : Int} {ks : List Str} {q : PT} (h : PartsOk d ks q.ps q.rs q.bs) {b : Str × Str} {r1 r2 : RoadD} (m1 : r1 ∈ q.rs) (m2 : r2 ∈ q.rs) (e1 : r1.name = b.1) (e2 : r2.name = b.2) : Meets q.rs b ↔ r1.goal = r2.start := by
  constructor
  · rintro ⟨s1, n1, s2, n2, f1, f2, f3⟩
    rw [uniqN h.r.nd m1 n1 (e1.trans f1), uniqN h.r.nd m2 n2 (e2.trans f2)]
    exact f3
  · exact fun e => ⟨r1, m1, r2, m2, e1.symm, e2.symm, e⟩
theorem meets_names {rs : List RoadD} {b : Str × Str} (h : Meets rs b) : b.1 ∈ nmsR rs ∧ b.2 ∈ nmsR rs := by
  obtain ⟨r1, m1, r2, m2, e1, e2, _⟩ := h
  exact ⟨List.mem_map.mpr ⟨r1, m1, e1.symm⟩, List.mem_map.mpr ⟨r2, m2, e2.symm⟩⟩
theorem ptP_inj {a b : Pt} (s : SameK a b) (e : ptP a = ptP b) : a = b := by
  cases a <;> cases b <;> first | exact s.elim | skip
  · exact congrArg Pt.mi (PyData.int.inj e)
  · exact congrArg Pt.ki (strs_inj (PyData.tuple.inj e))
  · exact congrArg Pt.ho (hoursP_inj e)
section
variable {Pg : Program} {w : World} {K : PySem.W.Frag} {mg : Str → Option Value} {base : Heap} {C P : Addr}
theorem ok_changed {f fFi : Addr} {fd fdFi : FuncData} (F : Fun K "_law_changed" "_law_changed" sCh f fd) (hl : mg "len" = none) (hs : mg "sorted" = none) (ht : mg "tuple" = none) (han : mg "any" = none)
    (GFi : FnOk Pg w K mg base CX0 1 fFi fdFi ["day", "kinds", "word", "part"] (spFits K P)) (gFi : mg "_law_fits_road" = some (.ref fFi)) (kFi : PySem.W.keepIn K (.ref fFi) = true) (bFi : Binds K fdFi ["day", "kinds", "word", "part"] []) :
    FnOk Pg w K mg base CX0 2 f fd ["parts", "change"] (spChanged K P) := by
  refine F.ok scCh (fun vs H Q E h => ?_) (fun cdv A outer s H vs Q E hr h => ?_)
  · obtain ⟨p, t, d, ks, q, c, rfl, _⟩ := h
    rfl
  · obtain ⟨p, t, d, ks, q, c, rfl, hp0, sp, hc0, hok, hP, kS, kN⟩ := h
    refine ⟨_, (pss_cons (ps_asg (pv 0) (pg_lst (by rfl) (pgs_cons (pg_name (i := 2) scCh.nd rfl (Or.inl rfl)) (pgs_cons (pg_name (i := 3) scCh.nd rfl (Or.inl rfl)) (pgs_cons (pg_name (i := 4) scCh.nd rfl (Or.inl rfl)) (pgs_cons (pg_name (i := 5) scCh.nd rfl (Or.inl rfl)) (pgs_cons (pg_name (i := 6) scCh.nd rfl (Or.inl rfl)) pgs_nil)))))))
      (pss_cons (ps_set (i := 7) scCh.nd rfl (Or.inl rfl) (pe_ix (r := rIxT K) ix_tup (pv 1) pe_int (fun _ _ => rfl)))
      (C8.pss_cut (ps_setLc (i := 8) (own := [("road", 9)]) (g := (gName 9)) (tt := tYes) rfl scCh.nd rfl rfl (sw_true rfl rfl rfl (by decide +kernel)) (pi_tup (pv 5)) (blkOk_by (N := nCh) (sc := defScope sCh) (by decide +kernel)) (fun _ _ _ _ _ => pg_name (i := 9) scCh.nd rfl (Or.inl rfl)) (fun _ _ _ _ _ => pts_nil) (fun _ _ _ _ _ => (pe_ix (r := rIxT K) ix_tup (pv 9) pe_int (fun _ _ => rfl))))
      (pss_cons (ps_if (pt_cmpR op_eq (pv 7) pe_str (nomark _)) (pss_cons (ps_if (PW.pt (pw_or (pt_cmpR (r := rIn K false) op_in_seq (pe_ix (r := rIxT K) ix_tup (pv 1) pe_int (fun _ _ => rfl)) (pv 4) (by rfl)) (pw_or1 (pt_cmpR op_eq (pe_callB (r := rLenK K) call_len_seq (by rfl) hl PySem.boot_len (pa_cons (pv 4) pa_nil)) pe_int (nomark _))))) (pss_one (ps_ret pe_non))
        pss_nil)
      (pss_one (ps_ret (pe_lst (pa_cons (pv 2) (pa_cons (pv 3) (pa_cons (pe_callTy call_tuple_of (by rfl) ht (by decide +kernel) (pa_cons (pe_callB cr_sortSQ (by rfl) hs (by decide +kernel) (pa_cons (pe_op CatB.op_catB (pv 4) (pe_tup (pa_cons (pe_ix (r := rIxT K) ix_tup (pv 1) pe_int (fun _ _ => rfl)) pa_nil))) pa_nil)) pa_nil)) (pa_cons (pv 5) (pa_cons (pv 6) pa_nil)))))))))
        pss_nil)
      (pss_cons (ps_if (pt_cmpR op_eq (pv 7) pe_str (nomark _)) (pss_cons (ps_if (PW.pt (pw_or (pt_cmpR (r := rIn K true) op_notIn_seq (pe_ix (r := rIxT K) ix_tup (pv 1) pe_int (fun _ _ => rfl)) (pv 4) (by rfl)) (pw_or1 (pt_val (pe_callB (cr_any rfl) (by rfl) han (by decide +kernel) (pa_cons (pe_lc (own := [("road", 9)]) (g := (gName 9)) (tt := tYes) rfl scCh.nd (pi_tup (pv 5)) (blkOk_by (N := nCh) (sc := defScope sCh) (by decide +kernel)) (fun _ _ _ _ _ => pg_name (i := 9) scCh.nd rfl (Or.inl rfl)) (fun _ _ _ _ _ => pts_nil) (fun _ _ _ _ _ => (pe_cmpR (r := rIn K false) op_in_seq (pe_ix (r := rIxT K) ix_tup (pv 1) pe_int (fun _ _ => rfl)) (pe_slice CatB.sl_tupB (pv 9) (po_some pe_int) (po_some pe_int)) (by rfl)))) pa_nil)))))) (pss_one (ps_ret pe_non))
        pss_nil)
      (pss_one (ps_ret (pe_lst (pa_cons (pv 2) (pa_cons (pv 3) (pa_cons (pe_callTy call_tuple_of (by rfl) ht (by decide +kernel) (pa_cons (pe_lc (own := [("place", 12)]) (g := (gName 12)) rfl scCh.nd (pi_tup (pv 4)) (blkOk_by (N := nCh) (sc := defScope sCh) (by decide +kernel)) (fun _ _ _ _ _ => pg_name (i := 12) scCh.nd rfl (Or.inl rfl)) (fun _ _ _ _ _ => pts_one (pt_cmpR op_ne (pv 12) (pe_ix (r := rIxT K) ix_tup (pv 1) pe_int (fun _ _ => rfl)) (nomark _))) (fun _ _ _ _ _ => (pv 12))) pa_nil)) (pa_cons (pv 5) (pa_cons (pv 6) pa_nil)))))))))
        pss_nil)
      (pss_cons (ps_if (pt_cmpR op_eq (pv 7) pe_str (nomark _)) (pss_cons (ps_set (i := 9) scCh.nd rfl (Or.inl rfl) (pe_ix (r := rIxT K) ix_tup (pv 1) pe_int (fun _ _ => rfl)))
      (pss_cons (ps_if (PW.pt (pw_or (pt_cmpR (r := rIn K false) op_in_seq (pe_ix (r := rIxT K) ix_tup (pv 9) pe_int (fun _ _ => rfl)) (pv 8) (by rfl)) (pw_or (pt_cmpR op_eq (pe_callB (r := rLenK K) call_len_seq (by rfl) hl PySem.boot_len (pa_cons (pv 5) pa_nil)) pe_int (nomark _)) (pw_or (pt_cmpR (r := rIn K true) op_notIn_seq (pe_ix (r := rIxT K) ix_tup (pv 9) pe_int (fun _ _ => rfl)) (pv 4) (by rfl)) (pw_or1 (pt_cmpR (r := rIn K true) op_notIn_seq (pe_ix (r := rIxT K) ix_tup (pv 9) pe_int (fun _ _ => rfl)) (pv 4) (by rfl))))))) (pss_one (ps_ret pe_non))
        pss_nil)
      (pss_one (ps_ret (pe_lst (pa_cons (pv 2) (pa_cons (pv 3) (pa_cons (pv 4) (pa_cons (pe_callTy call_tuple_of (by rfl) ht (by decide +kernel) (pa_cons (pe_callB cr_sortRQ (by rfl) hs (by decide +kernel) (pa_cons (pe_op CatB.op_catB (pv 5) (pe_tup (pa_cons (pv 9) pa_nil))) pa_nil)) pa_nil)) (pa_cons (pv 6) pa_nil))))))))))
        pss_nil)
      (pss_cons (ps_if (pt_cmpR op_eq (pv 7) pe_str (nomark _)) (pss_cons (ps_if (PW.pt (pw_or (pt_cmpR (r := rNotInDT K) (op_notInDT (u65 hr)) (pe_ix (r := rIxT K) ix_tup (pv 1) pe_int (fun _ _ => rfl)) (pv 5) (by rfl)) (pw_or1 (pt_val (pe_callB (cr_any rfl) (by rfl) han (by decide +kernel) (pa_cons (pe_lc (own := [("bar", 10)]) (g := (gName 10)) (tt := tYes) rfl scCh.nd (pi_tup (pv 6)) (blkOk_by (N := nCh) (sc := defScope sCh) (by decide +kernel)) (fun _ _ _ _ _ => pg_name (i := 10) scCh.nd rfl (Or.inl rfl)) (fun _ _ _ _ _ => pts_nil) (fun _ _ _ _ _ => (pe_cmpR (r := rIn K false) op_in_seq (pe_ix (r := rIxT K) ix_tup (pe_ix (r := rIxT K) ix_tup (pv 1) pe_int (fun _ _ => rfl)) pe_int (fun _ _ => rfl)) (pv 10) (by rfl)))) pa_nil)))))) (pss_one (ps_ret pe_non))
        pss_nil)
      (pss_one (ps_ret (pe_lst (pa_cons (pv 2) (pa_cons (pv 3) (pa_cons (pv 4) (pa_cons (pe_callTy call_tuple_of (by rfl) ht (by decide +kernel) (pa_cons (pe_lc (own := [("road", 9)]) (g := (gName 9)) rfl scCh.nd (pi_tup (pv 5)) (blkOk_by (N := nCh) (sc := defScope sCh) (by decide +kernel)) (fun _ _ _ _ _ => pg_name (i := 9) scCh.nd rfl (Or.inl rfl)) (fun _ _ _ _ _ => pts_one (pt_cmpR (r := rNeD K) (op_neD hr.units) (pv 9) (pe_ix (r := rIxT K) ix_tup (pv 1) pe_int (fun _ _ => rfl)) (nomark _))) (fun _ _ _ _ _ => (pv 9))) pa_nil)) (pa_cons (pv 6) pa_nil)))))))))
        pss_nil)
      (pss_cons (ps_if (PW.pt (pw_or (pt_cmpR op_eq (pv 7) pe_str (nomark _)) (pw_or1 (pt_cmpR op_eq (pv 7) pe_str (nomark _))))) (pss_cons (ps_set (i := 10) scCh.nd rfl (Or.inr rfl) (pe_slice CatB.sl_tupB (pv 1) (po_some pe_int) po_none))
      (pss_cons (ps_if (pt_cmpR op_ne (pe_cmpR (r := rInDT K) (op_inDT (u65 hr)) (pv 10) (pv 6) (by rfl)) (pe_cmpR op_eq (pv 7) pe_str (nomark _)) (nomark _)) (pss_one (ps_ret pe_non))
        pss_nil)
      (pss_cons (ps_if (pt_cmpR op_eq (pv 7) pe_str (nomark _)) (pss_one (ps_ret (pe_lst (pa_cons (pv 2) (pa_cons (pv 3) (pa_cons (pv 4) (pa_cons (pv 5) (pa_cons (pe_callTy call_tuple_of (by rfl) ht (by decide +kernel) (pa_cons (pe_lc (own := [("other", 13)]) (g := (gName 13)) rfl scCh.nd (pi_tup (pv 6)) (blkOk_by (N := nCh) (sc := defScope sCh) (by decide +kernel)) (fun _ _ _ _ _ => pg_name (i := 13) scCh.nd rfl (Or.inl rfl)) (fun _ _ _ _ _ => pts_one (pt_cmpR (r := rNeD K) (op_neD hr.units) (pv 13) (pv 10) (nomark _))) (fun _ _ _ _ _ => (pv 13))) pa_nil)) pa_nil))))))))
        pss_nil)
      (pss_cons (ps_if (PW.pt (pw_or (pt_cmpR (r := rIn K true) op_notIn_seq (pe_ix (r := rIxT K) ix_tup (pv 10) pe_int (fun _ _ => rfl)) (pv 8) (by rfl)) (pw_or (pt_cmpR (r := rIn K true) op_notIn_seq (pe_ix (r := rIxT K) ix_tup (pv 10) pe_int (fun _ _ => rfl)) (pv 8) (by rfl)) (pw_or1 (pt_cmpR op_eq (pe_callB (r := rLenK K) call_len_seq (by rfl) hl PySem.boot_len (pa_cons (pv 6) pa_nil)) pe_int (nomark _)))))) (pss_one (ps_ret pe_non))
        pss_nil)
      (pss_cons (ps_if (pt_cmpR op_ne (pe_ix (r := rIxT K) ix_tup (pe_ix (r := rIxT K) ix_tup (pv 5) (pe_bm PySem.F.plainAttrs_list PySem.F.slot_list_index PySem.F.type_list_index mt_index (pv 8) (pa_cons (pe_ix (r := rIxT K) ix_tup (pv 10) pe_int (fun _ _ => rfl)) pa_nil)) (fun _ _ => rfl)) pe_int (fun _ _ => rfl)) (pe_ix (r := rIxT K) ix_tup (pe_ix (r := rIxT K) ix_tup (pv 5) (pe_bm PySem.F.plainAttrs_list PySem.F.slot_list_index PySem.F.type_list_index mt_index (pv 8) (pa_cons (pe_ix (r := rIxT K) ix_tup (pv 10) pe_int (fun _ _ => rfl)) pa_nil)) (fun _ _ => rfl)) pe_int (fun _ _ => rfl)) (nomark _)) (pss_one (ps_ret pe_non))
        pss_nil)
      (pss_one (ps_ret (pe_lst (pa_cons (pv 2) (pa_cons (pv 3) (pa_cons (pv 4) (pa_cons (pv 5) (pa_cons (pe_callTy call_tuple_of (by rfl) ht (by decide +kernel) (pa_cons (pe_callB cr_sortBQ (by rfl) hs (by decide +kernel) (pa_cons (pe_op CatB.op_catB (pv 6) (pe_tup (pa_cons (pv 10) pa_nil))) pa_nil)) pa_nil)) pa_nil)))))))))))))
        pss_nil)
      (pss_cons (ps_set (i := 11) scCh.nd rfl (Or.inl rfl) (TpF.pe_bmF PySem.F.plainAttrs_tuple PySem.F.slot_tuple_index PySem.F.type_tuple_index mt_tup_index (TpF.pe_tupF (pa_cons pe_str (pa_cons pe_str (pa_cons pe_str (pa_cons pe_str (pa_cons pe_str (pa_cons pe_str pa_nil))))))) (pa_cons (pv 7) pa_nil)))
      (pss_cons (ps_if (pt_cmpR (r := rIn K true) op_notIn_seq (pe_ix (r := rIxT K) ix_tup (pv 1) pe_int (fun _ _ => rfl)) (pv 8) (by rfl)) (pss_one (ps_ret pe_non))
        pss_nil)
      (pss_cons (ps_set (i := 12) scCh.nd rfl (Or.inl rfl) (pe_bm PySem.F.plainAttrs_list PySem.F.slot_list_index PySem.F.type_list_index mt_index (pv 8) (pa_cons (pe_ix (r := rIxT K) ix_tup (pv 1) pe_int (fun _ _ => rfl)) pa_nil)))
      (pss_cons (ps_if (PW.pt (pw_or (pt_cmpR (r := rNeD K) (op_neD hr.units) (pe_ix (r := rIxT K) ix_tup (pe_ix (r := rIxT K) ix_tup (pv 5) (pv 12) (fun _ _ => rfl)) (pv 11) (fun _ _ => rfl)) (pe_ix (r := rIxT K) ix_tup (pv 1) pe_int (fun _ _ => rfl)) (nomark _)) (pw_or1 (pt_cmpR (r := rEqD K) (op_eqD hr.units) (pe_ix (r := rIxT K) ix_tup (pv 1) pe_int (fun _ _ => rfl)) (pe_ix (r := rIxT K) ix_tup (pv 1) pe_int (fun _ _ => rfl)) (nomark _))))) (pss_one (ps_ret pe_non))
        pss_nil)
      (pss_cons (ps_if (pt_not (pt_val (pe_call GFi (hr.mono (by decide)) (by rfl) gFi kFi bFi .nil pass0 (pa_cons (pv 2) (pa_cons (pv 3) (pa_cons (pv 7) (pa_cons (pe_ix (r := rIxT K) ix_tup (pv 1) pe_int (fun _ _ => rfl)) pa_nil))))))) (pss_one (ps_ret pe_non))
        pss_nil)
      (pss_cons (ps_set (i := 9) scCh.nd rfl (Or.inl rfl) (pe_op CatB.op_catB (pe_op CatB.op_catB (pe_slice CatB.sl_tupB (pe_ix (r := rIxT K) ix_tup (pv 5) (pv 12) (fun _ _ => rfl)) po_none (po_some (pv 11))) (pe_tup (pa_cons (pe_ix (r := rIxT K) ix_tup (pv 1) pe_int (fun _ _ => rfl)) pa_nil))) (pe_slice CatB.sl_tupB (pe_ix (r := rIxT K) ix_tup (pv 5) (pv 12) (fun _ _ => rfl)) (po_some (pe_op op_add (pv 11) pe_int)) po_none)))
      (pss_one (ps_ret (pe_lst (pa_cons (pv 2) (pa_cons (pv 3) (pa_cons (pv 4) (pa_cons (pe_op CatB.op_catB (pe_op CatB.op_catB (pe_slice CatB.sl_tupB (pv 5) po_none (po_some (pv 12))) (pe_tup (pa_cons (pv 9) pa_nil))) (pe_slice CatB.sl_tupB (pv 5) (po_some (pe_op op_add (pv 12) pe_int)) po_none)) (pa_cons (pv 6) pa_nil)))))))))))))))))))))), ?_⟩
    obtain ⟨ki, pl, ro, ba, xs, zs, hp, hki, hpl, hro, hrs, hba, hzs⟩ := id hp0
    have ok := sp.ok
    have lx := Paired.len hrs
    have lz := Paired.len hzs
    have l60 := ok.r.len
    have l40 := ok.b.len
    have l4 := ok.k2
    have l30 := ok.p2
    have good := sp.good
    have bnm := sp.bnm
    obtain ⟨t', tl, et0, ht, htl⟩ := id hc0
    obtain rfl : t = t' := V.ref.inj et0
    refine ⟨_, rfl, p, _, rfl, SqL.of hp, rfl, _, _, rfl, _, _, rfl, _, _, rfl, _, _, rfl, _, _, rfl, rfl, ?_⟩
    refine ⟨_, rfl, t, _, 0, _, rfl, rfl, SqT.of ht, atI_nat (xs := V.str c.word :: tl) (j := 0) (v := V.str c.word) rfl, ?_⟩
    refine ⟨fun σ H' => ∃ D : Addr, σ = [some (.ref p), some (.ref t), some (.int d), some (.ref ki), some (.ref pl), some (.ref ro), some (.ref ba), some (.str c.word), some (.ref D), none, none, none, none, none] ∧ Grew P H H' ∧ H' D = some (.lst (namesV q.rs)), ?_, ?_⟩
    · refine ⟨_, rfl, ro, rfl, ⟨_, SqT.of hro⟩, fun D nD => lc_tup (K := K) (a := ro) (xs := xs) (fun j H' => Grew P H H' ∧ H' D = some (.lst (namesV (q.rs.take j)))) ⟨Grew.new hP nD, upd_same⟩ (fun j H' _ h => SqT.of (h.1.tup hP hro)) (fun j v H2 hj h => ?_) (fun H2 h => ?_)⟩
      · obtain ⟨g2, hD⟩ := h
        obtain ⟨r, hr1, hm⟩ := Paired.at hrs hj
        obtain ⟨tr, u, hh, rfl, et, _, _⟩ := hm.grew g2 hP
        refine ⟨rfl, _, rfl, tr, _, 0, _, rfl, rfl, SqT.of et, rfl, _, hD, ?_, g2.write hD (fun _ z => by cases z) nD, ?_⟩
        · have q1 := namesV_len (q.rs.take j)
          rw [List.length_take] at q1
          rw [sizeLine_eq]
          omega
        · rw [upd_same, namesV_take hr1]
      · obtain ⟨g2, hD⟩ := h
        rw [← lx, List.take_length] at hD
        exact ⟨D, rfl, g2, hD⟩
    rintro σ H2 ⟨D, rfl, g2, hD⟩
    have hki2 := g2.tup hP hki
    have hpl2 := g2.tup hP hpl
    have hro2 := g2.tup hP hro
    have hba2 := g2.tup hP hba
    have ht2 := g2.tup hP ht
    have htl2 := htl.grew g2 hP
    have hrs2 : Paired (RoadAt K H2) q.rs xs := Paired.map' hrs fun _ _ m => m.grew g2 hP
    have hzs2 : Paired (GBar H2) q.bs zs := Paired.map' hzs fun _ _ m => m.grew g2 hP
    have t2 := g2.tab
    have kN2 : chg d ks q c = none → ∀ H', Grew P H2 H' → Q .non H' := fun e H' g => kN e H' (g2.trans g)
    have kS2 : ∀ (H' : Hp) (pl' ro' ba' : Addr) (q' : PT) (xs' zs' : List V), Grew P H2 H' → H' pl' = some (.tup (q'.ps.map V.str)) → H' ro' = some (.tup xs') → Paired (RoadAt K H') q'.rs xs' → H' ba' = some (.tup zs') → Paired (GBar H') q'.bs zs' → chg d ks q c = some q' → ∀ R, H' R = none → Q (.ref R) (L2.upd H' R (.lst [.int d, .ref ki, .ref pl', .ref ro', .ref ba'])) := fun H' pl' ro' ba' q' xs' zs' g h1 h2 h3 h4 h5 e R nR => by
      have gR := Grew.new g.tab (o := .lst [.int d, .ref ki, .ref pl', .ref ro', .ref ba']) nR
      exact kS _ R q' (g2.trans (g.trans gR)) ((g2.trans g).free nR) e ⟨ki, pl', ro', ba', xs', zs', upd_same, gR.tup g.tab (g.tup t2 hki2), gR.tup g.tab h1, gR.tup g.tab h2, Paired.map' h3 fun _ _ m => m.grew gR g.tab, gR.tup g.tab h4, Paired.map' h5 fun _ _ m => m.grew gR g.tab⟩
    have hnl : (namesV q.rs).length ≤ 60 := Nat.le_trans (namesV_len _) l60
    have nin : ∀ z : Str, inV (.str z) (namesV q.rs) = decide (z ∈ nmsR q.rs) := fun z => inV_dec z _
    have fnm : (namesV q.rs).all flatV = true := by
      unfold namesV
      exact flat_strs _
    clear kS kN
    cases c with
    | place up z =>
      have hz : isNm z = true := hok
      have e2 : tl = [.str z] := htl
      subst e2
      cases up with
      | true =>
        refine ⟨_, rfl, rfl, _, rfl, if_t (tsy "place") ?_⟩
        refine ⟨_, rfl, t, _, 1, _, rfl, rfl, SqT.of ht2, rfl, _, rfl, pl, _, rfl, .inr (SqT.of hpl2), rfl, flat_strs _, _, rfl, ?_⟩
        rw [inV_dec]
        by_cases c1 : z ∈ q.ps
        · refine if_t (decide_eq_true c1) ?_
          exact kN2 (by simp only [chg]; exact if_pos (.inl c1)) H2 (Grew.refl t2)
        refine if_f (decide_eq_false c1) ?_
        refine ⟨_, rfl, pl, _, rfl, .inr (SqT.of hpl2), rfl, _, rfl, ?_⟩
        by_cases c2 : q.ps.length = 30
        · refine if_t (decide_eq_true (by rw [List.length_map, c2]; rfl)) ?_
          exact kN2 (by simp only [chg]; exact if_pos (.inr c2)) H2 (Grew.refl t2)
        refine if_f (decide_eq_false (fun e => c2 (by have := V.int.inj e; rw [List.length_map] at this; omega))) ?_
        refine ⟨_, rfl, _, rfl, _, rfl, _, rfl, t, _, 1, _, rfl, rfl, SqT.of ht2, rfl, (show 1 ≤ sizeLine by decide), fun A1 a1 => ?_⟩
        have gA := Grew.new t2 (o := .tup [V.str z]) a1
        refine ⟨pl, A1, _, _, rfl, rfl, gA.tup t2 hpl2, upd_same, (by rw [List.length_map, sizeLine_eq]; show _ + 1 ≤ _; omega), fun H3 A2 n3 => ?_⟩
        have g3 := newT_grew n3 gA.tab
        have g23 := gA.trans g3
        refine ⟨A2, q.ps ++ [z], rfl, .inr (SqT.of (by rw [List.map_append]; exact n3.2)), fun ys A3 pm asc m3 => ⟨A3, _, rfl, .inl ⟨SqL.of upd_same, fun A4 m4 => ?_⟩⟩⟩
        have g4 := Grew.new g23.tab (o := .lst (ys.map V.str)) m3
        have g5 := Grew.new g4.tab (o := .tup (ys.map V.str)) m4
        have G := g23.trans (g4.trans g5)
        refine ⟨_, rfl, _, rfl, (show 5 ≤ sizeLine by decide), fun R nR => ?_⟩
        exact kS2 _ A4 ro ba ⟨ys, q.rs, q.bs⟩ xs zs G upd_same (G.tup t2 hro2) (Paired.map' hrs2 fun _ _ m => m.grew G t2) (G.tup t2 hba2) (Paired.map' hzs2 fun _ _ m => m.grew G t2) (by simp only [chg]; rw [if_neg (fun h => h.elim c1 c2), srtS_eq pm asc]) R nR
      | false =>
        refine ⟨_, rfl, rfl, _, rfl, if_f (tst "unplace" "place" (by decide +kernel)) ?_⟩
        refine ⟨_, rfl, rfl, _, rfl, if_t (tsy "unplace") ?_⟩
        refine ⟨_, rfl, t, _, 1, _, rfl, rfl, SqT.of ht2, rfl, _, rfl, pl, _, rfl, .inr (SqT.of hpl2), rfl, flat_strs _, _, rfl, ?_⟩
        rw [inV_dec]
        by_cases c1 : z ∈ q.ps
        case neg =>
          refine if_t (by rw [decide_eq_false c1]; rfl) ?_
          exact kN2 (by simp only [chg]; exact if_pos (.inl c1)) H2 (Grew.refl t2)
        refine if_f (by rw [decide_eq_true c1]; rfl) ?_
        refine ⟨_, rfl, ro, rfl, ⟨_, SqT.of hro2⟩, fun E1 m1 => lc_tup (K := K) (a := ro) (xs := xs) (fun j H' => Grew P H2 H' ∧ H' E1 = some (.lst (((q.rs.take j).map fun r => decide (z ∈ [r.start, r.goal])).map V.bl))) ⟨Grew.new t2 m1, upd_same⟩ (fun j H' _ h => SqT.of (h.1.tup t2 hro2)) (fun j v H3 hj h => ?_) (fun H3 h => ?_)⟩
        · obtain ⟨g3, hE⟩ := h
          obtain ⟨r, hr1, hm⟩ := Paired.at hrs2 hj
          obtain ⟨tr, u, hh, rfl, et, _, _⟩ := hm.grew g3 t2
          have tk : q.rs.take (j + 1) = q.rs.take j ++ [r] := by rw [List.take_succ, hr1]; rfl
          refine ⟨rfl, _, rfl, t, _, 1, _, rfl, rfl, SqT.of (g3.tup t2 ht2), rfl, _, rfl, _, rfl, _, rfl, tr, _, rfl, et, fun H4 A1 n4 => ?_⟩
          have g4 := newT_grew n4 g3.tab
          have hA1 : H4 A1 = some (.tup (([r.start, r.goal] : List Str).map V.str)) := n4.2
          refine ⟨A1, _, rfl, .inr (SqT.of hA1), rfl, flat_strs _, ?_⟩
          rw [inV_dec]
          have hE4 := g4.lst g3.tab hE
          refine ⟨_, hE4, by rw [List.length_map, List.length_map, List.length_take, sizeLine_eq]; omega, (g3.trans g4).write hE4 (fun _ z => by cases z) m1, ?_⟩
          rw [upd_same, tk, List.map_append, List.map_append]
          rfl
        · obtain ⟨g3, hE⟩ := h
          rw [← lx, List.take_length] at hE
          refine ⟨E1, _, rfl, SqL.of hE, _, rfl, ?_⟩
          have ha : ((q.rs.map fun r => decide (z ∈ [r.start, r.goal])).any id) = true ↔ ∃ r ∈ q.rs, z = r.start ∨ z = r.goal := by
            rw [List.any_eq_true]
            constructor
            · rintro ⟨b, hb, e⟩
              obtain ⟨r, hr, rfl⟩ := List.mem_map.mp hb
              have e' := of_decide_eq_true (show decide (z ∈ [r.start, r.goal]) = true from e)
              simp only [List.mem_cons, List.not_mem_nil, or_false] at e'
              exact ⟨r, hr, e'⟩
            · rintro ⟨r, hr, e⟩
              exact ⟨true, List.mem_map.mpr ⟨r, hr, decide_eq_true (by simpa using e)⟩, rfl⟩
          by_cases c2 : ∃ r ∈ q.rs, z = r.start ∨ z = r.goal
          · refine if_t (ha.mpr c2) ?_
            exact kN2 (by simp only [chg]; exact if_pos (.inr c2)) H3 g3
          refine if_f (Bool.eq_false_iff.mpr fun e => c2 (ha.mp e)) ?_
          refine ⟨_, rfl, _, rfl, _, rfl, pl, rfl, ⟨_, SqT.of (g3.tup t2 hpl2)⟩, fun E2 m2 => lc_tup (K := K) (a := pl) (xs := q.ps.map V.str) (fun j H' => Grew P H3 H' ∧ H' E2 = some (.lst ((outP z (q.ps.take j)).map V.str))) ⟨Grew.new g3.tab m2, upd_same⟩ (fun j H' _ h => SqT.of ((g3.trans h.1).tup t2 hpl2)) (fun j v H4 hj h => ?_) (fun H4 h => ?_)⟩
          · obtain ⟨g4, hE2⟩ := h
            obtain ⟨y, hy, rfl⟩ : ∃ y, q.ps[j]? = some y ∧ v = V.str y := by
              rw [List.getElem?_map] at hj
              obtain ⟨z, e1, e2⟩ := Option.map_eq_some_iff.mp hj
              exact ⟨z, e1, e2.symm⟩
            refine ⟨rfl, _, rfl, _, rfl, t, _, 1, _, rfl, rfl, SqT.of ((g3.trans g4).tup t2 ht2), rfl, rfl, _, rfl, ?_⟩
            have tk := outP_take (z := z) hy
            by_cases c3 : y = z
            · rw [if_pos c3] at tk
              exact if_f (by rw [c3]; simp) ⟨g4, by rw [tk]; exact hE2⟩
            · rw [if_neg c3] at tk
              refine if_t (by rw [decide_eq_false fun e => c3 (V.str.inj e)]; rfl) ⟨_, rfl, _, hE2, ?_, g4.write hE2 (fun _ z => by cases z) m2, ?_⟩
              · have q1 : (outP z (q.ps.take j)).length ≤ (q.ps.take j).length := List.length_filter_le _ _
                rw [List.length_take] at q1
                rw [List.length_map, sizeLine_eq]
                omega
              · rw [upd_same, tk, List.map_append]
                rfl
          · obtain ⟨g4, hE2⟩ := h
            rw [List.length_map, List.take_length] at hE2
            refine ⟨E2, _, rfl, .inl ⟨SqL.of hE2, fun A4 m4 => ?_⟩⟩
            have g34 := g3.trans g4
            have g5 := Grew.new g34.tab (o := .tup ((outP z q.ps).map V.str)) m4
            have G := g34.trans g5
            refine ⟨_, rfl, _, rfl, (show 5 ≤ sizeLine by decide), fun R nR => ?_⟩
            exact kS2 _ A4 ro ba ⟨outP z q.ps, q.rs, q.bs⟩ xs zs G upd_same (G.tup t2 hro2) (Paired.map' hrs2 fun _ _ m => m.grew G t2) (G.tup t2 hba2) (Paired.map' hzs2 fun _ _ m => m.grew G t2) (by simp only [chg]; rw [if_neg (fun h => h.elim (fun n => n c1) c2)]) R nR
    | road up r =>
      have gr : GoodR d ks r := hok
      obtain ⟨vr, e2, hm0⟩ := htl2
      subst e2
      have hm := hm0
      obtain ⟨tr, u, hh, rfl, et, eu, eh⟩ := hm0
      cases up with
      | true =>
        refine ⟨_, rfl, rfl, _, rfl, if_f (tst "road" "place" (by decide +kernel)) ?_⟩
        refine ⟨_, rfl, rfl, _, rfl, if_f (tst "road" "unplace" (by decide +kernel)) ?_⟩
        refine ⟨_, rfl, rfl, _, rfl, if_t (tsy "road") ?_⟩
        refine ⟨_, rfl, t, _, 1, _, rfl, rfl, SqT.of ht2, rfl, ?_⟩
        refine ⟨_, rfl, tr, _, 0, _, rfl, rfl, SqT.of et, rfl, _, rfl, D, _, rfl, .inl (SqL.of hD), rfl, fnm, _, rfl, ?_⟩
        rw [nin]
        by_cases c1 : r.name ∈ nmsR q.rs
        · refine if_t (decide_eq_true c1) ?_
          exact kN2 (by simp only [chg]; exact if_pos (.inl c1)) H2 (Grew.refl t2)
        refine if_f (decide_eq_false c1) ?_
        refine ⟨_, rfl, ro, _, rfl, .inr (SqT.of hro2), rfl, _, rfl, ?_⟩
        by_cases c2 : q.rs.length = 60
        · refine if_t (decide_eq_true (by rw [← lx, c2]; rfl)) ?_
          exact kN2 (by simp only [chg]; exact if_pos (.inr (.inl c2))) H2 (Grew.refl t2)
        refine if_f (decide_eq_false (fun e => c2 (by have := V.int.inj e; omega))) ?_
        refine ⟨_, rfl, tr, _, 1, _, rfl, rfl, SqT.of et, rfl, _, rfl, pl, _, rfl, .inr (SqT.of hpl2), rfl, flat_strs _, _, rfl, ?_⟩
        rw [inV_dec]
        by_cases c3 : r.start ∈ q.ps
        case neg =>
          refine if_t (by rw [decide_eq_false c3]; rfl) ?_
          exact kN2 (by simp only [chg]; exact if_pos (.inr (.inr (.inl c3)))) H2 (Grew.refl t2)
        refine if_f (by rw [decide_eq_true c3]; rfl) ?_
        refine ⟨_, rfl, tr, _, 2, _, rfl, rfl, SqT.of et, rfl, _, rfl, pl, _, rfl, .inr (SqT.of hpl2), rfl, flat_strs _, _, rfl, ?_⟩
        rw [inV_dec]
        by_cases c4 : r.goal ∈ q.ps
        case neg =>
          refine if_t (by rw [decide_eq_false c4]; rfl) ?_
          exact kN2 (by simp only [chg]; exact if_pos (.inr (.inr (.inr c4)))) H2 (Grew.refl t2)
        refine if_f (by rw [decide_eq_true c4]; rfl) ?_
        refine ⟨_, rfl, _, rfl, _, rfl, _, rfl, _, rfl, (show 1 ≤ sizeLine by decide), fun A1 a1 => ?_⟩
        have gA := Grew.new t2 (o := .tup [V.ref tr]) a1
        refine ⟨ro, A1, _, _, rfl, rfl, gA.tup t2 hro2, upd_same, (by rw [sizeLine_eq]; show _ + 1 ≤ _; omega), fun H3 A2 n3 => ?_⟩
        have g3 := newT_grew n3 gA.tab
        have g23 := gA.trans g3
        have hall : Paired (RoadAt K H3) (q.rs ++ [r]) (xs ++ [V.ref tr]) := Paired.snoc (Paired.map' hrs2 fun _ _ m => m.grew g23 t2) (hm.grew g23 t2)
        have ndn : ((q.rs ++ [r]).map (·.name)).Nodup := by
          rw [List.map_append]
          exact List.nodup_append.mpr ⟨ok.r.nd, List.nodup_cons.mpr ⟨by simp, List.nodup_nil⟩, fun a ha b hb e => c1 (by rw [show r.name = b from (List.mem_singleton.mp hb).symm, ← e]; exact ha)⟩
        refine ⟨A2, xs ++ [V.ref tr], nameAt H3, rfl, .inr (SqT.of n3.2), fun x hx => ?_, fun x hx y hy e => Paired.inj hall ndn hx hy fun r r' m m' => by rw [← m.name, ← m'.name]; exact e, fun ys A3 hpm hso m3 => ⟨A3, _, rfl, .inl ⟨SqL.of upd_same, fun A4 m4 => ?_⟩⟩⟩
        · obtain ⟨r, _, m⟩ := Paired.mem hall hx
          have nm := m.name
          obtain ⟨p, q, hv, e, e1, _⟩ := m
          exact ⟨p, _, e, by rw [nm]; exact SqT.of e1⟩
        · obtain ⟨rs', pm, hr'⟩ := Paired.perm hpm hall
          have g4 := Grew.new g23.tab (o := .lst ys) m3
          have g5 := g4.trans (Grew.new g4.tab (o := .tup ys) m4)
          have G := g23.trans g5
          have asc : AscR rs' := Paired.pair (fun a b x y m m' e => by rw [m.name, m'.name] at e; exact e) hr' hso
          refine ⟨_, rfl, (show 5 ≤ sizeLine by decide), fun R nR => ?_⟩
          exact kS2 _ pl A4 ba ⟨q.ps, rs', q.bs⟩ ys zs G (G.tup t2 hpl2) upd_same (Paired.map' hr' fun _ _ m => m.grew g5 g23.tab) (G.tup t2 hba2) (Paired.map' hzs2 fun _ _ m => m.grew G t2) (by simp only [chg]; rw [if_neg (fun h => h.elim c1 fun h => h.elim c2 fun h => h.elim (fun n => n c3) fun n => n c4), srtR_eq ndn pm asc]) R nR
      | false =>
        refine ⟨_, rfl, rfl, _, rfl, if_f (tst "unroad" "place" (by decide +kernel)) ?_⟩
        refine ⟨_, rfl, rfl, _, rfl, if_f (tst "unroad" "unplace" (by decide +kernel)) ?_⟩
        refine ⟨_, rfl, rfl, _, rfl, if_f (tst "unroad" "road" (by decide +kernel)) ?_⟩
        refine ⟨_, rfl, rfl, _, rfl, if_t (tsy "unroad") ?_⟩
        refine ⟨_, rfl, t, _, 1, _, rfl, rfl, SqT.of ht2, rfl, _, rfl, roadP r, q.rs.map roadP, hm.dp, .tup (SqT.of hro2) (dpAll_of (fun _ _ m => m.dp) hrs2), ((GoodR.txt gr ok.kn).lay).shaped (by decide), (lay_roadsP good ok.kn).shaped (by decide), _, rfl, ?_⟩
        have anyR := any_eqv pl_road (fun _ _ => roadP_inj) q.rs r
        by_cases c1 : r ∈ q.rs
        case neg =>
          refine if_t (by rw [Bool.eq_false_iff.mpr fun e => c1 (anyR.mp e)]; rfl) ?_
          exact kN2 (by simp only [chg]; exact if_pos (.inl c1)) H2 (Grew.refl t2)
        refine if_f (by rw [anyR.mpr c1]; rfl) ?_
        refine ⟨_, rfl, ba, rfl, ⟨_, SqT.of hba2⟩, fun E1 m1 => lc_tup (K := K) (a := ba) (xs := zs) (fun j H' => Grew P H2 H' ∧ H' E1 = some (.lst (((q.bs.take j).map fun b => decide (r.name ∈ [b.1, b.2])).map V.bl))) ⟨Grew.new t2 m1, upd_same⟩ (fun j H' _ h => SqT.of (h.1.tup t2 hba2)) (fun j v H3 hj h => ?_) (fun H3 h => ?_)⟩
        · obtain ⟨g3, hE⟩ := h
          obtain ⟨b, hb1, hbm⟩ := Paired.at hzs2 hj
          obtain ⟨tb, rfl, etb⟩ := hbm.grew g3 t2
          have tk : q.bs.take (j + 1) = q.bs.take j ++ [b] := by rw [List.take_succ, hb1]; rfl
          refine ⟨rfl, _, rfl, t, _, 1, _, rfl, rfl, SqT.of (g3.tup t2 ht2), rfl, tr, _, 0, _, rfl, rfl, SqT.of (g3.tup t2 et), rfl, _, rfl, tb, _, rfl, .inr (SqT.of etb), rfl, flat_strs [b.1, b.2], ?_⟩
          rw [show inV (V.str r.name) [V.str b.1, V.str b.2] = decide (r.name ∈ [b.1, b.2]) from inV_dec r.name [b.1, b.2]]
          refine ⟨_, hE, by rw [List.length_map, List.length_map, List.length_take, sizeLine_eq]; omega, g3.write hE (fun _ z => by cases z) m1, ?_⟩
          rw [upd_same, tk, List.map_append, List.map_append]
          rfl
        · obtain ⟨g3, hE⟩ := h
          rw [← lz, List.take_length] at hE
          refine ⟨E1, _, rfl, SqL.of hE, _, rfl, ?_⟩
          have ha : ((q.bs.map fun b => decide (r.name ∈ [b.1, b.2])).any id) = true ↔ ∃ b ∈ q.bs, r.name = b.1 ∨ r.name = b.2 := by
            rw [List.any_eq_true]
            constructor
            · rintro ⟨x, hx, e⟩
              obtain ⟨b, hb, rfl⟩ := List.mem_map.mp hx
              have e' := of_decide_eq_true (show decide (r.name ∈ [b.1, b.2]) = true from e)
              simp only [List.mem_cons, List.not_mem_nil, or_false] at e'
              exact ⟨b, hb, e'⟩
            · rintro ⟨b, hb, e⟩
              exact ⟨true, List.mem_map.mpr ⟨b, hb, decide_eq_true (by simpa using e)⟩, rfl⟩
          by_cases c2 : ∃ b ∈ q.bs, r.name = b.1 ∨ r.name = b.2
          · refine if_t (ha.mpr c2) ?_
            exact kN2 (by simp only [chg]; exact if_pos (.inr c2)) H3 g3
          refine if_f (Bool.eq_false_iff.mpr fun e => c2 (ha.mp e)) ?_
          refine ⟨_, rfl, _, rfl, _, rfl, _, rfl, ro, rfl, ⟨_, SqT.of (g3.tup t2 hro2)⟩, fun E2 m2 => lc_tup (K := K) (a := ro) (xs := xs) (fun j H' => Grew P H3 H' ∧ ∃ acc, H' E2 = some (.lst acc) ∧ Paired (RoadAt K H') (outR r (q.rs.take j)) acc) ⟨Grew.new g3.tab m2, [], upd_same, .nil⟩ (fun j H' _ h => SqT.of ((g3.trans h.1).tup t2 hro2)) (fun j v H4 hj h => ?_) (fun H4 h => ?_)⟩
          · obtain ⟨g4, acc, hE2, hac⟩ := h
            obtain ⟨y, hy, hym⟩ := Paired.at hrs2 hj
            have g34 := g3.trans g4
            have hym4 := hym.grew g34 t2
            refine ⟨rfl, _, rfl, _, rfl, t, _, 1, _, rfl, rfl, SqT.of (g34.tup t2 ht2), rfl, roadP y, roadP r, hym4.dp, (hm.grew g34 t2).dp, ((GoodR.txt (good y (List.mem_of_getElem? hy)) ok.kn).lay).shaped (by decide), ((GoodR.txt gr ok.kn).lay).shaped (by decide), _, rfl, ?_⟩
            have tk := outR_take (z := r) hy
            by_cases c3 : y = r
            · rw [if_pos c3] at tk
              exact if_f (by rw [c3, (eqv_iff _ _ (pl_road r) (pl_road r)).mpr rfl]; rfl) ⟨g4, acc, hE2, by rw [tk]; exact hac⟩
            · rw [if_neg c3] at tk
              refine if_t (by rw [Bool.eq_false_iff.mpr fun e => c3 (roadP_inj ((eqv_iff _ _ (pl_road y) (pl_road r)).mp e))]; rfl) ⟨_, rfl, _, hE2, ?_, g4.write hE2 (fun _ z => by cases z) m2, _, upd_same, ?_⟩
              · have q1 : (outR r (q.rs.take j)).length ≤ (q.rs.take j).length := List.length_filter_le _ _
                rw [List.length_take] at q1
                have q2 := Paired.len hac
                rw [sizeLine_eq]
                omega
              · rw [tk]
                have kp : TKp H4 (L2.upd H4 E2 (.lst (acc ++ [v]))) := TKp.lst hE2
                exact Paired.snoc (Paired.map' hac fun _ _ m => m.kp kp) (hym4.kp kp)
          · obtain ⟨g4, acc, hE2, hac⟩ := h
            rw [← lx, List.take_length] at hac
            refine ⟨E2, _, rfl, .inl ⟨SqL.of hE2, fun A4 m4 => ?_⟩⟩
            have g34 := g3.trans g4
            have g5 := Grew.new g34.tab (o := .tup acc) m4
            have G := g34.trans g5
            refine ⟨_, rfl, (show 5 ≤ sizeLine by decide), fun R nR => ?_⟩
            exact kS2 _ pl A4 ba ⟨q.ps, outR r q.rs, q.bs⟩ acc zs G (G.tup t2 hpl2) upd_same (Paired.map' hac fun _ _ m => m.grew g5 g34.tab) (G.tup t2 hba2) (Paired.map' hzs2 fun _ _ m => m.grew G t2) (by simp only [chg]; rw [if_neg (fun h => h.elim (fun n => n c1) c2)]) R nR
    | bar up b =>
      have bn : isNm b.1 = true ∧ isNm b.2 = true := hok
      have e2 : tl = [.str b.1, .str b.2] := htl
      subst e2
      have anyB := any_eqv pl_bar (fun _ _ => barP_inj) q.bs b
      cases up with
      | true =>
        refine ⟨_, rfl, rfl, _, rfl, if_f (tst "bar" "place" (by decide +kernel)) ?_⟩
        refine ⟨_, rfl, rfl, _, rfl, if_f (tst "bar" "unplace" (by decide +kernel)) ?_⟩
        refine ⟨_, rfl, rfl, _, rfl, if_f (tst "bar" "road" (by decide +kernel)) ?_⟩
        refine ⟨_, rfl, rfl, _, rfl, if_f (tst "bar" "unroad" (by decide +kernel)) ?_⟩
        refine ⟨_, rfl, rfl, _, rfl, if_t (tsy "bar") ?_⟩
        refine ⟨_, rfl, _, rfl, t, _, rfl, ht2, fun H3 B n3 => ?_⟩
        have g3 := newT_grew n3 t2
        have hB : H3 B = some (.tup [.str b.1, .str b.2]) := n3.2
        have hbd : Dp K H3 (.ref B) (barP b) := .tup (SqT.of hB) (.cons (.str _) (.cons (.str _) .nil))
        refine ⟨_, rfl, _, rfl, barP b, q.bs.map barP, hbd, .tup (SqT.of (g3.tup t2 hba2)) (dpAll_of (fun _ _ m => GBar.dp m) (Paired.map' hzs2 fun _ _ m => GBar.grew g3 t2 m)), (lay_barP bn).shaped (by decide), (lay_barsP bnm).shaped (by decide), _, rfl, rfl, rfl, _, rfl, ?_⟩
        have wf : decide (V.str (Chg.bar true b).word = V.str (Str.ofString "unbar")) = false := (tst "bar" "unbar" (by decide +kernel))
        rw [wf]
        by_cases c1 : b ∈ q.bs
        · refine if_t (by rw [anyB.mpr c1]; rfl) ?_
          exact kN2 (by simp only [chg]; exact if_pos (.inl c1)) H3 g3
        refine if_f (by rw [Bool.eq_false_iff.mpr fun e => c1 (anyB.mp e)]; rfl) ?_
        refine ⟨_, rfl, rfl, _, rfl, if_f wf ?_⟩
        have hD3 := g3.lst t2 hD
        have notM : (b.1 ∉ nmsR q.rs ∨ b.2 ∉ nmsR q.rs) → Q .non H3 := fun h => kN2 (by simp only [chg]; exact if_pos (.inr (.inr fun m => h.elim (fun n => n (meets_names m).1) fun n => n (meets_names m).2))) H3 g3
        refine ⟨_, rfl, B, _, 0, _, rfl, rfl, SqT.of hB, rfl, _, rfl, D, _, rfl, .inl (SqL.of hD3), rfl, fnm, _, rfl, ?_⟩
        rw [nin]
        by_cases c2 : b.1 ∈ nmsR q.rs
        case neg => exact if_t (by rw [decide_eq_false c2]; rfl) (notM (.inl c2))
        refine if_f (by rw [decide_eq_true c2]; rfl) ?_
        refine ⟨_, rfl, B, _, 1, _, rfl, rfl, SqT.of hB, rfl, _, rfl, D, _, rfl, .inl (SqL.of hD3), rfl, fnm, _, rfl, ?_⟩
        rw [nin]
        by_cases c3 : b.2 ∈ nmsR q.rs
        case neg => exact if_t (by rw [decide_eq_false c3]; rfl) (notM (.inr c3))
        refine if_f (by rw [decide_eq_true c3]; rfl) ?_
        refine ⟨_, rfl, ba, _, rfl, .inr (SqT.of (g3.tup t2 hba2)), rfl, _, rfl, ?_⟩
        by_cases c4 : q.bs.length = 40
        · refine if_t (decide_eq_true (by rw [← lz, c4]; rfl)) ?_
          exact kN2 (by simp only [chg]; exact if_pos (.inr (.inl c4))) H3 g3
        refine if_f (decide_eq_false (fun e => c4 (by have := V.int.inj e; omega))) ?_
        obtain ⟨j1, r1, hj1, en1, hn1, hf1⟩ := at_name c2
        obtain ⟨j2, r2, hj2, en2, hn2, hf2⟩ := at_name c3
        obtain ⟨v1, hv1, m1⟩ := Paired.to hrs2 hj1
        obtain ⟨v2, hv2, m2⟩ := Paired.to hrs2 hj2
        obtain ⟨t1, u1, h1, rfl, et1, _, _⟩ := m1.grew g3 t2
        obtain ⟨t2', u2, h2, rfl, et2, _, _⟩ := m2.grew g3 t2
        have eqs : ∀ z : Str, eqV (V.str z) (V.str z) = true := fun z => by rw [eqV_str]; exact decide_eq_true rfl
        refine ⟨_, rfl, _, rfl, .inl ⟨rfl, _, SqL.of hD3⟩, _, rfl, B, _, 0, _, rfl, rfl, SqT.of hB, rfl, D, _, _, j1, _, rfl, rfl, SqL.of hD3, rfl, fnm, hn1, eqs _, hf1, ro, _, _, _, rfl, rfl, SqT.of (g3.tup t2 hro2), atI_nat hv1, t1, _, 2, _, rfl, rfl, SqT.of et1, rfl,
          _, rfl, _, rfl, .inl ⟨rfl, _, SqL.of hD3⟩, _, rfl, B, _, 1, _, rfl, rfl, SqT.of hB, rfl, D, _, _, j2, _, rfl, rfl, SqL.of hD3, rfl, fnm, hn2, eqs _, hf2, ro, _, _, _, rfl, rfl, SqT.of (g3.tup t2 hro2), atI_nat hv2, t2', _, 1, _, rfl, rfl, SqT.of et2, rfl, rfl, _, rfl, ?_⟩
        have mt := meets_at ok (b := b) (List.mem_of_getElem? hj1) (List.mem_of_getElem? hj2) en1 en2
        by_cases c5 : r1.goal = r2.start
        case neg =>
          refine if_t (by rw [decide_eq_false fun e => c5 (V.str.inj e)]; rfl) ?_
          exact kN2 (by simp only [chg]; exact if_pos (.inr (.inr fun m => c5 (mt.mp m)))) H3 g3
        refine if_f (by rw [c5]; simp) ?_
        refine ⟨_, rfl, _, rfl, _, rfl, _, rfl, _, rfl, _, rfl, (show 1 ≤ sizeLine by decide), fun A1 a1 => ?_⟩
        have gA := g3.trans (Grew.new g3.tab (o := .tup [V.ref B]) a1)
        refine ⟨ba, A1, _, _, rfl, rfl, gA.tup t2 hba2, upd_same, (by rw [sizeLine_eq]; show _ + 1 ≤ _; omega), fun H4 A2 n4 => ?_⟩
        have g4' := newT_grew n4 gA.tab
        have g4 := gA.trans g4'
        have hall : Paired (GBar H4) (q.bs ++ [b]) (zs ++ [V.ref B]) := Paired.snoc (Paired.map' hzs2 fun _ _ m => GBar.grew g4 t2 m) (GBar.grew g4' gA.tab ⟨B, rfl, (Grew.new g3.tab a1).tup g3.tab hB⟩)
        refine ⟨A2, zs ++ [V.ref B], barAt H4, rfl, .inr (SqT.of n4.2), fun x hx => ?_, fun ws A3 hpm hso m3 => ⟨A3, _, rfl, .inl ⟨SqL.of upd_same, fun A4 m4 => ?_⟩⟩⟩
        · obtain ⟨b', _, m⟩ := Paired.mem hall hx
          have nm := m.at
          obtain ⟨t, e, q⟩ := m
          exact ⟨t, e, by rw [nm]; exact SqT.of q⟩
        · obtain ⟨bs', pm, hr'⟩ := Paired.perm hpm hall
          have g5 := Grew.new g4.tab (o := .lst ws) m3
          have g6 := g5.trans (Grew.new g5.tab (o := .tup ws) m4)
          have G := g4.trans g6
          have asc : AscB bs' := Paired.pair (fun a b x y m m' e => by rw [m.at, m'.at] at e; exact e) hr' hso
          refine ⟨(show 5 ≤ sizeLine by decide), fun R nR => ?_⟩
          exact kS2 _ pl ro A4 ⟨q.ps, q.rs, bs'⟩ xs ws G (G.tup t2 hpl2) (G.tup t2 hro2) (Paired.map' hrs2 fun _ _ m => m.grew G t2) upd_same (Paired.map' hr' fun _ _ m => GBar.grew g6 g4.tab m) (by simp only [chg]; rw [if_neg (fun h => h.elim c1 fun h => h.elim c4 fun n => n (mt.mpr c5)), srtB_eq pm asc]) R nR
      | false =>
        refine ⟨_, rfl, rfl, _, rfl, if_f (tst "unbar" "place" (by decide +kernel)) ?_⟩
        refine ⟨_, rfl, rfl, _, rfl, if_f (tst "unbar" "unplace" (by decide +kernel)) ?_⟩
        refine ⟨_, rfl, rfl, _, rfl, if_f (tst "unbar" "road" (by decide +kernel)) ?_⟩
        refine ⟨_, rfl, rfl, _, rfl, if_f (tst "unbar" "unroad" (by decide +kernel)) ?_⟩
        refine ⟨_, rfl, rfl, _, rfl, if_f (tst "unbar" "bar" (by decide +kernel)) ?_⟩
        refine ⟨_, rfl, rfl, _, rfl, if_t (tsy "unbar") ?_⟩
        refine ⟨_, rfl, _, rfl, t, _, rfl, ht2, fun H3 B n3 => ?_⟩
        have g3 := newT_grew n3 t2
        have hB : H3 B = some (.tup [.str b.1, .str b.2]) := n3.2
        have hbd : Dp K H3 (.ref B) (barP b) := .tup (SqT.of hB) (.cons (.str _) (.cons (.str _) .nil))
        refine ⟨_, rfl, _, rfl, barP b, q.bs.map barP, hbd, .tup (SqT.of (g3.tup t2 hba2)) (dpAll_of (fun _ _ m => GBar.dp m) (Paired.map' hzs2 fun _ _ m => GBar.grew g3 t2 m)), (lay_barP bn).shaped (by decide), (lay_barsP bnm).shaped (by decide), _, rfl, rfl, rfl, _, rfl, ?_⟩
        have wt : decide (V.str (Chg.bar false b).word = V.str (Str.ofString "unbar")) = true := (tsy "unbar")
        rw [wt]
        by_cases c1 : b ∈ q.bs
        case neg =>
          refine if_t (by rw [Bool.eq_false_iff.mpr fun e => c1 (anyB.mp e)]; rfl) ?_
          exact kN2 (by simp only [chg]; exact if_neg c1) H3 g3
        refine if_f (by rw [anyB.mpr c1]; rfl) ?_
        refine ⟨_, rfl, rfl, _, rfl, if_t wt ?_⟩
        refine ⟨_, rfl, _, rfl, _, rfl, _, rfl, _, rfl, ba, rfl, ⟨_, SqT.of (g3.tup t2 hba2)⟩, fun E2 m2 => lc_tup (K := K) (a := ba) (xs := zs) (fun j H' => Grew P H3 H' ∧ ∃ acc, H' E2 = some (.lst acc) ∧ Paired (GBar H') (outB b.1 b.2 (q.bs.take j)) acc) ⟨Grew.new g3.tab m2, [], upd_same, .nil⟩ (fun j H' _ h => SqT.of ((g3.trans h.1).tup t2 hba2)) (fun j v H4 hj h => ?_) (fun H4 h => ?_)⟩
        · obtain ⟨g4, acc, hE2, hac⟩ := h
          obtain ⟨y, hy, hym⟩ := Paired.at hzs2 hj
          have g34 := g3.trans g4
          have hym4 := GBar.grew g34 t2 hym
          refine ⟨rfl, _, rfl, _, rfl, barP y, barP b, GBar.dp hym4, .tup (SqT.of (g4.tup g3.tab hB)) (.cons (.str _) (.cons (.str _) .nil)), (lay_barP (bnm y (List.mem_of_getElem? hy))).shaped (by decide), (lay_barP bn).shaped (by decide), _, rfl, ?_⟩
          have tk := outB_take (z := b) hy
          by_cases c3 : y = b
          · rw [if_pos c3] at tk
            exact if_f (by rw [c3, (eqv_iff _ _ (pl_bar b) (pl_bar b)).mpr rfl]; rfl) ⟨g4, acc, hE2, by rw [tk]; exact hac⟩
          · rw [if_neg c3] at tk
            refine if_t (by rw [Bool.eq_false_iff.mpr fun e => c3 (barP_inj ((eqv_iff _ _ (pl_bar y) (pl_bar b)).mp e))]; rfl) ⟨_, rfl, _, hE2, ?_, g4.write hE2 (fun _ z => by cases z) m2, _, upd_same, ?_⟩
            · have q1 : (outB b.1 b.2 (q.bs.take j)).length ≤ (q.bs.take j).length := List.length_filter_le _ _
              rw [List.length_take] at q1
              have q2 := Paired.len hac
              rw [sizeLine_eq]
              omega
            · rw [tk]
              have kp : TKp H4 (L2.upd H4 E2 (.lst (acc ++ [v]))) := TKp.lst hE2
              have kb : ∀ {b : Str × Str} {v : V} {H' : Hp}, TKp H4 H' → GBar H4 b v → GBar H' b v := fun k ⟨t, e, m⟩ => ⟨t, e, k.t _ _ m⟩
              exact Paired.snoc (Paired.map' hac fun _ _ m => kb kp m) (kb kp hym4)
        · obtain ⟨g4, acc, hE2, hac⟩ := h
          rw [← lz, List.take_length] at hac
          refine ⟨E2, _, rfl, .inl ⟨SqL.of hE2, fun A4 m4 => ?_⟩⟩
          have g34 := g3.trans g4
          have g5 := Grew.new g34.tab (o := .tup acc) m4
          have G := g34.trans g5
          refine ⟨(show 5 ≤ sizeLine by decide), fun R nR => ?_⟩
          exact kS2 _ pl ro A4 ⟨q.ps, q.rs, outB b.1 b.2 q.bs⟩ xs acc G (G.tup t2 hpl2) (G.tup t2 hro2) (Paired.map' hrs2 fun _ _ m => m.grew G t2) upd_same (Paired.map' hac fun _ _ m => GBar.grew g5 g34.tab m) (by simp only [chg]; rw [if_pos c1]) R nR
    | part n a b =>
      obtain ⟨nn, sk, sa, sb⟩ := (hok : isNm n = true ∧ SameK a b ∧ PtSm a ∧ PtSm b)
      obtain ⟨va, vb, e2, ma, mb⟩ := htl2
      subst e2
      have pw : ∀ o : Str, decide (Str.ofString "minutes" = o) = false → decide (Str.ofString "kinds" = o) = false → decide (Str.ofString "hours" = o) = false → decide (V.str (Chg.part n a b).word = V.str o) = false := fun o h1 h2 h3 => by
        rw [dec_ww]
        cases a
        · exact h1
        · exact h2
        · exact h3
      refine ⟨_, rfl, rfl, _, rfl, if_f (pw "place" (by decide +kernel) (by decide +kernel) (by decide +kernel)) ?_⟩
      refine ⟨_, rfl, rfl, _, rfl, if_f (pw "unplace" (by decide +kernel) (by decide +kernel) (by decide +kernel)) ?_⟩
      refine ⟨_, rfl, rfl, _, rfl, if_f (pw "road" (by decide +kernel) (by decide +kernel) (by decide +kernel)) ?_⟩
      refine ⟨_, rfl, rfl, _, rfl, if_f (pw "unroad" (by decide +kernel) (by decide +kernel) (by decide +kernel)) ?_⟩
      refine ⟨_, rfl, rfl, _, rfl, if_f (pw "bar" (by decide +kernel) (by decide +kernel) (by decide +kernel)) ?_⟩
      refine ⟨_, rfl, rfl, _, rfl, if_f (pw "unbar" (by decide +kernel) (by decide +kernel) (by decide +kernel)) ?_⟩
      have wab : a.word = b.word := by cases a <;> cases b <;> first | exact sk.elim | rfl
      have sab : a.spot = b.spot := by cases a <;> cases b <;> first | exact sk.elim | rfl
      refine ⟨(show 6 ≤ sizeLine by decide), fun S1 o1 s1 oc od => ?_⟩
      generalize eH3 : L2.upd H2 S1 _ = H3
      have g3 : Grew P H2 H3 := by rw [← eH3]; exact Grew.new t2 s1
      have hS1 : TpF.TupF H3 S1 (spotsS.map V.str) := ⟨o1, oc, od, by rw [← eH3]; exact upd_same⟩
      obtain ⟨sp1, sp2⟩ := spot_at a
      refine ⟨⟨S1, _, rfl, hS1⟩, _, rfl, S1, spotsS, a.word, a.spot, rfl, rfl, hS1.sq, sp1, sp2, ?_⟩
      have hD3 := g3.lst t2 hD
      have ht3 := g3.tup t2 ht2
      have hro3 := g3.tup t2 hro2
      refine ⟨_, rfl, t, _, 1, _, rfl, rfl, SqT.of ht3, rfl, _, rfl, D, _, rfl, .inl (SqL.of hD3), rfl, fnm, _, rfl, ?_⟩
      rw [nin]
      by_cases c1 : n ∈ nmsR q.rs
      case neg =>
        refine if_t (by rw [decide_eq_false c1]; rfl) ?_
        exact kN2 (by simp only [chg]; exact if_neg fun ⟨r, hr, e, _⟩ => c1 (List.mem_map.mpr ⟨r, hr, e⟩)) H3 g3
      refine if_f (by rw [decide_eq_true c1]; rfl) ?_
      obtain ⟨j, r, hj, en, hnj, hfj⟩ := at_name c1
      have hr : r ∈ q.rs := List.mem_of_getElem? hj
      subst en
      obtain ⟨vj, hvj, mj⟩ := Paired.to hrs2 hj
      have mj3 := mj.grew g3 t2
      obtain ⟨tr, u, hh, rfl, et, eu, eh⟩ := id mj3
      have eqs : ∀ z : Str, eqV (V.str z) (V.str z) = true := fun z => by rw [eqV_str]; exact decide_eq_true rfl
      refine ⟨_, rfl, .inl ⟨rfl, _, SqL.of hD3⟩, _, rfl, t, _, 1, _, rfl, rfl, SqT.of ht3, rfl, D, _, _, j, _, rfl, rfl, SqL.of hD3, rfl, fnm, hnj, eqs _, hfj, ?_⟩
      obtain ⟨vo, hvo, mo⟩ : ∃ vo, atI [V.str r.name, V.str r.start, V.str r.goal, V.int r.minutes, V.ref u, hh] (b.spot : Int) = some vo ∧ PtAt K H3 (Pt.of r b) vo := by
        cases b with
        | mi i => exact ⟨_, rfl, rfl⟩
        | ki us => exact ⟨_, rfl, u, rfl, eu⟩
        | ho hs => exact ⟨_, rfl, eh⟩
      have so : PtSm (Pt.of r b) := by
        have gr := good r hr
        cases b with
        | mi i => have := gr.m1; have := gr.m2; show r.minutes.natAbs < 10 ^ 9; omega
        | ki us => exact ⟨by have := gr.un; omega, List.all_eq_true.mpr fun z hz => List.all_eq_true.mp ok.kn z (gr.u z hz)⟩
        | ho hs => exact hours_sm gr.h ok.d2
      have sko : SameK (Pt.of r b) a := by cases a <;> cases b <;> first | exact sk.elim | exact True.intro
      have mo' := mo.dp
      have ma3 := (ma.grew g3 t2)
      have mb3 := (mb.grew g3 t2)
      rw [sab]
      refine ⟨_, rfl, _, rfl, ro, _, _, _, rfl, rfl, SqT.of hro3, atI_nat hvj, _, rfl, tr, _, _, _, rfl, rfl, SqT.of et, hvo, _, rfl, t, _, 2, _, rfl, rfl, SqT.of ht3, rfl, ptP (Pt.of r b), ptP a, mo', ma3.dp, (lay_pt so).shaped (by decide), (lay_pt sa).shaped (by decide), _, rfl, ?_⟩
      by_cases c2 : Pt.of r b = a
      case neg =>
        refine if_t (by rw [Bool.eq_false_iff.mpr fun e => c2 (ptP_inj sko ((eqv_iff _ _ (pl_pt _) (pl_pt _)).mp e))]; rfl) ?_
        exact kN2 (by simp only [chg]; exact if_neg fun ⟨r', hr', e, e2, _⟩ => c2 (by rw [← uniqN ok.r.nd hr' hr e]; exact e2)) H3 g3
      refine if_f (by rw [c2, (eqv_iff _ _ (pl_pt a) (pl_pt a)).mpr rfl]; rfl) ?_
      refine ⟨_, rfl, t, _, 2, _, rfl, rfl, SqT.of ht3, rfl, _, rfl, t, _, 3, _, rfl, rfl, SqT.of ht3, rfl, ptP a, ptP b, ma3.dp, mb3.dp, (lay_pt sa).shaped (by decide), (lay_pt sb).shaped (by decide), _, rfl, ?_⟩
      by_cases c3 : a = b
      · refine if_t (by rw [c3, (eqv_iff _ _ (pl_pt b) (pl_pt b)).mpr rfl]) ?_
        exact kN2 (by simp only [chg]; exact if_neg fun ⟨r', hr', e, e2, e3, _⟩ => e3 c3) H3 g3
      refine if_f (Bool.eq_false_iff.mpr fun e => c3 (ptP_inj sk ((eqv_iff _ _ (pl_pt _) (pl_pt _)).mp e))) ?_
      refine ⟨_, rfl, _, rfl, _, rfl, _, rfl, t, _, 3, _, rfl, rfl, SqT.of ht3, rfl, ki, d, ks, b, vb, congrArg (fun z => [V.int d, V.ref ki, V.str z, vb]) wab, g3.tup t2 hki2, l4, ok.kn, mb3, sb, g3.tab, fun H4 rb g4 hrb => ?_⟩
      have g34 := g3.trans g4
      refine ⟨_, rfl, ?_⟩
      by_cases c4 : fits d ks b
      case neg =>
        have e : rb = false := Bool.eq_false_iff.mpr fun e => c4 (hrb.mp e)
        rw [e]
        refine iteT ?_
        exact kN2 (by simp only [chg]; exact if_neg fun ⟨r', hr', e, e2, e3, e4⟩ => c4 e4) H4 g34
      rw [hrb.mpr c4]
      refine iteF ?_
      have et4 := g4.tup g3.tab et
      have hro4 := g34.tup t2 hro2
      have ht4 := g34.tup t2 ht2
      -- roads[place][:spot] + (change[3],) + roads[place][spot + 1:]
      refine ⟨_, rfl, _, rfl, ro, _, _, _, rfl, rfl, SqT.of hro4, atI_nat hvj, _, rfl, _, rfl, tr, _, rfl, et4, fun H5 A1 n5 => ?_⟩
      have g5' := newT_grew n5 g34.tab
      have g5 := g34.trans g5'
      refine ⟨_, rfl, t, _, 3, _, rfl, rfl, SqT.of (g5.tup t2 ht2), rfl, (show 1 ≤ sizeLine by decide), fun A2 a2 => ?_⟩
      have g6' := Grew.new g5.tab (o := .tup [vb]) a2
      have g6 := g5.trans g6'
      have l6 : (cutV [V.str r.name, V.str r.start, V.str r.goal, V.int r.minutes, V.ref u, hh] none (some (b.spot : Int))).length ≤ 6 := cutV_length _ _ _
      refine ⟨A1, A2, _, _, rfl, rfl, g6'.tup g5.tab n5.2, upd_same, (by rw [sizeLine_eq]; show _ + 1 ≤ _; omega), fun H7 A3 n7 => ?_⟩
      have g7' := newT_grew n7 g6.tab
      have g7 := g6.trans g7'
      refine ⟨_, rfl, _, rfl, ro, _, _, _, rfl, rfl, SqT.of (g7.tup t2 hro2), atI_nat hvj, _, rfl, _, _, rfl, rfl, _, rfl, tr, _, rfl, (g5'.trans (g6'.trans g7')).tup g34.tab et4, fun H8 A4 n8 => ?_⟩
      have g8' := newT_grew n8 g7.tab
      have g8 := g7.trans g8'
      have l62 : (cutV [V.str r.name, V.str r.start, V.str r.goal, V.int r.minutes, V.ref u, hh] (some ((b.spot : Int) + 1)) none).length ≤ 6 := cutV_length _ _ _
      refine ⟨A3, A4, _, _, rfl, rfl, g8'.tup g7.tab n7.2, n8.2, (by rw [List.length_append, sizeLine_eq]; show _ + 1 + _ ≤ _; omega), fun H9 A5 n9 => ?_⟩
      have g9' := newT_grew n9 g8.tab
      have g9 := g8.trans g9'
      have mr9 : RoadAt K H9 (Pt.put r b) (.ref A5) := by
        have eu9 := (g4.trans (g5'.trans (g6'.trans (g7'.trans (g8'.trans g9'))))).tup g3.tab eu
        have eh9 := eh.grew (g4.trans (g5'.trans (g6'.trans (g7'.trans (g8'.trans g9'))))) g3.tab
        have mb9 := mb3.grew (g4.trans (g5'.trans (g6'.trans (g7'.trans (g8'.trans g9'))))) g3.tab
        have h9 := n9.2
        cases b with
        | mi i =>
          have e : vb = .int i := mb9
          subst e
          exact ⟨A5, u, hh, rfl, h9, eu9, eh9⟩
        | ki us =>
          obtain ⟨w', e, e'⟩ := mb9
          subst e
          exact ⟨A5, w', hh, rfl, h9, e', eh9⟩
        | ho hs => exact ⟨A5, u, vb, rfl, h9, eu9, mb9⟩
      -- the roads
      refine ⟨_, rfl, _, rfl, _, rfl, _, rfl, _, rfl, _, rfl, ro, _, rfl, g9.tup t2 hro2, fun Ha B1 na => ?_⟩
      have ga' := newT_grew na g9.tab
      have ga := g9.trans ga'
      refine ⟨_, rfl, (show 1 ≤ sizeLine by decide), fun B2 b2 => ?_⟩
      have gb' := Grew.new ga.tab (o := .tup [V.ref A5]) b2
      have gb := ga.trans gb'
      have c1l : (cutV xs none (some (j : Int))).length ≤ xs.length := cutV_length _ _ _
      refine ⟨B1, B2, _, _, rfl, rfl, gb'.tup ga.tab na.2, upd_same, (by rw [sizeLine_eq]; show _ + 1 ≤ _; omega), fun Hc B3 nc => ?_⟩
      have gc' := newT_grew nc gb.tab
      have gc := gb.trans gc'
      refine ⟨_, rfl, _, rfl, _, _, rfl, rfl, _, rfl, ro, _, rfl, gc.tup t2 hro2, fun Hd B4 nd4 => ?_⟩
      have gd' := newT_grew nd4 gc.tab
      have gd := gc.trans gd'
      have c2l : (cutV xs (some ((j : Int) + 1)) none).length ≤ xs.length := cutV_length _ _ _
      refine ⟨B3, B4, _, _, rfl, rfl, gd'.tup gc.tab nc.2, nd4.2, (by rw [List.length_append, sizeLine_eq]; show _ + 1 + _ ≤ _; omega), fun He B5 ne5 => ?_⟩
      have ge' := newT_grew ne5 gd.tab
      have ge := gd.trans ge'
      have h5 := ne5.2
      rw [cutV_pre, show (j : Int) + 1 = ((j + 1 : Nat) : Int) from rfl, cutV_sufL] at h5
      refine ⟨_, rfl, (show 5 ≤ sizeLine by decide), fun R nR => ?_⟩
      refine kS2 _ pl B5 ba ⟨q.ps, setR r.name b q.rs, q.bs⟩ _ zs ge (ge.tup t2 hpl2) h5 ?_ (ge.tup t2 hba2) (Paired.map' hzs2 fun _ _ m => m.grew ge t2) (by simp only [chg]; exact if_pos ⟨r, hr, rfl, c2, c3, c4⟩) R nR
      rw [setR_at ok.r.nd hj b]
      have hrse : Paired (RoadAt K He) q.rs xs := Paired.map' hrs2 fun _ _ m => m.grew ge t2
      exact paired_app (paired_app (paired_take j hrse) (.cons (mr9.grew (ga'.trans (gb'.trans (gc'.trans (gd'.trans ge')))) g9.tab) .nil)) (paired_drop (j + 1) hrse)
end
end W

set_option Elab.async false
set_option linter.all false
set_option maxRecDepth 100000
set_option maxHeartbeats 4000000
set_option exponentiation.threshold 2000
namespace W
open PySem PySem.Spec PyProof.Rows L2 GxR MyG MyS SqX
/-! ### several changes, one behind the other -/
noncomputable def runC (d : Int) (ks : List Str) : PT → List Chg → Option PT
  | q, [] => some q
  | q, c :: cs => match chg d ks q c with
    | none => none
    | some q' => runC d ks q' cs
/-- how far they fit, and what stands then -/
noncomputable def appC (d : Int) (ks : List Str) : PT → List Chg → Nat → Option Nat × PT
  | q, [], _ => (none, q)
  | q, c :: cs, k => match chg d ks q c with
    | none => (some k, q)
    | some q' => appC d ks q' cs (k + 1)
theorem runC_app {d : Int} {ks : List Str} : ∀ {q q' : PT} {cs : List Chg}, runC d ks q cs = some q' → ∀ k, appC d ks q cs k = (none, q')
  | q, q', [], h, k => by rw [← Option.some.inj h]; rfl
  | q, q', c :: cs, h, k => by
    simp only [runC] at h
    simp only [appC]
    cases e : chg d ks q c with
    | none => rw [e] at h; cases h
    | some q1 => rw [e] at h; exact runC_app h (k + 1)
theorem app_runC {d : Int} {ks : List Str} : ∀ {q q' : PT} {cs : List Chg} {k : Nat}, appC d ks q cs k = (none, q') → runC d ks q cs = some q'
  | q, q', [], k, h => by
    have : q = q' := congrArg Prod.snd h
    rw [this]; rfl
  | q, q', c :: cs, k, h => by
    simp only [appC] at h
    simp only [runC]
    cases e : chg d ks q c with
    | none => rw [e] at h; cases congrArg Prod.fst h
    | some q1 => rw [e] at h; exact app_runC h
theorem runC_snoc {d : Int} {ks : List Str} {c : Chg} : ∀ {q q1 : PT} {cs : List Chg}, runC d ks q cs = some q1 → runC d ks q (cs ++ [c]) = chg d ks q1 c
  | q, q1, [], h => by
    obtain rfl := Option.some.inj h
    simp only [List.nil_append, runC]
    cases chg d ks q c <;> rfl
  | q, q1, x :: cs, h => by
    simp only [List.cons_append, runC] at h ⊢
    cases e : chg d ks q x with
    | none => rw [e] at h; cases h
    | some q2 => rw [e] at h; exact runC_snoc h
theorem runC_sp {d : Int} {ks : List Str} : ∀ {q q' : PT} {cs : List Chg}, SP d ks q → (∀ c ∈ cs, ChgOk d ks c) → runC d ks q cs = some q' → SP d ks q'
  | q, q', [], h, _, e => by rw [← Option.some.inj e]; exact h
  | q, q', c :: cs, h, hc, e => by
    simp only [runC] at e
    cases e1 : chg d ks q c with
    | none => rw [e1] at e; cases e
    | some q2 => rw [e1] at e; exact runC_sp (chg_sp h (hc c List.mem_cons_self) e1) (fun x hx => hc x (List.mem_cons_of_mem _ hx)) e
/-! ### _law_walked, _law_applied -/
abbrev sWk : Stmt := top 56
abbrev nWk : List Str := ["numbers", "at", "many", "parts", "changes", "k", "change", "after"]
theorem scWk : FnScope nWk ["numbers", "at", "many", "parts"] (defScope sWk) := ⟨rfl, rfl, rfl, by decide +kernel, rfl, by decide +kernel, by decide +kernel⟩
/-- a list of changes -/
def CsAt (K : PySem.W.Frag) (H : Hp) (L : Addr) (d : Int) (ks : List Str) (cs : List Chg) : Prop := ∃ xs, H L = some (.lst xs) ∧ Paired (ChgAt K H) cs xs ∧ (∀ c ∈ cs, ChgOk d ks c)
theorem CsAt.grew {K : PySem.W.Frag} {P : Addr} {H H' : Hp} {L : Addr} {d : Int} {ks : List Str} {cs : List Chg} (m : CsAt K H L d ks cs) (g : Grew P H H') (h : TabG H P) : CsAt K H' L d ks cs := by
  obtain ⟨xs, e, p, o⟩ := m
  exact ⟨xs, g.lst h e, Paired.map' p fun _ _ m => m.grew g h, o⟩
def optK : Option Nat → V
  | none => .non
  | some k => .int k
def spApplied (K : PySem.W.Frag) (P : Addr) : Sp := fun vs H Q _ => ∃ (p L : Addr) (d : Int) (ks : List Str) (q : PT) (cs : List Chg), vs = [.ref p, .ref L] ∧ PrtAt K H p d ks q ∧ SP d ks q ∧ CsAt K H L d ks cs ∧ cs.length ≤ 100 ∧ TabG H P ∧
  ∀ H' T p', Grew P H H' → H' T = some (.tup [optK (appC d ks q cs 0).1, .ref p']) → PrtAt K H' p' d ks (appC d ks q cs 0).2 → Q (.ref T) H'
def spWalked (K : PySem.W.Frag) (P : Addr) : Sp := fun vs H Q _ => ∃ (a p : Addr) (ns : List Int) (at_ d : Int) (m : Nat) (ks : List Str) (q : PT), vs = [.ref a, .int at_, .int m, .ref p] ∧ SqL K H a (ns.map V.int) ∧ Sm ns ∧ 0 ≤ at_ ∧ at_ + 10 * (m : Int) + 2 ≤ ns.length ∧ m ≤ 100 ∧ PrtAt K H p d ks q ∧ SP d ks q ∧ TabG H P ∧
  ∀ H' L cs q', Grew P H H' → H L = none → CsAt K H' L d ks cs → cs.length ≤ m → runC d ks q cs = some q' → Q (.ref L) H'
section
variable {Pg : Program} {w : World} {K : PySem.W.Frag} {mg : Str → Option Value} {base : Heap} {C P : Addr}
theorem ok_walked {f fDc fCh : Addr} {fd fdDc fdCh : FuncData} (F : Fun K "_law_walked" "_law_walked" sWk f fd) (hrg : mg "range" = none)
    (GDc : FnOk Pg w K mg base CX0 3 fDc fdDc ["numbers", "at", "parts"] (spDrawn K P)) (gDc : mg "_law_drawn_change" = some (.ref fDc)) (kDc : PySem.W.keepIn K (.ref fDc) = true) (bDc : Binds K fdDc ["numbers", "at", "parts"] [])
    (GCh : FnOk Pg w K mg base CX0 2 fCh fdCh ["parts", "change"] (spChanged K P)) (gCh : mg "_law_changed" = some (.ref fCh)) (kCh : PySem.W.keepIn K (.ref fCh) = true) (bCh : Binds K fdCh ["parts", "change"] []) :
    FnOk Pg w K mg base CX0 4 f fd ["numbers", "at", "many", "parts"] (spWalked K P) := by
  refine F.ok scWk (fun vs H Q E h => ?_) (fun cdv A outer s H vs Q E hr h => ?_)
  · obtain ⟨a, p, ns, at_, d, m, ks, q, rfl, _⟩ := h
    rfl
  · obtain ⟨a, p, ns, at_, d, m, ks, q, rfl, hS, hsm, ha0, ha1, hm100, hp, sp, hP, kQ⟩ := h
    refine ⟨_, (pss_cons (ps_set (i := 4) scWk.nd rfl (Or.inl rfl) (pe_lst pa_nil))
      (pss_cons (ps_for PassesOwn.never rfl (pi_range1 rfl hrg (pa_cons (pv 2) pa_nil)) (pg_name (i := 5) scWk.nd rfl (Or.inl rfl))
        (pss_cons (ps_set (i := 6) scWk.nd rfl (Or.inl rfl) (pe_call GDc (hr.mono (by decide)) (by rfl) gDc kDc bDc .nil pass0 (pa_cons (pv 0) (pa_cons (pe_op op_add (pv 1) (pe_op op_mul pe_int (pv 5))) (pa_cons (pv 3) pa_nil)))))
      (pss_cons (ps_set (i := 7) scWk.nd rfl (Or.inl rfl) (pe_call GCh (hr.mono (by decide)) (by rfl) gCh kCh bCh .nil pass0 (pa_cons (pv 3) (pa_cons (pv 6) pa_nil))))
      (pss_one (ps_if (pt_cmp (pc_notN (pv 7))) (pss_cons (ps_set (i := 3) scWk.nd rfl (Or.inl rfl) (pv 7))
      (pss_one (ps_expr (pe_bm PySem.F.plainAttrs_list PySem.F.slot_list_append PySem.F.type_list_append mt_append (pv 4) (pa_cons (pv 6) pa_nil)))))
        pss_nil)))))
      (pss_one (ps_ret (pv 4))))), ?_⟩
    refine ⟨Nat.zero_le _, fun L nL => ?_⟩
    have gL := Grew.new hP (o := .lst []) nL
    refine ⟨_, rfl, (m : Int), rfl, by omega, by omega, for_range (n := m) (fun i σ H' => ∃ (p1 : Addr) (q1 : PT) (cs : List Chg) (xs : List V) (v5 v6 v7 : Option V), σ = [some (.ref a), some (.int at_), some (.int m), some (.ref p1), some (.ref L), v5, v6, v7] ∧ Grew P H H' ∧ PrtAt K H' p1 d ks q1 ∧ SP d ks q1 ∧ H' L = some (.lst xs) ∧ Paired (ChgAt K H') cs xs ∧ (∀ c ∈ cs, ChgOk d ks c) ∧ cs.length ≤ i ∧ runC d ks q cs = some q1)
      ⟨p, q, [], [], none, none, none, rfl, gL, hp.grew gL hP, sp, upd_same, .nil, (fun c hc => by cases hc), Nat.le_refl _, rfl⟩ ?_ ?_⟩
    · rintro i σ H1 hi ⟨p1, q1, cs, xs, v5, v6, v7, rfl, g1, hp1, sp1, hL1, hcs, hok, lcs, hrun⟩
      rw [Int.zero_add]
      refine ⟨_, rfl, _, rfl, _, rfl, _, _, rfl, rfl, .inl ⟨by decide, by decide⟩, _, _, rfl, rfl, _, rfl, a, p1, ns, at_ + 10 * (i : Int), d, ks, q1, rfl, g1.sqL hP hS, hsm, by omega, by omega, hp1, sp1, g1.tab, fun H2 c v g2 hm hc => ?_⟩
      have g02 := g1.trans g2
      obtain ⟨t, tl, rfl, ht, htl⟩ := id hm
      have hL2 := g2.lst g1.tab hL1
      refine ⟨_, rfl, _, rfl, p1, t, d, ks, q1, c, rfl, hp1.grew g2 g1.tab, sp1, hm, hc, g02.tab, fun H3 p3 q3 g3 np3 ec hp3 => ?_, fun ec H3 g3 => ?_⟩
      · have g03 := g02.trans g3
        have hL3 := g3.lst g02.tab hL2
        have lxs := Paired.len hcs
        refine ⟨_, rfl, _, rfl, iteT ?_⟩
        refine ⟨_, rfl, _, rfl, .inl ⟨rfl, _, SqL.of hL3⟩, _, rfl, L, xs, _, rfl, rfl, hL3, by rw [sizeLine_eq]; omega, ?_⟩
        have kp : TKp H3 (L2.upd H3 L (.lst (xs ++ [.ref t]))) := TKp.lst hL3
        have gw := g03.write (o := .lst (xs ++ [.ref t])) hL3 (fun _ z => by cases z) nL
        refine ⟨p3, q3, cs ++ [c], xs ++ [.ref t], _, _, _, rfl, gw, ?_, chg_sp sp1 hc ec, upd_same, Paired.snoc (Paired.map' hcs fun _ _ m => (m.grew (g2.trans g3) g1.tab).kp kp) ((hm.grew g3 g02.tab).kp kp), fun x hx => ?_, ?_, ?_⟩
        · obtain ⟨ki, pl, ro, ba, ys, zs, hp, hki, hpl, hro, hrs, hba, hzs⟩ := hp3
          have ne : p3 ≠ L := fun e => by rw [e, hL2] at np3; cases np3
          exact ⟨ki, pl, ro, ba, ys, zs, by rw [upd_ne ne]; exact hp, kp.t _ _ hki, kp.t _ _ hpl, kp.t _ _ hro, Paired.map' hrs fun _ _ m => m.kp kp, kp.t _ _ hba, Paired.map' hzs fun _ _ m => let ⟨t, e, m⟩ := m; ⟨t, e, kp.t _ _ m⟩⟩
        · rcases List.mem_append.mp hx with h | h
          · exact hok x h
          · rw [List.mem_singleton.mp h]; exact hc
        · rw [List.length_append]; show _ + 1 ≤ _; omega
        · rw [runC_snoc hrun, ec]
      · have g03 := g02.trans g3
        refine ⟨_, rfl, _, rfl, iteF ?_⟩
        exact ⟨p1, q1, cs, xs, _, _, _, rfl, g03, hp1.grew (g2.trans g3) g1.tab, sp1, g3.lst g02.tab hL2, Paired.map' hcs fun _ _ m => m.grew (g2.trans g3) g1.tab, hok, by omega, hrun⟩
    · rintro σ H1 ⟨p1, q1, cs, xs, v5, v6, v7, rfl, g1, hp1, sp1, hL1, hcs, hok, lcs, hrun⟩
      exact ⟨_, rfl, kQ H1 L cs q1 g1 nL ⟨xs, hL1, hcs, hok⟩ lcs hrun⟩
end
/-! ### _law_make, _law_fields -/
abbrev sMk : Stmt := top 54
abbrev sFd : Stmt := top 55
theorem scMk : FnScope ["parts"] ["parts"] (defScope sMk) := ⟨rfl, rfl, rfl, by decide +kernel, rfl, by decide +kernel, by decide +kernel⟩
theorem scFd : FnScope ["chart"] ["chart"] (defScope sFd) := ⟨rfl, rfl, rfl, by decide +kernel, rfl, by decide +kernel, by decide +kernel⟩
def spMake (K : PySem.W.Frag) (M P : Addr) : Sp := fun vs H Q _ => ∃ (p : Addr) (d : Int) (ks : List Str) (q : PT), vs = [.ref p] ∧ PrtAt K H p d ks q ∧ SP d ks q ∧ TabG H P ∧ ∀ H' x, Grew P H H' → H x = none → MapAt K H' M x d ks q.ps q.rs q.bs → Q (.ref x) H'
def spFields (K : PySem.W.Frag) (M P : Addr) : Sp := fun vs H Q _ => ∃ (x : Addr) (d : Int) (ks : List Str) (q : PT), vs = [.ref x] ∧ MapAt K H M x d ks q.ps q.rs q.bs ∧ TabG H P ∧ ∀ H' p, Grew P H H' → PrtAt K H' p d ks q → Q (.ref p) H'
def prtP (d : Int) (ks : List Str) (q : PT) : PyData := .list [.int d, .tuple (ks.map .str), .tuple (q.ps.map .str), .tuple (q.rs.map roadP), .tuple (q.bs.map barP)]
theorem PrtAt.dp {K : PySem.W.Frag} {H : Hp} {p : Addr} {d : Int} {ks : List Str} {q : PT} (m : PrtAt K H p d ks q) : Dp K H (.ref p) (prtP d ks q) := by
  obtain ⟨ki, pl, ro, ba, xs, zs, hp, hki, hpl, hro, hrs, hba, hzs⟩ := m
  exact .lst (SqL.of hp) (.cons (.int _) (.cons (.tup (SqT.of hki) (dpAll_strs _)) (.cons (.tup (SqT.of hpl) (dpAll_strs _)) (.cons (.tup (SqT.of hro) (dpAll_of (fun _ _ m => m.dp) hrs)) (.cons (.tup (SqT.of hba) (dpAll_of (fun _ _ m => GBar.dp m) hzs)) .nil)))))
theorem Lay.list' {n : Nat} {ds : List PyData} (h : ∀ d ∈ ds, Lay n d) : Lay (n + 1) (.list ds) := by
  obtain ⟨a, b⟩ := lay_all h
  refine ⟨by simpa [PyData.canLay0] using a, ?_⟩
  simp only [PyData.depth]
  omega
theorem prt_lay {d : Int} {ks : List Str} {q : PT} (sp : SP d ks q) : Lay 6 (prtP d ks q) := by
  refine Lay.list' fun e he => ?_
  simp only [List.mem_cons, List.not_mem_nil, or_false] at he
  rcases he with rfl | rfl | rfl | rfl | rfl
  · exact (Lay.int _).mono (by decide)
  · exact (lay_strs (all_nm sp.ok.kn)).mono (by decide)
  · exact (lay_strs (all_nm sp.ok.pn)).mono (by decide)
  · exact lay_roadsP sp.good sp.ok.kn
  · exact (lay_barsP sp.bnm).mono (by decide)
section
variable {Pg : Program} {w : World} {K : PySem.W.Frag} {mg : Str → Option Value} {base : Heap} {C P : Addr}
theorem ok_make {f fI M : Addr} {fd fdI : FuncData} {mv : List Value} (F : Fun K "_law_make" "_law_make" sMk f fd) (TM : TxtM K M) (hls : mg "list" = none) (Mk : L2.Mk K M fI) (gM : mg "Map" = some (.ref M))
    (GI : FnOk Pg w K mg base (L2N.CX Pg w) 5 fI fdI pInit (spInitX K M C P)) (kb : KBn K fdI pInit 1 kMapC (fun us ws => gMapC us mv ws) (fun vs zs => gMapC vs (([] : List (Str × V)).map (·.2)) zs)) :
    FnOk Pg w K mg base CX0 7 f fd ["parts"] (spMake K M P) := by
  refine F.ok scMk (fun vs H Q E h => ?_) (fun cdv A outer s H vs Q E hr h => ?_)
  · obtain ⟨p, d, ks, q, rfl, _⟩ := h
    rfl
  · obtain ⟨p, d, ks, q, rfl, ⟨ki, pl, ro, ba, xs, zs, hp, hki, hpl, hro, hrs, hba, hzs⟩, sp, hP, k⟩ := h
    refine ⟨_, pss_one (ps_ret (pe_makeK0 (E := E0) Mk GI hr (by rfl) gM kb (passF rfl rfl) (pk_cons (pe_ix (r := rIxL K) ix_list (pv 0) pe_int (fun _ _ => rfl)) (pk_cons (pe_callTy call_list_of (by rfl) hls (by decide +kernel) (pa_cons (pe_ix (r := rIxL K) ix_list (pv 0) pe_int (fun _ _ => rfl)) pa_nil)) (pk_cons (pe_callTy call_list_of (by rfl) hls (by decide +kernel) (pa_cons (pe_ix (r := rIxL K) ix_list (pv 0) pe_int (fun _ _ => rfl)) pa_nil))
        (pk_cons (pe_callTy call_list_of (by rfl) hls (by decide +kernel) (pa_cons (pe_ix (r := rIxL K) ix_list (pv 0) pe_int (fun _ _ => rfl)) pa_nil)) (pk_cons (pe_callTy call_list_of (by rfl) hls (by decide +kernel) (pa_cons (pe_ix (r := rIxL K) ix_list (pv 0) pe_int (fun _ _ => rfl)) pa_nil)) pk_nil))))))), ?_⟩
    refine ⟨_, rfl, p, _, 0, _, rfl, rfl, SqL.of hp, rfl, ?_⟩
    refine ⟨_, rfl, p, _, 1, _, rfl, rfl, SqL.of hp, rfl, ki, _, rfl, .inr (SqT.of hki), fun k1 n1 => ?_⟩
    have g1 := Grew.new hP (o := .lst (ks.map V.str)) n1
    refine ⟨_, rfl, p, _, 2, _, rfl, rfl, SqL.of (g1.lst hP hp), rfl, pl, _, rfl, .inr (SqT.of (g1.tup hP hpl)), fun k2 n2 => ?_⟩
    have g2 := Grew.new g1.tab (o := .lst (q.ps.map V.str)) n2
    have g12 := g1.trans g2
    refine ⟨_, rfl, p, _, 3, _, rfl, rfl, SqL.of (g12.lst hP hp), rfl, ro, _, rfl, .inr (SqT.of (g12.tup hP hro)), fun k3 n3 => ?_⟩
    have g3 := Grew.new g12.tab (o := .lst xs) n3
    have g13 := g12.trans g3
    refine ⟨_, rfl, p, _, 4, _, rfl, rfl, SqL.of (g13.lst hP hp), rfl, ba, _, rfl, .inr (SqT.of (g13.tup hP hba)), fun k4 n4 => ?_⟩
    have g4 := Grew.new g13.tab (o := .lst zs) n4
    have g14 := g13.trans g4
    refine ⟨rfl, rfl, fun x dx nx ndx nex => ?_⟩
    have e1 := (g2.trans (g3.trans g4)).lst g1.tab (b := k1) (xs := ks.map V.str) upd_same
    have e2 := (g3.trans g4).lst g12.tab (b := k2) (xs := q.ps.map V.str) upd_same
    have e3 := g4.lst g13.tab (b := k3) (xs := xs) upd_same
    refine initX_of (ck := true) (cp := true) (cr := true) (cb := true) (xs := xs) (zs := zs) g14.tab nx ndx nex (SqL.of e1) (SqL.of e2) (SqL.of e3) (paired_mapl (fun _ _ m => (m.grew g14 hP).gen) hrs) (SqL.of upd_same) (Paired.map' hzs fun _ _ m => m.grew g14 hP) sp.ok fun H' ks' ps' rs' bs' g5 nx' qs hm => ?_
    obtain ⟨rfl, rfl, rfl, rfl⟩ := sp.made (List.Perm.refl _) (List.Perm.refl _) (List.Perm.refl _) qs
    exact ⟨rfl, k H' x (g14.trans g5) (g14.free nx) hm⟩
theorem ok_fields {f M : Addr} {fd : FuncData} (F : Fun K "_law_fields" "_law_fields" sFd f fd) (TM : TxtM K M) :
    FnOk Pg w K mg base CX0 1 f fd ["chart"] (spFields K M P) := by
  refine F.ok scFd (fun vs H Q E h => ?_) (fun cdv A outer s H vs Q E hr h => ?_)
  · obtain ⟨x, d, ks, q, rfl, _⟩ := h
    rfl
  · obtain ⟨x, d, ks, q, rfl, ⟨dx, fs, kk, pp, rr, D, bb, D2, ys, zs, hx, m⟩, hP, k⟩ := h
    refine ⟨_, pss_one (ps_ret (pe_lst (pa_cons (pe_fld (pv 0) rfl) (pa_cons (pe_fld (pv 0) rfl) (pa_cons (pe_fld (pv 0) rfl) (pa_cons (pe_fld (pv 0) rfl) (pa_cons (pe_fld (pv 0) rfl) pa_nil))))))), ?_⟩
    refine ⟨_, rfl, x, M, dx, fs, _, rfl, hx, TM.cl, TM.n1, m.f1, _, rfl, x, M, dx, fs, _, rfl, hx, TM.cl, TM.n2, m.f2, _, rfl, x, M, dx, fs, _, rfl, hx, TM.cl, TM.n3, m.f3, _, rfl, x, M, dx, fs, _, rfl, hx, TM.cl, TM.n4, m.f4, _, rfl, x, M, dx, fs, _, rfl, hx, TM.cl, TM.n6, m.f6, (show 5 ≤ sizeLine by decide), fun p np => ?_⟩
    have g := Grew.new hP (o := .lst [.int d, .ref kk, .ref pp, .ref rr, .ref bb]) np
    exact k _ p g ⟨kk, pp, rr, bb, ys, zs, upd_same, g.tup hP m.k, g.tup hP m.p, g.tup hP m.r, Paired.map' m.ry fun _ _ m => m.grew g hP, g.tup hP m.b, Paired.map' m.bz fun _ _ m => m.grew g hP⟩
end
end W

set_option Elab.async false
set_option linter.all false
set_option maxRecDepth 100000
set_option maxHeartbeats 4000000
namespace W
open PySem PySem.Spec PyProof.Rows L2 GxR MyG MyS SqX
open MyH (rInDT rNotInDT op_inDT op_notInDT)
/-! ### Map.road_names -/
abbrev sRNames : Stmt := inClass (top 32) 1
def spRNames (K : PySem.W.Frag) (M P : Addr) : Sp := fun vs H Q _ => ∃ (x : Addr) (d : Int) (ks ps : List Str) (rs : List RoadD) (bs : List (Str × Str)), vs = [.ref x] ∧ MapAt K H M x d ks ps rs bs ∧ TabG H P ∧ rs.length ≤ 60 ∧
  ∀ H' p, Grew P H H' → H p = none → H' p = some (.tup (namesV rs)) → Q (.ref p) H'
section
variable {Pg : Program} {w : World} {K : PySem.W.Frag} {mg : Str → Option Value} {base : Heap} {C P : Addr}
theorem scRNames : FnScope ["self", "road"] ["self"] (defScope sRNames) := ⟨rfl, rfl, rfl, by decide +kernel, rfl, by decide +kernel, by decide +kernel⟩
theorem ok_rnames {f M : Addr} {fd : FuncData} {t1 : Tok} (F : Fun K "road_names" "Map.road_names" sRNames f fd) (TM : TxtM K M) (ht : mg "tuple" = none) (hn : mg "NAME" = some (.int 0 t1)) : FnOk Pg w K mg base CX0 1 f fd ["self"] (spRNames K M P) := by
  refine F.ok scRNames (fun vs H Q E h => ?_) (fun cdv A outer s H vs Q E hr h => ?_)
  · obtain ⟨x, d, ks, ps, rs, bs, rfl, _⟩ := h
    rfl
  · obtain ⟨x, d, ks, ps, rs, bs, rfl, hM, hP, h60, k⟩ := h
    refine ⟨_, pss_one (ps_ret (pe_callTy call_tuple_of (by rfl) ht (by decide +kernel) (pa_cons (pe_lc (own := [("road", 1)]) (g := gName 1) (tt := tYes) rfl scRNames.nd (pi_tup (pe_fld (pv 0) rfl)) (blkOk_by (N := ["self", "road"]) (sc := defScope sRNames) (by decide +kernel)) (fun _ _ _ _ _ => pg_name (i := 1) scRNames.nd rfl (Or.inl rfl)) (fun _ _ _ _ _ => pts_nil)
          (fun _ _ _ _ _ => pe_ix (r := rIxT K) ix_tup (pv 1) (pe_gI hn) (fun _ _ => rfl))) pa_nil))), ?_⟩
    obtain ⟨dx, fs, kk, pp, rr, D, bb, D2, ys, zs, hx, F7⟩ := hM
    refine ⟨_, rfl, x, M, dx, fs, _, rfl, hx, TM.cl, TM.n4, F7.f4, rr, rfl, ⟨_, SqT.of F7.r⟩, fun L nL => lc_tup (K := K) (a := rr) (xs := ys) (fun i H1 => Grew P H H1 ∧ H1 L = some (.lst (namesV (rs.take i))))
      ⟨Grew.new hP nL, upd_same⟩ (fun i H1 _ p => SqT.of (p.1.tup hP F7.r)) (fun i y H1 hy p => ?_) (fun H1 p => ?_)⟩
    · obtain ⟨g, hD⟩ := p
      obtain ⟨r, hr1, m⟩ := Paired.at F7.ry hy
      obtain ⟨t, q, h, rfl, et, _⟩ := m.grew g hP
      have hi := (List.getElem?_eq_some_iff.mp hr1).1
      refine ⟨rfl, _, rfl, t, _, 0, .str r.name, rfl, rfl, SqT.of et, rfl, _, hD, ?_, g.write hD (fun _ z => by cases z) nL, ?_⟩
      · unfold namesV
        rw [List.length_map, List.length_map, List.length_take, sizeLine_eq]; omega
      · rw [upd_same, List.take_succ, hr1]
        unfold namesV
        rw [List.map_append, List.map_append]; rfl
    · obtain ⟨g, hD⟩ := p
      rw [← Paired.len F7.ry, List.take_length] at hD
      refine ⟨L, _, rfl, .inl ⟨SqL.of hD, fun q nq => ?_⟩⟩
      exact k _ q (g.put nq) (g.free nq) upd_same
end
theorem PartsSm.put {d : Int} {ks ps : List Str} {rs : List RoadD} {bs : List (Str × Str)} (h : PartsOk d ks ps rs bs) {r : RoadD} (hr : SmallG (rG r)) : PartsSm d ks ps (putR r rs) bs := by
  obtain ⟨s⟩ := h.sm
  have q2 := h.r.len
  have l := List.length_filter_le (fun q : RoadD => !decide (q.name = r.name)) rs
  refine ⟨⟨s.d, s.kl, s.k, s.pl, s.p, ?_, fun g hg => ?_, s.bl, s.b⟩⟩
  · rw [List.length_map]
    unfold putR butR
    rw [List.length_append]
    show _ + 1 ≤ _
    omega
  · unfold putR at hg
    rw [List.map_append] at hg
    rcases List.mem_append.mp hg with h1 | h1
    · obtain ⟨r0, h0, e⟩ := List.mem_map.mp h1
      exact s.r g (List.mem_map.mpr ⟨r0, (mem_butR.mp h0).1, e⟩)
    · have e : Sum.inl g = itemG r := List.mem_singleton.mp h1
      have e' : g = rG r := Sum.inl.inj e
      rw [e']
      exact hr
theorem RoadAt.gx {K : PySem.W.Frag} {H : Hp} {r : RoadD} {v : V} (m : RoadAt K H r v) : GRoadX K H (rG r) v := RoadAt.gen m
theorem GoodR.small {d : Int} {ks : List Str} {r : RoadD} (h : GoodR d ks r) (hk : ks.all isNm = true) : SmallG (rG r) := by
  have l : ∀ {z : Str}, isNm z = true → z.length ≤ 1000 := fun e => Nat.le_trans (isNm_len e) (by decide)
  have m1 := h.m1
  have m2 := h.m2
  have un := h.un
  refine ⟨l h.n, l h.s, l h.g, ?_, ?_, fun z hz => l (List.all_eq_true.mp hk _ (h.u z hz)), fun ps e => ?_⟩
  · show r.minutes.natAbs < _
    omega
  · show r.users.length ≤ _
    omega
  · have e2 : hoursG r.hours = some ps := e
    have oh := h.h
    cases c : r.hours with
    | none => rw [c] at e2; cases e2
    | some gs =>
      rw [c] at e2 oh
      have e3 : gs.map (fun p : Int × Int => [p.1, p.2]) = ps := Option.some.inj e2
      rw [← e3, List.length_map]
      have := oh.1
      omega
/-! ### a written road -/
def UnkM (U P : Addr) (H : Hp) (E : XK) : Prop := ∀ H' z, Grew P H H' → Unk U H' E z
theorem UnkM.on {U P : Addr} {H H1 : Hp} {E : XK} (h : UnkM U P H E) (g : Grew P H H1) : UnkM U P H1 E := fun H' z g2 => h H' z (g.trans g2)
abbrev sWw : Stmt := top 40
abbrev nWw : List Str := ["chart", "road", "behind"]
theorem scWw : FnScope nWw ["chart", "road"] (defScope sWw) := ⟨rfl, rfl, rfl, by decide +kernel, rfl, by decide +kernel, by decide +kernel⟩
def spWw (K : PySem.W.Frag) (M C P : Addr) : Sp := fun vs H Q E => ∃ (x : Addr) (v : V) (r : RoadD) (d : Int) (ks : List Str) (q : PT), vs = [.ref x, v] ∧ RoadAt K H r v ∧ SmallG (rG r) ∧ TxtR r ∧ MapAt K H M x d ks q.ps q.rs q.bs ∧ TabG H P ∧ SP d ks q ∧
  (PartsOk d ks q.ps (putR r q.rs) q.bs → Asc r.users → ∀ H' y rs', Grew P H H' → H y = none → rs'.Perm (putR r q.rs) → AscR rs' → MapAt K H' M y d ks q.ps rs' q.bs → Q (.ref y) H') ∧ (¬ (PartsOk d ks q.ps (putR r q.rs) q.bs ∧ Asc r.users) → BadM C P H E)
section
variable {Pg : Program} {w : World} {K : PySem.W.Frag} {mg : Str → Option Value} {base : Heap} {C P : Addr}
theorem ok_ww {f fR M : Addr} {fd fdR : FuncData} {t1 : Tok} (F : Fun K "_with_written_road" "_with_written_road" sWw f fd) (T : TxtE mg K C) (TM : TxtM K M) (i_NAME : mg "NAME" = some (.int 0 t1))
    (mWR : Meth K M "with_road" fR) (GWR : FnOk Pg w K mg base (L2N.CX Pg w) 8 fR fdR ["self", "road"] (spWithRX K M C P)) (bWR : Binds K fdR ["self", "road"] []) :
    FnOk Pg w K mg base (L2N.CX Pg w) 10 f fd ["chart", "road"] (spWw K M C P) := by
  refine MyN.okN F scWw (fun vs H Q E h => ?_) (fun cdv A outer s H vs Q E hr h => ?_)
  · obtain ⟨x, v, r, d, ks, q, rfl, _⟩ := h
    rfl
  · obtain ⟨x, v, r, d, ks, q, rfl, hv, sg, tx, hM, hP, sp, kQ, kE⟩ := h
    refine ⟨_, (pss_cons (ps_set (i := 2) scWw.nd rfl (Or.inl rfl) (pe_meth (E := E) (pv 0) TM.cl mWR GWR (hr.mono (by decide)) bWR .nil (L2N.passes_call (L2N.takes_of rfl rfl rfl rfl) (fun _ _ _ _ h => h)) (pa_cons (pv 1) pa_nil)))
      (pss_cons (ps_if (pt_cmpR (r := rNotInDT K) (op_notInDT (u65 hr)) (pv 1) (pe_fld (pv 2) rfl) (by rfl)) (pss_one (L2N.ps_raise rfl (L2N.takes_of rfl rfl rfl rfl) (MyN.mk1 PySem.F.excBase_ValueError T.xC T.gC T.kC (raises_own T.bC T.tC) (by rfl) (pe_joined (PJ.cons pe_str (PJ.cons (pe_fmt (pe_ix (r := rIxT K) ix_tup (pv 1) (pe_gI i_NAME) (fun _ _ => rfl))) (PJ.cons pe_str PJ.nil)))))))
        pss_nil)
      (pss_one (ps_ret (pv 2))))), ?_⟩
    obtain ⟨dx, fs, kk, pp, rr, D, bb, D2, ys, zs, hx, m⟩ := id hM
    refine ⟨_, rfl, x, dx, fs, rfl, hx, m.f0 _ (by decide +kernel), _, rfl, x, v, r, d, ks, q.ps, q.rs, q.bs, rfl, hv.gx, hM, sp.ok.r.len, hP, PartsSm.put sp.ok sg, fun ok y H' ks' ps' rs' bs' g ny sr m' => ?_, fun no => kE fun h => no h.1⟩
    obtain rfl : ks' = ks := asc_one sr.k (List.Perm.refl _) sr.ka sp.ka
    obtain rfl : ps' = q.ps := asc_one sr.p (List.Perm.refl _) sr.pa sp.pa
    obtain rfl : bs' = q.bs := ascB_one sr.b (List.Perm.refl _) sr.ba sp.ba
    have s2 := SP.of_srt ok sr
    have perm : Asc r.users → rs'.Perm (putR r q.rs) := fun a => keptAll_perm sr.r fun r0 h0 => by
      rcases List.mem_append.mp (show r0 ∈ butR r.name q.rs ++ [r] from h0) with h | h
      · exact sp.ua r0 (mem_butR.mp h).1
      · rw [List.mem_singleton.mp h]; exact a
    have anyR := any_eqv pl_road (fun _ _ => roadP_inj) rs' r
    obtain ⟨dx2, fs2, kk2, pp2, rr2, D3, bb2, D4, ys2, zs2, hx2, m2⟩ := id m'
    have hv2 := hv.grew g hP
    refine ⟨_, rfl, _, rfl, y, M, dx2, fs2, _, rfl, hx2, TM.cl, TM.n4, m2.f4, roadP r, rs'.map roadP, hv2.dp, .tup (SqT.of m2.r) (dpAll_of (fun _ _ m => m.dp) m2.ry), tx.lay.shaped (by decide), (lay_roadsP (SP.good s2) ok.kn).shaped (by decide), _, rfl, ?_⟩
    by_cases c : r ∈ rs'
    · refine if_f (by rw [anyR.mpr c]; rfl) ⟨_, rfl, ?_⟩
      obtain ⟨l, pm, pk⟩ := sr.r
      obtain ⟨r0, _, k⟩ := Paired.mem pk (pm.mem_iff.mpr c)
      have a : Asc r.users := k.2.2.2.2.2.2
      exact kQ ok a H' y rs' g ny (perm a) sr.ra m'
    · refine if_t (by rw [Bool.eq_false_iff.mpr fun e => c (anyR.mp e)]; rfl) ?_
      have bad : E (.ref C) none H' := ((kE fun h => c ((perm h.2).mem_iff.mpr (by unfold putR; exact List.mem_append_right _ List.mem_cons_self))).on g).here g.tab
      refine tJs_ok (fun z => bad) 0 (fun t ht => ?_) (Nat.zero_le _) (by show 0 + 1000 * 3 ≤ 100000; decide)
      simp only [List.mem_cons, List.not_mem_nil, or_false] at ht
      obtain ⟨tq, uq, hq, rfl, etq, _, _⟩ := id hv2
      rcases ht with rfl | rfl | rfl
      · exact short_c (by decide +kernel)
      · exact short_s (y := r.name) (fun Q q => ⟨_, rfl, tq, _, 0, _, rfl, rfl, SqT.of etq, rfl, q⟩) sg.n
      · exact short_c (by decide +kernel)
end
end W

set_option Elab.async false
set_option linter.all false
set_option maxRecDepth 100000
set_option maxHeartbeats 4000000
namespace W
open PySem PySem.Spec PyProof.Rows L2 GxR MyG MyS SqX
open CatB (NewT)
open MyH (rInDT rNotInDT op_inDT op_notInDT)
/-! ### what a change makes of a map, or what it raises -/
def ResM (K : PySem.W.Frag) (M C U P : Addr) (H : Hp) (d : Int) (ks : List Str) (o : Option PT) (Q : VK) (E : XK) : Prop :=
  (∀ q', o = some q' → ∀ H' y, Grew P H H' → H y = none → MapAt K H' M y d ks q'.ps q'.rs q'.bs → Q (.ref y) H') ∧ (o = none → BadM C P H E ∧ UnkM U P H E)
theorem ResM.on {K : PySem.W.Frag} {M C U P : Addr} {H H1 : Hp} {d : Int} {ks : List Str} {o : Option PT} {Q : VK} {E : XK} (h : ResM K M C U P H d ks o Q E) (g : Grew P H H1) : ResM K M C U P H1 d ks o Q E :=
  ⟨fun q' e H' y g' ny m => h.1 q' e H' y (g.trans g') (g.free ny) m, fun e => ⟨(h.2 e).1.on g, (h.2 e).2.on g⟩⟩
abbrev sWn : Stmt := top 37
abbrev sWt : Stmt := top 39
abbrev nWn : List Str := ["chart", "road"]
abbrev nWt : List Str := ["chart", "name", "part", "before", "after", "road"]
theorem scWn : FnScope nWn ["chart", "road"] (defScope sWn) := ⟨rfl, rfl, rfl, by decide +kernel, rfl, by decide +kernel, by decide +kernel⟩
theorem scWt : FnScope nWt ["chart", "name", "part", "before", "after"] (defScope sWt) := ⟨rfl, rfl, rfl, by decide +kernel, rfl, by decide +kernel, by decide +kernel⟩
def spWn (K : PySem.W.Frag) (M C U P : Addr) : Sp := fun vs H Q E => ∃ (x : Addr) (v : V) (r : RoadD) (d : Int) (ks : List Str) (q : PT), vs = [.ref x, v] ∧ RoadAt K H r v ∧ GoodR d ks r ∧ MapAt K H M x d ks q.ps q.rs q.bs ∧ TabG H P ∧ SP d ks q ∧ ResM K M C U P H d ks (chg d ks q (.road true r)) Q E
def spWt (K : PySem.W.Frag) (M C U P : Addr) : Sp := fun vs H Q E => ∃ (x : Addr) (n : Str) (a b : Pt) (va vb : V) (d : Int) (ks : List Str) (q : PT), vs = [.ref x, .str n, .int (a.spot : Int), va, vb] ∧ PtAt K H a va ∧ PtAt K H b vb ∧ ChgOk d ks (.part n a b) ∧ MapAt K H M x d ks q.ps q.rs q.bs ∧ TabG H P ∧ SP d ks q ∧ ResM K M C U P H d ks (chg d ks q (.part n a b)) Q E
section
variable {Pg : Program} {w : World} {K : PySem.W.Frag} {mg : Str → Option Value} {base : Heap} {C P : Addr}
theorem ok_wn {f fW fRn M U pp : Addr} {fd fdW fdRn : FuncData} {t1 t2 : Tok} (F : Fun K "_with_new_road" "_with_new_road" sWn f fd) (T : TxtE mg K C) (TM : TxtM K M) (i_NAME : mg "NAME" = some (.int 0 t1)) (i_PARTS : mg "PARTS" = some (.int 6 t2)) (hl : mg "len" = none)
    (pr : PropOf K M "road_names" pp fRn) (GRn : FnOk Pg w K mg base CX0 1 fRn fdRn ["self"] (spRNames K M P)) (bRn : Binds K fdRn ["self"] [])
    (GWw : FnOk Pg w K mg base (L2N.CX Pg w) 10 fW fdW ["chart", "road"] (spWw K M C P)) (gWw : mg "_with_written_road" = some (.ref fW)) (kWw : PySem.W.keepIn K (.ref fW) = true) (bWw : Binds K fdW ["chart", "road"] []) :
    FnOk Pg w K mg base (L2N.CX Pg w) 12 f fd ["chart", "road"] (spWn K M C U P) := by
  refine MyN.okN F scWn (fun vs H Q E h => ?_) (fun cdv A outer s H vs Q E hr h => ?_)
  · obtain ⟨x, v, r, d, ks, q, rfl, _⟩ := h
    rfl
  · obtain ⟨x, v, r, d, ks, q, rfl, hv, gr, hM, hP, sp, kQ, kE⟩ := h
    refine ⟨_, (pss_cons (ps_if (PW.pt (pw_or (pt_cmpR op_ne (pe_callB (r := rLenK K) call_len_seq (by rfl) hl PySem.boot_len (pa_cons (pv 1) pa_nil)) (pe_gI i_PARTS) (nomark _)) (pw_or1 (pt_cmpR (r := rIn K false) op_in_seq (pe_ix (r := rIxT K) ix_tup (pv 1) (pe_gI i_NAME) (fun _ _ => rfl)) (pe_prop (pv 0) TM.cl pr GRn (hr.mono (by decide)) bRn .nil pass0 rfl) (by rfl))))) (pss_one (L2N.ps_raise rfl (L2N.takes_of rfl rfl rfl rfl) (MyN.mk1 PySem.F.excBase_ValueError T.xC T.gC T.kC (raises_own T.bC T.tC) (by rfl) pe_str)))
        pss_nil)
      (pss_one (ps_ret (pe_call (E := E) GWw (hr.mono (by decide)) (by rfl) gWw kWw bWw .nil (L2N.passes_call (L2N.takes_of rfl rfl rfl rfl) (fun _ _ _ _ h => h)) (pa_cons (pv 0) (pa_cons (pv 1) pa_nil)))))), ?_⟩
    obtain ⟨t, u, hh, rfl, et, eu, eh⟩ := id hv
    obtain ⟨dx, fs, kk, pp2, rr, D, bb, D2, ys, zs, hx, m⟩ := id hM
    refine ⟨_, rfl, t, _, rfl, .inr (SqT.of et), rfl, _, rfl, if_f rfl ?_⟩
    refine ⟨_, rfl, t, _, 0, _, rfl, rfl, SqT.of et, rfl, _, rfl, x, dx, fs, rfl, hx, x, d, ks, q.ps, q.rs, q.bs, rfl, hM, hP, sp.ok.r.len, fun H1 pn g1 npn hpn => ?_⟩
    refine ⟨pn, _, rfl, .inr (SqT.of hpn), rfl, flat_strs _, ?_⟩
    rw [show inV (V.str r.name) (namesV q.rs) = decide (r.name ∈ nmsR q.rs) from inV_dec r.name _]
    by_cases c : r.name ∈ nmsR q.rs
    · refine ⟨_, rfl, if_t (show decide (r.name ∈ nmsR q.rs) = true from decide_eq_true c) ?_⟩
      have e : chg d ks q (.road true r) = none := by simp only [chg]; exact if_pos (.inl c)
      exact ((kE e).1.on g1).here g1.tab
    refine ⟨_, rfl, if_f (show decide (r.name ∈ nmsR q.rs) = false from decide_eq_false c) ?_⟩
    have eP := okP_road sp.ok gr c
    have ep : putR r q.rs = q.rs ++ [r] := by unfold putR; rw [butR_none c]
    refine ⟨_, rfl, _, rfl, x, .ref t, r, d, ks, q, rfl, hv.grew g1 hP, gr.small sp.ok.kn, gr.txt sp.ok.kn, MapAt.grew g1 hP hM, g1.tab, sp, fun ok ua H' y rs' g' ny pm asc hm => ?_, fun no => ?_⟩
    · have nd := ok.r.nd
      rw [ep] at pm nd
      have e : chg d ks q (.road true r) = some ⟨q.ps, srtR (q.rs ++ [r]), q.bs⟩ := by
        simp only [chg]
        exact if_neg fun h => h.elim c (eP.mp ok)
      refine kQ _ e H' y (g1.trans g') (g1.free ny) ?_
      rw [srtR_eq nd pm asc]
      exact hm
    · have e : chg d ks q (.road true r) = none := by
        simp only [chg]
        exact if_pos (.inr (Classical.byContradiction fun h => no ⟨eP.mpr h, gr.ua⟩))
      exact (kE e).1.on g1
theorem ok_wt {f fW fR M U : Addr} {fd fdW fdR : FuncData} (F : Fun K "_with_part" "_with_part" sWt f fd) (T : TxtE mg K C) (TM : TxtM K M)
    (mRm : Meth K M "road" fR) (GRm : FnOk Pg w K mg base (L2N.CX Pg w) 4 fR fdR ["self", "name"] (spRoadM K M U)) (bRm : Binds K fdR ["self", "name"] [])
    (GWw : FnOk Pg w K mg base (L2N.CX Pg w) 10 fW fdW ["chart", "road"] (spWw K M C P)) (gWw : mg "_with_written_road" = some (.ref fW)) (kWw : PySem.W.keepIn K (.ref fW) = true) (bWw : Binds K fdW ["chart", "road"] []) :
    FnOk Pg w K mg base (L2N.CX Pg w) 12 f fd ["chart", "name", "part", "before", "after"] (spWt K M C U P) := by
  refine MyN.okN F scWt (fun vs H Q E h => ?_) (fun cdv A outer s H vs Q E hr h => ?_)
  · obtain ⟨x, n, a, b, va, vb, d, ks, q, rfl, _⟩ := h
    rfl
  · obtain ⟨x, n, a, b, va, vb, d, ks, q, rfl, ma, mb, hc, hM, hP, sp, kQ, kE⟩ := h
    refine ⟨_, (pss_cons (ps_set (i := 5) scWt.nd rfl (Or.inl rfl) (pe_meth (E := E) (pv 0) TM.cl mRm GRm (hr.mono (by decide)) bRm .nil (L2N.passes_call (L2N.takes_of rfl rfl rfl rfl) (fun _ _ _ _ h => h)) (pa_cons (pv 1) pa_nil)))
      (pss_cons (ps_if (PW.pt (pw_or (pt_cmpR (r := rNeD K) (op_neD hr.units) (pe_ix (r := rIxT K) ix_tup (pv 5) (pv 2) (fun _ _ => rfl)) (pv 3) (nomark _)) (pw_or1 (pt_cmpR (r := rEqD K) (op_eqD hr.units) (pv 4) (pv 3) (nomark _))))) (pss_one (L2N.ps_raise rfl (L2N.takes_of rfl rfl rfl rfl) (MyN.mk1 PySem.F.excBase_ValueError T.xC T.gC T.kC (raises_own T.bC T.tC) (by rfl) (pe_joined (PJ.cons pe_str (PJ.cons (pe_fmt (pv 1)) (PJ.cons pe_str PJ.nil)))))))
        pss_nil)
      (pss_one (ps_ret (pe_call (E := E) GWw (hr.mono (by decide)) (by rfl) gWw kWw bWw .nil (L2N.passes_call (L2N.takes_of rfl rfl rfl rfl) (fun _ _ _ _ h => h)) (pa_cons (pv 0) (pa_cons (pe_op CatB.op_catB (pe_op CatB.op_catB (pe_slice CatB.sl_tupB (pv 5) po_none (po_some (pv 2))) (pe_tup (pa_cons (pv 4) pa_nil))) (pe_slice CatB.sl_tupB (pv 5) (po_some (pe_op op_add (pv 2) pe_int)) po_none)) pa_nil))))))), ?_⟩
    obtain ⟨hn, sk, sa, sb⟩ := id hc
    have good := SP.good sp
    have ok := sp.ok
    obtain ⟨dx, fs, kk, pp2, rr, D, bb, D2, ys, zs, hx, m⟩ := id hM
    have ln : n.length ≤ 1000 := Nat.le_trans (isNm_len hn) (by decide)
    refine ⟨_, rfl, x, dx, fs, rfl, hx, m.f0 _ (by decide +kernel), _, rfl, x, n, d, ks, q.ps, q.rs, q.bs, rfl, ln, hM, fun r hr en v hv => ?_, fun no => ?_⟩
    case refine_2 =>
      have e : chg d ks q (.part n a b) = none := by simp only [chg]; exact if_neg fun ⟨r, hr, e, _⟩ => no r hr e
      exact (kE e).2 H n (Grew.refl hP)
    subst en
    obtain ⟨tr, u, hh, rfl, et, eu, eh⟩ := id hv
    have sab : a.spot = b.spot := by cases a <;> cases b <;> first | exact sk.elim | rfl
    obtain ⟨vo, hvo, mo⟩ : ∃ vo, atI [V.str r.name, V.str r.start, V.str r.goal, V.int r.minutes, V.ref u, hh] (b.spot : Int) = some vo ∧ PtAt K H (Pt.of r b) vo := by
      cases b with
      | mi i => exact ⟨_, rfl, rfl⟩
      | ki us => exact ⟨_, rfl, u, rfl, eu⟩
      | ho hs => exact ⟨_, rfl, eh⟩
    have so : PtSm (Pt.of r b) := by
      have gr := good r hr
      cases b with
      | mi i => have := gr.m1; have := gr.m2; show r.minutes.natAbs < 10 ^ 9; omega
      | ki us => exact ⟨by have := gr.un; omega, List.all_eq_true.mpr fun z hz => List.all_eq_true.mp ok.kn z (gr.u z hz)⟩
      | ho hs => exact hours_sm gr.h ok.d2
    have sko : SameK (Pt.of r b) a := by cases a <;> cases b <;> first | exact sk.elim | exact True.intro
    have parts : ∀ (σ : L2.St), σ[1]? = some (some (V.str r.name)) → ∀ t ∈ [tC (.str "the road "), tFmt (tVar 1), tC (.str " cannot be changed from this to that")], Short t σ H := fun σ eσ t ht => by
      simp only [List.mem_cons, List.not_mem_nil, or_false] at ht
      rcases ht with rfl | rfl | rfl
      · exact short_c (by decide +kernel)
      · exact short_v eσ ln
      · exact short_c (by decide +kernel)
    rw [sab]
    refine ⟨_, rfl, _, rfl, tr, _, _, _, rfl, rfl, SqT.of et, hvo, _, rfl, ptP (Pt.of r b), ptP a, mo.dp, ma.dp, (lay_pt so).shaped (by decide), (lay_pt sa).shaped (by decide), _, rfl, ?_⟩
    by_cases c2 : Pt.of r b = a
    case neg =>
      refine if_t (by rw [Bool.eq_false_iff.mpr fun e => c2 (ptP_inj sko ((eqv_iff _ _ (pl_pt _) (pl_pt _)).mp e))]; rfl) ?_
      have e : chg d ks q (.part r.name a b) = none := by simp only [chg]; exact if_neg fun ⟨r', hr', e, e2, _⟩ => c2 (by rw [← uniqN ok.r.nd hr' hr e]; exact e2)
      exact tJs_ok (fun z => (kE e).1.here hP) 0 (parts _ rfl) (Nat.zero_le _) (by show 0 + 1000 * 3 ≤ 100000; decide)
    refine if_f (by rw [c2, (eqv_iff _ _ (pl_pt a) (pl_pt a)).mpr rfl]; rfl) ?_
    refine ⟨_, rfl, _, rfl, ptP b, ptP a, mb.dp, ma.dp, (lay_pt sb).shaped (by decide), (lay_pt sa).shaped (by decide), _, rfl, ?_⟩
    by_cases c3 : a = b
    · refine if_t (by rw [c3, (eqv_iff _ _ (pl_pt b) (pl_pt b)).mpr rfl]) ?_
      have e : chg d ks q (.part r.name a b) = none := by simp only [chg]; exact if_neg fun ⟨r', hr', e, e2, e3, _⟩ => e3 c3
      exact tJs_ok (fun z => (kE e).1.here hP) 0 (parts _ rfl) (Nat.zero_le _) (by show 0 + 1000 * 3 ≤ 100000; decide)
    have skb : SameK b a := by cases a <;> cases b <;> first | exact sk.elim | exact True.intro
    refine if_f (Bool.eq_false_iff.mpr fun e => c3 (ptP_inj skb ((eqv_iff _ _ (pl_pt _) (pl_pt _)).mp e)).symm) ?_
    refine ⟨_, rfl, _, rfl, _, rfl, _, rfl, tr, _, rfl, et, fun H5 A1 n5 => ?_⟩
    have g5 := newT_grew n5 hP
    refine ⟨_, rfl, (show 1 ≤ sizeLine by decide), fun A2 a2 => ?_⟩
    have g6' := Grew.new g5.tab (o := .tup [vb]) a2
    have g6 := g5.trans g6'
    have l6 : (cutV [V.str r.name, V.str r.start, V.str r.goal, V.int r.minutes, V.ref u, hh] none (some (b.spot : Int))).length ≤ 6 := cutV_length _ _ _
    refine ⟨A1, A2, _, _, rfl, rfl, g6'.tup g5.tab n5.2, upd_same, (by rw [sizeLine_eq]; show _ + 1 ≤ _; omega), fun H7 A3 n7 => ?_⟩
    have g7' := newT_grew n7 g6.tab
    have g7 := g6.trans g7'
    refine ⟨_, rfl, _, rfl, _, _, rfl, rfl, _, rfl, tr, _, rfl, g7.tup hP et, fun H8 A4 n8 => ?_⟩
    have g8' := newT_grew n8 g7.tab
    have g8 := g7.trans g8'
    have l62 : (cutV [V.str r.name, V.str r.start, V.str r.goal, V.int r.minutes, V.ref u, hh] (some ((b.spot : Int) + 1)) none).length ≤ 6 := cutV_length _ _ _
    refine ⟨A3, A4, _, _, rfl, rfl, g8'.tup g7.tab n7.2, n8.2, (by rw [List.length_append, sizeLine_eq]; show _ + 1 + _ ≤ _; omega), fun H9 A5 n9 => ?_⟩
    have g9' := newT_grew n9 g8.tab
    have g9 := g8.trans g9'
    have mr9 : RoadAt K H9 (Pt.put r b) (.ref A5) := by
      have eu9 := g9.tup hP eu
      have eh9 := eh.grew g9 hP
      have mb9 := mb.grew g9 hP
      have h9 := n9.2
      cases b with
      | mi i =>
        have e : vb = .int i := mb9
        subst e
        exact ⟨A5, u, hh, rfl, h9, eu9, eh9⟩
      | ki us =>
        obtain ⟨w', e, e'⟩ := mb9
        subst e
        exact ⟨A5, w', hh, rfl, h9, e', eh9⟩
      | ho hs => exact ⟨A5, u, vb, rfl, h9, eu9, mb9⟩
    have sgr := (good r hr).small ok.kn
    have sg : SmallG (rG (Pt.put r b)) := by
      cases b with
      | mi i => exact ⟨sgr.n, sgr.s, sgr.g, by have h : i.natAbs < 10 ^ 9 := sb; show i.natAbs < 10 ^ 12; omega, sgr.ul, sgr.u, sgr.h⟩
      | ki us => exact ⟨sgr.n, sgr.s, sgr.g, sgr.m, by have := sb.1; show us.length ≤ 1000; omega, fun z hz => Nat.le_trans (isNm_len (List.all_eq_true.mp sb.2 z hz)) (by decide), sgr.h⟩
      | ho hs => exact ⟨sgr.n, sgr.s, sgr.g, sgr.m, sgr.ul, sgr.u, fun ps e => by
          have e2 : hoursG hs = some ps := e
          cases hs with
          | none => cases e2
          | some gs =>
            have e3 : gs.map (fun p : Int × Int => [p.1, p.2]) = ps := Option.some.inj e2
            rw [← e3, List.length_map]
            have := (sb gs rfl).1
            omega⟩
    have txr := (good r hr).txt ok.kn
    have tx : TxtR (Pt.put r b) := by
      cases b with
      | mi i => exact ⟨txr.n, txr.s, txr.g, txr.u⟩
      | ki us => exact ⟨txr.n, txr.s, txr.g, fun z hz => all_nm sb.2 z hz⟩
      | ho hs => exact ⟨txr.n, txr.s, txr.g, txr.u⟩
    have nmb := (put_name r b).1
    have perm := setR_perm ok.r.nd hr b
    have iffs : (PartsOk d ks q.ps (putR (Pt.put r b) q.rs) q.bs ∧ Asc (Pt.put r b).users) ↔ fits d ks b := by
      rw [← fits_iff sp hr sb, ← ok_set ok hr b]
      exact ⟨fun h => ⟨partsOk_perm h.1 (List.Perm.refl _) (List.Perm.refl _) perm.symm (List.Perm.refl _), h.2⟩, fun h => ⟨partsOk_perm h.1 (List.Perm.refl _) (List.Perm.refl _) perm (List.Perm.refl _), h.2⟩⟩
    refine ⟨x, .ref A5, Pt.put r b, d, ks, q, rfl, mr9, sg, tx, MapAt.grew g9 hP hM, g9.tab, sp, fun okp ua H' y rs' g' ny pm asc hm => ?_, fun no => ?_⟩
    · have ft : fits d ks b := iffs.mp ⟨okp, ua⟩
      have e : chg d ks q (.part r.name a b) = some ⟨q.ps, setR r.name b q.rs, q.bs⟩ := by simp only [chg]; exact if_pos ⟨r, hr, rfl, c2, c3, ft⟩
      refine kQ _ e H' y (g9.trans g') (g9.free ny) ?_
      have es : rs' = setR r.name b q.rs := ascR_one (n := putR (Pt.put r b) q.rs) okp.r.nd pm perm.symm asc (ascR_set sp.ra _ _)
      show MapAt K H' M y d ks q.ps (setR r.name b q.rs) q.bs
      rw [← es]
      exact hm
    · have e : chg d ks q (.part r.name a b) = none := by simp only [chg]; exact if_neg fun ⟨r', hr', e, e2, e3, e4⟩ => no (iffs.mpr e4)
      exact (kE e).1.on g9
end
end W

set_option Elab.async false
set_option linter.all false
set_option maxRecDepth 100000
set_option maxHeartbeats 4000000
/-! all(element for x in walked), any(..), where the element is any expression of the layer: it may call, and read names of the def that walks. -/
namespace GenE
open PySem PySem.Spec PyProof.Rows L2 GxR GenW
/-- the generator expression's scope: the walked thing, its one name, captured names -/
structure GnS (x : Str) (sc scope : Scope) : Prop where
  kind : scope.kind = .function
  co : scope.isCoroutine = false
  cell : ∀ y ∈ scope.names, y.2 ≠ .cell
  dot : scope.names.lookup (".0" : Str) = some .local
  par : scope.names.lookup x = some .local
  own : ∀ y ∈ scope.names, y.2 = .local → y.1 = x ∨ y.1 = (".0" : Str)
  free : ∀ y ∈ scope.names, y.2 = .free → sc.names.lookup y.1 = some .cell ∨ sc.names.lookup y.1 = some .free
def gnSB (x : Str) (sc scope : Scope) : Bool :=
  decide (scope.kind = .function) && !scope.isCoroutine && decide (scope.names.lookup (".0" : Str) = some .local) && decide (scope.names.lookup x = some .local) && scope.names.all fun y => !decide (y.2 = .cell) && (!decide (y.2 = .local) || (decide (y.1 = x) || decide (y.1 = (".0" : Str)))) && (!decide (y.2 = .free) || decide (sc.names.lookup y.1 = some .cell) || decide (sc.names.lookup y.1 = some .free))
theorem gnS_by {x : Str} {sc scope : Scope} (h : gnSB x sc scope = true) : GnS x sc scope := by
  unfold gnSB at h
  simp only [Bool.and_eq_true, Bool.or_eq_true, Bool.not_eq_true', decide_eq_true_eq, decide_eq_false_iff_not, List.all_eq_true] at h
  obtain ⟨⟨⟨⟨h1, h2⟩, h3⟩, h4⟩, h5⟩ := h
  refine ⟨h1, h2, fun y hy => (h5 y hy).1.1, h3, h4, fun y hy e => ?_, fun y hy e => ?_⟩
  · rcases (h5 y hy).1.2 with z | z
    · exact absurd e z
    · exact z
  · rcases (h5 y hy).2 with (z | z) | z
    · exact absurd e z
    · exact .inl z
    · exact .inr z
theorem GnS.has {X : Cx} {x : Str} {scope : Scope} (L : GnS x X.env.scope scope) (ok : X.Ok) : ∀ y ∈ scope.names, y.2 = .free → ∃ c, X.env.cells.lookup y.1 = some c := fun y hy e => by
  rcases L.free y hy e with k | k
  · exact ok.has _ (.inl k)
  · exact ok.has _ (.inr k)
/-- the context of the element: the name ahead of the maker's names; fp: the walked iterator's objects -/
def genCx (X : Cx) (x : Str) (A : Around) (ce : Env) (s : Shared) (H : Hp) (fp : List Addr) : Cx where
  prog := X.prog
  w := X.w
  K := X.K
  mg := X.mg
  base := X.base
  A := A
  N := x :: X.N
  s_0 := s
  H_0 := H
  env := ce
  outer := X.stack
  stack := ce :: X.stack
  ex := fp
  fn := fun _ => false
  calm := true
  pn := []
  xe := fun _ _ => False
abbrev gEnv (X : Cx) (scope : Scope) (C : Addr) (code : Value) : Env := genEnv scope (cloFrom X.env.cells scope.names []) C code builtinsNs X.env
section
variable {X : Cx} {pins : List (Addr × Obj)} {σ : L2.St} {H : Hp} {s : Shared}
theorem gen_start {x : Str} {A : Around} {scope : Scope} {code it : Value} {fp : List Addr} {h₁ : Heap} {g₁ : Array GenState} {tk : Nat} (I : Inv X pins σ H s) (L : GnS x X.env.scope scope) (hrow : x ∉ X.N) (hdot : (".0" : Str) ∉ X.N) (hA : A.handled = none) (hfr : A.frames = some (gEnv X scope s.heap.objs.size code :: X.stack))
    (hfp : ∀ b ∈ fp, FpOk X pins H b ∧ b < s.heap.objs.size) (hns : h₁.Ns s.heap.objs.size fun y => if y = (".0" : Str) then some it else none) (kp : ∀ b o, s.heap.get? b = some o → h₁.get? b = some o) (hg : AllBare g₁) :
    Inv (genCx X x A (gEnv X scope s.heap.objs.size code) s H fp) [] (none :: σ) H { s with heap := h₁, gens := g₁, toks := tk } := by
  have hfree := L.has I.ok
  have cm : ∀ {y c}, (cloFrom X.env.cells scope.names []).lookup y = some c → X.env.cells.lookup y = some c := fun {y c} e => by
    rcases cloFrom_mem (PySem.mem_of_lookup e) with hm | ⟨h1, h2⟩
    · cases hm
    · obtain ⟨c1, hc⟩ := hfree _ h1 rfl
      have hc : X.env.cells.lookup y = some c1 := hc
      have e2 : c = c1 := by
        rw [h2, hc] <;> rfl
      rw [e2]
      exact hc
  have look : ∀ {y}, scope.names.lookup y = some .free → ∃ c, (cloFrom X.env.cells scope.names []).lookup y = some c := fun {y} hl => by
    have hy : (y, NameKind.free) ∈ scope.names := PySem.mem_of_lookup hl
    exact mem_lookup (cloFrom_has (cells := X.env.cells) (acc := []) hy)
  have cellK : ∀ {c : Addr} {v : Option Value}, s.heap.IsCell c v → h₁.IsCell c v := fun {c v} ⟨o, ho, hd⟩ => ⟨o, kp c o ho, hd⟩
  refine ⟨⟨I.ok.mod, L.kind, I.ok.glob, rfl, Nat.le_refl _, fun y z c e1 e2 => I.ok.inj y z c (cm e1) (cm e2), fun y hy => ?_, fun y c z _ => ?_, fun _ => hA, hfr, .inr ⟨rfl, rfl⟩, fun b hb => ⟨Nat.ne_of_lt (hfp b hb).2, fun y c e => (hfp b hb).1.2.2.2.2.1 y c (cm e)⟩, I.bs, Nat.le_trans I.ok.bsz I.sz, fun b o e hb => ?_, fun b hb z => ?_, I.stack, I.stkFree⟩,
    rfl, hg, Un.kept kp, ⟨_, hns, fun i y v e1 e2 e3 => ?_⟩, fun y c e => ?_, I.hok.fresh (Nat.le_refl _), fun y c e => ?_, fun q hq => absurd (show q ∈ ([] : List (Addr × Obj)) ++ [] from hq) (by simp), I.hok.kept kp, by show (none :: σ).length = (x :: X.N).length; rw [List.length_cons, List.length_cons, I.len]⟩
  · have hy : scope.names.lookup y = some .cell ∨ scope.names.lookup y = some .free := hy
    rcases hy with hy | hy
    · exact absurd rfl (L.cell _ (PySem.mem_of_lookup hy))
    · exact look hy
  · have z : false = true := z
    cases z
  · rcases (hfp b hb).1.2.2.2.1 with z | z
    · exact I.ok.noex b o e z
    · exact absurd (Nat.lt_of_lt_of_le (Heap.lt_size e) (Nat.le_trans I.ok.bsz z)) (Nat.lt_irrefl _)
  · rcases List.mem_cons.mp (I.stkSub b z) with z | z
    · exact (hfp b hb).1.2.1 z
    · exact (hfp b hb).1.2.2.1 z
  · have e3 : Vis scope y := e3
    have e1 : (x :: X.N)[i]? = some y := e1
    rcases i with _ | i
    · cases e2
    · have e1 : X.N[i]? = some y := e1
      have e2 : σ[i]? = some (some v) := e2
      have ny : y ≠ x := fun z => hrow (z ▸ List.mem_of_getElem? e1)
      have nd : y ≠ (".0" : Str) := fun z => hdot (z ▸ List.mem_of_getElem? e1)
      rcases e3 with k | k | k
      · rcases L.own _ (PySem.mem_of_lookup k) rfl with z | z
        · exact absurd z ny
        · exact absurd z nd
      · exact absurd rfl (L.cell _ (PySem.mem_of_lookup k))
      · obtain ⟨m, hn, hl⟩ := I.loc
        have hvis : Vis X.env.scope y := (L.free _ (PySem.mem_of_lookup k) rfl).elim (fun k => .inr (.inl k)) (fun k => .inr (.inr k))
        obtain ⟨w', r, q⟩ := hl i y v e1 e2 hvis
        obtain ⟨c2, h2⟩ := look k
        refine ⟨w', r, .inr ⟨.inr k, c2, h2, ?_⟩⟩
        have c1 := cm h2
        rcases q with ⟨k', _⟩ | ⟨_, c3, e', z⟩
        · have k' : X.env.scope.names.lookup y = some .local := k'
          rcases L.free _ (PySem.mem_of_lookup k) rfl with k2 | k2 <;> rw [show X.env.scope.names.lookup y = _ from k2] at k' <;> cases k'
        · rw [c1] at e'
          cases e'
          exact cellK z
  · obtain ⟨w', z⟩ := I.cell y c (cm e)
    exact ⟨w', cellK z⟩
  · exact I.freeC y c (cm e)
/-- where it stands behind z: what X wants of it -/
structure Out (X : Cx) (fp : List Addr) (z : Shared) (Hz H : Hp) (s : Shared) : Prop where
  os : s.os = z.os
  bare : AllBare s.gens
  un : Un (frs X.stack) fp Hz H z.heap s.heap
  hok : HOk X.prog X.w H s.heap
/-- an item is handed out: the walk goes on while it is cont -/
def YQ (X : Cx) (fp : List Addr) (z : Shared) (Hz : Hp) (a : Addr) (g : Nat) (cont : Bool) (Q : VK) : Protocol := fun _ _ v s1 kap =>
  ∃ (b : Bool) (H' : Hp), v = .bool b ∧ Out X fp z Hz H' s1 ∧ s1.heap.IsGen a g ∧ s1.heap.NoLimit ∧ (b = cont → ∀ s'' : Shared, s''.heap = s1.heap → s''.os = s1.os → AllBare s''.gens → kap (.send .none) s'') ∧ (b ≠ cont → Q (.bl b) H')
def RQ (X : Cx) (fp : List Addr) (z : Shared) (Hz : Hp) (cont : Bool) (Q : VK) : GenEnd := fun _ _ r s1 => ((r = .ok (.ret .none) ∨ r = .ok .next) ∧ ∃ H', Out X fp z Hz H' s1 ∧ Q (.bl cont) H') ∨ ∃ e, r = .error e ∧ False
/-- the walk, turn by turn -/
def Walked (J : It) (cont : Bool) (Q : VK) (tb : V → Hp → VK → Prop) (W : Nat → Nat → Hp → Prop) : Prop :=
  ∀ i m H, W i m H → (J.stop i H ∧ Q (.bl cont) H) ∨ (J.go i H ∧ ∀ x H', J.yld i H x H' → tb x H' fun v H'' => ∃ b, v = .bl b ∧ (b = cont → ∃ m', m' < m ∧ W (i + 1) m' H'') ∧ (b ≠ cont → Q (.bl b) H''))
theorem Out.of {x : Str} {A : Around} {ce : Env} {fp : List Addr} {pins : List (Addr × Obj)} {σ : L2.St} {H : Hp} {s z : Shared} {Hz : Hp} (I : Inv (genCx X x A ce z Hz fp) pins σ H s) : Out X fp z Hz H s := ⟨I.os, I.bare, I.base, I.hok⟩
section
variable {x : Str} {A : Around} {scope : Scope} {code : Value} {fp : List Addr} {z : Shared} {Hz : Hp} {elt iter : Expr} {px gpos : Pos} {it a : Addr} {g : Nat} {gob : Obj} {J : It} {tn : Nat → Heap → Prop} {cont : Bool} {Q : VK} {t : TE} {W : Nat → Nat → Hp → Prop}
abbrev gAr (A : Around) (elt iter : Expr) (x : Str) (px gpos : Pos) (scope : Scope) (it : Addr) (ce : Env) : Around := A.over (.compLoop (.GeneratorExp elt [⟨.Name x px, iter, [], 0⟩] scope gpos) 0 (.ref it) .none ce) []
abbrev gX (X : Cx) (x : Str) (A : Around) (elt iter : Expr) (px gpos : Pos) (scope : Scope) (it : Addr) (code : Value) (z : Shared) (Hz : Hp) (fp : List Addr) : Cx := genCx X x (gAr A elt iter x px gpos scope it (gEnv X scope z.heap.objs.size code)) (gEnv X scope z.heap.objs.size code) z Hz fp
theorem seg_turns (L : GnS x X.env.scope scope) (hnd : X.N.Nodup) (hrow : x ∉ X.N) (hafp : a ∉ fp)
    (hgen : ∀ h : Heap, h.get? a = some gob → h.IsGen a g)
    (T : Turn X.prog X.w X.K (.Name x px) J fp it tn) (hbody : PE (gX X x A elt iter px gpos scope it code z Hz fp) elt t)
    (turn : Walked J cont Q (fun v H Q => t (some v :: σ) H Q) W)
    (stat : ∀ {H' : Hp}, (∀ b ∈ fp, H' b = none) → ∀ b ∈ fp, FpOk (gX X x A elt iter px gpos scope it code z Hz fp) [(a, gob)] H' b) :
    ∀ (n i m : Nat) (v0 : Option V) (H : Hp) (s s₀ : Shared), m < n → Inv (gX X x A elt iter px gpos scope it code z Hz fp) [(a, gob)] (v0 :: σ) H s → tn i s.heap → (∀ b ∈ fp, H b = none) → W i m H →
      Seg (model X.prog X.w) A (RQ X fp z Hz cont Q) (YQ X fp z Hz a g cont Q) n s₀ (.compLoop (.GeneratorExp elt [⟨.Name x px, iter, [], 0⟩] scope gpos) 0 (.ref it) .none (gEnv X scope z.heap.objs.size code))
        ((model X.prog X.w).den (.compLoop (.GeneratorExp elt [⟨.Name x px, iter, [], 0⟩] scope gpos) 0 (.ref it) .none (gEnv X scope z.heap.objs.size code))) [] s := by
  intro n
  induction n with
  | zero => intro i m v0 H s s₀ h; exact absurd h (Nat.not_lt_zero _)
  | succ n ih =>
    intro i m v0 H s s₀ hm I st fr w
    show Seg _ A _ _ _ s₀ _ ((compTurn (.GeneratorExp elt [⟨.Name x px, iter, [], 0⟩] scope gpos) 0 (.ref it) .none (gEnv X scope z.heap.objs.size code)).onRaise (leaving (gEnv X scope z.heap.objs.size code))) [] s
    rw [compTurn_gen, Sem.onRaise_eq_wrap]
    refine seg_bind_wrap (wpAny_standAt ?_)
    rcases turn i m H w with ⟨stop, qn⟩ | ⟨go, step⟩
    · refine seg_bind_wrap (thn (T.done (gX X x A elt iter px gpos scope it code z Hz fp) rfl rfl rfl rfl i _ s _ H _ I (stat fr) st stop) fun r s4 ⟨hr, I4⟩ => ?_)
      subst hr
      exact seg_end (.ok .next) (.inl ⟨.inr rfl, H, Out.of I4, qn⟩)
    · refine seg_bind_wrap (thn (T.item (gX X x A elt iter px gpos scope it code z Hz fp) rfl rfl rfl rfl i _ s _ H _ I (stat fr) st go) fun r s4 ⟨u, hr, h4⟩ => ?_)
      subst hr
      refine seg_bind_wrap (thn h4 fun _ s5 ⟨v, H5, I5, r5, y5, st5, fr5⟩ => ?_)
      have I5' := I5.pinned (stat fr5) (T.obj _ _ st5)
      have PGn := pg_name (X := genCx X x (gAr A elt iter x px gpos scope it (gEnv X scope z.heap.objs.size code)) (gEnv X scope z.heap.objs.size code) z Hz fp) (pos := px) (i := 0) (x := x) (List.nodup_cons.mpr ⟨hrow, hnd⟩) rfl (.inl L.par) (.inr L.par)
      refine seg_bind_wrap (thnF (PGn.run _ s5 _ H5 v u (fun σ' H' => σ' = some v :: σ ∧ H' = H5) I5' r5 ⟨rfl, rfl⟩) fun _ s6 ⟨σ6, H6, I6, e6, e6'⟩ => ?_)
      subst e6 e6'
      refine seg_bind_wrap (wpAny_tests_nil ?_)
      rw [if_pos rfl]
      have hy : ∀ v, yieldOut (gEnv X scope z.heap.objs.size code) v = yieldValue v := fun v => by
        have hco : (gEnv X scope z.heap.objs.size code).scope.isCoroutine = false := L.co
        simp only [yieldOut, hco, Bool.false_eq_true, if_false]
      simp only [hy]
      rw [Sem.bind_eq_wrap', Sem.bind_eq_wrap', Sem.wrap_wrap, Sem.wrap_wrap]
      refine seg_wrap (thnF (hbody.run _ s6 _ H6 _ I6 (step v H6 y5)) fun y s7 ⟨bv, H7, I7, r7, b, hb, hc, hn⟩ => ?_)
      subst hb
      obtain rfl : y = Value.bool b := r7
      have I7' := I7.unpinned
      have st7 : tn (i + 1) s7.heap := T.keep _ _ _ st5 fun b hb o e => (I7.pin (b, o) (List.mem_append_right _ (List.mem_append_right _ (mem_pinsAt hb e)))).1
      have fr7 : ∀ b ∈ fp, H7 b = none := fun b hb => by
        obtain ⟨o, e, d⟩ := T.obj _ _ st5 b hb
        exact (I7.pin (b, o) (List.mem_append_right _ (List.mem_append_right _ (mem_pinsAt hb e)))).2.1
      have hga := (I7'.pin (a, gob) (List.mem_append_right _ List.mem_cons_self)).1
      refine seg_at (seg_yield rfl rfl rfl ⟨b, H7, rfl, Out.of I7', hgen _ hga, I7'.nolimit, fun hbc s8 e1 e2 e3 => ?_, hn⟩)
      obtain ⟨m', hm', w'⟩ := hc hbc
      have I8 := I7'.call' (s' := s8) (ch := []) e2 (by rw [e1]; exact Un.refl) (by rw [e1]; exact I7'.hok) e3 (fun _ z => nomatch z)
      exact seg_again rfl (ih (i + 1) m' _ H7 s8 s8 (by omega) I8 (by rw [e1]; exact st7) fr7 w')
theorem seg_begin {σ : L2.St} {n : Nat} {s s₀ : Shared} (T : Turn X.prog X.w X.K (.Name x px) J fp it tn) (st : tn 0 s.heap) (ce : Env) (R : GenEnd) (Y : Protocol)
    (loop : Seg (model X.prog X.w) A R Y n s₀ (.compLoop (.GeneratorExp elt [⟨.Name x px, iter, [], 0⟩] scope gpos) 0 (.ref it) .none ce) ((model X.prog X.w).den (.compLoop (.GeneratorExp elt [⟨.Name x px, iter, [], 0⟩] scope gpos) 0 (.ref it) .none ce)) [] s) :
    Seg (model X.prog X.w) A R Y n s₀ (.compStart (.GeneratorExp elt [⟨.Name x px, iter, [], 0⟩] scope gpos) 0 (.ref it) .none ce) ((model X.prog X.w).den (.compStart (.GeneratorExp elt [⟨.Name x px, iter, [], 0⟩] scope gpos) 0 (.ref it) .none ce)) [] s := by
  show Seg _ A _ _ _ s₀ _ ((compStart (.GeneratorExp elt [⟨.Name x px, iter, [], 0⟩] scope gpos) 0 (.ref it) .none ce).onRaise (leaving ce)) [] s
  unfold compStart
  rw [Sem.onRaise_eq_wrap]
  show Seg _ A _ _ _ s₀ _ ((ask >>= _).wrap _ _ _ _) [] s
  refine seg_bind_wrap (wpAny_askSetting ?_)
  split
  · exact seg_again rfl loop
  · first
      | exact seg_bind_wrap (wpAny_rule (seg_bind_wrap (wpAny_standAt (seg_bind_wrap (T.self _ 0 s _ _ st (seg_again rfl loop))))))
      | (refine seg_bind_wrap (wpAny_rule ?_); show Seg _ A _ _ _ s₀ _ ((standAt iter.pos >>= _).wrap _ _ _ _) [] s; exact seg_bind_wrap (wpAny_standAt (seg_bind_wrap (T.self _ 0 s _ _ st (seg_again rfl loop)))))
theorem goesQ {gs : GenState} {B : Around} {n : Nat} {r : Resume} {s : Shared} {M : Model} {Y : Protocol} (h : gs.Goes M B (RQ X fp z Hz cont Q) Y n r s) :
    gs.Goes M B (fun n s₀ r s1 => ((r = .ok (.ret .none) ∨ r = .ok .next) ∧ ∃ H', Out X fp z Hz H' s1 ∧ Q (.bl cont) H') ∨ ∃ e, r = .error e ∧ False) Y n r s := h
theorem Out.gens {H' : Hp} {s s' : Shared} (o : Out X fp z Hz H' s) (e1 : s'.os = s.os) (e2 : AllBare s'.gens) (k : ∀ b o, s.heap.get? b = some o → s'.heap.get? b = some o) : Out X fp z Hz H' s' :=
  ⟨e1.trans o.os, e2, o.un.trans (Un.kept k), o.hok.kept k⟩
theorem all_loop {B : Around} {R : Result → Shared → Prop} (hh : B.handled = none) (hd : B.depth < recursionLimit) (hR : ∀ (b : Bool) s' H', Out X fp z Hz H' s' → Q (.bl b) H' → R (.ok (.ret (.bool b))) s') :
    ∀ (n : Nat) (s : Shared), s.heap.IsGen a g → s.heap.NoLimit → AllBare s.gens → s.os = z.os → (∃ gs, s.gens[g]? = some gs ∧ gs.Goes (model X.prog X.w) B.in1.in1 (RQ X fp z Hz true Q) (YQ X fp z Hz a g true Q) n (.send .none) (s.setGen g .running)) →
      codeAny (model X.prog X.w) B (.builtin "all.loop" ⟨[.ref a], []⟩) R s := by
  intro n
  induction n with
  | zero =>
    intro s hg hl hb hos ⟨gs, hgs, hgo⟩
    refine codeAny_builtin F.entry_all_loop ?_
    rw [Around.under_plainId F.plain_all_loop _]
    show wpAny _ B.in1 (pyNext (.ref a) >>= _) _ _ s
    refine wpAny_bind (next_genG (A := B.in1) hh hl hd hg hgs (goesQ hgo) (fun v s₁ gs' hbare hv => ?_) (fun s₁ hp h' hk => ?_) fun e s₁ he => he.elim)
    · obtain ⟨b, H', rfl, ho, hg1, hl1, hk, hn⟩ := hv
      refine wpAny_bind (wpAny_holding (wpAny_truthy_bool ?_))
      refine wpAny_bind (wpAny_letGo ?_)
      cases b with
      | true => exact (hk rfl s₁ rfl rfl ho.bare).elim
      | false =>
        simp only [Bool.false_eq_true, if_false]
        exact wpAny_bind (wpAny_rule (wpAny_pure (hR false _ H' (ho.gens rfl (allBare_setGen ho.bare hbare) fun _ _ e => e) (hn (by decide)))))
    · obtain ⟨H', ho, q⟩ := hp
      exact wpAny_bind (wpAny_rule (wpAny_pure (hR true _ H' (ho.gens rfl (allBare_setGen ho.bare rfl) hk) q)))
  | succ n ih =>
    intro s hg hl hb hos ⟨gs, hgs, hgo⟩
    have hgl : g < s.gens.size := (Array.getElem?_eq_some_iff.mp hgs).1
    refine codeAny_builtin F.entry_all_loop ?_
    rw [Around.under_plainId F.plain_all_loop _]
    show wpAny _ B.in1 (pyNext (.ref a) >>= _) _ _ s
    refine wpAny_bind (wpAny_gsz (n := g + 1) hgl (next_genG (A := B.in1) hh hl hd hg hgs (goesQ hgo) (fun v s₁ gs' hbare hv => ?_) (fun s₁ hp h' hk => ?_) fun e s₁ he => he.elim))
    · intro hsz
      obtain ⟨b, H', rfl, ho, hg1, hl1, hk, hn⟩ := hv
      refine wpAny_bind (wpAny_holding (wpAny_truthy_bool ?_))
      refine wpAny_bind (wpAny_letGo ?_)
      have hsz1 : g < s₁.gens.size := by
        have q : (s₁.setGen g gs').gens.size = s₁.gens.size := setGen_size _ _ _
        have hsz' : g + 1 ≤ (s₁.setGen g gs').gens.size := hsz
        omega
      cases b with
      | true =>
        simp only [if_true]
        refine wpAny_pure ⟨plainId_quiet F.plain_all_loop _, ?_⟩
        refine ih _ hg1 hl1 (allBare_setGen ho.bare hbare) ho.os ⟨gs', setGen_at hsz1, ?_⟩
        exact hk rfl ((s₁.setGen g gs').setGen g .running) rfl rfl (allBare_setGen (s := s₁.setGen g gs') (allBare_setGen ho.bare hbare) rfl)
      | false =>
        simp only [Bool.false_eq_true, if_false]
        exact wpAny_bind (wpAny_rule (wpAny_pure (hR false _ H' (ho.gens rfl (allBare_setGen ho.bare hbare) fun _ _ e => e) (hn (by decide)))))
    · intro hsz
      obtain ⟨H', ho, q⟩ := hp
      exact wpAny_bind (wpAny_rule (wpAny_pure (hR true _ H' (ho.gens rfl (allBare_setGen ho.bare rfl) hk) q)))
theorem any_loop {B : Around} {R : Result → Shared → Prop} (hh : B.handled = none) (hd : B.depth < recursionLimit) (hR : ∀ (b : Bool) s' H', Out X fp z Hz H' s' → Q (.bl b) H' → R (.ok (.ret (.bool b))) s') :
    ∀ (n : Nat) (s : Shared), s.heap.IsGen a g → s.heap.NoLimit → AllBare s.gens → s.os = z.os → (∃ gs, s.gens[g]? = some gs ∧ gs.Goes (model X.prog X.w) B.in1.in1 (RQ X fp z Hz false Q) (YQ X fp z Hz a g false Q) n (.send .none) (s.setGen g .running)) →
      codeAny (model X.prog X.w) B (.builtin "any.loop" ⟨[.ref a], []⟩) R s := by
  intro n
  induction n with
  | zero =>
    intro s hg hl hb hos ⟨gs, hgs, hgo⟩
    refine codeAny_builtin F.entry_any_loop ?_
    rw [Around.under_plainId F.plain_any_loop _]
    show wpAny _ B.in1 (pyNext (.ref a) >>= _) _ _ s
    refine wpAny_bind (next_genG (A := B.in1) hh hl hd hg hgs (goesQ hgo) (fun v s₁ gs' hbare hv => ?_) (fun s₁ hp h' hk => ?_) fun e s₁ he => he.elim)
    · obtain ⟨b, H', rfl, ho, hg1, hl1, hk, hn⟩ := hv
      refine wpAny_bind (wpAny_holding (wpAny_truthy_bool ?_))
      refine wpAny_bind (wpAny_letGo ?_)
      cases b with
      | false => exact (hk rfl s₁ rfl rfl ho.bare).elim
      | true =>
        simp only [if_true]
        exact wpAny_bind (wpAny_rule (wpAny_pure (hR true _ H' (ho.gens rfl (allBare_setGen ho.bare hbare) fun _ _ e => e) (hn (by decide)))))
    · obtain ⟨H', ho, q⟩ := hp
      exact wpAny_bind (wpAny_rule (wpAny_pure (hR false _ H' (ho.gens rfl (allBare_setGen ho.bare rfl) hk) q)))
  | succ n ih =>
    intro s hg hl hb hos ⟨gs, hgs, hgo⟩
    have hgl : g < s.gens.size := (Array.getElem?_eq_some_iff.mp hgs).1
    refine codeAny_builtin F.entry_any_loop ?_
    rw [Around.under_plainId F.plain_any_loop _]
    show wpAny _ B.in1 (pyNext (.ref a) >>= _) _ _ s
    refine wpAny_bind (wpAny_gsz (n := g + 1) hgl (next_genG (A := B.in1) hh hl hd hg hgs (goesQ hgo) (fun v s₁ gs' hbare hv => ?_) (fun s₁ hp h' hk => ?_) fun e s₁ he => he.elim))
    · intro hsz
      obtain ⟨b, H', rfl, ho, hg1, hl1, hk, hn⟩ := hv
      refine wpAny_bind (wpAny_holding (wpAny_truthy_bool ?_))
      refine wpAny_bind (wpAny_letGo ?_)
      have hsz1 : g < s₁.gens.size := by
        have q : (s₁.setGen g gs').gens.size = s₁.gens.size := setGen_size _ _ _
        have hsz' : g + 1 ≤ (s₁.setGen g gs').gens.size := hsz
        omega
      cases b with
      | false =>
        simp only [Bool.false_eq_true, if_false]
        refine wpAny_pure ⟨plainId_quiet F.plain_any_loop _, ?_⟩
        refine ih _ hg1 hl1 (allBare_setGen ho.bare hbare) ho.os ⟨gs', setGen_at hsz1, ?_⟩
        exact hk rfl ((s₁.setGen g gs').setGen g .running) rfl rfl (allBare_setGen (s := s₁.setGen g gs') (allBare_setGen ho.bare hbare) rfl)
      | true =>
        simp only [if_true]
        exact wpAny_bind (wpAny_rule (wpAny_pure (hR true _ H' (ho.gens rfl (allBare_setGen ho.bare hbare) fun _ _ e => e) (hn (by decide)))))
    · intro hsz
      obtain ⟨H', ho, q⟩ := hp
      exact wpAny_bind (wpAny_rule (wpAny_pure (hR false _ H' (ho.gens rfl (allBare_setGen ho.bare rfl) hk) q)))
/-- H' is H, or the new generator's code object stands in the table -/
def TabM (P : Addr) (gpos : Pos) (H H' : Hp) : Prop := TabG H P ∧ (H' = H ∨ ∃ (ps : Array Value) (c' : Addr), H P = some (.tbl ps) ∧ codeAmong gpos ps.toList = none ∧ TriplesOk (ps ++ #[rawInt gpos.line, rawInt gpos.col, .ref c']).toList ∧ H' = upd H P (.tbl (ps ++ #[rawInt gpos.line, rawInt gpos.col, .ref c'])))
theorem TabM.tabbed {P : Addr} {gpos : Pos} {H H' : Hp} (h : TabM P gpos H H') : Tabbed P H H' := by
  obtain ⟨t, rfl | ⟨ps, c', h1, h2, h3, rfl⟩⟩ := h
  · exact ⟨t, fun _ _ => rfl⟩
  · exact ⟨⟨_, upd_same, h3⟩, fun b hb => upd_ne hb⟩
def tQuant (P : Addr) (gpos : Pos) (cont : Bool) (wi : TI) (t : TE) : TE := fun σ H Q => wi σ H fun J H1 => TabG H1 P ∧ ∀ H2, TabM P gpos H1 H2 → ∃ W : Nat → Nat → Hp → Prop, (∃ m, W 0 m H2) ∧ Walked J cont Q (fun v H Q => t (some v :: σ) H Q) W
theorem pe_allE {c P : Addr} {p pos : Pos} {wi : TI} {k : Nat} (hr : Room (k + 1) X.A) (hg : Gl X "all") (hm : X.mg "all" = none) (TB : GxR.TabB X.base X.mg c P) (hcode : X.env.code = .ref c) (S : GnS x X.env.scope scope) (hnd : X.N.Nodup) (hrow : x ∉ X.N) (hdot : (".0" : Str) ∉ X.N)
    (hi : PI X (.Name x px) iter wi) (hbody : ∀ (A : Around) (C : Addr) (code : Value) (s : Shared) (H : Hp) (fp : List Addr), Room k A → PE (genCx X x A (gEnv X scope C code) s H fp) elt t) (hs : ∀ v, genFold iter X.env v = pure v)
    (he : starEach [.GeneratorExp elt [⟨.Name x px, iter, [], 0⟩] scope gpos] X.env = (false, eval (.GeneratorExp elt [⟨.Name x px, iter, [], 0⟩] scope gpos) X.env) :: starEach [] X.env := by rfl) :
    PE X (.Call (.Name "all" p) [.GeneratorExp elt [⟨.Name x px, iter, [], 0⟩] scope gpos] [] pos) (tQuant P gpos true wi t) := by
  refine ⟨fun pins s σ H Q I h => ?_⟩
  refine wpAny_Call_Name_kw (ld_blt I hg hm (by decide +kernel : bootBuiltins "all" = some (.builtin "all")) ?_)
  refine PyProof.Rows.callWith_builtin1 ?_ he (by rfl)
  rw [he]
  refine Calls.spliced_cons (wpAny_GeneratorExp_make S.co (closure_ok (S.has I.ok)) S.cell S.dot S.kind (by have := hr.dp; omega) ?_ hs)
  refine thn (hi.run pins s σ H _ I h) fun xv s1 h1 => thn h1 fun itv s2 h2 => ?_
  obtain ⟨it, fp, tn, J, H1, rfl, I2, T, st2, f2, tb, q⟩ := h2
  refine ⟨I2.nolimit, ?_⟩
  have step : wpAny (model X.prog X.w) X.A (genexprCode X.env gpos (X.env.qual ++ "<genexpr>") scope) (fun _ z => ∃ Hz, Inv X pins σ Hz z ∧ tn 0 z.heap ∧ (∀ b ∈ fp, FpOk X pins Hz b ∧ b < z.heap.objs.size) ∧ TabM P gpos H1 Hz) X.xe s2 := by
    have lt : ∀ {h : Heap} {i : Nat}, tn i h → ∀ b ∈ fp, b < h.objs.size := fun {h i} st b hb => by
      obtain ⟨o, e, _⟩ := T.obj _ _ st b hb
      exact Heap.lt_size e
    obtain ⟨ps, hP, ht⟩ := tb
    have eP : s2.heap.get? P = some { cls := .none, data := .fields ps } := I2.hok P _ hP
    have cd : PySem.W.CodeHd s2.heap c P := TB.code.keeps I2.bk
    have neP : ∀ b ∈ fp, b ≠ P := fun b hb e => by
      have := (f2 b hb).1
      rw [e, hP] at this; cases this
    cases hf : codeAmong gpos ps.toList with
    | none =>
      refine wpAny_genexprCodeX hcode (cd.code eP ht) (cd.tab eP) hf fun c' h' tk hx hge hlt hco' _ htab' _ => ?_
      obtain ⟨o1, vs, f1, tf, fl, tg, inF, tx, tt, op, _, _, _, _, _, _, _, _, _, htr, _⟩ := hco'
      have st' : tn 0 h' := T.keep _ _ _ st2 fun b hb o e => hx b o (neP b hb) e
      exact ⟨_, inv_tab (more := #[rawInt gpos.line, rawInt gpos.col, .ref c']) (h' := h') (g' := s2.gens) (d' := s2.drawn) (t' := tk) I2 hP (fun b u hb e => hx b u hb e) htab'.2 I2.bare, st', fun b hb => ⟨⟨by rw [upd_ne (neP b hb)]; exact (f2 b hb).1, (f2 b hb).2⟩, lt st' b hb⟩, ⟨ps, hP, ht⟩, .inr ⟨ps, c', hP, hf, htr, rfl⟩⟩
    | some cv => exact wpAny_genexprCode_hit hcode (cd.code eP ht) hf ⟨H1, I2, st2, fun b hb => ⟨f2 b hb, lt st2 b hb⟩, ⟨ps, hP, ht⟩, .inl rfl⟩
  refine thn step fun code z ⟨Hz, Iz, stz, fz, tz⟩ => ?_
  obtain ⟨W, ⟨m0, w0⟩, turn⟩ := q Hz tz
  obtain ⟨bm, ob, b1, b2, b3, b4, b5, b6, b7, b8⟩ := TB.bm
  refine wpAny_builtinsFor (m := X.mg) (by rw [Iz.ok.glob]; exact Iz.mod.glob.keeps Iz.bk) b1 b2 (Iz.bk _ _ b5) b6 b7 b8 ?_
  intro h' hn' hs'
  refine Calls.spliced_nil ?_
  have hsz : h'.objs.size = z.heap.objs.size + 1 := by rw [hs'.1, Heap.size_push]
  have kp' : ∀ b o, z.heap.get? b = some o → h'.get? b = some o := fun b o e => hs'.extBut b o (Nat.ne_of_lt (Heap.lt_size e)) (Heap.get?_push_of_some _ e)
  generalize hgob : ({ cls := .type "generator", data := .fields #[.int z.gens.size 0, .str "<genexpr>" (z.toks + 1), .str (X.env.qual ++ "<genexpr>") (z.toks + 1 + 1)] } : Obj) = gob
  have hgen : ∀ h : Heap, h.get? h'.objs.size = some gob → h.IsGen h'.objs.size z.gens.size := fun h e => by subst hgob; exact ⟨_, _, _, e, rfl, rfl, rfl⟩
  have hat : (h'.push gob).get? h'.objs.size = some gob := Heap.get?_push_size _ (by subst hgob; rfl)
  have kp : ∀ b o, z.heap.get? b = some o → (h'.push gob).get? b = some o := fun b o e => Heap.get?_push_of_some _ (kp' b o e)
  have hbare : AllBare (z.gens.push (.fresh (.compStart (.GeneratorExp elt [⟨.Name x px, iter, [], 0⟩] scope gpos) 0 (.ref it) .none (gEnv X scope z.heap.objs.size code)))) := Iz.bare.push rfl
  refine call_function_tree F.kind_all F.plain_all F.entry_all (F.args_all1 _) ?_
  unfold Builtin.«all»
  refine wpAny_bind (m := oneArg "all" _) (wpAny_pure ?_)
  refine wpAny_bind (wpAny_pyIter_gen (s := { z with gens := _, toks := _, heap := h'.push gob }) (hgen _ hat) ?_)
  have hroom : Room k (gAr X.A.in1.in1 elt iter x px gpos scope it (gEnv X scope z.heap.objs.size code)) := ⟨hr.hd, by have := hr.dp; show X.A.depth + 0 + 1 + 3 * k + 5 < _; omega, by have := hr.un; show X.A.units + 1 + 1 + 0 + 3 + 16 * k + 200 < _; omega⟩
  have hfr : (gAr X.A.in1.in1 elt iter x px gpos scope it (gEnv X scope z.heap.objs.size code)).frames = some (gEnv X scope z.heap.objs.size code :: X.stack) := by
    have e : X.A.in1.in1.frames = some X.stack := Iz.ok.frames
    simp only [gAr, Around.over]
    rw [e]
    first | rfl | done
  have nlt : z.heap.objs.size ≤ h'.objs.size := by rw [hsz]; exact Nat.le_succ _
  have nne : h'.objs.size ≠ z.heap.objs.size := by rw [hsz]; exact Nat.succ_ne_self _
  have afp : h'.objs.size ∉ fp := fun hm => absurd (Nat.lt_of_lt_of_le (fz _ hm).2 nlt) (Nat.lt_irrefl _)
  refine wpAny_pure ⟨plainId_quiet F.plain_all_loop _, all_loop (X := X) (fp := fp) (z := z) (Hz := Hz) (Q := Q) (a := h'.objs.size) (g := z.gens.size) hr.hd (by have := hr.dp; omega) (fun b s' H' o q => ?_) (m0 + 1) _ (hgen _ hat) (Iz.nolimit.keeps kp) hbare rfl ⟨_, Array.getElem?_push_size .., rfl, ?_⟩⟩
  · refine ⟨.bl b, H', Iz.call' (ch := fp) o.os o.un o.hok o.bare fun b hb => ?_, rfl, q⟩
    obtain ⟨_, f1, f2, f3, f4, f5⟩ := (fz b hb).1
    exact ⟨f3, f1, f4, f5⟩
  · have I0 := gen_start (g₁ := (({ z with gens := z.gens.push (.fresh (.compStart (.GeneratorExp elt [⟨.Name x px, iter, [], 0⟩] scope gpos) 0 (.ref it) .none (gEnv X scope z.heap.objs.size code))), toks := z.toks + 1 + 1 + 1, heap := h'.push gob } : Shared).setGen z.gens.size .running).gens) (tk := z.toks + 1 + 1 + 1) (h₁ := h'.push gob) Iz S hrow hdot (A := gAr X.A.in1.in1 elt iter x px gpos scope it (gEnv X scope z.heap.objs.size code)) hr.hd hfr fz (hn'.push _) kp (allBare_setGen hbare rfl)
    have I1 : Inv (gX X x X.A.in1.in1 elt iter px gpos scope it code z Hz fp) [(h'.objs.size, gob)] (none :: σ) Hz _ := I0.pins_of fun p hp => by
      have hp : p ∈ [(h'.objs.size, gob)] := hp
      rw [List.mem_singleton.mp hp]
      refine ⟨hat, Iz.hok.fresh nlt, nne, fun hm => ?_, fun v => by subst hgob; intro e; cases e⟩
      rcases List.mem_cons.mp (Iz.stkSub _ hm) with e | e
      · exact absurd (Nat.lt_of_le_of_lt nlt (by rw [show h'.objs.size = X.env.locals from e]; exact Iz.lt)) (Nat.lt_irrefl _)
      · exact Iz.nofs nlt e
    have stat : ∀ {H' : Hp}, (∀ b ∈ fp, H' b = none) → ∀ b ∈ fp, FpOk (gX X x X.A.in1.in1 elt iter px gpos scope it code z Hz fp) [(h'.objs.size, gob)] H' b := fun {H'} hn b hb => by
      refine ⟨hn b hb, ?_, fun hm => ?_, .inl hb, I1.ok.exf b hb |>.2, fun p hp => ?_⟩
      · exact (I1.ok.exf b hb).1
      · exact I1.ok.exfs b hb hm
      · have hp : p ∈ [(h'.objs.size, gob)] := hp
        rw [List.mem_singleton.mp hp]
        exact fun e => afp (by have e : h'.objs.size = b := e; rw [e]; exact hb)
    exact seg_begin (σ := σ) T (T.keep _ _ _ stz fun b _ o e => kp b o e) _ _ _ (seg_turns S hnd hrow afp hgen T (hbody _ _ _ _ _ _ hroom) turn stat (m0 + 1) 0 m0 none Hz _ _ (Nat.lt_succ_self _) I1 (T.keep _ _ _ stz fun b _ o e => kp b o e) (fun b hb => (fz b hb).1.1) w0)
theorem pe_anyE {c P : Addr} {p pos : Pos} {wi : TI} {k : Nat} (hr : Room (k + 1) X.A) (hg : Gl X "any") (hm : X.mg "any" = none) (TB : GxR.TabB X.base X.mg c P) (hcode : X.env.code = .ref c) (S : GnS x X.env.scope scope) (hnd : X.N.Nodup) (hrow : x ∉ X.N) (hdot : (".0" : Str) ∉ X.N)
    (hi : PI X (.Name x px) iter wi) (hbody : ∀ (A : Around) (C : Addr) (code : Value) (s : Shared) (H : Hp) (fp : List Addr), Room k A → PE (genCx X x A (gEnv X scope C code) s H fp) elt t) (hs : ∀ v, genFold iter X.env v = pure v)
    (he : starEach [.GeneratorExp elt [⟨.Name x px, iter, [], 0⟩] scope gpos] X.env = (false, eval (.GeneratorExp elt [⟨.Name x px, iter, [], 0⟩] scope gpos) X.env) :: starEach [] X.env := by rfl) :
    PE X (.Call (.Name "any" p) [.GeneratorExp elt [⟨.Name x px, iter, [], 0⟩] scope gpos] [] pos) (tQuant P gpos false wi t) := by
  refine ⟨fun pins s σ H Q I h => ?_⟩
  refine wpAny_Call_Name_kw (ld_blt I hg hm (by decide +kernel : bootBuiltins "any" = some (.builtin "any")) ?_)
  refine PyProof.Rows.callWith_builtin1 ?_ he (by rfl)
  rw [he]
  refine Calls.spliced_cons (wpAny_GeneratorExp_make S.co (closure_ok (S.has I.ok)) S.cell S.dot S.kind (by have := hr.dp; omega) ?_ hs)
  refine thn (hi.run pins s σ H _ I h) fun xv s1 h1 => thn h1 fun itv s2 h2 => ?_
  obtain ⟨it, fp, tn, J, H1, rfl, I2, T, st2, f2, tb, q⟩ := h2
  refine ⟨I2.nolimit, ?_⟩
  have step : wpAny (model X.prog X.w) X.A (genexprCode X.env gpos (X.env.qual ++ "<genexpr>") scope) (fun _ z => ∃ Hz, Inv X pins σ Hz z ∧ tn 0 z.heap ∧ (∀ b ∈ fp, FpOk X pins Hz b ∧ b < z.heap.objs.size) ∧ TabM P gpos H1 Hz) X.xe s2 := by
    have lt : ∀ {h : Heap} {i : Nat}, tn i h → ∀ b ∈ fp, b < h.objs.size := fun {h i} st b hb => by
      obtain ⟨o, e, _⟩ := T.obj _ _ st b hb
      exact Heap.lt_size e
    obtain ⟨ps, hP, ht⟩ := tb
    have eP : s2.heap.get? P = some { cls := .none, data := .fields ps } := I2.hok P _ hP
    have cd : PySem.W.CodeHd s2.heap c P := TB.code.keeps I2.bk
    have neP : ∀ b ∈ fp, b ≠ P := fun b hb e => by
      have := (f2 b hb).1
      rw [e, hP] at this; cases this
    cases hf : codeAmong gpos ps.toList with
    | none =>
      refine wpAny_genexprCodeX hcode (cd.code eP ht) (cd.tab eP) hf fun c' h' tk hx hge hlt hco' _ htab' _ => ?_
      obtain ⟨o1, vs, f1, tf, fl, tg, inF, tx, tt, op, _, _, _, _, _, _, _, _, _, htr, _⟩ := hco'
      have st' : tn 0 h' := T.keep _ _ _ st2 fun b hb o e => hx b o (neP b hb) e
      exact ⟨_, inv_tab (more := #[rawInt gpos.line, rawInt gpos.col, .ref c']) (h' := h') (g' := s2.gens) (d' := s2.drawn) (t' := tk) I2 hP (fun b u hb e => hx b u hb e) htab'.2 I2.bare, st', fun b hb => ⟨⟨by rw [upd_ne (neP b hb)]; exact (f2 b hb).1, (f2 b hb).2⟩, lt st' b hb⟩, ⟨ps, hP, ht⟩, .inr ⟨ps, c', hP, hf, htr, rfl⟩⟩
    | some cv => exact wpAny_genexprCode_hit hcode (cd.code eP ht) hf ⟨H1, I2, st2, fun b hb => ⟨f2 b hb, lt st2 b hb⟩, ⟨ps, hP, ht⟩, .inl rfl⟩
  refine thn step fun code z ⟨Hz, Iz, stz, fz, tz⟩ => ?_
  obtain ⟨W, ⟨m0, w0⟩, turn⟩ := q Hz tz
  obtain ⟨bm, ob, b1, b2, b3, b4, b5, b6, b7, b8⟩ := TB.bm
  refine wpAny_builtinsFor (m := X.mg) (by rw [Iz.ok.glob]; exact Iz.mod.glob.keeps Iz.bk) b1 b2 (Iz.bk _ _ b5) b6 b7 b8 ?_
  intro h' hn' hs'
  refine Calls.spliced_nil ?_
  have hsz : h'.objs.size = z.heap.objs.size + 1 := by rw [hs'.1, Heap.size_push]
  have kp' : ∀ b o, z.heap.get? b = some o → h'.get? b = some o := fun b o e => hs'.extBut b o (Nat.ne_of_lt (Heap.lt_size e)) (Heap.get?_push_of_some _ e)
  generalize hgob : ({ cls := .type "generator", data := .fields #[.int z.gens.size 0, .str "<genexpr>" (z.toks + 1), .str (X.env.qual ++ "<genexpr>") (z.toks + 1 + 1)] } : Obj) = gob
  have hgen : ∀ h : Heap, h.get? h'.objs.size = some gob → h.IsGen h'.objs.size z.gens.size := fun h e => by subst hgob; exact ⟨_, _, _, e, rfl, rfl, rfl⟩
  have hat : (h'.push gob).get? h'.objs.size = some gob := Heap.get?_push_size _ (by subst hgob; rfl)
  have kp : ∀ b o, z.heap.get? b = some o → (h'.push gob).get? b = some o := fun b o e => Heap.get?_push_of_some _ (kp' b o e)
  have hbare : AllBare (z.gens.push (.fresh (.compStart (.GeneratorExp elt [⟨.Name x px, iter, [], 0⟩] scope gpos) 0 (.ref it) .none (gEnv X scope z.heap.objs.size code)))) := Iz.bare.push rfl
  refine call_function_tree F.kind_any F.plain_any F.entry_any (F.args_any1 _) ?_
  unfold Builtin.«any»
  refine wpAny_bind (m := oneArg "any" _) (wpAny_pure ?_)
  refine wpAny_bind (wpAny_pyIter_gen (s := { z with gens := _, toks := _, heap := h'.push gob }) (hgen _ hat) ?_)
  have hroom : Room k (gAr X.A.in1.in1 elt iter x px gpos scope it (gEnv X scope z.heap.objs.size code)) := ⟨hr.hd, by have := hr.dp; show X.A.depth + 0 + 1 + 3 * k + 5 < _; omega, by have := hr.un; show X.A.units + 1 + 1 + 0 + 3 + 16 * k + 200 < _; omega⟩
  have hfr : (gAr X.A.in1.in1 elt iter x px gpos scope it (gEnv X scope z.heap.objs.size code)).frames = some (gEnv X scope z.heap.objs.size code :: X.stack) := by
    have e : X.A.in1.in1.frames = some X.stack := Iz.ok.frames
    simp only [gAr, Around.over]
    rw [e]
    first | rfl | done
  have nlt : z.heap.objs.size ≤ h'.objs.size := by rw [hsz]; exact Nat.le_succ _
  have nne : h'.objs.size ≠ z.heap.objs.size := by rw [hsz]; exact Nat.succ_ne_self _
  have afp : h'.objs.size ∉ fp := fun hm => absurd (Nat.lt_of_lt_of_le (fz _ hm).2 nlt) (Nat.lt_irrefl _)
  refine wpAny_pure ⟨plainId_quiet F.plain_any_loop _, any_loop (X := X) (fp := fp) (z := z) (Hz := Hz) (Q := Q) (a := h'.objs.size) (g := z.gens.size) hr.hd (by have := hr.dp; omega) (fun b s' H' o q => ?_) (m0 + 1) _ (hgen _ hat) (Iz.nolimit.keeps kp) hbare rfl ⟨_, Array.getElem?_push_size .., rfl, ?_⟩⟩
  · refine ⟨.bl b, H', Iz.call' (ch := fp) o.os o.un o.hok o.bare fun b hb => ?_, rfl, q⟩
    obtain ⟨_, f1, f2, f3, f4, f5⟩ := (fz b hb).1
    exact ⟨f3, f1, f4, f5⟩
  · have I0 := gen_start (g₁ := (({ z with gens := z.gens.push (.fresh (.compStart (.GeneratorExp elt [⟨.Name x px, iter, [], 0⟩] scope gpos) 0 (.ref it) .none (gEnv X scope z.heap.objs.size code))), toks := z.toks + 1 + 1 + 1, heap := h'.push gob } : Shared).setGen z.gens.size .running).gens) (tk := z.toks + 1 + 1 + 1) (h₁ := h'.push gob) Iz S hrow hdot (A := gAr X.A.in1.in1 elt iter x px gpos scope it (gEnv X scope z.heap.objs.size code)) hr.hd hfr fz (hn'.push _) kp (allBare_setGen hbare rfl)
    have I1 : Inv (gX X x X.A.in1.in1 elt iter px gpos scope it code z Hz fp) [(h'.objs.size, gob)] (none :: σ) Hz _ := I0.pins_of fun p hp => by
      have hp : p ∈ [(h'.objs.size, gob)] := hp
      rw [List.mem_singleton.mp hp]
      refine ⟨hat, Iz.hok.fresh nlt, nne, fun hm => ?_, fun v => by subst hgob; intro e; cases e⟩
      rcases List.mem_cons.mp (Iz.stkSub _ hm) with e | e
      · exact absurd (Nat.lt_of_le_of_lt nlt (by rw [show h'.objs.size = X.env.locals from e]; exact Iz.lt)) (Nat.lt_irrefl _)
      · exact Iz.nofs nlt e
    have stat : ∀ {H' : Hp}, (∀ b ∈ fp, H' b = none) → ∀ b ∈ fp, FpOk (gX X x X.A.in1.in1 elt iter px gpos scope it code z Hz fp) [(h'.objs.size, gob)] H' b := fun {H'} hn b hb => by
      refine ⟨hn b hb, ?_, fun hm => ?_, .inl hb, I1.ok.exf b hb |>.2, fun p hp => ?_⟩
      · exact (I1.ok.exf b hb).1
      · exact I1.ok.exfs b hb hm
      · have hp : p ∈ [(h'.objs.size, gob)] := hp
        rw [List.mem_singleton.mp hp]
        exact fun e => afp (by have e : h'.objs.size = b := e; rw [e]; exact hb)
    exact seg_begin (σ := σ) T (T.keep _ _ _ stz fun b _ o e => kp b o e) _ _ _ (seg_turns S hnd hrow afp hgen T (hbody _ _ _ _ _ _ hroom) turn stat (m0 + 1) 0 m0 none Hz _ _ (Nat.lt_succ_self _) I1 (T.keep _ _ _ stz fun b _ o e => kp b o e) (fun b hb => (fz b hb).1.1) w0)
end
end
/-- over a list that the elements leave as it is -/
theorem walk_list {K : PySem.W.Frag} {a : Addr} {xs : List V} {cont : Bool} {Q : VK} {tb : V → Hp → VK → Prop} (Pv : Nat → Hp → Prop) {H0 : Hp} (h0 : Pv 0 H0) (hl : ∀ i H, i ≤ xs.length → Pv i H → SqL K H a xs)
    (hs : ∀ i x H (N : Hp → Prop), (∀ H'', Pv (i + 1) H'' → N H'') → xs[i]? = some x → Pv i H → tb x H fun v H'' => ∃ b, v = .bl b ∧ (b = cont → N H'') ∧ (b ≠ cont → Q (.bl b) H'')) (hd : ∀ H, Pv xs.length H → Q (.bl cont) H) :
    ∃ W : Nat → Nat → Hp → Prop, (∃ m, W 0 m H0) ∧ Walked (Itl K a) cont Q tb W := by
  refine ⟨fun i m H => m = xs.length - i ∧ i ≤ xs.length ∧ Pv i H, ⟨xs.length, by simp, Nat.zero_le _, h0⟩, ?_⟩
  rintro i m H ⟨rfl, hi, p⟩
  have q := hl i H hi p
  by_cases e : i = xs.length
  · exact .inl ⟨⟨xs, q, by omega⟩, hd H (by rw [← e]; exact p)⟩
  · have hi' : i < xs.length := by omega
    refine .inr ⟨⟨xs, xs[i], q, List.getElem?_eq_getElem hi'⟩, fun x H' ⟨e1, e2⟩ => ?_⟩
    subst e1
    exact hs i x H' _ (fun H'' h => ⟨_, by omega, rfl, hi', h⟩) (e2 xs q) p
theorem walk_tup {K : PySem.W.Frag} {a : Addr} {xs : List V} {cont : Bool} {Q : VK} {tb : V → Hp → VK → Prop} (Pv : Nat → Hp → Prop) {H0 : Hp} (h0 : Pv 0 H0) (hl : ∀ i H, i ≤ xs.length → Pv i H → SqT K H a xs)
    (hs : ∀ i x H (N : Hp → Prop), (∀ H'', Pv (i + 1) H'' → N H'') → xs[i]? = some x → Pv i H → tb x H fun v H'' => ∃ b, v = .bl b ∧ (b = cont → N H'') ∧ (b ≠ cont → Q (.bl b) H'')) (hd : ∀ H, Pv xs.length H → Q (.bl cont) H) :
    ∃ W : Nat → Nat → Hp → Prop, (∃ m, W 0 m H0) ∧ Walked (Itt K a) cont Q tb W := by
  refine ⟨fun i m H => m = xs.length - i ∧ i ≤ xs.length ∧ Pv i H, ⟨xs.length, by simp, Nat.zero_le _, h0⟩, ?_⟩
  rintro i m H ⟨rfl, hi, p⟩
  have q := hl i H hi p
  by_cases e : i = xs.length
  · exact .inl ⟨⟨xs, q, by omega⟩, hd H (by rw [← e]; exact p)⟩
  · have hi' : i < xs.length := by omega
    refine .inr ⟨⟨xs, xs[i], q, List.getElem?_eq_getElem hi'⟩, fun x H' ⟨e1, e2⟩ => ?_⟩
    subst e1
    exact hs i x H' _ (fun H'' h => ⟨_, by omega, rfl, hi', h⟩) (e2 xs q) p
end GenE

set_option Elab.async false
set_option linter.all false
set_option maxRecDepth 100000
set_option maxHeartbeats 4000000
namespace W
open PySem PySem.Spec PyProof.Rows L2 GxR MyG MyS SqX
open MyH (rInDT rNotInDT op_inDT op_notInDT)
/-! ### _without_whole_road -/
abbrev sWr : Stmt := top 38
abbrev nWr : List Str := ["chart", "road"]
theorem scWr : FnScope nWr ["chart", "road"] (defScope sWr) := ⟨rfl, rfl, rfl, by decide +kernel, rfl, by decide +kernel, by decide +kernel⟩
def spWr (K : PySem.W.Frag) (M C U P Pw : Addr) : Sp := fun vs H Q E => ∃ (x : Addr) (v : V) (r : RoadD) (d : Int) (ks : List Str) (q : PT), vs = [.ref x, v] ∧ RoadAt K H r v ∧ GoodR d ks r ∧ MapAt K H M x d ks q.ps q.rs q.bs ∧ TabG H P ∧ TabG H Pw ∧ SP d ks q ∧ ResM K M C U P H d ks (chg d ks q (.road false r)) Q E
section
variable {Pg : Program} {w : World} {K : PySem.W.Frag} {mg : Str → Option Value} {base : Heap} {C P Pw : Addr}
theorem ok_wr {f c fO M U : Addr} {fd fdO : FuncData} {t1 : Tok} (F : Fun K "_without_whole_road" "_without_whole_road" sWr f fd) (hfc : fd.code = .ref c) (TB : TabB base mg c Pw) (hany : mg "any" = none) (T : TxtE mg K C) (TM : TxtM K M) (i_NAME : mg "NAME" = some (.int 0 t1))
    (mWO : Meth K M "without_road" fO) (GWO : FnOk Pg w K mg base (L2N.CX Pg w) 8 fO fdO ["self", "name"] (spWithoutRX K M C U P)) (bWO : Binds K fdO ["self", "name"] []) :
    FnOk Pg w K mg base (L2N.CX Pg w) 12 f fd ["chart", "road"] (spWr K M C U P Pw) := by
  refine MyN.okNC F hfc scWr (fun vs H Q E h => ?_) (fun A outer s H vs Q E hr h => ?_)
  · obtain ⟨x, v, r, d, ks, q, rfl, _⟩ := h
    rfl
  · obtain ⟨x, v, r, d, ks, q, rfl, hv, gr, hM, hP, hPw, sp, kQ, kE⟩ := h
    refine ⟨_, (pss_cons (ps_if (pt_cmpR (r := rNotInDT K) (op_notInDT (u65 hr)) (pv 1) (pe_fld (pv 0) rfl) (by rfl)) (pss_one (L2N.ps_raise rfl (L2N.takes_of rfl rfl rfl rfl) (MyN.mk1 PySem.F.excBase_ValueError T.xC T.gC T.kC (raises_own T.bC T.tC) (by rfl) pe_str)))
        pss_nil)
      (pss_cons (ps_if (pt_val (GenE.pe_anyE (P := Pw) (k := 10) (by exact hr) (by rfl) hany ⟨TB.code, TB.bm, TB.gP⟩ rfl (GenE.gnS_by (sc := defScope sWr) (by decide +kernel)) scWr.nd (show ("bar" : Str) ∉ nWr by decide +kernel) (show (".0" : Str) ∉ nWr by decide +kernel) (pi_tup (pe_fld (pv 0) rfl))
          (fun A C code s H fp hr2 => by exact pe_cmpR (r := rIn K false) op_in_seq (pe_ix (r := rIxT K) ix_tup (pv 2) (pe_gI i_NAME) (fun _ _ => rfl)) (pv 0) (by rfl)) (fun _ => rfl))) (pss_one (L2N.ps_raise rfl (L2N.takes_of rfl rfl rfl rfl) (MyN.mk1 PySem.F.excBase_ValueError T.xC T.gC T.kC (raises_own T.bC T.tC) (by rfl) (pe_joined (PJ.cons pe_str (PJ.cons (pe_fmt (pe_ix (r := rIxT K) ix_tup (pv 1) (pe_gI i_NAME) (fun _ _ => rfl))) (PJ.cons pe_str PJ.nil)))))))
        pss_nil)
      (pss_one (ps_ret (pe_meth (E := E) (pv 0) TM.cl mWO GWO (hr.mono (by decide)) bWO .nil (L2N.passes_call (L2N.takes_of rfl rfl rfl rfl) (fun _ _ _ _ h => h)) (pa_cons (pe_ix (r := rIxT K) ix_tup (pv 1) (pe_gI i_NAME) (fun _ _ => rfl)) pa_nil)))))), ?_⟩
    obtain ⟨t, u, hh, rfl, et, eu, eh⟩ := id hv
    obtain ⟨dx, fs, kk, pp, rr, D, bb, D2, ys, zs, hx, m⟩ := id hM
    have ok := sp.ok
    have tx := gr.txt ok.kn
    have sg := gr.small ok.kn
    have anyR := any_eqv pl_road (fun _ _ => roadP_inj) q.rs r
    refine ⟨_, rfl, _, rfl, x, M, dx, fs, _, rfl, hx, TM.cl, TM.n4, m.f4, roadP r, q.rs.map roadP, hv.dp, .tup (SqT.of m.r) (dpAll_of (fun _ _ m => m.dp) m.ry), tx.lay.shaped (by decide), (lay_roadsP (SP.good sp) ok.kn).shaped (by decide), _, rfl, ?_⟩
    by_cases c1 : r ∈ q.rs
    case neg =>
      refine if_t (by rw [Bool.eq_false_iff.mpr fun e => c1 (anyR.mp e)]; rfl) ?_
      have e : chg d ks q (.road false r) = none := by simp only [chg]; exact if_pos (.inl c1)
      exact (kE e).1.here hP
    refine if_f (by rw [anyR.mpr c1]; rfl) ?_
    refine ⟨_, rfl, x, M, dx, fs, _, rfl, hx, TM.cl, TM.n6, m.f6, bb, rfl, ⟨_, SqT.of m.b⟩, hPw, fun H2 tm => ?_⟩
    have g2 : Grew P H H2 := Grew.of2 hP hPw (GenE.TabM.tabbed tm)
    have lz := Paired.len m.bz
    refine GenE.walk_tup (K := K) (a := bb) (xs := zs) (fun i H' => Grew P H H' ∧ ∀ b ∈ q.bs.take i, ¬ (r.name = b.1 ∨ r.name = b.2)) ⟨g2, fun b hb => absurd hb (by simp)⟩ (fun i H' _ p => SqT.of (p.1.tup hP m.b)) (fun i vb H' N nx hvb p => ?_) (fun H' p => ?_)
    · obtain ⟨g, hno⟩ := p
      obtain ⟨b, hb1, hbm⟩ := Paired.at m.bz hvb
      obtain ⟨tb, rfl, etb⟩ := hbm.grew g hP
      refine ⟨_, rfl, t, _, 0, _, rfl, rfl, SqT.of (g.tup hP et), rfl, _, rfl, tb, _, rfl, .inr (SqT.of etb), rfl, flat_strs [b.1, b.2], ?_⟩
      rw [show inV (V.str r.name) [V.str b.1, V.str b.2] = decide (r.name ∈ [b.1, b.2]) from inV_dec r.name [b.1, b.2]]
      by_cases c2 : r.name ∈ [b.1, b.2]
      · refine ⟨decide (r.name ∈ [b.1, b.2]), rfl, fun e => ?_, fun _ => ?_⟩
        · rw [decide_eq_true c2] at e
          cases e
        · rw [decide_eq_true c2]
          refine ⟨_, rfl, iteT ?_⟩
          have c3 : r.name = b.1 ∨ r.name = b.2 := by simpa using c2
          have e : chg d ks q (.road false r) = none := by simp only [chg]; exact if_pos (.inr ⟨b, List.mem_of_getElem? hb1, c3⟩)
          have bad := ((kE e).1.on g).here g.tab
          refine tJs_ok (fun z => bad) 0 (fun tt ht => ?_) (Nat.zero_le _) (by show 0 + 1000 * 3 ≤ 100000; decide)
          simp only [List.mem_cons, List.not_mem_nil, or_false] at ht
          rcases ht with rfl | rfl | rfl
          · exact short_c (by decide +kernel)
          · exact short_s (y := r.name) (fun Q q => ⟨_, rfl, t, _, 0, _, rfl, rfl, SqT.of (g.tup hP et), rfl, q⟩) sg.n
          · exact short_c (by decide +kernel)
      · refine ⟨decide (r.name ∈ [b.1, b.2]), rfl, fun _ => nx H' ⟨g, fun y hy => ?_⟩, fun e => absurd (decide_eq_false c2) e⟩
        rw [List.take_succ, hb1] at hy
        rcases List.mem_append.mp hy with h | h
        · exact hno y h
        · have ey : y = b := by simpa using h
          rw [ey]
          simpa using c2
    · obtain ⟨g, hno⟩ := p
      rw [← lz, List.take_length] at hno
      refine ⟨_, rfl, iteF ?_⟩
      have hn : ¬ ∃ b ∈ q.bs, r.name = b.1 ∨ r.name = b.2 := fun ⟨b, hb, h⟩ => hno b hb h
      have hM2 := MapAt.grew g hP hM
      obtain ⟨dx', fs', kk', pp', rr', D', bb', D2', ys', zs', hx', m'⟩ := id hM2
      refine ⟨_, rfl, x, dx', fs', rfl, hx', m'.f0 _ (by decide +kernel), _, rfl, t, _, 0, _, rfl, rfl, SqT.of (g.tup hP et), rfl, x, r.name, d, ks, q.ps, q.rs, q.bs, rfl, sg.n, ⟨hM2, g.tab, ok⟩, fun _ => ⟨fun _ y H3 ks' ps' rs' bs' g3 ny sr m3 => ?_, fun no => ?_⟩, fun no => absurd ⟨r, c1, rfl⟩ no⟩
      · have e : chg d ks q (.road false r) = some ⟨q.ps, outR r q.rs, q.bs⟩ := by simp only [chg]; exact if_neg fun h => h.elim (fun h => h c1) hn
        have s2 : SP d ks ⟨q.ps, outR r q.rs, q.bs⟩ := chg_sp sp (c := .road false r) gr e
        rw [← outR_but ok.r.nd c1, butB_none hn] at sr
        obtain ⟨e1, e2, e3, e4⟩ := s2.made (List.Perm.refl _) (List.Perm.refl _) (List.Perm.refl _) sr
        rw [e1, e2, e3, e4] at m3
        exact kQ _ e H3 y (g.trans g3) (g.free ny) m3
      · exact absurd (by rw [butB_none hn]; exact ok_unroad ok hn) no
end
end W

set_option Elab.async false
set_option linter.all false
set_option maxRecDepth 100000
set_option maxHeartbeats 1000000
/-! a match statement whose cases are lists of a text and names -/
namespace MatchM
open PySem PySem.Spec PyProof.Rows L2
abbrev TMC := V → TS
structure PMC (X : Cx) (cs : List MatchCase) (t : TMC) : Prop where
  run : ∀ (pins : List (Addr × Obj)) (s : Shared) (σ : L2.St) (H : Hp) (D : Ends) (v : V) (u : Value) (first : Bool), Inv X pins σ H s → RelV v u → t v D σ H → wpAny (model X.prog X.w) X.A (matchCases cs X.env u first) (SP X pins D) X.xe s
section
variable {X : Cx}
def tMatch (te : TE) (t : TMC) : TS := fun D σ H => te σ H fun x H1 => t x D σ H1
theorem ps_match {e : Expr} {cs : List MatchCase} {pos : Pos} {te : TE} {t : TMC} (he : PE X e te) (hc : PMC X cs t) : PS X (.Match e cs pos) (tMatch te t) :=
  ⟨fun pins s σ H D I h => wpAny_Match (thn (he.run pins s σ H _ I h) fun v s1 ⟨x, H1, I1, r1, q1⟩ => hc.run pins s1 σ H1 D x v true I1 r1 q1)⟩
def mNil : TMC := fun _ D σ H => D.nx σ H
theorem pmc_nil : PMC X [] mNil := ⟨fun _ _ σ H D _ _ _ I _ h => wpAny_matchCases_nil ⟨σ, H, I, h⟩⟩
/-- the names of a case -/
def Caps : List Pattern → List Str → Prop
  | [], [] => True
  | .MatchAs none (some n) _ :: ps, m :: ns => n = m ∧ Caps ps ns
  | _, _ => False
def Slots (X : Cx) : List Str → List Nat → Prop
  | [], [] => True
  | n :: ns, i :: is => (X.N[i]? = some n ∧ Loc X.env.scope n ∧ (X.fn n = true ∨ X.env.scope.names.lookup n = some .local)) ∧ Slots X ns is
  | _, _ => False
def setL : List Nat → List V → L2.St → L2.St
  | i :: is, v :: vs, σ => setL is vs (σ.set i (some v))
  | _, _, σ => σ
theorem caps_len : ∀ {ps : List Pattern} {ns : List Str}, Caps ps ns → ps.length = ns.length
  | [], [], _ => rfl
  | .MatchAs none (some n) _ :: ps, m :: ns, h => by rw [List.length_cons, List.length_cons, caps_len h.2]
theorem caps_star : ∀ {ps : List Pattern} {ns : List Str}, Caps ps ns → ps.findIdx? (·.isStar) = none
  | [], [], _ => rfl
  | .MatchAs none (some n) _ :: ps, m :: ns, h => by
    rw [List.findIdx?_cons, show Pattern.isStar (.MatchAs none (some n) _) = false from rfl, caps_star h.2]
    rfl
theorem caps_each {M : Model} {A : Around} {E : Value → Shared → Prop} {s : Shared} {env : Env} {Q : Option (List (Str × Value)) → Shared → Prop} : ∀ {ps : List Pattern} {ns : List Str} {us : List Value}, Caps ps ns → us.length = ns.length → Q (some (ns.zip us)) s → wpAny M A (matchEach ps env us) Q E s
  | [], [], [], _, _, h => wpAny_matchEach_nil h
  | .MatchAs none (some n) _ :: ps, m :: ns, u :: us, hc, hl, h => by
    obtain ⟨rfl, hc⟩ := hc
    refine wpAny_matchEach_cons (wpAny_matchPattern_Capture ?_) rfl
    exact caps_each hc (by simpa using hl) h
theorem caps_set {pins : List (Addr × Obj)} {H : Hp} {Q : Unit → Shared → Prop} (hN : X.N.Nodup) : ∀ {ns : List Str} {is : List Nat} {vs : List V} {us : List Value} {σ : L2.St} {s : Shared}, Slots X ns is → Vals vs us → vs.length = ns.length → Inv X pins σ H s →
    (∀ s', Inv X pins (setL is vs σ) H s' → Q () s') → wpAny (model X.prog X.w) X.A (assignInOrder ((ns.zip us).map fun p => bindName X.env p.1) ((ns.zip us).map (·.2))) Q X.xe s
  | [], [], [], _, σ, s, _, r, _, I, h => by
    cases r
    exact wpAny_assignInOrder_none (h s I)
  | n :: ns, i :: is, v :: vs, _, σ, s, hs, .cons r rr, hl, I, h => by
    obtain ⟨⟨h1, h2, h3⟩, hs⟩ := hs
    refine wpAny_assignInOrder_more (wpAny_bindName (store_ok I hN h1 h2 r (fun s' I' => ?_) h3))
    exact caps_set hN hs rr (by simpa using hl) I' h
/-- case ['w', a, b, ..]: -/
def mSeq (K : PySem.W.Frag) (w : Str) (n : Nat) (is : List Nat) (tb : TS) (tr : TMC) : TMC := fun v D σ H => ∃ a z ys, v = .ref a ∧ SqT K H a (.str z :: ys) ∧ ys.length < 1000 ∧ (if decide (ys.length = n ∧ z = w) = true then tb D (setL is ys σ) H else tr v D σ H)
theorem pmc_seq {K : PySem.W.Frag} {w : Str} {ps : List Pattern} {ns : List Str} {is : List Nat} {body : List Stmt} {rest : List MatchCase} {j : Nat} {p1 p2 p3 : Pos} {tb : TS} {tr : TMC} (hK : X.K = K) (calm : X.calm = true) (hN : X.N.Nodup) (hc : Caps ps ns) (hs : Slots X ns is) (hb : PSs X body tb) (hr : PMC X rest tr) :
    PMC X (⟨.MatchSequence (.MatchValue (.Constant (.str w) j p1) p2 :: ps) p3, none, body⟩ :: rest) (mSeq K w ns.length is tb tr) := by
  subst hK
  refine ⟨fun pins s σ H D v u first I r h => ?_⟩
  obtain ⟨a, z, ys, rfl, hq, hl, h⟩ := h
  cases r
  obtain ⟨its, rv, ht, hz⟩ := I.tuple hq
  have hlen : its.length = ys.length + 1 := by
    have q : ((V.str z) :: ys).length = its.length := Vals.length rv
    rw [← q]
    rfl
  have hfit : (its.toArray.size : Int) < 2 ^ 63 := by
    have : its.toArray.size = its.length := by simp
    omega
  have hpl := caps_len hc
  have hst : (Pattern.MatchValue (.Constant (.str w) j p1) p2 :: ps).findIdx? (·.isStar) = none := by
    rw [List.findIdx?_cons, show Pattern.isStar (.MatchValue (.Constant (.str w) j p1) p2) = false from rfl, caps_star hc]
    rfl
  refine wpAny_matchCases_cons ?_
  by_cases hn : ys.length = ns.length
  · have hsz : its.toArray.size = (Pattern.MatchValue (.Constant (.str w) j p1) p2 :: ps).length := by
      rw [List.length_cons, hpl]
      simp
      omega
    refine matchSeq_tuple_hit ht hfit hsz ?_ hst rfl
    rw [← hsz]
    refine unpackItems_tuple (I.ok.hd calm) ht fun h' hx => ?_
    have I1 : Inv X pins σ H { ({ s with toks := s.toks + 1 + 1 } : Shared) with heap := h' } := (I.tok (s.toks + 1 + 1)).kept (t' := s.toks + 1 + 1) fun b o e => hx b o (Nat.ne_of_lt (Heap.lt_size e)) e
    generalize ({ ({ s with toks := s.toks + 1 + 1 } : Shared) with heap := h' } : Shared) = s1 at I1
    rw [List.toList_toArray]
    cases rv with
    | cons r0 rr =>
      rename_i u0 us
      have hul : us.length = ns.length := by
        have q := Vals.length rr
        omega
      refine wpAny_matchEach_cons ?_ rfl
      refine wpAny_matchPattern_Value ?_
      refine Calls.Constant_str ?_
      refine thn (op_eq (X := X) pins _ σ H (.str z) (.str w) _ _ (fun x H' => x = .bl (decide (V.str z = V.str w)) ∧ H' = H) (I1.tok _) r0 ⟨_, rfl⟩ ⟨rfl, rfl, rfl⟩) fun c s2 ⟨x, H', I2, r2, e1, e2⟩ => ?_
      subst e1 e2
      cases r2
      refine wpAny_truthy_bool ?_
      by_cases e : z = w
      · rw [decide_eq_true (congrArg V.str e), if_pos rfl]
        rw [decide_eq_true ⟨hn, e⟩, if_pos rfl] at h
        refine caps_each hc hul ?_
        exact caps_set hN hs rr hn I2 fun s3 I3 => hb.run pins s3 _ H' D I3 h
      · rw [decide_eq_false (fun q => e (V.str.inj q)), if_neg Bool.false_ne_true]
        rw [decide_eq_false (fun q => e q.2), if_neg Bool.false_ne_true] at h
        exact hr.run pins s2 σ H' D (.ref a) _ false I2 rfl h
  · rw [decide_eq_false (fun q => hn q.1), if_neg Bool.false_ne_true] at h
    have hsz : its.toArray.size ≠ (Pattern.MatchValue (.Constant (.str w) j p1) p2 :: ps).length := by
      rw [List.length_cons, hpl]
      simp
      omega
    exact matchSeq_tuple_miss ht hfit hsz (hr.run pins _ σ H D (.ref a) _ false (I.tok _) rfl h) hst rfl
end
end MatchM

set_option Elab.async false
set_option linter.all false
set_option maxRecDepth 100000
set_option maxHeartbeats 2000000
/-! try with one clause for two classes, whose suite may raise; the body lets out what the clause names -/
namespace MyN
open PySem PySem.Spec PyProof.Rows L2 HotX L2H
theorem funs_keep {base h h' : Heap} (k : ∀ b o, h.get? b = some o → h'.get? b = some o) : ∀ {l : List Env}, h.FunFrames base l → h'.FunFrames base l
  | [], _ => trivial
  | _ :: _, ⟨c, ⟨L, o, f, n, e, d⟩, r⟩ => ⟨c, ⟨L, o, f, n, k _ _ e, d⟩, funs_keep k r⟩
theorem fly_keep {B h h' : Heap} {l : List Env} {a : Addr} {Z : Obj → Prop} (k : ∀ b o, h.get? b = some o → h'.get? b = some o) (x : HandSPX.FlyingZ B l a Z h) : HandSPX.FlyingZ B l a Z h' := by
  obtain ⟨st, n, f, oe, vs, T, oT, ts, e, z, d, v1, nT, neT, eT, dT, t3⟩ := x
  exact ⟨fun b o q => k b o (st b o q), n, funs_keep k f, oe, vs, T, oT, ts, k _ _ e, z, d, v1, nT, neT, k _ _ eT, dT, t3⟩
/-- what the clause wishes -/
def wTwo (K : PySem.W.Frag) (c1 c2 : Value) (ts : Addr → Value → Option Addr → TS) (D : Ends) : WX := fun cls d σ H => PySem.W.exmAny K cls [c1, c2] = some true ∧ ∀ a, H a = none → ts a cls d D σ H
/-- the whole statement -/
def tTwo (K : PySem.W.Frag) (c1 c2 : Value) (ts : Addr → Value → Option Addr → TS) (tb : WX → TS) : TS := fun D σ H => tb (wTwo K c1 c2 ts D) D σ H
section
variable {X : Cx} {x1 x2 : Str} {c1 c2 : Value} {body suite : List Stmt} {b0 : Stmt} {p1 p2 p3 pos pos' : Pos} {kc : Nat} {tb : WX → TS} {ts : Addr → Value → Option Addr → TS} {Wout : WX}
theorem ps_try_two (st : X.stack = X.env :: X.outer) (fr : X.env.frame = some X.env.locals) (n1 : Names X x1 c1) (n2 : Names X x2 c2) (own : ∀ hd : Option Value, PassesOwnAt (model X.prog X.w) (X.A.mark hd) X.A X.env X.xe) (tk : L2.Takes X Wout)
    (hb : ∀ (W : WX) (pn : List (Addr × Obj)) (xe : Value → Shared → Prop), L2N.Takes (X.tr pn xe) W → PassesOwn (model X.prog X.w) X.A X.env xe → PSs (X.tr pn xe) body (tb W))
    (hsu : ∀ (a : Addr) (o : Obj) (cls : Value) (d : Option Addr) (pn : List (Addr × Obj)), L2N.Zn cls d o → (∃ vs, o.data = .fields vs) → L2.Takes (suiteX X a ((a, o) :: pn)) Wout → HotC (suiteX X a ((a, o) :: pn)) →
      PSs (suiteX X a ((a, o) :: pn)) (b0 :: suite) (ts a cls d)) :
    PS X (.Try body [.ExceptHandler (some (.Tuple [.Name x1 p1, .Name x2 p2] kc p3)) none (b0 :: suite) pos'] [] [] pos) (tTwo X.K c1 c2 ts tb) := by
  refine ⟨fun pins s σ H D I h => wpAny_Try_except ?_⟩
  have ok := I.ok
  have af : X.A.frames = some (X.env :: X.outer) := by rw [ok.frames, st]
  obtain ⟨catch_, ec⟩ : ∃ c : Value → Shared → Prop, c = fun e z => wpAny (model X.prog X.w) X.A (noteFrame e X.env) (fun _ z2 => wpAny (model X.prog X.w) X.A (setFlight e none) (fun _ z3 =>
    wpAny (model X.prog X.w) X.A (handleBy e X.env [.ExceptHandler (some (.Tuple [.Name x1 p1, .Name x2 p2] kc p3)) none (b0 :: suite) pos']) (SP X pins D) X.xe z3) X.xe z2) X.xe z := ⟨_, rfl⟩
  have T : L2N.Takes (X.tr (X.pn ++ pins) catch_) (wTwo X.K c1 c2 ts D) := fun u z thrown => by
    obtain ⟨a, B, zI, pins', σ', H', cls, d, rfl, J0, nb, up, sky0, na, os, ag, fits, go⟩ := thrown
    have J : Inv X pins σ' H' zI := J0.ofTry ok
    have sky : Sky B (X.env :: X.outer) a (L2N.Zn cls d) X.env.locals z.heap := by rw [← st]; exact sky0
    rw [ec]
    show wpAny (model X.prog X.w) X.A (noteFrame (.ref a) X.env) _ _ _
    refine L2N.Sky.land L2N.Zn.steady af fr sky fun k1 fl1 up1 => ?_
    have J1 : Inv X pins σ' H' { z with heap := k1 } := J.landed nb fl1.1 (up.trans up1) os ag
    obtain ⟨o1, vs1, g1, z1, d1⟩ := fl1.there
    have out : a ∉ frs (X.env :: X.outer) := fun hm => by
      obtain ⟨_, o', e', hnf⟩ := fl1.2.2.1.mem hm
      rw [g1] at e'
      cases e'
      exact hnf _ d1
    have neL : a ≠ X.env.locals := fun e => out (List.mem_filterMap.mpr ⟨X.env, List.mem_cons_self, by rw [fr, e]⟩)
    have neF : a ∉ X.fs := fun hm => by
      obtain ⟨e, he, q⟩ := List.mem_filterMap.mp hm
      exact out (List.mem_filterMap.mpr ⟨e, List.mem_cons_of_mem _ he, q⟩)
    have S1 := J1.suite g1 d1 na neL neF
    refine wpAny_handleBy_cons (codeAny_handlers_test ?_) (by intro q; cases q)
    have named : ∀ {x : Str} {c : Value} {p : Pos} {Q E : Value → Shared → Prop}, Names X x c → Q c { z with heap := k1 } → wpAny (model X.prog X.w) (X.A.mark (some (.ref a))) (eval (.Name x p) X.env) Q E { z with heap := k1 } := fun {x c p Q E} hc q => by
      obtain ⟨gl, db, m | ⟨m, v, nn⟩⟩ := hc
      · exact ld_glob (X := X.suite a ((a, o1) :: (X.pn ++ pins))) S1 gl m q db
      · exact ld_blt (X := X.suite a ((a, o1) :: (X.pn ++ pins))) S1 gl m v q nn db
    refine wpAny_Tuple (wpAny_items_cons (named n1 (wpAny_items_cons (named n2 (wpAny_items_nil ⟨by rw [sizeLine_eq]; show (2 : Nat) ≤ _; omega, ?_⟩)))))
    have kp : ∀ b o, k1.get? b = some o → (k1.push { cls := .type "tuple", data := .seq [c1, c2].toArray }).get? b = some o := fun b o e => Heap.get?_push_of_some _ e
    have upp : k1.UpToSlots (k1.push { cls := .type "tuple", data := .seq [c1, c2].toArray }) := fun b o e _ => ⟨o.slots, kp b o e⟩
    have flp := fly_keep kp fl1
    have LT : PySem.W.Looks (model X.prog X.w) (k1.push { cls := .type "tuple", data := .seq [c1, c2].toArray }) (typeOf (.ref a)) cls := fun A Q E z k q => wpAny_typeOf_ref (k _ _ (kp _ _ g1)) (by rw [z1.1]; exact q)
    refine (PySem.W.exm_tup2 (M := model X.prog X.w) (J1.kIn.keeps kp) LT (Heap.get?_push_size _ rfl) fits).here ?_
    refine codeAny_handlers_suite (HandSPX.lands_againZ flp fun k2 fl2 up2 => ?_)
    have J2 : Inv X pins σ' H' { z with heap := k2 } := J.landed nb fl2.1 (((up.trans up1).trans upp).trans up2) os ag
    obtain ⟨o2, vs2, g2, z2, d2⟩ := fl2.there
    have S2 := J2.suite g2 d2 na neL neF
    have tkS : L2.Takes (suiteX X a ((a, o2) :: (X.pn ++ pins))) Wout := fun u2 s2 x2 => by
      obtain ⟨a2, B2, sI2, pn2, σ2, H2, cls2, d2, e2, I2, nb2, up2, sky2, na2, os2, ag2, w2⟩ := x2
      exact tk u2 s2 ⟨a2, B2, sI2, pins, σ2, H2, cls2, d2, e2, unsuiteX I2 ok, nb2, up2, sky2, na2, os2, ag2, w2⟩
    have hot : HotC (suiteX X a ((a, o2) :: (X.pn ++ pins))) := ⟨(a, o2), ⟨rfl, vs2, d2, z2.2.2 vs2 d2⟩, List.mem_cons_self⟩
    refine wpAny_mono ((hsu a o2 cls d (X.pn ++ pins) z2 ⟨_, d2⟩ tkS hot).run [] _ _ H' _ (suiteX_of S2) (go a na)) (fun f z6 hsp => ?_) (fun e6 z6 q => own (some (.ref a)) e6 z6 q)
    match f, hsp with
    | .next, ⟨_, _, S6, q⟩ => exact ⟨_, _, unsuiteX S6 ok, q⟩
    | .brk, ⟨_, _, S6, q⟩ => exact ⟨_, _, unsuiteX S6 ok, q⟩
    | .cont, ⟨_, _, S6, q⟩ => exact ⟨_, _, unsuiteX S6 ok, q⟩
    | .ret u, ⟨_, _, _, S6, rv, q⟩ => exact ⟨_, _, _, unsuiteX S6 ok, rv, q⟩
  have P : PassesOwn (model X.prog X.w) X.A X.env catch_ := by
    rw [ec]
    exact PassesOwn.looking
  refine wpAny_mono ((hb _ (X.pn ++ pins) catch_ T P).run [] s σ H D (I.toTry _) h) (fun fl z hsp => ?_) (fun e z he => by
    have he' : catch_ e z := he
    rw [ec] at he'
    exact he')
  match fl, hsp with
  | .next, ⟨_, _, J, q⟩ => exact wpAny_execs_nil ⟨_, _, J.ofTry ok, q⟩
  | .brk, ⟨_, _, J, q⟩ => exact ⟨_, _, J.ofTry ok, q⟩
  | .cont, ⟨_, _, J, q⟩ => exact ⟨_, _, J.ofTry ok, q⟩
  | .ret u, ⟨_, _, _, J, rv, q⟩ => exact ⟨_, _, _, J.ofTry ok, rv, q⟩
end
end MyN

set_option Elab.async false
set_option linter.all false
set_option maxRecDepth 100000
set_option maxHeartbeats 1000000
namespace W
open PySem PySem.Spec PyProof.Rows L2 GxR MyG MyS MyR
/-! ### InvalidSet.__init__ -/
abbrev sSInit : Stmt := inClass (top 5) 0
def spSInit (K : PySem.W.Frag) (R : Addr) : Sp := fun vs H Q _ => ∃ (a : Addr) (n : Int), vs = [.ref a, .int n] ∧ 0 ≤ n ∧ n ≤ 1000 ∧ H a = some (exo a R none) ∧ ∀ dx, H dx = none → dx ≠ a → Q .non (L2.upd (L2.upd H dx (exd dx [("number", V.int n)])) a (exo a R (some dx)))
def scFakeN : Scope := { kind := .function, names := [("self", .local), ("number", .local)], isGenerator := false, isCoroutine := false, more := [] }
theorem scFakeNOk : FnScope ["self", "number"] ["self", "number"] scFakeN := ⟨rfl, rfl, rfl, by decide +kernel, rfl, by decide +kernel, by decide +kernel⟩
abbrev fdIS (dV kV doc pm : Value) (an : Option Addr) (cda : Addr) (ct : Value) (cc : Addr) : FuncData := PySem.W.fnX "__init__" "InvalidSet.__init__" (defArgs sSInit) (defBody sSInit) (defScope sSInit) [("__class__", cc)] dV kV doc pm an (.ref cda) ct
section
variable {Pg : Program} {w : World} {K : PySem.W.Frag} {mg : Str → Option Value} {base : Heap} {C P : Addr}
theorem ok_sinitH {CX : CXT} {f U cc cda : Addr} {oc ccl cl dV kV doc pm ct : Value} {od cdd cld an : Option Addr} {osl ccs csl : Array (Option Value)} {vs : Array Value} {file : Str} {tf : Tok}
    (lk : K.lookup f = some ⟨oc, od, .func (fdIS dV kV doc pm an cda ct cc), osl⟩) (hcd : PySem.W.codeIn K (.ref cda) "InvalidSet.__init__" = true) (hcode : K.lookup cda = some ⟨ccl, cdd, .fields vs, ccs⟩) (hvs : vs[2]? = some (.str file tf)) (hfile : ((Pg.main.file : Str) == file) = true)
    (hcell : K.lookup cc = some ⟨cl, cld, .cell (some (.ref U)), csl⟩) (hsuper : mg "super" = none) (htop : (Pg.main.scope.names.lookup ("super" : Str)).isSome = false)
    (TU : OexC K U) (hmU : PySem.W.mroIn K U (.ref U) = some true) (hop : PySem.W.nsIn K cStatics "thirdparty.any" = some none) (hsi : PySem.W.ks_superIn K U U "__init__" = some (some (.builtin "ValueError.__init__"))) (hsV : PySem.W.subIn K (.ref U) (.type "ValueError") = some true)
    (hno : PySem.W.findIn K (.ref U) "number" = some none) : L2H.FnH Pg w K mg base CX 1 f (fdIS dV kV doc pm an cda ct cc) ["self", "number"] (spSInit K U) := by
  have len : ∀ vs H Q E, spSInit K U vs H Q E → vs.length = 2 := by
    rintro vs H Q E ⟨a, z, rfl, _⟩
    rfl
  refine ⟨len, fun A outer s H args us vs2 Q E pe hr hot hpin e0 hb r hsp => ?_⟩
  obtain ⟨a, z, rfl, hz0, hz, ea, kq⟩ := hsp
  obtain ⟨u1, u2, rfl, r1, r2⟩ := vals2 r
  obtain rfl : u1 = Value.ref a := r1
  obtain ⟨tk, rfl⟩ := r2
  have KX : K.In s.heap := e0.mod.kin.keeps fun b o e => (e0.bs b o e).1
  have lim : s.heap.NoLimit := e0.mod.nolimit.keeps fun b o e => (e0.bs b o e).1
  obtain ⟨cnm, cq, cN, cbs, cbm, csn, csub, cab, ccol, cdd2, c0, c1, c2, c3, c5, hC, hbm⟩ := TU.cls
  refine PySem.ks_codeAny_call_defAt (body := defBody sSInit) (binds := (["self", "number"] : List Str).zip [Value.ref a, Value.int z tk]) hr.depth (KX _ _ lk) rfl lim (PySem.W.codeRec_of KX hcd) rfl hb (show ∀ x ∈ (defScope sSInit).names, x.2 ≠ .cell by decide +kernel) (by
    intro y hy
    rcases List.mem_cons.mp hy with e | hy
    · subst e; show (defScope sSInit).names.lookup ("self" : Str) = some .local; decide +kernel
    · rw [List.mem_singleton.mp hy]; show (defScope sSInit).names.lookup ("number" : Str) = some .local; decide +kernel) (fun h0 hns hk => ?_) rfl rfl rfl
  have em : (fun x => ((["self", "number"] : List Str).zip [Value.ref a, Value.int z tk]).reverse.lookup x) = bindL (envOfC "InvalidSet.__init__" scFakeN s.heap.objs.size f (.ref cda)).kindOf ((["self", "number"] : List Str).zip [Value.ref a, Value.int z tk]) fun _ => none := by
    funext y
    show ([(("number" : Str), Value.int z tk), ("self", Value.ref a)] : List (Str × Value)).lookup y = if y = "number" then some (Value.int z tk) else if y = "self" then some (Value.ref a) else none
    by_cases h1 : y = ("number" : Str)
    · subst h1; rw [if_pos rfl]; rfl
    · rw [if_neg h1]
      by_cases h2 : y = ("self" : Str)
      · subst h2; rw [if_pos rfl]; rfl
      · rw [if_neg h2]
        simp [List.lookup, h1, h2, beq_eq_false_iff_ne.mpr h1, beq_eq_false_iff_ne.mpr h2]
  have I : Inv (L2H.cxH CX Pg w K mg base ["self", "number"] "InvalidSet.__init__" scFakeN f (.ref cda) A outer s H E pe) [] (L2.start ["self", "number"] [.ref a, .int z]) H { s with heap := h0, toks := s.toks + 2 } :=
    L2H.inv_startH scFakeNOk hpin e0 rfl (.cons rfl (.cons ⟨tk, rfl⟩ .nil)) ⟨⟨⟨h0, s.toks + 2, rfl⟩, by rw [← em]; exact hns, hk, Nat.le_refl _⟩, fun n c e => (by cases e), List.Pairwise.nil, fun n c e => (by cases e)⟩
  refine PySem.ks_wpAt_execs_cons (PySem.ks_wpAt_Expr_any (PySem.ks_wpAt_MethodCall ?_))
  have K0 : K.In h0 := KX.keeps hk
  obtain ⟨t1, ho⟩ := exo_at e0.hok ea
  have ho0 : h0.get? a = some (PySem.HandSPX.excO U t1) := hk a _ ho
  have hcl : PySem.W.clsIn K U = some { name := cnm, bases := cbs, mro := .ref U :: cbm, ns := cN, qualname := cq, hasDict := true, slotNames := csn, subclasses := csub, abstract := cab, collection := ccol, hasDel := false } := by unfold PySem.W.clsIn; rw [hC] <;> rfl
  obtain ⟨mb, hb1, hb2⟩ := e0.mod.blt
  have bk0 : ∀ b o, base.get? b = some o → h0.get? b = some o := fun b o e => hk b o (e0.bs b o e).1
  have m1 : (fun x => ((["self", "number"] : List Str).zip [Value.ref a, Value.int z tk]).reverse.lookup x) "self" = some (Value.ref a) := rfl
  refine PySem.ks_wpAt_super_base (f := f) (fd := fdIS dV kV doc pm an cda ct cc) (show (defScope sSInit).names.lookup ("super" : Str) = some .globalImplicit by decide +kernel) (show (defScope sSInit).names.lookup ("__class__" : Str) = some .free by decide +kernel) (by decide) rfl (hk _ _ (KX _ _ lk)) rfl rfl rfl (K0 _ _ hcode) rfl hvs hfile htop ?_
  refine PySem.W.ks_loadName_global rfl (show (defScope sSInit).names.lookup ("super" : Str) = some .globalImplicit by decide +kernel) (Calls.loadGlobal_builtin (e0.mod.glob.keeps bk0) hsuper (hb1.keeps bk0) ((hb2 "super" (by decide)).trans (by decide +kernel)) ⟨rfl, ?_⟩)
  refine wpAny_loadName_free rfl (show (defScope sSInit).names.lookup ("__class__" : Str) = some .free by decide +kernel) rfl ⟨_, K0 _ _ hcell, rfl⟩ ?_
  refine wpAny_loadName_local rfl (show (defScope sSInit).names.lookup ("self" : Str) = some .local by decide +kernel) hns m1 ?_
  refine PySem.ks_wpAny_isType_cls (K0 _ _ hC) rfl ⟨rfl, ?_⟩
  refine PySem.ks_wpAny_call_super (K0 _ _ hC) rfl ho0 rfl (fun c e => by cases e) (PySem.W.looks_mroIn K0 hmU) (fun h1 e1 k1 => ?_)
  have K1 : K.In h1 := K0.keeps k1
  have J1 : PySem.W.InstAt h1 a (PySem.HandSPX.excO U t1) U none := ⟨k1 _ _ ho0, rfl, rfl, trivial⟩
  have hsi' := hsi
  unfold PySem.W.ks_superIn at hsi'
  rw [hcl] at hsi'
  refine PySem.W.kxs_getMethod PySem.W.kxs_ValueError e1 (PySem.W.looks_opaque K1 hop) (l₀ := .ref U :: cbm) (fun A Q E s k q => wpAny_bind ((PySem.W.looks_clsIn K1 hcl) A _ E s k (wpAny_pure q))) rfl K1 hsi' (J1.type.andThen (PySem.W.looks_subIn K1 hsV)) (PySem.W.ks_ne K1 J1 hcl) (by decide) ?_
  have I1 : Inv (L2H.cxH CX Pg w K mg base ["self", "number"] "InvalidSet.__init__" scFakeN f (.ref cda) A outer s H E pe) [] (L2.start ["self", "number"] [.ref a, .int z]) H ⟨h1.push (PySem.W.kxs_mw "ValueError.__init__" a), s.gens, s.drawn, s.toks + 2 + 1, s.os⟩ :=
    I.kept (t' := s.toks + 2 + 1) fun b o q => Heap.get?_push_of_some _ (k1 b o q)
  have hu1 : (h1.push (PySem.W.kxs_mw "ValueError.__init__" a)).get? h1.objs.size = some (PySem.W.kxs_mw "ValueError.__init__" a) := Heap.get?_push_size _ rfl
  have look : ∀ {x : Str} {v : V} {st : Shared} {σ0 : L2.St} {H0 : Hp} (j : Nat), Inv (L2H.cxH CX Pg w K mg base ["self", "number"] "InvalidSet.__init__" scFakeN f (.ref cda) A outer s H E pe) [] σ0 H0 st → (["self", "number"] : List Str)[j]? = some x → σ0[j]? = some (some v) → scFakeN.names.lookup x = some .local → (defScope sSInit).names.lookup x = some .local →
      (x == ("__debug__" : Str)) = false → ∀ (p : Pos) (Q' : Value → Shared → Prop) (E' : Value → Shared → Prop) (A' : Around), (∀ u, RelV v u → Q' u st) → wpAny (model Pg w) A' (eval (.Name x p) (callEnv (fdIS dV kV doc pm an cda ct cc) s.heap.objs.size f)) Q' E' st := by
    intro x v st σ0 H0 j J e1 e2 e3 e4 hdb p Q' E' A' hQ
    obtain ⟨m, hn, hm⟩ := J.loc
    obtain ⟨u, ru, lu⟩ := hm j x v e1 e2 (.inl e3)
    have e5 : m x = some u := by
      rcases lu with ⟨_, q⟩ | ⟨q, _⟩
      · exact q
      · have q' : scFakeN.names.lookup x = some .cell ∨ scFakeN.names.lookup x = some .free := q
        rw [e3] at q'
        rcases q' with q' | q' <;> cases q'
    exact wpAny_Name (wpAny_loadName_local rfl e4 hn e5 (hQ u ru)) hdb
  refine PySem.W.kxs_callWith (i := "ValueError.__init__") (x := a) (by rfl) (Calls.evalArgs_plain ?_)
  refine PyProof.Rows.args_cons (wpAny_JoinedStr ?_) rfl
  refine Calls.Constant_str ⟨_, _, rfl, (show (Str.empty ++ Str.ofString "change number ").length ≤ sizeLine by decide +kernel), ?_⟩
  have I2 := I1.tok (s.toks + 2 + 1 + 1)
  refine wpAny_FormattedValue_plain (look 1 I2 rfl rfl rfl (by decide +kernel) (by decide) _ _ _ _ fun u ru => ?_)
  obtain ⟨tk2, rfl⟩ := ru
  have hlz : (((toString z : String) : Str)).length ≤ 13 := by
    have q := PyData.shown_int_le (i := z) (by omega)
    rw [PyData.shown_int] at q
    exact q
  have hlen : ((Str.empty ++ Str.ofString "change number ") ++ ((toString z : String) : Str)).length ≤ 200 := by
    rw [PySem.Str.length_append]
    have e : (Str.empty ++ (Str.ofString "change number ")).length ≤ 100 := by decide +kernel
    omega
  have eu : L2.upd H a (exo a U none) = H := by
    funext b
    by_cases hb : b = a
    · rw [hb, upd_same, ea]
    · rw [upd_ne hb]
  have hC1 : (h1.push (PySem.W.kxs_mw "ValueError.__init__" a)).get? U = _ := Heap.get?_push_of_some _ (K1 _ _ hC)
  have he1 : (h1.push (PySem.W.kxs_mw "ValueError.__init__" a)).get? a = some (PySem.HandSPX.excO U t1) := Heap.get?_push_of_some _ (k1 _ _ ho0)
  have hlen2 : (((Str.empty ++ Str.ofString "change number ") ++ ((toString z : String) : Str)) ++ Str.ofString " of the set cannot be made").length ≤ 300 := by
    rw [PySem.Str.length_append]
    have e : (Str.ofString " of the set cannot be made").length ≤ 100 := by decide +kernel
    omega
  refine wpAny_formatField_int (Nat.lt_of_le_of_lt (Nat.log2_le_self _) (by omega)) ⟨_, _, rfl, by rw [sizeLine_eq]; omega, ?_⟩
  refine Calls.Constant_str ⟨_, _, rfl, by rw [sizeLine_eq]; omega, by rw [sizeLine_eq]; omega, PyProof.Rows.args_nil ⟨hu1, ?_⟩⟩
  refine call_mw PySem.F.excBase_ValueError hu1 hC1 he1 (by show 1 ≤ sizeLine; decide) (fun h5 t5 k5 e5 => ?_)
  have J5 := I1.write (t' := s.toks + 2 + 1 + 1 + 1) (x := a) (e := a) (o := exo a U none) (by rw [ea]; exact True.intro) (.inl rfl) k5 ⟨_, e5⟩ (exo_ok e5)
  rw [eu] at J5
  have J6 := fun tk => J5.tok tk
  refine PySem.ks_wpAt_execs_cons (PySem.ks_wpAt_Assign_Attr (PySem.wpAt_of_wpAny (look 1 (J6 _) rfl rfl rfl (by decide +kernel) (by decide) _ _ _ _ fun u2 r2 => look 0 (J6 _) rfl rfl rfl (by decide +kernel) (by decide) _ _ _ _ fun u3 r3 => ?_)))
  obtain rfl : u3 = Value.ref a := r3
  refine ost_new TU (J6 _) ea hno r2 fun dx s' nd ne J' => ?_
  refine PySem.wpAt_of_wpAny (wpAny_pure ?_)
  exact ⟨.non, _, J'.os, J'.bare, J'.base, J'.hok, rfl, kq dx nd ne⟩
end
end W

set_option Elab.async false
set_option linter.all false
set_option maxRecDepth 100000
set_option maxHeartbeats 4000000
namespace W
open PySem PySem.Spec PyProof.Rows L2 GxR MyG MyS SqX
open MatchM
/-! ### _behind_change -/
section
variable {K : PySem.W.Frag} {w : Str} {n : Nat} {is : List Nat} {tb : TS} {tr : TMC} {a : Addr} {z : Str} {ys : List V} {D : Ends} {σ : L2.St} {H : Hp}
theorem mtake (hq : SqT K H a (.str z :: ys)) (hl : ys.length < 1000) (e : ys.length = n ∧ z = w) (h : tb D (setL is ys σ) H) : mSeq K w n is tb tr (.ref a) D σ H :=
  ⟨a, z, ys, rfl, hq, hl, if_t (decide_eq_true e) h⟩
theorem mskip (hq : SqT K H a (.str z :: ys)) (hl : ys.length < 1000) (e : ¬ (ys.length = n ∧ z = w)) (h : tr (.ref a) D σ H) : mSeq K w n is tb tr (.ref a) D σ H :=
  ⟨a, z, ys, rfl, hq, hl, if_f (decide_eq_false e) h⟩
end
abbrev sBc : Stmt := top 36
abbrev nBc : List Str := ["chart", "change", "place", "road", "name", "before", "after", "first", "second"]
theorem scBc : FnScope nBc ["chart", "change"] (defScope sBc) := ⟨rfl, rfl, rfl, by decide +kernel, rfl, by decide +kernel, by decide +kernel⟩
def spBc (K : PySem.W.Frag) (M C U P Pw : Addr) : Sp := fun vs H Q E => ∃ (x : Addr) (v : V) (c : Chg) (d : Int) (ks : List Str) (q : PT), vs = [.ref x, v] ∧ ChgAt K H c v ∧ ChgOk d ks c ∧ MapAt K H M x d ks q.ps q.rs q.bs ∧ TabG H P ∧ TabG H Pw ∧ SP d ks q ∧ ResM K M C U P H d ks (chg d ks q c) Q E
section
variable {Pg : Program} {w : World} {K : PySem.W.Frag} {mg : Str → Option Value} {base : Heap} {C P Pw : Addr}
theorem sm_parts {d : Int} {ks ps ps' : List Str} {rs : List RoadD} {bs bs' : List (Str × Str)} (h : PartsOk d ks ps rs bs) (lp : ps'.length ≤ 1000) (hp : ∀ z ∈ ps', z.length ≤ 1000) (lb : bs'.length ≤ 1000) (hb : ∀ b ∈ bs', b.1.length ≤ 1000 ∧ b.2.length ≤ 1000) : PartsSm d ks ps' rs bs' := by
  obtain ⟨s⟩ := h.sm
  refine ⟨⟨s.d, s.kl, s.k, lp, hp, s.rl, s.r, by rw [List.length_map]; exact lb, fun g hg z hz => ?_⟩⟩
  obtain ⟨b, hb1, rfl⟩ := List.mem_map.mp hg
  have q := hb b hb1
  rcases List.mem_cons.mp hz with e | hz
  · rw [e]; exact q.1
  · rw [List.mem_singleton.mp hz]; exact q.2
theorem ok_bc {f fA fB fC fD fE fF fG M U : Addr} {fd fdA fdB fdC fdD fdE fdF fdG : FuncData} {t1 t2 t3 : Tok} (F : Fun K "_behind_change" "_behind_change" sBc f fd) (T : TxtE mg K C) (TM : TxtM K M) (i_MIN : mg "MINUTES" = some (.int 3 t1)) (i_KIN : mg "KINDS" = some (.int 4 t2)) (i_HOU : mg "HOURS" = some (.int 5 t3))
    (mWPl : Meth K M "with_place" fA) (GWPl : FnOk Pg w K mg base (L2N.CX Pg w) 8 fA fdA ["self", "place"] (spWithPlX K M C P)) (bWPl : Binds K fdA ["self", "place"] [])
    (mOPl : Meth K M "without_place" fB) (GOPl : FnOk Pg w K mg base (L2N.CX Pg w) 8 fB fdB ["self", "place"] (spWoutPlX K M C U P)) (bOPl : Binds K fdB ["self", "place"] [])
    (mWB : Meth K M "with_bar" fC) (GWB : FnOk Pg w K mg base (L2N.CX Pg w) 8 fC fdC ["self", "first", "second"] (spWithBX K M C U P)) (bWB : Binds K fdC ["self", "first", "second"] [])
    (mOB : Meth K M "without_bar" fD) (GOB : FnOk Pg w K mg base (L2N.CX Pg w) 8 fD fdD ["self", "first", "second"] (spWoutBX K M C U P)) (bOB : Binds K fdD ["self", "first", "second"] [])
    (GWn : FnOk Pg w K mg base (L2N.CX Pg w) 12 fE fdE ["chart", "road"] (spWn K M C U P)) (gWn : mg "_with_new_road" = some (.ref fE)) (kWn : PySem.W.keepIn K (.ref fE) = true) (bWn : Binds K fdE ["chart", "road"] [])
    (GWr : FnOk Pg w K mg base (L2N.CX Pg w) 12 fF fdF ["chart", "road"] (spWr K M C U P Pw)) (gWr : mg "_without_whole_road" = some (.ref fF)) (kWr : PySem.W.keepIn K (.ref fF) = true) (bWr : Binds K fdF ["chart", "road"] [])
    (GWt : FnOk Pg w K mg base (L2N.CX Pg w) 12 fG fdG ["chart", "name", "part", "before", "after"] (spWt K M C U P)) (gWt : mg "_with_part" = some (.ref fG)) (kWt : PySem.W.keepIn K (.ref fG) = true) (bWt : Binds K fdG ["chart", "name", "part", "before", "after"] []) :
    FnOk Pg w K mg base (L2N.CX Pg w) 14 f fd ["chart", "change"] (spBc K M C U P Pw) := by
  refine MyN.okN F scBc (fun vs H Q E h => ?_) (fun cdv A outer s H vs Q E hr h => ?_)
  · obtain ⟨x, v, c, d, ks, q, rfl, _⟩ := h
    rfl
  · obtain ⟨x, v, c, d, ks, q, rfl, hv, hc, hM, hP, hPw, sp, kQ, kE⟩ := h
    refine ⟨_, (pss_cons (ps_match (pv 1) (pmc_seq (K := K) (w := "place") (ns := ["place"]) (is := [2]) rfl rfl scBc.nd ⟨rfl, trivial⟩ ⟨⟨rfl, Or.inl rfl, Or.inr rfl⟩, trivial⟩ (pss_one (ps_ret (pe_meth (E := E) (pv 0) TM.cl mWPl GWPl (hr.mono (by decide)) bWPl .nil (L2N.passes_call (L2N.takes_of rfl rfl rfl rfl) (fun _ _ _ _ h => h)) (pa_cons (pv 2) pa_nil))))
        (pmc_seq (K := K) (w := "unplace") (ns := ["place"]) (is := [2]) rfl rfl scBc.nd ⟨rfl, trivial⟩ ⟨⟨rfl, Or.inl rfl, Or.inr rfl⟩, trivial⟩ (pss_one (ps_ret (pe_meth (E := E) (pv 0) TM.cl mOPl GOPl (hr.mono (by decide)) bOPl .nil (L2N.passes_call (L2N.takes_of rfl rfl rfl rfl) (fun _ _ _ _ h => h)) (pa_cons (pv 2) pa_nil))))
        (pmc_seq (K := K) (w := "road") (ns := ["road"]) (is := [3]) rfl rfl scBc.nd ⟨rfl, trivial⟩ ⟨⟨rfl, Or.inl rfl, Or.inr rfl⟩, trivial⟩ (pss_one (ps_ret (pe_call (E := E) GWn (hr.mono (by decide)) (by rfl) gWn kWn bWn .nil (L2N.passes_call (L2N.takes_of rfl rfl rfl rfl) (fun _ _ _ _ h => h)) (pa_cons (pv 0) (pa_cons (pv 3) pa_nil)))))
        (pmc_seq (K := K) (w := "unroad") (ns := ["road"]) (is := [3]) rfl rfl scBc.nd ⟨rfl, trivial⟩ ⟨⟨rfl, Or.inl rfl, Or.inr rfl⟩, trivial⟩ (pss_one (ps_ret (pe_call (E := E) GWr (hr.mono (by decide)) (by rfl) gWr kWr bWr .nil (L2N.passes_call (L2N.takes_of rfl rfl rfl rfl) (fun _ _ _ _ h => h)) (pa_cons (pv 0) (pa_cons (pv 3) pa_nil)))))
        (pmc_seq (K := K) (w := "minutes") (ns := ["name", "before", "after"]) (is := [4, 5, 6]) rfl rfl scBc.nd ⟨rfl, ⟨rfl, ⟨rfl, trivial⟩⟩⟩ ⟨⟨rfl, Or.inl rfl, Or.inr rfl⟩, ⟨⟨rfl, Or.inl rfl, Or.inr rfl⟩, ⟨⟨rfl, Or.inl rfl, Or.inr rfl⟩, trivial⟩⟩⟩ (pss_one (ps_ret (pe_call (E := E) GWt (hr.mono (by decide)) (by rfl) gWt kWt bWt .nil (L2N.passes_call (L2N.takes_of rfl rfl rfl rfl) (fun _ _ _ _ h => h)) (pa_cons (pv 0) (pa_cons (pv 4) (pa_cons (pe_gI i_MIN) (pa_cons (pv 5) (pa_cons (pv 6) pa_nil))))))))
        (pmc_seq (K := K) (w := "kinds") (ns := ["name", "before", "after"]) (is := [4, 5, 6]) rfl rfl scBc.nd ⟨rfl, ⟨rfl, ⟨rfl, trivial⟩⟩⟩ ⟨⟨rfl, Or.inl rfl, Or.inr rfl⟩, ⟨⟨rfl, Or.inl rfl, Or.inr rfl⟩, ⟨⟨rfl, Or.inl rfl, Or.inr rfl⟩, trivial⟩⟩⟩ (pss_one (ps_ret (pe_call (E := E) GWt (hr.mono (by decide)) (by rfl) gWt kWt bWt .nil (L2N.passes_call (L2N.takes_of rfl rfl rfl rfl) (fun _ _ _ _ h => h)) (pa_cons (pv 0) (pa_cons (pv 4) (pa_cons (pe_gI i_KIN) (pa_cons (pv 5) (pa_cons (pv 6) pa_nil))))))))
        (pmc_seq (K := K) (w := "hours") (ns := ["name", "before", "after"]) (is := [4, 5, 6]) rfl rfl scBc.nd ⟨rfl, ⟨rfl, ⟨rfl, trivial⟩⟩⟩ ⟨⟨rfl, Or.inl rfl, Or.inr rfl⟩, ⟨⟨rfl, Or.inl rfl, Or.inr rfl⟩, ⟨⟨rfl, Or.inl rfl, Or.inr rfl⟩, trivial⟩⟩⟩ (pss_one (ps_ret (pe_call (E := E) GWt (hr.mono (by decide)) (by rfl) gWt kWt bWt .nil (L2N.passes_call (L2N.takes_of rfl rfl rfl rfl) (fun _ _ _ _ h => h)) (pa_cons (pv 0) (pa_cons (pv 4) (pa_cons (pe_gI i_HOU) (pa_cons (pv 5) (pa_cons (pv 6) pa_nil))))))))
        (pmc_seq (K := K) (w := "bar") (ns := ["first", "second"]) (is := [7, 8]) rfl rfl scBc.nd ⟨rfl, ⟨rfl, trivial⟩⟩ ⟨⟨rfl, Or.inl rfl, Or.inr rfl⟩, ⟨⟨rfl, Or.inl rfl, Or.inr rfl⟩, trivial⟩⟩ (pss_one (ps_ret (pe_meth (E := E) (pv 0) TM.cl mWB GWB (hr.mono (by decide)) bWB .nil (L2N.passes_call (L2N.takes_of rfl rfl rfl rfl) (fun _ _ _ _ h => h)) (pa_cons (pv 7) (pa_cons (pv 8) pa_nil)))))
        (pmc_seq (K := K) (w := "unbar") (ns := ["first", "second"]) (is := [7, 8]) rfl rfl scBc.nd ⟨rfl, ⟨rfl, trivial⟩⟩ ⟨⟨rfl, Or.inl rfl, Or.inr rfl⟩, ⟨⟨rfl, Or.inl rfl, Or.inr rfl⟩, trivial⟩⟩ (pss_one (ps_ret (pe_meth (E := E) (pv 0) TM.cl mOB GOB (hr.mono (by decide)) bOB .nil (L2N.passes_call (L2N.takes_of rfl rfl rfl rfl) (fun _ _ _ _ h => h)) (pa_cons (pv 7) (pa_cons (pv 8) pa_nil)))))
        pmc_nil))))))))))
      (pss_one (L2N.ps_raise rfl (L2N.takes_of rfl rfl rfl rfl) (MyN.mk1 PySem.F.excBase_ValueError T.xC T.gC T.kC (raises_own T.bC T.tC) (by rfl) pe_str)))), ?_⟩
    obtain ⟨t, xs, rfl, ht, htl⟩ := id hv
    obtain ⟨dx, fs, kk, pp, rr, D, bb, D2, ys, zs, hx, m⟩ := id hM
    have ok := sp.ok
    have l30 := ok.p2
    have l40 := ok.b.len
    have ln : ∀ {z : Str}, isNm z = true → z.length ≤ 1000 := fun e => Nat.le_trans (isNm_len e) (by decide)
    have bn : ∀ b ∈ q.bs, b.1.length ≤ 1000 ∧ b.2.length ≤ 1000 := fun b hb => by
      obtain ⟨r1, h1, r2, h2, e1, e2, _⟩ := ok.b.ok b hb
      rw [e1, e2]
      exact ⟨ln (List.all_eq_true.mp ok.r.nm _ (List.mem_map.mpr ⟨r1, h1, rfl⟩)), ln (List.all_eq_true.mp ok.r.nm _ (List.mem_map.mpr ⟨r2, h2, rfl⟩))⟩
    have hI : MIn K H M P x d ks q.ps q.rs q.bs := ⟨hM, hP, ok⟩
    have made : ∀ {q' : PT} {ps' : List Str} {rs' : List RoadD} {bs' : List (Str × Str)}, chg d ks q c = some q' → ps'.Perm q'.ps → rs'.Perm q'.rs → bs'.Perm q'.bs → ∀ y, MadeQ K M P y H d ks ps' rs' bs' fun H' => Q (.ref y) H' := by
      intro q' ps' rs' bs' e pp pr pb y H' ks2 ps2 rs2 bs2 g ny sr m2
      have s2 := chg_sp sp hc e
      obtain ⟨e1, e2, e3, e4⟩ := s2.made pp pr pb sr
      rw [e1, e2, e3, e4] at m2
      exact kQ _ e H' y g ny m2
    refine ⟨_, rfl, ?_⟩
    cases c with
    | place up z =>
      have exs : xs = [.str z] := htl
      subst exs
      have hl : ([V.str z] : List V).length < 1000 := by show 1 < 1000; decide
      cases up with
      | true =>
        have hq : SqT K H t (.str "place" :: [V.str z]) := SqT.of ht
        refine mtake hq hl ⟨rfl, rfl⟩ ?_
        have lz := ln (show isNm z = true from hc)
        refine ⟨_, rfl, x, dx, fs, rfl, hx, m.f0 _ (by decide +kernel), _, rfl, x, z, d, ks, q.ps, q.rs, q.bs, rfl, hI, sm_parts ok (by rw [List.length_append]; show _ + 1 ≤ _; omega) (fun y hy => ?_) (by omega) bn, fun okp => ?_, fun no => ?_⟩
        · rcases List.mem_append.mp hy with h | h
          · exact ln (List.all_eq_true.mp ok.pn _ h)
          · rw [List.mem_singleton.mp h]; exact lz
        · have e : chg d ks q (.place true z) = some ⟨srtS (q.ps ++ [z]), q.rs, q.bs⟩ := by simp only [chg]; exact if_neg ((ok_place ok hc).mp okp)
          exact made e (srtS_ok _).1.symm (List.Perm.refl _) (List.Perm.refl _)
        · have e : chg d ks q (.place true z) = none := by simp only [chg]; exact if_pos (Classical.byContradiction fun h => no ((ok_place ok hc).mpr h))
          exact (kE e).1
      | false =>
        have hq : SqT K H t (.str "unplace" :: [V.str z]) := SqT.of ht
        refine mskip hq hl (fun e => (by decide +kernel : ¬ (("unplace" : Str) = "place")) e.2) ?_
        refine mtake hq hl ⟨rfl, rfl⟩ ?_
        have lz := ln (show isNm z = true from hc)
        refine ⟨_, rfl, x, dx, fs, rfl, hx, m.f0 _ (by decide +kernel), _, rfl, x, z, d, ks, q.ps, q.rs, q.bs, rfl, lz, hI, fun hz => ⟨fun okp => ?_, fun no => ?_⟩, fun hz => ?_⟩
        · have e : chg d ks q (.place false z) = some ⟨outP z q.ps, q.rs, q.bs⟩ := by simp only [chg]; exact if_neg fun h => h.elim (fun h => h hz) ((ok_unplace ok z).mp okp)
          exact made e (List.Perm.refl _) (List.Perm.refl _) (List.Perm.refl _)
        · have e : chg d ks q (.place false z) = none := by simp only [chg]; exact if_pos (.inr (Classical.byContradiction fun h => no ((ok_unplace ok z).mpr h)))
          exact (kE e).1
        · have e : chg d ks q (.place false z) = none := by simp only [chg]; exact if_pos (.inl hz)
          exact (kE e).2 H z (Grew.refl hP)
    | road up r =>
      obtain ⟨vr, exs, hr1⟩ : ∃ vr, xs = [vr] ∧ RoadAt K H r vr := htl
      subst exs
      have hl : ([vr] : List V).length < 1000 := by show 1 < 1000; decide
      cases up with
      | true =>
        have hq : SqT K H t (.str "road" :: [vr]) := SqT.of ht
        refine mskip hq hl (fun e => (by decide +kernel : ¬ (("road" : Str) = "place")) e.2) ?_
        refine mskip hq hl (fun e => (by decide +kernel : ¬ (("road" : Str) = "unplace")) e.2) ?_
        refine mtake hq hl ⟨rfl, rfl⟩ ?_
        exact ⟨_, rfl, _, rfl, x, vr, r, d, ks, q, rfl, hr1, hc, hM, hP, sp, kQ, kE⟩
      | false =>
        have hq : SqT K H t (.str "unroad" :: [vr]) := SqT.of ht
        refine mskip hq hl (fun e => (by decide +kernel : ¬ (("unroad" : Str) = "place")) e.2) ?_
        refine mskip hq hl (fun e => (by decide +kernel : ¬ (("unroad" : Str) = "unplace")) e.2) ?_
        refine mskip hq hl (fun e => (by decide +kernel : ¬ (("unroad" : Str) = "road")) e.2) ?_
        refine mtake hq hl ⟨rfl, rfl⟩ ?_
        exact ⟨_, rfl, _, rfl, x, vr, r, d, ks, q, rfl, hr1, hc, hM, hP, hPw, sp, kQ, kE⟩
    | part n a b =>
      obtain ⟨va, vb, exs, ma, mb⟩ : ∃ va vb, xs = [.str n, va, vb] ∧ PtAt K H a va ∧ PtAt K H b vb := htl
      subst exs
      have hl : ([.str n, va, vb] : List V).length < 1000 := by show 3 < 1000; decide
      cases a with
      | mi i =>
        have hq : SqT K H t (.str "minutes" :: [.str n, va, vb]) := SqT.of ht
        refine mskip hq hl (fun e => (by decide +kernel : ¬ (("minutes" : Str) = "place")) e.2) ?_
        refine mskip hq hl (fun e => (by decide +kernel : ¬ (("minutes" : Str) = "unplace")) e.2) ?_
        refine mskip hq hl (fun e => (by decide +kernel : ¬ (("minutes" : Str) = "road")) e.2) ?_
        refine mskip hq hl (fun e => (by decide +kernel : ¬ (("minutes" : Str) = "unroad")) e.2) ?_
        refine mtake hq hl ⟨rfl, rfl⟩ ?_
        exact ⟨_, rfl, _, rfl, _, rfl, _, rfl, x, n, .mi i, b, va, vb, d, ks, q, rfl, ma, mb, hc, hM, hP, sp, kQ, kE⟩
      | ki us =>
        have hq : SqT K H t (.str "kinds" :: [.str n, va, vb]) := SqT.of ht
        refine mskip hq hl (fun e => (by decide +kernel : ¬ (("kinds" : Str) = "place")) e.2) ?_
        refine mskip hq hl (fun e => (by decide +kernel : ¬ (("kinds" : Str) = "unplace")) e.2) ?_
        refine mskip hq hl (fun e => (by decide +kernel : ¬ (("kinds" : Str) = "road")) e.2) ?_
        refine mskip hq hl (fun e => (by decide +kernel : ¬ (("kinds" : Str) = "unroad")) e.2) ?_
        refine mskip hq hl (fun e => (by decide +kernel : ¬ (("kinds" : Str) = "minutes")) e.2) ?_
        refine mtake hq hl ⟨rfl, rfl⟩ ?_
        exact ⟨_, rfl, _, rfl, _, rfl, _, rfl, x, n, .ki us, b, va, vb, d, ks, q, rfl, ma, mb, hc, hM, hP, sp, kQ, kE⟩
      | ho hs =>
        have hq : SqT K H t (.str "hours" :: [.str n, va, vb]) := SqT.of ht
        refine mskip hq hl (fun e => (by decide +kernel : ¬ (("hours" : Str) = "place")) e.2) ?_
        refine mskip hq hl (fun e => (by decide +kernel : ¬ (("hours" : Str) = "unplace")) e.2) ?_
        refine mskip hq hl (fun e => (by decide +kernel : ¬ (("hours" : Str) = "road")) e.2) ?_
        refine mskip hq hl (fun e => (by decide +kernel : ¬ (("hours" : Str) = "unroad")) e.2) ?_
        refine mskip hq hl (fun e => (by decide +kernel : ¬ (("hours" : Str) = "minutes")) e.2) ?_
        refine mskip hq hl (fun e => (by decide +kernel : ¬ (("hours" : Str) = "kinds")) e.2) ?_
        refine mtake hq hl ⟨rfl, rfl⟩ ?_
        exact ⟨_, rfl, _, rfl, _, rfl, _, rfl, x, n, .ho hs, b, va, vb, d, ks, q, rfl, ma, mb, hc, hM, hP, sp, kQ, kE⟩
    | bar up b =>
      have exs : xs = [.str b.1, .str b.2] := htl
      subst exs
      have hl : ([V.str b.1, V.str b.2] : List V).length < 1000 := by show 2 < 1000; decide
      obtain ⟨n1, n2⟩ : isNm b.1 = true ∧ isNm b.2 = true := hc
      have meets : Meets q.rs b → Known q.rs b.1 ∧ Known q.rs b.2 := fun ⟨r1, h1, r2, h2, e1, e2, _⟩ => ⟨⟨r1, h1, e1.symm⟩, r2, h2, e2.symm⟩
      cases up with
      | true =>
        have hq : SqT K H t (.str "bar" :: [.str b.1, .str b.2]) := SqT.of ht
        refine mskip hq hl (fun e => (by decide +kernel : ¬ (("bar" : Str) = "place")) e.2) ?_
        refine mskip hq hl (fun e => (by decide +kernel : ¬ (("bar" : Str) = "unplace")) e.2) ?_
        refine mskip hq hl (fun e => (by decide +kernel : ¬ (("bar" : Str) = "road")) e.2) ?_
        refine mskip hq hl (fun e => (by decide +kernel : ¬ (("bar" : Str) = "unroad")) e.2) ?_
        refine mskip hq hl (fun e => (by decide +kernel : ¬ (("bar" : Str) = "minutes")) e.2) ?_
        refine mskip hq hl (fun e => (by decide +kernel : ¬ (("bar" : Str) = "kinds")) e.2) ?_
        refine mskip hq hl (fun e => (by decide +kernel : ¬ (("bar" : Str) = "hours")) e.2) ?_
        refine mtake hq hl ⟨rfl, rfl⟩ ?_
        have no : ¬ (Known q.rs b.1 ∧ Known q.rs b.2) → chg d ks q (.bar true b) = none := fun h => by simp only [chg]; exact if_pos (.inr (.inr fun mm => h (meets mm)))
        refine ⟨_, rfl, x, dx, fs, rfl, hx, m.f0 _ (by decide +kernel), _, rfl, _, rfl, x, b.1, b.2, d, ks, q.ps, q.rs, q.bs, rfl, ln n1, ln n2, hI, fun _ _ => ⟨fun okp => ?_, fun nok => ?_⟩, fun h => (kE (no fun h2 => h h2.1)).2 H _ (Grew.refl hP), fun _ h => (kE (no fun h2 => h h2.2)).2 H _ (Grew.refl hP)⟩
        · have e : chg d ks q (.bar true b) = some ⟨q.ps, q.rs, srtB (q.bs ++ [b])⟩ := by simp only [chg]; exact if_neg ((ok_bar ok b).mp okp)
          exact made e (List.Perm.refl _) (List.Perm.refl _) (srtB_ok _).1.symm
        · have e : chg d ks q (.bar true b) = none := by simp only [chg]; exact if_pos (Classical.byContradiction fun h => nok ((ok_bar ok b).mpr h))
          exact (kE e).1
      | false =>
        have hq : SqT K H t (.str "unbar" :: [.str b.1, .str b.2]) := SqT.of ht
        refine mskip hq hl (fun e => (by decide +kernel : ¬ (("unbar" : Str) = "place")) e.2) ?_
        refine mskip hq hl (fun e => (by decide +kernel : ¬ (("unbar" : Str) = "unplace")) e.2) ?_
        refine mskip hq hl (fun e => (by decide +kernel : ¬ (("unbar" : Str) = "road")) e.2) ?_
        refine mskip hq hl (fun e => (by decide +kernel : ¬ (("unbar" : Str) = "unroad")) e.2) ?_
        refine mskip hq hl (fun e => (by decide +kernel : ¬ (("unbar" : Str) = "minutes")) e.2) ?_
        refine mskip hq hl (fun e => (by decide +kernel : ¬ (("unbar" : Str) = "kinds")) e.2) ?_
        refine mskip hq hl (fun e => (by decide +kernel : ¬ (("unbar" : Str) = "hours")) e.2) ?_
        refine mskip hq hl (fun e => (by decide +kernel : ¬ (("unbar" : Str) = "bar")) e.2) ?_
        refine mtake hq hl ⟨rfl, rfl⟩ ?_
        have no : b ∉ q.bs → chg d ks q (.bar false b) = none := fun h => by simp only [chg]; exact if_neg h
        have kn : b ∈ q.bs → Known q.rs b.1 ∧ Known q.rs b.2 := fun h => meets (ok.b.ok b h)
        refine ⟨_, rfl, x, dx, fs, rfl, hx, m.f0 _ (by decide +kernel), _, rfl, _, rfl, x, b.1, b.2, d, ks, q.ps, q.rs, q.bs, rfl, ln n1, ln n2, nm_ok n1, nm_ok n2, hI, fun _ _ hb => ⟨fun okp => ?_, fun nok => absurd (ok_unbar ok b.1 b.2) nok⟩, fun _ _ hb => (kE (no hb)).1, fun h => (kE (no fun h2 => h (kn h2).1)).2 H _ (Grew.refl hP), fun _ h => (kE (no fun h2 => h (kn h2).2)).2 H _ (Grew.refl hP)⟩
        have e : chg d ks q (.bar false b) = some ⟨q.ps, q.rs, outB b.1 b.2 q.bs⟩ := by simp only [chg]; exact if_pos hb
        exact made e (List.Perm.refl _) (List.Perm.refl _) (List.Perm.refl _)
end
end W

set_option Elab.async false
set_option linter.all false
set_option maxRecDepth 100000
set_option maxHeartbeats 4000000
namespace W
open PySem PySem.Spec PyProof.Rows L2 GxR MyG MyS SqX
/-! ### applied -/
abbrev sApl : Stmt := top 35
abbrev nApl : List Str := ["chart", "changes", "behind", "number", "change"]
theorem scApl : FnScope nApl ["chart", "changes"] (defScope sApl) := ⟨rfl, rfl, rfl, by decide +kernel, rfl, by decide +kernel, by decide +kernel⟩
def spApl (K : PySem.W.Frag) (M R P Pw : Addr) : Sp := fun vs H Q E => ∃ (x L : Addr) (d : Int) (ks : List Str) (q : PT) (cs : List Chg), vs = [.ref x, .ref L] ∧ MapAt K H M x d ks q.ps q.rs q.bs ∧ SP d ks q ∧ CsAt K H L d ks cs ∧ cs.length ≤ 100 ∧ TabG H P ∧ TabG H Pw ∧
  ((appC d ks q cs 0).1 = none → ∀ H' y, Grew P H H' → MapAt K H' M y d ks (appC d ks q cs 0).2.ps (appC d ks q cs 0).2.rs (appC d ks q cs 0).2.bs → Q (.ref y) H') ∧
  (∀ i : Nat, (appC d ks q cs 0).1 = some i → ∀ H' e, Grew P H H' → H' e = none → E (.ref R) (some e) (L2.upd H' e (.xd [("number", V.int i)])))
section
variable {Pg : Program} {w : World} {K : PySem.W.Frag} {mg : Str → Option Value} {base : Heap} {C P Pw : Addr}
theorem ok_apl {f fB fI M U R : Addr} {fd fdB fdI : FuncData} (F : Fun K "applied" "applied" sApl f fd) (T : TxtE mg K C) (hen : mg "enumerate" = none) (gU : mg "UnknownName" = some (.ref U))
    (eC : PySem.W.exmAny K (.ref C) [.ref C, .ref U] = some true) (eU : PySem.W.exmAny K (.ref U) [.ref C, .ref U] = some true)
    (GB : FnOk Pg w K mg base (L2N.CX Pg w) 14 fB fdB ["chart", "change"] (spBc K M C U P Pw)) (gB : mg "_behind_change" = some (.ref fB)) (kB : PySem.W.keepIn K (.ref fB) = true) (bB : Binds K fdB ["chart", "change"] [])
    (gR : mg "InvalidSet" = some (.ref R)) (TR : OexC K R) (iR : PySem.W.findIn K (.ref R) "__init__" = some (some (.ref fI))) (tR : PySem.W.typeIn K (.ref fI) = some (.type "function"))
    (GI : L2H.FnH Pg w K mg base CX0 1 fI fdI ["self", "number"] (spSInit K R)) (bI : Binds K fdI ["self", "number"] []) :
    FnOk Pg w K mg base (L2.CX Pg w) 16 f fd ["chart", "changes"] (spApl K M R P Pw) := by
  refine F.okX scApl (fun vs H Q E h => ?_) (fun cdv A outer s H vs Q E hr h => ?_)
  · obtain ⟨x, L, d, ks, q, cs, rfl, _⟩ := h
    rfl
  · obtain ⟨x, L, d, ks, q, cs, rfl, hM, sp, ⟨xs, hL, hcs, hok⟩, hl100, hP, hPw, kQ, kE⟩ := h
    have lc := Paired.len hcs
    refine ⟨_, pss_cons (ps_set (i := 2) scApl.nd rfl (Or.inl rfl) (pv 0))
      (pss_cons (ps_for (passes_of rfl) rfl (pi_enum (by rfl) hen (pa_cons (pv 1) pa_nil)) (pg_tup (by rfl) (pgs_cons (pg_name (i := 3) scApl.nd rfl (.inl rfl)) (pgs_cons (pg_name (i := 4) scApl.nd rfl (.inl rfl)) pgs_nil)))
        (pss_one (MyN.ps_try_two (c1 := .ref C) (c2 := .ref U) (Wout := fun cls d _ H => E cls d H) rfl rfl ⟨rfl, by decide, .inl T.gC⟩ ⟨rfl, by decide, .inl gU⟩ (L2H.passesAt_of rfl) (takes_of rfl rfl rfl rfl)
          (fun W pn xe tk _ => pss_one (ps_set (i := 2) scApl.nd rfl (Or.inl rfl) (pe_callS GB (hr.mono (by decide)) rfl gB kB bB (fun σ => L2N.passAt tk σ) (pa_cons (pv 2) (pa_cons (pv 4) pa_nil)))))
          (fun a oe cls dd pn hz hf tk hot => pss_one (L2H.ps_raiseHN hot tk (L2H.pmk5_oexH (CX := CX0) TR iR tR GI (L2H.roomH_mark (hr.mono (by decide)) _) hot bI pass0 rfl gR (pa_cons (pv 3) pa_nil)))))))
      (pss_one (ps_ret (pv 2)))), ?_⟩
    refine ⟨_, rfl, _, rfl, L, xs, rfl, SqL.of hL, for_it (walk_enum (K := K) (a := L) (xs := xs)) (fun i σ H' => ∃ (y : Addr) (q1 : PT) (v3 v4 : Option V), σ = [some (.ref x), some (.ref L), some (.ref y), v3, v4] ∧ Grew P H H' ∧ MapAt K H' M y d ks q1.ps q1.rs q1.bs ∧ SP d ks q1 ∧ appC d ks q cs 0 = appC d ks q1 (cs.drop i) i)
      ⟨x, q, none, none, rfl, Grew.refl hP, hM, sp, rfl⟩ (fun i σ H' _ ⟨_, _, _, _, _, g', _⟩ => g'.sqL hP (SqL.of hL)) ?_ ?_⟩
    · rintro i v σ H1 H2 hi ⟨y, q1, v3, v4, rfl, g1, hM1, sp1, he⟩ ⟨T2, a1, a2, rfl, nT, rfl, e1, e2⟩
      cases e1
      obtain ⟨c, hc, hm⟩ := Paired.at hcs e2
      have hcm := hok c (List.mem_of_getElem? hc)
      have gT := Grew.new g1.tab (o := .tup [.int (i : Nat), a2]) nT
      have g2 := g1.trans gT
      have hm2 := hm.grew g2 hP
      have hM2 := MapAt.grew gT g1.tab hM1
      obtain ⟨t, tl, rfl, ht, htl⟩ := id hm2
      have hdrop : cs.drop i = c :: cs.drop (i + 1) := by
        obtain ⟨h1, h2⟩ := List.getElem?_eq_some_iff.mp hc
        rw [List.drop_eq_getElem_cons h1, h2]
      rw [hdrop] at he
      simp only [appC] at he
      have li : i < cs.length := (List.getElem?_eq_some_iff.mp hc).1
      have raised : chg d ks q1 c = none → ∀ H3, Grew P (L2.upd H1 T2 (.tup [.int (i : Nat), .ref t])) H3 → ∀ a, H3 a = none → ∀ e, H3 e = none → E (.ref R) (some e) (L2.upd H3 e (.xd [("number", V.int i)])) := fun ec H3 g3 a na e ne => by
        rw [ec] at he
        exact kE i (by rw [he]) H3 e (g2.trans g3) ne
      refine ⟨T2, _, rfl, SqT.of upd_same, rfl, _, _, rfl, _, _, rfl, rfl, ?_⟩
      show ∃ _, _
      refine ⟨_, rfl, _, rfl, y, .ref t, c, d, ks, q1, rfl, hm2, hcm, hM2, g2.tab, g2.tabs _ hPw, sp1, fun q2 ec H3 y3 g3 ny hM3 => ?_, fun ec => ⟨fun H3 g3 => ⟨eC, fun a na => ?_⟩, fun H3 z g3 e ne => ⟨eU, fun a na => ?_⟩⟩⟩
      · rw [ec] at he
        exact ⟨y3, q2, _, _, rfl, g2.trans g3, hM3, chg_sp sp1 hcm ec, he⟩
      · refine ⟨_, rfl, by simp, fun b nb => ⟨b, (i : Int), rfl, by omega, by omega, upd_same, fun dx nd ne => ⟨rfl, dx, [("number", V.int i)], upd_same, ?_, ?_, ?_⟩⟩⟩
        · rw [upd_ne ne]; exact upd_same
        · rw [upd_ne ne] at nd; exact nd
        · rw [flown nb nd]
          rw [upd_ne ne] at nd
          exact raised ec H3 g3 b nb dx nd
      · have gE := g3.put (o := .xd [("name", V.str z)]) ne
        refine ⟨_, rfl, by simp, fun b nb => ⟨b, (i : Int), rfl, by omega, by omega, upd_same, fun dx nd ne => ⟨rfl, dx, [("number", V.int i)], upd_same, ?_, ?_, ?_⟩⟩⟩
        · rw [upd_ne ne]; exact upd_same
        · rw [upd_ne ne] at nd; exact nd
        · rw [flown nb nd]
          rw [upd_ne ne] at nd
          exact raised ec _ gE b nb dx nd
    · rintro σ H1 ⟨y, q1, v3, v4, rfl, g1, hM1, sp1, he⟩
      rw [← lc, List.drop_length] at he
      simp only [appC] at he
      refine ⟨_, rfl, ?_⟩
      have k := kQ (by rw [he]) H1 y g1
      rw [he] at k
      exact k hM1
end
end W

set_option Elab.async false
set_option linter.all false
set_option maxRecDepth 100000
set_option maxHeartbeats 1000000
namespace W
open PySem PySem.Spec PyProof.Rows L2 GxR MyG MyS SqX
/-! ### a change taken back -/
def Chg.turn : Chg → Chg
  | .place up z => .place (!up) z
  | .road up r => .road (!up) r
  | .part n a b => .part n b a
  | .bar up b => .bar (!up) b
theorem turn_turn (c : Chg) : c.turn.turn = c := by cases c <;> simp [Chg.turn]
theorem sameK_symm {a b : Pt} (h : SameK a b) : SameK b a := by cases a <;> cases b <;> first | exact h.elim | exact True.intro
theorem turn_ok {d : Int} {ks : List Str} {c : Chg} (h : ChgOk d ks c) : ChgOk d ks c.turn := by
  cases c with
  | place up z => exact h
  | road up r => exact h
  | part n a b => exact ⟨h.1, sameK_symm h.2.1, h.2.2.2, h.2.2.1⟩
  | bar up b => exact h
theorem filter_snoc {α : Type} {p : α → Bool} {l : List α} {x : α} (hl : ∀ y ∈ l, p y = true) (hx : p x = false) : (l ++ [x]).filter p = l := by
  rw [List.filter_append, List.filter_eq_self.mpr hl, List.filter_cons, hx]
  simp
theorem cut_perm {α : Type} [DecidableEq α] {p : α → Bool} {l : List α} {x : α} (nd : l.Nodup) (hx : x ∈ l) (hp : ∀ y ∈ l, p y = !decide (y = x)) : (l.filter p ++ [x]).Perm l := by
  induction l with
  | nil => cases hx
  | cons a l ih =>
    obtain ⟨na, nl⟩ := List.nodup_cons.mp nd
    rw [List.filter_cons]
    by_cases e : a = x
    · subst e
      rw [hp a List.mem_cons_self, decide_eq_true rfl]
      have : l.filter p = l := List.filter_eq_self.mpr fun y hy => by
        rw [hp y (List.mem_cons_of_mem _ hy), decide_eq_false fun (c : y = a) => na (c ▸ hy)]
        rfl
      rw [if_neg (by simp), this]
      exact List.perm_append_singleton a l
    · rw [hp a List.mem_cons_self, decide_eq_false e, if_pos (show (!false) = true from rfl), List.cons_append]
      exact (ih nl ((List.mem_cons.mp hx).resolve_left fun c => e c.symm) fun y hy => hp y (List.mem_cons_of_mem _ hy)).cons a
section
variable {d : Int} {ks : List Str} {q q' : PT}
theorem of_put {r : RoadD} {a b : Pt} (e : Pt.of r b = a) : Pt.of (Pt.put r b) a = b ∧ Pt.put (Pt.put r b) a = r := by
  cases b <;> (subst e; exact ⟨rfl, rfl⟩)
theorem setR_back {r : RoadD} {a b : Pt} (nd : (q.rs.map (·.name)).Nodup) (hr : r ∈ q.rs) (s : SameK a b) (e : Pt.of r b = a) : setR r.name a (setR r.name b q.rs) = q.rs := by
  unfold setR
  rw [List.map_map]
  have : ∀ x ∈ q.rs, ((fun r0 : RoadD => if r0.name = r.name then Pt.put r0 a else r0) ∘ fun r0 : RoadD => if r0.name = r.name then Pt.put r0 b else r0) x = x := fun x hx => by
    show (if (if x.name = r.name then Pt.put x b else x).name = r.name then Pt.put (if x.name = r.name then Pt.put x b else x) a else (if x.name = r.name then Pt.put x b else x)) = x
    by_cases c : x.name = r.name
    · have ex := uniqN nd hx hr c
      subst ex
      rw [if_pos rfl, if_pos (put_name x b).1]
      exact (of_put e).2
    · rw [if_neg c, if_neg c]
  exact (List.map_congr_left this).trans (List.map_id' _)
theorem chg_turn (h : SP d ks q) {c : Chg} (hc : ChgOk d ks c) (e : chg d ks q c = some q') : chg d ks q' c.turn = some q := by
  have sq := chg_sp h hc e
  have ok := h.ok
  cases c with
  | place up z =>
    cases up with
    | true =>
      simp only [chg] at e
      split at e
      · cases e
      · rename_i hn
        obtain rfl := Option.some.inj e
        obtain ⟨pm, pa⟩ := srtS_ok (q.ps ++ [z])
        have nz : z ∉ q.ps := fun c => hn (.inl c)
        have hz : z ∈ srtS (q.ps ++ [z]) := pm.mem_iff.mpr (List.mem_append_right _ List.mem_cons_self)
        have ep : outP z (srtS (q.ps ++ [z])) = q.ps := by
          refine asc_one (n := q.ps) ?_ (List.Perm.refl _) (pa.sublist List.filter_sublist) h.pa
          have p2 := pm.filter (fun y => !decide (y = z))
          rw [filter_snoc (fun y hy => by rw [decide_eq_false fun (c : y = z) => nz (c ▸ hy)]; rfl) (by simp)] at p2
          exact p2
        show chg d ks _ (.place false z) = some q
        simp only [chg]
        rw [if_neg (fun c => c.elim (fun c => c hz) fun ⟨r, hr, c⟩ => c.elim (fun c => nz (by rw [c]; exact (ok.r.ok r hr).s)) fun c => nz (by rw [c]; exact (ok.r.ok r hr).g)), ep]
    | false =>
      simp only [chg] at e
      split at e
      · cases e
      · rename_i hn
        obtain rfl := Option.some.inj e
        have hz : z ∈ q.ps := Classical.byContradiction fun c => hn (.inl c)
        have pm : (outP z q.ps ++ [z]).Perm q.ps := cut_perm ok.pd hz fun y _ => rfl
        have ll := pm.length_eq
        rw [List.length_append] at ll
        have l30 := ok.p2
        show chg d ks _ (.place true z) = some q
        simp only [chg]
        rw [if_neg (fun c => c.elim (fun c => (mem_outP.mp c).2 rfl) fun c => by
          have c' : (outP z q.ps).length = 30 := c
          have l1 : ([z] : List Str).length = 1 := rfl
          omega), srtS_eq pm.symm h.pa]
  | road up r =>
    cases up with
    | true =>
      simp only [chg] at e
      split at e
      · cases e
      · rename_i hn
        obtain rfl := Option.some.inj e
        have nm : r.name ∉ nmsR q.rs := fun c => hn (.inl c)
        have nd0 : ((q.rs ++ [r]).map (·.name)).Nodup := by
          have o := (okP_road ok hc nm).mpr fun c => hn (.inr c)
          have ep : putR r q.rs = q.rs ++ [r] := by unfold putR; rw [butR_none nm]
          rw [ep] at o
          exact o.r.nd
        obtain ⟨pm, pa⟩ := srtR_ok nd0
        have nr : r ∉ q.rs := fun c => nm (List.mem_map.mpr ⟨r, c, rfl⟩)
        have hr : r ∈ srtR (q.rs ++ [r]) := pm.mem_iff.mpr (List.mem_append_right _ List.mem_cons_self)
        have ep : outR r (srtR (q.rs ++ [r])) = q.rs := by
          refine ascR_one (n := q.rs) ok.r.nd ?_ (List.Perm.refl _) (pa.sublist List.filter_sublist) h.ra
          have p2 := pm.filter (fun y => !decide (y = r))
          rw [filter_snoc (fun y hy => by rw [decide_eq_false fun (c : y = r) => nr (c ▸ hy)]; rfl) (by simp)] at p2
          exact p2
        show chg d ks _ (.road false r) = some q
        simp only [chg]
        rw [if_neg (fun c => c.elim (fun c => c hr) fun ⟨b, hb, c⟩ => by
          obtain ⟨r1, m1, r2, m2, e1, e2, _⟩ := ok.b.ok b hb
          exact c.elim (fun c => nm (List.mem_map.mpr ⟨r1, m1, (c.trans e1).symm⟩)) fun c => nm (List.mem_map.mpr ⟨r2, m2, (c.trans e2).symm⟩)), ep]
    | false =>
      simp only [chg] at e
      split at e
      · cases e
      · rename_i hn
        obtain rfl := Option.some.inj e
        have hr : r ∈ q.rs := Classical.byContradiction fun c => hn (.inl c)
        have nd1 : q.rs.Nodup := List.Pairwise.of_map _ (fun a b (hne : a.name ≠ b.name) (e : a = b) => hne (congrArg RoadD.name e)) ok.r.nd
        have pm : (outR r q.rs ++ [r]).Perm q.rs := cut_perm nd1 hr fun y _ => rfl
        have ll := pm.length_eq
        rw [List.length_append] at ll
        have l60 := ok.r.len
        have o := ok.r.ok r hr
        have nd2 : ((outR r q.rs ++ [r]).map (·.name)).Nodup := ((pm.map _).nodup_iff).mpr ok.r.nd
        show chg d ks _ (.road true r) = some q
        simp only [chg]
        rw [if_neg (fun c => c.elim (fun c => by
          obtain ⟨x, hx, ex⟩ := List.mem_map.mp c
          have hx2 := List.mem_filter.mp hx
          have := uniqN ok.r.nd hx2.1 hr ex
          rw [this] at hx2
          simp at hx2) fun c => c.elim (fun c => by
            have c' : (outR r q.rs).length = 60 := c
            have l1 : ([r] : List RoadD).length = 1 := rfl
            omega) fun c => c.elim (fun c => c o.s) fun c => c o.g), srtR_eq nd2 pm.symm h.ra]
  | part n a b =>
    simp only [chg] at e
    split at e
    · rename_i hx
      obtain rfl := Option.some.inj e
      obtain ⟨r, hr, rfl, e1, ne, hf⟩ := hx
      have sk := hc.2.1
      obtain ⟨w1, w2⟩ := of_put e1
      have hr' : Pt.put r b ∈ setR r.name b q.rs := List.mem_map.mpr ⟨r, hr, if_pos rfl⟩
      have fa : fits d ks a := by
        have := (fits_iff h hr (b := a) hc.2.2.1).mp
        have er : Pt.put r a = r := by
          have s2 : SameK a b := sk
          subst e1
          cases b <;> rfl
        rw [er] at this
        exact this ⟨ok.r.ok r hr, h.ua r hr⟩
      show chg d ks _ (.part r.name b a) = some q
      simp only [chg]
      rw [if_pos ⟨Pt.put r b, hr', (put_name r b).1, w1, fun c => ne c.symm, fa⟩, setR_back ok.r.nd hr sk e1]
    · cases e
  | bar up b =>
    cases up with
    | true =>
      simp only [chg] at e
      split at e
      · cases e
      · rename_i hn
        obtain rfl := Option.some.inj e
        have nb : b ∉ q.bs := fun c => hn (.inl c)
        obtain ⟨pm, pa⟩ := srtB_ok (q.bs ++ [b])
        have hb : b ∈ srtB (q.bs ++ [b]) := pm.mem_iff.mpr (List.mem_append_right _ List.mem_cons_self)
        have ep : outB b.1 b.2 (srtB (q.bs ++ [b])) = q.bs := by
          refine ascB_one (n := q.bs) ?_ (List.Perm.refl _) (pa.sublist List.filter_sublist) h.ba
          have p2 := pm.filter (fun y => !decide (y = (b.1, b.2)))
          rw [filter_snoc (fun y hy => by rw [decide_eq_false fun (c : y = (b.1, b.2)) => nb (by have e : y = b := c; rw [← e]; exact hy)]; rfl) (by simp)] at p2
          exact p2
        show chg d ks _ (.bar false b) = some q
        simp only [chg]
        rw [if_pos hb, ep]
    | false =>
      simp only [chg] at e
      split at e
      · rename_i hb
        obtain rfl := Option.some.inj e
        have pm : (outB b.1 b.2 q.bs ++ [b]).Perm q.bs := cut_perm ok.b.nd hb fun y _ => rfl
        have ll := pm.length_eq
        rw [List.length_append] at ll
        have l40 := ok.b.len
        show chg d ks _ (.bar true b) = some q
        simp only [chg]
        rw [if_neg (fun c => c.elim (fun c => (mem_outB.mp c).2 rfl) fun c => c.elim (fun c => by
          have c' : (outB b.1 b.2 q.bs).length = 40 := c
          have l1 : ([b] : List (Str × Str)).length = 1 := rfl
          omega) fun c => c (ok.b.ok b hb)), srtB_eq pm.symm h.ba]
      · cases e
theorem run_turn : ∀ {q q' : PT} {cs : List Chg}, SP d ks q → (∀ c ∈ cs, ChgOk d ks c) → runC d ks q cs = some q' → runC d ks q' (cs.map Chg.turn).reverse = some q
  | q, q', [], _, _, e => by rw [← Option.some.inj e]; rfl
  | q, q', c :: cs, h, hc, e => by
    simp only [runC] at e
    cases e1 : chg d ks q c with
    | none => rw [e1] at e; cases e
    | some q2 =>
      rw [e1] at e
      have hk := hc c List.mem_cons_self
      have ih := run_turn (chg_sp h hk e1) (fun x hx => hc x (List.mem_cons_of_mem _ hx)) e
      rw [List.map_cons, List.reverse_cons, runC_snoc ih]
      exact chg_turn h hk e1
end
end W

set_option Elab.async false
set_option linter.all false
set_option maxRecDepth 100000
set_option maxHeartbeats 4000000
namespace W
open PySem PySem.Spec PyProof.Rows L2 GxR MyG MyS SqX
open CatB (NewT)
/-! ### OPPOSITES as the top leaves it -/
def oppL : List (Str × Str) := [("place", "unplace"), ("unplace", "place"), ("road", "unroad"), ("unroad", "road"), ("bar", "unbar"), ("unbar", "bar")]
def oppOf (z : Str) : Option Str := (oppL.find? fun p => p.1 == z).map (·.2)
def EntS (e : DictEntry) (p : Str × Str) : Prop := (∃ t, e.key = .str p.1 t) ∧ ∃ t, e.val = .str p.2 t
theorem find_opp {z : Str} : ∀ {es : List DictEntry} {fl : List (Str × Str)}, Paired EntS es fl →
    (match fl.find? fun p => p.1 == z with
    | some p => ∃ e t, es.find? (·.key.isStr z) = some e ∧ e.val = .str p.2 t
    | none => es.find? (·.key.isStr z) = none)
  | _, _, .nil => rfl
  | e :: es, p :: fl, .cons ⟨⟨t, ek⟩, t2, ev⟩ r => by
    have ih := find_opp (z := z) r
    have ei : e.key.isStr z = (p.1 == z) := by rw [ek]; rfl
    rw [List.find?_cons, List.find?_cons, ei]
    cases q : p.1 == z with
    | true => exact ⟨e, t2, rfl, ev⟩
    | false => exact ih
structure OppK (K : PySem.W.Frag) (w : World) (D : Addr) : Prop where
  ex : ∃ (es : Array DictEntry) (n : Nat), KDict K w D es n ∧ Paired EntS es.toList oppL ∧ es.toList.any (·.refKey) = false
theorem OppK.get {K : PySem.W.Frag} {w : World} {D : Addr} (F : OppK K w D) (z : Str) : ∃ r, PySem.W.nsIn K D z = some r ∧ (match oppOf z with
    | some y => ∃ t, r = some (.str y t)
    | none => r = none) := by
  obtain ⟨es, n, kd, pa, nr⟩ := F.ex
  have h := find_opp (z := z) pa
  unfold PySem.W.nsIn oppOf
  rw [kd.at_]
  show ∃ r, (match es.toList.find? (·.key.isStr z) with
      | some e => some (some e.val)
      | none => if es.toList.any (·.refKey) then none else some none) = some r ∧ _
  cases q : oppL.find? (fun p => p.1 == z) with
  | some p =>
    rw [q] at h
    obtain ⟨e, t, e1, e2⟩ := h
    rw [e1]
    exact ⟨_, rfl, t, by rw [e2]⟩
  | none =>
    rw [q] at h
    have h' : es.toList.find? (·.key.isStr z) = none := h
    rw [h', nr]
    exact ⟨_, rfl, rfl⟩
theorem opp_pl (up : Bool) : oppOf (wPl up) = some (wPl (!up)) := by cases up <;> decide +kernel
theorem opp_rd (up : Bool) : oppOf (wRd up) = some (wRd (!up)) := by cases up <;> decide +kernel
theorem opp_br (up : Bool) : oppOf (wBr up) = some (wBr (!up)) := by cases up <;> decide +kernel
theorem opp_pt (p : Pt) : oppOf p.word = none := by
  cases p with
  | mi i => show oppOf "minutes" = none; decide +kernel
  | ki us => show oppOf "kinds" = none; decide +kernel
  | ho hs => show oppOf "hours" = none; decide +kernel
/-! ### _opposite, taken_back, _law_turned -/
abbrev sTb : Stmt := top 41
abbrev sOp : Stmt := top 42
abbrev sTu : Stmt := top 57
abbrev nOp : List Str := ["change", "word", "name", "before", "after"]
abbrev nTb : List Str := ["changes", "change"]
abbrev nTu : List Str := ["change", "word"]
theorem scOp : FnScope nOp ["change"] (defScope sOp) := ⟨rfl, rfl, rfl, by decide +kernel, rfl, by decide +kernel, by decide +kernel⟩
theorem scTb : FnScope nTb ["changes"] (defScope sTb) := ⟨rfl, rfl, rfl, by decide +kernel, rfl, by decide +kernel, by decide +kernel⟩
theorem scTu : FnScope nTu ["change"] (defScope sTu) := ⟨rfl, rfl, rfl, by decide +kernel, rfl, by decide +kernel, by decide +kernel⟩
/-- both parts are of one kind -/
def Alike2 : Chg → Prop
  | .part _ a b => a.word = b.word
  | _ => True
theorem ChgOk.alike {d : Int} {ks : List Str} {c : Chg} (h : ChgOk d ks c) : Alike2 c := by
  cases c with
  | part n a b =>
    have s := h.2.1
    cases a <;> cases b <;> first | exact s.elim | rfl
  | _ => trivial
def spTurn (K : PySem.W.Frag) (P : Addr) : Sp := fun vs H Q _ => ∃ (v : V) (c : Chg), vs = [v] ∧ ChgAt K H c v ∧ Alike2 c ∧ TabG H P ∧ ∀ H' y, Grew P H H' → ChgAt K H' c.turn y → Q y H'
def spTb (K : PySem.W.Frag) (P : Addr) : Sp := fun vs H Q _ => ∃ (d : Int) (A : Addr) (ks : List Str) (cs : List Chg), vs = [.ref A] ∧ CsAt K H A d ks cs ∧ cs.length ≤ 100 ∧ TabG H P ∧ ∀ H' B, Grew P H H' → H B = none → CsAt K H' B d ks (cs.map Chg.turn).reverse → Q (.ref B) H'
section
variable {Pg : Program} {w : World} {K : PySem.W.Frag} {mg : Str → Option Value} {base : Heap} {C P : Addr}
theorem ok_opp {f OP : Addr} {fd : FuncData} (F : Fun K "_opposite" "_opposite" sOp f fd) (gO : mg "OPPOSITES" = some (.ref OP)) (OK : OppK K w OP) :
    FnOk Pg w K mg base CX0 1 f fd ["change"] (spTurn K P) := by
  refine F.ok scOp (fun vs H Q E h => ?_) (fun cdv A outer s H vs Q E hr h => ?_)
  · obtain ⟨v, c, rfl, _⟩ := h
    rfl
  · obtain ⟨v, c, rfl, hv, al, hP, k⟩ := h
    obtain ⟨es, n, kd, _, _⟩ := id OK.ex
    refine ⟨_, (pss_cons (ps_if (pt_cmpR (op_in_kd kd) (pe_ix (r := rIxT K) ix_tup (pv 0) pe_int (fun _ _ => rfl)) (pe_glob (v := .ref OP) (by rfl) gO rfl) (by rfl)) (pss_one (ps_ret (pe_tup (pa_cons (pe_ix (r := rIxD K w) ix_kdict (pe_glob (v := .ref OP) (by rfl) gO rfl) (pe_ix (r := rIxT K) ix_tup (pv 0) pe_int (fun _ _ => rfl)) (fun _ _ => rfl)) (StX.pa_star (pe_slice CatB.sl_tupB (pv 0) (po_some pe_int) po_none) pa_nil)))))
        pss_nil)
      (pss_cons (ps_asg (pv 0) (pg_tup (by rfl) (pgs_cons (pg_name (i := 1) scOp.nd rfl (Or.inl rfl)) (pgs_cons (pg_name (i := 2) scOp.nd rfl (Or.inl rfl)) (pgs_cons (pg_name (i := 3) scOp.nd rfl (Or.inl rfl)) (pgs_cons (pg_name (i := 4) scOp.nd rfl (Or.inl rfl)) pgs_nil))))))
      (pss_one (ps_ret (pe_tup (pa_cons (pv 1) (pa_cons (pv 2) (pa_cons (pv 4) (pa_cons (pv 3) pa_nil))))))))), ?_⟩
    obtain ⟨t, xs, rfl, ht, htl⟩ := id hv
    obtain ⟨r, er, hr2⟩ := OK.get c.word
    have at0 : ∀ z : Str, atI (V.str z :: xs) 0 = some (.str z) := fun z => atI_nat (xs := V.str z :: xs) (j := 0) rfl
    refine ⟨_, rfl, t, _, 0, _, rfl, rfl, SqT.of ht, at0 _, c.word, r, rfl, rfl, er, _, rfl, ?_⟩
    cases c with
    | place up z =>
      have eo := opp_pl up
      rw [show (Chg.place up z).word = wPl up from rfl, eo] at hr2
      obtain ⟨ty, e⟩ := hr2
      rw [e]
      refine iteT ?_
      refine ⟨_, rfl, t, _, 0, _, rfl, rfl, SqT.of ht, at0 _, OP, _, .str (wPl (!up)), rfl, rfl, ⟨es, n, _, kd.at_, kd.lit, by rw [er, e], ⟨_, rfl⟩⟩, ?_⟩
      refine ⟨_, rfl, _, rfl, t, _, rfl, ht, fun H5 A1 n5 => ?_⟩
      have g5 := newT_grew n5 hP
      have n5' : H5 A1 = some (.tup xs) := n5.2.trans (by rw [show cutV (_ :: xs) (some (1 : Int)) none = xs from cutV_sufL _ 1])
      have htl5 : TailAt K H5 (Chg.place up z) xs := TailAt.grew htl g5 hP
      have l10 : xs.length ≤ 10 := by rw [show xs = [.str z] from htl]; simp
      refine ⟨A1, xs, rfl, .inl (SqT.of n5'), ?_⟩
      refine ⟨by rw [sizeLine_eq]; simp; omega, fun T nT => ?_⟩
      have gT := Grew.new (o := .tup (.str (wPl (!up)) :: (xs ++ []))) g5.tab nT
      refine k _ _ (g5.trans gT) ⟨T, xs, rfl, ?_, TailAt.grew (c := Chg.place (!up) z) htl5 gT g5.tab⟩
      rw [upd_same, List.append_nil]
      rfl
    | road up r1 =>
      have eo := opp_rd up
      rw [show (Chg.road up r1).word = wRd up from rfl, eo] at hr2
      obtain ⟨ty, e⟩ := hr2
      rw [e]
      refine iteT ?_
      refine ⟨_, rfl, t, _, 0, _, rfl, rfl, SqT.of ht, at0 _, OP, _, .str (wRd (!up)), rfl, rfl, ⟨es, n, _, kd.at_, kd.lit, by rw [er, e], ⟨_, rfl⟩⟩, ?_⟩
      refine ⟨_, rfl, _, rfl, t, _, rfl, ht, fun H5 A1 n5 => ?_⟩
      have g5 := newT_grew n5 hP
      have n5' : H5 A1 = some (.tup xs) := n5.2.trans (by rw [show cutV (_ :: xs) (some (1 : Int)) none = xs from cutV_sufL _ 1])
      have htl5 : TailAt K H5 (Chg.road up r1) xs := TailAt.grew htl g5 hP
      have l10 : xs.length ≤ 10 := by obtain ⟨v, e, _⟩ := htl; rw [e]; simp
      refine ⟨A1, xs, rfl, .inl (SqT.of n5'), ?_⟩
      refine ⟨by rw [sizeLine_eq]; simp; omega, fun T nT => ?_⟩
      have gT := Grew.new (o := .tup (.str (wRd (!up)) :: (xs ++ []))) g5.tab nT
      refine k _ _ (g5.trans gT) ⟨T, xs, rfl, ?_, TailAt.grew (c := Chg.road (!up) r1) htl5 gT g5.tab⟩
      rw [upd_same, List.append_nil]
      rfl
    | bar up b =>
      have eo := opp_br up
      rw [show (Chg.bar up b).word = wBr up from rfl, eo] at hr2
      obtain ⟨ty, e⟩ := hr2
      rw [e]
      refine iteT ?_
      refine ⟨_, rfl, t, _, 0, _, rfl, rfl, SqT.of ht, at0 _, OP, _, .str (wBr (!up)), rfl, rfl, ⟨es, n, _, kd.at_, kd.lit, by rw [er, e], ⟨_, rfl⟩⟩, ?_⟩
      refine ⟨_, rfl, _, rfl, t, _, rfl, ht, fun H5 A1 n5 => ?_⟩
      have g5 := newT_grew n5 hP
      have n5' : H5 A1 = some (.tup xs) := n5.2.trans (by rw [show cutV (_ :: xs) (some (1 : Int)) none = xs from cutV_sufL _ 1])
      have htl5 : TailAt K H5 (Chg.bar up b) xs := TailAt.grew htl g5 hP
      have l10 : xs.length ≤ 10 := by rw [show xs = [.str b.1, .str b.2] from htl]; simp
      refine ⟨A1, xs, rfl, .inl (SqT.of n5'), ?_⟩
      refine ⟨by rw [sizeLine_eq]; simp; omega, fun T nT => ?_⟩
      have gT := Grew.new (o := .tup (.str (wBr (!up)) :: (xs ++ []))) g5.tab nT
      refine k _ _ (g5.trans gT) ⟨T, xs, rfl, ?_, TailAt.grew (c := Chg.bar (!up) b) htl5 gT g5.tab⟩
      rw [upd_same, List.append_nil]
      rfl
    | part nm a b =>
      rw [show (Chg.part nm a b).word = a.word from rfl, opp_pt a] at hr2
      rw [show r = none from hr2]
      refine iteF ?_
      obtain ⟨va, vb, rfl, ma, mb⟩ := htl
      refine ⟨_, rfl, t, _, rfl, SqT.of ht, rfl, _, _, rfl, _, _, rfl, _, _, rfl, _, _, rfl, rfl, ?_⟩
      refine ⟨_, rfl, _, rfl, _, rfl, _, rfl, (show 4 ≤ sizeLine by decide), fun T nT => ?_⟩
      have gT := Grew.new (o := .tup [.str a.word, .str nm, vb, va]) hP nT
      have wab : b.word = a.word := Eq.symm al
      refine k _ _ gT ⟨T, _, rfl, ?_, vb, va, rfl, mb.grew gT hP, ma.grew gT hP⟩
      rw [upd_same]
      show some (HO.tup [.str a.word, _, _, _]) = some (HO.tup [.str b.word, _, _, _])
      rw [wab]
theorem ok_turned {f : Addr} {fd : FuncData} (F : Fun K "_law_turned" "_law_turned" sTu f fd) :
    FnOk Pg w K mg base CX0 1 f fd ["change"] (spTurn K P) := by
  refine F.ok scTu (fun vs H Q E h => ?_) (fun cdv A outer s H vs Q E hr h => ?_)
  · obtain ⟨v, c, rfl, _⟩ := h
    rfl
  · obtain ⟨v, c, rfl, hv, al, hP, k⟩ := h
    refine ⟨_, (pss_cons (ps_set (i := 1) scTu.nd rfl (Or.inl rfl) (pe_ix (r := rIxT K) ix_tup (pv 0) pe_int (fun _ _ => rfl)))
      (pss_cons (ps_if (pt_cmpR (r := rIn K false) op_in_seq (pv 1) (pe_tup (pa_cons pe_str (pa_cons pe_str (pa_cons pe_str pa_nil)))) (by rfl)) (pss_one (ps_ret (pe_tup (pa_cons (pv 1) (pa_cons (pe_ix (r := rIxT K) ix_tup (pv 0) pe_int (fun _ _ => rfl)) (pa_cons (pe_ix (r := rIxT K) ix_tup (pv 0) pe_int (fun _ _ => rfl)) (pa_cons (pe_ix (r := rIxT K) ix_tup (pv 0) pe_int (fun _ _ => rfl)) pa_nil)))))))
        pss_nil)
      (pss_cons (ps_if (pt_cmpR op_eq (pe_slice sl_str (pv 1) po_none (po_some pe_int)) pe_str (nomark _)) (pss_one (ps_ret (pe_op CatB.op_catB (pe_tup (pa_cons (pe_slice sl_str (pv 1) (po_some pe_int) po_none) pa_nil)) (pe_slice CatB.sl_tupB (pv 0) (po_some pe_int) po_none))))
        pss_nil)
      (pss_one (ps_ret (pe_op CatB.op_catB (pe_tup (pa_cons (pe_op op_add_str pe_str (pv 1)) pa_nil)) (pe_slice CatB.sl_tupB (pv 0) (po_some pe_int) po_none))))))), ?_⟩
    obtain ⟨t, xs, rfl, ht, htl⟩ := id hv
    have at0 : ∀ z : Str, atI (V.str z :: xs) 0 = some (.str z) := fun z => atI_nat (xs := V.str z :: xs) (j := 0) rfl
    refine ⟨_, rfl, t, _, 0, _, rfl, rfl, SqT.of ht, at0 _, ?_⟩
    cases c with
    | place up z =>
      have l10 : xs.length ≤ 10 := by rw [show xs = [.str z] from htl]; simp
      cases up with
      | true =>
        refine ⟨_, rfl, (show 3 ≤ sizeLine by decide), fun T1 nT1 => ?_⟩
        have g1 := Grew.new (o := .tup [.str "minutes", .str "hours", .str "kinds"]) hP nT1
        have ht1 := g1.tup hP ht
        refine ⟨T1, _, rfl, .inr (SqT.of upd_same), rfl, flat_strs ["minutes", "hours", "kinds"], ?_⟩
        rw [show inV (V.str (Chg.place true z).word) [V.str "minutes", V.str "hours", V.str "kinds"] = decide ((Chg.place true z).word ∈ (["minutes", "hours", "kinds"] : List Str)) from inV_dec _ ["minutes", "hours", "kinds"]]
        refine ⟨_, rfl, if_f (show decide (("place" : Str) ∈ (["minutes", "hours", "kinds"] : List Str)) = false by decide +kernel) ?_⟩
        refine ⟨_, rfl, _, rfl, _, rfl, (show ("place" : Str).length ≤ sizeLine by decide +kernel), rfl, _, rfl, ?_⟩
        refine if_f (decide_eq_false fun e => (by decide +kernel : ¬ (cutS ("place" : Str) none (some 2) = "un")) (V.str.inj e)) ?_
        refine ⟨_, rfl, _, _, rfl, rfl, (show ("un" : Str).length + ("place" : Str).length ≤ sizeLine by decide +kernel), (show 1 ≤ sizeLine by decide), fun A2 a2 => ?_⟩
        have ew : (("un" : Str) ++ ("place" : Str)) = "unplace" := by decide +kernel
        generalize eH2 : L2.upd (L2.upd H T1 _) A2 _ = H2
        have g2' : Grew P (L2.upd H T1 (.tup [.str "minutes", .str "hours", .str "kinds"])) H2 := by rw [← eH2]; exact Grew.new g1.tab a2
        have h2 : H2 A2 = some (.tup [.str "unplace"]) := by rw [← eH2, ← ew]; exact upd_same
        have g2 := g1.trans g2'
        refine ⟨_, rfl, _, rfl, t, _, rfl, g2.tup hP ht, fun H5 A1 n5 => ?_⟩
        have g5' := newT_grew n5 g2.tab
        have g5 := g2.trans g5'
        have n5' : H5 A1 = some (.tup xs) := n5.2.trans (by rw [show cutV (_ :: xs) (some (1 : Int)) none = xs from cutV_sufL _ 1])
        refine ⟨A2, A1, _, _, rfl, rfl, g5'.tup g2.tab h2, n5', (by rw [sizeLine_eq]; show 1 + _ ≤ _; omega), fun H6 A3 n6 => ?_⟩
        have g6 := g5.trans (newT_grew n6 g5.tab)
        exact k _ _ g6 ⟨A3, xs, rfl, n6.2, TailAt.grew (c := Chg.place false z) htl g6 hP⟩
      | false =>
        refine ⟨_, rfl, (show 3 ≤ sizeLine by decide), fun T1 nT1 => ?_⟩
        have g1 := Grew.new (o := .tup [.str "minutes", .str "hours", .str "kinds"]) hP nT1
        have ht1 := g1.tup hP ht
        refine ⟨T1, _, rfl, .inr (SqT.of upd_same), rfl, flat_strs ["minutes", "hours", "kinds"], ?_⟩
        rw [show inV (V.str (Chg.place false z).word) [V.str "minutes", V.str "hours", V.str "kinds"] = decide ((Chg.place false z).word ∈ (["minutes", "hours", "kinds"] : List Str)) from inV_dec _ ["minutes", "hours", "kinds"]]
        refine ⟨_, rfl, if_f (show decide (("unplace" : Str) ∈ (["minutes", "hours", "kinds"] : List Str)) = false by decide +kernel) ?_⟩
        refine ⟨_, rfl, _, rfl, _, rfl, (show ("unplace" : Str).length ≤ sizeLine by decide +kernel), rfl, _, rfl, ?_⟩
        refine if_t (decide_eq_true (congrArg V.str (by decide +kernel : cutS ("unplace" : Str) none (some 2) = "un"))) ?_
        refine ⟨_, rfl, _, rfl, _, rfl, (show ("unplace" : Str).length ≤ sizeLine by decide +kernel), (show 1 ≤ sizeLine by decide), fun A2 a2 => ?_⟩
        have ew : cutS ("unplace" : Str) (some 2) none = "place" := by decide +kernel
        generalize eH2 : L2.upd (L2.upd H T1 _) A2 _ = H2
        have g2' : Grew P (L2.upd H T1 (.tup [.str "minutes", .str "hours", .str "kinds"])) H2 := by rw [← eH2]; exact Grew.new g1.tab a2
        have h2 : H2 A2 = some (.tup [.str "place"]) := by rw [← eH2, ← ew]; exact upd_same
        have g2 := g1.trans g2'
        refine ⟨_, rfl, _, rfl, t, _, rfl, g2.tup hP ht, fun H5 A1 n5 => ?_⟩
        have g5' := newT_grew n5 g2.tab
        have g5 := g2.trans g5'
        have n5' : H5 A1 = some (.tup xs) := n5.2.trans (by rw [show cutV (_ :: xs) (some (1 : Int)) none = xs from cutV_sufL _ 1])
        refine ⟨A2, A1, _, _, rfl, rfl, g5'.tup g2.tab h2, n5', (by rw [sizeLine_eq]; show 1 + _ ≤ _; omega), fun H6 A3 n6 => ?_⟩
        have g6 := g5.trans (newT_grew n6 g5.tab)
        exact k _ _ g6 ⟨A3, xs, rfl, n6.2, TailAt.grew (c := Chg.place true z) htl g6 hP⟩
    | road up r1 =>
      have l10 : xs.length ≤ 10 := by obtain ⟨v, e, _⟩ := htl; rw [e]; simp
      cases up with
      | true =>
        refine ⟨_, rfl, (show 3 ≤ sizeLine by decide), fun T1 nT1 => ?_⟩
        have g1 := Grew.new (o := .tup [.str "minutes", .str "hours", .str "kinds"]) hP nT1
        have ht1 := g1.tup hP ht
        refine ⟨T1, _, rfl, .inr (SqT.of upd_same), rfl, flat_strs ["minutes", "hours", "kinds"], ?_⟩
        rw [show inV (V.str (Chg.road true r1).word) [V.str "minutes", V.str "hours", V.str "kinds"] = decide ((Chg.road true r1).word ∈ (["minutes", "hours", "kinds"] : List Str)) from inV_dec _ ["minutes", "hours", "kinds"]]
        refine ⟨_, rfl, if_f (show decide (("road" : Str) ∈ (["minutes", "hours", "kinds"] : List Str)) = false by decide +kernel) ?_⟩
        refine ⟨_, rfl, _, rfl, _, rfl, (show ("road" : Str).length ≤ sizeLine by decide +kernel), rfl, _, rfl, ?_⟩
        refine if_f (decide_eq_false fun e => (by decide +kernel : ¬ (cutS ("road" : Str) none (some 2) = "un")) (V.str.inj e)) ?_
        refine ⟨_, rfl, _, _, rfl, rfl, (show ("un" : Str).length + ("road" : Str).length ≤ sizeLine by decide +kernel), (show 1 ≤ sizeLine by decide), fun A2 a2 => ?_⟩
        have ew : (("un" : Str) ++ ("road" : Str)) = "unroad" := by decide +kernel
        generalize eH2 : L2.upd (L2.upd H T1 _) A2 _ = H2
        have g2' : Grew P (L2.upd H T1 (.tup [.str "minutes", .str "hours", .str "kinds"])) H2 := by rw [← eH2]; exact Grew.new g1.tab a2
        have h2 : H2 A2 = some (.tup [.str "unroad"]) := by rw [← eH2, ← ew]; exact upd_same
        have g2 := g1.trans g2'
        refine ⟨_, rfl, _, rfl, t, _, rfl, g2.tup hP ht, fun H5 A1 n5 => ?_⟩
        have g5' := newT_grew n5 g2.tab
        have g5 := g2.trans g5'
        have n5' : H5 A1 = some (.tup xs) := n5.2.trans (by rw [show cutV (_ :: xs) (some (1 : Int)) none = xs from cutV_sufL _ 1])
        refine ⟨A2, A1, _, _, rfl, rfl, g5'.tup g2.tab h2, n5', (by rw [sizeLine_eq]; show 1 + _ ≤ _; omega), fun H6 A3 n6 => ?_⟩
        have g6 := g5.trans (newT_grew n6 g5.tab)
        exact k _ _ g6 ⟨A3, xs, rfl, n6.2, TailAt.grew (c := Chg.road false r1) htl g6 hP⟩
      | false =>
        refine ⟨_, rfl, (show 3 ≤ sizeLine by decide), fun T1 nT1 => ?_⟩
        have g1 := Grew.new (o := .tup [.str "minutes", .str "hours", .str "kinds"]) hP nT1
        have ht1 := g1.tup hP ht
        refine ⟨T1, _, rfl, .inr (SqT.of upd_same), rfl, flat_strs ["minutes", "hours", "kinds"], ?_⟩
        rw [show inV (V.str (Chg.road false r1).word) [V.str "minutes", V.str "hours", V.str "kinds"] = decide ((Chg.road false r1).word ∈ (["minutes", "hours", "kinds"] : List Str)) from inV_dec _ ["minutes", "hours", "kinds"]]
        refine ⟨_, rfl, if_f (show decide (("unroad" : Str) ∈ (["minutes", "hours", "kinds"] : List Str)) = false by decide +kernel) ?_⟩
        refine ⟨_, rfl, _, rfl, _, rfl, (show ("unroad" : Str).length ≤ sizeLine by decide +kernel), rfl, _, rfl, ?_⟩
        refine if_t (decide_eq_true (congrArg V.str (by decide +kernel : cutS ("unroad" : Str) none (some 2) = "un"))) ?_
        refine ⟨_, rfl, _, rfl, _, rfl, (show ("unroad" : Str).length ≤ sizeLine by decide +kernel), (show 1 ≤ sizeLine by decide), fun A2 a2 => ?_⟩
        have ew : cutS ("unroad" : Str) (some 2) none = "road" := by decide +kernel
        generalize eH2 : L2.upd (L2.upd H T1 _) A2 _ = H2
        have g2' : Grew P (L2.upd H T1 (.tup [.str "minutes", .str "hours", .str "kinds"])) H2 := by rw [← eH2]; exact Grew.new g1.tab a2
        have h2 : H2 A2 = some (.tup [.str "road"]) := by rw [← eH2, ← ew]; exact upd_same
        have g2 := g1.trans g2'
        refine ⟨_, rfl, _, rfl, t, _, rfl, g2.tup hP ht, fun H5 A1 n5 => ?_⟩
        have g5' := newT_grew n5 g2.tab
        have g5 := g2.trans g5'
        have n5' : H5 A1 = some (.tup xs) := n5.2.trans (by rw [show cutV (_ :: xs) (some (1 : Int)) none = xs from cutV_sufL _ 1])
        refine ⟨A2, A1, _, _, rfl, rfl, g5'.tup g2.tab h2, n5', (by rw [sizeLine_eq]; show 1 + _ ≤ _; omega), fun H6 A3 n6 => ?_⟩
        have g6 := g5.trans (newT_grew n6 g5.tab)
        exact k _ _ g6 ⟨A3, xs, rfl, n6.2, TailAt.grew (c := Chg.road true r1) htl g6 hP⟩
    | bar up b =>
      have l10 : xs.length ≤ 10 := by rw [show xs = [.str b.1, .str b.2] from htl]; simp
      cases up with
      | true =>
        refine ⟨_, rfl, (show 3 ≤ sizeLine by decide), fun T1 nT1 => ?_⟩
        have g1 := Grew.new (o := .tup [.str "minutes", .str "hours", .str "kinds"]) hP nT1
        have ht1 := g1.tup hP ht
        refine ⟨T1, _, rfl, .inr (SqT.of upd_same), rfl, flat_strs ["minutes", "hours", "kinds"], ?_⟩
        rw [show inV (V.str (Chg.bar true b).word) [V.str "minutes", V.str "hours", V.str "kinds"] = decide ((Chg.bar true b).word ∈ (["minutes", "hours", "kinds"] : List Str)) from inV_dec _ ["minutes", "hours", "kinds"]]
        refine ⟨_, rfl, if_f (show decide (("bar" : Str) ∈ (["minutes", "hours", "kinds"] : List Str)) = false by decide +kernel) ?_⟩
        refine ⟨_, rfl, _, rfl, _, rfl, (show ("bar" : Str).length ≤ sizeLine by decide +kernel), rfl, _, rfl, ?_⟩
        refine if_f (decide_eq_false fun e => (by decide +kernel : ¬ (cutS ("bar" : Str) none (some 2) = "un")) (V.str.inj e)) ?_
        refine ⟨_, rfl, _, _, rfl, rfl, (show ("un" : Str).length + ("bar" : Str).length ≤ sizeLine by decide +kernel), (show 1 ≤ sizeLine by decide), fun A2 a2 => ?_⟩
        have ew : (("un" : Str) ++ ("bar" : Str)) = "unbar" := by decide +kernel
        generalize eH2 : L2.upd (L2.upd H T1 _) A2 _ = H2
        have g2' : Grew P (L2.upd H T1 (.tup [.str "minutes", .str "hours", .str "kinds"])) H2 := by rw [← eH2]; exact Grew.new g1.tab a2
        have h2 : H2 A2 = some (.tup [.str "unbar"]) := by rw [← eH2, ← ew]; exact upd_same
        have g2 := g1.trans g2'
        refine ⟨_, rfl, _, rfl, t, _, rfl, g2.tup hP ht, fun H5 A1 n5 => ?_⟩
        have g5' := newT_grew n5 g2.tab
        have g5 := g2.trans g5'
        have n5' : H5 A1 = some (.tup xs) := n5.2.trans (by rw [show cutV (_ :: xs) (some (1 : Int)) none = xs from cutV_sufL _ 1])
        refine ⟨A2, A1, _, _, rfl, rfl, g5'.tup g2.tab h2, n5', (by rw [sizeLine_eq]; show 1 + _ ≤ _; omega), fun H6 A3 n6 => ?_⟩
        have g6 := g5.trans (newT_grew n6 g5.tab)
        exact k _ _ g6 ⟨A3, xs, rfl, n6.2, TailAt.grew (c := Chg.bar false b) htl g6 hP⟩
      | false =>
        refine ⟨_, rfl, (show 3 ≤ sizeLine by decide), fun T1 nT1 => ?_⟩
        have g1 := Grew.new (o := .tup [.str "minutes", .str "hours", .str "kinds"]) hP nT1
        have ht1 := g1.tup hP ht
        refine ⟨T1, _, rfl, .inr (SqT.of upd_same), rfl, flat_strs ["minutes", "hours", "kinds"], ?_⟩
        rw [show inV (V.str (Chg.bar false b).word) [V.str "minutes", V.str "hours", V.str "kinds"] = decide ((Chg.bar false b).word ∈ (["minutes", "hours", "kinds"] : List Str)) from inV_dec _ ["minutes", "hours", "kinds"]]
        refine ⟨_, rfl, if_f (show decide (("unbar" : Str) ∈ (["minutes", "hours", "kinds"] : List Str)) = false by decide +kernel) ?_⟩
        refine ⟨_, rfl, _, rfl, _, rfl, (show ("unbar" : Str).length ≤ sizeLine by decide +kernel), rfl, _, rfl, ?_⟩
        refine if_t (decide_eq_true (congrArg V.str (by decide +kernel : cutS ("unbar" : Str) none (some 2) = "un"))) ?_
        refine ⟨_, rfl, _, rfl, _, rfl, (show ("unbar" : Str).length ≤ sizeLine by decide +kernel), (show 1 ≤ sizeLine by decide), fun A2 a2 => ?_⟩
        have ew : cutS ("unbar" : Str) (some 2) none = "bar" := by decide +kernel
        generalize eH2 : L2.upd (L2.upd H T1 _) A2 _ = H2
        have g2' : Grew P (L2.upd H T1 (.tup [.str "minutes", .str "hours", .str "kinds"])) H2 := by rw [← eH2]; exact Grew.new g1.tab a2
        have h2 : H2 A2 = some (.tup [.str "bar"]) := by rw [← eH2, ← ew]; exact upd_same
        have g2 := g1.trans g2'
        refine ⟨_, rfl, _, rfl, t, _, rfl, g2.tup hP ht, fun H5 A1 n5 => ?_⟩
        have g5' := newT_grew n5 g2.tab
        have g5 := g2.trans g5'
        have n5' : H5 A1 = some (.tup xs) := n5.2.trans (by rw [show cutV (_ :: xs) (some (1 : Int)) none = xs from cutV_sufL _ 1])
        refine ⟨A2, A1, _, _, rfl, rfl, g5'.tup g2.tab h2, n5', (by rw [sizeLine_eq]; show 1 + _ ≤ _; omega), fun H6 A3 n6 => ?_⟩
        have g6 := g5.trans (newT_grew n6 g5.tab)
        exact k _ _ g6 ⟨A3, xs, rfl, n6.2, TailAt.grew (c := Chg.bar true b) htl g6 hP⟩
    | part nm a b =>
      obtain ⟨va, vb, rfl, ma, mb⟩ := htl
      refine ⟨_, rfl, (show 3 ≤ sizeLine by decide), fun T1 nT1 => ?_⟩
      have g1 := Grew.new (o := .tup [.str "minutes", .str "hours", .str "kinds"]) hP nT1
      have ht1 := g1.tup hP ht
      refine ⟨T1, _, rfl, .inr (SqT.of upd_same), rfl, flat_strs ["minutes", "hours", "kinds"], ?_⟩
      rw [show inV (V.str (Chg.part nm a b).word) [V.str "minutes", V.str "hours", V.str "kinds"] = decide ((Chg.part nm a b).word ∈ (["minutes", "hours", "kinds"] : List Str)) from inV_dec _ ["minutes", "hours", "kinds"]]
      have inw : decide ((Chg.part nm a b).word ∈ (["minutes", "hours", "kinds"] : List Str)) = true := by
        cases a with
        | mi i => show decide (("minutes" : Str) ∈ (["minutes", "hours", "kinds"] : List Str)) = true; decide +kernel
        | ki us => show decide (("kinds" : Str) ∈ (["minutes", "hours", "kinds"] : List Str)) = true; decide +kernel
        | ho hs => show decide (("hours" : Str) ∈ (["minutes", "hours", "kinds"] : List Str)) = true; decide +kernel
      refine ⟨_, rfl, if_t inw ?_⟩
      refine ⟨_, rfl, _, rfl, t, _, 1, _, rfl, rfl, SqT.of ht1, rfl, _, rfl, t, _, 3, _, rfl, rfl, SqT.of ht1, rfl, _, rfl, t, _, 2, _, rfl, rfl, SqT.of ht1, rfl, (show 4 ≤ sizeLine by decide), fun T nT => ?_⟩
      have gT := g1.trans (Grew.new (o := .tup [.str a.word, .str nm, vb, va]) g1.tab nT)
      have wab : b.word = a.word := Eq.symm al
      refine k _ _ gT ⟨T, _, rfl, ?_, vb, va, rfl, mb.grew gT hP, ma.grew gT hP⟩
      rw [upd_same]
      show some (HO.tup [.str a.word, _, _, _]) = some (HO.tup [.str b.word, _, _, _])
      rw [wab]
theorem ok_tb {f fO : Addr} {fd fdO : FuncData} (F : Fun K "taken_back" "taken_back" sTb f fd) (hrv : mg "reversed" = none)
    (GO : FnOk Pg w K mg base CX0 1 fO fdO ["change"] (spTurn K P)) (gO : mg "_opposite" = some (.ref fO)) (kO : PySem.W.keepIn K (.ref fO) = true) (bO : Binds K fdO ["change"] []) :
    FnOk Pg w K mg base CX0 2 f fd ["changes"] (spTb K P) := by
  refine F.ok scTb (fun vs H Q E h => ?_) (fun cdv A outer s H vs Q E hr h => ?_)
  · obtain ⟨d, L, ks, cs, rfl, _⟩ := h
    rfl
  · obtain ⟨d, L, ks, cs, rfl, hC, l100, hP, k⟩ := h
    obtain ⟨xs, hL, hcs, hok⟩ := id hC
    have lx := Paired.len hcs
    refine ⟨_, (pss_one (ps_ret (pe_lc (own := [("change", 1)]) (g := (gName 1)) (tt := tYes) rfl scTb.nd (RT.pi_revA (by rfl) hrv (pv 0)) (blkOk_by (N := nTb) (sc := defScope sTb) (by decide +kernel)) (fun _ _ _ _ _ => pg_name (i := 1) scTb.nd rfl (Or.inl rfl)) (fun _ _ _ _ _ => pts_nil) (fun _ _ _ _ _ => (pe_call GO (hr.mono (by decide)) (by rfl) gO kO bO .nil pass0 (pa_cons (pv 1) pa_nil)))))), ?_⟩
    refine ⟨_, rfl, L, xs, rfl, .inl ⟨SqL.of hL, fun D nD => lc_it (walk_rev (K := K) (a := L) (xs := xs)) (fun i H' => Grew P H H' ∧ ∃ ys, H' D = some (.lst ys) ∧ Paired (ChgAt K H') ((cs.map Chg.turn).reverse.take i) ys) ⟨Grew.new hP nD, [], upd_same, .nil⟩ (fun i H' _ p => SqL.of (p.1.lst hP hL)) (fun i v H1 H2 hi p y => ?_) (fun H1 p => ?_)⟩⟩
    · obtain ⟨g1, ys, hD, hys⟩ := p
      obtain ⟨rfl, ev⟩ := y
      obtain ⟨c, hc, hm⟩ := Paired.at hcs ev
      have hm1 := hm.grew g1 hP
      have cok := hok c (List.mem_of_getElem? hc)
      have et : (cs.map Chg.turn).reverse[i]? = some c.turn := by
        rw [List.getElem?_reverse (by rw [List.length_map, lx]; exact hi), List.length_map, lx, List.getElem?_map, hc]
        rfl
      refine ⟨rfl, _, rfl, v, c, rfl, hm1, cok.alike, g1.tab, fun H3 y g3 hy => ?_⟩
      have hD3 := g3.lst g1.tab hD
      have ly := Paired.len hys
      rw [List.length_take, List.length_reverse, List.length_map] at ly
      have kp : TKp H3 (L2.upd H3 D (.lst (ys ++ [y]))) := TKp.lst hD3
      refine ⟨ys, hD3, by rw [sizeLine_eq]; omega, (g1.trans g3).write (o := .lst (ys ++ [y])) hD3 (fun _ z => by cases z) nD, ys ++ [y], upd_same, ?_⟩
      rw [List.take_succ, et]
      exact Paired.snoc (Paired.map' hys fun _ _ m => (m.grew g3 g1.tab).kp kp) (hy.kp kp)
    · obtain ⟨g1, ys, hD, hys⟩ := p
      have lt : (cs.map Chg.turn).reverse.length = xs.length := by rw [List.length_reverse, List.length_map, lx]
      rw [← lt, List.take_length] at hys
      refine k H1 D g1 nD ⟨ys, hD, hys, fun c hc => ?_⟩
      obtain ⟨c0, h0, rfl⟩ := List.mem_map.mp (List.mem_reverse.mp hc)
      exact turn_ok (hok c0 h0)
end
end W

set_option Elab.async false
set_option linter.all false
set_option maxRecDepth 100000
set_option maxHeartbeats 2000000
namespace MyR
open PySem PySem.Spec PyProof.Rows L2
/-! ### the law's own call, where several defs hold a generator expression -/
section
variable {P : Program} {w : World} {K : PySem.W.Frag} {mg : Str → Option Value} {base : Heap}
def topL (K : PySem.W.Frag) (cs : List (Addr × Addr)) (a : Addr) (o : Obj) (xs : List V) : Hp := fun b => if b ∈ cs.map (·.2) then some (.tbl #[]) else if b = a ∧ K.lookup a = none then some (.frz o (.lst xs)) else none
theorem topL_cases {cs : List (Addr × Addr)} {a b : Addr} {o : Obj} {xs : List V} {u : HO} (h : topL K cs a o xs b = some u) : (b ∈ cs.map (·.2) ∧ u = .tbl #[]) ∨ (b ∉ cs.map (·.2) ∧ b = a ∧ K.lookup a = none ∧ u = .frz o (.lst xs)) := by
  unfold topL at h
  by_cases h1 : b ∈ cs.map (·.2)
  · rw [if_pos h1] at h
    exact .inl ⟨h1, (Option.some.inj h).symm⟩
  · rw [if_neg h1] at h
    by_cases h2 : b = a ∧ K.lookup a = none
    · rw [if_pos h2] at h
      exact .inr ⟨h1, h2.1, h2.2, (Option.some.inj h).symm⟩
    · rw [if_neg h2] at h
      cases h
theorem top_callL {mb : Str → Option Value} {CX : CXT} {f a : Addr} {cs : List (Addr × Addr)} {sp : Sp} {s : Shared} {vs : List Value} {ns : List Int} (KX : K.In s.heap) (G : s.heap.Ns mainGlobals mg) (B : s.heap.Ns builtinsNs mb) (hB : ∀ x : Str, x ≠ "__name__" → mb x = bootBuiltins x) (lim : s.heap.NoLimit) (ng : s.gens = #[])
    (hcs : ∀ p ∈ cs, s.heap.get? p.2 = some { cls := .none, data := .fields #[] } ∧ K.lookup p.2 = none ∧ PySem.W.CodeHd s.heap p.1 p.2)
    (hbm : ∃ (bm : Addr) (ob : Obj), mg "__builtins__" = some (.ref bm) ∧ bm ≠ builtinsNs ∧ s.heap.get? bm = some ob ∧ ob.cls = .type "module" ∧ ob.dict = some builtinsNs ∧ ob.data = .plain)
    (ea : s.heap.get? a = some { cls := .type "list", data := .seq vs.toArray }) (hi : IntsAre vs ns) (hl : ns.length ≤ sizeLine)
    (R : ∀ base : Heap, K.In base → base.Ns mainGlobals mg → (∀ p ∈ cs, LamX.TabB base mg p.1 p.2) → RunG P w K mg base CX f sp)
    (hsp : ∀ H : Hp, (∀ p ∈ cs, H p.2 = some (.tbl #[])) → SqL K H a (ns.map V.int) → sp [.ref a] H (fun v _ => v = .bl true) fun _ _ _ => False)
    (no : ∀ H e s', CX [] H s (fun _ _ _ => False) e s' → False) :
    codeAny (model P w) callerA (.call (.ref f) ⟨[.ref a], []⟩) (fun r s' => r = .ok (.ret (.bool true)) ∧ OldK s.heap s'.heap ∧ s'.os = s.os ∧ AllBare s'.gens) s := by
  have rv := vals_ints hi
  have mem : ∀ {b : Addr}, b ∈ cs.map (·.2) → ∃ c, (c, b) ∈ cs := fun {b} h => by
    obtain ⟨⟨c, b'⟩, hp, e⟩ := List.mem_map.mp h
    have e' : b' = b := e
    exact ⟨c, e' ▸ hp⟩
  have eT : ∀ {b : Addr}, b ∈ cs.map (·.2) → s.heap.get? b = some { cls := .none, data := .fields #[] } := fun h => let ⟨c, hp⟩ := mem h; (hcs _ hp).1
  have nT : ∀ {b : Addr}, b ∈ cs.map (·.2) → K.lookup b = none := fun h => let ⟨c, hp⟩ := mem h; (hcs _ hp).2.1
  have nz : a ∉ cs.map (·.2) := fun z => by
    rw [eT z] at ea
    cases ea
  obtain ⟨H, eH⟩ : ∃ H, H = topL K cs a { cls := .type "list", data := .seq vs.toArray } (ns.map V.int) := ⟨_, rfl⟩
  have tr : ∀ {b : Addr} {u : HO}, H b = some u → _ := fun {b u} h => topL_cases (by rw [eH] at h; exact h)
  have HT : ∀ p ∈ cs, H p.2 = some (.tbl #[]) := fun p hp => by
    rw [eH]
    exact if_pos (List.mem_map.mpr ⟨p, hp, rfl⟩)
  have hS : SqL K H a (ns.map V.int) := by
    cases q : K.lookup a with
    | none => exact .inl (.inr ⟨_, by rw [eH]; exact (if_neg nz).trans (if_pos ⟨rfl, q⟩)⟩)
    | some o =>
      have e := KX a o q
      rw [ea] at e
      cases e
      exact .inr ⟨_, vs.toArray, _, q, rfl, rfl, rfl, by rw [List.size_toArray, hi.length]; exact hl, by simpa using rv⟩
  have ok : HOk P w H s.heap := fun b u h => by
    rcases tr h with ⟨hb, rfl⟩ | ⟨_, rfl, _, rfl⟩
    · exact eT hb
    · exact ⟨ea, by rw [List.length_map]; exact hl, vs, _, rv, ea⟩
  have gone : ∀ {b : Addr} {o : Obj}, s.heap.get? b = some o → (∀ xs n, o.data ≠ .seq xs n) → o.data ≠ .fields #[] → H b = none := fun {b o} e d1 d2 => by
    cases h : H b with
    | none => rfl
    | some u =>
      rcases tr h with ⟨hb, _⟩ | ⟨_, rfl, _, _⟩
      · rw [eT hb] at e
        cases e
        exact (d2 rfl).elim
      · rw [ea] at e
        cases e
        exact (d1 _ _ rfl).elim
  have toB : ∀ {b : Addr} {m : Str → Option Value}, s.heap.Ns b m → (hidT s.heap H).Ns b m := fun {b m} ⟨o, es, ep, e, d, r⟩ =>
    ⟨o, es, ep, hidT_get e (gone e (fun xs n z => by rw [d] at z; cases z) (fun z => by rw [d] at z; cases z)), d, r⟩
  have KB : K.In (hidT s.heap H) := fun b o e => hidT_get (KX b o e) (by
    cases h : H b with
    | none => rfl
    | some u =>
      rcases tr h with ⟨hb, _⟩ | ⟨_, rfl, k, _⟩
      · rw [nT hb] at e; cases e
      · rw [k] at e; cases e)
  have TB : ∀ p ∈ cs, LamX.TabB (hidT s.heap H) mg p.1 p.2 := fun p hp => by
    obtain ⟨eT, nT, C⟩ := hcs p hp
    refine ⟨?_, ?_, fun z => ?_⟩
    · obtain ⟨o, us, file, tf, flags, tg, inF, text, tt, e1, r1, r2, r3, r⟩ := C
      exact ⟨o, us, file, tf, flags, tg, inF, text, tt, hidT_get e1 (gone e1 (fun xs n z => by rw [r2] at z; cases z) (fun z => by rw [r2] at z; cases z; simp at r3)), r1, r2, r3, r⟩
    · obtain ⟨bm, ob, b1, b2, b3, b4, b5, b6⟩ := hbm
      refine ⟨bm, ob, b1, b2, fun z => ?_, fun z => ?_, hidT_get b3 (gone b3 (fun xs n z => by rw [b6] at z; cases z) (fun z => by rw [b6] at z; cases z)), b4, b5, b6⟩
      · obtain ⟨o, es, ep, e, d, _⟩ := G
        rw [z, e] at b3
        cases b3
        rw [d] at b6
        cases b6
      · rw [z, eT] at b3
        cases b3
        cases b6
    · obtain ⟨o, es, ep, e, d, _⟩ := G
      rw [z, eT] at e
      cases e
      cases d
  have e0 : Env0 P w K mg (hidT s.heap H) callerA [] s H :=
    ⟨rfl, ⟨KB, toB G, ⟨mb, toB B, hB⟩, let ⟨mc, h1, h2⟩ := lim; ⟨mc, toB h1, h2⟩⟩, fun b o e => of_hidT e, Nat.le_of_eq (hidT_size _ _), trivial, fun b hb => absurd (show b ∈ ([] : List Addr) from hb) (by simp), ok, .of_eq ng⟩
  refine codeAny_mono (R _ KB (toB G) TB s H a _ _ e0 (hsp H HT hS)) fun r s' h => ?_
  match r, h with
  | .error e, h => exact (no H e s' h).elim
  | .ok .next, h => exact False.elim h
  | .ok .brk, h => exact False.elim h
  | .ok .cont, h => exact False.elim h
  | .ok (.ret u), ⟨v, H', os, bare, un, ok', r', q⟩ =>
    obtain rfl : v = .bl true := q
    obtain rfl : u = Value.bool true := r'
    have hm : ∀ p ∈ cs, ∃ more : Array Value, s'.heap.get? p.2 = some { cls := .none, data := .fields more } := fun p hp => by
      obtain ⟨more, z⟩ := un.tbls p.2 #[] (HT p hp)
      exact ⟨_, ok' p.2 _ z⟩
    have old : ∀ b o, b ∉ cs.map (·.2) → s.heap.get? b = some o → s'.heap.get? b = some o := fun b o ne e => by
      cases h : H b with
      | none => exact un.keep b o e h (fun z => absurd (show b ∈ ([] : List Addr) from z) (by simp)) (by simp)
      | some u =>
        rcases tr h with ⟨z, _⟩ | ⟨_, rfl, _, rfl⟩
        · exact absurd z ne
        · obtain ⟨e2, _⟩ := ok' b _ (un.frzs b _ _ h)
          rw [ea] at e
          cases e
          exact e2
    refine ⟨rfl, ⟨fun b o e => ?_, fun b o e => ?_⟩, os, bare⟩
    · by_cases hb : b ∈ cs.map (·.2)
      · obtain ⟨c, hp⟩ := mem hb
        obtain ⟨eT, _, C⟩ := hcs _ hp
        obtain ⟨more, hm⟩ := hm _ hp
        have eT' : s.heap.get? b = some { cls := .none, data := .fields #[] } := eT
        rw [eT'] at e
        cases e
        exact .inr (.inl ⟨(C.tab eT).isCodeTable, rfl, #[], more, rfl, by rw [Array.empty_append]; exact hm⟩)
      · exact .inl (old b o hb e)
    · by_cases hb : b ∈ cs.map (·.2)
      · obtain ⟨c, hp⟩ := mem hb
        obtain ⟨more, hm⟩ := hm _ hp
        exact ⟨_, hm⟩
      · exact ⟨o, old b o hb e⟩
end
/-- what the law's end asks: the tables of the code objects, and the promise sp -/
def LawL (l : PySem.W.OpenLaw) (w : World) (K : PySem.W.Frag) (CX : CXT) (n : Nat) (mg : Str → Option Value) (fa : Addr) (h : Heap) : Prop :=
  ∃ (cs : List (Addr × Addr)) (sp : Sp), (∀ p ∈ cs, h.get? p.2 = some { cls := .none, data := .fields #[] } ∧ K.lookup p.2 = none ∧ PySem.W.CodeHd h p.1 p.2) ∧
    (∀ (H : Hp) (a : Addr) (ns : List Int), ns.length ≤ n → (∀ p ∈ cs, H p.2 = some (.tbl #[])) → SqL K H a (ns.map V.int) → sp [.ref a] H (fun v _ => v = .bl true) fun _ _ _ => False) ∧
    ∀ base : Heap, K.In base → base.Ns mainGlobals mg → (∀ p ∈ cs, LamX.TabB base mg p.1 p.2) → RunG l.prog w K mg base CX fa sp
theorem walk_ofL {l : PySem.W.OpenLaw} {n : Nat} {q : Program} {loose : List Str} {XP : (Str → Option Value) → Heap → Prop} {YP : World → Heap → Prop} {d : DefRec} {K : Params → PySem.W.Frag} {CX : World → CXT} (names : List Str)
    (hn : l.most = some n) (hn2 : n ≤ sizeLine) (hdf : d.params.defaults = []) (hrec : names.all (fun y => (recsOf q).any fun e => e.name == y) = true) (hY : ∀ (w : World) (h : Heap), YP w h → (K w.params).In h)
    (F : ∀ (w : World) (mg : Str → Option Value) (fa : Addr) (h : Heap), YP w h → (K w.params).In h → h.Ns mainGlobals mg → mg d.name = some (.ref fa) → (∀ y ∈ names, ∀ f, mg y = some (.ref f) → LamX.OwnTab (K w.params) f h) → LawL l w (K w.params) (CX w) n mg fa h)
    (no : ∀ (w : World) (H : Hp) (s : Shared) (e : Value) (s' : Shared), CX w [] H s (fun _ _ _ => False) e s' → False) :
    PySem.W.WalkO q loose XP YP l.row.toRowW d [] (fun f vs => PySem.call f vs) := by
  refine Att.attach_callB hn hdf fun w s₀ s₁ mg mb fa o pm cd doc a vs ns G Y ho hd hcd hmg hobj hints hlen hbits hg => ?_
  have KX := hY w _ Y
  obtain ⟨cs, sp, hcs, hsp, R⟩ := F w mg fa _ Y KX G.T.g hmg (fun y hy f hf c P o1 fd1 e dd vs1 sl k1 k2 k3 k4 k5 => by
    obtain ⟨dL, hm, hn1⟩ := List.any_eq_true.mp (List.all_eq_true.mp hrec y hy)
    obtain ⟨a', o', fd', c', P', h1, h2, h3, h4, h5, h6⟩ := G.T.tab dL hm
    rw [beq_iff_eq.mp hn1, hf] at h1
    cases h1
    have g1 := KX _ _ k1
    rw [g1] at h2
    cases h2
    rw [k2] at h3
    cases h3
    rw [k3] at h4
    cases h4
    obtain ⟨⟨oc, vc, e1, _, e3, e4⟩, hP⟩ := h6
    have g2 := KX _ _ k4
    rw [g2] at e1
    cases e1
    cases e3
    rw [k5] at e4
    cases e4
    exact hP)
  exact top_callL KX G.T.g G.T.b G.T.builtins G.T.nolimit hg hcs G.T.bmain hobj hints (Nat.le_trans hlen hn2) R (fun H hH hS => hsp H a ns hlen hH hS) fun H e s' => no w H s₁ e s'
end MyR

set_option Elab.async false
set_option linter.all false
set_option maxRecDepth 100000
set_option maxHeartbeats 8000000
namespace W
open PySem PySem.Spec PyProof.Rows L2 GxR MyG MyS SqX MyR
/-! ### the law -/
abbrev sLaw : Stmt := top 58
def spLaw (K : PySem.W.Frag) (P Pw : Addr) : Sp := fun vs H Q _ => ∃ (a : Addr) (zs : List Int), vs = [.ref a] ∧ SqL K H a (zs.map V.int) ∧ zs.length ≤ 63 ∧ TabG H P ∧ TabG H Pw ∧ ∀ H', Q (.bl true) H'
abbrev nLaw : List Str := ["script", "numbers", "parts", "changes", "chart", "passed", "back", "k"]
theorem room17 {q : Str} {sc : Scope} {n : Nat} {f : Addr} {cd : Value} : Room 17 (callerA.deeper (envOfC q sc n f cd)) := ⟨rfl, by show 1 + claimMargin + 1 + 3 * 17 + 5 < _; decide, by show 4 + 3 + 16 * 17 + 200 < _; decide⟩
theorem exm_any2 {K : PySem.W.Frag} {cls c1 c2 : Value} {b1 b2 : Bool} (h1 : PySem.W.exmOne K cls c1 = some b1) (h2 : PySem.W.exmOne K cls c2 = some b2) : PySem.W.exmAny K cls [c1, c2] = some (b1 || (b2 || false)) := by
  simp only [PySem.W.exmAny, h1, h2]
theorem passF2 {P : Program} {w : World} {X : Cx} (hP : X.prog = P) (hw : X.w = w) : Passes (L2.CX P w) X E0 := by
  subst hP hw
  exact L2.passL
theorem lay_chgs {d : Int} {ks : List Str} {cs : List Chg} (hk : ks.all isNm = true) (h : ∀ c ∈ cs, ChgOk d ks c) : Lay 6 (.list (cs.map chgP)) := Lay.list' fun e he => by
  obtain ⟨c, hc, rfl⟩ := List.mem_map.mp he
  exact chg_lay hk (h c hc)
theorem turn_all (cs : List Chg) : ((cs.map Chg.turn).reverse.map Chg.turn).reverse = cs := by
  rw [List.map_reverse, List.reverse_reverse, List.map_map]
  have : ∀ c ∈ cs, (Chg.turn ∘ Chg.turn) c = c := fun c _ => turn_turn c
  exact (List.map_congr_left this).trans (List.map_id' _)
theorem CsAt.dp {K : PySem.W.Frag} {H : Hp} {L : Addr} {d : Int} {ks : List Str} {cs : List Chg} (m : CsAt K H L d ks cs) : Dp K H (.ref L) (.list (cs.map chgP)) := by
  obtain ⟨xs, e, p, _⟩ := m
  exact .lst (SqL.of e) (dpAll_of (fun _ _ m => ChgAt.dp m) p)
theorem turned_ok {d : Int} {ks : List Str} {cs : List Chg} (h : ∀ c ∈ cs, ChgOk d ks c) : ∀ c ∈ (cs.map Chg.turn).reverse, ChgOk d ks c := fun c hc => by
  obtain ⟨c0, h0, rfl⟩ := List.mem_map.mp (List.mem_reverse.mp hc)
  exact turn_ok (h c0 h0)
section
variable {Pg : Program} {w : World} {K : PySem.W.Frag} {mg : Str → Option Value} {base : Heap} {C P Pw : Addr}
theorem scLaw : FnScope nLaw ["script"] (defScope sLaw) := ⟨rfl, rfl, rfl, by decide +kernel, rfl, by decide +kernel, by decide +kernel⟩
theorem ok_law {f fNu fPa fWk fTb fTu fMk fFd fApl M R : Addr} {fdNu fdPa fdWk fdTb fdTu fdMk fdFd fdApl : FuncData} {dV kV doc pm cdv ct oc : Value} {an od : Option Addr} {osl : Array (Option Value)}
    (lk : K.lookup f = some ⟨oc, od, .func (PySem.W.fnOf "law" "law" (defArgs sLaw) (defBody sLaw) (defScope sLaw) dV kV doc pm an cdv ct), osl⟩) (hcd : PySem.W.codeIn K cdv "law" = true)
    (hb : ∀ (s : Shared) (u : Value), BindsTo s (PySem.W.fnOf "law" "law" (defArgs sLaw) (defBody sLaw) (defScope sLaw) dV kV doc pm an cdv ct) ⟨[u], []⟩ [("script", u)])
    (hi : mg "int" = none) (hl : mg "len" = none) (hls : mg "list" = none) (hrg : mg "range" = none) (his : mg "isinstance" = none)
    (GNu : FnOk Pg w K mg base CX0 2 fNu fdNu ["script", "many"] (spNumbers K P)) (gNu : mg "_law_numbers" = some (.ref fNu)) (kNu : PySem.W.keepIn K (.ref fNu) = true) (bNu : Binds K fdNu ["script", "many"] [])
    (GPa : FnOk Pg w K mg base CX0 4 fPa fdPa ["numbers", "at"] (spLPartsG K P)) (gPa : mg "_law_parts" = some (.ref fPa)) (kPa : PySem.W.keepIn K (.ref fPa) = true) (bPa : Binds K fdPa ["numbers", "at"] [])
    (GWk : FnOk Pg w K mg base CX0 4 fWk fdWk ["numbers", "at", "many", "parts"] (spWalked K P)) (gWk : mg "_law_walked" = some (.ref fWk)) (kWk : PySem.W.keepIn K (.ref fWk) = true) (bWk : Binds K fdWk ["numbers", "at", "many", "parts"] [])
    (GTb : FnOk Pg w K mg base CX0 2 fTb fdTb ["changes"] (spTb K P)) (gTb : mg "taken_back" = some (.ref fTb)) (kTb : PySem.W.keepIn K (.ref fTb) = true) (bTb : Binds K fdTb ["changes"] [])
    (GTu : FnOk Pg w K mg base CX0 1 fTu fdTu ["change"] (spTurn K P)) (gTu : mg "_law_turned" = some (.ref fTu)) (kTu : PySem.W.keepIn K (.ref fTu) = true) (bTu : Binds K fdTu ["change"] [])
    (GMk : FnOk Pg w K mg base CX0 7 fMk fdMk ["parts"] (spMake K M P)) (gMk : mg "_law_make" = some (.ref fMk)) (kMk : PySem.W.keepIn K (.ref fMk) = true) (bMk : Binds K fdMk ["parts"] [])
    (GFd : FnOk Pg w K mg base CX0 1 fFd fdFd ["chart"] (spFields K M P)) (gFd : mg "_law_fields" = some (.ref fFd)) (kFd : PySem.W.keepIn K (.ref fFd) = true) (bFd : Binds K fdFd ["chart"] [])
    (GApl : FnOk Pg w K mg base (L2.CX Pg w) 16 fApl fdApl ["chart", "changes"] (spApl K M R P Pw)) (gApl : mg "applied" = some (.ref fApl)) (kApl : PySem.W.keepIn K (.ref fApl) = true) (bApl : Binds K fdApl ["chart", "changes"] []) :
    RunG Pg w K mg base (L2.CX Pg w) f (spLaw K P Pw) := by
  refine runG_of lk hcd scLaw hb ⟨rfl, by decide, by decide⟩ fun s H a Q E h => ?_
  obtain ⟨a1, zs, ea, hS, hz, hP, hPw, kQ⟩ := h
  cases ea
  have hr : Room 17 (callerA.deeper (envOfC "law" (defScope sLaw) s.heap.objs.size f cdv)) := room17
  refine ⟨_, (pss_cons (ps_set (i := 1) scLaw.nd rfl (Or.inl rfl) (pe_call GNu (hr.mono (by decide)) (by rfl) gNu kNu bNu .nil pass0 (pa_cons (pv 0) (pa_cons pe_int pa_nil))))
      (pss_cons (ps_set (i := 2) scLaw.nd rfl (Or.inl rfl) (pe_call GPa (hr.mono (by decide)) (by rfl) gPa kPa bPa .nil pass0 (pa_cons (pv 1) (pa_cons pe_int pa_nil))))
      (C8.pss_cut (ps_set (i := 3) scLaw.nd rfl (Or.inr rfl) (pe_call GWk (hr.mono (by decide)) (by rfl) gWk kWk bWk .nil pass0 (pa_cons (pv 1) (pa_cons pe_int (pa_cons (pe_op op_mod (pe_callTy (r := rInt1) call_int1 (by rfl) hi (by decide +kernel) (pa_cons (pe_ix (r := rIxL K) ix_list (pv 1) pe_int (fun _ _ => rfl)) pa_nil)) pe_int) (pa_cons (pv 2) pa_nil))))))
      (pss_cons (ps_set (i := 4) scLaw.nd rfl (Or.inl rfl) (pe_call GMk (hr.mono (by decide)) (by rfl) gMk kMk bMk .nil pass0 (pa_cons (pv 2) pa_nil)))
      (pss_cons (ps_set (i := 5) scLaw.nd rfl (Or.inl rfl) (pe_callTy call_list_of (by rfl) hls (by decide +kernel) (pa_cons (pv 3) pa_nil)))
      (pss_cons (ps_set (i := 6) scLaw.nd rfl (Or.inl rfl) (pe_call GTb (hr.mono (by decide)) (by rfl) gTb kTb bTb .nil pass0 (pa_cons (pv 5) pa_nil)))
      (pss_cons (ps_if (PW.pt (pw_or (pt_not (pt_val (pe_callB (r := rIsi K) call_isi (by rfl) his (by decide +kernel) (pa_cons (pv 6) (pa_cons (pe_bltn (v := .ty "list") (by rfl) hls (by decide +kernel) rfl) pa_nil))))) (pw_or1 (pt_cmpR (r := rNeD K) (op_neD hr.units) (pv 5) (pv 3) (nomark _))))) (pss_one (ps_ret pe_bl))
        pss_nil)
      (pss_cons (ps_if (pt_cmpR (r := rNeD K) (op_neD hr.units) (pv 6) (pe_lc (own := [("k", 7)]) (g := (gName 7)) (tt := tYes) rfl scLaw.nd (pi_range1 rfl hrg (pa_cons (pe_callB (r := rLenK K) call_len_seq (by rfl) hl PySem.boot_len (pa_cons (pv 3) pa_nil)) pa_nil)) (blkOk_by (N := nLaw) (sc := defScope sLaw) (by decide +kernel)) (fun _ _ _ _ _ => pg_name (i := 7) scLaw.nd rfl (Or.inl rfl)) (fun _ _ _ _ _ => pts_nil) (fun _ _ _ _ _ => (pe_call GTu (hr.mono (by decide)) (by rfl) gTu kTu bTu .nil pass0 (pa_cons (pe_ix (r := rIxL K) ix_list (pv 3) (pe_op op_sub (pe_op op_sub (pe_callB (r := rLenK K) call_len_seq (by rfl) hl PySem.boot_len (pa_cons (pv 3) pa_nil)) pe_int) (pv 7)) (fun _ _ => rfl)) pa_nil)))) (nomark _)) (pss_one (ps_ret pe_bl))
        pss_nil)
      (pss_cons (ps_if (pt_cmpR (r := rNeD K) (op_neD hr.units) (pe_call GFd (hr.mono (by decide)) (by rfl) gFd kFd bFd .nil pass0 (pa_cons (pe_call (E := E0) GApl (hr.mono (by decide)) (by rfl) gApl kApl bApl .nil (passF2 rfl rfl) (pa_cons (pe_call (E := E0) GApl (hr.mono (by decide)) (by rfl) gApl kApl bApl .nil (passF2 rfl rfl) (pa_cons (pv 4) (pa_cons (pv 3) pa_nil))) (pa_cons (pv 6) pa_nil))) pa_nil)) (pv 2) (nomark _)) (pss_one (ps_ret pe_bl))
        pss_nil)
      (pss_one (ps_ret (pe_cmpR (r := rEqD K) (op_eqD hr.units) (pe_call GTb (hr.mono (by decide)) (by rfl) gTb kTb bTb .nil pass0 (pa_cons (pv 6) pa_nil)) (pv 3) (nomark _))))))))))))), ?_⟩
  refine ⟨_, rfl, a, zs, 200, rfl, hS, hz, by decide, hP, fun H1 N ns g1 nN hN hlen hsm => ?_⟩
  refine ⟨_, rfl, N, ns, 0, rfl, SqL.of hN, hsm, by decide, by omega, g1.tab, fun H2 p d ks ps rs bs g2 np hp2' ok ka pa ra ba l2 l1 l8 ua lk2 => ?_⟩
  obtain ⟨q, eq⟩ : ∃ q : PT, q = ⟨ps, rs, bs⟩ := ⟨_, rfl⟩
  have sp : SP d ks q := by rw [eq]; exact ⟨ok, ka, pa, ra, ba, ua⟩
  have hp2 : PrtAt K H2 p d ks q := by rw [eq]; exact hp2'
  clear hp2' ok ka pa ra ba l2 l1 l8 ua eq
  have g02 := g1.trans g2
  have hN2 := g2.sqL g1.tab (SqL.of (K := K) hN)
  obtain ⟨n8, e8, l8, u8⟩ := at_num hsm (i := 198) (by omega) (by omega)
  obtain ⟨m, em⟩ : ∃ m : Nat, n8 % 10 = (m : Int) := ⟨(n8 % 10).toNat, by omega⟩
  have m9 : m ≤ 9 := by omega
  refine ⟨fun σ H' => ∃ (L : Addr) (cs : List Chg) (q' : PT), σ = [some (.ref a), some (.ref N), some (.ref p), some (.ref L), none, none, none, none] ∧ Grew P H2 H' ∧ CsAt K H' L d ks cs ∧ cs.length ≤ 9 ∧ runC d ks q cs = some q', ?_, ?_⟩
  · refine ⟨_, rfl, _, rfl, N, _, _, _, rfl, rfl, hN2, e8, .inl ⟨n8, rfl, _, _, rfl, rfl, (show (0 : Int) < 10 by decide), _, rfl, N, p, ns, 105, d, m, ks, q, congrArg (fun z => [V.ref N, V.int 105, V.int z, V.ref p]) em, hN2, hsm, by decide, by omega, by omega, hp2, sp, g2.tab, fun H3 L cs q' g3 nL hcs lcs hrun => ?_⟩⟩
    exact ⟨L, cs, q', rfl, g3, hcs, by omega, hrun⟩
  rintro σ H4 ⟨L, cs, q', rfl, g24, hcs4, l9, hrun⟩
  have g04 := g02.trans g24
  have hp4 := hp2.grew g24 g02.tab
  have hok := hcs4.choose_spec.2.2
  have spq' := runC_sp sp hok hrun
  have back := run_turn sp hok hrun
  have okb := turned_ok hok
  refine ⟨_, rfl, p, d, ks, q, rfl, hp4, sp, g04.tab, fun H6 x g6 nx hm6 => ?_⟩
  have g06 := g04.trans g6
  have hcs6 := hcs4.grew g6 g04.tab
  obtain ⟨xs, hL6, hxs6, _⟩ := id hcs6
  refine ⟨_, rfl, L, _, rfl, .inl (SqL.of hL6), fun L2' n2 => ?_⟩
  have g7 := Grew.new (o := .lst xs) g06.tab n2
  have hL7 : L2.upd H6 L2' (.lst xs) L2' = some (.lst xs) := upd_same
  generalize L2.upd H6 L2' _ = H7 at g7 hL7 ⊢
  have g07 := g06.trans g7
  have hm7 := MapAt.grew g7 g06.tab hm6
  have hcs7 := hcs6.grew g7 g06.tab
  have hcsL : CsAt K H7 L2' d ks cs := ⟨xs, hL7, Paired.map' hxs6 fun _ _ m => ChgAt.grew m g7 g06.tab, hok⟩
  refine ⟨_, rfl, d, L2', ks, cs, rfl, hcsL, by omega, g07.tab, fun H8 B g8 nB hB => ?_⟩
  have g08 := g07.trans g8
  have layc := lay_chgs sp.ok.kn hok
  have layb := lay_chgs sp.ok.kn okb
  -- isinstance(back, list), passed != changes
  obtain ⟨bs8, hB8, _, _⟩ := id hB
  refine ⟨_, rfl, _, _, _, _, true, rfl, .ty "list", .base (.lst hB8), rfl, _, rfl, iteF ?_⟩
  have hcs8 := hcs7.grew g8 g07.tab
  refine ⟨_, rfl, _, rfl, _, _, (hcsL.grew g8 g07.tab).dp, hcs8.dp, layc.shaped (by decide), layc.shaped (by decide), _, rfl, if_f (by rw [layc.refl]; rfl) ?_⟩
  -- the law's own
  obtain ⟨xs8, hL8, hxs8, _⟩ := id hcs8
  have lx := Paired.len hxs8
  refine ⟨_, rfl, _, rfl, L, _, rfl, .inl (SqL.of hL8), (xs8.length : Int), rfl, by omega, by omega, fun D nD => lc_range (n := xs8.length) (fun i H9 => Grew P H8 H9 ∧ ∃ ys, H9 D = some (.lst ys) ∧ Paired (ChgAt K H9) ((cs.map Chg.turn).reverse.take i) ys) ⟨Grew.new g08.tab nD, [], upd_same, .nil⟩ (fun i H9 hi p9 => ?_) (fun H9 p9 => ?_)⟩
  · obtain ⟨g9, ys, hD, hys⟩ := p9
    rw [Int.zero_add]
    have hL9 := g9.lst g08.tab hL8
    obtain ⟨v, hv⟩ : ∃ v, xs8[xs8.length - 1 - i]? = some v := ⟨_, List.getElem?_eq_getElem (by omega)⟩
    obtain ⟨c, hc, hm⟩ := Paired.at hxs8 hv
    have cok := hok c (List.mem_of_getElem? hc)
    have et : (cs.map Chg.turn).reverse[i]? = some c.turn := by
      rw [List.getElem?_reverse (by rw [List.length_map, lx]; exact hi), List.length_map, lx, List.getElem?_map, hc]
      rfl
    have ei : (xs8.length : Int) - 1 - (i : Int) = ((xs8.length - 1 - i : Nat) : Int) := by omega
    have at_ : atI xs8 ((xs8.length : Int) - 1 - (i : Int)) = some v := by rw [ei]; exact atI_nat hv
    refine ⟨rfl, _, rfl, _, rfl, L, _, rfl, .inl (SqL.of hL9), _, _, rfl, rfl, _, rfl, _, _, rfl, rfl, L, xs8, _, v, rfl, rfl, SqL.of hL9, at_, v, c, rfl, hm.grew g9 g08.tab, cok.alike, g9.tab, fun Ha y ga hy => ?_⟩
    have hDa := ga.lst g9.tab hD
    have ly := Paired.len hys
    rw [List.length_take, List.length_reverse, List.length_map] at ly
    have kp : TKp Ha (L2.upd Ha D (.lst (ys ++ [y]))) := TKp.lst hDa
    refine ⟨ys, hDa, by rw [sizeLine_eq]; omega, (g9.trans ga).write (o := .lst (ys ++ [y])) hDa (fun _ z => by cases z) nD, ys ++ [y], upd_same, ?_⟩
    rw [List.take_succ, et]
    exact Paired.snoc (Paired.map' hys fun _ _ m => (m.grew ga g9.tab).kp kp) (hy.kp kp)
  obtain ⟨g9, ys, hD, hys⟩ := p9
  have lt : (cs.map Chg.turn).reverse.length = xs8.length := by rw [List.length_reverse, List.length_map, lx]
  rw [← lt, List.take_length] at hys
  have g09 := g08.trans g9
  have hB9 := hB.grew g9 g08.tab
  refine ⟨_, _, hB9.dp, CsAt.dp (d := d) (ks := ks) ⟨ys, hD, hys, okb⟩, layb.shaped (by decide), layb.shaped (by decide), _, rfl, if_f (by rw [layb.refl]; rfl) ?_⟩
  -- applied and back
  have hcs9 := hcs8.grew g9 g08.tab
  have hm9 := MapAt.grew (g8.trans g9) g07.tab hm7
  have e1 := runC_app hrun 0
  have e2 := runC_app back 0
  refine ⟨_, rfl, _, rfl, x, L, d, ks, q, cs, rfl, hm9, sp, hcs9, by omega, g09.tab, g09.tabs _ hPw, fun _ Ha y ga hma => ?_, fun i ei => absurd ei (by rw [e1]; simp)⟩
  rw [e1] at hma
  have g0a := g09.trans ga
  refine ⟨_, rfl, y, B, d, ks, q', _, rfl, hma, spq', hB9.grew ga g09.tab, by rw [List.length_reverse, List.length_map]; omega, g0a.tab, g0a.tabs _ hPw, fun _ Hb z gb hmb => ?_, fun i ei => absurd ei (by rw [e2]; simp)⟩
  rw [e2] at hmb
  have g0b := g0a.trans gb
  refine ⟨z, d, ks, q, rfl, hmb, g0b.tab, fun Hc pc gc hpc => ?_⟩
  have g0c := g0b.trans gc
  have layp := prt_lay sp
  have g4c := g6.trans (g7.trans (g8.trans (g9.trans (ga.trans (gb.trans gc)))))
  refine ⟨_, rfl, _, _, hpc.dp, (hp4.grew g4c g04.tab).dp, layp.shaped (by decide), layp.shaped (by decide), _, rfl, if_f (by rw [layp.refl]; rfl) ?_⟩
  have g9c := ga.trans (gb.trans gc)
  refine ⟨_, rfl, d, B, ks, _, rfl, hB9.grew g9c g09.tab, by rw [List.length_reverse, List.length_map]; omega, g0c.tab, fun Hd F gd nF hF => ?_⟩
  rw [turn_all] at hF
  refine ⟨_, rfl, _, _, hF.dp, ((hcs9.grew g9c g09.tab).grew gd g0c.tab).dp, layc.shaped (by decide), layc.shaped (by decide), ?_⟩
  rw [layc.refl]
  exact kQ _
end
end W

set_option Elab.async false
set_option linter.all false
set_option maxRecDepth 100000
set_option maxHeartbeats 800000
namespace W
open PySem PySem.Spec PyProof.Rows L2 GxR MyG MyS
/-! ### UnknownName.__init__ -/
abbrev sUInit : Stmt := inClass (top 4) 0
def scFake : Scope := { kind := .function, names := [("self", .local), ("name", .local)], isGenerator := false, isCoroutine := false, more := [] }
theorem scFakeOk : FnScope ["self", "name"] ["self", "name"] scFake := ⟨rfl, rfl, rfl, by decide +kernel, rfl, by decide +kernel, by decide +kernel⟩
section
variable {Pg : Program} {w : World} {K : PySem.W.Frag} {mg : Str → Option Value} {base : Heap}
abbrev fdU (dV kV doc pm : Value) (an : Option Addr) (cda : Addr) (ct : Value) (cc : Addr) : FuncData := PySem.W.fnX "__init__" "UnknownName.__init__" (defArgs sUInit) (defBody sUInit) (defScope sUInit) [("__class__", cc)] dV kV doc pm an (.ref cda) ct
theorem ok_uinit {CX : CXT} {f U cc cda : Addr} {oc ccl cl dV kV doc pm ct : Value} {od cdd cld an : Option Addr} {osl ccs csl : Array (Option Value)} {vs : Array Value} {file : Str} {tf : Tok}
    (lk : K.lookup f = some ⟨oc, od, .func (fdU dV kV doc pm an cda ct cc), osl⟩) (hcd : PySem.W.codeIn K (.ref cda) "UnknownName.__init__" = true) (hcode : K.lookup cda = some ⟨ccl, cdd, .fields vs, ccs⟩) (hvs : vs[2]? = some (.str file tf)) (hfile : ((Pg.main.file : Str) == file) = true)
    (hcell : K.lookup cc = some ⟨cl, cld, .cell (some (.ref U)), csl⟩) (hsuper : mg "super" = none) (htop : (Pg.main.scope.names.lookup ("super" : Str)).isSome = false)
    (TU : OexC K U) (hmU : PySem.W.mroIn K U (.ref U) = some true) (hop : PySem.W.nsIn K cStatics "thirdparty.any" = some none) (hsi : PySem.W.ks_superIn K U U "__init__" = some (some (.builtin "ValueError.__init__"))) (hsV : PySem.W.subIn K (.ref U) (.type "ValueError") = some true)
    (hno : PySem.W.findIn K (.ref U) "name" = some none) : FnOk Pg w K mg base CX 1 f (fdU dV kV doc pm an cda ct cc) ["self", "name"] (spUInit K U) := by
  have len : ∀ vs H Q E, spUInit K U vs H Q E → vs.length = 2 := by
    rintro vs H Q E ⟨a, z, rfl, _⟩
    rfl
  refine ⟨len, fun A outer s H args us vs2 Q E hr e0 hb r hsp => ?_⟩
  obtain ⟨a, z, rfl, hz, ea, kq⟩ := hsp
  obtain ⟨u1, u2, rfl, r1, r2⟩ := vals2 r
  obtain rfl : u1 = Value.ref a := r1
  obtain ⟨tk, rfl⟩ := r2
  have KX : K.In s.heap := e0.mod.kin.keeps fun b o e => (e0.bs b o e).1
  have lim : s.heap.NoLimit := e0.mod.nolimit.keeps fun b o e => (e0.bs b o e).1
  obtain ⟨cnm, cq, cN, cbs, cbm, csn, csub, cab, ccol, cdd2, c0, c1, c2, c3, c5, hC, hbm⟩ := TU.cls
  refine PySem.ks_codeAny_call_defAt (body := defBody sUInit) (binds := (["self", "name"] : List Str).zip [Value.ref a, Value.str z tk]) hr.depth (KX _ _ lk) rfl lim (PySem.W.codeRec_of KX hcd) rfl hb (show ∀ x ∈ (defScope sUInit).names, x.2 ≠ .cell by decide +kernel) (by
    intro y hy
    rcases List.mem_cons.mp hy with e | hy
    · subst e; show (defScope sUInit).names.lookup ("self" : Str) = some .local; decide +kernel
    · rw [List.mem_singleton.mp hy]; show (defScope sUInit).names.lookup ("name" : Str) = some .local; decide +kernel) (fun h0 hns hk => ?_) rfl rfl rfl
  have em : (fun x => ((["self", "name"] : List Str).zip [Value.ref a, Value.str z tk]).reverse.lookup x) = bindL (envOfC "UnknownName.__init__" scFake s.heap.objs.size f (.ref cda)).kindOf ((["self", "name"] : List Str).zip [Value.ref a, Value.str z tk]) fun _ => none := by
    funext y
    show ([(("name" : Str), Value.str z tk), ("self", Value.ref a)] : List (Str × Value)).lookup y = if y = "name" then some (Value.str z tk) else if y = "self" then some (Value.ref a) else none
    by_cases h1 : y = ("name" : Str)
    · subst h1; rw [if_pos rfl]; rfl
    · rw [if_neg h1]
      by_cases h2 : y = ("self" : Str)
      · subst h2; rw [if_pos rfl]; rfl
      · rw [if_neg h2]
        simp [List.lookup, h1, h2, beq_eq_false_iff_ne.mpr h1, beq_eq_false_iff_ne.mpr h2]
  have I : Inv (cxOf CX Pg w K mg base ["self", "name"] "UnknownName.__init__" scFake f (.ref cda) A outer s H E) [] (L2.start ["self", "name"] [.ref a, .str z]) H { s with heap := h0, toks := s.toks + 2 } :=
    inv_start scFakeOk hr.hd e0 rfl (.cons rfl (.cons ⟨tk, rfl⟩ .nil)) ⟨⟨⟨h0, s.toks + 2, rfl⟩, by rw [← em]; exact hns, hk, Nat.le_refl _⟩, fun n c e => (by cases e), List.Pairwise.nil, fun n c e => (by cases e)⟩
  refine PySem.ks_wpAt_execs_cons (PySem.ks_wpAt_Expr_any (PySem.ks_wpAt_MethodCall ?_))
  have K0 : K.In h0 := KX.keeps hk
  obtain ⟨t1, ho⟩ := exo_at e0.hok ea
  have ho0 : h0.get? a = some (PySem.HandSPX.excO U t1) := hk a _ ho
  have hcl : PySem.W.clsIn K U = some { name := cnm, bases := cbs, mro := .ref U :: cbm, ns := cN, qualname := cq, hasDict := true, slotNames := csn, subclasses := csub, abstract := cab, collection := ccol, hasDel := false } := by unfold PySem.W.clsIn; rw [hC] <;> rfl
  obtain ⟨mb, hb1, hb2⟩ := e0.mod.blt
  have bk0 : ∀ b o, base.get? b = some o → h0.get? b = some o := fun b o e => hk b o (e0.bs b o e).1
  have m1 : (fun x => ((["self", "name"] : List Str).zip [Value.ref a, Value.str z tk]).reverse.lookup x) "self" = some (Value.ref a) := rfl
  refine PySem.ks_wpAt_super_base (f := f) (fd := fdU dV kV doc pm an cda ct cc) (show (defScope sUInit).names.lookup ("super" : Str) = some .globalImplicit by decide +kernel) (show (defScope sUInit).names.lookup ("__class__" : Str) = some .free by decide +kernel) (by decide) rfl (hk _ _ (KX _ _ lk)) rfl rfl rfl (K0 _ _ hcode) rfl hvs hfile htop ?_
  refine PySem.W.ks_loadName_global rfl (show (defScope sUInit).names.lookup ("super" : Str) = some .globalImplicit by decide +kernel) (Calls.loadGlobal_builtin (e0.mod.glob.keeps bk0) hsuper (hb1.keeps bk0) ((hb2 "super" (by decide)).trans (by decide +kernel)) ⟨rfl, ?_⟩)
  refine wpAny_loadName_free rfl (show (defScope sUInit).names.lookup ("__class__" : Str) = some .free by decide +kernel) rfl ⟨_, K0 _ _ hcell, rfl⟩ ?_
  refine wpAny_loadName_local rfl (show (defScope sUInit).names.lookup ("self" : Str) = some .local by decide +kernel) hns m1 ?_
  refine PySem.ks_wpAny_isType_cls (K0 _ _ hC) rfl ⟨rfl, ?_⟩
  refine PySem.ks_wpAny_call_super (K0 _ _ hC) rfl ho0 rfl (fun c e => by cases e) (PySem.W.looks_mroIn K0 hmU) (fun h1 e1 k1 => ?_)
  have K1 : K.In h1 := K0.keeps k1
  have J1 : PySem.W.InstAt h1 a (PySem.HandSPX.excO U t1) U none := ⟨k1 _ _ ho0, rfl, rfl, trivial⟩
  have hsi' := hsi
  unfold PySem.W.ks_superIn at hsi'
  rw [hcl] at hsi'
  refine PySem.W.kxs_getMethod PySem.W.kxs_ValueError e1 (PySem.W.looks_opaque K1 hop) (l₀ := .ref U :: cbm) (fun A Q E s k q => wpAny_bind ((PySem.W.looks_clsIn K1 hcl) A _ E s k (wpAny_pure q))) rfl K1 hsi' (J1.type.andThen (PySem.W.looks_subIn K1 hsV)) (PySem.W.ks_ne K1 J1 hcl) (by decide) ?_
  have I1 : Inv (cxOf CX Pg w K mg base ["self", "name"] "UnknownName.__init__" scFake f (.ref cda) A outer s H E) [] (L2.start ["self", "name"] [.ref a, .str z]) H ⟨h1.push (PySem.W.kxs_mw "ValueError.__init__" a), s.gens, s.drawn, s.toks + 2 + 1, s.os⟩ :=
    I.kept (t' := s.toks + 2 + 1) fun b o q => Heap.get?_push_of_some _ (k1 b o q)
  have hu1 : (h1.push (PySem.W.kxs_mw "ValueError.__init__" a)).get? h1.objs.size = some (PySem.W.kxs_mw "ValueError.__init__" a) := Heap.get?_push_size _ rfl
  have look : ∀ {x : Str} {v : V} {st : Shared} {σ0 : L2.St} {H0 : Hp} (j : Nat), Inv (cxOf CX Pg w K mg base ["self", "name"] "UnknownName.__init__" scFake f (.ref cda) A outer s H E) [] σ0 H0 st → (["self", "name"] : List Str)[j]? = some x → σ0[j]? = some (some v) → scFake.names.lookup x = some .local → (defScope sUInit).names.lookup x = some .local →
      (x == ("__debug__" : Str)) = false → ∀ (p : Pos) (Q' : Value → Shared → Prop) (E' : Value → Shared → Prop) (A' : Around), (∀ u, RelV v u → Q' u st) → wpAny (model Pg w) A' (eval (.Name x p) (callEnv (fdU dV kV doc pm an cda ct cc) s.heap.objs.size f)) Q' E' st := by
    intro x v st σ0 H0 j J e1 e2 e3 e4 hdb p Q' E' A' hQ
    obtain ⟨m, hn, hm⟩ := J.loc
    obtain ⟨u, ru, lu⟩ := hm j x v e1 e2 (.inl e3)
    have e5 : m x = some u := by
      rcases lu with ⟨_, q⟩ | ⟨q, _⟩
      · exact q
      · have q' : scFake.names.lookup x = some .cell ∨ scFake.names.lookup x = some .free := q
        rw [e3] at q'
        rcases q' with q' | q' <;> cases q'
    exact wpAny_Name (wpAny_loadName_local rfl e4 hn e5 (hQ u ru)) hdb
  refine PySem.W.kxs_callWith (i := "ValueError.__init__") (x := a) (by rfl) (Calls.evalArgs_plain ?_)
  refine PyProof.Rows.args_cons (wpAny_JoinedStr ?_) rfl
  refine Calls.Constant_str ⟨_, _, rfl, (show (Str.empty ++ Str.ofString "unknown name: ").length ≤ sizeLine by decide +kernel), ?_⟩
  have I2 := I1.tok (s.toks + 2 + 1 + 1)
  refine wpAny_FormattedValue_plain (look 1 I2 rfl rfl rfl (by decide +kernel) (by decide) _ _ _ _ fun u ru => ?_)
  obtain ⟨tk2, rfl⟩ := ru
  have hz2 : z.length ≤ sizeLine := by rw [sizeLine_eq]; omega
  have hlen : ((Str.empty ++ Str.ofString "unknown name: ") ++ z).length ≤ sizeLine := by
    rw [PySem.Str.length_append, sizeLine_eq]
    have e : (Str.empty ++ (Str.ofString "unknown name: ")).length ≤ 100 := by decide +kernel
    omega
  have eu : L2.upd H a (exo a U none) = H := by
    funext b
    by_cases hb : b = a
    · rw [hb, upd_same, ea]
    · rw [upd_ne hb]
  have hC1 : (h1.push (PySem.W.kxs_mw "ValueError.__init__" a)).get? U = _ := Heap.get?_push_of_some _ (K1 _ _ hC)
  have he1 : (h1.push (PySem.W.kxs_mw "ValueError.__init__" a)).get? a = some (PySem.HandSPX.excO U t1) := Heap.get?_push_of_some _ (k1 _ _ ho0)
  refine wpAny_formatField_str ?_ ?_ hz2
  all_goals
    refine ⟨z, _, rfl, hlen, hlen, PyProof.Rows.args_nil ⟨hu1, ?_⟩⟩
    refine call_mw PySem.F.excBase_ValueError hu1 hC1 he1 (by show 1 ≤ sizeLine; decide) (fun h5 t5 k5 e5 => ?_)
    have J5 := I1.write (t' := s.toks + 2 + 1 + 1 + 1) (x := a) (e := a) (o := exo a U none) (by rw [ea]; exact True.intro) (.inl rfl) k5 ⟨_, e5⟩ (exo_ok e5)
    rw [eu] at J5
    have J6 := fun tk => J5.tok tk
    refine PySem.ks_wpAt_execs_cons (PySem.ks_wpAt_Assign_Attr (PySem.wpAt_of_wpAny (look 1 (J6 _) rfl rfl rfl (by decide +kernel) (by decide) _ _ _ _ fun u2 r2 => look 0 (J6 _) rfl rfl rfl (by decide +kernel) (by decide) _ _ _ _ fun u3 r3 => ?_)))
    obtain rfl : u3 = Value.ref a := r3
    refine ost_new TU (J6 _) ea hno r2 fun dx s' nd ne J' => ?_
    refine PySem.wpAt_of_wpAny (wpAny_pure ?_)
    exact ⟨.non, _, J'.os, J'.bare, J'.base, J'.hok, rfl, kq dx nd ne⟩
end
end W

set_option Elab.async false
set_option linter.all false
set_option maxRecDepth 100000
set_option maxHeartbeats 4000000
namespace W
open PySem PySem.Spec PyProof.Rows L2 GxR MyG MyS MyR
theorem exm_two {K : PySem.W.Frag} {A S : Addr} {b : Bool} (h1 : PySem.W.subIn K (.ref S) (.type "BaseException") = some true) (h2 : PySem.W.isClsIn K S = true) (h3 : PySem.W.typeIn K (.ref S) = some (.type "type")) (h4 : PySem.W.subIn K (.ref A) (.ref S) = some b) :
    PySem.W.exmOne K (.ref A) (.ref S) = some b := by
  have e1 : (PySem.W.subIn K (.ref S) (.type "BaseException") == some true) = true := by rw [h1]; rfl
  have e2 : ((PySem.W.clsIn K S).isSome && PySem.W.typeIn K (.ref S) == some (.type "type")) = true := by
    have q : (PySem.W.clsIn K S).isSome = true := h2
    rw [q, h3]; rfl
  show (if (PySem.W.subIn K (.ref S) (.type "BaseException") == some true) = true then (if ((PySem.W.clsIn K S).isSome && PySem.W.typeIn K (.ref S) == some (.type "type")) = true then PySem.W.subIn K (.ref A) (.ref S) else none) else none) = some b
  rw [if_pos e1, if_pos e2, h4]
theorem no_fly {P : Program} (w : World) (H : Hp) (s : Shared) (e : Value) (s' : Shared) (h : L2.CX P w [] H s (fun _ _ _ => False) e s') : False := by
  obtain ⟨_, _, _, _, _, _, _, _, _, _, _, _, q⟩ := h
  exact q
theorem all_mk {l : PySem.W.OpenLaw} {w : World} {K : PySem.W.Frag} {h : Heap} {mg : Str → Option Value} {fa fNm fDy fNa fDf fRs fRd fHr fBr fRw fNu fApl fBc fWn fWr fWt fWw fLn fLh fLr fLq fMp fDc fFi fCh fMk fFd fTb fOp fTu fWk fLw fCk fCp fRm fBa fWp fWR fWO fWP fOP fWB fOB fRn ppRn C OX fI M U fXU cdaXU ccXU R fXR cdaXR ccXR B P qN qWr PWr  D0 T0 T1 T2 : Addr} (X : K.In h) (G : h.Ns mainGlobals mg) (hfa : mg "law" = some (.ref fa)) (own : ∀ y ∈ ([("is_name" : Str), ("_without_whole_road" : Str)] : List Str), ∀ f, mg y = some (.ref f) → LamX.OwnTab K f h)
    {odNm anNm : Option Addr} {slNm : Array (Option Value)} {ocNm kVNm dcNm pmNm ctNm : Value}
    {odDy anDy : Option Addr} {slDy : Array (Option Value)} {ocDy kVDy dcDy pmDy cdDy ctDy : Value}
    {odNa anNa : Option Addr} {slNa : Array (Option Value)} {ocNa kVNa dcNa pmNa cdNa ctNa : Value}
    {odDf anDf : Option Addr} {slDf : Array (Option Value)} {ocDf kVDf dcDf pmDf cdDf ctDf : Value}
    {odRs anRs : Option Addr} {slRs : Array (Option Value)} {ocRs kVRs dcRs pmRs cdRs ctRs : Value}
    {odRd anRd : Option Addr} {slRd : Array (Option Value)} {ocRd kVRd dcRd pmRd cdRd ctRd : Value}
    {odHr anHr : Option Addr} {slHr : Array (Option Value)} {ocHr kVHr dcHr pmHr cdHr ctHr : Value}
    {odBr anBr : Option Addr} {slBr : Array (Option Value)} {ocBr kVBr dcBr pmBr cdBr ctBr : Value}
    {odRw anRw : Option Addr} {slRw : Array (Option Value)} {ocRw kVRw dcRw pmRw cdRw ctRw : Value}
    {odNu anNu : Option Addr} {slNu : Array (Option Value)} {ocNu kVNu dcNu pmNu cdNu ctNu : Value}
    {odApl anApl : Option Addr} {slApl : Array (Option Value)} {ocApl kVApl dcApl pmApl cdApl ctApl : Value}
    {odBc anBc : Option Addr} {slBc : Array (Option Value)} {ocBc kVBc dcBc pmBc cdBc ctBc : Value}
    {odWn anWn : Option Addr} {slWn : Array (Option Value)} {ocWn kVWn dcWn pmWn cdWn ctWn : Value}
    {odWr anWr : Option Addr} {slWr : Array (Option Value)} {ocWr kVWr dcWr pmWr ctWr : Value}
    {odWt anWt : Option Addr} {slWt : Array (Option Value)} {ocWt kVWt dcWt pmWt cdWt ctWt : Value}
    {odWw anWw : Option Addr} {slWw : Array (Option Value)} {ocWw kVWw dcWw pmWw cdWw ctWw : Value}
    {odLn anLn : Option Addr} {slLn : Array (Option Value)} {ocLn kVLn dcLn pmLn cdLn ctLn : Value}
    {odLh anLh : Option Addr} {slLh : Array (Option Value)} {ocLh kVLh dcLh pmLh cdLh ctLh : Value}
    {odLr anLr : Option Addr} {slLr : Array (Option Value)} {ocLr kVLr dcLr pmLr cdLr ctLr : Value}
    {odLq anLq : Option Addr} {slLq : Array (Option Value)} {ocLq kVLq dcLq pmLq cdLq ctLq : Value}
    {odMp anMp : Option Addr} {slMp : Array (Option Value)} {ocMp kVMp dcMp pmMp cdMp ctMp : Value}
    {odDc anDc : Option Addr} {slDc : Array (Option Value)} {ocDc kVDc dcDc pmDc cdDc ctDc : Value}
    {odFi anFi : Option Addr} {slFi : Array (Option Value)} {ocFi kVFi dcFi pmFi cdFi ctFi : Value}
    {odCh anCh : Option Addr} {slCh : Array (Option Value)} {ocCh kVCh dcCh pmCh cdCh ctCh : Value}
    {odMk anMk : Option Addr} {slMk : Array (Option Value)} {ocMk kVMk dcMk pmMk cdMk ctMk : Value}
    {odFd anFd : Option Addr} {slFd : Array (Option Value)} {ocFd kVFd dcFd pmFd cdFd ctFd : Value}
    {odTb anTb : Option Addr} {slTb : Array (Option Value)} {ocTb kVTb dcTb pmTb cdTb ctTb : Value}
    {odOp anOp : Option Addr} {slOp : Array (Option Value)} {ocOp kVOp dcOp pmOp cdOp ctOp : Value}
    {odTu anTu : Option Addr} {slTu : Array (Option Value)} {ocTu kVTu dcTu pmTu cdTu ctTu : Value}
    {odWk anWk : Option Addr} {slWk : Array (Option Value)} {ocWk kVWk dcWk pmWk cdWk ctWk : Value}
    {odLw anLw : Option Addr} {slLw : Array (Option Value)} {ocLw kVLw dcLw pmLw cdLw ctLw : Value}
    {odCk anCk : Option Addr} {slCk : Array (Option Value)} {ocCk kVCk dcCk pmCk cdCk ctCk : Value}
    {odCp anCp : Option Addr} {slCp : Array (Option Value)} {ocCp kVCp dcCp pmCp cdCp ctCp : Value}
    {odRm anRm : Option Addr} {slRm : Array (Option Value)} {ocRm kVRm dcRm pmRm cdRm ctRm : Value}
    {odBa anBa : Option Addr} {slBa : Array (Option Value)} {ocBa kVBa dcBa pmBa cdBa ctBa : Value}
    {odWp anWp : Option Addr} {slWp : Array (Option Value)} {ocWp kVWp dcWp pmWp cdWp ctWp : Value}
    {odWR anWR : Option Addr} {slWR : Array (Option Value)} {ocWR kVWR dcWR pmWR cdWR ctWR : Value}
    {odWO anWO : Option Addr} {slWO : Array (Option Value)} {ocWO kVWO dcWO pmWO cdWO ctWO : Value}
    {odWP anWP : Option Addr} {slWP : Array (Option Value)} {ocWP kVWP dcWP pmWP cdWP ctWP : Value}
    {odOP anOP : Option Addr} {slOP : Array (Option Value)} {ocOP kVOP dcOP pmOP cdOP ctOP : Value}
    {odWB anWB : Option Addr} {slWB : Array (Option Value)} {ocWB kVWB dcWB pmWB cdWB ctWB : Value}
    {odOB anOB : Option Addr} {slOB : Array (Option Value)} {ocOB kVOB dcOB pmOB cdOB ctOB : Value}
    {odRn anRn : Option Addr} {slRn : Array (Option Value)} {ocRn kVRn dcRn pmRn cdRn ctRn : Value}
    {rsRn : List Value}
    {eN : Value} {dN : Option Addr} {vsN : Array Value} {slcN : Array (Option Value)}
    {eWr : Value} {dWr : Option Addr} {vsWr : Array Value} {slcWr : Array (Option Value)}
    {odI anI : Option Addr} {slI : Array (Option Value)} {ocI dcI pmI cdI ctI : Value}
    {nmU qU : Str} {NU : Addr} {bsU bmU : List Value} {snU : List Str} {subU : List Value} {abU : Bool} {colU : Option Bool} {ddU : Option Addr} {x0U x1U x2U x3U x5U : Option Value}
    {odXU anXU cddXU cldXU : Option Addr} {slXU ccsXU cslXU : Array (Option Value)} {ocXU kVXU dcXU pmXU ctXU cclXU clXU : Value} {vsXU : Array Value} {fileXU : Str} {tfXU : Tok}
    {nmR qR : Str} {NR : Addr} {bsR bmR : List Value} {snR : List Str} {subR : List Value} {abR : Bool} {colR : Option Bool} {ddR : Option Addr} {x0R x1R x2R x3R x5R : Option Value}
    {odXR anXR cddXR cldXR : Option Addr} {slXR ccsXR cslXR : Array (Option Value)} {ocXR kVXR dcXR pmXR ctXR cclXR clXR : Value} {vsXR : Array Value} {fileXR : Str} {tfXR : Tok}
    {hF0 hF1 hF2 hF3 hF4 hF5 : Int} {tF0 tF1 tF2 tF3 tF4 tF5 tG0 tG1 tG2 tG3 tG4 tG5 : Tok} {nF : Nat}
    {t_LONGEST_NAME t_LONGEST_DAY t_MOST_PLACES t_MOST_KINDS t_MOST_ROADS t_MOST_MINUTES t_MOST_PAIRS t_MOST_BARS t_NAME t_START t_END t_MINUTES t_KINDS t_HOURS t_PARTS t_LETTERS t_DIGITS : Tok}
    (aM : PySem.W.nsIn K mainGlobals "Map" = some (some (.ref M)))
    (gU : PySem.W.nsIn K mainGlobals "UnknownName" = some (some (.ref U)))
    (gR : PySem.W.nsIn K mainGlobals "InvalidSet" = some (some (.ref R)))
    (gB : PySem.W.nsIn K mainGlobals "WaypapersError" = some (some (.ref B)))
    (aNm : PySem.W.nsIn K mainGlobals "is_name" = some (some (.ref fNm)))
    (lNm : K.lookup fNm = some ⟨ocNm, odNm, .func (PySem.W.fnOf "is_name" "is_name" (defArgs sIsName) (defBody sIsName) (defScope sIsName) .none kVNm dcNm pmNm anNm (.ref qN) ctNm), slNm⟩)
    (cNm : PySem.W.codeIn K (.ref qN) "is_name" = true)
    (kNm : PySem.W.keepIn K (.ref fNm) = true)
    (aDy : PySem.W.nsIn K mainGlobals "_checked_day" = some (some (.ref fDy)))
    (lDy : K.lookup fDy = some ⟨ocDy, odDy, .func (PySem.W.fnOf "_checked_day" "_checked_day" (defArgs sDay) (defBody sDay) (defScope sDay) .none kVDy dcDy pmDy anDy (cdDy) ctDy), slDy⟩)
    (cDy : PySem.W.codeIn K (cdDy) "_checked_day" = true)
    (kDy : PySem.W.keepIn K (.ref fDy) = true)
    (aNa : PySem.W.nsIn K mainGlobals "_checked_names" = some (some (.ref fNa)))
    (lNa : K.lookup fNa = some ⟨ocNa, odNa, .func (PySem.W.fnOf "_checked_names" "_checked_names" (defArgs sNames) (defBody sNames) (defScope sNames) .none kVNa dcNa pmNa anNa (cdNa) ctNa), slNa⟩)
    (cNa : PySem.W.codeIn K (cdNa) "_checked_names" = true)
    (kNa : PySem.W.keepIn K (.ref fNa) = true)
    (aDf : PySem.W.nsIn K mainGlobals "_check_different" = some (some (.ref fDf)))
    (lDf : K.lookup fDf = some ⟨ocDf, odDf, .func (PySem.W.fnOf "_check_different" "_check_different" (defArgs sDiff) (defBody sDiff) (defScope sDiff) .none kVDf dcDf pmDf anDf (cdDf) ctDf), slDf⟩)
    (cDf : PySem.W.codeIn K (cdDf) "_check_different" = true)
    (kDf : PySem.W.keepIn K (.ref fDf) = true)
    (aRs : PySem.W.nsIn K mainGlobals "_checked_roads" = some (some (.ref fRs)))
    (lRs : K.lookup fRs = some ⟨ocRs, odRs, .func (PySem.W.fnOf "_checked_roads" "_checked_roads" (defArgs sRoads) (defBody sRoads) (defScope sRoads) .none kVRs dcRs pmRs anRs (cdRs) ctRs), slRs⟩)
    (cRs : PySem.W.codeIn K (cdRs) "_checked_roads" = true)
    (kRs : PySem.W.keepIn K (.ref fRs) = true)
    (aRd : PySem.W.nsIn K mainGlobals "_checked_road" = some (some (.ref fRd)))
    (lRd : K.lookup fRd = some ⟨ocRd, odRd, .func (PySem.W.fnOf "_checked_road" "_checked_road" (defArgs sRoad) (defBody sRoad) (defScope sRoad) .none kVRd dcRd pmRd anRd (cdRd) ctRd), slRd⟩)
    (cRd : PySem.W.codeIn K (cdRd) "_checked_road" = true)
    (kRd : PySem.W.keepIn K (.ref fRd) = true)
    (aHr : PySem.W.nsIn K mainGlobals "_checked_hours" = some (some (.ref fHr)))
    (lHr : K.lookup fHr = some ⟨ocHr, odHr, .func (PySem.W.fnOf "_checked_hours" "_checked_hours" (defArgs sHours) (defBody sHours) (defScope sHours) .none kVHr dcHr pmHr anHr (cdHr) ctHr), slHr⟩)
    (cHr : PySem.W.codeIn K (cdHr) "_checked_hours" = true)
    (kHr : PySem.W.keepIn K (.ref fHr) = true)
    (aBr : PySem.W.nsIn K mainGlobals "_checked_bars" = some (some (.ref fBr)))
    (lBr : K.lookup fBr = some ⟨ocBr, odBr, .func (PySem.W.fnOf "_checked_bars" "_checked_bars" (defArgs sBars) (defBody sBars) (defScope sBars) .none kVBr dcBr pmBr anBr (cdBr) ctBr), slBr⟩)
    (cBr : PySem.W.codeIn K (cdBr) "_checked_bars" = true)
    (kBr : PySem.W.keepIn K (.ref fBr) = true)
    (aRw : PySem.W.nsIn K mainGlobals "_law_row" = some (some (.ref fRw)))
    (lRw : K.lookup fRw = some ⟨ocRw, odRw, .func (PySem.W.fnOf "_law_row" "_law_row" (defArgs sRow) (defBody sRow) (defScope sRow) .none kVRw dcRw pmRw anRw (cdRw) ctRw), slRw⟩)
    (cRw : PySem.W.codeIn K (cdRw) "_law_row" = true)
    (kRw : PySem.W.keepIn K (.ref fRw) = true)
    (aNu : PySem.W.nsIn K mainGlobals "_law_numbers" = some (some (.ref fNu)))
    (lNu : K.lookup fNu = some ⟨ocNu, odNu, .func (PySem.W.fnOf "_law_numbers" "_law_numbers" (defArgs sNumbers) (defBody sNumbers) (defScope sNumbers) .none kVNu dcNu pmNu anNu (cdNu) ctNu), slNu⟩)
    (cNu : PySem.W.codeIn K (cdNu) "_law_numbers" = true)
    (kNu : PySem.W.keepIn K (.ref fNu) = true)
    (aApl : PySem.W.nsIn K mainGlobals "applied" = some (some (.ref fApl)))
    (lApl : K.lookup fApl = some ⟨ocApl, odApl, .func (PySem.W.fnOf "applied" "applied" (defArgs sApl) (defBody sApl) (defScope sApl) .none kVApl dcApl pmApl anApl (cdApl) ctApl), slApl⟩)
    (cApl : PySem.W.codeIn K (cdApl) "applied" = true)
    (kApl : PySem.W.keepIn K (.ref fApl) = true)
    (aBc : PySem.W.nsIn K mainGlobals "_behind_change" = some (some (.ref fBc)))
    (lBc : K.lookup fBc = some ⟨ocBc, odBc, .func (PySem.W.fnOf "_behind_change" "_behind_change" (defArgs sBc) (defBody sBc) (defScope sBc) .none kVBc dcBc pmBc anBc (cdBc) ctBc), slBc⟩)
    (cBc : PySem.W.codeIn K (cdBc) "_behind_change" = true)
    (kBc : PySem.W.keepIn K (.ref fBc) = true)
    (aWn : PySem.W.nsIn K mainGlobals "_with_new_road" = some (some (.ref fWn)))
    (lWn : K.lookup fWn = some ⟨ocWn, odWn, .func (PySem.W.fnOf "_with_new_road" "_with_new_road" (defArgs sWn) (defBody sWn) (defScope sWn) .none kVWn dcWn pmWn anWn (cdWn) ctWn), slWn⟩)
    (cWn : PySem.W.codeIn K (cdWn) "_with_new_road" = true)
    (kWn : PySem.W.keepIn K (.ref fWn) = true)
    (aWr : PySem.W.nsIn K mainGlobals "_without_whole_road" = some (some (.ref fWr)))
    (lWr : K.lookup fWr = some ⟨ocWr, odWr, .func (PySem.W.fnOf "_without_whole_road" "_without_whole_road" (defArgs sWr) (defBody sWr) (defScope sWr) .none kVWr dcWr pmWr anWr (.ref qWr) ctWr), slWr⟩)
    (cWr : PySem.W.codeIn K (.ref qWr) "_without_whole_road" = true)
    (kWr : PySem.W.keepIn K (.ref fWr) = true)
    (aWt : PySem.W.nsIn K mainGlobals "_with_part" = some (some (.ref fWt)))
    (lWt : K.lookup fWt = some ⟨ocWt, odWt, .func (PySem.W.fnOf "_with_part" "_with_part" (defArgs sWt) (defBody sWt) (defScope sWt) .none kVWt dcWt pmWt anWt (cdWt) ctWt), slWt⟩)
    (cWt : PySem.W.codeIn K (cdWt) "_with_part" = true)
    (kWt : PySem.W.keepIn K (.ref fWt) = true)
    (aWw : PySem.W.nsIn K mainGlobals "_with_written_road" = some (some (.ref fWw)))
    (lWw : K.lookup fWw = some ⟨ocWw, odWw, .func (PySem.W.fnOf "_with_written_road" "_with_written_road" (defArgs sWw) (defBody sWw) (defScope sWw) .none kVWw dcWw pmWw anWw (cdWw) ctWw), slWw⟩)
    (cWw : PySem.W.codeIn K (cdWw) "_with_written_road" = true)
    (kWw : PySem.W.keepIn K (.ref fWw) = true)
    (aLn : PySem.W.nsIn K mainGlobals "_law_names" = some (some (.ref fLn)))
    (lLn : K.lookup fLn = some ⟨ocLn, odLn, .func (PySem.W.fnOf "_law_names" "_law_names" (defArgs sLNames) (defBody sLNames) (defScope sLNames) .none kVLn dcLn pmLn anLn (cdLn) ctLn), slLn⟩)
    (cLn : PySem.W.codeIn K (cdLn) "_law_names" = true)
    (kLn : PySem.W.keepIn K (.ref fLn) = true)
    (aLh : PySem.W.nsIn K mainGlobals "_law_hours" = some (some (.ref fLh)))
    (lLh : K.lookup fLh = some ⟨ocLh, odLh, .func (PySem.W.fnOf "_law_hours" "_law_hours" (defArgs sLHours) (defBody sLHours) (defScope sLHours) .none kVLh dcLh pmLh anLh (cdLh) ctLh), slLh⟩)
    (cLh : PySem.W.codeIn K (cdLh) "_law_hours" = true)
    (kLh : PySem.W.keepIn K (.ref fLh) = true)
    (aLr : PySem.W.nsIn K mainGlobals "_law_road" = some (some (.ref fLr)))
    (lLr : K.lookup fLr = some ⟨ocLr, odLr, .func (PySem.W.fnOf "_law_road" "_law_road" (defArgs sLRoadG) (defBody sLRoadG) (defScope sLRoadG) .none kVLr dcLr pmLr anLr (cdLr) ctLr), slLr⟩)
    (cLr : PySem.W.codeIn K (cdLr) "_law_road" = true)
    (kLr : PySem.W.keepIn K (.ref fLr) = true)
    (aLq : PySem.W.nsIn K mainGlobals "_law_bars" = some (some (.ref fLq)))
    (lLq : K.lookup fLq = some ⟨ocLq, odLq, .func (PySem.W.fnOf "_law_bars" "_law_bars" (defArgs sLBarsG) (defBody sLBarsG) (defScope sLBarsG) .none kVLq dcLq pmLq anLq (cdLq) ctLq), slLq⟩)
    (cLq : PySem.W.codeIn K (cdLq) "_law_bars" = true)
    (kLq : PySem.W.keepIn K (.ref fLq) = true)
    (aMp : PySem.W.nsIn K mainGlobals "_law_parts" = some (some (.ref fMp)))
    (lMp : K.lookup fMp = some ⟨ocMp, odMp, .func (PySem.W.fnOf "_law_parts" "_law_parts" (defArgs sLPartsG) (defBody sLPartsG) (defScope sLPartsG) .none kVMp dcMp pmMp anMp (cdMp) ctMp), slMp⟩)
    (cMp : PySem.W.codeIn K (cdMp) "_law_parts" = true)
    (kMp : PySem.W.keepIn K (.ref fMp) = true)
    (aDc : PySem.W.nsIn K mainGlobals "_law_drawn_change" = some (some (.ref fDc)))
    (lDc : K.lookup fDc = some ⟨ocDc, odDc, .func (PySem.W.fnOf "_law_drawn_change" "_law_drawn_change" (defArgs sDc) (defBody sDc) (defScope sDc) .none kVDc dcDc pmDc anDc (cdDc) ctDc), slDc⟩)
    (cDc : PySem.W.codeIn K (cdDc) "_law_drawn_change" = true)
    (kDc : PySem.W.keepIn K (.ref fDc) = true)
    (aFi : PySem.W.nsIn K mainGlobals "_law_fits_road" = some (some (.ref fFi)))
    (lFi : K.lookup fFi = some ⟨ocFi, odFi, .func (PySem.W.fnOf "_law_fits_road" "_law_fits_road" (defArgs sFi) (defBody sFi) (defScope sFi) .none kVFi dcFi pmFi anFi (cdFi) ctFi), slFi⟩)
    (cFi : PySem.W.codeIn K (cdFi) "_law_fits_road" = true)
    (kFi : PySem.W.keepIn K (.ref fFi) = true)
    (aCh : PySem.W.nsIn K mainGlobals "_law_changed" = some (some (.ref fCh)))
    (lCh : K.lookup fCh = some ⟨ocCh, odCh, .func (PySem.W.fnOf "_law_changed" "_law_changed" (defArgs sCh) (defBody sCh) (defScope sCh) .none kVCh dcCh pmCh anCh (cdCh) ctCh), slCh⟩)
    (cCh : PySem.W.codeIn K (cdCh) "_law_changed" = true)
    (kCh : PySem.W.keepIn K (.ref fCh) = true)
    (aMk : PySem.W.nsIn K mainGlobals "_law_make" = some (some (.ref fMk)))
    (lMk : K.lookup fMk = some ⟨ocMk, odMk, .func (PySem.W.fnOf "_law_make" "_law_make" (defArgs sMk) (defBody sMk) (defScope sMk) .none kVMk dcMk pmMk anMk (cdMk) ctMk), slMk⟩)
    (cMk : PySem.W.codeIn K (cdMk) "_law_make" = true)
    (kMk : PySem.W.keepIn K (.ref fMk) = true)
    (aFd : PySem.W.nsIn K mainGlobals "_law_fields" = some (some (.ref fFd)))
    (lFd : K.lookup fFd = some ⟨ocFd, odFd, .func (PySem.W.fnOf "_law_fields" "_law_fields" (defArgs sFd) (defBody sFd) (defScope sFd) .none kVFd dcFd pmFd anFd (cdFd) ctFd), slFd⟩)
    (cFd : PySem.W.codeIn K (cdFd) "_law_fields" = true)
    (kFd : PySem.W.keepIn K (.ref fFd) = true)
    (aTb : PySem.W.nsIn K mainGlobals "taken_back" = some (some (.ref fTb)))
    (lTb : K.lookup fTb = some ⟨ocTb, odTb, .func (PySem.W.fnOf "taken_back" "taken_back" (defArgs sTb) (defBody sTb) (defScope sTb) .none kVTb dcTb pmTb anTb (cdTb) ctTb), slTb⟩)
    (cTb : PySem.W.codeIn K (cdTb) "taken_back" = true)
    (kTb : PySem.W.keepIn K (.ref fTb) = true)
    (aOp : PySem.W.nsIn K mainGlobals "_opposite" = some (some (.ref fOp)))
    (lOp : K.lookup fOp = some ⟨ocOp, odOp, .func (PySem.W.fnOf "_opposite" "_opposite" (defArgs sOp) (defBody sOp) (defScope sOp) .none kVOp dcOp pmOp anOp (cdOp) ctOp), slOp⟩)
    (cOp : PySem.W.codeIn K (cdOp) "_opposite" = true)
    (kOp : PySem.W.keepIn K (.ref fOp) = true)
    (aTu : PySem.W.nsIn K mainGlobals "_law_turned" = some (some (.ref fTu)))
    (lTu : K.lookup fTu = some ⟨ocTu, odTu, .func (PySem.W.fnOf "_law_turned" "_law_turned" (defArgs sTu) (defBody sTu) (defScope sTu) .none kVTu dcTu pmTu anTu (cdTu) ctTu), slTu⟩)
    (cTu : PySem.W.codeIn K (cdTu) "_law_turned" = true)
    (kTu : PySem.W.keepIn K (.ref fTu) = true)
    (aWk : PySem.W.nsIn K mainGlobals "_law_walked" = some (some (.ref fWk)))
    (lWk : K.lookup fWk = some ⟨ocWk, odWk, .func (PySem.W.fnOf "_law_walked" "_law_walked" (defArgs sWk) (defBody sWk) (defScope sWk) .none kVWk dcWk pmWk anWk (cdWk) ctWk), slWk⟩)
    (cWk : PySem.W.codeIn K (cdWk) "_law_walked" = true)
    (kWk : PySem.W.keepIn K (.ref fWk) = true)
    (aLw : PySem.W.nsIn K mainGlobals "law" = some (some (.ref fLw)))
    (lLw : K.lookup fLw = some ⟨ocLw, odLw, .func (PySem.W.fnOf "law" "law" (defArgs sLaw) (defBody sLaw) (defScope sLaw) .none kVLw dcLw pmLw anLw (cdLw) ctLw), slLw⟩)
    (cLw : PySem.W.codeIn K (cdLw) "law" = true)
    (kLw : PySem.W.keepIn K (.ref fLw) = true)
    (aCk : PySem.W.findIn K (.ref M) "check_road" = some (some (.ref fCk)))
    (iCk : PySem.W.isFn K (.ref fCk) = true)
    (lCk : K.lookup fCk = some ⟨ocCk, odCk, .func (PySem.W.fnOf "check_road" "Map.check_road" (defArgs sCheck) (defBody sCheck) (defScope sCheck) .none kVCk dcCk pmCk anCk (cdCk) ctCk), slCk⟩)
    (cCk : PySem.W.codeIn K (cdCk) "Map.check_road" = true)
    (kCk : PySem.W.keepIn K (.ref fCk) = true)
    (aCp : PySem.W.findIn K (.ref M) "check_place" = some (some (.ref fCp)))
    (iCp : PySem.W.isFn K (.ref fCp) = true)
    (lCp : K.lookup fCp = some ⟨ocCp, odCp, .func (PySem.W.fnOf "check_place" "Map.check_place" (defArgs sCheckP) (defBody sCheckP) (defScope sCheckP) .none kVCp dcCp pmCp anCp (cdCp) ctCp), slCp⟩)
    (cCp : PySem.W.codeIn K (cdCp) "Map.check_place" = true)
    (kCp : PySem.W.keepIn K (.ref fCp) = true)
    (aRm : PySem.W.findIn K (.ref M) "road" = some (some (.ref fRm)))
    (iRm : PySem.W.isFn K (.ref fRm) = true)
    (lRm : K.lookup fRm = some ⟨ocRm, odRm, .func (PySem.W.fnOf "road" "Map.road" (defArgs sRoadM) (defBody sRoadM) (defScope sRoadM) .none kVRm dcRm pmRm anRm (cdRm) ctRm), slRm⟩)
    (cRm : PySem.W.codeIn K (cdRm) "Map.road" = true)
    (kRm : PySem.W.keepIn K (.ref fRm) = true)
    (aBa : PySem.W.findIn K (.ref M) "is_barred" = some (some (.ref fBa)))
    (iBa : PySem.W.isFn K (.ref fBa) = true)
    (lBa : K.lookup fBa = some ⟨ocBa, odBa, .func (PySem.W.fnOf "is_barred" "Map.is_barred" (defArgs sBarred) (defBody sBarred) (defScope sBarred) .none kVBa dcBa pmBa anBa (cdBa) ctBa), slBa⟩)
    (cBa : PySem.W.codeIn K (cdBa) "Map.is_barred" = true)
    (kBa : PySem.W.keepIn K (.ref fBa) = true)
    (aWp : PySem.W.findIn K (.ref M) "_with_parts" = some (some (.ref fWp)))
    (iWp : PySem.W.isFn K (.ref fWp) = true)
    (lWp : K.lookup fWp = some ⟨ocWp, odWp, .func (PySem.W.fnOf "_with_parts" "Map._with_parts" (defArgs sWithP) (defBody sWithP) (defScope sWithP) .none kVWp dcWp pmWp anWp (cdWp) ctWp), slWp⟩)
    (cWp : PySem.W.codeIn K (cdWp) "Map._with_parts" = true)
    (kWp : PySem.W.keepIn K (.ref fWp) = true)
    (aWR : PySem.W.findIn K (.ref M) "with_road" = some (some (.ref fWR)))
    (iWR : PySem.W.isFn K (.ref fWR) = true)
    (lWR : K.lookup fWR = some ⟨ocWR, odWR, .func (PySem.W.fnOf "with_road" "Map.with_road" (defArgs sWithR) (defBody sWithR) (defScope sWithR) .none kVWR dcWR pmWR anWR (cdWR) ctWR), slWR⟩)
    (cWR : PySem.W.codeIn K (cdWR) "Map.with_road" = true)
    (kWR : PySem.W.keepIn K (.ref fWR) = true)
    (aWO : PySem.W.findIn K (.ref M) "without_road" = some (some (.ref fWO)))
    (iWO : PySem.W.isFn K (.ref fWO) = true)
    (lWO : K.lookup fWO = some ⟨ocWO, odWO, .func (PySem.W.fnOf "without_road" "Map.without_road" (defArgs sWithoutR) (defBody sWithoutR) (defScope sWithoutR) .none kVWO dcWO pmWO anWO (cdWO) ctWO), slWO⟩)
    (cWO : PySem.W.codeIn K (cdWO) "Map.without_road" = true)
    (kWO : PySem.W.keepIn K (.ref fWO) = true)
    (aWP : PySem.W.findIn K (.ref M) "with_place" = some (some (.ref fWP)))
    (iWP : PySem.W.isFn K (.ref fWP) = true)
    (lWP : K.lookup fWP = some ⟨ocWP, odWP, .func (PySem.W.fnOf "with_place" "Map.with_place" (defArgs sWithPl) (defBody sWithPl) (defScope sWithPl) .none kVWP dcWP pmWP anWP (cdWP) ctWP), slWP⟩)
    (cWP : PySem.W.codeIn K (cdWP) "Map.with_place" = true)
    (kWP : PySem.W.keepIn K (.ref fWP) = true)
    (aOP : PySem.W.findIn K (.ref M) "without_place" = some (some (.ref fOP)))
    (iOP : PySem.W.isFn K (.ref fOP) = true)
    (lOP : K.lookup fOP = some ⟨ocOP, odOP, .func (PySem.W.fnOf "without_place" "Map.without_place" (defArgs sWoutPl) (defBody sWoutPl) (defScope sWoutPl) .none kVOP dcOP pmOP anOP (cdOP) ctOP), slOP⟩)
    (cOP : PySem.W.codeIn K (cdOP) "Map.without_place" = true)
    (kOP : PySem.W.keepIn K (.ref fOP) = true)
    (aWB : PySem.W.findIn K (.ref M) "with_bar" = some (some (.ref fWB)))
    (iWB : PySem.W.isFn K (.ref fWB) = true)
    (lWB : K.lookup fWB = some ⟨ocWB, odWB, .func (PySem.W.fnOf "with_bar" "Map.with_bar" (defArgs sWithB) (defBody sWithB) (defScope sWithB) .none kVWB dcWB pmWB anWB (cdWB) ctWB), slWB⟩)
    (cWB : PySem.W.codeIn K (cdWB) "Map.with_bar" = true)
    (kWB : PySem.W.keepIn K (.ref fWB) = true)
    (aOB : PySem.W.findIn K (.ref M) "without_bar" = some (some (.ref fOB)))
    (iOB : PySem.W.isFn K (.ref fOB) = true)
    (lOB : K.lookup fOB = some ⟨ocOB, odOB, .func (PySem.W.fnOf "without_bar" "Map.without_bar" (defArgs sWoutB) (defBody sWoutB) (defScope sWoutB) .none kVOB dcOB pmOB anOB (cdOB) ctOB), slOB⟩)
    (cOB : PySem.W.codeIn K (cdOB) "Map.without_bar" = true)
    (kOB : PySem.W.keepIn K (.ref fOB) = true)
    (aRn : PySem.W.findIn K (.ref M) "road_names" = some (some (.ref ppRn)))
    (pgRn : PySem.W.specialIn K (.ref ppRn) "__get__" = some (some (.builtin "property.__get__")))
    (tkRn : PySem.W.takesIn K (.ref ppRn) = some true)
    (rcRn : PySem.W.recIn K ppRn "property" = some (.ref fRn :: rsRn))
    (lRn : K.lookup fRn = some ⟨ocRn, odRn, .func (PySem.W.fnOf "road_names" "Map.road_names" (defArgs sRNames) (defBody sRNames) (defScope sRNames) .none kVRn dcRn pmRn anRn (cdRn) ctRn), slRn⟩)
    (cRn : PySem.W.codeIn K (cdRn) "Map.road_names" = true)
    (kRn : PySem.W.keepIn K (.ref fRn) = true)
    (lcN : K.lookup qN = some ⟨eN, dN, .fields vsN, slcN⟩)
    (v11 : vsN[11]? = some (.ref P))
    (hcN : PySem.W.codeHdIn K qN P = true)
    (nP : K.lookup P = none)
    (lcWr : K.lookup qWr = some ⟨eWr, dWr, .fields vsWr, slcWr⟩)
    (v11Wr : vsWr[11]? = some (.ref PWr))
    (hcWr : PySem.W.codeHdIn K qWr PWr = true)
    (nPWr : K.lookup PWr = none)
    (aI : PySem.W.findIn K (.ref M) "__init__" = some (some (.ref fI)))
    (iI : PySem.W.isFn K (.ref fI) = true)
    (lI : K.lookup fI = some ⟨ocI, odI, .func (PySem.W.fnOf "__init__" "Map.__init__" (defArgs sInit) (defBody sInit) (defScope sInit) .none (.ref D0) dcI pmI anI cdI ctI), slI⟩)
    (cI : PySem.W.codeIn K cdI "Map.__init__" = true)
    (kI : PySem.W.keepIn K (.ref fI) = true)
    (d_places : PySem.W.nsIn K D0 "places" = some (some (.ref T1)))
    (d_roads : PySem.W.nsIn K D0 "roads" = some (some (.ref T2)))
    (d_bars : PySem.W.nsIn K D0 "bars" = some (some (.ref T0)))
    (pg : PySem.W.plainGet K M Str.empty = true)
    (hd : PySem.W.hasDictIn K M = true)
    (po : PySem.W.plainOver K M = true)
    (sa : PySem.W.findIn K (.ref M) "__setattr__" = some (some (.builtin "object.__setattr__")))
    (mk : PySem.W.makesIn K M = true)
    (kM : PySem.W.keepIn K (.ref M) = true)
    (n_day : PySem.W.findIn K (.ref M) "day" = some none)
    (n_kinds : PySem.W.findIn K (.ref M) "kinds" = some none)
    (n_places : PySem.W.findIn K (.ref M) "places" = some none)
    (n_roads : PySem.W.findIn K (.ref M) "roads" = some none)
    (n__roads_by_name : PySem.W.findIn K (.ref M) "_roads_by_name" = some none)
    (n_bars : PySem.W.findIn K (.ref M) "bars" = some none)
    (n__barred : PySem.W.findIn K (.ref M) "_barred" = some none)
    (snU1 : PySem.W.specialIn K (.builtin "object.__class__") "__get__" = some (some (.builtin "getset_descriptor.__get__")))
    (tkU : PySem.W.takesIn K (.builtin "object.__class__") = some true)
    (opU : PySem.W.nsIn K cStatics "thirdparty.any" = some none)
    (toX : (l.prog.main.scope.names.lookup ("super" : Str)).isSome = false)
    (lU : K.lookup U = some (excClassObj nmU qU U NU bsU bmU true snU subU abU colU ddU x0U x1U x2U x3U x5U "ValueError.__new__"))
    (rvU : PySem.HandSPX.refsVE bmU = true)
    (saU : PySem.W.findIn K (.ref U) "__setattr__" = some (some (.builtin "object.__setattr__")))
    (bU : PySem.W.subIn K (.ref U) (.type "BaseException") = some true)
    (tU : PySem.W.typeIn K (.ref U) = some (.type "type"))
    (kU : PySem.W.keepIn K (.ref U) = true)
    (iU : PySem.W.isClsIn K U = true)
    (sU : PySem.W.subIn K (.ref U) (.ref U) = some true)
    (xU : xfB K U = true)
    (clU : (PySem.W.clsIn K U).isSome = true)
    (gaU : PySem.W.findIn K (.ref U) "__getattribute__" = some (some (.builtin "BaseException.__getattribute__")))
    (ggU : PySem.W.findIn K (.ref U) "__getattr__" = some none)
    (ccU : PySem.W.findIn K (.ref U) "__class__" = some (some (.builtin "object.__class__")))
    (moU : PySem.W.mroIn K U (.type "object") = some true)
    (muU : PySem.W.mroIn K U (.ref U) = some true)
    (suU : PySem.W.ks_superIn K U U "__init__" = some (some (.builtin "ValueError.__init__")))
    (svU : PySem.W.subIn K (.ref U) (.type "ValueError") = some true)
    (nnU : PySem.W.findIn K (.ref U) "name" = some none)
    (aXU : PySem.W.findIn K (.ref U) "__init__" = some (some (.ref fXU)))
    (tXU : PySem.W.typeIn K (.ref fXU) = some (.type "function"))
    (lXU : K.lookup fXU = some ⟨ocXU, odXU, .func (fdU .none kVXU dcXU pmXU anXU cdaXU ctXU ccXU), slXU⟩)
    (cXU : PySem.W.codeIn K (.ref cdaXU) "UnknownName.__init__" = true)
    (coXU : K.lookup cdaXU = some ⟨cclXU, cddXU, .fields vsXU, ccsXU⟩)
    (v2XU : vsXU[2]? = some (.str fileXU tfXU))
    (fiXU : ((l.prog.main.file : Str) == fileXU) = true)
    (ceXU : K.lookup ccXU = some ⟨clXU, cldXU, .cell (some (.ref U)), cslXU⟩)
    (lR : K.lookup R = some (excClassObj nmR qR R NR bsR bmR true snR subR abR colR ddR x0R x1R x2R x3R x5R "ValueError.__new__"))
    (rvR : PySem.HandSPX.refsVE bmR = true)
    (saR : PySem.W.findIn K (.ref R) "__setattr__" = some (some (.builtin "object.__setattr__")))
    (bR : PySem.W.subIn K (.ref R) (.type "BaseException") = some true)
    (tR : PySem.W.typeIn K (.ref R) = some (.type "type"))
    (kR : PySem.W.keepIn K (.ref R) = true)
    (iR : PySem.W.isClsIn K R = true)
    (sR : PySem.W.subIn K (.ref R) (.ref R) = some true)
    (xR : xfB K R = true)
    (clR : (PySem.W.clsIn K R).isSome = true)
    (gaR : PySem.W.findIn K (.ref R) "__getattribute__" = some (some (.builtin "BaseException.__getattribute__")))
    (ggR : PySem.W.findIn K (.ref R) "__getattr__" = some none)
    (ccR : PySem.W.findIn K (.ref R) "__class__" = some (some (.builtin "object.__class__")))
    (moR : PySem.W.mroIn K R (.type "object") = some true)
    (muR : PySem.W.mroIn K R (.ref R) = some true)
    (suR : PySem.W.ks_superIn K R R "__init__" = some (some (.builtin "ValueError.__init__")))
    (svR : PySem.W.subIn K (.ref R) (.type "ValueError") = some true)
    (nnR : PySem.W.findIn K (.ref R) "number" = some none)
    (aXR : PySem.W.findIn K (.ref R) "__init__" = some (some (.ref fXR)))
    (tXR : PySem.W.typeIn K (.ref fXR) = some (.type "function"))
    (lXR : K.lookup fXR = some ⟨ocXR, odXR, .func (fdIS .none kVXR dcXR pmXR anXR cdaXR ctXR ccXR), slXR⟩)
    (cXR : PySem.W.codeIn K (.ref cdaXR) "InvalidSet.__init__" = true)
    (coXR : K.lookup cdaXR = some ⟨cclXR, cddXR, .fields vsXR, ccsXR⟩)
    (v2XR : vsXR[2]? = some (.str fileXR tfXR))
    (fiXR : ((l.prog.main.file : Str) == fileXR) = true)
    (ceXR : K.lookup ccXR = some ⟨clXR, cldXR, .cell (some (.ref R)), cslXR⟩)
    (gOX : PySem.W.nsIn K mainGlobals "OPPOSITES" = some (some (.ref OX)))
    (lOX : K.lookup OX = some ⟨.type "dict", none, .dict #[⟨hF0, .str "place" tF0, .str "unplace" tG0⟩, ⟨hF1, .str "unplace" tF1, .str "place" tG1⟩, ⟨hF2, .str "road" tF2, .str "unroad" tG2⟩, ⟨hF3, .str "unroad" tF3, .str "road" tG3⟩, ⟨hF4, .str "bar" tF4, .str "unbar" tG4⟩, ⟨hF5, .str "unbar" tF5, .str "bar" tG5⟩] nF, #[]⟩)
    (kOX : PySem.W.KeysLit w.params [⟨hF0, .str "place" tF0, .str "unplace" tG0⟩, ⟨hF1, .str "unplace" tF1, .str "place" tG1⟩, ⟨hF2, .str "road" tF2, .str "unroad" tG2⟩, ⟨hF3, .str "unroad" tF3, .str "road" tG3⟩, ⟨hF4, .str "bar" tF4, .str "unbar" tG4⟩, ⟨hF5, .str "unbar" tF5, .str "bar" tG5⟩])
    (sOX : (OX == sysModules) = false)
    (gC : PySem.W.nsIn K mainGlobals "InvalidMap" = some (some (.ref C)))
    (xC : PySem.W.excIn K C [.type "ValueError", .type "Exception", .type "BaseException", .type "object"] "ValueError.__new__" = true)
    (kC : PySem.W.keepIn K (.ref C) = true)
    (bC : PySem.W.subIn K (.ref C) (.type "BaseException") = some true)
    (tC : PySem.W.typeIn K (.ref C) = some (.type "type"))
    (iC : PySem.W.isClsIn K C = true)
    (sC : PySem.W.subIn K (.ref C) (.ref C) = some true)
    (sCU : PySem.W.subIn K (.ref C) (.ref U) = some false)
    (sUC : PySem.W.subIn K (.ref U) (.ref C) = some false)
    (g_LONGEST_NAME : PySem.W.nsIn K mainGlobals "LONGEST_NAME" = some (some (.int 12 t_LONGEST_NAME)))
    (g_LONGEST_DAY : PySem.W.nsIn K mainGlobals "LONGEST_DAY" = some (some (.int 1440 t_LONGEST_DAY)))
    (g_MOST_PLACES : PySem.W.nsIn K mainGlobals "MOST_PLACES" = some (some (.int 30 t_MOST_PLACES)))
    (g_MOST_KINDS : PySem.W.nsIn K mainGlobals "MOST_KINDS" = some (some (.int 4 t_MOST_KINDS)))
    (g_MOST_ROADS : PySem.W.nsIn K mainGlobals "MOST_ROADS" = some (some (.int 60 t_MOST_ROADS)))
    (g_MOST_MINUTES : PySem.W.nsIn K mainGlobals "MOST_MINUTES" = some (some (.int 1000 t_MOST_MINUTES)))
    (g_MOST_PAIRS : PySem.W.nsIn K mainGlobals "MOST_PAIRS" = some (some (.int 4 t_MOST_PAIRS)))
    (g_MOST_BARS : PySem.W.nsIn K mainGlobals "MOST_BARS" = some (some (.int 40 t_MOST_BARS)))
    (g_NAME : PySem.W.nsIn K mainGlobals "NAME" = some (some (.int 0 t_NAME)))
    (g_START : PySem.W.nsIn K mainGlobals "START" = some (some (.int 1 t_START)))
    (g_END : PySem.W.nsIn K mainGlobals "END" = some (some (.int 2 t_END)))
    (g_MINUTES : PySem.W.nsIn K mainGlobals "MINUTES" = some (some (.int 3 t_MINUTES)))
    (g_KINDS : PySem.W.nsIn K mainGlobals "KINDS" = some (some (.int 4 t_KINDS)))
    (g_HOURS : PySem.W.nsIn K mainGlobals "HOURS" = some (some (.int 5 t_HOURS)))
    (g_PARTS : PySem.W.nsIn K mainGlobals "PARTS" = some (some (.int 6 t_PARTS)))
    (g_LETTERS : PySem.W.nsIn K mainGlobals "LETTERS" = some (some (.str zLet t_LETTERS)))
    (g_DIGITS : PySem.W.nsIn K mainGlobals "DIGITS" = some (some (.str zDig t_DIGITS)))
    (z_isinstance : PySem.W.nsIn K mainGlobals "isinstance" = some none)
    (z_reversed : PySem.W.nsIn K mainGlobals "reversed" = some none)
    (z_len : PySem.W.nsIn K mainGlobals "len" = some none)
    (z_all : PySem.W.nsIn K mainGlobals "all" = some none)
    (z_any : PySem.W.nsIn K mainGlobals "any" = some none)
    (z_set : PySem.W.nsIn K mainGlobals "set" = some none)
    (z_tuple : PySem.W.nsIn K mainGlobals "tuple" = some none)
    (z_list : PySem.W.nsIn K mainGlobals "list" = some none)
    (z_sorted : PySem.W.nsIn K mainGlobals "sorted" = some none)
    (z_abs : PySem.W.nsIn K mainGlobals "abs" = some none)
    (z_int : PySem.W.nsIn K mainGlobals "int" = some none)
    (z_range : PySem.W.nsIn K mainGlobals "range" = some none)
    (z_max : PySem.W.nsIn K mainGlobals "max" = some none)
    (z_min : PySem.W.nsIn K mainGlobals "min" = some none)
    (z_super : PySem.W.nsIn K mainGlobals "super" = some none)
    (z_enumerate : PySem.W.nsIn K mainGlobals "enumerate" = some none) :
    LawL l w K (L2.CX l.prog w) 63 mg fa h := by
  have e := hfa.symm.trans (PySem.W.mg_of X G aLw)
  cases e
  have FNm := fun_mk (st := sIsName) lNm cNm kNm
  have bNm := FNm.binds (ps := ["text"]) fun _ _ _ _ _ _ us hl => match us, hl with | [_], _ => rfl
  have mNm := PySem.W.mg_of X G aNm
  have FDy := fun_mk (st := sDay) lDy cDy kDy
  have bDy := FDy.binds (ps := ["day"]) fun _ _ _ _ _ _ us hl => match us, hl with | [_], _ => rfl
  have mDy := PySem.W.mg_of X G aDy
  have FNa := fun_mk (st := sNames) lNa cNa kNa
  have bNa := FNa.binds (ps := ["names", "least", "most"]) fun _ _ _ _ _ _ us hl => match us, hl with | [_, _, _], _ => rfl
  have mNa := PySem.W.mg_of X G aNa
  have FDf := fun_mk (st := sDiff) lDf cDf kDf
  have bDf := FDf.binds (ps := ["parts"]) fun _ _ _ _ _ _ us hl => match us, hl with | [_], _ => rfl
  have mDf := PySem.W.mg_of X G aDf
  have FRs := fun_mk (st := sRoads) lRs cRs kRs
  have bRs := FRs.binds (ps := ["roads", "day", "places", "kinds"]) fun _ _ _ _ _ _ us hl => match us, hl with | [_, _, _, _], _ => rfl
  have mRs := PySem.W.mg_of X G aRs
  have FRd := fun_mk (st := sRoad) lRd cRd kRd
  have bRd := FRd.binds (ps := ["road", "day", "places", "kinds"]) fun _ _ _ _ _ _ us hl => match us, hl with | [_, _, _, _], _ => rfl
  have mRd := PySem.W.mg_of X G aRd
  have FHr := fun_mk (st := sHours) lHr cHr kHr
  have bHr := FHr.binds (ps := ["hours", "day"]) fun _ _ _ _ _ _ us hl => match us, hl with | [_, _], _ => rfl
  have mHr := PySem.W.mg_of X G aHr
  have FBr := fun_mk (st := sBars) lBr cBr kBr
  have bBr := FBr.binds (ps := ["bars", "roads_by_name"]) fun _ _ _ _ _ _ us hl => match us, hl with | [_, _], _ => rfl
  have mBr := PySem.W.mg_of X G aBr
  have FRw := fun_mk (st := sRow) lRw cRw kRw
  have bRw := FRw.binds (ps := ["cell", "many"]) fun _ _ _ _ _ _ us hl => match us, hl with | [_, _], _ => rfl
  have mRw := PySem.W.mg_of X G aRw
  have FNu := fun_mk (st := sNumbers) lNu cNu kNu
  have bNu := FNu.binds (ps := ["script", "many"]) fun _ _ _ _ _ _ us hl => match us, hl with | [_, _], _ => rfl
  have mNu := PySem.W.mg_of X G aNu
  have FApl := fun_mk (st := sApl) lApl cApl kApl
  have bApl := FApl.binds (ps := ["chart", "changes"]) fun _ _ _ _ _ _ us hl => match us, hl with | [_, _], _ => rfl
  have mApl := PySem.W.mg_of X G aApl
  have FBc := fun_mk (st := sBc) lBc cBc kBc
  have bBc := FBc.binds (ps := ["chart", "change"]) fun _ _ _ _ _ _ us hl => match us, hl with | [_, _], _ => rfl
  have mBc := PySem.W.mg_of X G aBc
  have FWn := fun_mk (st := sWn) lWn cWn kWn
  have bWn := FWn.binds (ps := ["chart", "road"]) fun _ _ _ _ _ _ us hl => match us, hl with | [_, _], _ => rfl
  have mWn := PySem.W.mg_of X G aWn
  have FWr := fun_mk (st := sWr) lWr cWr kWr
  have bWr := FWr.binds (ps := ["chart", "road"]) fun _ _ _ _ _ _ us hl => match us, hl with | [_, _], _ => rfl
  have mWr := PySem.W.mg_of X G aWr
  have FWt := fun_mk (st := sWt) lWt cWt kWt
  have bWt := FWt.binds (ps := ["chart", "name", "part", "before", "after"]) fun _ _ _ _ _ _ us hl => match us, hl with | [_, _, _, _, _], _ => rfl
  have mWt := PySem.W.mg_of X G aWt
  have FWw := fun_mk (st := sWw) lWw cWw kWw
  have bWw := FWw.binds (ps := ["chart", "road"]) fun _ _ _ _ _ _ us hl => match us, hl with | [_, _], _ => rfl
  have mWw := PySem.W.mg_of X G aWw
  have FLn := fun_mk (st := sLNames) lLn cLn kLn
  have bLn := FLn.binds (ps := ["number", "many"]) fun _ _ _ _ _ _ us hl => match us, hl with | [_, _], _ => rfl
  have mLn := PySem.W.mg_of X G aLn
  have FLh := fun_mk (st := sLHours) lLh cLh kLh
  have bLh := FLh.binds (ps := ["numbers", "at", "day"]) fun _ _ _ _ _ _ us hl => match us, hl with | [_, _, _], _ => rfl
  have mLh := PySem.W.mg_of X G aLh
  have FLr := fun_mk (st := sLRoadG) lLr cLr kLr
  have bLr := FLr.binds (ps := ["numbers", "at", "name", "day", "kinds", "places"]) fun _ _ _ _ _ _ us hl => match us, hl with | [_, _, _, _, _, _], _ => rfl
  have mLr := PySem.W.mg_of X G aLr
  have FLq := fun_mk (st := sLBarsG) lLq cLq kLq
  have bLq := FLq.binds (ps := ["numbers", "at", "roads"]) fun _ _ _ _ _ _ us hl => match us, hl with | [_, _, _], _ => rfl
  have mLq := PySem.W.mg_of X G aLq
  have FMp := fun_mk (st := sLPartsG) lMp cMp kMp
  have bMp := FMp.binds (ps := ["numbers", "at"]) fun _ _ _ _ _ _ us hl => match us, hl with | [_, _], _ => rfl
  have mMp := PySem.W.mg_of X G aMp
  have FDc := fun_mk (st := sDc) lDc cDc kDc
  have bDc := FDc.binds (ps := ["numbers", "at", "parts"]) fun _ _ _ _ _ _ us hl => match us, hl with | [_, _, _], _ => rfl
  have mDc := PySem.W.mg_of X G aDc
  have FFi := fun_mk (st := sFi) lFi cFi kFi
  have bFi := FFi.binds (ps := ["day", "kinds", "word", "part"]) fun _ _ _ _ _ _ us hl => match us, hl with | [_, _, _, _], _ => rfl
  have mFi := PySem.W.mg_of X G aFi
  have FCh := fun_mk (st := sCh) lCh cCh kCh
  have bCh := FCh.binds (ps := ["parts", "change"]) fun _ _ _ _ _ _ us hl => match us, hl with | [_, _], _ => rfl
  have mCh := PySem.W.mg_of X G aCh
  have FMk := fun_mk (st := sMk) lMk cMk kMk
  have bMk := FMk.binds (ps := ["parts"]) fun _ _ _ _ _ _ us hl => match us, hl with | [_], _ => rfl
  have mMk := PySem.W.mg_of X G aMk
  have FFd := fun_mk (st := sFd) lFd cFd kFd
  have bFd := FFd.binds (ps := ["chart"]) fun _ _ _ _ _ _ us hl => match us, hl with | [_], _ => rfl
  have mFd := PySem.W.mg_of X G aFd
  have FTb := fun_mk (st := sTb) lTb cTb kTb
  have bTb := FTb.binds (ps := ["changes"]) fun _ _ _ _ _ _ us hl => match us, hl with | [_], _ => rfl
  have mTb := PySem.W.mg_of X G aTb
  have FOp := fun_mk (st := sOp) lOp cOp kOp
  have bOp := FOp.binds (ps := ["change"]) fun _ _ _ _ _ _ us hl => match us, hl with | [_], _ => rfl
  have mOp := PySem.W.mg_of X G aOp
  have FTu := fun_mk (st := sTu) lTu cTu kTu
  have bTu := FTu.binds (ps := ["change"]) fun _ _ _ _ _ _ us hl => match us, hl with | [_], _ => rfl
  have mTu := PySem.W.mg_of X G aTu
  have FWk := fun_mk (st := sWk) lWk cWk kWk
  have bWk := FWk.binds (ps := ["numbers", "at", "many", "parts"]) fun _ _ _ _ _ _ us hl => match us, hl with | [_, _, _, _], _ => rfl
  have mWk := PySem.W.mg_of X G aWk
  have FLw := fun_mk (st := sLaw) lLw cLw kLw
  have bLw := FLw.binds (ps := ["script"]) fun _ _ _ _ _ _ us hl => match us, hl with | [_], _ => rfl
  have mLw := PySem.W.mg_of X G aLw
  have FCk := fun_mk (st := sCheck) lCk cCk kCk
  have bCk := FCk.binds (ps := ["self", "name"]) fun _ _ _ _ _ _ us hl => match us, hl with | [_, _], _ => rfl
  have FCp := fun_mk (st := sCheckP) lCp cCp kCp
  have bCp := FCp.binds (ps := ["self", "place"]) fun _ _ _ _ _ _ us hl => match us, hl with | [_, _], _ => rfl
  have FRm := fun_mk (st := sRoadM) lRm cRm kRm
  have bRm := FRm.binds (ps := ["self", "name"]) fun _ _ _ _ _ _ us hl => match us, hl with | [_, _], _ => rfl
  have FBa := fun_mk (st := sBarred) lBa cBa kBa
  have bBa := FBa.binds (ps := ["self", "first", "second"]) fun _ _ _ _ _ _ us hl => match us, hl with | [_, _, _], _ => rfl
  have FWp := fun_mk (st := sWithP) lWp cWp kWp
  have bWp := FWp.binds (ps := ["self", "places", "roads", "bars"]) fun _ _ _ _ _ _ us hl => match us, hl with | [_, _, _, _], _ => rfl
  have FWR := fun_mk (st := sWithR) lWR cWR kWR
  have bWR := FWR.binds (ps := ["self", "road"]) fun _ _ _ _ _ _ us hl => match us, hl with | [_, _], _ => rfl
  have FWO := fun_mk (st := sWithoutR) lWO cWO kWO
  have bWO := FWO.binds (ps := ["self", "name"]) fun _ _ _ _ _ _ us hl => match us, hl with | [_, _], _ => rfl
  have FWP := fun_mk (st := sWithPl) lWP cWP kWP
  have bWP := FWP.binds (ps := ["self", "place"]) fun _ _ _ _ _ _ us hl => match us, hl with | [_, _], _ => rfl
  have FOP := fun_mk (st := sWoutPl) lOP cOP kOP
  have bOP := FOP.binds (ps := ["self", "place"]) fun _ _ _ _ _ _ us hl => match us, hl with | [_, _], _ => rfl
  have FWB := fun_mk (st := sWithB) lWB cWB kWB
  have bWB := FWB.binds (ps := ["self", "first", "second"]) fun _ _ _ _ _ _ us hl => match us, hl with | [_, _, _], _ => rfl
  have FOB := fun_mk (st := sWoutB) lOB cOB kOB
  have bOB := FOB.binds (ps := ["self", "first", "second"]) fun _ _ _ _ _ _ us hl => match us, hl with | [_, _, _], _ => rfl
  have FRn := fun_mk (st := sRNames) lRn cRn kRn
  have bRn := FRn.binds (ps := ["self"]) fun _ _ _ _ _ _ us hl => match us, hl with | [_], _ => rfl
  have e_isinstance := PySem.W.mg_none_of X G z_isinstance
  have e_reversed := PySem.W.mg_none_of X G z_reversed
  have e_len := PySem.W.mg_none_of X G z_len
  have e_all := PySem.W.mg_none_of X G z_all
  have e_any := PySem.W.mg_none_of X G z_any
  have e_set := PySem.W.mg_none_of X G z_set
  have e_tuple := PySem.W.mg_none_of X G z_tuple
  have e_list := PySem.W.mg_none_of X G z_list
  have e_sorted := PySem.W.mg_none_of X G z_sorted
  have e_abs := PySem.W.mg_none_of X G z_abs
  have e_int := PySem.W.mg_none_of X G z_int
  have e_range := PySem.W.mg_none_of X G z_range
  have e_max := PySem.W.mg_none_of X G z_max
  have e_min := PySem.W.mg_none_of X G z_min
  have e_super := PySem.W.mg_none_of X G z_super
  have e_enumerate := PySem.W.mg_none_of X G z_enumerate
  have i_LONGEST_NAME := PySem.W.mg_of X G g_LONGEST_NAME
  have i_LONGEST_DAY := PySem.W.mg_of X G g_LONGEST_DAY
  have i_MOST_PLACES := PySem.W.mg_of X G g_MOST_PLACES
  have i_MOST_KINDS := PySem.W.mg_of X G g_MOST_KINDS
  have i_MOST_ROADS := PySem.W.mg_of X G g_MOST_ROADS
  have i_MOST_MINUTES := PySem.W.mg_of X G g_MOST_MINUTES
  have i_MOST_PAIRS := PySem.W.mg_of X G g_MOST_PAIRS
  have i_MOST_BARS := PySem.W.mg_of X G g_MOST_BARS
  have i_NAME := PySem.W.mg_of X G g_NAME
  have i_START := PySem.W.mg_of X G g_START
  have i_END := PySem.W.mg_of X G g_END
  have i_MINUTES := PySem.W.mg_of X G g_MINUTES
  have i_KINDS := PySem.W.mg_of X G g_KINDS
  have i_HOURS := PySem.W.mg_of X G g_HOURS
  have i_PARTS := PySem.W.mg_of X G g_PARTS
  have i_LETTERS := PySem.W.mg_of X G g_LETTERS
  have i_DIGITS := PySem.W.mg_of X G g_DIGITS
  have eU := exm_two bU iU tU sU
  have TU : OexC K U := ⟨⟨_, _, _, _, _, _, _, _, _, _, _, _, _, _, _, lU, rvU⟩, saU, bU, tU, kU⟩
  have DU : ExcD K U := ⟨clU, gaU, ggU, bU, ccU, snU1, tkU, moU⟩
  have bXU : L2.Binds K (fdU .none kVXU dcXU pmXU anXU cdaXU ctXU ccXU) ["self", "name"] [] := .all fun us hl => match us, hl with | [_, _], _ => rfl
  have mU := PySem.W.mg_of X G gU
  have yU : XfC K U := xfB_ok xU
  have eR := exm_two bR iR tR sR
  have TR : OexC K R := ⟨⟨_, _, _, _, _, _, _, _, _, _, _, _, _, _, _, lR, rvR⟩, saR, bR, tR, kR⟩
  have DR : ExcD K R := ⟨clR, gaR, ggR, bR, ccR, snU1, tkU, moR⟩
  have bXR : L2.Binds K (fdIS .none kVXR dcXR pmXR anXR cdaXR ctXR ccXR) ["self", "number"] [] := .all fun us hl => match us, hl with | [_, _], _ => rfl
  have mR := PySem.W.mg_of X G gR
  have yR : XfC K R := xfB_ok xR
  have mB := PySem.W.mg_of X G gB
  have TM : TxtM K M := ⟨⟨pg, hd, po, sa⟩, n_day, n_kinds, n_places, n_roads, n__roads_by_name, n_bars, n__barred⟩
  have TN : Txt K mg M P := ⟨⟨_, i_LETTERS⟩, ⟨_, i_DIGITS⟩, ⟨_, i_LONGEST_NAME⟩, e_len, e_all⟩
  have FI : FunD K "__init__" "Map.__init__" (defArgs sInit) (defBody sInit) (defScope sInit) [] [("places", V.ref T1), ("roads", V.ref T2), ("bars", V.ref T0)] fI (PySem.W.fnOf "__init__" "Map.__init__" (defArgs sInit) (defBody sInit) (defScope sInit) .none (.ref D0) dcI pmI anI cdI ctI) :=
    ⟨⟨_, _, _, _, _, _, _, _, _, _, rfl, lI, cI, .inl ⟨rfl, rfl⟩, .inr ⟨D0, rfl, fun q hq => by
      simp only [List.mem_cons, List.not_mem_nil, or_false] at hq
      rcases hq with e | e | e <;> rw [e]
      · exact ⟨_, d_places, rfl⟩
      · exact ⟨_, d_roads, rfl⟩
      · exact ⟨_, d_bars, rfl⟩⟩⟩, kI⟩
  obtain ⟨mvC, kbC⟩ := mapC_binds FI
  have tabP : h.get? P = some { cls := .none, data := .fields #[] } := own _ (by decide +kernel) _ mNm qN P _ _ _ _ _ _ lNm rfl rfl lcN v11
  have tabPWr : h.get? PWr = some { cls := .none, data := .fields #[] } := own _ (by decide +kernel) _ mWr qWr PWr _ _ _ _ _ _ lWr rfl rfl lcWr v11Wr
  have hcs : ∀ p ∈ ([(qN, P), (qWr, PWr)] : List (Addr × Addr)), h.get? p.2 = some { cls := .none, data := .fields #[] } ∧ K.lookup p.2 = none ∧ PySem.W.CodeHd h p.1 p.2 := fun p hp => by
    simp only [List.mem_cons, List.not_mem_nil, or_false] at hp
    rcases hp with e | e <;> rw [e]
    · exact ⟨tabP, nP, PySem.W.codeHd_of_K X hcN⟩
    · exact ⟨tabPWr, nPWr, PySem.W.codeHd_of_K X hcWr⟩
  refine ⟨[(qN, P), (qWr, PWr)], spLaw K P PWr, hcs, fun H a ns hl hT hS => ⟨a, ns, rfl, hS, hl, ⟨#[], hT (qN, P) (by simp), by first | trivial | exact True.intro | decide⟩, ⟨#[], hT (qWr, PWr) (by simp), by first | trivial | exact True.intro | decide⟩, fun _ => rfl⟩, fun base KB NB TBL => ?_⟩
  have TBN : TabB base mg qN P := ⟨(TBL (qN, P) (by simp)).code, (TBL (qN, P) (by simp)).bm, (TBL (qN, P) (by simp)).gP⟩
  have TBWr : TabB base mg qWr PWr := ⟨(TBL (qWr, PWr) (by simp)).code, (TBL (qWr, PWr) (by simp)).bm, (TBL (qWr, PWr) (by simp)).gP⟩
  have TE : TxtE mg K C := ⟨PySem.W.mg_of X G gC, xC, kC, bC, tC⟩
  have GNm : FnOk l.prog w K mg base CX0 2 fNm _ ["text"] (spIsName P) := ok_isName FNm TN TBN rfl NB
  have GDy : FnOk l.prog w K mg base (L2N.CX l.prog w) 1 fDy _ ["day"] (spDayX C P) := ok_dayX FDy TE i_LONGEST_DAY
  have GDf : FnOk l.prog w K mg base (L2N.CX l.prog w) 1 fDf _ ["parts"] (spDiffX K C P) := ok_diffX FDf TE e_len e_set
  have GHr : FnOk l.prog w K mg base (L2N.CX l.prog w) 1 fHr _ ["hours", "day"] (spHoursX K C P) := ok_hoursX FHr TE e_len e_tuple i_MOST_PAIRS
  have GNa := ok_namesX FNa TE e_len e_tuple e_sorted GNm mNm kNm bNm GDf mDf kDf bDf
  have GRd := ok_roadX FRd TE e_tuple e_sorted i_MOST_MINUTES GDf mDf kDf bDf GHr mHr kHr bHr
  have GRs := ok_roadsX FRs TE e_len e_tuple e_sorted i_PARTS i_NAME i_MOST_ROADS GNa mNa kNa bNa GRd mRd kRd bRd
  have GBr := ok_barsX FBr TE e_len e_tuple e_sorted i_MOST_BARS i_END i_START GDf mDf kDf bDf
  have GI := ok_initX FI TM TE i_NAME i_MOST_KINDS i_MOST_PLACES GDy mDy kDy bDy GNa mNa kNa bNa GRs mRs kRs bRs GBr mBr kBr bBr
  have GRw : FnOk l.prog w K mg base CX0 1 fRw _ ["cell", "many"] (spRow P) := ok_row FRw e_abs e_int e_range
  have GNu := ok_numbers FNu e_len e_max GRw mRw kRw bRw
  have GLn : FnOk l.prog w K mg base CX0 1 fLn _ ["number", "many"] (spLNames P) := ok_lnames FLn e_int e_range e_len e_min
  have GLh : FnOk l.prog w K mg base CX0 1 fLh _ ["numbers", "at", "day"] (spLHours K P) := ok_lhours FLh e_int e_tuple e_range
  have GLr := ok_lroadG FLr e_int e_len e_tuple e_range GLh mLh kLh bLh
  have GLq : FnOk l.prog w K mg base CX0 1 fLq _ ["numbers", "at", "roads"] (spLBarsG K P) := ok_lbarsG FLq e_int e_len e_tuple e_range e_sorted
  have GMp := ok_lpartsG FMp e_int e_tuple e_range e_sorted GLn mLn kLn bLn GLr mLr kLr bLr GLq mLq kLq bLq
  have GDc := ok_drawn FDc e_int e_len e_list GLr mLr kLr bLr GLh mLh kLh bLh
  have GFi : FnOk l.prog w K mg base CX0 1 fFi _ ["day", "kinds", "word", "part"] (spFits K P) := ok_fits FFi e_tuple
  have GCh := ok_changed FCh e_len e_sorted e_tuple e_any GFi mFi kFi bFi
  have GWk := ok_walked FWk e_range GDc mDc kDc bDc GCh mCh kCh bCh
  have GMk := ok_make FMk TM e_list ⟨mk, aI, iI, kM⟩ (PySem.W.mg_of X G aM) GI kbC
  have GFd : FnOk l.prog w K mg base CX0 1 fFd _ ["chart"] (spFields K M P) := ok_fields FFd TM
  have GRn : FnOk l.prog w K mg base CX0 1 fRn _ ["self"] (spRNames K M P) := ok_rnames FRn TM e_tuple i_NAME
  have GY : FnOk l.prog w K mg base CX0 1 fXU _ ["self", "name"] (spUInit K U) := ok_uinit lXU cXU coXU v2XU fiXU ceXU e_super toX TU muU opU suU svU nnU
  have GX : L2H.FnH l.prog w K mg base CX0 1 fXR _ ["self", "number"] (spSInit K R) := ok_sinitH lXR cXR coXR v2XR fiXR ceXR e_super toX TR muR opU suR svR nnR
  have GCk := ok_check FCk TM mU TU aXU tXU GY bXU
  have GCp := ok_checkP FCp TM mU TU aXU tXU GY bXU
  have GRm := ok_roadM FRm TM ⟨aCk, iCk, kCk⟩ GCk bCk
  have GBa := ok_barred (P := P) FBa TM ⟨aCk, iCk, kCk⟩ GCk bCk
  have GWp := ok_withPX FWp TM ⟨mk, aI, iI, kM⟩ (PySem.W.mg_of X G aM) GI kbC
  have GWR := ok_withRX FWR TM i_NAME ⟨aWp, iWp, kWp⟩ GWp bWp
  have GWO := ok_woRX FWO TM i_NAME ⟨aCk, iCk, kCk⟩ GCk bCk ⟨aWp, iWp, kWp⟩ GWp bWp
  have GWP := ok_withPlX FWP TM ⟨aWp, iWp, kWp⟩ GWp bWp
  have GOP := ok_woutPlX FOP TM ⟨aCp, iCp, kCp⟩ GCp bCp ⟨aWp, iWp, kWp⟩ GWp bWp
  have GWB := ok_withBX FWB TM ⟨aCk, iCk, kCk⟩ GCk bCk ⟨aWp, iWp, kWp⟩ GWp bWp
  have GOB := ok_woutBX FOB TM TE ⟨aBa, iBa, kBa⟩ GBa bBa ⟨aWp, iWp, kWp⟩ GWp bWp
  have GWw := ok_ww FWw TE TM i_NAME ⟨aWR, iWR, kWR⟩ GWR bWR
  have GWn := ok_wn (U := U) FWn TE TM i_NAME i_PARTS e_len ⟨aRn, pgRn, tkRn, ⟨_, rcRn⟩⟩ GRn bRn GWw mWw kWw bWw
  have GWt := ok_wt FWt TE TM ⟨aRm, iRm, kRm⟩ GRm bRm GWw mWw kWw bWw
  have GWr := ok_wr FWr rfl TBWr e_any TE TM i_NAME ⟨aWO, iWO, kWO⟩ GWO bWO
  have GBc := ok_bc FBc TE TM i_MINUTES i_KINDS i_HOURS ⟨aWP, iWP, kWP⟩ GWP bWP ⟨aOP, iOP, kOP⟩ GOP bOP ⟨aWB, iWB, kWB⟩ GWB bWB ⟨aOB, iOB, kOB⟩ GOB bOB GWn mWn kWn bWn GWr mWr kWr bWr GWt mWt kWt bWt
  have eC := exm_two bC iC tC sC
  have eCU := exm_two bU iU tU sCU
  have eUC := exm_two bC iC tC sUC
  have GApl := ok_apl FApl TE e_enumerate mU (exm_any2 eC eCU) (exm_any2 eUC eU) GBc mBc kBc bBc mR TR aXR tXR GX bXR
  have OK : OppK K w OX := ⟨#[⟨hF0, .str "place" tF0, .str "unplace" tG0⟩, ⟨hF1, .str "unplace" tF1, .str "place" tG1⟩, ⟨hF2, .str "road" tF2, .str "unroad" tG2⟩, ⟨hF3, .str "unroad" tF3, .str "road" tG3⟩, ⟨hF4, .str "bar" tF4, .str "unbar" tG4⟩, ⟨hF5, .str "unbar" tF5, .str "bar" tG5⟩], nF, ⟨lOX, kOX, sOX⟩, (.cons ⟨⟨_, rfl⟩, _, rfl⟩ (.cons ⟨⟨_, rfl⟩, _, rfl⟩ (.cons ⟨⟨_, rfl⟩, _, rfl⟩ (.cons ⟨⟨_, rfl⟩, _, rfl⟩ (.cons ⟨⟨_, rfl⟩, _, rfl⟩ (.cons ⟨⟨_, rfl⟩, _, rfl⟩ .nil)))))), rfl⟩
  have GOp : FnOk l.prog w K mg base CX0 1 fOp _ ["change"] (spTurn K P) := ok_opp FOp (PySem.W.mg_of X G gOX) OK
  have GTb := ok_tb FTb e_reversed GOp mOp kOp bOp
  have GTu : FnOk l.prog w K mg base CX0 1 fTu _ ["change"] (spTurn K P) := ok_turned FTu
  exact ok_law lLw cLw (fun s v => .of_eq rfl) e_int e_len e_list e_range e_isinstance GNu mNu kNu bNu (GMp.mono (by decide)) mMp kMp bMp GWk mWk kWk bWk GTb mTb kTb bTb GTu mTu kTu bTu GMk mMk kMk bMk GFd mFd kFd bFd GApl mApl kApl bApl
end W

set_option Elab.async false
open PySem PySem.W PyProof.Rows in
set_option maxRecDepth 100000 in
set_option maxHeartbeats 0 in
theorem PySem.Challenge.cw_waypapers_k45_changes_taken_back_holds : PySem.Challenge.rw_waypapers_k45_changes_taken_back.Holds := by
  w_on; o_law; k_head; (case hw => w_witness2)
  k_fill
  refine MyR.walk_ofL (l := PySem.Challenge.rw_waypapers_k45_changes_taken_back) (n := 63) (CX := fun w => L2.CX (PySem.Challenge.rw_waypapers_k45_changes_taken_back).prog w) ["is_name", "_without_whole_road"] rfl (by decide) rfl (by decide +kernel) (fun w h Y => PySem.W.kIn_of Y) ?F (fun w H s e s' h => W.no_fly w H s e s' h)
  case F =>
    intro w mg fa h Y KX G hmg own
    refine' W.all_mk KX G hmg own ?aM ?gU ?gR ?gB ?aNm ?lNm ?cNm ?kNm ?aDy ?lDy ?cDy ?kDy ?aNa ?lNa ?cNa ?kNa ?aDf ?lDf ?cDf ?kDf ?aRs ?lRs ?cRs ?kRs ?aRd ?lRd ?cRd ?kRd ?aHr ?lHr ?cHr ?kHr ?aBr ?lBr ?cBr ?kBr ?aRw ?lRw ?cRw ?kRw ?aNu ?lNu ?cNu ?kNu ?aApl ?lApl ?cApl ?kApl ?aBc ?lBc ?cBc ?kBc ?aWn ?lWn ?cWn ?kWn ?aWr ?lWr ?cWr ?kWr ?aWt ?lWt ?cWt ?kWt ?aWw ?lWw ?cWw ?kWw ?aLn ?lLn ?cLn ?kLn ?aLh ?lLh ?cLh ?kLh ?aLr ?lLr ?cLr ?kLr ?aLq ?lLq ?cLq ?kLq ?aMp ?lMp ?cMp ?kMp ?aDc ?lDc ?cDc ?kDc ?aFi ?lFi ?cFi ?kFi ?aCh ?lCh ?cCh ?kCh ?aMk ?lMk ?cMk ?kMk ?aFd ?lFd ?cFd ?kFd ?aTb ?lTb ?cTb ?kTb ?aOp ?lOp ?cOp ?kOp ?aTu ?lTu ?cTu ?kTu ?aWk ?lWk ?cWk ?kWk ?aLw ?lLw ?cLw ?kLw ?aCk ?iCk ?lCk ?cCk ?kCk ?aCp ?iCp ?lCp ?cCp ?kCp ?aRm ?iRm ?lRm ?cRm ?kRm ?aBa ?iBa ?lBa ?cBa ?kBa ?aWp ?iWp ?lWp ?cWp ?kWp ?aWR ?iWR ?lWR ?cWR ?kWR ?aWO ?iWO ?lWO ?cWO ?kWO ?aWP ?iWP ?lWP ?cWP ?kWP ?aOP ?iOP ?lOP ?cOP ?kOP ?aWB ?iWB ?lWB ?cWB ?kWB ?aOB ?iOB ?lOB ?cOB ?kOB ?aRn ?pgRn ?tkRn ?rcRn ?lRn ?cRn ?kRn ?lcN ?v11 ?hcN ?nP ?lcWr ?v11Wr ?hcWr ?nPWr ?aI ?iI ?lI ?cI ?kI ?d_places ?d_roads ?d_bars ?pg ?hd ?po ?sa ?mk ?kM ?n_day ?n_kinds ?n_places ?n_roads ?n__roads_by_name ?n_bars ?n__barred ?snU1 ?tkU ?opU ?toX ?lU ?rvU ?saU ?bU ?tU ?kU ?iU ?sU ?xU ?clU ?gaU ?ggU ?ccU ?moU ?muU ?suU ?svU ?nnU ?aXU ?tXU ?lXU ?cXU ?coXU ?v2XU ?fiXU ?ceXU ?lR ?rvR ?saR ?bR ?tR ?kR ?iR ?sR ?xR ?clR ?gaR ?ggR ?ccR ?moR ?muR ?suR ?svR ?nnR ?aXR ?tXR ?lXR ?cXR ?coXR ?v2XR ?fiXR ?ceXR ?gOX ?lOX ?kOX ?sOX ?gC ?xC ?kC ?bC ?tC ?iC ?sC ?sCU ?sUC ?g_LONGEST_NAME ?g_LONGEST_DAY ?g_MOST_PLACES ?g_MOST_KINDS ?g_MOST_ROADS ?g_MOST_MINUTES ?g_MOST_PAIRS ?g_MOST_BARS ?g_NAME ?g_START ?g_END ?g_MINUTES ?g_KINDS ?g_HOURS ?g_PARTS ?g_LETTERS ?g_DIGITS ?z_isinstance ?z_reversed ?z_len ?z_all ?z_any ?z_set ?z_tuple ?z_list ?z_sorted ?z_abs ?z_int ?z_range ?z_max ?z_min ?z_super ?z_enumerate
    (case aM => k_is)
    (case gU => k_is)
    (case gR => k_is)
    (case gB => k_is)
    (case aNm => k_is)
    (case lNm => k_is)
    (case cNm => k_is)
    (case kNm => k_is)
    (case aDy => k_is)
    (case lDy => k_is)
    (case cDy => k_is)
    (case kDy => k_is)
    (case aNa => k_is)
    (case lNa => k_is)
    (case cNa => k_is)
    (case kNa => k_is)
    (case aDf => k_is)
    (case lDf => k_is)
    (case cDf => k_is)
    (case kDf => k_is)
    (case aRs => k_is)
    (case lRs => k_is)
    (case cRs => k_is)
    (case kRs => k_is)
    (case aRd => k_is)
    (case lRd => k_is)
    (case cRd => k_is)
    (case kRd => k_is)
    (case aHr => k_is)
    (case lHr => k_is)
    (case cHr => k_is)
    (case kHr => k_is)
    (case aBr => k_is)
    (case lBr => k_is)
    (case cBr => k_is)
    (case kBr => k_is)
    (case aRw => k_is)
    (case lRw => k_is)
    (case cRw => k_is)
    (case kRw => k_is)
    (case aNu => k_is)
    (case lNu => k_is)
    (case cNu => k_is)
    (case kNu => k_is)
    (case aApl => k_is)
    (case lApl => k_is)
    (case cApl => k_is)
    (case kApl => k_is)
    (case aBc => k_is)
    (case lBc => k_is)
    (case cBc => k_is)
    (case kBc => k_is)
    (case aWn => k_is)
    (case lWn => k_is)
    (case cWn => k_is)
    (case kWn => k_is)
    (case aWr => k_is)
    (case lWr => k_is)
    (case cWr => k_is)
    (case kWr => k_is)
    (case aWt => k_is)
    (case lWt => k_is)
    (case cWt => k_is)
    (case kWt => k_is)
    (case aWw => k_is)
    (case lWw => k_is)
    (case cWw => k_is)
    (case kWw => k_is)
    (case aLn => k_is)
    (case lLn => k_is)
    (case cLn => k_is)
    (case kLn => k_is)
    (case aLh => k_is)
    (case lLh => k_is)
    (case cLh => k_is)
    (case kLh => k_is)
    (case aLr => k_is)
    (case lLr => k_is)
    (case cLr => k_is)
    (case kLr => k_is)
    (case aLq => k_is)
    (case lLq => k_is)
    (case cLq => k_is)
    (case kLq => k_is)
    (case aMp => k_is)
    (case lMp => k_is)
    (case cMp => k_is)
    (case kMp => k_is)
    (case aDc => k_is)
    (case lDc => k_is)
    (case cDc => k_is)
    (case kDc => k_is)
    (case aFi => k_is)
    (case lFi => k_is)
    (case cFi => k_is)
    (case kFi => k_is)
    (case aCh => k_is)
    (case lCh => k_is)
    (case cCh => k_is)
    (case kCh => k_is)
    (case aMk => k_is)
    (case lMk => k_is)
    (case cMk => k_is)
    (case kMk => k_is)
    (case aFd => k_is)
    (case lFd => k_is)
    (case cFd => k_is)
    (case kFd => k_is)
    (case aTb => k_is)
    (case lTb => k_is)
    (case cTb => k_is)
    (case kTb => k_is)
    (case aOp => k_is)
    (case lOp => k_is)
    (case cOp => k_is)
    (case kOp => k_is)
    (case aTu => k_is)
    (case lTu => k_is)
    (case cTu => k_is)
    (case kTu => k_is)
    (case aWk => k_is)
    (case lWk => k_is)
    (case cWk => k_is)
    (case kWk => k_is)
    (case aLw => k_is)
    (case lLw => k_is)
    (case cLw => k_is)
    (case kLw => k_is)
    (case aCk => k_is)
    (case iCk => k_is)
    (case lCk => k_is)
    (case cCk => k_is)
    (case kCk => k_is)
    (case aCp => k_is)
    (case iCp => k_is)
    (case lCp => k_is)
    (case cCp => k_is)
    (case kCp => k_is)
    (case aRm => k_is)
    (case iRm => k_is)
    (case lRm => k_is)
    (case cRm => k_is)
    (case kRm => k_is)
    (case aBa => k_is)
    (case iBa => k_is)
    (case lBa => k_is)
    (case cBa => k_is)
    (case kBa => k_is)
    (case aWp => k_is)
    (case iWp => k_is)
    (case lWp => k_is)
    (case cWp => k_is)
    (case kWp => k_is)
    (case aWR => k_is)
    (case iWR => k_is)
    (case lWR => k_is)
    (case cWR => k_is)
    (case kWR => k_is)
    (case aWO => k_is)
    (case iWO => k_is)
    (case lWO => k_is)
    (case cWO => k_is)
    (case kWO => k_is)
    (case aWP => k_is)
    (case iWP => k_is)
    (case lWP => k_is)
    (case cWP => k_is)
    (case kWP => k_is)
    (case aOP => k_is)
    (case iOP => k_is)
    (case lOP => k_is)
    (case cOP => k_is)
    (case kOP => k_is)
    (case aWB => k_is)
    (case iWB => k_is)
    (case lWB => k_is)
    (case cWB => k_is)
    (case kWB => k_is)
    (case aOB => k_is)
    (case iOB => k_is)
    (case lOB => k_is)
    (case cOB => k_is)
    (case kOB => k_is)
    (case aRn => k_is)
    (case pgRn => k_is)
    (case tkRn => k_is)
    (case rcRn => first | k_is | rfl | kernel_rfl)
    (case lRn => k_is)
    (case cRn => k_is)
    (case kRn => k_is)
    (case lcN => k_is)
    (case v11 => rfl)
    (case hcN => kernel_rfl)
    (case nP => kernel_rfl)
    (case lcWr => k_is)
    (case v11Wr => rfl)
    (case hcWr => kernel_rfl)
    (case nPWr => kernel_rfl)
    (case aI => k_is)
    (case iI => k_is)
    (case lI => k_is)
    (case cI => k_is)
    (case kI => k_is)
    (case d_places => k_is)
    (case d_roads => k_is)
    (case d_bars => k_is)
    (case pg => k_is)
    (case hd => k_is)
    (case po => k_is)
    (case sa => k_is)
    (case mk => k_is)
    (case kM => k_is)
    (case n_day => k_is)
    (case n_kinds => k_is)
    (case n_places => k_is)
    (case n_roads => k_is)
    (case n__roads_by_name => k_is)
    (case n_bars => k_is)
    (case n__barred => k_is)
    (case snU1 => k_is)
    (case tkU => k_is)
    (case opU => k_is)
    (case toX => first | rfl | decide +kernel | kernel_rfl)
    (case lU => k_is)
    (case rvU => rfl)
    (case saU => k_is)
    (case bU => k_is)
    (case tU => k_is)
    (case kU => k_is)
    (case iU => k_is)
    (case sU => first | rfl | k_is)
    (case xU => first | kernel_rfl | k_is)
    (case clU => first | kernel_rfl | k_is)
    (case gaU => k_is)
    (case ggU => k_is)
    (case ccU => k_is)
    (case moU => k_is)
    (case muU => k_is)
    (case suU => first | kernel_rfl | k_is)
    (case svU => k_is)
    (case nnU => k_is)
    (case aXU => k_is)
    (case tXU => k_is)
    (case lXU => k_is)
    (case cXU => k_is)
    (case coXU => k_is)
    (case v2XU => rfl)
    (case fiXU => first | rfl | decide +kernel | kernel_rfl)
    (case ceXU => k_is)
    (case lR => k_is)
    (case rvR => rfl)
    (case saR => k_is)
    (case bR => k_is)
    (case tR => k_is)
    (case kR => k_is)
    (case iR => k_is)
    (case sR => first | rfl | k_is)
    (case xR => first | kernel_rfl | k_is)
    (case clR => first | kernel_rfl | k_is)
    (case gaR => k_is)
    (case ggR => k_is)
    (case ccR => k_is)
    (case moR => k_is)
    (case muR => k_is)
    (case suR => first | kernel_rfl | k_is)
    (case svR => k_is)
    (case nnR => k_is)
    (case aXR => k_is)
    (case tXR => k_is)
    (case lXR => k_is)
    (case cXR => k_is)
    (case coXR => k_is)
    (case v2XR => rfl)
    (case fiXR => first | rfl | decide +kernel | kernel_rfl)
    (case ceXR => k_is)
    (case gOX => k_is)
    (case lOX => k_is)
    (case kOX => exact ⟨⟨_, _, rfl, rfl⟩, ⟨_, _, rfl, rfl⟩, ⟨_, _, rfl, rfl⟩, ⟨_, _, rfl, rfl⟩, ⟨_, _, rfl, rfl⟩, ⟨_, _, rfl, rfl⟩, trivial⟩)
    (case sOX => first | rfl | decide | kernel_rfl)
    (case gC => k_is)
    (case xC => k_exc)
    (case kC => k_is)
    (case bC => k_is)
    (case tC => k_is)
    (case iC => k_is)
    (case sC => first | rfl | k_is)
    (case sCU => first | rfl | k_is)
    (case sUC => first | rfl | k_is)
    (case g_LONGEST_NAME => k_is)
    (case g_LONGEST_DAY => k_is)
    (case g_MOST_PLACES => k_is)
    (case g_MOST_KINDS => k_is)
    (case g_MOST_ROADS => k_is)
    (case g_MOST_MINUTES => k_is)
    (case g_MOST_PAIRS => k_is)
    (case g_MOST_BARS => k_is)
    (case g_NAME => k_is)
    (case g_START => k_is)
    (case g_END => k_is)
    (case g_MINUTES => k_is)
    (case g_KINDS => k_is)
    (case g_HOURS => k_is)
    (case g_PARTS => k_is)
    (case g_LETTERS => k_is)
    (case g_DIGITS => k_is)
    (case z_isinstance => k_is)
    (case z_reversed => k_is)
    (case z_len => k_is)
    (case z_all => k_is)
    (case z_any => k_is)
    (case z_set => k_is)
    (case z_tuple => k_is)
    (case z_list => k_is)
    (case z_sorted => k_is)
    (case z_abs => k_is)
    (case z_int => k_is)
    (case z_range => k_is)
    (case z_max => k_is)
    (case z_min => k_is)
    (case z_super => k_is)
    (case z_enumerate => k_is)

