import PyProof.Rows.All
import HandS.ExcCtx
import HandS.RaiseMore
import HandS.ExcInit
import HandS.ExcInitHot
import HandS.WordsExc
import Wide.All
import OpenK.AllK
import Wide.FinOn
import HandS.ForMost
import HandS.ForExc
import HandS.AnyAll
import HandS.TupSets
import HandS.Strs
import HandS.Sort
import HandS.SortOrd
import HandS.SortRule
import KE.KSortTup
import PyProof.EqAt
import PyProof.EqKinds
import HandS.DictComp
import HandS.FStr
import HandS.MakeKwOnly
import HandS.EndTab
import KE.KNestM
import HandS.Walk
import PyProof.ReprLen
import HandS.Comp
import KE.GoesComp
import HandS.TryOnly
import HandS.Codes
import HandS.Text
import PyProof.ReprRoads
import HandS.EndOwn
import KE.KExcSuper
import KE.KExcIs
import HandS.ExcField
import HandS.ExcOwn
import HandS.Star
import HandS.Style
import HandS.TupAny
import HandS.Deep
import KE.KRevSl
import HandS.Set
import HandS.SetBool
import HandS.Iter
import HandS.IsInst
import PySem.Challenge.RW_waypapers_k46_what_sets_clash_about
set_option Elab.async false
set_option linter.all false
set_option maxRecDepth 100000
set_option maxHeartbeats 2000000
/-! defs that raise where nothing is handled, told with L2N.CX -/
namespace MyN
open PySem PySem.Spec PyProof.Rows L2
theorem passL {X : Cx} : Passes (L2N.CX X.prog X.w) X E0 := fun _ _ _ _ _ _ _ ⟨_, _, _, _, _, _, _, _, _, _, _, _, z⟩ => z.elim
/-- a def that raises with no context raises -/
theorem weak {P : Program} {w : World} {o : List Env} {H : Hp} {s : Shared} {E : XK} {u : Value} {s' : Shared} (c : L2N.CX P w o H s E u s') : L2.CX P w o H s E u s' := by
  obtain ⟨a, B, H', cls, d, e, fl, r⟩ := c
  exact ⟨a, B, H', cls, d, e, L2H.flyingZ_imp (fun _ z => z.zc) fl, r⟩
section
variable {P : Program} {w : World} {K : PySem.W.Frag} {mg : Str → Option Value} {base : Heap}
theorem okN {x qual : Str} {st : Stmt} {f : Addr} {fd : FuncData} {N ps : List Str} {k : Nat} {sp : Sp} (F : Fun K x qual st f fd) (S : FnScope N ps (defScope st)) (len : ∀ vs H Q E, sp vs H Q E → vs.length = ps.length)
    (body : ∀ (cdv : Value) (A : Around) (outer : List Env) (s : Shared) (H : Hp) (vs : List V) (Q : VK) (E : XK), Room k (A.deeper (envOfC qual (defScope st) s.heap.objs.size f cdv)) → sp vs H Q E →
      ∃ t, PSs (cxOf (L2N.CX P w) P w K mg base N qual (defScope st) f cdv A outer s H E) (defBody st) t ∧ t { nx := fun _ H' => Q .non H', rt := Q } (L2.start N vs) H) :
    FnOk P w K mg base (L2N.CX P w) (k + 1) f fd ps sp := by
  obtain ⟨_, _, _, _, _, _, cdv, _, _, rfl, lk, cd⟩ := F.ex
  exact fn_of lk cd S len fun A outer s H vs Q E r q => body cdv A outer s H vs Q E r q
/-- its promise is also one of the wider kind -/
theorem FnOk.wide {k : Nat} {f : Addr} {fd : FuncData} {ps : List Str} {sp : Sp} (F : FnOk P w K mg base (L2N.CX P w) k f fd ps sp) : FnOk P w K mg base (L2.CX P w) k f fd ps sp :=
  ⟨F.len, fun A outer s H args us vs Q E hr e0 b r q => codeAny_mono (F.run A outer s H args us vs Q E hr e0 b r q) fun x s' h => by
    cases x with
    | error e => exact weak h
    | ok fl => cases fl <;> exact h⟩
end
section
variable {X : Cx}
/-- a class of one's own, called with one value -/
theorem mk1 {C : Addr} {bmB : List Value} {B newId initId : String} {x : Str} {e : Expr} {ta : TE} {p pos : Pos} (F : ExcBaseFacts B newId initId bmB) (q : PySem.W.excIn X.K C bmB newId = true) (gC : X.mg x = some (.ref C)) (kC : PySem.W.keepIn X.K (.ref C) = true) (r : Raises X (.ref C)) (hg : Gl X x)
    (he : PE X e ta) (hs : starEach [e] X.env = (false, eval e X.env) :: starEach [] X.env := by rfl) (hdb : (x == ("__debug__" : Str)) = false := by decide) :
    L2N.PMk X (.Call (.Name x p) [e] [] pos) (fun σ H Q => ta σ H fun _ H1 => Q (.ref C) none H1) := by
  intro pins s σ H Q I h
  refine wpAny_Call_Name_kw (ld_glob I hg gC ?_ hdb)
  refine PySem.W.callWith_K (h₀ := X.base) I.ok.mod.kin kC ?_ hs (by rfl)
  rw [hs]
  show wpAny _ _ (spliced ((false, eval e X.env) :: backTo pos (starEach [] X.env))) _ _ s
  refine Calls.spliced_cons (thn (he.run pins s σ H (fun _ H1 => Q (.ref C) none H1) I h) fun u s1 hv => Calls.spliced_nil ?_)
  obtain ⟨v, H1, I1, _, q1⟩ := hv
  refine ⟨I1.kIn, ?_⟩
  obtain ⟨bm, N, nm, qn, bs, hdct, sn, sub, ab, col, dd, k0, k1, k2, k3, k5, mN, hC, hN, hni, T⟩ := exc_obj I1.kIn q
  show wpAny _ _ (call (.ref C) [u]) _ _ _
  exact wpAny_call_exc_subT F T hC hN hni (fun h' a m => L2N.mk_of I1 m r q1 (I1.hok.gone m.new)) (by rw [show ([u] : List Value).length = 1 from rfl, sizeLine_eq]; omega)
/-- a class of one's own with an __init__ that sets fields -/
theorem mkO {CX : CXT} {x : Str} {e : Expr} {es : List Expr} {ta : TA} {p pos : Pos} {C fI : Addr} {k : Nat} {fd : FuncData} {ps : List Str} {sp : Sp} {ds : List Value} {dvs : List V} (T : OexC X.K C) (iC : PySem.W.findIn X.K (.ref C) "__init__" = some (some (.ref fI)))
    (tI : PySem.W.typeIn X.K (.ref fI) = some (.type "function")) (F : FnOk X.prog X.w X.K X.mg X.base CX k fI fd ps sp) (hr : Room (k + 1) X.A) (hb : Binds X.K fd ps ds) (hd : Vals dvs ds) (hx : Passes CX X (fun _ _ _ => False)) (hg : Gl X x) (hm : X.mg x = some (.ref C))
    (ha : PA X (e :: es) ta) (hdb : (x == ("__debug__" : Str)) = false := by decide) (he : starEach (e :: es) X.env = (false, eval e X.env) :: starEach es X.env := by rfl) (hpl : (backTo pos (starEach es X.env)).any (·.1) = false := by rfl) :
    L2N.PMk X (.Call (.Name x p) (e :: es) [] pos) (tMkO C sp dvs ta) := by
  intro pins s σ H Q I h
  refine wpAny_Call_Name_kw (ld_glob I hg hm ?_ hdb)
  refine PySem.W.callWith_K (h₀ := X.base) I.ok.mod.kin T.kC (thn (ha.run pos pins s σ H _ I h) fun us s1 got => ?_) he hpl
  obtain ⟨vs, H1, J, rv, few, made⟩ := got
  refine ⟨J.kIn, ?_⟩
  obtain ⟨hp, g1, d1, t1, o1⟩ := s1
  obtain ⟨_, _, _, _, bm, _, _, _, _, _, _, _, _, _, _, cl, bmOk⟩ := T.cls
  -- the new object's address
  obtain ⟨a, ea⟩ : ∃ a, a = hp.objs.size + 1 := ⟨_, rfl⟩
  have le : hp.objs.size ≤ a := by rw [ea]; exact Nat.le_succ _
  have new : H1 a = none := J.hok.fresh le
  have q := made a new
  obtain ⟨hq, eq⟩ : ∃ hq, hq = (hp.push (PySem.W.kdv_tup us)).push (PySem.HandSPX.excO C hp.objs.size) := ⟨_, rfl⟩
  have keep : ∀ b o, hp.get? b = some o → hq.get? b = some o := fun b o z => by rw [eq]; exact Heap.get?_push_of_some _ (Heap.get?_push_of_some _ z)
  have at_ : hq.get? a = some (PySem.HandSPX.excO C hp.objs.size) := by rw [eq, ea]; heap_get
  have I2 : Inv X pins σ (upd H1 a (exo a C none)) ⟨hq, g1, d1, t1, o1⟩ := J.laid (t' := t1) (a := a) (o := exo a C none) (h' := hq) keep le (exo_ok at_)
  have rr : Vals (V.ref a :: (vs ++ dvs)) (Value.ref a :: (us ++ ds)) := .cons rfl (rv.append hd)
  have len : (Value.ref a :: us ++ ds).length = ps.length := by
    have y := rr.length
    rw [F.len _ _ _ _ q] at y
    exact y.symm
  have size : us.length ≤ sizeLine := by
    have y := rv.length
    rw [sizeLine_eq]
    omega
  show wpAny _ _ (call (.ref C) us) _ _ _
  have own := F.run _ X.stack ⟨hq, g1, d1, t1, o1⟩ _ ⟨Value.ref a :: us, []⟩ (Value.ref a :: (us ++ ds)) _ _ (fun _ _ _ => False) (hr.make C us []) (I2.env0.make C us []) (hb _ (Value.ref a :: us) I2.kIn len) rr q
  rw [eq, ea] at own
  rw [ea] at q rr I2 len new
  rw [eq] at I2 keep
  refine wpAny_call (PySem.HandSPX.call_own PySem.F.excBase_ValueError (fun Y => PySem.HandSPX.refsVE_contains Y bm bmOk) (J.kIn _ _ cl) (PySem.W.looks_findIn J.kIn iC) (fun self => PySem.W.bind_fn J.kIn self tI) size (codeAny_mono own fun r s' hr' => ?_))
  cases r with
  | error z => exact hx pins σ _ _ z s' I2 hr'
  | ok fl =>
    cases fl with
    | next => exact False.elim hr'
    | brk => exact False.elim hr'
    | cont => exact False.elim hr'
    | ret u =>
      obtain ⟨v, H2, os2, bare2, un2, ok2, r2, ev, d, fs, e1, e2, hd1, q2⟩ := hr'
      subst ev
      obtain ⟨h2, g2, d2, t2, os'⟩ := s'
      obtain ⟨t0, G, J3, kG, ge, oe, na⟩ := mk_end0 (d2 := d2) (t2 := t2) J (by rw [ea] at le; exact le) keep un2 ok2 os2 bare2 e1 e2 hd1
      exact ⟨r2, hp.objs.size + 1, _, _, ⟨G, g2, d2, t2, os'⟩, _, .ref C, some d, rfl, J3, kG, ge, oe, ⟨rfl, rfl, fun ws z => by cases z; rfl⟩, rfl, rfl, na, rfl, bare2, raises_own T.exC T.tyC, q2⟩
end
end MyN
namespace MyN
open PySem PySem.Spec PyProof.Rows L2
/-- okN where the code object is known -/
theorem okNC {P : Program} {w : World} {K : PySem.W.Frag} {mg : Str → Option Value} {base : Heap} {x qual : Str} {st : Stmt} {f c : Addr} {fd : FuncData} {N ps : List Str} {k : Nat} {sp : Sp} (F : Fun K x qual st f fd) (code : fd.code = Value.ref c) (S : FnScope N ps (defScope st)) (len : ∀ vs H Q E, sp vs H Q E → vs.length = ps.length)
    (body : ∀ (A : Around) (outer : List Env) (s : Shared) (H : Hp) (vs : List V) (Q : VK) (E : XK), Room k (A.deeper (envOfC qual (defScope st) s.heap.objs.size f (Value.ref c))) → sp vs H Q E →
      ∃ t, PSs (cxOf (L2N.CX P w) P w K mg base N qual (defScope st) f (Value.ref c) A outer s H E) (defBody st) t ∧ t { nx := fun _ H' => Q .non H', rt := Q } (L2.start N vs) H) : FnOk P w K mg base (L2N.CX P w) (k + 1) f fd ps sp := by
  obtain ⟨_, _, _, _, _, _, cdv, _, _, rfl, lk, cd⟩ := F.ex
  obtain rfl : cdv = Value.ref c := code
  exact fn_of lk cd S len fun A outer s H vs Q E r q => body A outer s H vs Q E r q
end MyN

set_option Elab.async false
set_option linter.all false
set_option maxRecDepth 100000
set_option maxHeartbeats 4000000
/-! all(test for x in text), where the test reads constants of the module: the walked element knows the base heap and the def's globals. -/
namespace MyG
open PySem PySem.Spec PyProof.Rows L2 GxR
/-- what the element's evaluation may lean on: the base heap stands, the globals are the module's, no exception is handled -/
def EltB (prog : Program) (w : World) (base : Heap) (scope : Scope) (x : Str) (elt : Expr) (pb : Nat → Bool) : Prop :=
  ∀ (ce : Env) (B : Around) (F : Value → Shared → Prop) (c : Nat) (t : Tok) (z : Shared) (m : Str → Option Value),
    ce.scope = scope → ce.globals = mainGlobals → B.handled = none → (∀ b o, base.get? b = some o → z.heap.get? b = some o) →
    z.heap.Ns ce.locals m → m x = some (.str ⟨#[c]⟩ t) → wpAny (model prog w) B (eval elt ce) (fun y z' => y = .bool (pb c) ∧ Keeps z z') F z
section
variable {X : Cx} {pins : List (Addr × Obj)} {σ : L2.St} {H : Hp} {s : Shared}
theorem genB {c P : Addr} {elt iter : Expr} {x : Str} {px gpos : Pos} {scope : Scope} {pb : Nat → Bool} {te : TE} {k : Nat} {Q' : Value → Shared → Prop} {R : Str → Hp → Prop}
    (hr : Room k X.A) (TB : TabB X.base X.mg c P) (hcode : X.env.code = .ref c) (S : GenS X.env scope x) (hi : PE X iter te) (hel : EltB X.prog X.w X.base scope x elt pb)
    (hs : ∀ v, genFold iter X.env v = pure v) (I : Inv X pins σ H s) (h : te σ H fun v H1 => ∃ a : Str, v = .str a ∧ TabG H1 P ∧ R a H1)
    (hQ : ∀ a H1 g z, R a H1 → Ready X pins σ H1 P a pb g z → Q' (.ref g) z) :
    wpAny (model X.prog X.w) X.A (eval (.GeneratorExp elt [⟨.Name x px, iter, [], 0⟩] scope gpos) X.env) Q' X.xe s := by
  refine wpAny_GeneratorExp_walksQ hr.hd S.co (closure_ok S.free) S.cell S.dot S.loc S.kind (by have := hr.dp; omega) ?_ hs
  refine thn (hi.run pins s σ H _ I h) fun xv s1 ⟨v, H1, I1, r1, a, ev, tb, q1⟩ => ?_
  subst ev
  obtain ⟨t, rfl⟩ := _root_.id r1
  obtain ⟨ps, hP, ht⟩ := tb
  refine wpAny_pyIter_str fun o St W hst => ?_
  have eP : s1.heap.get? P = some { cls := .none, data := .fields ps } := I1.hok P _ hP
  have ltP : P < s1.heap.objs.size := Heap.lt_size eP
  have eP2 := Heap.get?_push_of_some o eP
  have cd : PySem.W.CodeHd (s1.heap.push o) c P := TB.code.keeps fun b u e => Heap.get?_push_of_some _ (I1.bk b u e)
  have lim := I1.nolimit.push o
  have szp : (s1.heap.push o).objs.size = s1.heap.objs.size + 1 := Heap.size_push ..
  -- the base is not the table
  have nbP : ∀ b u, X.base.get? b = some u → b ≠ P := fun b u e z => by
    have q := (I1.bs b u e).2
    rw [z, hP] at q
    cases q
  have stP : cStatics ≠ P := fun e => by
    obtain ⟨_, ⟨o', es, ep, ho, hd, _⟩, _⟩ := I1.nolimit
    rw [e, eP] at ho
    cases ho
    cases hd
  have stlt : cStatics < s1.heap.objs.size := let ⟨_, hns, _⟩ := I1.nolimit; hns.lt
  -- behind the code object (made or found): h3, the table ps'
  have go : ∀ (code : Value) (h3 : Heap) (tk : Nat) (more : Array Value), Heap.ExtBut P (s1.heap.push o) h3 → (s1.heap.push o).objs.size ≤ h3.objs.size → h3.get? P = some { cls := .none, data := .fields (ps ++ more) } → TriplesOk (ps ++ more).toList →
      wpAny (model X.prog X.w) X.A (builtinsFor X.env.globals X.env.builtins) (fun bi s₄ =>
        ∃ Ia fp wr n₀ Pf St₀ pz F, Value.ref s1.heap.objs.size = .ref Ia ∧ (∀ A' : Around, A'.handled = none → Walks X.prog X.w A' Ia fp wr n₀ Pf St₀) ∧ St₀ 0 s₄.heap ∧ (∀ b ∈ fp, b < s₄.heap.objs.size) ∧ s₄.heap.NoLimit ∧ cStatics ∉ wr ∧
          (∀ href : Heap, (∀ b o, s₄.heap.get? b = some o → href.get? b = some o) →
            QuietGen X.prog X.w (genEnv scope (cloFrom X.env.cells scope.names []) s₄.heap.objs.size code bi X.env) x [] elt (List.range s₄.heap.objs.size) wr Pf pz F href) ∧
          (∀ a h₅ tk gs, gs.bare = true → s₄.heap.objs.size < a → h₅.objs.size = a + 1 → (∀ b o, s₄.heap.get? b = some o → h₅.get? b = some o) →
            WalksS X.prog X.w X.A.in4 a (a :: s₄.heap.objs.size :: List.range s₄.heap.objs.size) (s₄.heap.objs.size :: wr) (GenOnlyQ s₄.gens.size) (passing pz n₀ 0).length
              (fun j y => ∃ i, (passing pz n₀ 0)[j]? = some i ∧ F i y) (GenAt X.prog X.w X.A.in4 a s₄.gens.size s₄.heap.objs.size (List.range s₄.heap.objs.size) wr pz n₀ F) →
            GenAt X.prog X.w X.A.in4 a s₄.gens.size s₄.heap.objs.size (List.range s₄.heap.objs.size) wr pz n₀ F 0 { s₄ with gens := s₄.gens.push gs, toks := tk, heap := h₅ } →
            Q' (.ref a) { s₄ with gens := s₄.gens.push gs, toks := tk, heap := h₅ })) X.xe { s1 with heap := h3, toks := tk } := by
    intro code h3 tk more hx hsz e3 ht3
    obtain ⟨bm, ob, b1, b2, b3, b4, b5, b6, b7, b8⟩ := TB.bm
    have old : ∀ b u, b ≠ P → s1.heap.get? b = some u → h3.get? b = some u := fun b u hb e => hx b u hb (Heap.get?_push_of_some _ e)
    refine wpAny_builtinsFor (m := X.mg) (by rw [I1.ok.glob]; exact ((I1.mod.glob.keeps I1.bk).push o).extBut hx TB.gP) b1 b2 (old _ _ b4 (I1.bk _ _ b5)) b6 b7 b8 ?_
    refine ⟨s1.heap.objs.size, [s1.heap.objs.size], [s1.heap.objs.size], a.cps.size, SignAt a, St, (fun _ => true), (fun i y => ∃ cc, a.cps[i]? = some cc ∧ y = .bool (pb cc)), rfl, W, ?_, ?_, lim.extBut hx stP, ?_, ?_, ?_⟩
    · refine (W X.A hr.hd).frame _ _ _ hst fun b hb u e => hx b u (fun z => ?_) e
      have hb' : b = s1.heap.objs.size := List.mem_singleton.mp hb
      exact Nat.ne_of_lt ltP (z.symm.trans hb')
    · intro b hb
      have hb' : b = s1.heap.objs.size := List.mem_singleton.mp hb
      rw [hb']
      exact Nat.lt_of_lt_of_le (by rw [szp]; exact Nat.lt_succ_self _) hsz
    · intro z
      exact Nat.ne_of_lt stlt (List.mem_singleton.mp z)
    · intro href hk
      constructor
      · intro A' E' i v s₂ m₂ hA hPv hn hm hk2
        simp only [List.forIn_nil]
        exact wpAny_pure ⟨rfl, keeps_refl _⟩
      · intro A' E' i v s₂ m₂ hA hPv hp hn hm hk2
        obtain ⟨cc, u, hcc, rfl⟩ := hPv
        refine wpAny_mono (hel _ A' E' cc u s₂ m₂ rfl I1.ok.glob hA (fun b w' e => ?_) hn hm) (fun y s3 r => ⟨⟨cc, hcc, r.1⟩, r.2⟩) fun _ _ e => e
        have e1 := I1.bk b w' e
        have e2 := old b w' (nbP b w' e) e1
        have l1 : b < s1.heap.objs.size := Heap.lt_size e1
        refine hk2 b (List.mem_range.mpr (Heap.lt_size e2)) (fun z => ?_) w' (hk b w' e2)
        exact Nat.ne_of_lt l1 (List.mem_singleton.mp z)
    · intro g h5 tk5 gs hgb hag hsz5 hk5 W5 hat
      simp only [GxR.passing_true, List.length_range] at W5
      refine hQ a H1 g _ q1 ⟨_, _, _, _, _, W5.in4_1, hat, ?_, fun s' hm => ?_⟩
      · intro j y sj Qj Ej hy hQj
        obtain ⟨i, hij, cc, hcc, rfl⟩ := hy
        obtain ⟨hj, ej⟩ := List.getElem?_eq_some_iff.mp hij
        rw [List.getElem_range] at ej
        subst ej
        have e9 : a.cps.toList[j]? = some cc := by rw [Array.getElem?_toList]; exact hcc
        have hQ2 : Qj (trF pb a.cps.toList j) sj := hQj
        rw [trF_some e9] at hQ2
        exact wpAny_truthy_bool hQ2
      · have nwr : ∀ b u, s1.heap.get? b = some u → b ∉ h3.objs.size :: [s1.heap.objs.size] := fun b u e hb => by
          have hl := Heap.lt_size e
          rcases List.mem_cons.mp hb with z | z
          · exact Nat.ne_of_lt (Nat.lt_of_lt_of_le (Nat.lt_trans hl (Nat.lt_succ_self _)) (Nat.le_trans (Nat.le_of_eq szp.symm) hsz)) z
          · exact Nat.ne_of_lt hl (List.mem_singleton.mp z)
        have J := inv_tab (more := more) (h' := s'.heap) (g' := s'.gens) (d' := s'.drawn) (t' := s'.toks) I1 hP (fun b u hb e => hm.heap b u (nwr b u e) (hk5 b u (old b u hb e)))
          (hm.heap P _ (nwr P _ eP) (hk5 P _ e3)) (AllBare.movedS (I1.bare.push hgb) hm)
        rw [sh_eta s1 s' hm.os] at J
        exact ⟨upd H1 P (.tbl (ps ++ more)), ⟨⟨ps ++ more, upd_same, ht3⟩, fun b hb => upd_ne hb⟩, J⟩
  refine ⟨lim, ?_⟩
  cases hf : codeAmong gpos ps.toList with
  | none =>
    refine wpAny_genexprCodeX hcode (cd.code eP2 ht) (cd.tab eP2) hf fun c' h' tk hx hge hlt hco' _ htab' _ => ?_
    obtain ⟨o1, vs, f1, tf, fl, tg, inF, tx, tt, op, _, _, _, _, _, _, _, _, _, htr, _⟩ := hco'
    exact go _ h' tk _ hx (Nat.le_trans hge (Nat.le_of_lt hlt)) htab'.2 htr
  | some cv =>
    refine wpAny_genexprCode_hit hcode (cd.code eP2 ht) hf ?_
    refine go cv (s1.heap.push o) s1.toks #[] (Heap.ExtBut.refl _ _) (Nat.le_refl _) ?_ ?_
    · rw [Array.append_empty]; exact eP2
    · rw [Array.append_empty]; exact ht

/-- all(test for x in e), e a text -/
theorem pe_allB {c P : Addr} {elt iter : Expr} {x : Str} {px p pos gpos : Pos} {scope : Scope} {pb : Nat → Bool} {te : TE} {k : Nat}
    (hr : Room k X.A) (hg : Gl X "all") (hm : X.mg "all" = none) (TB : TabB X.base X.mg c P) (hcode : X.env.code = .ref c) (S : GenS X.env scope x) (hi : PE X iter te) (hel : EltB X.prog X.w X.base scope x elt pb)
    (hs : ∀ v, genFold iter X.env v = pure v)
    (he : starEach [.GeneratorExp elt [⟨.Name x px, iter, [], 0⟩] scope gpos] X.env = (false, eval (.GeneratorExp elt [⟨.Name x px, iter, [], 0⟩] scope gpos) X.env) :: starEach [] X.env := by rfl) :
    PE X (.Call (.Name "all" p) [.GeneratorExp elt [⟨.Name x px, iter, [], 0⟩] scope gpos] [] pos) (tAllS P pb te) := by
  refine ⟨fun pins s σ H Q I h => ?_⟩
  refine wpAny_Call_Name_kw (ld_blt I hg hm (by decide +kernel : bootBuiltins "all" = some (.builtin "all")) ?_)
  refine PyProof.Rows.callWith_builtin1 ?_ he (by rfl)
  rw [he]
  refine Calls.spliced_cons (genB (R := fun a H1 => ∀ H2, Tabbed P H1 H2 → Q (.bl (a.cps.toList.all pb)) H2) hr TB hcode S hi hel hs I h fun a H1 g z hR hG => Calls.spliced_nil ?_)
  obtain ⟨fp, wr, G, F, St, W, hst, htr, hI⟩ := hG
  refine call_all_walkS (W.self 0 _ _ _ hst ⟨g, fp, wr, G, _, F, St, _, rfl, W, hst, htr, fun s' hmv => ?_⟩)
  obtain ⟨H2, hT, J⟩ := hI s' hmv
  exact ⟨.bl _, H2, J, rfl, by rw [all_signs a pb]; exact hR H2 hT⟩
end
end MyG

set_option Elab.async false
set_option linter.all false
set_option maxRecDepth 100000
set_option maxHeartbeats 4000000
/-! set(xs) of a list or a tuple, by what one adding does: J i h says what the set at S holds of the first i items in the heap h. -/
namespace MyS
open PySem PySem.Spec PyProof.Rows L2
section
variable {P : Program} {w : World} {A : Around} {E : Value → Shared → Prop} {s : Shared}
/-- one adding -/
def Adds (P : Program) (w : World) (A : Around) (S : Addr) (h0 : Heap) (J : Nat → Heap → Prop) (i : Nat) (v : Value) : Prop :=
  ∀ (z : Shared) (Q : Bool → Shared → Prop) (E : Value → Shared → Prop), J i z.heap → (∀ b o, h0.get? b = some o → z.heap.get? b = some o) →
    (∀ b h' tk, z.toks ≤ tk → Heap.SameBut S z.heap h' → J (i + 1) h' → Q b { z with heap := h', toks := tk }) → wpAny (model P w) A (setAdd S v) Q E z
def KeepsJ (S : Addr) (h0 : Heap) (J : Nat → Heap → Prop) : Prop := ∀ i h h', J i h → (∀ o, h.get? S = some o → h'.get? S = some o) → (∀ b o, h0.get? b = some o → h'.get? b = some o) → J i h'
theorem loopJ {I : Addr} {fp wr : List Addr} {G : Array GenState → Array GenState → Prop} {n : Nat} {Pv : Nat → Value → Prop} {St : Nat → Shared → Prop} {R : Result → Shared → Prop} {J : Nat → Heap → Prop} {S : Addr} {h0 : Heap}
    (W : WalksS P w A.in1 I fp wr G n Pv St) (hSf : S ∉ fp) (hS0 : h0.get? S = none) (hw0 : ∀ b ∈ wr, h0.get? b = none) (kj : KeepsJ S h0 J) (step : ∀ i v, i < n → Pv i v → Adds P w A.in1 S h0 J i v) :
    ∀ (k i : Nat) (z : Shared), n - i = k → i ≤ n → St i z → (∀ b o, h0.get? b = some o → z.heap.get? b = some o) → J i z.heap →
      (∀ z', Moved (S :: wr) G z z' → J n z'.heap → (∀ b o, h0.get? b = some o → z'.heap.get? b = some o) → R (.ok (.ret .none)) z') →
      codeAny (model P w) A (.builtin "set.update.loop" ⟨[.ref S, .ref I], []⟩) R z := by
  have Sw : S ∉ wr := fun h => hSf (W.sub _ h)
  have up : ∀ b ∈ wr, b ∈ S :: wr := fun b hb => List.mem_cons_of_mem _ hb
  have old : ∀ {z z' : Shared}, Moved wr G z z' → (∀ b o, h0.get? b = some o → z.heap.get? b = some o) → ∀ b o, h0.get? b = some o → z'.heap.get? b = some o := fun m k b o e =>
    m.heap b o (fun hb => by rw [hw0 b hb] at e; cases e) (k b o e)
  intro k
  induction k with
  | zero =>
    intro i z hk hi hst hkp hJ hR
    obtain rfl : i = n := by omega
    refine codeAny_builtin F.entry_set_update_loop ?_
    rw [Around.under_plainId F.plain_set_update_loop _]
    show wpAny _ A.in1 (pyNext (.ref I) >>= _) _ _ z
    refine wpAny_bind (W.done z _ _ hst fun z' m => ?_)
    show wpAny _ A.in1 (ret Value.none) _ _ z'
    have o' := old m hkp
    exact wpAny_pure (hR z' (m.mono up) (kj _ _ _ hJ (fun o e => m.heap S o Sw e) o') o')
  | succ k ih =>
    intro i z hk hi hst hkp hJ hR
    have lt : i < n := by omega
    refine codeAny_builtin F.entry_set_update_loop ?_
    rw [Around.under_plainId F.plain_set_update_loop _]
    show wpAny _ A.in1 (pyNext (.ref I) >>= _) _ _ z
    refine wpAny_bind (W.item i z _ _ lt hst fun v z' hP hst' m => ?_)
    have o' := old m hkp
    show wpAny _ A.in1 (holding [v] (setAdd S v) >>= _) _ _ z'
    refine wpAny_bind (wpAny_holding (step i v lt hP z' _ _ (kj _ _ _ hJ (fun o e => m.heap S o Sw e) o') o' fun b h' tk ht sb hJ2 => ?_))
    have nS : ∀ {b : Addr}, b ≠ S → ∀ o, z'.heap.get? b = some o → h'.get? b = some o := fun hb o e => (sb.2 _ hb).trans e
    have o2 : ∀ b o, h0.get? b = some o → h'.get? b = some o := fun b o e => nS (fun q => by rw [q, hS0] at e; cases e) o (o' b o e)
    refine wpAny_pure ⟨plainId_quiet F.plain_set_update_loop _, ih (i + 1) _ (by omega) lt (W.frame _ z' _ _ hst' ht fun b hb o e => nS (fun q => hSf (by rw [← q]; exact hb)) o e) o2 hJ2 fun z2 m2 hJ3 o3 => ?_⟩
    exact hR z2 (Moved.trans W.gtrans ((m.mono up).then_heap ht fun b o hb e => nS (fun q => hb (by rw [q]; exact List.mem_cons_self)) o e) m2) hJ3 o3

abbrev freshSet (w : World) : Obj := { cls := .type "set", dict := none, data := .set #[] 0 (.fresh 0 0 (!w.params.followText "set-order")) }
theorem gone_of {h : Heap} {b : Addr} (hb : h.objs.size ≤ b) : h.get? b = none := by
  cases q : h.get? b with
  | none => rfl
  | some o => exact absurd (Nat.lt_of_lt_of_le (Heap.lt_size q) hb) (Nat.lt_irrefl _)
theorem code_new (a : Value) {Q₁ : Value → Shared → Prop} (h : Q₁ (.ref s.heap.objs.size) { s with heap := s.heap.push (freshSet w) }) :
    codeAny (model P w) A (.call (.builtin "set.__new__") ⟨[.type "set", a], []⟩) (wants Q₁ E) s := code_set_led1 a h
set_option maxHeartbeats 3200000 in
/-- set(l), l a list or a tuple of n items -/
theorem call_setJ {l : Addr} {items : Array Value} {J : Nat → Heap → Prop} {Q : Value → Shared → Prop} (hh : A.handled = none) (hl : s.heap.IsList l items ∨ s.heap.IsTuple l items) (hJ0 : ∀ h, h.get? s.heap.objs.size = some (freshSet w) → J 0 h)
    (kj : KeepsJ s.heap.objs.size s.heap J) (hex : ∀ h, J items.size h → ∃ o, h.get? s.heap.objs.size = some o) (step : ∀ (A' : Around), A'.units ≤ A.units + 4 → ∀ i v, items[i]? = some v → Adds P w A' s.heap.objs.size s.heap J i v)
    (h : ∀ (h' : Heap) (tk : Nat), J items.size h' → (∀ b o, s.heap.get? b = some o → h'.get? b = some o) → (∃ o, h'.get? s.heap.objs.size = some o) → Q (.ref s.heap.objs.size) { s with heap := h', toks := tk }) :
    wpAny (model P w) A (call (.type "set") [.ref l]) Q E s := by
  obtain ⟨c, tl, hmro⟩ := F.called_set.mro
  have hmade := F.called_set.made
  have hsub := F.called_set.sub
  refine wpAny_call (codeAny_of_tree ?_)
  show wpAny _ _ (callAny (.type "set") _) _ _ _
  refine wpAny_pure ⟨Code.quiet_builtin _ (by decide +kernel), codeAny_builtin F.entry_type_call ?_⟩
  rw [Around.under_plain (weight_type_call_type "set" [.ref l] []) rfl]
  have h1 := F.called_set.notType
  have h2 := F.called_set.canCreate
  have hct := F.typeCall_set_1 (.ref l)
  repeat (any_goals (first | assumption | wp_step))

  refine codeAny_mono (code_new (.ref l) (E := E) (Q₁ := fun obj z => obj = .ref s.heap.objs.size ∧ z = { s with heap := s.heap.push (freshSet w) }) ⟨rfl, rfl⟩) fun r z hr => ?_
  cases r with
  | error e => exact hr
  | ok fl =>
    cases fl with
    | ret obj =>
      obtain ⟨rfl, rfl⟩ := hr
      have hS : (s.heap.push (freshSet w)).get? s.heap.objs.size = some (freshSet w) := Heap.get?_push_size _ rfl
      have hT : Shared.TypeIs { s with heap := s.heap.push (freshSet w) } (.ref s.heap.objs.size) "set" := ⟨_, hS, rfl⟩
      have hli := F.called_set.init.lookup
      have hbi := F.called_set.init.bind (.ref s.heap.objs.size)
      repeat (any_goals (first | assumption | wp_step))

      refine codeAny_mono (codeAny_call_builtin (R := wants (fun r z => r = .none ∧ ∃ h' tk, z = { s with heap := h', toks := tk } ∧ J items.size h' ∧ (∀ b o, s.heap.get? b = some o → h'.get? b = some o) ∧ ∃ o, h'.get? s.heap.objs.size = some o) E) F.called_set.init.plain F.entry_set_init (check_set_init_1 hT ?_)) fun r₂ z₂ hr₂ => ?_
      · have hneS : ∀ b o, s.heap.get? b = some o → b ≠ s.heap.objs.size := fun b o e z => Nat.lt_irrefl _ (z ▸ Heap.lt_size e)
        have szp : (s.heap.push (freshSet w)).objs.size = s.heap.objs.size + 1 := Heap.size_push ..
        have hu3 : (A.in1.in1.in1).units ≤ A.units + 4 := by have e : (A.in1.in1.in1).units = A.units + 3 := rfl; omega
        rcases hl with hl | hl
        · obtain ⟨ol, hol, hcl, nl, hdl⟩ := hl
          obtain ⟨ocls, odict, odata, oslots⟩ := ol
          simp only at hcl hdl
          subst hcl; subst hdl
          have hol' : (s.heap.push (freshSet w)).get? l = some { cls := .type "list", dict := odict, data := .seq items nl, slots := oslots } := Heap.get?_push_of_some _ hol
          have hsls := F.sub_list_set
          have hslf := F.sub_list_frozenset
          have hne : (Value.type "list" == Value.type "dict") = false := by decide
          have hl1 : (s.heap.push (freshSet w)).IsList l items := ⟨_, hol', rfl, nl, rfl⟩
          unfold Builtin.«set.__init__» noKeywords Builtin.Frozenset.updateFrom
          generalize hPI : pyIter = PI
          wp_walk
          subst hPI

          refine wpAny_pyIter_list hl1 ?_
          refine wpAny_bind (wpAny_runValue ?_)
          have hlS : l < s.heap.objs.size := Heap.lt_size hol
          have hneI : l ≠ (s.heap.push (freshSet w)).objs.size := by
            rw [szp]; exact Nat.ne_of_lt (Nat.lt_succ_of_lt hlS)
          have hSf : s.heap.objs.size ∉ [(s.heap.push (freshSet w)).objs.size, l] := fun z => by
            rw [szp] at z
            rcases List.mem_cons.mp z with z | z
            · exact Nat.ne_of_lt (Nat.lt_succ_self _) z
            · exact Nat.ne_of_gt hlS (List.mem_singleton.mp z)
          refine loopJ (S := s.heap.objs.size) (h0 := s.heap) (J := J) ((Walks.list (show A.in1.in1.in1.handled = none by simp [hh]) _ l hneI items).toS) hSf (gone_of (Nat.le_refl _)) (fun b hb => gone_of (by
              rw [List.mem_singleton.mp hb, szp]
              exact Nat.le_succ _)) kj (fun i v _ hv => step _ hu3 i v hv) (items.size - 0) 0 _ (by omega) (Nat.zero_le _)
            ⟨⟨_, Heap.get?_push_size _ rfl, rfl, rfl⟩, (hl1.push _)⟩ (fun b o e => Heap.get?_push_of_some _ (Heap.get?_push_of_some _ e)) (hJ0 _ (Heap.get?_push_of_some _ hS)) ?_
          intro z' m hJ o'
          have hso : ∃ o, z'.heap.get? s.heap.objs.size = some o := hex _ hJ
          obtain ⟨h', g2, d', tk', os'⟩ := z'
          have eg : g2 = s.gens := m.gens
          have ed : d' = s.drawn := m.drawn
          have eo : os' = s.os := m.os
          subst eg; subst ed; subst eo
          show wpAny _ _ _ _ _ _
          refine wpAny_pure ?_
          show wpAny _ _ (ret Value.none) _ _ _
          exact wpAny_pure ⟨rfl, h', tk', rfl, hJ, o', hso⟩
        · obtain ⟨ol, hol, hcl, nl, hdl⟩ := hl
          obtain ⟨ocls, odict, odata, oslots⟩ := ol
          simp only at hcl hdl
          subst hcl; subst hdl
          have hol' : (s.heap.push (freshSet w)).get? l = some { cls := .type "tuple", dict := odict, data := .seq items nl, slots := oslots } := Heap.get?_push_of_some _ hol
          have hsls := F.sub_tuple_set
          have hslf := F.sub_tuple_frozenset
          have hne : (Value.type "tuple" == Value.type "dict") = false := by decide
          have hl1 : (s.heap.push (freshSet w)).IsTuple l items := ⟨_, hol', rfl, nl, rfl⟩
          unfold Builtin.«set.__init__» noKeywords Builtin.Frozenset.updateFrom
          generalize hPI : pyIter = PI
          wp_walk
          subst hPI

          refine wpAny_pyIter_tuple hl1 ?_
          refine wpAny_bind (wpAny_runValue ?_)
          have hlS : l < s.heap.objs.size := Heap.lt_size hol
          have hneI : l ≠ (s.heap.push (freshSet w)).objs.size := by
            rw [szp]; exact Nat.ne_of_lt (Nat.lt_succ_of_lt hlS)
          have hSf : s.heap.objs.size ∉ [(s.heap.push (freshSet w)).objs.size, l] := fun z => by
            rw [szp] at z
            rcases List.mem_cons.mp z with z | z
            · exact Nat.ne_of_lt (Nat.lt_succ_self _) z
            · exact Nat.ne_of_gt hlS (List.mem_singleton.mp z)
          refine loopJ (S := s.heap.objs.size) (h0 := s.heap) (J := J) ((Walks.tuple (show A.in1.in1.in1.handled = none by simp [hh]) _ l hneI items).toS) hSf (gone_of (Nat.le_refl _)) (fun b hb => gone_of (by
              rw [List.mem_singleton.mp hb, szp]
              exact Nat.le_succ _)) kj (fun i v _ hv => step _ hu3 i v hv) (items.size - 0) 0 _ (by omega) (Nat.zero_le _)
            ⟨⟨_, Heap.get?_push_size _ rfl, rfl, rfl⟩, (hl1.push _)⟩ (fun b o e => Heap.get?_push_of_some _ (Heap.get?_push_of_some _ e)) (hJ0 _ (Heap.get?_push_of_some _ hS)) ?_
          intro z' m hJ o'
          have hso : ∃ o, z'.heap.get? s.heap.objs.size = some o := hex _ hJ
          obtain ⟨h', g2, d', tk', os'⟩ := z'
          have eg : g2 = s.gens := m.gens
          have ed : d' = s.drawn := m.drawn
          have eo : os' = s.os := m.os
          subst eg; subst ed; subst eo
          show wpAny _ _ _ _ _ _
          refine wpAny_pure ?_
          show wpAny _ _ (ret Value.none) _ _ _
          exact wpAny_pure ⟨rfl, h', tk', rfl, hJ, o', hso⟩
      · cases r₂ with
        | error e => exact hr₂
        | ok fl₂ =>
          cases fl₂ with
          | ret r =>
            obtain ⟨rfl, h', tk, rfl, hJ, hk', ho⟩ := hr₂
            repeat (any_goals (first | assumption | wp_step))
            exact h _ _ hJ hk' ho
          | _ => exact hr₂.elim
    | _ => exact hr.elim
end
end MyS

set_option Elab.async false
set_option linter.all false
set_option maxRecDepth 100000
set_option maxHeartbeats 4000000
/-! len(set(xs)) of a list or a tuple of texts: as many as there are different ones. -/
namespace MyS
open PySem PySem.Spec PyProof.Rows L2
theorem nodup_snoc {α : Type} {l : List α} {x : α} : (l ++ [x]).Nodup ↔ l.Nodup ∧ x ∉ l := by
  rw [List.nodup_append]
  constructor
  · rintro ⟨h1, _, h3⟩
    exact ⟨h1, fun h => h3 x h x (List.mem_singleton.mpr rfl) rfl⟩
  · rintro ⟨h1, h2⟩
    refine ⟨h1, by simp, fun a ha b hb e => ?_⟩
    rw [List.mem_singleton.mp hb] at e
    exact h2 (e ▸ ha)
/-- how many different ones the first i items are: n, whole exactly if they all differ -/
structure Cnt {α : Type} (l : List α) (n : Nat) : Prop where
  le : n ≤ l.length
  eq : n = l.length ↔ l.Nodup
theorem Cnt.nil {α : Type} : Cnt ([] : List α) 0 := ⟨Nat.le_refl _, ⟨fun _ => List.nodup_nil, fun _ => rfl⟩⟩
theorem Cnt.old {α : Type} {l : List α} {n : Nat} {x : α} (c : Cnt l n) (h : x ∈ l) : Cnt (l ++ [x]) n := by
  have h1 := c.le
  refine ⟨by rw [List.length_append]; exact Nat.le_succ_of_le h1, ?_⟩
  rw [List.length_append, List.length_singleton]
  exact ⟨fun e => absurd e (by omega), fun e => absurd h (nodup_snoc.mp e).2⟩
theorem Cnt.new {α : Type} {l : List α} {n : Nat} {x : α} (c : Cnt l n) (h : x ∉ l) : Cnt (l ++ [x]) (n + 1) := by
  have h1 := c.le
  refine ⟨by rw [List.length_append, List.length_singleton]; omega, ?_⟩
  rw [List.length_append, List.length_singleton, nodup_snoc, ← c.eq]
  constructor
  · intro e; exact ⟨by omega, h⟩
  · rintro ⟨e, _⟩; omega
section
variable {P : Program} {w : World} {A : Around} {E : Value → Shared → Prop} {s : Shared}
/-- the set at S behind the first i texts -/
def JT (P : Program) (w : World) (S : Addr) (xs : List Str) (i : Nat) (h : Heap) : Prop := ∃ n M, h.SetOf (PySem.strKind P w) S M n ∧ (∀ k, M k = true ↔ k ∈ xs.take i) ∧ Cnt (xs.take i) n
theorem take_snoc {α : Type} {l : List α} {i : Nat} {x : α} (h : l[i]? = some x) : l.take (i + 1) = l.take i ++ [x] := by rw [List.take_succ, h]; rfl
theorem JT.adds {S : Addr} {xs : List Str} {h0 : Heap} {i : Nat} {x : Str} {t : Tok} (hx : xs[i]? = some x) (hb : xs.length + 1 < scanBound) : Adds P w A S h0 (JT P w S xs) i (.str x t) := by
  intro z Q E hJ hk hQ
  obtain ⟨n, M, hS, hM, hc⟩ := hJ
  have hi : i < xs.length := (List.getElem?_eq_some_iff.mp hx).1
  have hn := hc.le
  rw [List.length_take] at hn
  unfold setAdd
  refine wpAny_holding ?_
  refine wpAny_bind ((PySem.strKind P w).pyHash (k := x) (strKind_is _ _ _ _) ?_)
  refine wpAny_setAddHashed_of (knd := PySem.strKind P w) (s := { z with toks := z.toks + 1 }) (strKind_is _ _ _ _) rfl hS (by omega) fun h' sb hS2 => ?_
  refine hQ _ h' _ (Nat.le_succ _) sb ⟨_, _, hS2, fun k => ?_, ?_⟩
  · rw [take_snoc hx, Bool.or_eq_true, hM k, decide_eq_true_eq, List.mem_append, List.mem_singleton]
  · rw [take_snoc hx]
    by_cases q : M x = true
    · rw [if_pos q]
      exact hc.old ((hM x).mp q)
    · rw [if_neg q]
      exact hc.new fun m => q ((hM x).mpr m)
theorem JT.keeps {S : Addr} {xs : List Str} {h0 : Heap} : KeepsJ S h0 (JT P w S xs) := by
  rintro i h h' ⟨n, M, ⟨o, es, ep, t, ho, r⟩, hM, hc⟩ k1 _
  exact ⟨n, M, ⟨o, es, ep, t, k1 o ho, r⟩, hM, hc⟩
theorem JT.zero {S : Addr} {xs : List Str} {h : Heap} (ho : h.get? S = some (freshSet w)) : JT P w S xs 0 h := by
  refine ⟨0, fun _ => false, ⟨_, #[], 0, _, ho, ⟨rfl, rfl, rfl⟩, rfl, (fun e he => by simp at he), (fun k => by simp), by decide, rfl, rfl⟩, fun k => by simp, Cnt.nil⟩
end
section
variable {X : Cx}
/-- len(set(xs)) -/
def tLenSetS (K : PySem.W.Frag) (ta : TE) : TE := fun σ H Q => ta σ H fun x H1 => ∃ (l : Addr) (xs : List Str), x = .ref l ∧ (SqL K H1 l (xs.map V.str) ∨ SqT K H1 l (xs.map V.str)) ∧ xs.length ≤ 4000 ∧ ∀ n, Cnt xs n → Q (.int (n : Nat)) H1
theorem strs_get {ys : List Str} {us : List Value} (r : Vals (ys.map V.str) us) {i : Nat} {v : Value} (h : us[i]? = some v) : ∃ x t, ys[i]? = some x ∧ v = .str x t := by
  have hl : i < ys.length := by
    have q := (List.getElem?_eq_some_iff.mp h).1
    have e := r.length
    rw [List.length_map] at e
    omega
  obtain ⟨u, e1, e2⟩ := Vals.get r (i := i) (x := V.str ys[i]) (by rw [List.getElem?_map, List.getElem?_eq_getElem hl]; rfl)
  rw [h] at e1
  cases e1
  obtain ⟨t, e⟩ := e2
  exact ⟨ys[i], t, List.getElem?_eq_getElem hl, e⟩
theorem pe_lenSetS {a : Expr} {ta : TE} {p p2 q pos : Pos} (hc : X.calm = true) (hm : X.mg "len" = none) (hm2 : X.mg "set" = none) (ha : PE X a ta) (hg : Gl X "len" := by rfl) (hg2 : Gl X "set" := by rfl)
    (na : starEach [a] X.env = (false, eval a X.env) :: starEach [] X.env := by rfl) : PE X (.Call (.Name "len" p) [.Call (.Name "set" p2) [a] [] q] [] pos) (tLenSetS X.K ta) := by
  refine ⟨fun pins s σ H Q I h => ?_⟩
  refine Call_ (ld_blt I hg hm boot_len ?_)
  refine PyProof.Rows.callWith_builtin1 (PyProof.Rows.args_cons ?_ rfl) rfl rfl
  refine Call_ (ld_blt I hg2 hm2 boot_set ?_)
  refine PyProof.Rows.callWith_type1 (PyProof.Rows.args_cons (thn (ha.run pins s σ H _ I h) fun v s1 ⟨x, H1, I1, r1, q1⟩ => PyProof.Rows.args_nil ?_) na) na rfl
  obtain ⟨l, xs, rfl, hq, h1, q1⟩ := q1
  cases r1
  have go : ∀ (its : List Value), Vals (xs.map V.str) its → (s1.heap.IsList l its.toArray ∨ s1.heap.IsTuple l its.toArray) → wpAny (model X.prog X.w) X.A (call (.type "set") [.ref l])
      (fun v s₂ => wpAny (model X.prog X.w) X.A (spliced (backTo pos (starEach [] X.env))) (fun vs s₃ => wpAny (model X.prog X.w) X.A (call (.builtin "len") (v :: vs)) (EP X pins σ Q) X.xe s₃) X.xe s₂) X.xe s1 := fun its r hl => by
    have hsz : its.toArray.size = xs.length := by rw [List.size_toArray, ← r.length, List.length_map]
    have hbd : xs.length + 1 < scanBound := by unfold scanBound; omega
    refine call_setJ (J := JT X.prog X.w s1.heap.objs.size xs) (I1.ok.hd hc) hl (fun h ho => JT.zero ho) JT.keeps (fun h hJ => ?_) (fun A' _ i v hv => ?_) fun h' tk hJ hk _ => ?_
    · obtain ⟨n, M, ⟨o, es, ep, t, ho, _⟩, _⟩ := hJ
      exact ⟨o, ho⟩
    · obtain ⟨x, t, hx, rfl⟩ := strs_get r (i := i) (v := v) (by simpa using hv)
      exact JT.adds hx hbd
    · rw [hsz] at hJ
      obtain ⟨n, M, ⟨o, es, ep, t, ho, hex, hd, _, _, _, hf, hn⟩, hM, hcn⟩ := hJ
      rw [List.take_length] at hcn
      have I2 : Inv X pins σ H1 { s1 with heap := h', toks := tk } := I1.kept fun b o e => hk b o e
      refine PyProof.Rows.args_nil ?_
      have hle := hcn.le
      refine call_len_set ho hex hd hf (by rw [hn]; omega) ⟨.int (n : Nat), H1, I2.tok _, ⟨_, by rw [hn]⟩, q1 n hcn⟩
  rcases hq with hq | hq
  · obtain ⟨its, r, pl, hz⟩ := I1.list hq
    exact go its r (.inl pl.isList)
  · obtain ⟨its, r, pl, hz⟩ := I1.tuple hq
    exact go its r (.inr (by first | exact pl | exact pl.isTuple))
end
end MyS

set_option Elab.async false
set_option linter.all false
set_option maxRecDepth 100000
set_option maxHeartbeats 4000000
/-! len(set(xs)) of a list of tuples of texts, fewer than 64: over the library's table of a set (TabOk, go_spec, relaid_ok). -/
namespace MyS
open PySem PySem.Spec PyProof.Rows L2
section
variable {P : Program} {w : World} {A : Around} {E : Value → Shared → Prop} {s : Shared}
/-- the tuple at b has the texts k; its hash -/
abbrev IsP (P : Program) (w : World) (h : Heap) (k : List Str) (b : Addr) : Prop := IsTupleKey (PySem.strKind P w) h k b
abbrev hashP (P : Program) (w : World) (k : List Str) : Int := tupleKeyHash (PySem.strKind P w) k
theorem IsP.keep {h h' : Heap} {k : List Str} {b : Addr} (x : IsP P w h k b) (hk : ∀ o, h.get? b = some o → h'.get? b = some o) : IsP P w h' k b :=
  let ⟨o, items, n, ho, r⟩ := x; ⟨o, items, n, hk o ho, r⟩
theorem strs_of {k : List Str} {vs : List Value} (h : ItemsAre (PySem.strKind P w) k vs) : ∀ v ∈ vs, ∃ x t, v = Value.str x t := by
  induction h with
  | nil => intro v hv; cases hv
  | @cons k0 v' ks vs h1 _ ih =>
    intro v hv
    rcases List.mem_cons.mp hv with e | hv
    · obtain ⟨t, e2⟩ := Value.isStrOf_shape h1
      exact ⟨k0, t, e.trans e2⟩
    · exact ih v hv
/-- a text is of no class statement -/
theorem noClass_str (n : Nat) (x : Str) (t : Tok) : ofAClassStatement n (.str x t) = pure false := by cases n <;> rfl
theorem hashBy_str (n : Nat) (x : Str) (t : Tok) : hashByValue n (.str x t) = pure false := by cases n <;> rfl
theorem noClass {k : List Str} {b : Addr} {Q : Bool → Shared → Prop} (hk : IsP P w s.heap k b) (h : Q false s) : wpAny (model P w) A (ofAClassStatement 8 (.ref b)) Q E s := by
  have hT := hk.typeIs
  obtain ⟨o, items, n, ho, _, hd, hi⟩ := hk
  unfold ofAClassStatement
  refine wpAny_bind (wpAny_typeOf hT ?_)
  have e : (("tuple" : String) == "tuple") = true := by decide
  simp only [e, if_true, Bool.not_true, Bool.false_eq_true, if_false]
  try refine wpAny_bind (wpAny_pure ?_)
  try simp only [Bool.not_true, Bool.false_eq_true, if_false]
  show wpAny _ _ (seqItems? (.ref b) >>= _) _ _ s
  refine wpAny_bind (wpAny_seqItems ho hd ?_)
  refine wpAny_bind ?_
  show wpAny _ _ (forIn items _ _) _ _ s
  rw [← Array.forIn_toList]
  refine wpAny_forIn_list _ (fun rest r z => r.1 = none ∧ z = s ∧ ∀ v ∈ rest, ∃ x t, v = Value.str x t) _ ?_ ?_ _ _ ⟨rfl, rfl, strs_of hi⟩
  · rintro v rest r z ⟨hr, rfl, hall⟩
    obtain ⟨x, t, rfl⟩ := hall v List.mem_cons_self
    rw [noClass_str]
    refine wpAny_bind (wpAny_pure ?_)
    simp only [Bool.false_eq_true, if_false]
    exact wpAny_pure ⟨rfl, rfl, fun u hu => hall u (List.mem_cons_of_mem _ hu)⟩
  · rintro ⟨r1, r2⟩ z ⟨hr, rfl, _⟩
    simp only at hr
    subst hr
    exact wpAny_pure h
/-- whether the hash is by value: either answer will do -/
theorem hashBy {k : List Str} {b : Addr} {Q : Bool → Shared → Prop} (hk : IsP P w s.heap k b) (h : ∀ r, Q r s) : wpAny (model P w) A (hashByValue 8 (.ref b)) Q E s := by
  have hT := hk.typeIs
  obtain ⟨o, items, n, ho, _, hd, hi⟩ := hk
  unfold hashByValue
  refine wpAny_bind (wpAny_specialOf hT F.slot_tuple_hash.lookup ?_)
  show wpAny _ _ (seqItems? (.ref b) >>= _) _ _ s
  refine wpAny_bind (wpAny_seqItems ho hd ?_)
  refine wpAny_bind ?_
  show wpAny _ _ (forIn items _ _) _ _ s
  rw [← Array.forIn_toList]
  refine wpAny_forIn_list _ (fun rest r z => r.1 = none ∧ z = s ∧ ∀ v ∈ rest, ∃ x t, v = Value.str x t) _ ?_ ?_ _ _ ⟨rfl, rfl, strs_of hi⟩
  · rintro v rest r z ⟨hr, rfl, hall⟩
    obtain ⟨x, t, rfl⟩ := hall v List.mem_cons_self
    rw [hashBy_str]
    refine wpAny_bind (wpAny_pure ?_)
    simp only [Bool.not_false, if_true]
    exact wpAny_pure (wpAny_pure (h _))
  · rintro ⟨r1, r2⟩ z ⟨hr, rfl, _⟩
    simp only at hr
    subst hr
    exact wpAny_pure (h _)
/-- a search among such tuples shows nothing -/
theorem unseen {k : List Str} {b : Addr} {Q : Bool → Shared → Prop} (hk : IsP P w s.heap k b) {ys : List Value} (hy : ∀ y ∈ ys, ∃ k' c, y = Value.ref c ∧ IsP P w s.heap k' c) (h : Q false s) :
    wpAny (model P w) A (searchCouldBeSeen (.ref b) ys) Q E s := by
  unfold searchCouldBeSeen
  refine wpAny_bind ?_
  refine wpAny_forIn_list _ (fun rest r z => r.1 = none ∧ z = s ∧ ∀ y ∈ rest, ∃ k' c, y = Value.ref c ∧ IsP P w s.heap k' c) _ ?_ ?_ _ _ ⟨rfl, rfl, hy⟩
  · rintro v rest r z ⟨hr, rfl, hall⟩
    obtain ⟨k', c, rfl, hc⟩ := hall v List.mem_cons_self
    have more : ∀ y ∈ rest, ∃ k' c, y = Value.ref c ∧ IsP P w z.heap k' c := fun u hu => hall u (List.mem_cons_of_mem _ hu)
    by_cases hv : (b == c || (carriedByValue (.ref b) && carriedByValue (.ref c))) = true
    · refine wp_if_pos hv ?_
      exact wpAny_pure ⟨rfl, rfl, more⟩
    · refine wp_if_neg hv ?_
      refine wpAny_bind (wpAny_eqIsQuiet_tuple hk ?_)
      simp only [Bool.not_true, Bool.false_eq_true, if_false]
      refine wpAny_bind (wpAny_eqIsQuiet_tuple hc ?_)
      simp only [Bool.not_true, Bool.false_eq_true, if_false]
      refine wpAny_bind (noClass hk ?_)
      simp only [Bool.false_eq_true, if_false]
      refine wpAny_bind (noClass hc ?_)
      simp only [Bool.false_eq_true, if_false]
      exact wpAny_pure ⟨rfl, rfl, more⟩
  · rintro ⟨r1, r2⟩ z ⟨hr, rfl, _⟩
    simp only at hr
    subst hr
    exact wpAny_pure h

/-! ### the set at a, its tuples in the table's order -/
def rowP (P : Program) (w : World) (p : Addr × List Str) : Int × Value := (hashP P w p.2, .ref p.1)
structure PSet (P : Program) (w : World) (h : Heap) (a : Addr) (L : List (Addr × List Str)) (es : Array (Int × Value)) (ep : Nat) (t : SetTable) : Prop where
  ob : ∃ o, h.get? a = some o ∧ o.ExactSet ∧ o.data = .set es ep t
  rows : es.toList = L.map (rowP P w)
  tab : TabOk t (L.map fun p => hashP P w p.2)
  nd : (L.map (·.2)).Nodup
  tup : ∀ p ∈ L, IsP P w h p.2 p.1
  room : L.length * 5 < t.mask * 3
  few : L.length < 64
  led : w.params.followText "set-order" = true ∨ t.led = true
variable {a : Addr} {L : List (Addr × List Str)} {es : Array (Int × Value)} {ep : Nat} {t : SetTable}
theorem PSet.size (R : PSet P w s.heap a L es ep t) : es.size = L.length := by
  have h := congrArg List.length R.rows
  rwa [Array.length_toList, List.length_map] at h
theorem PSet.fits (R : PSet P w s.heap a L es ep t) : t.fits es.size = true := by
  have h1 := R.tab.sz
  rw [List.length_map] at h1
  have h2 := R.size
  have h3 := R.room
  unfold SetTable.fits SetTable.fill
  rw [R.tab.dm, Bool.and_eq_true, beq_iff_eq, decide_eq_true_eq]
  show t.place.size = es.size ∧ t.place.size + 0 ≤ t.mask
  omega
theorem PSet.entry (R : PSet P w s.heap a L es ep t) {i : Nat} {p : Addr × List Str} (h : L[i]? = some p) : es[i]? = some (rowP P w p) := by
  rw [← Array.getElem?_toList, R.rows, List.getElem?_map, h]
  rfl
/-- the way of the hash g through the table: the probe behind k steps -/
abbrev stepP (m : Nat) (g : Int) (k : Nat) : SetTable.Probe := nth m (runAt m (SetTable.bits g % (m + 1)) (SetTable.bits g)) k
theorem stepP_add (m : Nat) (g : Int) (c q : Nat) : nth m (stepP m g c) q = stepP m g (c + q) := (nth_add m c _ q).symm
theorem stepP_clean (m : Nat) (g : Int) (c : Nat) : (stepP m g c).dummy = none := by
  have key : ∀ (n : Nat) (p : SetTable.Probe), p.dummy = none → (nth m p n).dummy = none := by
    intro n
    induction n with
    | zero => intro p h; exact h
    | succ n ih =>
      intro p h
      refine ih (adv m p) ?_
      unfold adv
      split <;> exact h
  exact key c _ rfl
/-- what is asked of the search for k among L: found, or the first free slot of the way -/
structure Seek (P : Program) (w : World) (t : SetTable) (L : List (Addr × List Str)) (k : List Str) (K : Nat) (Q : SetFound → Shared → Prop) (z : Shared) : Prop where
  few : K < 10 * SetTable.turns t.mask
  free : way t.mask (hashP P w k) K ∉ t.place.toList
  full : ∀ c, c < K → way t.mask (hashP P w k) c ∈ t.place.toList
  hit : k ∈ L.map (·.2) → Q (.there none) z
  miss : k ∉ L.map (·.2) → Q (.free (way t.mask (hashP P w k) K) false) z
theorem seek {x : Addr} {k : List Str} {K : Nat} {Q : SetFound → Shared → Prop} (R : PSet P w s.heap a L es ep t) (hx : IsP P w s.heap k x) (hu : A.units < cLine) (B : Seek P w t L k K Q s) :
    ∀ (f c : Nat) (stand : Option SetTable.Probe), stand.getD (t.probeStart (hashP P w k)) = stepP t.mask (hashP P w k) c → c ≤ K → K - c < f →
      (∀ (i : Nat) p, L[i]? = some p → p.2 = k → ∃ c', c ≤ c' ∧ c' < K ∧ t.place.toList[i]? = some (way t.mask (hashP P w k) c')) →
      wpAny (model P w) A (setSearchFrom a (.ref x) (hashP P w k) true f stand) Q E s
  | 0, c, stand, _, _, hf, _ => absurd hf (Nat.not_lt_zero _)
  | f + 1, c, stand, hst, hc, hf, hre => by
    obtain ⟨o, ho, hex, hd⟩ := R.ob
    rw [setSearchFrom_succ]
    refine wpAny_bind (wpAny_setState_of ho hd R.fits ?_)
    dsimp only
    refine wp_if_neg (by unfold SetTable.gaveWay; rw [mask_odd R.tab.mok]; decide) ?_
    try refine wpAny_bind (wpAny_pure ?_)
    have at_ : ∀ q, (nth t.mask (stepP t.mask (hashP P w k) c) q).j = way t.mask (hashP P w k) (c + q) := fun q => congrArg SetTable.Probe.j (stepP_add _ _ _ _)
    have hashAt : ∀ (i : Nat) p, L[i]? = some p → (fun i => (es[i]?.map (·.1)).getD 0) i = hashP P w p.2 := fun i p hp => by
      show (es[i]?.map (·.1)).getD 0 = _
      rw [R.entry hp]
      rfl
    rcases go_spec t R.tab.ris R.tab.dm (fun i => (es[i]?.map (·.1)).getD 0) (hashP P w k) (10 * SetTable.turns t.mask) (K - c) _ (stepP_clean t.mask (hashP P w k) c) (by have := B.few; omega)
      (fun q hq => by rw [at_]; exact B.full (c + q) (by omega)) (by rw [at_, show c + (K - c) = K by omega]; exact B.free) with ⟨q, i, hq, hi, hh, hno, hpr⟩ | ⟨hno, hpr⟩
    · -- a candidate: the entry i at the slot of the step c + q
      have hpr' : t.probe (fun i => (es[i]?.map (·.1)).getD 0) (hashP P w k) (stand.getD (t.probeStart (hashP P w k))) = some (.candidate (way t.mask (hashP P w k) (c + q)) i (stepP t.mask (hashP P w k) (c + (q + 1)))) := by
        rw [hst, ← at_, ← stepP_add]
        exact hpr
      rw [hpr']
      dsimp only
      rw [at_] at hi
      have hil : i < L.length := by
        have h1 : i < t.place.toList.length := (List.getElem?_eq_some_iff.mp hi).1
        have h2 := R.tab.sz
        rw [List.length_map] at h2
        rw [Array.length_toList] at h1
        omega
      obtain ⟨p, hp⟩ : ∃ p, L[i]? = some p := ⟨_, List.getElem?_eq_getElem hil⟩
      have pm : p ∈ L := List.mem_of_getElem? hp
      have rest : wpAny (model P w) A (searchRest a (.ref x) (hashP P w k) true f es t (way t.mask (hashP P w k) (c + q)) i (stepP t.mask (hashP P w k) (c + (q + 1)))) Q E s := by
        unfold searchRest
        rw [R.entry hp]
        dsimp only [rowP]
        refine wpAny_bind (wpAny_holding (wpAny_eqBool_tuple hu (R.tup p pm) hx ?_))
        refine wpAny_bind (wpAny_setState_of ho hd R.fits ?_)
        dsimp only
        by_cases hkk : p.2 = k
        · refine wp_if_pos (by simp [hkk]) ?_
          exact wpAny_pure (B.hit (List.mem_map.mpr ⟨p, pm, hkk⟩))
        · refine wp_if_neg (by simp [hkk]) ?_
          try refine wpAny_bind (wpAny_pure ?_)
          rw [sameMem]
          dsimp only
          have hsl : t.slot (way t.mask (hashP P w k) (c + q)) = .live i := slot_live R.tab.ris hi
          simp only [if_true, hsl, R.entry hp, rowP]
          refine wpAny_bind (wpAny_isSame_ref_self (wpAny_bind (wpAny_pure ?_)))
          simp only [if_true]
          refine wp_if_neg (by simp [hkk]) ?_
          refine seek R hx hu B f (c + (q + 1)) _ rfl (by omega) (by omega) fun i0 p0 h0 hk0 => ?_
          obtain ⟨c', a1, a2, a3⟩ := hre i0 p0 h0 hk0
          refine ⟨c', ?_, a2, a3⟩
          -- what has k is not behind us
          rcases Nat.lt_trichotomy c' (c + q) with y | y | y
          · exact absurd ((hashAt i0 p0 h0).trans (congrArg (hashP P w) hk0)) (hno (c' - c) i0 (by omega) (by rw [at_, show c + (c' - c) = c' by omega]; exact a3))
          · rw [y] at a3
            have s0 := (slot_live R.tab.ris a3).symm.trans hsl
            injection s0 with s0
            rw [s0, hp] at h0
            cases h0
            exact absurd hk0 hkk
          · omega
      by_cases hl : t.led = true
      · refine wp_if_neg (by simp [hl]) ?_
        try refine wpAny_bind (wpAny_pure ?_)
        exact rest
      · refine wp_if_pos (by simp [hl]) ?_
        refine wpAny_bind (unseen hx (fun y hy => ?_) ?_)
        · obtain ⟨e, he, ee⟩ := List.mem_map.mp hy
          have he1 : e ∈ es ∧ e.1 = hashP P w k := by simpa using he
          have he2 : e ∈ es.toList := by simpa using he1.1
          rw [R.rows] at he2
          obtain ⟨p2, hp2, e2⟩ := List.mem_map.mp he2
          exact ⟨p2.2, p2.1, by rw [← ee, ← e2]; rfl, R.tup p2 hp2⟩
        · refine wp_if_neg (by decide) ?_
          try refine wpAny_bind (wpAny_pure ?_)
          exact rest
    · -- the way's first free slot
      have hpr' : t.probe (fun i => (es[i]?.map (·.1)).getD 0) (hashP P w k) (stand.getD (t.probeStart (hashP P w k))) = some (.empty (way t.mask (hashP P w k) K) none) := by
        have e2 : way t.mask (hashP P w k) K = (nth t.mask (stepP t.mask (hashP P w k) c) (K - c)).j := by rw [at_, show c + (K - c) = K by omega]
        rw [hst, e2]
        exact hpr
      rw [hpr']
      dsimp only
      refine wpAny_pure (B.miss fun hm => ?_)
      obtain ⟨p0, h0, hk0⟩ := List.mem_map.mp hm
      obtain ⟨i0, hi0, e0⟩ := List.getElem_of_mem h0
      have h00 : L[i0]? = some p0 := by rw [List.getElem?_eq_getElem hi0, e0]
      obtain ⟨c', a1, a2, a3⟩ := hre i0 p0 h00 hk0
      exact hno (c' - c) i0 (by omega) (by rw [at_, show c + (c' - c) = c' by omega]; exact a3) ((hashAt i0 p0 h00).trans (congrArg (hashP P w) hk0))
/-- the search as adding asks for it -/
theorem seek_all {x : Addr} {k : List Str} {Q : SetFound → Shared → Prop} (R : PSet P w s.heap a L es ep t) (hx : IsP P w s.heap k x) (hu : A.units < cLine) (hit : k ∈ L.map (·.2) → Q (.there none) s)
    (miss : ∀ K, k ∉ L.map (·.2) → way t.mask (hashP P w k) K ∉ t.place.toList → (∀ c, c < K → way t.mask (hashP P w k) c ∈ t.place.toList) → Q (.free (way t.mask (hashP P w k) K) false) s) :
    wpAny (model P w) A (setSearch a (.ref x) (hashP P w k) true) Q E s := by
  have hroom := R.room
  obtain ⟨K, f1, f2, f3⟩ := R.tab.first (by rw [List.length_map]; omega) (hashP P w k)
  have big : K < 100000 := by
    have : 10 * SetTable.turns t.mask ≤ 1420 := by
      unfold SetTable.turns
      rcases R.tab.mok with e | e | e <;> omega
    omega
  unfold setSearch
  refine seek R hx hu ⟨f1, f2, f3, hit, fun hn => miss K hn f2 f3⟩ 100000 0 none rfl (Nat.zero_le _) (by omega) fun i p hp hk => ?_
  have hi : (L.map fun p => hashP P w p.2)[i]? = some (hashP P w k) := by rw [List.getElem?_map, hp, ← hk]; rfl
  have hil : i < t.place.toList.length := by
    have h1 : i < L.length := (List.getElem?_eq_some_iff.mp hp).1
    have h2 := R.tab.sz
    rw [List.length_map] at h2
    rw [Array.length_toList]
    omega
  obtain ⟨c, hc, e⟩ := R.tab.before f2 hi (List.getElem?_eq_getElem hil)
  exact ⟨c, Nat.zero_le _, hc, by rw [List.getElem?_eq_getElem hil, e]⟩
/-- the entries in another order -/
theorem reorder {α : Type} (row : α → Int × Value) (L : List α) (es : Array (Int × Value)) (order : Array Nat) (hr : es.toList = L.map row) (hp : order.toList.Perm (List.range L.length)) :
    ∃ L2 : List α, (order.filterMap (es[·]?)).toList = L2.map row ∧ L2.Perm L ∧ (L2.map fun p => (row p).1) = order.toList.map fun i => (es.map (·.1)).getD i 0 := by
  have at_ : ∀ i, es[i]? = (L[i]?).map row := fun i => by rw [← Array.getElem?_toList, hr, List.getElem?_map]
  have all : (List.range L.length).filterMap (fun i => L[i]?) = L := by
    have key : ∀ n, n ≤ L.length → (List.range n).filterMap (fun i => L[i]?) = L.take n := by
      intro n
      induction n with
      | zero => intro _; rfl
      | succ n ih =>
        intro hn
        have hlt : n < L.length := hn
        rw [List.range_succ, List.filterMap_append, ih (Nat.le_of_lt hlt), List.take_succ, List.getElem?_eq_getElem hlt]
        simp [List.getElem?_eq_getElem hlt]
    rw [key L.length (Nat.le_refl _), List.take_length]
  refine ⟨order.toList.filterMap (fun i => L[i]?), ?_, ?_, ?_⟩
  · rw [Array.toList_filterMap, List.map_filterMap]
    congr 1
    funext i
    exact at_ i
  · have h := hp.filterMap (fun i => L[i]?)
    rwa [all] at h
  · have hlt : ∀ i ∈ order.toList, i < L.length := fun i hi => List.mem_range.mp (hp.mem_iff.mp hi)
    generalize order.toList = l at hlt
    induction l with
    | nil => rfl
    | cons i l ih =>
      have hi := hlt i List.mem_cons_self
      rw [List.filterMap_cons_some (List.getElem?_eq_getElem hi), List.map_cons, List.map_cons, ih fun j hj => hlt j (List.mem_cons_of_mem _ hj)]
      have e5 : (es.map (·.1))[i]? = some (row L[i]).1 := by rw [Array.getElem?_map, at_, List.getElem?_eq_getElem hi]; rfl
      simp [Array.getD_eq_getD_getElem?, e5]
end
end MyS

set_option Elab.async false
set_option linter.all false
set_option maxRecDepth 100000
set_option maxHeartbeats 4000000
/-! A tuple of texts is added to a set; len(set(xs)) of a list of such. -/
namespace MyS
open PySem PySem.Spec PyProof.Rows L2
section
variable {P : Program} {w : World} {A : Around} {E : Value → Shared → Prop} {s : Shared}
variable {a : Addr} {L : List (Addr × List Str)} {es : Array (Int × Value)} {ep : Nat} {t : SetTable}
theorem IsP.other {h h' : Heap} {k : List Str} {a b : Addr} {o : Obj} {es : Array (Int × Value)} {ep : Nat} {t : SetTable} (hb : IsP P w h k b) (ho : h.get? a = some o) (hd : o.data = .set es ep t) (hs : Heap.SameBut a h h') : IsP P w h' k b := by
  obtain ⟨o', items, n, ho', r⟩ := hb
  have hne : b ≠ a := fun z => by
    rw [z, ho] at ho'
    cases ho'
    rw [hd] at r
    exact nomatch r.2.1
  exact ⟨o', items, n, (hs.2 b hne).trans ho', r⟩
/-- TabOk looks at the places, the dummies and the mask alone -/
theorem tabOk_congr {t u : SetTable} {hs : List Int} (T : TabOk t hs) (e1 : u.place = t.place) (e2 : u.dummies = t.dummies) (e3 : u.mask = t.mask) : TabOk u hs := by
  obtain ⟨h1, h2, h3, h4, h5, h6⟩ := T
  constructor
  · rw [e1]; exact h1
  · rw [e2]; exact h2
  · rw [e1]; exact h3
  · rw [e3]; exact h4
  · intro x hx; rw [e3]; rw [e1] at hx; exact h5 x hx
  · intro i g j hi hj
    rw [e1] at hj
    obtain ⟨k, c1, c2⟩ := h6 i g j hi hj
    exact ⟨k, by rw [e3]; exact c1, fun k' hk' => by rw [e3, e1]; exact c2 k' hk'⟩
/-- the table laid anew, larger -/
theorem relayP {o : Obj} (ho : s.heap.get? a = some o) (hex : o.ExactSet) (hd : o.data = .set es ep t) (rows : es.toList = L.map (rowP P w)) (T : TabOk t (L.map fun p => hashP P w p.2)) (hfl : L.length ≤ t.mask)
    (nd : (L.map (·.2)).Nodup) (tup : ∀ p ∈ L, IsP P w s.heap p.2 p.1) (few : L.length < 64) {wanted M : Nat}
    (ld : w.params.followText "set-order" = true ∨ t.led = true) (hw : SetTable.sizeAbove wanted - 1 = M) (hM : MaskOk M) (hw2 : SetTable.sizeAbove wanted ≤ 128) (hn : L.length * 5 < M * 3) {Q : Unit → Shared → Prop}
    (hQ : ∀ h' L' es' ep' t', Heap.SameBut a s.heap h' → PSet P w h' a L' es' ep' t' → L'.Perm L → Q () { s with heap := h' }) : wpAny (model P w) A (setRelay a wanted) Q E s := by
  have hsl : es.size = L.length := by
    have h := congrArg List.length rows
    rwa [Array.length_toList, List.length_map] at h
  have hsz := T.sz
  rw [List.length_map] at hsz
  have hfits : t.fits es.size = true := by
    unfold SetTable.fits SetTable.fill
    rw [T.dm, Bool.and_eq_true, beq_iff_eq, decide_eq_true_eq]
    show t.place.size = es.size ∧ t.place.size + 0 ≤ t.mask
    omega
  obtain ⟨t', order, e, hp, T', em, el, epl, ed⟩ := relaid_ok t (hs := es.map (·.1)) (wanted := wanted) hw hM (by rw [Array.size_map, hsl]; omega)
  rw [Array.size_map, hsl] at hp
  obtain ⟨L2, r1, r2, r3⟩ := reorder (rowP P w) L es order rows hp
  rw [← r3] at T'
  have hs2 : (order.filterMap (es[·]?)).size = es.size := by
    have h := congrArg List.length r1
    rw [Array.length_toList, List.length_map, r2.length_eq] at h
    rw [h, hsl]
  rw [setRelay_eq]
  refine wpAny_bind (wpAny_setState_of ho hd hfits ?_)
  dsimp only
  refine wp_if_neg (by rw [sizeLine_eq]; omega) ?_
  try refine wpAny_bind (wpAny_pure ?_)
  rw [e]
  dsimp only
  refine wpAny_bind ?_
  refine wp_if_neg (by rw [hs2]; simp) ?_
  try refine wpAny_bind (wpAny_pure ?_)
  refine wpAny_pure ?_
  dsimp only
  refine wpAny_storeSet_of ho hd ?_ (by rw [hs2, hsl, sizeLine_eq]; omega)
  have sb : Heap.SameBut a s.heap (s.heap.update a (Obj.putSet (order.filterMap (es[·]?)) t')) := Heap.SameBut.update ..
  refine hQ _ L2 (order.filterMap (es[·]?)) (ep + 1) t' sb ⟨⟨_, store_at ho hd, ⟨hex.1, hex.2.1, hex.2.2⟩, rfl⟩, r1, T', (r2.map (·.2)).nodup_iff.mpr nd, fun p hpm => (tup p (r2.mem_iff.mp hpm)).other ho hd sb, ?_, by rw [r2.length_eq]; exact few, ld.imp id fun z => by rw [el]; exact z⟩ r2
  rw [r2.length_eq, em]
  exact hn
theorem put_perm' {α : Type} (L : List α) (p : Nat) (x : α) : (L.take p ++ x :: L.drop p).Perm (x :: L) := L2.put_perm L p x
/-- the tail of an adding: the new tuple is laid down, and the table grows where it is too full -/
theorem tailP {o : Obj} (ho : s.heap.get? a = some o) (hex : o.ExactSet) (hd : o.data = .set es ep t) {L1 : List (Addr × List Str)} {es1 : Array (Int × Value)} {u : SetTable} (hsl : es.size = L.length) (hmok : MaskOk t.mask) (hroom : L.length * 5 < t.mask * 3)
    (hin : es1.toList = L1.map (rowP P w)) (T : TabOk u (L1.map fun p => hashP P w p.2)) (hmask : u.mask = t.mask) (hps : u.place.size = L.length + 1) (hlen : L1.length = L.length + 1) (nd1 : (L1.map (·.2)).Nodup) (tup1 : ∀ h', Heap.SameBut a s.heap h' → ∀ p ∈ L1, IsP P w h' p.2 p.1) (hfew : L.length + 1 < 64) (ld1 : w.params.followText "set-order" = true ∨ u.led = true) {Q : Bool → Shared → Prop}
    (hQ : ∀ h' L' es' ep' t', Heap.SameBut a s.heap h' → PSet P w h' a L' es' ep' t' → L'.Perm L1 → Q true { s with heap := h' }) :
    wpAny (model P w) A (do
      storeSet a es1 u
      if !false && u.tooFull then setRelay a (SetTable.grown (es.size + 1))
      return true) Q E s := by
  have hes : es1.size = L.length + 1 := by
    have h := congrArg List.length hin
    rw [Array.length_toList, List.length_map, hlen] at h
    exact h
  refine wpAny_bind (wpAny_storeSet_of ho hd ?_ (by rw [hes, sizeLine_eq]; omega))
  have sb : Heap.SameBut a s.heap (s.heap.update a (Obj.putSet es1 u)) := Heap.SameBut.update ..
  have ho1 := store_at (es' := es1) (t' := u) ho hd
  have tup2 := tup1 _ sb
  generalize s.heap.update a (Obj.putSet es1 u) = h1 at sb ho1 tup2 ⊢
  have hfill : u.tooFull = true ↔ (L.length + 1) * 5 ≥ u.mask * 3 := by
    unfold SetTable.tooFull SetTable.fill
    rw [decide_eq_true_eq, T.dm]
    show (u.place.size + 0) * 5 ≥ u.mask * 3 ↔ _
    rw [hps]
  by_cases hf : u.tooFull = true
  · first
      | (refine wpAny_bind ?_; refine wp_if_pos (by simp [hf]) ?_)
      | (refine wp_if_pos (by simp [hf]) ?_; refine wpAny_bind ?_)
    have hfull := hfill.mp hf
    rw [hmask] at hfull
    rw [hsl]
    have cases2 : (t.mask = 7 ∧ L.length = 4) ∨ (t.mask = 31 ∧ L.length = 18) := by
      rcases hmok with e | e | e
      · left; rw [e] at hfull hroom; exact ⟨e, by omega⟩
      · right; rw [e] at hfull hroom; exact ⟨e, by omega⟩
      · exfalso; rw [e] at hfull; omega
    have go : ∀ M, SetTable.sizeAbove (SetTable.grown (L.length + 1)) - 1 = M → MaskOk M → SetTable.sizeAbove (SetTable.grown (L.length + 1)) ≤ 128 → (L.length + 1) * 5 < M * 3 →
        wpAny (model P w) A (setRelay a (SetTable.grown (L.length + 1))) (fun _ s' => wpAny (model P w) A (pure true) Q E s') E { s with heap := h1 } := fun M h1' h2' h3' h4' => by
      refine relayP (s := { s with heap := h1 }) ho1 ⟨hex.1, hex.2.1, hex.2.2⟩ rfl hin T (by rw [hlen, hmask]; rcases cases2 with ⟨e, e2⟩ | ⟨e, e2⟩ <;> omega) nd1 tup2 (by rw [hlen]; exact hfew) ld1 h1' h2' h3' (by rw [hlen]; exact h4') ?_
      intro h2 L2 es2 ep2 t2 sb2 R2 pm2
      exact wpAny_pure (hQ h2 L2 es2 ep2 t2 (sb.trans sb2) R2 pm2)
    rcases cases2 with ⟨_, e2⟩ | ⟨_, e2⟩
    · refine go 31 (by rw [e2, size_20]) (.inr (.inl rfl)) (by rw [e2, size_20]; decide) (by omega)
    · refine go 127 (by rw [e2, size_76]) (.inr (.inr rfl)) (by rw [e2, size_76]; decide) (by omega)
  · first
      | refine wp_if_neg (by simp [hf]) ?_
      | (refine wpAny_bind ?_; refine wp_if_neg (by simp [hf]) ?_; refine wpAny_pure ?_)
    refine wpAny_pure (hQ h1 L1 es1 (ep + 1) u sb ⟨⟨_, ho1, ⟨hex.1, hex.2.1, hex.2.2⟩, rfl⟩, hin, T, nd1, tup2, ?_, by rw [hlen]; exact hfew, ld1⟩ (List.Perm.refl _))
    have h := mt hfill.mpr hf
    rw [hlen]
    omega
/-- ADDING: what is there stays as it is; what isn't comes to it -/
theorem addP (R : PSet P w s.heap a L es ep t) {x : Addr} {k : List Str} (hx : IsP P w s.heap k x) (hu : A.units < cLine) (hfew : L.length + 1 < 64) {Q : Bool → Shared → Prop}
    (hQ : ∀ b h' L' es' ep' t', Heap.SameBut a s.heap h' → PSet P w h' a L' es' ep' t' → (k ∈ L.map (·.2) → L' = L) → (k ∉ L.map (·.2) → L'.Perm ((x, k) :: L)) → Q b { s with heap := h' }) :
    wpAny (model P w) A (setAddHashed a (.ref x) (hashP P w k)) Q E s := by
  obtain ⟨o, ho, hex, hd⟩ := R.ob
  have hsl := R.size
  have hroom := R.room
  unfold setAddHashed
  refine wpAny_holding ?_
  rw [show (100000 : Nat) = 99999 + 1 from rfl, setAddHashedIn_succ]
  refine wpAny_bind (wpAny_setState_of ho hd R.fits ?_)
  dsimp only
  refine wp_if_neg (by simp [byScan, Value.scannable]) ?_
  try refine wpAny_bind (wpAny_pure ?_)
  refine wpAny_bind (seek_all R hx hu (fun hm => ?_) fun K hm hK hb => ?_)
  · exact wpAny_pure (hQ false s.heap L es ep t (Heap.SameBut.refl a s.heap) R (fun _ => rfl) fun z => absurd hm z)
  · dsimp only
    refine wpAny_bind (wpAny_setState_of ho hd R.fits ?_)
    dsimp only
    obtain ⟨q1, q2, q3, q4, q5, q6, q7, q8, q9⟩ := R.tab.put hK hb
    have hin : (SetTable.insertAt es (SetTable.below t.place (way t.mask (hashP P w k) K)) (hashP P w k, Value.ref x)).toList = (L.take (SetTable.below t.place (way t.mask (hashP P w k) K)) ++ (x, k) :: L.drop (SetTable.below t.place (way t.mask (hashP P w k) K))).map (rowP P w) := by
      rw [SetTable.toList_insertAt, R.rows, List.map_append, List.map_cons, List.map_take, List.map_drop]
      rfl
    have pm := put_perm' L (SetTable.below t.place (way t.mask (hashP P w k) K)) (x, k)
    have hhs : (L.take (SetTable.below t.place (way t.mask (hashP P w k) K)) ++ (x, k) :: L.drop (SetTable.below t.place (way t.mask (hashP P w k) K))).map (fun p => hashP P w p.2) = (L.map fun p => hashP P w p.2).take (SetTable.below t.place (way t.mask (hashP P w k) K)) ++ hashP P w k :: (L.map fun p => hashP P w p.2).drop (SetTable.below t.place (way t.mask (hashP P w k) K)) := by
      rw [List.map_append, List.map_cons, List.map_take, List.map_drop]
    generalize hpt : t.put (way t.mask (hashP P w k) K) = pt at q1 q3 q4 q5 q6 q7 q8 q9 ⊢
    obtain ⟨t1, p⟩ := pt
    dsimp only at q1 q3 q4 q5 q6 q7 q8 q9 ⊢
    subst q1
    generalize hpp : SetTable.below t.place (way t.mask (hashP P w k) K) = p at q2 q3 hin pm hhs ⊢
    have hlen : (L.take p ++ (x, k) :: L.drop p).length = L.length + 1 := pm.length_eq
    rw [← hhs] at q3
    have nd1 : ((L.take p ++ (x, k) :: L.drop p).map (·.2)).Nodup := by
      refine (pm.map (·.2)).nodup_iff.mpr ?_
      rw [List.map_cons]
      exact List.nodup_cons.mpr ⟨hm, R.nd⟩
    generalize SetTable.insertAt es p (hashP P w k, Value.ref x) = es1 at hin ⊢
    generalize L.take p ++ (x, k) :: L.drop p = L1 at pm hlen q3 nd1 hin
    have tup1 : ∀ h1, Heap.SameBut a s.heap h1 → ∀ p ∈ L1, IsP P w h1 p.2 p.1 := fun h1 sb p hp => by
      rcases List.mem_cons.mp (pm.mem_iff.mp hp) with e | hp
      · rw [e]; exact IsP.other hx ho hd sb
      · exact IsP.other (R.tup p hp) ho hd sb
    have hps : t1.place.size = L.length + 1 := by
      have h := q3.sz
      rw [List.length_map, hlen] at h
      exact h
    have fin : ∀ u : SetTable, u.place = t1.place → u.dummies = t1.dummies → u.mask = t1.mask → u.led = t1.led → wpAny (model P w) A (do
        storeSet a es1 u
        if !false && u.tooFull then setRelay a (SetTable.grown (es.size + 1))
        return true) Q E s := fun u e1 e2 e3 e4 =>
      tailP ho hex hd hsl R.tab.mok hroom hin (tabOk_congr q3 e1 e2 e3) (e3.trans q4) (by rw [e1]; exact hps) hlen nd1 tup1 hfew (R.led.imp id fun z => by rw [e4, q5]; exact z) fun h' L' es' ep' t' sb R' pm' => hQ true h' L' es' ep' t' sb R' (fun z => absurd z hm) fun _ => pm'.trans pm
    have both : ∀ r : Bool, wpAny (model P w) A (do
        storeSet a es1 (if r then t1 else { t1 with plain := false })
        if !false && (if r then t1 else { t1 with plain := false }).tooFull then setRelay a (SetTable.grown (es.size + 1))
        return true) Q E s := fun r => by
      cases r
      · exact fin _ rfl rfl rfl rfl
      · exact fin _ rfl rfl rfl rfl
    by_cases hp1 : t1.plain = true
    · first
        | (refine wpAny_bind ?_; refine wp_if_pos hp1 ?_; refine hashBy hx fun r => ?_)
        | refine wp_if_pos hp1 (wpAny_bind (hashBy hx fun r => ?_))
      exact both r
    · first
        | (refine wpAny_bind ?_; refine wp_if_neg hp1 ?_; refine wpAny_pure ?_)
        | refine wp_if_neg hp1 (wpAny_bind (wpAny_pure ?_))
        | refine wp_if_neg hp1 ?_
      exact both true
end
end MyS

set_option Elab.async false
set_option linter.all false
set_option maxRecDepth 100000
set_option maxHeartbeats 4000000
/-! len(set(xs)) of a list or a tuple of tuples of texts, fewer than 64. -/
namespace MyS
open PySem PySem.Spec PyProof.Rows L2
section
variable {P : Program} {w : World} {A : Around} {E : Value → Shared → Prop} {s : Shared}
/-- the set at S behind the first i tuples -/
def JP (P : Program) (w : World) (h0 : Heap) (S : Addr) (ks : List (List Str)) (i : Nat) (h : Heap) : Prop :=
  ∃ L es ep t, PSet P w h S L es ep t ∧ (∀ p ∈ L, IsP P w h0 p.2 p.1) ∧ (∀ k, k ∈ L.map (·.2) ↔ k ∈ ks.take i) ∧ Cnt (ks.take i) L.length
theorem JP.adds {S : Addr} {ks : List (List Str)} {h0 : Heap} {i : Nat} {k : List Str} {x : Addr} (hx : ks[i]? = some k) (hb : ks.length < 64) (ht : IsP P w h0 k x) (hu : A.units < cLine) : Adds P w A S h0 (JP P w h0 S ks) i (.ref x) := by
  intro z Q E hJ hk hQ
  obtain ⟨L, es, ep, t, R, h0t, hM, hc⟩ := hJ
  have hi : i < ks.length := (List.getElem?_eq_some_iff.mp hx).1
  have hn := hc.le
  rw [List.length_take] at hn
  have hz : IsP P w z.heap k x := ht.keep fun o e => hk x o e
  unfold setAdd
  refine wpAny_holding ?_
  refine wpAny_bind (wpAny_pyHash_tuple hu hz ?_)
  refine addP (s := { z with toks := z.toks + (k.length + 1) }) R hz hu (by omega) fun b h' L' es' ep' t' sb R' c1 c2 => ?_
  refine hQ _ h' _ (Nat.le_add_right _ _) sb ⟨L', es', ep', t', R', ?_⟩
  rw [take_snoc hx]
  by_cases c : k ∈ L.map (·.2)
  · have e := c1 c
    subst e
    refine ⟨h0t, fun q => ?_, hc.old ((hM k).mp c)⟩
    rw [List.mem_append, List.mem_singleton, hM q]
    exact ⟨.inl, fun h => h.elim id fun e => e ▸ (hM k).mp c⟩
  · have pm := c2 c
    refine ⟨fun p hp => ?_, fun q => ?_, ?_⟩
    · rcases List.mem_cons.mp (pm.mem_iff.mp hp) with e | hp
      · rw [e]; exact ht
      · exact h0t p hp
    · rw [(pm.map (·.2)).mem_iff, List.map_cons, List.mem_cons, List.mem_append, List.mem_singleton, hM q]
      exact ⟨fun h => h.elim .inr .inl, fun h => h.elim .inr .inl⟩
    · rw [pm.length_eq, List.length_cons]
      exact hc.new fun m => c ((hM k).mpr m)
theorem JP.keeps {S : Addr} {ks : List (List Str)} {h0 : Heap} : KeepsJ S h0 (JP P w h0 S ks) := by
  rintro i h h' ⟨L, es, ep, t, R, h0t, r⟩ k1 k2
  obtain ⟨o, ho, r1⟩ := R.ob
  exact ⟨L, es, ep, t, ⟨⟨o, k1 o ho, r1⟩, R.rows, R.tab, R.nd, fun p hp => (h0t p hp).keep fun o e => k2 p.1 o e, R.room, R.few, R.led⟩, h0t, r⟩
theorem JP.zero {S : Addr} {ks : List (List Str)} {h h0 : Heap} (ho : h.get? S = some (freshSet w)) : JP P w h0 S ks 0 h := by
  refine ⟨[], #[], 0, _, ⟨⟨_, ho, ⟨rfl, rfl, rfl⟩, rfl⟩, rfl, ⟨List.Pairwise.nil, rfl, rfl, .inl rfl, fun x hx => (by cases hx), fun i h j hi => (by simp at hi)⟩, List.nodup_nil, fun p hp => (by cases hp), (by show 0 * 5 < 7 * 3; decide), (by show 0 < 64; decide), ?_⟩, fun p hp => (by cases hp), fun k => by simp, ?_⟩
  · by_cases c : w.params.followText "set-order" = true
    · exact .inl c
    · right
      show (!w.params.followText "set-order") = true
      simpa using c
  · rw [List.take_zero]
    exact Cnt.nil
end
theorem strItems_of_vals (P : Program) (w : World) : ∀ {k : List Str} {us : List Value}, Vals (k.map V.str) us → ItemsAre (PySem.strKind P w) k us
  | [], _, .nil => .nil
  | n :: k, _, .cons r t => by
    obtain ⟨tk, rfl⟩ := r
    exact .cons (strKind_is P w n tk) (strItems_of_vals P w t)
section
variable {X : Cx}
theorem Inv_isP {pins : List (Addr × Obj)} {σ : L2.St} {H : Hp} {s : Shared} {b : Addr} {k : List Str} (I : Inv X pins σ H s) (h : SqT X.K H b (k.map V.str)) : IsP X.prog X.w s.heap k b := by
  obtain ⟨its, r, ⟨o, ho, hc, n, hd⟩, _⟩ := I.tuple h
  exact ⟨o, its.toArray, n, ho, hc, hd, by simpa using strItems_of_vals _ _ r⟩
/-- len(set(xs)), xs tuples of texts -/
def tLenSetP (K : PySem.W.Frag) (ta : TE) : TE := fun σ H Q => ta σ H fun x H1 => ∃ (l : Addr) (ks : List (Addr × List Str)), x = .ref l ∧ (SqL K H1 l (ks.map fun p => V.ref p.1) ∨ SqT K H1 l (ks.map fun p => V.ref p.1)) ∧ (∀ p ∈ ks, SqT K H1 p.1 (p.2.map V.str)) ∧ ks.length < 64 ∧ ∀ n, Cnt (ks.map (·.2)) n → Q (.int (n : Nat)) H1
theorem refsP : ∀ {ks : List (Addr × List Str)} {us : List Value}, Vals (ks.map fun p => V.ref p.1) us → us = ks.map fun p => Value.ref p.1
  | [], _, .nil => rfl
  | p :: ks, _, .cons r t => by
    cases r
    rw [refsP t] <;> rfl
theorem pe_lenSetP {a : Expr} {ta : TE} {p p2 q pos : Pos} (hc : X.calm = true) (hu : X.A.units + 64 < cLine) (hm : X.mg "len" = none) (hm2 : X.mg "set" = none) (ha : PE X a ta) (hg : Gl X "len" := by rfl) (hg2 : Gl X "set" := by rfl)
    (na : starEach [a] X.env = (false, eval a X.env) :: starEach [] X.env := by rfl) : PE X (.Call (.Name "len" p) [.Call (.Name "set" p2) [a] [] q] [] pos) (tLenSetP X.K ta) := by
  refine ⟨fun pins s σ H Q I h => ?_⟩
  refine Call_ (ld_blt I hg hm boot_len ?_)
  refine PyProof.Rows.callWith_builtin1 (PyProof.Rows.args_cons ?_ rfl) rfl rfl
  refine Call_ (ld_blt I hg2 hm2 boot_set ?_)
  refine PyProof.Rows.callWith_type1 (PyProof.Rows.args_cons (thn (ha.run pins s σ H _ I h) fun v s1 ⟨x, H1, I1, r1, q1⟩ => PyProof.Rows.args_nil ?_) na) na rfl
  obtain ⟨l, ks, rfl, hq, ht, h1, q1⟩ := q1
  cases r1
  have go : ∀ (its : List Value), Vals (ks.map fun p => V.ref p.1) its → (s1.heap.IsList l its.toArray ∨ s1.heap.IsTuple l its.toArray) → wpAny (model X.prog X.w) X.A (call (.type "set") [.ref l])
      (fun v s₂ => wpAny (model X.prog X.w) X.A (spliced (backTo pos (starEach [] X.env))) (fun vs s₃ => wpAny (model X.prog X.w) X.A (call (.builtin "len") (v :: vs)) (EP X pins σ Q) X.xe s₃) X.xe s₂) X.xe s1 := fun its r hl => by
    have hits := refsP r
    have hsz : its.toArray.size = ks.length := by rw [List.size_toArray, hits, List.length_map]
    refine call_setJ (J := JP X.prog X.w s1.heap s1.heap.objs.size (ks.map (·.2))) (I1.ok.hd hc) hl (fun h ho => JP.zero ho) JP.keeps (fun h hJ => ?_) (fun A' hA i v hv => ?_) fun h' tk hJ hk _ => ?_
    · obtain ⟨L, es, ep, t, R, _⟩ := hJ
      obtain ⟨o, ho, _⟩ := R.ob
      exact ⟨o, ho⟩
    · have e1 : (ks.map fun p => Value.ref p.1)[i]? = some v := by rw [← hits]; simpa using hv
      rw [List.getElem?_map] at e1
      obtain ⟨p, hp, rfl⟩ := Option.map_eq_some_iff.mp e1
      exact JP.adds (k := p.2) (by rw [List.getElem?_map, hp]; rfl) (by rw [List.length_map]; exact h1) (Inv_isP I1 (ht p (List.mem_of_getElem? hp))) (by omega)
    · rw [hsz] at hJ
      obtain ⟨L, es, ep, t, R, _, hM, hcn⟩ := hJ
      rw [show ks.length = (ks.map (·.2)).length by rw [List.length_map], List.take_length] at hcn
      have I2 : Inv X pins σ H1 { s1 with heap := h', toks := tk } := I1.kept fun b o e => hk b o e
      refine PyProof.Rows.args_nil ?_
      have hle := hcn.le
      obtain ⟨o, ho, hex, hd⟩ := R.ob
      have hfew := R.few
      refine call_len_set ho hex hd (R.fits (s := { s1 with heap := h', toks := tk })) (by rw [R.size (s := { s1 with heap := h', toks := tk })]; omega) ⟨.int (L.length : Nat), H1, I2.tok _, ⟨_, by rw [R.size (s := { s1 with heap := h', toks := tk })]⟩, q1 L.length hcn⟩
  rcases hq with hq | hq
  · obtain ⟨its, r, pl, hz⟩ := I1.list hq
    exact go its r (.inl pl.isList)
  · obtain ⟨its, r, pl, hz⟩ := I1.tuple hq
    exact go its r (.inr (by first | exact pl | exact pl.isTuple))
end
end MyS

set_option Elab.async false
set_option linter.all false
set_option maxRecDepth 100000
set_option maxHeartbeats 4000000
/-! sorted(xs) of a list or a tuple: of texts, of pairs of texts, of tuples told apart by their first text. -/
namespace MyS
open PySem PySem.Spec PyProof.Rows L2
open SrtO hiding Str
/-! ### the order of texts -/
def slt (a b : Str) : Bool := decide (a.cps.toList < b.cps.toList)
theorem str_ext {a b : Str} (h : a.cps.toList = b.cps.toList) : a = b := by
  obtain ⟨x⟩ := a
  obtain ⟨y⟩ := b
  exact congrArg PySem.Str.mk (Array.toList_inj.mp h)
theorem slt_iff {a b : Str} : slt a b = true ↔ a.cps.toList < b.cps.toList := decide_eq_true_iff
theorem slt_no {a b : Str} : slt a b = false ↔ ¬ a.cps.toList < b.cps.toList := decide_eq_false_iff_not
theorem slt_irr (a : Str) : slt a a = false := slt_no.mpr (List.lt_irrefl _)
theorem slt_asym {a b : Str} (h : slt a b = true) : slt b a = false := slt_no.mpr fun k => List.lt_irrefl _ (List.lt_trans (slt_iff.mp h) k)
theorem slt_tri {a b : Str} (h1 : slt a b = false) (h2 : slt b a = false) : a = b :=
  str_ext (List.le_antisymm (List.not_lt.mp (slt_no.mp h2)) (List.not_lt.mp (slt_no.mp h1)))
theorem slt_ntr {x y z : Str} (h1 : slt y x = false) (h2 : slt z y = false) : slt z x = false :=
  slt_no.mpr (List.not_lt.mpr (List.le_trans (List.not_lt.mp (slt_no.mp h1)) (List.not_lt.mp (slt_no.mp h2))))
theorem slt_trans {x y z : Str} (h1 : slt x y = true) (h2 : slt y z = true) : slt x z = true := slt_iff.mpr (List.lt_trans (slt_iff.mp h1) (slt_iff.mp h2))
/-- pairs: the first, then the second -/
def slt2 (p q : Str × Str) : Bool := if p.1 = q.1 then slt p.2 q.2 else slt p.1 q.1
theorem swo_s : Swo slt := ⟨fun x y h => slt_asym h, fun x y z h1 h2 => slt_ntr h1 h2⟩
theorem slt2_eq {p q : Str × Str} (h : p.1 = q.1) : slt2 p q = slt p.2 q.2 := if_pos h
theorem slt2_ne {p q : Str × Str} (h : ¬ p.1 = q.1) : slt2 p q = slt p.1 q.1 := if_neg h
theorem swo_s2 : Swo slt2 := by
  refine ⟨fun x y h => ?_, fun x y z h1 h2 => ?_⟩
  · by_cases e : x.1 = y.1
    · rw [slt2_eq e] at h
      rw [slt2_eq e.symm]
      exact slt_asym h
    · rw [slt2_ne e] at h
      rw [slt2_ne (fun c => e c.symm)]
      exact slt_asym h
  · by_cases e : z.1 = x.1
    · rw [slt2_eq e]
      by_cases e1 : y.1 = x.1
      · rw [slt2_eq e1] at h1
        rw [slt2_eq (e.trans e1.symm)] at h2
        exact slt_ntr h1 h2
      · rw [slt2_ne e1] at h1
        rw [slt2_ne (fun c => e1 (c.symm.trans e)), e] at h2
        exact absurd (slt_tri h1 h2) e1
    · rw [slt2_ne e]
      by_cases e1 : y.1 = x.1
      · rw [slt2_ne (fun c => e (c.trans e1)), e1] at h2
        exact h2
      · rw [slt2_ne e1] at h1
        by_cases e2 : z.1 = y.1
        · rw [e2]; exact h1
        · rw [slt2_ne e2] at h2
          exact slt_ntr h1 h2
theorem swo_of {α β : Type} {lt : β → β → Bool} (O : Swo lt) (f : α → β) : Swo fun x y => lt (f x) (f y) := ⟨fun x y => O.asym (f x) (f y), fun x y z => O.tr (f x) (f y) (f z)⟩
section
variable {prog : Program} {w : World} {A : Around} {E : Value → Shared → Prop} {s : Shared}
/-- collecting a tuple -/
theorem collect_tup {l : Addr} {vs : List Value} {Q : List Value → Shared → Prop} (hl : s.heap.IsTuple l vs.toArray)
    (h : Q vs { s with heap := (s.heap.push (seqObj "list" #[] 0)).update s.heap.objs.size (Obj.mapSeq (· ++ vs.toArray)) }) (hsz : vs.length ≤ sizeLine) :
    wpAny (model prog w) A (collect (.ref l)) Q E s := by
  obtain ⟨o, ho, hc, n, hd⟩ := id hl
  unfold collect
  refine wpAny_bind (wpAny_runValue (codeAny_builtin entry_proto_collect' ?_))
  show wpAny _ _ (do again (.builtin "list.__iadd__" ⟨[← newList [], .ref l], []⟩)) _ _ s
  refine wpAny_bind (wpAny_newList (wpAny_pure ⟨Code.quiet_builtin _ (by decide +kernel), codeAny_builtin entry_list_iadd' ?_⟩))
  show wpAny _ _ (Builtin.List.listExtendWith (.ref s.heap.objs.size) (.ref l) (.ref s.heap.objs.size)) _ _ { s with heap := s.heap.push (seqObj "list" #[] 0) }
  unfold Builtin.List.listExtendWith
  have ho' : (s.heap.push (seqObj "list" #[] 0)).get? l = some o := Heap.get?_push_of_some _ ho
  refine wpAny_bind (wpAny_typeOf (T := "tuple") ⟨o, ho', hc⟩ ?_)
  have ht : (Value.type "tuple" == Value.type "tuple") = true := by rfl
  rw [if_pos (by rw [ht]; simp)]
  refine wpAny_bind (listItems_at ho' hd ?_)
  refine wpAny_bind (listItems_at (xs := #[]) (n := 0) (Heap.get?_push_size _ rfl) rfl ?_)
  rw [if_neg (by simp)]
  refine wpAny_bind (listUpdate_at (xs := #[]) (n := 0) (Heap.get?_push_size _ rfl) rfl ?_ (Nat.zero_le _) (by show (#[] ++ vs.toArray).size ≤ sizeLine + 1; simp only [Array.size_append, List.size_toArray, List.length_nil]; omega))
  refine wpAny_pure ?_
  show wpAny (model prog w) A (do
      let o ← load s.heap.objs.size
      match o.data with
      | .seq xs _ => pure xs.toList
      | _ => unsupported "internal:collect") Q E { s with heap := (s.heap.push (seqObj "list" #[] 0)).update s.heap.objs.size (Obj.mapSeq (· ++ vs.toArray)) }
  refine wpAny_bind (wpAny_load (get?_update_seq (Heap.get?_push_size _ rfl) _) ?_)
  show wpAny _ _ (pure ((#[] : Array Value) ++ vs.toArray).toList) Q E _
  rw [show ((#[] : Array Value) ++ vs.toArray).toList = vs by simp]
  exact wpAny_pure h
/-- sorted(l), l a list or a tuple -/
theorem sorted_seq {l : Addr} {vs : List Value} {ltv : Value → Value → Bool} {Q : Value → Shared → Prop} (O : Swo ltv) (hl : s.heap.IsList l vs.toArray ∨ s.heap.IsTuple l vs.toArray) (hz : vs.length ≤ sizeLine)
    (hS : 2 ≤ vs.length → ∀ (h₁ : Heap) (a : Addr), h₁.get? a = some (seqObj "list" vs.toArray 0) → (∀ b o, s.heap.get? b = some o → b ≠ a ∧ h₁.get? b = some o) → SortableO prog w A.in1.in1 { s with heap := h₁ } a vs ltv)
    (h : ∀ out : List Value, Srtd ltv out → Stb ltv out vs → Q (.ref (s.heap.objs.size + 1)) { s with heap := sortedAll s.heap vs out.toArray }) :
    wpAny (model prog w) A (call (.builtin "sorted") [.ref l]) Q E s := by
  rcases hl with hl | hl
  · exact sorted_ord O hl hz hS h
  refine Calls.call_function_entry kind_sorted plain_sorted entry_sorted (args_sorted1 _) ?_
  unfold Builtin.«sorted»
  refine wpAny_bind (m := checkCount "sorted" 1 1 _) (wpAny_pure ?_)
  refine wpAny_bind (collect_tup hl ?_ hz)
  refine wpAny_bind (wpAny_newList ?_ hz)
  have hsz : ((s.heap.push (seqObj "list" #[] 0)).update s.heap.objs.size (Obj.mapSeq (· ++ vs.toArray))).objs.size = s.heap.objs.size + 1 := by
    rw [Heap.size_update, size_push']
  have hoL : (((s.heap.push (seqObj "list" #[] 0)).update s.heap.objs.size (Obj.mapSeq (· ++ vs.toArray))).push (seqObj "list" vs.toArray 0)).get? (s.heap.objs.size + 1) = some (seqObj "list" vs.toArray 0) := by
    rw [← hsz]; exact Heap.get?_push_size _ rfl
  have keep : ∀ b o, s.heap.get? b = some o → b ≠ s.heap.objs.size + 1 ∧ (((s.heap.push (seqObj "list" #[] 0)).update s.heap.objs.size (Obj.mapSeq (· ++ vs.toArray))).push (seqObj "list" vs.toArray 0)).get? b = some o := fun b o q => by
    have hlt : b < s.heap.objs.size := Heap.lt_size q
    refine ⟨Nat.ne_of_lt (Nat.lt_succ_of_lt hlt), Heap.get?_push_of_some _ ?_⟩
    rw [Heap.get?_update_ne _ _ _ _ (Nat.ne_of_lt hlt)]
    exact Heap.get?_push_of_some _ q
  show wpAny _ _ _ _ _ { s with heap := ((s.heap.push (seqObj "list" #[] 0)).update s.heap.objs.size (Obj.mapSeq (· ++ vs.toArray))).push (seqObj "list" vs.toArray 0) }
  rw [hsz]
  refine wpAny_bind (wpAny_holding (wpAny_call_entry slot_list_sort ⟨_, hoL, rfl⟩ entry_list_sort (list_sort_ord O hoL hz (fun h2 => hS h2 _ _ hoL keep) fun out hs hb => ⟨_, rfl, ?_⟩) (args_list_sort _)))
  exact wpAny_pure ⟨_, rfl, h out hs hb⟩
/-! ### texts -/
def sv : Value → Str
  | .str x _ => x
  | _ => ⟨#[]⟩
theorem strs_cmp {vs : List Value} (hI : ∀ v ∈ vs, ∃ x t, v = Value.str x t) : Cmp prog w A s oneType' (fun p => p.1 ∈ vs) (lt2 fun v u => slt (sv v) (sv u)) := by
  intro p q hm hm'
  obtain ⟨a, t, e⟩ := hI _ hm
  obtain ⟨b, u, e'⟩ := hI _ hm'
  show wpAny (model prog w) A (keyLt' oneType' p.1 q.1) (fun r s' => s' = s ∧ r = slt (sv p.1) (sv q.1)) (fun _ _ => False) s
  rw [e, e', keyLt'_oneType]
  exact oneLt_str ⟨rfl, rfl⟩
theorem strs_sortable {a : Addr} {vs : List Value} {ss : List Str} (hI : StrsAre vs ss) (h2 : 2 ≤ vs.length) : SortableO prog w A s a vs fun v u => slt (sv v) (sv u) := by
  intro h' _
  refine ⟨oneType', fun Q E hq => ?_, strs_cmp hI.all⟩
  match vs, hI, h2 with
  | v1 :: v2 :: rest, hI, _ =>
    rw [keyKind_strs hI]
    exact wpAny_pure hq
  | [], _, h => exact absurd h (by decide)
  | [v], _, h => exact absurd h (by simp)
theorem sv_strs : ∀ {vs : List Value} {ss : List Str}, StrsAre vs ss → vs.map sv = ss
  | _, _, .nil => rfl
  | _, _, .cons n t r => congrArg (n :: ·) (sv_strs r)
theorem strs_sv : ∀ {vs : List Value}, (∀ v ∈ vs, ∃ x t, v = Value.str x t) → StrsAre vs (vs.map sv)
  | [], _ => .nil
  | v :: vs, h => by
    obtain ⟨i, t, e⟩ := h v List.mem_cons_self
    subst e
    exact .cons i t (strs_sv fun u hu => h u (List.mem_cons_of_mem _ hu))
end
/-- ascending -/
def Asc (ys : List Str) : Prop := ys.Pairwise fun a b => slt b a = false
section
variable {X : Cx}
/-- sorted(xs), texts, a list or a tuple of them -/
def rSortSQ (K : PySem.W.Frag) : List V → Hp → VK → Prop := fun vs H Q => ∃ (a : Addr) (xs : List Str), vs = [V.ref a] ∧ (SqL K H a (xs.map V.str) ∨ SqT K H a (xs.map V.str)) ∧
  ∀ (ys : List Str) (p : Addr), ys.Perm xs → Asc ys → H p = none → Q (.ref p) (upd H p (.lst (ys.map V.str)))
theorem cr_sortSQ : CallR X (.builtin "sorted") (rSortSQ X.K) := by
  intro pins s σ H vs us Q I r h
  obtain ⟨a, xs, rfl, hs, q⟩ := h
  rw [Vals.ref1 r]
  have go : ∀ (its : List Value), Vals (xs.map V.str) its → (s.heap.IsList a its.toArray ∨ s.heap.IsTuple a its.toArray) → (xs.map V.str).length ≤ sizeLine → wpAny (model X.prog X.w) X.A (call (.builtin "sorted") [.ref a]) (EP X pins σ Q) X.xe s := fun its rv hl hz => by
    have hi := rv.strs
    refine sorted_seq (swo_of swo_s sv) hl (by rw [← rv.length]; exact hz) (fun h2 h₁ a' _ _ => strs_sortable hi h2) fun out h1 h2 => ?_
    have ho : ∀ v ∈ out, ∃ x t, v = Value.str x t := fun v hv => hi.all v (h2.perm.mem_iff.mp hv)
    have pm : (out.map sv).Perm xs := by
      have q := h2.perm.map sv
      rw [sv_strs hi] at q
      exact q
    obtain ⟨ep, he'⟩ := PyProof.Rows.sortedAll_at s.heap its out.toArray
    have hlen : ((out.map sv).map V.str).length ≤ sizeLine := by
      rw [List.length_map, pm.length_eq]
      rw [List.length_map] at hz
      exact hz
    exact ⟨.ref _, upd H (s.heap.objs.size + 1) (.lst ((out.map sv).map V.str)), I.laid (t' := s.toks) (fun _ _ => PyProof.Rows.sortedAll_old) (Nat.le_succ _) ⟨hlen, out, ep, vals_of_strs (strs_sv ho), he'⟩, rfl, q _ _ pm (List.pairwise_map.mpr h1) (I.hok.fresh (Nat.le_succ _))⟩
  rcases hs with hs | hs
  · obtain ⟨its, rv, pl, hz⟩ := I.list hs
    exact go its rv (.inl pl.isList) (by first | exact hz | (rw [rv.length]; exact hz))
  · obtain ⟨its, rv, pl, hz⟩ := I.tuple hs
    exact go its rv (.inr (by first | exact pl | exact pl.isTuple)) (by first | exact hz | (rw [rv.length]; exact hz))
end
end MyS

set_option Elab.async false
set_option linter.all false
set_option maxRecDepth 100000
set_option maxHeartbeats 4000000
/-! sorted(xs), xs a list of tuples: pairs of texts, or tuples told apart by their first text. -/
namespace MyS
open PySem PySem.Spec PyProof.Rows L2
open SrtO hiding Str
section
variable {prog : Program} {w : World} {A : Around} {E : Value → Shared → Prop} {s : Shared}
/-- v is a tuple with these items -/
def IsTp (h : Heap) (v : Value) (a : Str) (r : List Value) : Prop := ∃ (b : Addr) (o : Obj) (xs : Array Value) (n : Nat) (t : Tok), v = .ref b ∧ h.get? b = some o ∧ o.cls = .type "tuple" ∧ o.data = .seq xs n ∧ xs.toList = .str a t :: r
theorem IsTp.keeps {h h' : Heap} {v : Value} {a : Str} {r : List Value} (x : IsTp h v a r) (k : ∀ b o, h.get? b = some o → o.cls = .type "tuple" → h'.get? b = some o) : IsTp h' v a r := by
  obtain ⟨b, o, xs, n, t, e, ho, hc, q⟩ := x
  exact ⟨b, o, xs, n, t, e, k b o ho hc, hc, q⟩
theorem firstsS {h : Heap} : ∀ {vs : List Value}, (∀ v ∈ vs, ∃ a r, IsTp h v a r) → ∃ fs : List Value, PySem.W.KatTups h vs fs ∧ fs.length = vs.length ∧ ∀ f ∈ fs, ∃ x t, f = Value.str x t
  | [], _ => ⟨[], PySem.W.KatTups.nil, rfl, fun _ hm => by simp at hm⟩
  | v :: vs, hp => by
    obtain ⟨fs, h1, h2, h3⟩ := firstsS (vs := vs) fun v' hm => hp v' (List.mem_cons_of_mem _ hm)
    obtain ⟨a, r, b, o, xs, n, t, e, ho, hc, hd, hx⟩ := hp v (List.mem_cons_self ..)
    subst e
    refine ⟨.str a t :: fs, PySem.W.KatTups.cons ho hc hd (by rw [← Array.getElem?_toList, hx]; rfl) h1, by rw [List.length_cons, List.length_cons, h2], fun f hm => ?_⟩
    rcases List.mem_cons.mp hm with rfl | hm
    · exact ⟨a, t, rfl⟩
    · exact h3 f hm
theorem kat_self {b fin : Bool} {Q : Bool → Shared → Prop} : ∀ (r : List Value) (i : Nat), Q fin s → PySem.W.KatLex prog w A b fin Q (r.zip r) i s
  | [], _, h => PySem.W.kat_nil h
  | v :: r, i, h => PySem.W.kat_cons (SeqAt.EqAt.same v prog w _ _ (PySem.W.kat_yes (kat_self r (i + 1) h)))
theorem slt_eqF {a b : Str} (h : a = b) : slt a b = false := by rw [h]; exact slt_irr b
/-- tuples told apart by their first text -/
theorem first_cmp {vs : List Value} {k : Value → Str} (hp : ∀ v ∈ vs, ∃ r, IsTp s.heap v (k v) r) (ne : ∀ v ∈ vs, ∀ u ∈ vs, k v = k u → v = u) : Cmp prog w A s (tuples' true) (fun p => p.1 ∈ vs) (lt2 fun v u => slt (k v) (k u)) := by
  intro p q hm hm'
  obtain ⟨r, b, o, xs, n, t, e, ho, hc, hd, hx⟩ := hp _ hm
  obtain ⟨r', b', o', xs', n', t', e', ho', hc', hd', hx'⟩ := hp _ hm'
  have hne := ne _ hm _ hm'
  show wpAny (model prog w) A (keyLt' (tuples' true) p.1 q.1) (fun r s' => s' = s ∧ r = slt (k p.1) (k q.1)) (fun _ _ => False) s
  generalize k p.1 = x at *
  generalize k q.1 = y at *
  rw [e, e'] at hne ⊢
  refine PySem.W.kat_lt ho hd ho' hd' ?_
  rw [hx, hx']
  show PySem.W.KatLex prog w A true (decide (xs.size < xs'.size)) _ ((.str x t, .str y t') :: r.zip r') 0 s
  refine PySem.W.kat_cons (SeqAt.EqAt.str_str x t y t' prog w _ _ ?_)
  refine PySem.W.kat_go (fun e1 => ?_) (fun e1 => ?_)
  · have ex : x = y := by simpa using e1
    have eb : Value.ref b = Value.ref b' := hne ex
    injection eb with eb
    subst eb
    obtain rfl : o = o' := Option.some.inj (ho.symm.trans ho')
    have e2 : PySem.Data.seq xs n = PySem.Data.seq xs' n' := hd.symm.trans hd'
    injection e2 with e2 e3
    subst e2
    have e4 := (List.cons.inj (hx.symm.trans hx')).2
    subst e4
    refine PySem.W.kat_yes (kat_self r 1 ⟨rfl, ?_⟩)
    rw [slt_eqF ex]
    exact decide_eq_false (Nat.lt_irrefl _)
  · exact PySem.W.kat_no (oneLt_str ⟨rfl, rfl⟩)
/-- pairs of texts -/
theorem pairs_cmp {vs : List Value} {k : Value → Str × Str} (hp : ∀ v ∈ vs, ∃ t, IsTp s.heap v (k v).1 [.str (k v).2 t]) : Cmp prog w A s (tuples' true) (fun p => p.1 ∈ vs) (lt2 fun v u => slt2 (k v) (k u)) := by
  intro p q hm hm'
  obtain ⟨t2, b, o, xs, n, t, e, ho, hc, hd, hx⟩ := hp _ hm
  obtain ⟨t2', b', o', xs', n', t', e', ho', hc', hd', hx'⟩ := hp _ hm'
  show wpAny (model prog w) A (keyLt' (tuples' true) p.1 q.1) (fun r s' => s' = s ∧ r = slt2 (k p.1) (k q.1)) (fun _ _ => False) s
  generalize k p.1 = x at *
  generalize k q.1 = y at *
  rw [e, e']
  have sz : xs.size = 2 := by rw [← Array.length_toList, hx]; rfl
  have sz' : xs'.size = 2 := by rw [← Array.length_toList, hx']; rfl
  refine PySem.W.kat_lt ho hd ho' hd' ?_
  rw [hx, hx', sz, sz']
  show PySem.W.KatLex prog w A true (decide (2 < 2)) _ [(.str x.1 t, .str y.1 t'), (.str x.2 t2, .str y.2 t2')] 0 s
  refine PySem.W.kat_cons (SeqAt.EqAt.str_str x.1 t y.1 t' prog w _ _ ?_)
  refine PySem.W.kat_go (fun e1 => ?_) (fun e1 => ?_)
  · have ex : x.1 = y.1 := by simpa using e1
    refine PySem.W.kat_yes (PySem.W.kat_cons (SeqAt.EqAt.str_str x.2 t2 y.2 t2' prog w _ _ ?_))
    refine PySem.W.kat_go (fun e2 => ?_) (fun e2 => ?_)
    · have ey : x.2 = y.2 := by simpa using e2
      refine PySem.W.kat_yes (PySem.W.kat_nil ⟨rfl, ?_⟩)
      rw [slt2_eq ex, slt_eqF ey]
      rfl
    · refine PySem.W.kat_no (PySem.W.kat_one _ _ ?_)
      refine PyProof.Rows.lt_str ?_
      exact ⟨rfl, (slt2_eq ex).symm⟩
  · have ex : ¬ x.1 = y.1 := by simpa using e1
    exact PySem.W.kat_no (oneLt_str ⟨rfl, (slt2_ne ex).symm⟩)
theorem tps_kind {vs : List Value} (h0 : 0 < vs.length) (hp : ∀ v ∈ vs, ∃ a r, IsTp s.heap v a r) {Q : SortKind → Shared → Prop} (hq : Q (tuples' true) s) : wpAny (model prog w) A (keyKind' vs.toArray) Q E s := by
  obtain ⟨fs, h1, h2, h3⟩ := firstsS hp
  refine PySem.W.kat_kind (T := .type "str") h1 (by omega) (fun f hm => ?_) (by rfl) ?_
  · obtain ⟨x, t, rfl⟩ := h3 f hm
    exact PySem.W.Looks.now
  · have e : (Value.type "str" != Value.type "tuple") = true := by first | decide +kernel | rfl | decide
    rw [e]
    exact hq
theorem first_sortable {a : Addr} {vs : List Value} {k : Value → Str} (h0 : 0 < vs.length) (hp : ∀ v ∈ vs, ∃ r, IsTp s.heap v (k v) r) (ne : ∀ v ∈ vs, ∀ u ∈ vs, k v = k u → v = u) (ha : ∀ o, s.heap.get? a = some o → o.cls ≠ .type "tuple") : SortableO prog w A s a vs fun v u => slt (k v) (k u) := by
  intro h' keep
  have hp' : ∀ v ∈ vs, ∃ r, IsTp h' v (k v) r := fun v hm => let ⟨r, z⟩ := hp v hm; ⟨r, z.keeps fun b o e c => keep b o (fun z => by subst z; exact ha o e c) e⟩
  exact ⟨tuples' true, fun Q E hq => tps_kind h0 (fun v hm => let ⟨r, z⟩ := hp' v hm; ⟨_, r, z⟩) hq, first_cmp hp' ne⟩
theorem pairs_sortable {a : Addr} {vs : List Value} {k : Value → Str × Str} (h0 : 0 < vs.length) (hp : ∀ v ∈ vs, ∃ t, IsTp s.heap v (k v).1 [.str (k v).2 t]) (ha : ∀ o, s.heap.get? a = some o → o.cls ≠ .type "tuple") : SortableO prog w A s a vs fun v u => slt2 (k v) (k u) := by
  intro h' keep
  have hp' : ∀ v ∈ vs, ∃ t, IsTp h' v (k v).1 [.str (k v).2 t] := fun v hm => let ⟨r, z⟩ := hp v hm; ⟨r, z.keeps fun b o e c => keep b o (fun z => by subst z; exact ha o e c) e⟩
  exact ⟨tuples' true, fun Q E hq => tps_kind h0 (fun v hm => let ⟨r, z⟩ := hp' v hm; ⟨_, _, z⟩) hq, pairs_cmp hp'⟩
end
section
variable {X : Cx}
theorem noTup {h : Heap} {a : Addr} {vs : List Value} (ha : h.get? a = some (seqObj "list" vs.toArray 0)) : ∀ o, h.get? a = some o → o.cls ≠ .type "tuple" := fun o e c => by
  have e' : some o = some (seqObj "list" vs.toArray 0) := e.symm.trans ha
  cases e'
  exact absurd (Value.type.inj c) (by decide)
/-- sorted(xs), xs a list of tuples told apart by their first text -/
def rSortR (K : PySem.W.Frag) : List V → Hp → VK → Prop := fun vs H Q => ∃ (a : Addr) (xs : List V) (k : V → Str), vs = [V.ref a] ∧ SqL K H a xs ∧ (∀ x ∈ xs, ∃ t r, x = V.ref t ∧ SqT K H t (.str (k x) :: r)) ∧ (∀ x ∈ xs, ∀ y ∈ xs, k x = k y → x = y) ∧
  ∀ ys p, ys.Perm xs → ys.Pairwise (fun x y => slt (k y) (k x) = false) → H p = none → Q (.ref p) (upd H p (.lst ys))
theorem cr_sortR : CallR X (.builtin "sorted") (rSortR X.K) := by
  intro pins s σ H vs us Q I r h
  obtain ⟨a, xs, k, rfl, hs, hx, ne, q⟩ := h
  obtain ⟨its, rv, hl, hz⟩ := I.list hs
  rw [Vals.ref1 r]
  obtain ⟨e1, e2⟩ := refs_back rv fun x m => by
    obtain ⟨t, r, e, _⟩ := hx x m
    exact ⟨t, e⟩
  have hp : ∀ v ∈ its, ∃ r, IsTp s.heap v (k (backV v)) r := fun v hv => by
    obtain ⟨t, rfl⟩ := e2 v hv
    have hm : V.ref t ∈ xs := by rw [e1]; exact List.mem_map.mpr ⟨_, hv, rfl⟩
    obtain ⟨t', r, e, ht⟩ := hx _ hm
    cases e
    obtain ⟨its2, r2, ⟨o, ho, hc, n, hd⟩, _⟩ := I.tuple ht
    cases r2 with
    | cons r0 r3 =>
      obtain ⟨tk, rfl⟩ := r0
      exact ⟨_, t, o, _, n, tk, rfl, ho, hc, hd, rfl⟩
  have ne' : ∀ v ∈ its, ∀ u ∈ its, k (backV v) = k (backV u) → v = u := fun v hv u hu e => by
    obtain ⟨t, rfl⟩ := e2 v hv
    obtain ⟨t', rfl⟩ := e2 u hu
    have q := ne (.ref t) (by rw [e1]; exact List.mem_map.mpr ⟨_, hv, rfl⟩) (.ref t') (by rw [e1]; exact List.mem_map.mpr ⟨_, hu, rfl⟩) e
    injection q with q
    rw [q]
  refine sorted_seq (swo_of swo_s fun u => k (backV u)) (.inl hl.isList) (by rw [← rv.length]; exact hz) (fun h2 h₁ a' ha' kk => first_sortable (by omega) (fun v hv => let ⟨r, z⟩ := hp v hv; ⟨r, z.keeps fun b o e _ => (kk b o e).2⟩) ne' (noTup ha')) fun out h1 h2 => ?_
  have h3 : ∀ u ∈ out, ∃ a, u = Value.ref a := fun u hu => e2 u (h2.perm.mem_iff.mp hu)
  obtain ⟨ep, he'⟩ := PyProof.Rows.sortedAll_at s.heap its out.toArray
  have pm : (out.map backV).Perm xs := by
    rw [e1]
    exact h2.perm.map backV
  refine ⟨.ref _, upd H (s.heap.objs.size + 1) (.lst (out.map backV)), I.laid (t' := s.toks) (fun _ _ => PyProof.Rows.sortedAll_old) (Nat.le_succ _) ⟨by rw [pm.length_eq]; exact hz, out, ep, vals_back h3, he'⟩, rfl, q _ _ pm (List.pairwise_map.mpr h1) (I.hok.fresh (Nat.le_succ _))⟩
/-- sorted(xs), xs a list of pairs of texts -/
def rSortB (K : PySem.W.Frag) : List V → Hp → VK → Prop := fun vs H Q => ∃ (a : Addr) (xs : List V) (k : V → Str × Str), vs = [V.ref a] ∧ SqL K H a xs ∧ (∀ x ∈ xs, ∃ t, x = V.ref t ∧ SqT K H t [.str (k x).1, .str (k x).2]) ∧
  ∀ ys p, ys.Perm xs → ys.Pairwise (fun x y => slt2 (k y) (k x) = false) → H p = none → Q (.ref p) (upd H p (.lst ys))
theorem cr_sortB : CallR X (.builtin "sorted") (rSortB X.K) := by
  intro pins s σ H vs us Q I r h
  obtain ⟨a, xs, k, rfl, hs, hx, q⟩ := h
  obtain ⟨its, rv, hl, hz⟩ := I.list hs
  rw [Vals.ref1 r]
  obtain ⟨e1, e2⟩ := refs_back rv fun x m => by
    obtain ⟨t, e, _⟩ := hx x m
    exact ⟨t, e⟩
  have hp : ∀ v ∈ its, ∃ t, IsTp s.heap v (k (backV v)).1 [.str (k (backV v)).2 t] := fun v hv => by
    obtain ⟨t, rfl⟩ := e2 v hv
    have hm : V.ref t ∈ xs := by rw [e1]; exact List.mem_map.mpr ⟨_, hv, rfl⟩
    obtain ⟨t', e, ht⟩ := hx _ hm
    cases e
    obtain ⟨its2, r2, ⟨o, ho, hc, n, hd⟩, _⟩ := I.tuple ht
    obtain ⟨u1, u2, rfl, ri, rj⟩ := vals2 r2
    obtain ⟨t1, rfl⟩ := ri
    obtain ⟨t2, rfl⟩ := rj
    exact ⟨t2, t, o, _, n, t1, rfl, ho, hc, hd, rfl⟩
  refine sorted_seq (swo_of swo_s2 fun u => k (backV u)) (.inl hl.isList) (by rw [← rv.length]; exact hz) (fun h2 h₁ a' ha' kk => pairs_sortable (by omega) (fun v hv => let ⟨r, z⟩ := hp v hv; ⟨r, z.keeps fun b o e _ => (kk b o e).2⟩) (noTup ha')) fun out h1 h2 => ?_
  have h3 : ∀ u ∈ out, ∃ a, u = Value.ref a := fun u hu => e2 u (h2.perm.mem_iff.mp hu)
  obtain ⟨ep, he'⟩ := PyProof.Rows.sortedAll_at s.heap its out.toArray
  have pm : (out.map backV).Perm xs := by
    rw [e1]
    exact h2.perm.map backV
  refine ⟨.ref _, upd H (s.heap.objs.size + 1) (.lst (out.map backV)), I.laid (t' := s.toks) (fun _ _ => PyProof.Rows.sortedAll_old) (Nat.le_succ _) ⟨by rw [pm.length_eq]; exact hz, out, ep, vals_back h3, he'⟩, rfl, q _ _ pm (List.pairwise_map.mpr h1) (I.hok.fresh (Nat.le_succ _))⟩
end
end MyS

set_option Elab.async false
set_option linter.all false
set_option maxRecDepth 100000
set_option maxHeartbeats 4000000
/-! {k: v for x in xs} with tuples as keys (the library's HandS.DictComp is for ints and texts; the steps are its steps, the store is another). -/
namespace MyS
open PySem PySem.Spec PyProof.Rows L2
section
variable {X : Cx}
theorem d_dictSetT {pins : List (Addr × Obj)} {σ : L2.St} {H : Hp} {s : Shared} {E : Value → Shared → Prop} {D b : Addr} {kvs : List (List Key × V)} {k : List Key} {v : V} {u r : Value} {Q : Unit → Shared → Prop} (hu : X.A.units + 1 < cLine) (I : Inv X pins σ H s) (hD : H D = some (.dT kvs)) (hz : kvs.length < sizeLine)
    (eb : H b = some (.tup (k.map kV))) (ry : RelV (.ref b) u) (rv : RelV v r) (h : ∀ s', Inv X pins σ (upd H D (.dT (putK kvs k v))) s' → Q () s') : wpAny (model X.prog X.w) X.A (dictSet D u r) Q E s := by
  cases (show u = Value.ref b from ry)
  obtain ⟨z, hd, xs, rel, dd⟩ := dt_of I.hok hD
  have hxs : xs.length ≤ sizeLine := by rw [← Paired.length rel]; exact z
  have hl : (putK kvs k v).length ≤ sizeLine := by have := length_putK kvs k v; omega
  refine wpAny_dictSet_heap (hsz := hxs) (show X.A.units < cLine from Nat.lt_of_succ_lt hu) (key_of I.hok eb) dd fun h' dd' hs => h _ ?_
  obtain ⟨q, es, ep, hq, h2, h3, h4, _, h5⟩ := dd'
  refine d_write I (by rw [hD]; exact True.intro) hs ⟨q, hq⟩ ⟨hl, hd, _, (rel.put k eb rv).keeps fun c ys ec => ?_, q, es, ep, hq, h2, h3, h4, h5⟩
  rw [upd_ne (ne_of ec hD (fun z => nomatch z))]
  exact ec
/-- {k: v for x in xs}: the tuple keys' own dict D; the loop by W as in a list comprehension -/
def tDcT (wi : TI) (g : TG) (tt : TT) (tk tv : TE) (vs : List Nat) : TE := fun σ H Q => wi σ H fun J H1 => ∀ D, H1 D = none → ∃ W : Nat → Nat → Hp → Prop, (∃ m, W 0 m (upd H1 D (.dT []))) ∧ ∀ i m H, W i m H →
  (J.stop i H ∧ Q (.ref D) H) ∨ (J.go i H ∧ ∃ Nx : Hp → Prop, (∀ H', Nx H' → ∃ m', m' < m ∧ W (i + 1) m' H') ∧ ∀ x H', J.yld i H x H' → g x (wipe σ vs) H' fun σ2 H2 => wipe σ2 vs = wipe σ vs ∧ tt σ2 H2 fun b H3 =>
    if b = true then tk σ2 H3 fun y H4 => tv σ2 H4 fun z H5 => ∃ kvs k c, y = .ref c ∧ H5 c = some (.tup (k.map kV)) ∧ H5 D = some (.dT kvs) ∧ kvs.length < sizeLine ∧ Nx (upd H5 D (.dT (putK kvs k z))) else Nx H3)
theorem pe_dcT {kx vx tg iter : Expr} {ifs : List Expr} {scope : Scope} {own : List (PySem.Str × Nat)} {pos : Pos} {wi : TI} {g : TG} {tt : TT} {tk tv : TE} (hu : X.A.units + 1 < cLine) (hc : X.calm = true) (hN : X.N.Nodup) (hi : PI X tg iter wi) (ok : BlkOk X.N X.env.scope scope own)
    (hg : ∀ (s : Shared) (H : Hp) (C : Addr) (cl : List (PySem.Str × Addr)) (fp : List Addr), PG (X.blk s H scope (compEnvC scope cl C X.env) fp) tg g) (ht : ∀ (s : Shared) (H : Hp) (C : Addr) (cl : List (PySem.Str × Addr)) (fp : List Addr), PTs (X.blk s H scope (compEnvC scope cl C X.env) fp) ifs tt)
    (hk : ∀ (s : Shared) (H : Hp) (C : Addr) (cl : List (PySem.Str × Addr)) (fp : List Addr), PE (X.blk s H scope (compEnvC scope cl C X.env) fp) kx tk)
    (he : ∀ (s : Shared) (H : Hp) (C : Addr) (cl : List (PySem.Str × Addr)) (fp : List Addr), PE (X.blk s H scope (compEnvC scope cl C X.env) fp) vx tv) (hs : ∀ x, foldedSetIterable iter X.env x = pure x := by intro _; rfl) :
    PE X (.DictComp kx vx [⟨tg, iter, ifs, 0⟩] scope pos) (tDcT wi g tt tk tv (own.map (·.2))) := by
  refine ⟨fun pins s σ H Q I h => ?_⟩
  rw [arm_eval_DictComp]
  have hfree : ∀ y ∈ scope.names, y.2 = .free → ∃ c, X.env.cells.lookup y.1 = some c := fun y hy e =>
    (ok.free y hy e).elim (fun k => I.ok.has _ (.inl k)) fun k => I.ok.has _ (.inr k)
  refine wpAny_comprehension_free (use := none) rfl hs (closure_ok hfree) ok.kind (fun y hy e => by rw [ok.uniq y hy, e]) (thn (hi.run pins s σ H _ I h) fun xv s1 hx => thn hx fun itv s2 h2 => ?_)
  obtain ⟨it, fp, tn, J, H2, rfl, I2, T, st2, f2, q⟩ := h2
  refine wpAny_newObj_type (newEnv_comp ?_)
  obtain ⟨W, ⟨m0, w0⟩, turn⟩ := q s2.heap.objs.size (I2.hok.fresh (Nat.le_refl _))
  -- the new dict
  have I3 : Inv X pins σ (upd H2 s2.heap.objs.size (.dT [])) { s2 with heap := s2.heap.push { cls := .type "dict", data := .dict #[] } } :=
    I2.laid (t' := s2.toks) (fun b o e => Heap.get?_push_of_some _ e) (Nat.le_refl _) (dt_empty s2.heap I2.big)
  have below : ∀ b ∈ fp, b < s2.heap.objs.size := fun b hb => let ⟨o, e, _⟩ := T.obj _ _ st2 b hb; Heap.lt_size e
  generalize hs3 : ({ s2 with heap := s2.heap.push { cls := .type "dict", data := .dict #[] } } : Shared) = s3 at I3
  have h3 : s3.heap = s2.heap.push { cls := .type "dict", data := .dict #[] } := by rw [← hs3]
  generalize hD : s2.heap.objs.size = D at I3 w0 turn below ⊢
  have f3 : ∀ b ∈ fp, FpOk X pins (upd H2 D (.dT [])) b ∧ b < s3.heap.objs.size := fun b hb =>
    ⟨⟨by rw [upd_ne (Nat.ne_of_lt (below b hb))]; exact (f2 b hb).1, (f2 b hb).2⟩, by rw [h3, Heap.size_push, hD]; exact Nat.lt_succ_of_lt (below b hb)⟩
  have st3 : tn 0 s3.heap := T.keep _ _ _ st2 fun b _ o e => by rw [h3]; exact Heap.get?_push_of_some _ e
  have I4 := block_start I3 ok hN f3
  generalize hC : cellsFrom (s3.heap.objs.size + 1) scope.names (cloFrom X.env.cells scope.names []) = cl at I4
  have pg := hg s3 (upd H2 D (.dT [])) s3.heap.objs.size cl fp
  have pt := ht s3 (upd H2 D (.dT [])) s3.heap.objs.size cl fp
  have pk := hk s3 (upd H2 D (.dT [])) s3.heap.objs.size cl fp
  have pe := he s3 (upd H2 D (.dT [])) s3.heap.objs.size cl fp
  have goal : codeAny (model X.prog X.w) X.A (.compStart (.DictComp kx vx [⟨tg, iter, ifs, 0⟩] scope pos) 0 (.ref it) (.ref D) (compEnvC scope cl s3.heap.objs.size X.env)) (compPost (model X.prog X.w) X.A X.xe none (EP X pins σ Q) (.ref D) s3.heap.objs.size) { s3 with heap := pushCells (s3.heap.push { cls := .type "dict", data := .dict #[] }) scope.names } := by
    have cL : (compEnvC scope cl s3.heap.objs.size X.env).locals = s3.heap.objs.size := rfl
    generalize compEnvC scope cl s3.heap.objs.size X.env = ce at I4 pg pt pk pe cL ⊢
    generalize hH3 : upd H2 D (.dT []) = H3 at I3 I4 pg pt pk pe w0 f3
    generalize hs4 : ({ s3 with heap := pushCells (s3.heap.push { cls := .type "dict", data := .dict #[] }) scope.names } : Shared) = s4 at I4 ⊢
    have st4 : tn 0 s4.heap := T.keep _ _ _ st3 fun b _ o e => by rw [← hs4]; exact pushCells_keeps _ _ _ _ (Heap.get?_push_of_some _ e)
    have stat : ∀ {σ' : L2.St} {H' : Hp} {s' : Shared}, Inv (X.blk s3 H3 scope ce fp) [] σ' H' s' → (∀ b ∈ fp, H' b = none) → ∀ b ∈ fp, FpOk (X.blk s3 H3 scope ce fp) [] H' b := fun {σ' H' s'} I' hn b hb =>
      ⟨hn b hb, (I'.ok.exf b hb).1, I'.ok.exfs b hb, .inl hb, fun x c e => (I'.ok.exf b hb).2 x c e, fun p hp => absurd (show p ∈ ([] : List (Addr × Obj)) ++ [] from hp) (by simp)⟩
    refine codeAny_compStart_dict ?lp (T.self X.A 0 _ _ _ st4 ?lp)
    refine compLoop_anyD (fun n s' => ∃ i H', Inv (X.blk s3 H3 scope ce fp) [] (wipe σ (own.map (·.2))) H' s' ∧ tn i s'.heap ∧ (∀ b ∈ fp, H' b = none) ∧ W i n H') ?_ m0 ⟨0, H3, I4, st4, fun b hb => (f3 b hb).1.1, w0⟩
    rintro n s5 ⟨i, H5, I5, st5, n5, w5⟩
    rcases turn i n H5 w5 with ⟨stop, qq⟩ | ⟨go, Nx, hNx, step⟩
    · refine thnF (T.done (X.blk s3 H3 scope ce fp) rfl rfl rfl hc i [] s5 _ H5 (fun _ _ => False) I5 (stat I5 n5) st5 stop) fun r s6 ⟨hr, I6⟩ => ?_
      subst hr
      have I7 : Inv X pins σ H5 s6 := I3.call' (ch := fp) I6.os I6.base I6.hok I6.bare fun b hb => ⟨(f3 b hb).1.2.2.2.1, (f3 b hb).1.2.1, (f3 b hb).1.2.2.2.2.1, (f3 b hb).1.2.2.2.2.2⟩
      have nC : H5 s3.heap.objs.size = none := by
        have z : H5 ce.locals = none := I6.free
        rw [cL] at z
        exact z
      obtain ⟨m, hn, _⟩ := I6.loc
      have hn : s6.heap.Ns ce.locals m := hn
      rw [cL] at hn
      obtain ⟨f0, f1, f2, f3, f4, f5⟩ := I3.fpOk (Nat.le_refl _) nC
      exact ⟨m, hn, fun h'' sb => ⟨.ref D, H5, I7.turned (t' := s6.toks) (fun b o hb e => (sb.2 b hb).trans e) f0 f1 f3 f4 f5, rfl, qq⟩⟩
    · refine thnF (T.item (X.blk s3 H3 scope ce fp) rfl rfl rfl hc i [] s5 _ H5 (fun _ _ => False) I5 (stat I5 n5) st5 go) fun r s6 ⟨u, hr, h6⟩ => ?_
      subst hr
      refine thnF h6 fun _ s7 ⟨x, H7, I7, r7, y7, st7, n7⟩ => ?_
      refine thnF (pg.run _ s7 _ H7 x u _ (I7.pinned (stat I7 n7) (T.obj _ _ st7)) r7 (step x H7 y7)) fun _ s8 ⟨σ8, H8, I8, hw8, q8⟩ => ?_
      refine thnF (pt.run _ s8 σ8 H8 _ I8 q8) fun b s9 ⟨H9, I9, q9⟩ => ?_
      have fin : ∀ {s' : Shared} {H' : Hp}, Inv (X.blk s3 H3 scope ce fp) ([] ++ pinsAt fp s7.heap) σ8 H' s' → Nx H' → ∃ m, m < n ∧ ∃ i H', Inv (X.blk s3 H3 scope ce fp) [] (wipe σ (own.map (·.2))) H' s' ∧ tn i s'.heap ∧ (∀ b ∈ fp, H' b = none) ∧ W i m H' := fun {s' H'} I' nx => by
        obtain ⟨m', hm, w'⟩ := hNx H' nx
        have pin' : ∀ b ∈ fp, ∀ o, s7.heap.get? b = some o → s'.heap.get? b = some o ∧ H' b = none := fun b hb o e =>
          have z := I'.pin (b, o) (List.mem_append_right _ (List.mem_append_right _ (mem_pinsAt hb e)))
          ⟨z.1, z.2.1⟩
        have hl : (wipe σ (own.map (·.2))).length = σ8.length := by rw [← hw8, wipe_length]
        refine ⟨m', hm, i + 1, H', (I'.unpinned (pins := [])).weak hl (fun j v e => ?_), T.keep _ _ _ st7 fun b hb o e => (pin' b hb o e).1, fun b hb => ?_, w'⟩
        · rw [← hw8] at e
          exact (wipe_some e).1
        · obtain ⟨o, e, _⟩ := T.obj _ _ st7 b hb
          exact (pin' b hb o e).2
      cases b with
      | false =>
        simp only [Bool.false_eq_true, if_false] at q9 ⊢
        exact fin I9 q9
      | true =>
        simp only [if_true] at q9 ⊢
        refine thnF (pk.run _ s9 σ8 H9 _ I9 q9) fun z s10 ⟨yk, H10, I10, r10, q10⟩ => ?_
        refine thnF (pe.run _ s10 σ8 H10 _ I10 q10) fun z2 s11 ⟨yv, H11, I11, r11, kvs, k, c, ek, ec, hD11, hz11, nx⟩ => ?_
        subst ek
        exact d_dictSetT (X := X.blk s3 H3 scope ce fp) hu I11 hD11 hz11 ec r10 r11 fun s12 I12 => fin I12 nx
  subst hD
  exact goal
/-- over a tuple that stays -/
theorem dcT_tup {K : PySem.W.Frag} {a : Addr} {xs : List V} {g : TG} {tt : TT} {tk tv : TE} {vs : List Nat} {σ : L2.St} {H1 : Hp} {D : Addr} {Qd : Hp → Prop} (Pv : Nat → Hp → Prop) (h0 : Pv 0 (upd H1 D (.dT []))) (hl : ∀ i H, i ≤ xs.length → Pv i H → SqT K H a xs)
    (hs : ∀ i x H, xs[i]? = some x → Pv i H → g x (wipe σ vs) H fun σ2 H2 => wipe σ2 vs = wipe σ vs ∧ tt σ2 H2 fun b H3 =>
      if b = true then tk σ2 H3 fun y H4 => tv σ2 H4 fun z H5 => ∃ kvs k c, y = .ref c ∧ H5 c = some (.tup (k.map kV)) ∧ H5 D = some (.dT kvs) ∧ kvs.length < sizeLine ∧ Pv (i + 1) (upd H5 D (.dT (putK kvs k z))) else Pv (i + 1) H3) (hd : ∀ H, Pv xs.length H → Qd H) :
    ∃ W : Nat → Nat → Hp → Prop, (∃ m, W 0 m (upd H1 D (.dT []))) ∧ ∀ i m H, W i m H →
      ((Itt K a).stop i H ∧ Qd H) ∨ ((Itt K a).go i H ∧ ∃ Nx : Hp → Prop, (∀ H', Nx H' → ∃ m', m' < m ∧ W (i + 1) m' H') ∧ ∀ x H', (Itt K a).yld i H x H' → g x (wipe σ vs) H' fun σ2 H2 => wipe σ2 vs = wipe σ vs ∧ tt σ2 H2 fun b H3 =>
        if b = true then tk σ2 H3 fun y H4 => tv σ2 H4 fun z H5 => ∃ kvs k c, y = .ref c ∧ H5 c = some (.tup (k.map kV)) ∧ H5 D = some (.dT kvs) ∧ kvs.length < sizeLine ∧ Nx (upd H5 D (.dT (putK kvs k z))) else Nx H3) := by
  refine ⟨fun i m H => m = xs.length - i ∧ i ≤ xs.length ∧ Pv i H, ⟨xs.length, by simp, Nat.zero_le _, h0⟩, ?_⟩
  rintro i m H ⟨rfl, hi, p⟩
  have q := hl i H hi p
  rcases Nat.lt_or_ge i xs.length with lt | ge
  · refine .inr ⟨⟨xs, xs[i], q, by simp [lt]⟩, Pv (i + 1), fun H' p' => ⟨xs.length - (i + 1), by omega, rfl, lt, p'⟩, fun x H' y => ?_⟩
    obtain ⟨rfl, y⟩ := y
    exact hs i x _ (y xs q) p
  · obtain rfl : i = xs.length := by omega
    exact .inl ⟨⟨xs, q, Nat.le_refl _⟩, hd H p⟩
end
end MyS

set_option Elab.async false
set_option linter.all false
set_option maxRecDepth 100000
set_option maxHeartbeats 4000000
namespace W
open PySem PySem.Spec PyProof.Rows L2 GxR MyG
/-! ### the text by places -/
def top (i : Nat) : Stmt := PySem.Challenge.pw_waypapers_k46_what_sets_clash_about.main.body.getD i (.Pass ⟨0, 0, 0, 0⟩)
/-! ### names -/
def zLet : Str := "abcdefghijklmnopqrstuvwxyz"
def zDig : Str := "0123456789"
def goodC (c : Nat) : Bool := decide (c ∈ zLet.cps.toList) || decide (c ∈ zDig.cps.toList)
def isNm (z : Str) : Bool := decide (1 ≤ z.length) && decide (z.length ≤ 12) && (match z.cps.toList with | [] => false | c :: _ => decide (c ∈ zLet.cps.toList)) && z.cps.toList.all goodC
/-- the element of the generator: x in A or x in B -/
theorem elt_two {prog : Program} {w : World} {base : Heap} {mg : Str → Option Value} {scope : Scope} {x A B : Str} {a b : Str} {ta tb : Tok} {p1 p2 p3 p4 p5 p6 p7 : Pos} (hk : scope.kind = .function) (hl : scope.names.lookup x = some .local)
    (hA : scope.names.lookup A = some .globalImplicit) (hB : scope.names.lookup B = some .globalImplicit) (hns : base.Ns mainGlobals mg) (eA : mg A = some (.str a ta)) (eB : mg B = some (.str b tb))
    (hd : (x == ("__debug__" : Str)) = false := by decide) (hdA : (A == ("__debug__" : Str)) = false := by decide) (hdB : (B == ("__debug__" : Str)) = false := by decide) :
    EltB prog w base scope x (.BoolOp .Or [.Compare (.Name x p1) [.In] [.Name A p2] p3, .Compare (.Name x p4) [.In] [.Name B p5] p6] p7) (fun c => decide (c ∈ a.cps.toList) || decide (c ∈ b.cps.toList)) := by
  intro ce B' F c t z m hs hg hh hb hn hm
  have kf : ce.scope.kind = .function := by rw [hs]; exact hk
  have kx : ce.kindOf x = some .local := by show ce.scope.names.lookup x = _; rw [hs]; exact hl
  have nsz : ∀ (z' : Shared), Keeps z z' → z'.heap.Ns ce.globals mg := fun z' k => by
    rw [hg]
    obtain ⟨h', tk, rfl, kk⟩ := k
    exact (hns.keeps hb).keeps kk
  have one : ∀ (G : Str) (g : Str) (tg : Tok) (q1 q2 q3 : Pos) (Q : Value → Shared → Prop), (G == ("__debug__" : Str)) = false → scope.names.lookup G = some .globalImplicit → mg G = some (.str g tg) → Q (.bool (decide (c ∈ g.cps.toList))) z →
      wpAny (model prog w) B' (eval (.Compare (.Name x q1) [.In] [.Name G q2] q3) ce) Q F z := by
    intro G g tg q1 q2 q3 Q hdG hG eG hQ
    refine wpAny_Compare1 ?_
    refine wpAny_Name (wpAny_loadName_local kf kx hn hm ?_) hd
    refine Calls.Name_function_global kf (by show ce.scope.names.lookup G = _; rw [hs]; exact hG) (Calls.loadGlobal_global (nsz z (keeps_refl z)) eG ?_) hdG
    refine PyProof.Rows.in_str ?_
    rw [PySem.StrLaws.found_one g c]
    exact hQ
  refine BoolOp_or (one A a ta _ _ _ _ hdA hA eA ?_)
  refine wpAny_truthy_bool ?_
  by_cases ca : c ∈ a.cps.toList
  · have ea : decide (c ∈ a.cps.toList) = true := decide_eq_true ca
    rw [if_pos ea]
    refine ⟨?_, keeps_refl z⟩
    show Value.bool (decide (c ∈ a.cps.toList)) = Value.bool (decide (c ∈ a.cps.toList) || decide (c ∈ b.cps.toList))
    rw [ea]; rfl
  · have ea : decide (c ∈ a.cps.toList) = false := decide_eq_false ca
    rw [if_neg (by rw [ea]; exact Bool.false_ne_true)]
    refine BoolOp_one (one B b tb _ _ _ _ hdB hB eB ?_)
    refine ⟨?_, keeps_refl z⟩
    show Value.bool (decide (c ∈ b.cps.toList)) = Value.bool (decide (c ∈ a.cps.toList) || decide (c ∈ b.cps.toList))
    rw [ea]; rfl

theorem pe_gI {X : Cx} {x : Str} {i : Int} {t : Tok} {pos : Pos} (hm : X.mg x = some (.int i t)) (hg : Gl X x := by rfl) (hd : (x == ("__debug__" : Str)) = false := by decide) : PE X (.Name x pos) (tC (.int i)) := pe_glob hg hm ⟨_, rfl⟩ hd
theorem pe_gS {X : Cx} {x z : Str} {t : Tok} {pos : Pos} (hm : X.mg x = some (.str z t)) (hg : Gl X x := by rfl) (hd : (x == ("__debug__" : Str)) = false := by decide) : PE X (.Name x pos) (tC (.str z)) := pe_glob hg hm ⟨_, rfl⟩ hd
theorem nofree {names : List (Str × NameKind)} {Q : Str × NameKind → Prop} (h : names.all (fun y => y.2 != .free) = true) : ∀ y ∈ names, y.2 = .free → Q y := fun y hy e => by
  have q := List.all_eq_true.mp h y hy
  rw [e] at q
  exact absurd q (by decide)
theorem if_t {c : Bool} {A B : Prop} (hc : c = true) (h : A) : if c = true then A else B := by
  rw [if_pos hc]
  exact h
theorem if_f {c : Bool} {A B : Prop} (hc : c = false) (h : B) : if c = true then A else B := by
  rw [hc, if_neg Bool.false_ne_true]
  exact h
/-! ### what the top has written -/
structure Txt (K : PySem.W.Frag) (mg : Str → Option Value) (C P : Addr) : Prop where
  let_ : ∃ t, mg "LETTERS" = some (.str zLet t)
  dig : ∃ t, mg "DIGITS" = some (.str zDig t)
  ln : ∃ t, mg "LONGEST_NAME" = some (.int 12 t)
  len : mg "len" = none
  all : mg "all" = none

def spIsName (P : Addr) : Sp := fun vs H Q _ => ∃ z : Str, vs = [.str z] ∧ z.length ≤ sizeLine ∧ TabG H P ∧ ∀ H', Tabbed P H H' → Q (.bl (isNm z)) H'
section
variable {Pg : Program} {w : World} {K : PySem.W.Frag} {mg : Str → Option Value} {base : Heap} {C P : Addr}
theorem str_len0 {z : Str} (h : ¬ 1 ≤ z.length) : isNm z = false := by
  unfold isNm
  simp [h]
end
end W

set_option Elab.async false
set_option linter.all false
set_option maxRecDepth 100000
set_option maxHeartbeats 400000
namespace W
open PySem PySem.Spec PyProof.Rows L2 GxR MyG MyS
/-! ### heaps that have grown: what stood (but the table at P) stands -/
structure Grew (P : Addr) (H H' : Hp) : Prop where
  tab : TabG H' P
  old : ∀ b o, b ≠ P → (∀ ps, o ≠ .tbl ps) → H b = some o → H' b = some o
  tabs : ∀ b, TabG H b → TabG H' b
  there : ∀ b, H b ≠ none → H' b ≠ none
section
variable {P : Addr} {H H1 H2 H' : Hp} {K : PySem.W.Frag}
theorem Grew.refl (h : TabG H P) : Grew P H H := ⟨h, fun _ _ _ _ e => e, fun _ q => q, fun _ q => q⟩
theorem Grew.trans (a : Grew P H H1) (b : Grew P H1 H2) : Grew P H H2 := ⟨b.tab, fun c o n d e => b.old c o n d (a.old c o n d e), fun c q => b.tabs c (a.tabs c q), fun c q => b.there c (a.there c q)⟩
theorem Grew.of (t : Tabbed P H H') : Grew P H H' := ⟨t.1, fun b o n _ e => by rw [t.2 b n]; exact e, fun b q => by
  by_cases n : b = P
  · rw [n]; exact t.1
  · obtain ⟨ps, e, r⟩ := q
    exact ⟨ps, by rw [t.2 b n]; exact e, r⟩, fun b q => by
  by_cases n : b = P
  · rw [n]
    obtain ⟨ps, e, r⟩ := t.1
    rw [e]
    exact fun z => by cases z
  · rw [t.2 b n]; exact q⟩
/-- another def's table has grown -/
theorem Grew.of2 {P2 : Addr} (h1 : TabG H P) (h2 : TabG H P2) (t : Tabbed P2 H H') : Grew P H H' := by
  have g := Grew.of t
  refine ⟨g.tabs P h1, fun b o n d e => g.old b o (fun z => ?_) d e, g.tabs, g.there⟩
  obtain ⟨ps, q, _⟩ := h2
  rw [z, q] at e
  exact d ps (Option.some.inj e).symm
theorem tabNe (h : TabG H P) {a : Addr} (n : H a = none) : a ≠ P := fun e => by
  obtain ⟨ps, q, _⟩ := h
  rw [e, q] at n
  cases n
theorem tabNe' (h : TabG H P) {a : Addr} {o : HO} (e : H a = some o) (d : ∀ ps, o ≠ .tbl ps) : a ≠ P := fun z => by
  obtain ⟨ps, q, _⟩ := h
  rw [z, q] at e
  exact d ps (Option.some.inj e).symm
theorem tabUpd (h : TabG H P) {a : Addr} {o : HO} (n : a ≠ P) : TabG (upd H a o) P := by
  obtain ⟨ps, q, t⟩ := h
  exact ⟨ps, by rw [upd_ne (Ne.symm n)]; exact q, t⟩
/-- a new object -/
theorem Grew.new (h : TabG H P) {a : Addr} {o : HO} (n : H a = none) : Grew P H (upd H a o) := ⟨tabUpd h (tabNe h n), fun b u _ _ e => by rw [upd_ne (ne_of_none e n)]; exact e, fun b q => by
  obtain ⟨ps, e, r⟩ := q
  exact ⟨ps, by rw [upd_ne (ne_of_none e n)]; exact e, r⟩, fun b q => by
  by_cases z : b = a
  · rw [z, upd_same]; exact fun z => by cases z
  · rw [upd_ne z]; exact q⟩
theorem Grew.put (g : Grew P H H1) {a : Addr} {o : HO} (n : H1 a = none) : Grew P H (L2.upd H1 a o) := g.trans (Grew.new g.tab n)
theorem Grew.get (g : Grew P H H') (h : TabG H P) {b : Addr} {o : HO} (e : H b = some o) (d : ∀ ps, o ≠ .tbl ps) : H' b = some o := g.old b o (tabNe' h e d) d e
theorem Grew.lst (g : Grew P H H') (h : TabG H P) {b : Addr} {xs : List V} (e : H b = some (.lst xs)) : H' b = some (.lst xs) := g.get h e (fun _ z => by cases z)
theorem Grew.tup (g : Grew P H H') (h : TabG H P) {b : Addr} {xs : List V} (e : H b = some (.tup xs)) : H' b = some (.tup xs) := g.get h e (fun _ z => by cases z)
theorem Grew.free (g : Grew P H H') {b : Addr} (n : H' b = none) : H b = none := by
  cases q : H b with
  | none => rfl
  | some o => exact absurd n (g.there b (by rw [q]; exact fun z => by cases z))
theorem Grew.sqL (g : Grew P H H') (h : TabG H P) {a : Addr} {xs : List V} (q : SqL K H a xs) : SqL K H' a xs := by
  rcases q with (q | ⟨o, q⟩) | q
  · exact .inl (.inl (g.lst h q))
  · exact .inl (.inr ⟨o, g.get h q (fun _ z => by cases z)⟩)
  · exact .inr q
theorem Grew.sqT (g : Grew P H H') (h : TabG H P) {a : Addr} {xs : List V} (q : SqT K H a xs) : SqT K H' a xs := by
  rcases q with (q | ⟨o, q⟩) | q
  · exact .inl (.inl (g.tup h q))
  · exact .inl (.inr ⟨o, g.get h q (fun _ z => by cases z)⟩)
  · exact .inr q
/-- an own object that was not there at H may be written -/
theorem Grew.write (g : Grew P H H1) {a : Addr} {o u : HO} (e : H1 a = some u) (d : ∀ ps, u ≠ .tbl ps) (n : H a = none) : Grew P H (L2.upd H1 a o) :=
  ⟨tabUpd g.tab (tabNe' g.tab e d), fun b v hb dv q => by rw [upd_ne (ne_of_none q n)]; exact g.old b v hb dv q, fun b q => by
    have q2 := g.tabs b q
    obtain ⟨ps, eb, _⟩ := q
    exact tabUpd q2 (ne_of_none eb n).symm, fun b q => by
    by_cases z : b = a
    · rw [z, upd_same]; exact fun z => by cases z
    · rw [upd_ne z]; exact g.there b q⟩
end

/-! ### what stands in tuples goes on standing -/
def KeepT (K : PySem.W.Frag) (H H' : Hp) : Prop := ∀ a xs, SqT K H a xs → SqT K H' a xs
theorem KeepT.refl {K : PySem.W.Frag} {H : Hp} : KeepT K H H := fun _ _ h => h
theorem KeepT.trans {K : PySem.W.Frag} {H H1 H2 : Hp} (x : KeepT K H H1) (y : KeepT K H1 H2) : KeepT K H H2 := fun a xs h => y a xs (x a xs h)
theorem KeepT.grew {K : PySem.W.Frag} {P : Addr} {H H' : Hp} (g : Grew P H H') (h : TabG H P) : KeepT K H H' := fun _ _ q => g.sqT h q
theorem KeepT.upd {K : PySem.W.Frag} {H : Hp} {D : Addr} {o : HO} (h1 : ∀ xs, H D ≠ some (.tup xs)) (h2 : ∀ xs u, H D ≠ some (.frz u (.tup xs))) : KeepT K H (L2.upd H D o) := fun a xs q => by
  rcases q with (q | ⟨u, q⟩) | q
  · have ne : a ≠ D := fun e => by subst e; exact h1 xs q
    exact .inl (.inl (by rw [upd_ne ne]; exact q))
  · have ne : a ≠ D := fun e => by subst e; exact h2 xs u q
    exact .inl (.inr ⟨u, by rw [upd_ne ne]; exact q⟩)
  · exact .inr q
theorem KeepT.lst {K : PySem.W.Frag} {H : Hp} {D : Addr} {o : HO} {l : List V} (e : H D = some (.lst l)) : KeepT K H (L2.upd H D o) := .upd (fun xs q => by rw [e] at q; cases q) (fun xs u q => by rw [e] at q; cases q)
theorem KeepT.ins {K : PySem.W.Frag} {H : Hp} {D C dx : Addr} {o : HO} {fs : List (Str × V)} (e : H D = some (.ins C dx fs)) : KeepT K H (L2.upd H D o) := .upd (fun xs q => by rw [e] at q; cases q) (fun xs u q => by rw [e] at q; cases q)
theorem KeepT.dK {K : PySem.W.Frag} {H : Hp} {D : Addr} {o : HO} {l : List (Key × V)} (e : H D = some (.dK l)) : KeepT K H (L2.upd H D o) := .upd (fun xs q => by rw [e] at q; cases q) (fun xs u q => by rw [e] at q; cases q)
theorem KeepT.dT {K : PySem.W.Frag} {H : Hp} {D : Addr} {o : HO} {l : List (List Key × V)} (e : H D = some (.dT l)) : KeepT K H (L2.upd H D o) := .upd (fun xs q => by rw [e] at q; cases q) (fun xs u q => by rw [e] at q; cases q)
theorem KeepT.new {K : PySem.W.Frag} {H : Hp} {D : Addr} {o : HO} (e : H D = none) : KeepT K H (L2.upd H D o) := .upd (fun xs q => by rw [e] at q; cases q) (fun xs u q => by rw [e] at q; cases q)
/-! ### a < b < c <= d -/
section
variable {X : Cx} {a b c e : Expr} {ta tb tc te : TE} {pos : Pos}
def tChain3 (r r' r'' : R2) (ta tb tc te : TE) : TE := fun σ H Q => ta σ H fun x H1 => tb σ H1 fun y H2 => r x y H2 fun k H3 => ∃ i, k = .bl i ∧
  (if i = true then tc σ H3 fun z H4 => r' y z H4 fun k H5 => ∃ i, k = .bl i ∧ (if i = true then te σ H5 fun u H6 => r'' z u H6 Q else Q (.bl false) H5) else Q (.bl false) H3)
theorem pt_chain3 {op op' op'' : CmpOp} {r r' r'' : R2} (ho : OpR X (compareOp op) r) (ho' : OpR X (compareOp op') r') (ho'' : OpR X (compareOp op'') r'') (ha : PE X a ta) (hb : PE X b tb) (hc : PE X c tc) (he : PE X e te)
    (hm : lastMarks [op, op', op''] [b, c, e] = false := by with_unfolding_all rfl) : PT X (.Compare a [op, op', op''] [b, c, e] pos) (tTest (tChain3 r r' r'' ta tb tc te)) := by
  refine ⟨fun pins s σ H Q I h => ?_⟩
  refine isTrue_chain (thn (ha.run pins s σ H _ I h) fun v s1 ⟨x, H1, I1, r1, q1⟩ => test_link (thn (hb.run pins s1 σ H1 _ I1 q1) fun u s2 ⟨y, H2, I2, r2, q2⟩ =>
    thn (ho pins s2 σ H2 x y v u _ I2 r1 r2 q2) fun d s3 ⟨z, H3, I3, r3, k, ek, q3⟩ => ?_)) hm
  subst ek
  cases r3
  refine wpAny_truthy_bool ?_
  cases k with
  | false =>
    obtain ⟨k', e', q'⟩ := q3
    cases e'
    exact ite_ff ⟨H3, I3, q'⟩
  | true =>
    refine ite_tt (test_link (thn (hc.run pins s3 σ H3 _ I3 q3) fun w' s4 ⟨z', H4, I4, r4, q4⟩ => thn (ho' pins s4 σ H4 y z' u w' _ I4 r2 r4 q4) fun d s5 ⟨z5, H5, I5, r5, k5, e5, q5⟩ => ?_))
    subst e5
    cases r5
    refine wpAny_truthy_bool ?_
    cases k5 with
    | false =>
      obtain ⟨k', e', q'⟩ := q5
      cases e'
      exact ite_ff ⟨H5, I5, q'⟩
    | true =>
      refine ite_tt (test_last (thn (he.run pins s5 σ H5 _ I5 q5) fun w6 s6 ⟨z6, H6, I6, r6, q6⟩ => thn (ho'' pins s6 σ H6 z' z6 w' w6 _ I6 r4 r6 q6) fun d s7 ⟨z7, H7, I7, r7, k7, e7, q7⟩ => ?_))
      subst e7
      cases r7
      exact wpAny_truthy_bool ⟨H7, I7, q7⟩
end
def rTupOf (K : PySem.W.Frag) : List V → Hp → VK → Prop := fun xs H Q => ∃ p ys, xs = [.ref p] ∧ ((SqL K H p ys ∧ ∀ l, H l = none → Q (.ref l) (upd H l (.tup ys))) ∨ (SqT K H p ys ∧ Q (.ref p) H))
/-! ### what a map's parts are -/
theorem Paired.snoc {α β : Type} {F : α → β → Prop} {a : α} {b : β} : ∀ {l : List α} {m : List β}, Paired F l m → F a b → Paired F (l ++ [a]) (m ++ [b])
  | _, _, .nil, h => .cons h .nil
  | _, _, .cons r t, h => .cons r (Paired.snoc t h)
theorem Paired.len {α β : Type} {F : α → β → Prop} : ∀ {l : List α} {m : List β}, Paired F l m → l.length = m.length
  | _, _, .nil => rfl
  | _, _, .cons _ t => congrArg Nat.succ (Paired.len t)
theorem Paired.at {α β : Type} {F : α → β → Prop} : ∀ {l : List α} {m : List β} {i : Nat} {b : β}, Paired F l m → m[i]? = some b → ∃ a, l[i]? = some a ∧ F a b
  | _, _, _, _, .nil, e => by simp at e
  | _, _, 0, _, .cons r _, e => ⟨_, rfl, by simp at e; subst e; exact r⟩
  | _, _, i + 1, _, .cons _ t, e => by
    obtain ⟨a, h1, h2⟩ := Paired.at (i := i) t (by simpa using e)
    exact ⟨a, by simpa using h1, h2⟩
theorem Paired.to {α β : Type} {F : α → β → Prop} : ∀ {l : List α} {m : List β} {i : Nat} {a : α}, Paired F l m → l[i]? = some a → ∃ b, m[i]? = some b ∧ F a b
  | _, _, _, _, .nil, e => by simp at e
  | _, _, 0, _, .cons r _, e => ⟨_, rfl, by simp at e; subst e; exact r⟩
  | _, _, i + 1, _, .cons _ t, e => by
    obtain ⟨a, h1, h2⟩ := Paired.to (i := i) t (by simpa using e)
    exact ⟨a, by simpa using h1, h2⟩
theorem Paired.map' {α β : Type} {F G : α → β → Prop} : ∀ {l : List α} {m : List β}, Paired F l m → (∀ a b, F a b → G a b) → Paired G l m
  | _, _, .nil, _ => .nil
  | _, _, .cons r t, f => .cons (f _ _ r) (Paired.map' t f)
structure RoadD where
  name : Str
  start : Str
  goal : Str
  minutes : Int
  users : List Str
  hours : Option (List (Int × Int))
/-- a pair of hours -/
def GPair (K : PySem.W.Frag) (H : Hp) (p : Int × Int) (x : V) : Prop := ∃ t, x = .ref t ∧ SqT K H t [.int p.1, .int p.2]
/-- the hours of a road -/
def GHours (K : PySem.W.Frag) (H : Hp) (hs : Option (List (Int × Int))) (v : V) : Prop := match hs with
  | none => v = .non
  | some ps => ∃ l xs, v = .ref l ∧ SqT K H l xs ∧ Paired (GPair K H) ps xs
def GRoad (K : PySem.W.Frag) (H : Hp) (r : RoadD) (v : V) : Prop := ∃ t u h, v = .ref t ∧ SqT K H t [.str r.name, .str r.start, .str r.goal, .int r.minutes, .ref u, h] ∧ SqT K H u (r.users.map V.str) ∧ GHours K H r.hours h
theorem GPair.keep {K : PySem.W.Frag} {H H' : Hp} {p : Int × Int} {x : V} (k : KeepT K H H') (g : GPair K H p x) : GPair K H' p x := let ⟨t, e, q⟩ := g; ⟨t, e, k _ _ q⟩
theorem GHours.keep {K : PySem.W.Frag} {H H' : Hp} {hs : Option (List (Int × Int))} {v : V} (k : KeepT K H H') (g : GHours K H hs v) : GHours K H' hs v := by
  cases hs with
  | none => exact g
  | some ps =>
    obtain ⟨l, xs, e, q, r⟩ := g
    exact ⟨l, xs, e, k _ _ q, Paired.map' r fun _ _ => GPair.keep k⟩
theorem GRoad.keep {K : PySem.W.Frag} {H H' : Hp} {r : RoadD} {v : V} (k : KeepT K H H') (g : GRoad K H r v) : GRoad K H' r v := by
  obtain ⟨t, u, h, e, q1, q2, q3⟩ := g
  exact ⟨t, u, h, e, k _ _ q1, k _ _ q2, q3.keep k⟩
/-- pairs in order, apart, within the day -/
def hoursOk (d : Int) : Int → List (Int × Int) → Prop
  | _, [] => True
  | c, p :: r => c < p.1 ∧ p.1 < p.2 ∧ p.2 ≤ d ∧ hoursOk d p.2 r
def HoursOk (d : Int) : Option (List (Int × Int)) → Prop
  | none => True
  | some ps => ps.length ≤ 4 ∧ hoursOk d (-1) ps
/-- where the next pair begins behind the first i -/
def lastOf (c : Int) (ps : List (Int × Int)) (i : Nat) : Int := ((ps.take i).getLast?.map (·.2)).getD c
theorem hoursOk_at {d : Int} : ∀ {ps : List (Int × Int)} {c : Int} {i : Nat} {p : Int × Int}, hoursOk d c ps → ps[i]? = some p → lastOf c ps i < p.1 ∧ p.1 < p.2 ∧ p.2 ≤ d
  | [], _, _, _, _, e => by simp at e
  | q :: r, c, 0, p, h, e => by
    simp at e
    subst e
    exact ⟨h.1, h.2.1, h.2.2.1⟩
  | q :: r, c, i + 1, p, h, e => by
    have k := hoursOk_at (i := i) h.2.2.2 (by simpa using e)
    refine ⟨?_, k.2⟩
    have e2 : lastOf c (q :: r) (i + 1) = lastOf q.2 r i := by
      unfold lastOf
      rw [List.take_succ_cons]
      cases r.take i with
      | nil => rfl
      | cons a l => rw [List.getLast?_cons_cons]; cases h : (a :: l).getLast? with
        | none => simp at h
        | some z => rfl
    rw [e2]; exact k.1
theorem lastOf_succ {ps : List (Int × Int)} {c : Int} {i : Nat} {p : Int × Int} (e : ps[i]? = some p) : lastOf c ps (i + 1) = p.2 := by
  unfold lastOf
  rw [List.take_succ, e]
  simp
theorem isNm_len {z : Str} (h : isNm z = true) : z.length ≤ 12 := by
  unfold isNm at h
  simp only [Bool.and_eq_true, decide_eq_true_eq] at h
  exact h.1.1.2
/-! ### _checked_day, _check_different, _checked_hours, _checked_names -/
structure TxtE (X : Str → Option Value) (K : PySem.W.Frag) (C : Addr) : Prop where
  gC : X "InvalidMap" = some (.ref C)
  xC : PySem.W.excIn K C [.type "ValueError", .type "Exception", .type "BaseException", .type "object"] "ValueError.__new__" = true
  kC : PySem.W.keepIn K (.ref C) = true
  bC : PySem.W.subIn K (.ref C) (.type "BaseException") = some true
  tC : PySem.W.typeIn K (.ref C) = some (.type "type")
def spDay : Sp := fun vs H Q _ => ∃ d : Int, vs = [.int d] ∧ 1 ≤ d ∧ d ≤ 1440 ∧ Q (.int d) H
def DiffS (K : PySem.W.Frag) (H : Hp) (a : Addr) : Prop := ∃ ns : List Str, (SqL K H a (ns.map V.str) ∨ SqT K H a (ns.map V.str)) ∧ ns.length ≤ 1000 ∧ ns.Nodup
def DiffP (K : PySem.W.Frag) (H : Hp) (a : Addr) : Prop := ∃ ks : List (Addr × List Str), SqL K H a (ks.map fun p => V.ref p.1) ∧ (∀ p ∈ ks, SqT K H p.1 (p.2.map V.str)) ∧ ks.length < 64 ∧ (ks.map (·.2)).Nodup
def spDiff (K : PySem.W.Frag) : Sp := fun vs H Q _ => ∃ a : Addr, vs = [.ref a] ∧ (DiffS K H a ∨ DiffP K H a) ∧ Q .non H
def spHours (K : PySem.W.Frag) (P : Addr) : Sp := fun vs H Q _ => ∃ (d : Int) (hs : Option (List (Int × Int))) (hv : V), vs = [hv, .int d] ∧ GHours K H hs hv ∧ HoursOk d hs ∧ TabG H P ∧ ∀ H' v', Grew P H H' → GHours K H' hs v' → Q v' H'
section
variable {Pg : Program} {w : World} {K : PySem.W.Frag} {mg : Str → Option Value} {base : Heap} {C P : Addr}
abbrev nHours : List Str := ["hours", "day", "closed", "pair"]
end
end W

set_option Elab.async false
set_option linter.all false
set_option maxRecDepth 100000
set_option maxHeartbeats 400000
namespace W
open PySem PySem.Spec PyProof.Rows L2 GxR MyG MyS
/-! ### _checked_names, _checked_road -/
def spNames (K : PySem.W.Frag) (P : Addr) : Sp := fun vs H Q _ => ∃ (a : Addr) (ns : List Str) (lo hi : Int), vs = [.ref a, .int lo, .int hi] ∧ SqL K H a (ns.map V.str) ∧ lo ≤ ns.length ∧ (ns.length : Int) ≤ hi ∧ ns.length ≤ 1000 ∧ ns.all isNm = true ∧ ns.Nodup ∧ TabG H P ∧
  ∀ H' p ys, Grew P H H' → H p = none → H' p = some (.tup (ys.map V.str)) → ys.Perm ns → Asc ys → Q (.ref p) H'
section
variable {Pg : Program} {w : World} {K : PySem.W.Frag} {mg : Str → Option Value} {base : Heap} {C P : Addr}
/-- the road leads from place to place, for kinds of the map -/
structure RoadOk (d : Int) (ps ks : List Str) (r : RoadD) : Prop where
  s : r.start ∈ ps
  g : r.goal ∈ ps
  m1 : 1 ≤ r.minutes
  m2 : r.minutes ≤ 1000
  u : ∀ k ∈ r.users, k ∈ ks
  un : r.users.length ≤ 4
  ud : r.users.Nodup
  h : HoursOk d r.hours
/-- the road as the map keeps it -/
def Kept (r r' : RoadD) : Prop := r'.name = r.name ∧ r'.start = r.start ∧ r'.goal = r.goal ∧ r'.minutes = r.minutes ∧ r'.hours = r.hours ∧ r'.users.Perm r.users ∧ Asc r'.users
def spRoad (K : PySem.W.Frag) (P : Addr) : Sp := fun vs H Q _ => ∃ (x : V) (pl ki : Addr) (d : Int) (ps ks : List Str) (r : RoadD), vs = [x, .int d, .ref pl, .ref ki] ∧ GRoad K H r x ∧ SqT K H pl (ps.map V.str) ∧ SqT K H ki (ks.map V.str) ∧ RoadOk d ps ks r ∧ TabG H P ∧
  ∀ H' p q h r', Grew P H H' → Kept r r' → H p = none → H' p = some (.tup [.str r'.name, .str r'.start, .str r'.goal, .int r'.minutes, .ref q, h]) → H' q = some (.tup (r'.users.map V.str)) → GHours K H' r'.hours h → Q (.ref p) H'
theorem inV_str {x : Str} {xs : List Str} (h : x ∈ xs) : inV (.str x) (xs.map V.str) = true := by
  unfold inV
  rw [List.any_map, List.any_eq_true]
  exact ⟨x, h, by simp [eqV]⟩
theorem flat_strs (xs : List Str) : (xs.map V.str).all flatV = true := by
  rw [List.all_map]
  exact List.all_eq_true.mpr fun _ _ => rfl
end
end W

set_option Elab.async false
set_option linter.all false
set_option maxRecDepth 100000
set_option maxHeartbeats 400000
namespace W
open PySem PySem.Spec PyProof.Rows L2 GxR MyG MyS
/-! ### _checked_roads -/
/-- a road that was made here: its own tuples stand tracked, none was there at H0 -/
def MadeR (K : PySem.W.Frag) (H0 H : Hp) (r : RoadD) (v : V) : Prop := ∃ r' p q h, v = .ref p ∧ H0 p = none ∧ Kept r r' ∧ H p = some (.tup [.str r'.name, .str r'.start, .str r'.goal, .int r'.minutes, .ref q, h]) ∧ H q = some (.tup (r'.users.map V.str)) ∧ GHours K H r'.hours h
/-- the road v at H -/
def RoadAt (K : PySem.W.Frag) (H : Hp) (r : RoadD) (v : V) : Prop := ∃ p q h, v = .ref p ∧ H p = some (.tup [.str r.name, .str r.start, .str r.goal, .int r.minutes, .ref q, h]) ∧ H q = some (.tup (r.users.map V.str)) ∧ GHours K H r.hours h
theorem RoadAt.grew {K : PySem.W.Frag} {P : Addr} {H H' : Hp} {r : RoadD} {v : V} (g : Grew P H H') (h : TabG H P) (m : RoadAt K H r v) : RoadAt K H' r v := by
  obtain ⟨p, q, hv, e, e1, e2, e3⟩ := m
  exact ⟨p, q, hv, e, g.tup h e1, g.tup h e2, e3.keep (KeepT.grew g h)⟩
theorem RoadAt.upd {K : PySem.W.Frag} {H : Hp} {D : Addr} {o : HO} {r : RoadD} {v : V} (nt : ∀ xs, H D ≠ some (.tup xs)) (kt : KeepT K H (L2.upd H D o)) (m : RoadAt K H r v) : RoadAt K (L2.upd H D o) r v := by
  obtain ⟨p, q, hv, e, e1, e2, e3⟩ := m
  exact ⟨p, q, hv, e, by rw [upd_ne (fun z => nt _ (z ▸ e1))]; exact e1, by rw [upd_ne (fun z => nt _ (z ▸ e2))]; exact e2, e3.keep kt⟩
theorem RoadAt.road {K : PySem.W.Frag} {H : Hp} {r : RoadD} {v : V} (m : RoadAt K H r v) : GRoad K H r v := by
  obtain ⟨p, q, hv, e, e1, e2, e3⟩ := m
  exact ⟨p, q, hv, e, SqT.of e1, SqT.of e2, e3⟩
theorem ex_list {α β : Type} {F : α → β → Prop} : ∀ (l : List α), (∀ a ∈ l, ∃ b, F a b) → ∃ m, Paired F l m
  | [], _ => ⟨[], .nil⟩
  | a :: l, h => by
    obtain ⟨b, hb⟩ := h a List.mem_cons_self
    obtain ⟨m, hm⟩ := ex_list l fun a ha => h a (List.mem_cons_of_mem _ ha)
    exact ⟨b :: m, .cons hb hm⟩
theorem Paired.mem {α β : Type} {F : α → β → Prop} : ∀ {l : List α} {m : List β} {b : β}, Paired F l m → b ∈ m → ∃ a ∈ l, F a b
  | _, _, _, .cons r t, h => by
    rcases List.mem_cons.mp h with e | h
    · exact ⟨_, List.mem_cons_self, e ▸ r⟩
    · obtain ⟨a, ha, f⟩ := Paired.mem t h
      exact ⟨a, List.mem_cons_of_mem _ ha, f⟩
theorem Paired.mem' {α β : Type} {F : α → β → Prop} : ∀ {l : List α} {m : List β} {a : α}, Paired F l m → a ∈ l → ∃ b ∈ m, F a b
  | _, _, _, .cons r t, h => by
    rcases List.mem_cons.mp h with e | h
    · exact ⟨_, List.mem_cons_self, e ▸ r⟩
    · obtain ⟨a, ha, f⟩ := Paired.mem' t h
      exact ⟨a, List.mem_cons_of_mem _ ha, f⟩
theorem Paired.comp {α β γ : Type} {F : α → β → Prop} {G : β → γ → Prop} {E : α → γ → Prop} (h : ∀ a b c, F a b → G b c → E a c) : ∀ {l : List α} {m : List β} {n : List γ}, Paired F l m → Paired G m n → Paired E l n
  | _, _, _, .nil, .nil => .nil
  | _, _, _, .cons r t, .cons r' t' => .cons (h _ _ _ r r') (Paired.comp h t t')
/-- the values in another order: the things behind them too -/
theorem Paired.perm {α β : Type} {F : α → β → Prop} {m m' : List β} (p : m'.Perm m) : ∀ {l : List α}, Paired F l m → ∃ l' : List α, l'.Perm l ∧ Paired F l' m' := by
  induction p with
  | nil => exact fun h => ⟨_, List.Perm.refl _, h⟩
  | cons x p ih =>
    intro l h
    cases h with
    | cons r t =>
      obtain ⟨l', q1, q2⟩ := ih t
      exact ⟨_ :: l', q1.cons _, .cons r q2⟩
  | swap x y l0 =>
    intro l h
    cases h with
    | cons r t =>
      cases t with
      | cons r2 t => exact ⟨_ :: _ :: _, List.Perm.swap .., .cons r2 (.cons r t)⟩
  | trans p q ih1 ih2 =>
    intro l h
    obtain ⟨l1, a1, a2⟩ := ih2 h
    obtain ⟨l2, b1, b2⟩ := ih1 a2
    exact ⟨l2, b1.trans a1, b2⟩
theorem Paired.pair {α β : Type} {F : α → β → Prop} {R : β → β → Prop} {S : α → α → Prop} (h : ∀ a b x y, F a x → F b y → R x y → S a b) : ∀ {l : List α} {m : List β}, Paired F l m → m.Pairwise R → l.Pairwise S
  | _, _, .nil, _ => List.Pairwise.nil
  | _, _, .cons r t, p => by
    have q := List.pairwise_cons.mp p
    refine List.pairwise_cons.mpr ⟨fun a ha => ?_, Paired.pair h t q.2⟩
    obtain ⟨b, hb, f⟩ := Paired.mem' t ha
    exact h _ _ _ _ r f (q.1 b hb)
theorem Paired.inj {α β γ : Type} {F : α → β → Prop} {f : α → γ} {l : List α} {m : List β} (h : Paired F l m) (nd : (l.map f).Nodup) {x y : β} (hx : x ∈ m) (hy : y ∈ m) (hxy : ∀ a b, F a x → F b y → f a = f b) : x = y := by
  obtain ⟨i, hi, ei⟩ := List.getElem_of_mem hx
  obtain ⟨j, hj, ej⟩ := List.getElem_of_mem hy
  obtain ⟨a, ha, fa⟩ := Paired.at h (List.getElem?_eq_some_iff.mpr ⟨hi, ei⟩)
  obtain ⟨b, hb, fb⟩ := Paired.at h (List.getElem?_eq_some_iff.mpr ⟨hj, ej⟩)
  have e := hxy a b fa fb
  obtain ⟨hi', ea⟩ := List.getElem?_eq_some_iff.mp ha
  obtain ⟨hj', eb⟩ := List.getElem?_eq_some_iff.mp hb
  have ij : i = j := by
    rcases Nat.lt_trichotomy i j with c | c | c
    · exact absurd (by rw [List.getElem_map, List.getElem_map, ea, eb]; exact e) (List.pairwise_iff_getElem.mp nd i j (by rw [List.length_map]; exact hi') (by rw [List.length_map]; exact hj') c)
    · exact c
    · exact absurd (by rw [List.getElem_map, List.getElem_map, ea, eb]; exact e.symm) (List.pairwise_iff_getElem.mp nd j i (by rw [List.length_map]; exact hj') (by rw [List.length_map]; exact hi') c)
  subst ij
  exact ei.symm.trans ej
theorem kept_names : ∀ {rs ms : List RoadD}, Paired Kept rs ms → ms.map (·.name) = rs.map (·.name)
  | _, _, .nil => rfl
  | _, _, .cons r t => by
    rw [List.map_cons, List.map_cons, kept_names t, r.1]
/-- the name of a road's tuple -/
def nameAt (H : Hp) : V → Str
  | .ref t => match H t with
    | some (.tup (.str n :: _)) => n
    | _ => Str.empty
  | _ => Str.empty
theorem RoadAt.name {K : PySem.W.Frag} {H : Hp} {r : RoadD} {v : V} (m : RoadAt K H r v) : nameAt H v = r.name := by
  obtain ⟨p, q, hv, e, e1, _⟩ := m
  subst e
  unfold nameAt
  simp only [e1]
/-- the roads as the map keeps them: the same ones, each as it is kept, by their names -/
def KeptAll (rs rs' : List RoadD) : Prop := ∃ l, l.Perm rs' ∧ Paired Kept rs l
def AscR (rs : List RoadD) : Prop := rs.Pairwise fun a b => slt b.name a.name = false
structure RoadsOk (d : Int) (ps ks : List Str) (rs : List RoadD) : Prop where
  len : rs.length ≤ 60
  nm : (rs.map (·.name)).all isNm = true
  nd : (rs.map (·.name)).Nodup
  ok : ∀ r ∈ rs, RoadOk d ps ks r
def spRoads (K : PySem.W.Frag) (P : Addr) : Sp := fun vs H Q _ => ∃ (a pl ki : Addr) (d : Int) (ps ks : List Str) (rs : List RoadD) (xs : List V), vs = [.ref a, .int d, .ref pl, .ref ki] ∧ SqL K H a xs ∧ Paired (GRoad K H) rs xs ∧ SqT K H pl (ps.map V.str) ∧ SqT K H ki (ks.map V.str) ∧ RoadsOk d ps ks rs ∧ TabG H P ∧
  ∀ H' p rs' ys, Grew P H H' → KeptAll rs rs' → AscR rs' → H p = none → H' p = some (.tup ys) → Paired (RoadAt K H') rs' ys → Q (.ref p) H'
section
variable {Pg : Program} {w : World} {K : PySem.W.Frag} {mg : Str → Option Value} {base : Heap} {C P : Addr}
abbrev nRoads : List Str := ["roads", "day", "places", "kinds", "road", "kept"]
end
end W

set_option Elab.async false
set_option linter.all false
set_option maxRecDepth 100000
set_option maxHeartbeats 400000
namespace W
open PySem PySem.Spec PyProof.Rows L2 GxR MyG MyS
/-! ### _checked_bars -/
theorem u1 {n : Nat} (h : n + 64 < cLine) : n + 1 < cLine := by omega
def GBar (H : Hp) (b : Str × Str) (v : V) : Prop := ∃ t, v = .ref t ∧ H t = some (.tup [.str b.1, .str b.2])
theorem GBar.grew {P : Addr} {H H' : Hp} {b : Str × Str} {v : V} (g : Grew P H H') (h : TabG H P) (m : GBar H b v) : GBar H' b v := let ⟨t, e, q⟩ := m; ⟨t, e, g.tup h q⟩
theorem GBar.upd {H : Hp} {D : Addr} {o : HO} {b : Str × Str} {v : V} (nt : ∀ xs, H D ≠ some (.tup xs)) (m : GBar H b v) : GBar (L2.upd H D o) b v := by
  obtain ⟨t, e, q⟩ := m
  exact ⟨t, e, by rw [upd_ne (fun z => nt _ (z ▸ q))]; exact q⟩
/-- the pair of a bar's tuple -/
def barAt (H : Hp) : V → Str × Str
  | .ref t => match H t with
    | some (.tup [.str a, .str b]) => (a, b)
    | _ => (Str.empty, Str.empty)
  | _ => (Str.empty, Str.empty)
theorem GBar.at {H : Hp} {b : Str × Str} {v : V} (m : GBar H b v) : barAt H v = b := by
  obtain ⟨t, e, q⟩ := m
  subst e
  unfold barAt
  simp only [q]
theorem bars_keys {H : Hp} {K : PySem.W.Frag} : ∀ {bs : List (Str × Str)} {xs : List V}, Paired (GBar H) bs xs → ∃ ks : List (Addr × List Str), xs = ks.map (fun p => V.ref p.1) ∧ ks.map (·.2) = bs.map (fun b => [b.1, b.2]) ∧ ∀ p ∈ ks, SqT K H p.1 (p.2.map V.str)
  | _, _, .nil => ⟨[], rfl, rfl, fun _ h => by cases h⟩
  | _, _, .cons (a := b) ⟨t, e, q⟩ r => by
    obtain ⟨ks, e1, e2, e3⟩ := bars_keys (K := K) r
    refine ⟨(t, [b.1, b.2]) :: ks, by rw [e, e1]; rfl, by rw [List.map_cons, List.map_cons, e2], fun p hp => ?_⟩
    rcases List.mem_cons.mp hp with z | z
    · rw [z]; exact SqT.of q
    · exact e3 p z
theorem nodup_bars {bs : List (Str × Str)} (h : bs.Nodup) : (bs.map (fun b => [b.1, b.2])).Nodup :=
  List.pairwise_map.mpr (h.imp fun {a b} ne e => ne (Prod.ext (List.cons.inj e).1 (List.cons.inj (List.cons.inj e).2).1))
/-- the dict of the roads by their names -/
def DictR (K : PySem.W.Frag) (H : Hp) (d : Addr) (rs : List RoadD) : Prop := ∃ kvs, H d = some (.dK kvs) ∧ (∀ r ∈ rs, ∃ v, valV kvs (.inr r.name) = some v ∧ RoadAt K H r v) ∧ ∀ z, (∀ r ∈ rs, r.name ≠ z) → valV kvs (.inr z) = none
theorem DictR.grew {K : PySem.W.Frag} {P d : Addr} {H H' : Hp} {rs : List RoadD} (g : Grew P H H') (h : TabG H P) (m : DictR K H d rs) : DictR K H' d rs := by
  obtain ⟨kvs, e, m1, m2⟩ := m
  exact ⟨kvs, g.get h e (fun _ z => by cases z), fun r hr => let ⟨v, a, b⟩ := m1 r hr; ⟨v, a, b.grew g h⟩, m2⟩
structure BarsOk (rs : List RoadD) (bs : List (Str × Str)) : Prop where
  len : bs.length ≤ 40
  nd : bs.Nodup
  ok : ∀ b ∈ bs, ∃ r1 ∈ rs, ∃ r2 ∈ rs, b.1 = r1.name ∧ b.2 = r2.name ∧ r1.goal = r2.start
def AscB (bs : List (Str × Str)) : Prop := bs.Pairwise fun a b => slt2 b a = false
def spBars (K : PySem.W.Frag) (P : Addr) : Sp := fun vs H Q _ => ∃ (a d : Addr) (rs : List RoadD) (bs : List (Str × Str)) (xs : List V), vs = [.ref a, .ref d] ∧ SqL K H a xs ∧ Paired (GBar H) bs xs ∧ DictR K H d rs ∧ BarsOk rs bs ∧ TabG H P ∧
  ∀ H' p bs' ys, Grew P H H' → bs'.Perm bs → AscB bs' → H p = none → H' p = some (.tup ys) → Paired (GBar H') bs' ys → Q (.ref p) H'
section
variable {Pg : Program} {w : World} {K : PySem.W.Frag} {mg : Str → Option Value} {base : Heap} {C P : Addr}
abbrev nBars : List Str := ["bars", "roads_by_name", "bar", "first", "second", "kept"]
end
end W

set_option Elab.async false
set_option linter.all false
set_option maxRecDepth 100000
set_option maxHeartbeats 800000
namespace W
open PySem PySem.Spec PyProof.Rows L2 GxR MyG MyS
/-! ### Map.__init__ -/
abbrev nInit : List Str := ["self", "day", "kinds", "places", "roads", "bars", "road", "bar"]
abbrev pInit : List Str := ["self", "day", "kinds", "places", "roads", "bars"]
section
variable {K : PySem.W.Frag} {H : Hp} {x C dx : Addr} {fs : List (Str × V)} {o : HO}
theorem insNe (hx : H x = some (.ins C dx fs)) {a : Addr} {u : HO} (e : H a = some u) (d : ∀ C dx fs, u ≠ .ins C dx fs) : a ≠ x := fun z => by
  rw [z, hx] at e
  exact d _ _ _ (Option.some.inj e).symm
theorem tup_ins (hx : H x = some (.ins C dx fs)) {a : Addr} {l : List V} (e : H a = some (.tup l)) : L2.upd H x o a = some (.tup l) := by
  rw [upd_ne (insNe hx e (fun _ _ _ z => by cases z))]
  exact e
theorem RoadAt.ins (hx : H x = some (.ins C dx fs)) {r : RoadD} {v : V} (m : RoadAt K H r v) : RoadAt K (L2.upd H x o) r v := m.upd (fun xs z => by rw [hx] at z; cases z) (KeepT.ins hx)
theorem GBar.ins (hx : H x = some (.ins C dx fs)) {b : Str × Str} {v : V} (m : GBar H b v) : GBar (L2.upd H x o) b v := m.upd (fun xs z => by rw [hx] at z; cases z)
theorem DictR.ins (hx : H x = some (.ins C dx fs)) {d : Addr} {rs : List RoadD} (m : DictR K H d rs) : DictR K (L2.upd H x o) d rs := by
  obtain ⟨kvs, e, m1, m2⟩ := m
  exact ⟨kvs, by rw [upd_ne (insNe hx e (fun _ _ _ z => by cases z))]; exact e, fun r hr => let ⟨v, a, b⟩ := m1 r hr; ⟨v, a, b.ins hx⟩, m2⟩
end
/-- the dict of the bars -/
def DictB (H : Hp) (d : Addr) (bs : List (Str × Str)) : Prop := ∃ kvs : List (List Key × V), H d = some (.dT kvs) ∧ ∀ a b : Str, (valV kvs [.inr a, .inr b]).isSome = true ↔ (a, b) ∈ bs
/-- the fields of a map -/
def nmF : List Str := ["day", "kinds", "places", "roads", "_roads_by_name", "bars", "_barred"]
theorem noF {fs : List (Str × V)} {g : Str} {v : V} (h : ∀ f, f ∉ nmF → fs.lookup f = none) (hg : g ∈ nmF) : ∀ f, f ∉ nmF → (putF g v fs).lookup f = none := fun f hf => by
  rw [lookup_putF, if_neg (by intro e; subst e; exact hf hg)]
  exact h f hf
/-- the map at x -/
structure MapF (K : PySem.W.Frag) (H : Hp) (fs : List (Str × V)) (d : Int) (ks ps : List Str) (rs : List RoadD) (bs : List (Str × Str)) (kk pp rr D bb D2 : Addr) (ys zs : List V) : Prop where
  f0 : ∀ f, f ∉ nmF → fs.lookup f = none
  f1 : fs.lookup ("day" : Str) = some (V.int d)
  f2 : fs.lookup ("kinds" : Str) = some (V.ref kk)
  f3 : fs.lookup ("places" : Str) = some (V.ref pp)
  f4 : fs.lookup ("roads" : Str) = some (V.ref rr)
  f5 : fs.lookup ("_roads_by_name" : Str) = some (V.ref D)
  f6 : fs.lookup ("bars" : Str) = some (V.ref bb)
  f7 : fs.lookup ("_barred" : Str) = some (V.ref D2)
  k : H kk = some (.tup (ks.map V.str))
  p : H pp = some (.tup (ps.map V.str))
  r : H rr = some (.tup ys)
  ry : Paired (RoadAt K H) rs ys
  d : DictR K H D rs
  b : H bb = some (.tup zs)
  bz : Paired (GBar H) bs zs
  db : DictB H D2 bs
def MapAt (K : PySem.W.Frag) (H : Hp) (M x : Addr) (d : Int) (ks ps : List Str) (rs : List RoadD) (bs : List (Str × Str)) : Prop := ∃ dx fs kk pp rr D bb D2 ys zs, H x = some (.ins M dx fs) ∧ MapF K H fs d ks ps rs bs kk pp rr D bb D2 ys zs
structure PartsOk (d : Int) (ks ps : List Str) (rs : List RoadD) (bs : List (Str × Str)) : Prop where
  d1 : 1 ≤ d
  d2 : d ≤ 1440
  k1 : 1 ≤ ks.length
  k2 : ks.length ≤ 4
  p2 : ps.length ≤ 30
  kn : ks.all isNm = true
  pn : ps.all isNm = true
  kd : ks.Nodup
  pd : ps.Nodup
  r : RoadsOk d ps ks rs
  b : BarsOk rs bs
theorem RoadsOk.perm {d : Int} {ps ps' ks ks' : List Str} {rs : List RoadD} (h : RoadsOk d ps ks rs) (hp : ps'.Perm ps) (hk : ks'.Perm ks) : RoadsOk d ps' ks' rs := by
  obtain ⟨a, b, c, e⟩ := h
  refine ⟨a, b, c, fun r hr => ?_⟩
  obtain ⟨h1, h2, h3, h4, h5, h6, h7, h8⟩ := e r hr
  exact ⟨hp.mem_iff.mpr h1, hp.mem_iff.mpr h2, h3, h4, fun k hk' => hk.mem_iff.mpr (h5 k hk'), h6, h7, h8⟩
theorem BarsOk.kept {rs rs' : List RoadD} {bs : List (Str × Str)} (h : BarsOk rs bs) (k : KeptAll rs rs') : BarsOk rs' bs := by
  obtain ⟨a, b, c⟩ := h
  obtain ⟨l, pm, pr⟩ := k
  have f : ∀ r ∈ rs, ∃ r' ∈ rs', r'.name = r.name ∧ r'.start = r.start ∧ r'.goal = r.goal := fun r hr => by
    obtain ⟨r', hr', q⟩ := Paired.mem' pr hr
    exact ⟨r', pm.mem_iff.mp hr', q.1, q.2.1, q.2.2.1⟩
  refine ⟨a, b, fun z hz => ?_⟩
  obtain ⟨r1, h1, r2, h2, e1, e2, e3⟩ := c z hz
  obtain ⟨s1, m1, n1, _, g1⟩ := f r1 h1
  obtain ⟨s2, m2, n2, g2, _⟩ := f r2 h2
  exact ⟨s1, m1, s2, m2, by rw [n1]; exact e1, by rw [n2]; exact e2, by rw [g1, g2]; exact e3⟩
theorem KeptAll.nodup {rs rs' : List RoadD} (k : KeptAll rs rs') (h : (rs.map (·.name)).Nodup) : (rs'.map (·.name)).Nodup := by
  obtain ⟨l, pm, pr⟩ := k
  rw [← kept_names pr] at h
  exact (pm.map (·.name)).nodup_iff.mp h
theorem KeptAll.len {rs rs' : List RoadD} (k : KeptAll rs rs') : rs'.length = rs.length := by
  obtain ⟨l, pm, pr⟩ := k
  rw [← pm.length_eq, ← Paired.len pr]
def spInit (K : PySem.W.Frag) (M P : Addr) : Sp := fun vs H Q _ => ∃ (x dx ki pl ro ba : Addr) (d : Int) (ks ps : List Str) (rs : List RoadD) (bs : List (Str × Str)) (xs zs : List V) (H0 : Hp), vs = [.ref x, .int d, .ref ki, .ref pl, .ref ro, .ref ba] ∧
  Grew P H0 H ∧ TabG H0 P ∧ H0 x = none ∧ H x = some (.ins M dx []) ∧ SqL K H0 ki (ks.map V.str) ∧ SqL K H0 pl (ps.map V.str) ∧ SqL K H0 ro xs ∧ Paired (GRoad K H0) rs xs ∧ SqL K H0 ba zs ∧ Paired (GBar H0) bs zs ∧ PartsOk d ks ps rs bs ∧
  ∀ H' ks' ps' rs' bs', Grew P H0 H' → ks'.Perm ks → Asc ks' → ps'.Perm ps → Asc ps' → KeptAll rs rs' → AscR rs' → bs'.Perm bs → AscB bs' → MapAt K H' M x d ks' ps' rs' bs' → Q .non H'
structure TxtM (K : PySem.W.Frag) (M : Addr) : Prop where
  cl : Cls K M
  n1 : NoAttr K M "day"
  n2 : NoAttr K M "kinds"
  n3 : NoAttr K M "places"
  n4 : NoAttr K M "roads"
  n5 : NoAttr K M "_roads_by_name"
  n6 : NoAttr K M "bars"
  n7 : NoAttr K M "_barred"
section
variable {Pg : Program} {w : World} {K : PySem.W.Frag} {mg : Str → Option Value} {base : Heap} {C P : Addr}
end
end W

set_option Elab.async false
set_option linter.all false
set_option maxRecDepth 100000
set_option maxHeartbeats 400000
namespace W
open PySem PySem.Spec PyProof.Rows L2 GxR MyG
abbrev sRow : Stmt := top 12
abbrev sNumbers : Stmt := top 13
/-- the drawn numbers are small -/
def Sm (ns : List Int) : Prop := ∀ n ∈ ns, 0 ≤ n ∧ n < 1009
theorem Sm.snoc {ns : List Int} {n : Int} (h : Sm ns) (h1 : 0 ≤ n) (h2 : n < 1009) : Sm (ns ++ [n]) := fun z hz => by
  rcases List.mem_append.mp hz with hz | hz
  · exact h z hz
  · rw [List.mem_singleton.mp hz]; exact ⟨h1, h2⟩
theorem mod1009 (a : Int) : 0 ≤ a % 1009 ∧ a % 1009 < 1009 := by omega
def spRow (P : Addr) : Sp := fun vs H Q _ => ∃ (c : Int) (m : Nat), vs = [.int c, .int m] ∧ m ≤ 1000 ∧ TabG H P ∧ ∀ H' p ns, Grew P H H' → H p = none → H' p = some (.lst (ns.map V.int)) → ns.length = m → Sm ns → Q (.ref p) H'
def spNumbers (K : PySem.W.Frag) (P : Addr) : Sp := fun vs H Q _ => ∃ (a : Addr) (zs : List Int) (m : Nat), vs = [.ref a, .int m] ∧ SqL K H a (zs.map V.int) ∧ zs.length ≤ 63 ∧ m ≤ 900 ∧ TabG H P ∧
  ∀ H' p ns, Grew P H H' → H p = none → H' p = some (.lst (ns.map V.int)) → ns.length = m → Sm ns → Q (.ref p) H'
section
variable {Pg : Program} {w : World} {K : PySem.W.Frag} {mg : Str → Option Value} {base : Heap} {C P : Addr}
abbrev nRow : List Str := ["cell", "many", "row", "rest", "mixed", "k"]
theorem scRow : FnScope nRow ["cell", "many"] (defScope sRow) := ⟨rfl, rfl, rfl, by decide +kernel, rfl, by decide +kernel, by decide +kernel⟩
theorem ok_row {f : Addr} {fd : FuncData} (F : Fun K "_law_row" "_law_row" sRow f fd) (ha : mg "abs" = none) (hi : mg "int" = none) (hr' : mg "range" = none) : FnOk Pg w K mg base CX0 1 f fd ["cell", "many"] (spRow P) := by
  refine F.ok scRow (fun vs H Q E h => ?_) (fun cdv A outer s H vs Q E hr h => ?_)
  · obtain ⟨c, m, rfl, _⟩ := h
    rfl
  · obtain ⟨c, m, rfl, hm, hP, k⟩ := h
    refine ⟨_, pss_cons (ps_set (i := 2) scRow.nd rfl (Or.inl rfl) (pe_lst pa_nil))
      (pss_cons (ps_set (i := 3) scRow.nd rfl (Or.inl rfl) (pe_callB call_abs (by rfl) ha (by decide +kernel) (pa_cons (pv 0) pa_nil)))
      (pss_cons (ps_set (i := 4) scRow.nd rfl (Or.inl rfl) (pe_op op_mod (pe_callTy call_int1 (by rfl) hi (by decide +kernel) (pa_cons (pe_op op_add (pe_op op_mul (pv 3) pe_int) pe_int) pa_nil)) pe_int))
      (pss_cons (ps_for PassesOwn.never rfl (pi_range1 rfl hr' (pa_cons (pv 1) pa_nil)) (pg_name (i := 5) scRow.nd rfl (Or.inl rfl))
        (pss_cons (ps_set (i := 4) scRow.nd rfl (Or.inl rfl) (pe_op op_mod (pe_callTy call_int1 (by rfl) hi (by decide +kernel) (pa_cons (pe_op op_add (pe_op op_mul (pv 4) pe_int) (pe_op op_mul pe_int (pe_op op_add (pv 5) pe_int))) pa_nil)) pe_int))
        (pss_one (ps_if (pt_cmpR op_ge (pe_callB call_abs (by rfl) ha (by decide +kernel) (pa_cons (pv 0) pa_nil)) (pe_op op_pow pe_int pe_int) (nomark _))
          (pss_cons (ps_expr (pe_bm PySem.F.plainAttrs_list PySem.F.slot_list_append PySem.F.type_list_append mt_append (pv 2) (pa_cons (pe_op op_mod (pe_callTy call_int1 (by rfl) hi (by decide +kernel) (pa_cons (pv 3) pa_nil)) pe_int) pa_nil)))
            (pss_one (ps_set (i := 3) scRow.nd rfl (Or.inl rfl) (pe_op op_fdiv (pv 3) pe_int))))
          (pss_one (ps_expr (pe_bm PySem.F.plainAttrs_list PySem.F.slot_list_append PySem.F.type_list_append mt_append (pv 2) (pa_cons (pe_op op_mod (pe_callTy call_int1 (by rfl) hi (by decide +kernel) (pa_cons (pe_op op_fdiv (pv 4) pe_int) pa_nil)) pe_int) pa_nil))))))))
      (pss_one (ps_ret (pv 2)))))), ?_⟩
    refine ⟨Nat.zero_le _, fun p np => ?_⟩
    refine ⟨_, rfl, _, rfl, ?_⟩
    refine ⟨_, rfl, _, _, rfl, rfl, .inr ⟨by decide, by decide⟩, _, _, rfl, rfl, .inl ⟨_, rfl, _, _, rfl, rfl, (show (0 : Int) < 2147483647 by decide), ?_⟩⟩
    refine ⟨_, rfl, m, rfl, by omega, by omega, for_range (n := m) (fun i σ H' => ∃ r mx kv, ∃ ns : List Int, σ = [some (.int c), some (.int m), some (.ref p), some (.int r), some (.int mx), kv] ∧ Grew P H H' ∧ H' p = some (.lst (ns.map V.int)) ∧ ns.length = i ∧ Sm ns)
      ⟨_, _, none, [], rfl, Grew.new hP np, upd_same, rfl, fun n hn => by cases hn⟩ ?_ ?_⟩
    · rintro i σ H' hi ⟨r, mx, kv, ns, rfl, g, hp, hl, hsm⟩
      refine ⟨_, rfl, _, _, rfl, rfl, .inr ⟨by decide, by decide⟩, _, rfl, _, _, rfl, rfl, _, _, rfl, rfl, .inl ⟨by decide, by decide⟩, _, _, rfl, rfl, .inl ⟨_, rfl, _, _, rfl, rfl, (show (0 : Int) < 2147483629 by decide), ?_⟩⟩
      refine ⟨_, rfl, _, rfl, _, _, rfl, rfl, ⟨by decide, by decide, by decide⟩, _, _, rfl, rfl, _, rfl, ?_⟩
      have hlen : (ns.map V.int).length < sizeLine := by rw [List.length_map, hl, sizeLine_eq]; omega
      refine ite2 (fun _ => ?_) (fun _ => ?_)
      · refine ⟨_, rfl, .inl ⟨rfl, _, SqL.of hp⟩, _, rfl, .inl ⟨_, rfl, _, _, rfl, rfl, (show (0 : Int) < 1009 by decide), p, _, _, rfl, rfl, hp, hlen, ?_⟩⟩
        refine ⟨_, rfl, _, _, rfl, rfl, ⟨by decide, by decide⟩, _, _, _, ns ++ [_], rfl, g.write hp (fun _ z => by cases z) np, by rw [upd_same, List.map_append]; rfl, by rw [List.length_append, hl]; rfl, hsm.snoc (mod1009 _).1 (mod1009 _).2⟩
      · refine ⟨_, rfl, .inl ⟨rfl, _, SqL.of hp⟩, _, rfl, _, _, rfl, rfl, ⟨by decide, by decide⟩, .inl ⟨_, rfl, _, _, rfl, rfl, (show (0 : Int) < 1009 by decide), p, _, _, rfl, rfl, hp, hlen, ?_⟩⟩
        refine ⟨_, _, _, ns ++ [_], rfl, g.write hp (fun _ z => by cases z) np, by rw [upd_same, List.map_append]; rfl, by rw [List.length_append, hl]; rfl, hsm.snoc (mod1009 _).1 (mod1009 _).2⟩
    · rintro σ H' ⟨r, mx, kv, ns, rfl, g, hp, hl, hsm⟩
      exact ⟨_, rfl, k H' p ns g np hp hl hsm⟩
end
end W

set_option Elab.async false
set_option linter.all false
set_option maxRecDepth 100000
set_option maxHeartbeats 400000
namespace W
open PySem PySem.Spec PyProof.Rows L2 GxR MyG
theorem cutV_pre (xs : List V) (n : Nat) : cutV xs none (some (n : Int)) = xs.take n := by
  unfold cutV
  rw [HT.sIx_none, HT.sIx_nat, List.drop_zero, Nat.sub_zero]
  rcases Nat.le_total n xs.length with h | h
  · rw [Nat.min_eq_left h]
  · rw [Nat.min_eq_right h, List.take_length, List.take_of_length_le h]
theorem Sm.take {ns : List Int} (h : Sm ns) (k : Nat) : Sm (ns.take k) := fun z hz => h z (List.mem_of_mem_take hz)
theorem Sm.app {ns ms : List Int} (h : Sm ns) (h2 : Sm ms) : Sm (ns ++ ms) := fun z hz => by
  rcases List.mem_append.mp hz with hz | hz
  · exact h z hz
  · exact h2 z hz
section
variable {Pg : Program} {w : World} {K : PySem.W.Frag} {mg : Str → Option Value} {base : Heap} {C P : Addr}
abbrev nNumbers : List Str := ["script", "many", "cells", "each", "numbers", "cell", "number"]
theorem scNumbers : FnScope nNumbers ["script", "many"] (defScope sNumbers) := ⟨rfl, rfl, rfl, by decide +kernel, rfl, by decide +kernel, by decide +kernel⟩
theorem ok_numbers {f fR : Addr} {fd fdR : FuncData} (F : Fun K "_law_numbers" "_law_numbers" sNumbers f fd) (hl : mg "len" = none) (hx : mg "max" = none)
    (GR : FnOk Pg w K mg base CX0 1 fR fdR ["cell", "many"] (spRow P)) (gR : mg "_law_row" = some (.ref fR)) (kR : PySem.W.keepIn K (.ref fR) = true) (bR : Binds K fdR ["cell", "many"] []) :
    FnOk Pg w K mg base CX0 2 f fd ["script", "many"] (spNumbers K P) := by
  refine F.ok scNumbers (fun vs H Q E h => ?_) (fun cdv A outer s H vs Q E hr h => ?_)
  · obtain ⟨a, zs, m, rfl, _⟩ := h
    rfl
  · obtain ⟨a, zs, m, rfl, hS, hz, hm, hP, k⟩ := h
    refine ⟨_, pss_cons (ps_set (i := 2) scNumbers.nd rfl (Or.inl rfl) (pe_slice sl_list (pv 0) po_none (po_some pe_int)))
      (pss_cons (ps_set (i := 3) scNumbers.nd rfl (Or.inl rfl) (pe_op op_add pe_int (pe_op op_fdiv (pv 1) (pe_callB (call_max2 rfl) (by rfl) hx (by decide +kernel) (pa_cons pe_int (pa_cons (pe_callB call_len_seq (by rfl) hl PySem.boot_len (pa_cons (pv 2) pa_nil)) pa_nil))))))
      (pss_cons (ps_set (i := 4) scNumbers.nd rfl (Or.inl rfl) (pe_lst pa_nil))
      (pss_cons (ps_for PassesOwn.never rfl (pi_list (pv 2)) (pg_name (i := 5) scNumbers.nd rfl (Or.inl rfl))
        (pss_one (ps_for PassesOwn.never rfl (pi_list (pe_call GR hr (by rfl) gR kR bR .nil pass0 (pa_cons (pv 5) (pa_cons (pv 3) pa_nil)))) (pg_name (i := 6) scNumbers.nd rfl (Or.inl rfl))
          (pss_one (ps_expr (pe_bm PySem.F.plainAttrs_list PySem.F.slot_list_append PySem.F.type_list_append mt_append (pv 4) (pa_cons (pv 6) pa_nil)))))))
      (pss_cons (ps_while PassesOwn.never (pt_cmpR op_lt (pe_callB call_len_seq (by rfl) hl PySem.boot_len (pa_cons (pv 4) pa_nil)) (pv 1) (nomark _))
          (pss_one (ps_expr (pe_bm PySem.F.plainAttrs_list PySem.F.slot_list_append PySem.F.type_list_append mt_append (pv 4) (pa_cons pe_int pa_nil)))))
      (pss_one (ps_ret (pe_slice sl_list (pv 4) po_none (po_some (pv 1))))))))), ?_⟩
    -- cells
    refine ⟨_, rfl, _, rfl, a, _, rfl, hS, fun c nc => ?_⟩
    have ec : cutV (zs.map V.int) none (some 63) = zs.map V.int := by
      have q := cutV_pre (zs.map V.int) 63
      rw [List.take_of_length_le (by rw [List.length_map]; exact hz)] at q
      exact q
    rw [ec]
    have g1 := Grew.new hP (o := .lst (zs.map V.int)) nc
    -- each
    refine ⟨_, rfl, _, rfl, c, _, rfl, .inl (SqL.of upd_same), 1, _, rfl, _, _, rfl, rfl, ?_, _, _, rfl, rfl, ?_⟩
    · rw [List.length_map]
      constructor
      · split <;> omega
      · split <;> omega
    rw [List.length_map]
    generalize hdv : (if ((zs.length : Nat) : Int) > 1 then ((zs.length : Nat) : Int) else 1) = dv
    have hdp : 0 < dv := by rw [← hdv]; split <;> omega
    obtain ⟨e, he, he2⟩ : ∃ e : Nat, 1 + (m : Int) / dv = (e : Int) ∧ e ≤ 1000 := by
      have h1 : 0 ≤ (m : Int) / dv := Int.ediv_nonneg (by omega) (by omega)
      have h2 : (m : Int) / dv ≤ m := Int.ediv_le_self _ (by omega)
      exact ⟨(1 + (m : Int) / dv).toNat, by omega, by omega⟩
    refine ⟨Nat.zero_le _, fun p np => ?_⟩
    have g2 := g1.put (o := .lst []) np
    have hc : L2.upd (L2.upd H c (.lst (zs.map V.int))) p (.lst []) c = some (.lst (zs.map V.int)) := (Grew.new g1.tab np).lst g1.tab upd_same
    have ncp : c ≠ p := ne_of_none upd_same np
    refine ⟨_, rfl, c, rfl, ⟨_, SqL.of hc⟩, for_list (K := K) (a := c) (xs := zs.map V.int) (fun i σ H' => ∃ v5 v6, ∃ ns : List Int, σ = [some (.ref a), some (.int m), some (.ref c), some (.int (1 + (m : Int) / dv)), some (.ref p), v5, v6] ∧ Grew P H H' ∧ H' c = some (.lst (zs.map V.int)) ∧ H' p = some (.lst (ns.map V.int)) ∧ ns.length ≤ 1000 * i ∧ Sm ns)
      ⟨none, none, [], rfl, g2, hc, upd_same, Nat.zero_le _, fun n hn => by cases hn⟩ (fun i σ H' _ ⟨_, _, _, _, _, h, _⟩ => SqL.of h) ?_ ?_⟩
    · rintro i y σ H' hi ⟨v5, v6, ns, rfl, g, hcc, hp, hln, hsm⟩
      obtain ⟨z, rfl⟩ : ∃ z, y = V.int z := by
        rw [List.getElem?_map] at hi
        cases q : zs[i]? with
        | none => rw [q] at hi; cases hi
        | some z => rw [q] at hi; exact ⟨z, (Option.some.inj hi).symm⟩
      have hi63 : i < 63 := by
        have q := (List.getElem?_eq_some_iff.mp hi).1
        rw [List.length_map] at q
        omega
      refine ⟨_, rfl, _, rfl, z, e, by rw [he]; rfl, he2, g.tab, fun H2 q rs gr nq eq hrl hrs => ?_⟩
      have np2 : p ≠ q := ne_of_none hp nq
      have np0 : H p = none := (Grew.new hP nc).free np
      refine ⟨q, rfl, ⟨_, SqL.of eq⟩, for_list (K := K) (a := q) (xs := rs.map V.int) (fun j σ H' => ∃ v5 v6, σ = [some (.ref a), some (.int m), some (.ref c), some (.int (1 + (m : Int) / dv)), some (.ref p), v5, v6] ∧ Grew P H H' ∧ H' c = some (.lst (zs.map V.int)) ∧ H' q = some (.lst (rs.map V.int)) ∧ H' p = some (.lst ((ns ++ rs.take j).map V.int)))
        ⟨_, _, rfl, g.trans gr, gr.lst g.tab hcc, eq, by rw [List.take_zero, List.append_nil]; exact gr.lst g.tab hp⟩ (fun j σ H' _ ⟨_, _, _, _, _, h, _⟩ => SqL.of h) ?_ ?_⟩
      · rintro j y σ H3 hj ⟨w5, w6, rfl, g3, hc3, hq3, hp3⟩
        obtain ⟨z2, hz2, rfl⟩ : ∃ z, rs[j]? = some z ∧ y = V.int z := by
          rw [List.getElem?_map] at hj
          cases q : rs[j]? with
          | none => rw [q] at hj; cases hj
          | some z => rw [q] at hj; exact ⟨z, rfl, (Option.some.inj hj).symm⟩
        refine ⟨_, rfl, .inl ⟨rfl, _, SqL.of hp3⟩, _, rfl, p, _, _, rfl, rfl, hp3, ?_, _, _, rfl, g3.write hp3 (fun _ z => by cases z) np0, ?_, ?_, ?_⟩
        · rw [List.length_map, List.length_append, List.length_take, sizeLine_eq]; omega
        · rw [upd_ne ncp]; exact hc3
        · rw [upd_ne np2.symm]; exact hq3
        · rw [upd_same, List.take_succ, hz2]; simp
      · rintro σ H3 ⟨w5, w6, rfl, g3, hc3, hq3, hp3⟩
        rw [List.length_map, List.take_length] at hp3
        exact ⟨_, _, ns ++ rs, rfl, g3, hc3, hp3, by rw [List.length_append]; omega, hsm.app hrs⟩
    · rintro σ H' ⟨v5, v6, ns, rfl, g, hcc, hp, hln, hsm⟩
      rw [List.length_map] at hln
      have np0 : H p = none := (Grew.new hP nc).free np
      refine ⟨fun n σ H' => ∃ ns : List Int, σ = [some (.ref a), some (.int m), some (.ref c), some (.int (1 + (m : Int) / dv)), some (.ref p), v5, v6] ∧ Grew P H H' ∧ H' p = some (.lst (ns.map V.int)) ∧ ns.length ≤ 70000 ∧ Sm ns ∧ n = m - ns.length,
        ⟨_, ns, rfl, g, hp, by omega, hsm, rfl⟩, ?_⟩
      rintro n σ H3 ⟨ms, rfl, g3, hp3, hl3, hs3, rfl⟩
      refine ⟨_, rfl, p, _, rfl, .inl (SqL.of hp3), _, rfl, _, _, rfl, rfl, _, rfl, ?_⟩
      rw [List.length_map]
      refine ite2 (fun hlt => ?_) (fun hge => ?_)
      · have hlt' : (ms.length : Int) < m := of_decide_eq_true hlt
        refine ⟨_, fun _ _ h => h, _, rfl, .inl ⟨rfl, _, SqL.of hp3⟩, p, _, _, rfl, rfl, hp3, ?_, m - (ms.length + 1), by omega, ms ++ [0], rfl, g3.write hp3 (fun _ z => by cases z) np0, ?_, ?_, hs3.snoc (by decide) (by decide), ?_⟩
        · rw [List.length_map, sizeLine_eq]; omega
        · rw [upd_same, List.map_append]; rfl
        · rw [List.length_append, List.length_singleton]; omega
        · rw [List.length_append, List.length_singleton]
      · have hge' : ¬ (ms.length : Int) < m := fun z => hge (decide_eq_true z)
        refine ⟨_, rfl, _, rfl, _, rfl, p, _, rfl, SqL.of hp3, fun r nr => ?_⟩
        have ec2 := cutV_pre (ms.map V.int) m
        rw [ec2, ← List.map_take]
        exact k _ r (ms.take m) (g3.put nr) (g3.free nr) upd_same (by rw [List.length_take]; omega) (hs3.take m)
end
end W

set_option Elab.async false
set_option linter.all false
set_option maxRecDepth 100000
set_option maxHeartbeats 1000000
/-! a list or a tuple walked; the texts of errors -/
namespace SqX
open PySem PySem.Spec PyProof.Rows L2
/-- a list (true) or a tuple (false) -/
def SqK (c : Bool) (K : PySem.W.Frag) (H : Hp) (a : Addr) (xs : List V) : Prop := match c with
  | true => SqL K H a xs
  | false => SqT K H a xs
theorem SqK.any {c : Bool} {K : PySem.W.Frag} {H : Hp} {a : Addr} {xs : List V} (h : SqK c K H a xs) : SqL K H a xs ∨ SqT K H a xs := by
  cases c with
  | true => exact .inl h
  | false => exact .inr h
def ItK (c : Bool) (K : PySem.W.Frag) (a : Addr) : It := match c with
  | true => Itl K a
  | false => Itt K a
theorem walk_sq {c : Bool} {K : PySem.W.Frag} {a : Addr} {xs : List V} : Walk (ItK c K a) xs.length (fun H => SqK c K H a xs) (YAt xs) := by
  cases c with
  | true => exact walk_list
  | false => exact walk_tup
def iSq (K : PySem.W.Frag) (tl : TE) : TI := fun σ H R => tl σ H fun x H1 => ∃ (c : Bool) (a : Addr), x = .ref a ∧ (∃ xs, SqK c K H1 a xs) ∧ R (ItK c K a) H1
section
variable {X : Cx} {tg : Expr}
theorem pi_sq {l : Expr} {tl : TE} (hl : PE X l tl) : PI X tg l (iSq X.K tl) := by
  refine ⟨fun pins s σ H R I h => ?_⟩
  refine thn (hl.run pins s σ H _ I h) fun v s1 ⟨x, H1, I1, r1, q1⟩ => ?_
  obtain ⟨c, a, e, ⟨xs, hq⟩, q⟩ := q1
  subst e
  cases r1
  cases c with
  | true =>
    obtain ⟨its, rv, p, hz⟩ := I1.list hq
    refine wpAny_pyIter_list p.isList ?_
    refine ⟨s1.heap.objs.size, [s1.heap.objs.size], _, _, H1, rfl, I1.kept (t' := s1.toks) fun b o e => Heap.get?_push_of_some _ e, turn_list a _, ⟨_, Heap.get?_push_size _ rfl, rfl, rfl⟩, fun b hb => ?_, q⟩
    have e : b = s1.heap.objs.size := by simpa using hb
    subst e
    exact I1.fpOk (Nat.le_refl _) (I1.hok.fresh (Nat.le_refl _))
  | false =>
    obtain ⟨its, rv, p, hz⟩ := I1.tuple hq
    refine wpAny_pyIter_tuple (show s1.heap.IsTuple a its.toArray from p) ?_
    refine ⟨s1.heap.objs.size, [s1.heap.objs.size], _, _, H1, rfl, I1.kept (t' := s1.toks) fun b o e => Heap.get?_push_of_some _ e, turn_tuple a _, ⟨_, Heap.get?_push_size _ rfl, rfl, rfl⟩, fun b hb => ?_, q⟩
    have e : b = s1.heap.objs.size := by simpa using hb
    subst e
    exact I1.fpOk (Nat.le_refl _) (I1.hok.fresh (Nat.le_refl _))
end
/-- for over a list or a tuple -/
theorem for_sq {K : PySem.W.Frag} {c : Bool} {a : Addr} {xs : List V} {g : TG} {tb : TS} {D : Ends} {σ : L2.St} {H : Hp} (Pv : Nat → L2.St → Hp → Prop) (h0 : Pv 0 σ H) (hl : ∀ i σ H', i ≤ xs.length → Pv i σ H' → SqK c K H' a xs)
    (hs : ∀ i x σ H', xs[i]? = some x → Pv i σ H' → g x σ H' fun σ2 H2 => tb { D with nx := Pv (i + 1), ct := Pv (i + 1), bk := D.nx } σ2 H2) (hd : ∀ σ H', Pv xs.length σ H' → D.nx σ H') :
    ∃ W : Nat → Nat → L2.St → Hp → Prop, (∃ m, W 0 m σ H) ∧ ∀ i m σ H, W i m σ H →
      ((ItK c K a).stop i H ∧ D.nx σ H) ∨ ((ItK c K a).go i H ∧ ∃ N : L2.St → Hp → Prop, (∀ σ' H', N σ' H' → ∃ m', m' < m ∧ W (i + 1) m' σ' H') ∧ ∀ x H', (ItK c K a).yld i H x H' → g x σ H' fun σ2 H2 => tb { D with nx := N, ct := N, bk := D.nx } σ2 H2) :=
  for_it walk_sq Pv h0 hl (fun i x σ H H' _ p y => by obtain ⟨e, hx⟩ := y; rw [e]; exact hs i x σ H hx p) hd
/-- a comprehension over a list or a tuple -/
theorem lc_sq {K : PySem.W.Frag} {c : Bool} {a : Addr} {xs : List V} {g : TG} {tt : TT} {te : TE} {vs : List Nat} {σ : L2.St} {H1 : Hp} {D : Addr} {Qd : Hp → Prop} (Pv : Nat → Hp → Prop) (h0 : Pv 0 (L2.upd H1 D (.lst []))) (hl : ∀ i H, i ≤ xs.length → Pv i H → SqK c K H a xs)
    (hs : ∀ i x H, xs[i]? = some x → Pv i H → g x (wipe σ vs) H fun σ2 H2 => wipe σ2 vs = wipe σ vs ∧ tt σ2 H2 fun b H3 =>
      if b = true then te σ2 H3 fun y H4 => ∃ acc, H4 D = some (.lst acc) ∧ acc.length < sizeLine ∧ Pv (i + 1) (L2.upd H4 D (.lst (acc ++ [y]))) else Pv (i + 1) H3) (hd : ∀ H, Pv xs.length H → Qd H) :
    ∃ W : Nat → Nat → Hp → Prop, (∃ m, W 0 m (L2.upd H1 D (.lst []))) ∧ ∀ i m H, W i m H →
      ((ItK c K a).stop i H ∧ Qd H) ∨ ((ItK c K a).go i H ∧ ∃ Nx : Hp → Prop, (∀ H', Nx H' → ∃ m', m' < m ∧ W (i + 1) m' H') ∧ ∀ x H', (ItK c K a).yld i H x H' → g x (wipe σ vs) H' fun σ2 H2 => wipe σ2 vs = wipe σ vs ∧ tt σ2 H2 fun b H3 =>
        if b = true then te σ2 H3 fun y H4 => ∃ acc, H4 D = some (.lst acc) ∧ acc.length < sizeLine ∧ Nx (L2.upd H4 D (.lst (acc ++ [y]))) else Nx H3) :=
  lc_it walk_sq Pv h0 hl (fun i x H H' _ p y => by obtain ⟨e, hx⟩ := y; rw [e]; exact hs i x H hx p) hd
/-! ### the texts of errors -/
/-- a part of a short text -/
def Short (t : TE) (σ : L2.St) (H : Hp) : Prop := ∀ Q : VK, (∀ y : Str, y.length ≤ 1000 → Q (.str y) H) → t σ H Q
theorem short_c {z : Str} {σ : L2.St} {H : Hp} (h : z.length ≤ 1000) : Short (tC (.str z)) σ H := fun Q k => k z h
theorem short_s {t : TE} {σ : L2.St} {H : Hp} {y : Str} (h : ∀ Q : VK, Q (.str y) H → t σ H Q) (hy : y.length ≤ 1000) : Short (tFmt t) σ H := fun Q k => h _ (.inl ⟨y, rfl, by rw [sizeLine_eq]; omega, k y hy⟩)
theorem short_i {t : TE} {σ : L2.St} {H : Hp} {n : Int} (h : ∀ Q : VK, Q (.int n) H → t σ H Q) (hn : n.natAbs < 10 ^ 12) : Short (tFmt t) σ H := fun Q k => h _ (.inr ⟨n, rfl, by
  by_cases c : n.natAbs = 0
  · rw [c]; decide
  · refine Nat.lt_of_lt_of_le ((Nat.log2_lt c).mpr (Nat.lt_of_lt_of_le hn (show 10 ^ 12 ≤ 2 ^ 40 by decide))) (by decide), k _ (by
  have q := PyData.shown_int_le (i := n) hn
  rw [PyData.shown_int] at q
  omega)⟩)
theorem short_v {σ : L2.St} {H : Hp} {i : Nat} {y : Str} (e : σ[i]? = some (some (.str y))) (hy : y.length ≤ 1000) : Short (tFmt (tVar i)) σ H := short_s (fun Q q => ⟨_, e, q⟩) hy
theorem short_n {σ : L2.St} {H : Hp} {i : Nat} {n : Int} (e : σ[i]? = some (some (.int n))) (hn : n.natAbs < 10 ^ 12) : Short (tFmt (tVar i)) σ H := short_i (fun Q q => ⟨_, e, q⟩) hn
theorem short_g {σ : L2.St} {H : Hp} {n : Int} (hn : n.natAbs < 10 ^ 12) : Short (tFmt (tC (.int n))) σ H := short_i (fun Q q => q) hn
theorem tJs_ok {σ : L2.St} {H : Hp} {Q : Str → Hp → Prop} (k : ∀ z, Q z H) : ∀ {ts : List TE} {acc : Str} (n : Nat), (∀ t ∈ ts, Short t σ H) → acc.length ≤ n → n + 1000 * ts.length ≤ 100000 → tJs ts acc σ H Q
  | [], acc, n, _, _, _ => k acc
  | t :: ts, acc, n, h, ha, hn => h t List.mem_cons_self _ fun y hy => ⟨y, rfl, by rw [PySem.Str.length_append, sizeLine_eq]; simp only [List.length_cons] at hn; omega,
      tJs_ok k (n + 1000) (fun u hu => h u (List.mem_cons_of_mem _ hu)) (by rw [PySem.Str.length_append]; omega) (by simp only [List.length_cons] at hn; omega)⟩
end SqX

set_option Elab.async false
set_option linter.all false
set_option maxRecDepth 100000
set_option maxHeartbeats 1000000
namespace W
open PySem PySem.Spec PyProof.Rows L2 GxR MyG MyS SqX
/-! ### the checks of a map, of whatever is given: they return, or InvalidMap is raised -/
/-- InvalidMap, the heap grown -/
def BadM (C P : Addr) (H : Hp) (E : XK) : Prop := ∀ H', Grew P H H' → E (.ref C) none H'
theorem BadM.on {C P : Addr} {H H1 : Hp} {E : XK} (h : BadM C P H E) (g : Grew P H H1) : BadM C P H1 E := fun H' g' => h H' (g.trans g')
theorem BadM.here {C P : Addr} {H : Hp} {E : XK} (h : BadM C P H E) (hP : TabG H P) : E (.ref C) none H := h H (Grew.refl hP)
theorem _root_.SqX.SqK.grew {c : Bool} {K : PySem.W.Frag} {P : Addr} {H H' : Hp} {a : Addr} {xs : List V} (h : SqK c K H a xs) (g : Grew P H H') (hP : TabG H P) : SqK c K H' a xs := by
  cases c with
  | true => exact g.sqL hP h
  | false => exact g.sqT hP h
def spDayX (C P : Addr) : Sp := fun vs H Q E => ∃ d : Int, vs = [.int d] ∧ d.natAbs < 10 ^ 12 ∧ TabG H P ∧ (1 ≤ d → d ≤ 1440 → Q (.int d) H) ∧ (¬ (1 ≤ d ∧ d ≤ 1440) → BadM C P H E)
/-- hours as they are given -/
def hoursG (hs : Option (List (Int × Int))) : Option (List (List Int)) := hs.map fun ps => ps.map fun p => [p.1, p.2]
def GPairX (K : PySem.W.Frag) (H : Hp) (p : List Int) (x : V) : Prop := ∃ t, x = .ref t ∧ SqT K H t (p.map V.int)
def GHoursX (K : PySem.W.Frag) (H : Hp) (hs : Option (List (List Int))) (v : V) : Prop := match hs with
  | none => v = .non
  | some ps => ∃ (l : Addr) (xs : List V) (c : Bool), v = .ref l ∧ SqK c K H l xs ∧ Paired (GPairX K H) ps xs
theorem GPairX.keep {K : PySem.W.Frag} {H H' : Hp} {p : List Int} {x : V} (k : KeepT K H H') (h : GPairX K H p x) : GPairX K H' p x := let ⟨t, a, b⟩ := h; ⟨t, a, k _ _ b⟩
theorem GHoursX.grew {K : PySem.W.Frag} {P : Addr} {H H' : Hp} {hs : Option (List (List Int))} {v : V} (g : Grew P H H') (hP : TabG H P) (h : GHoursX K H hs v) : GHoursX K H' hs v := by
  cases hs with
  | none => exact h
  | some ps =>
    obtain ⟨l, xs, c, a, b, d⟩ := h
    exact ⟨l, xs, c, a, b.grew g hP, Paired.map' d fun _ _ m => m.keep (KeepT.grew g hP)⟩
/-- hours that a road may have -/
def HoursGOk (d : Int) (hs : Option (List (List Int))) : Prop := ∃ h, hs = hoursG h ∧ HoursOk d h
def spHoursX (K : PySem.W.Frag) (C P : Addr) : Sp := fun vs H Q E => ∃ (d : Int) (hs : Option (List (List Int))) (hv : V), vs = [hv, .int d] ∧ GHoursX K H hs hv ∧ (∀ ps, hs = some ps → ps.length ≤ 1000) ∧ TabG H P ∧
  (∀ h, hs = hoursG h → HoursOk d h → ∀ H' v', Grew P H H' → GHours K H' h v' → Q v' H') ∧ (¬ HoursGOk d hs → BadM C P H E)
def spDiffX (K : PySem.W.Frag) (C P : Addr) : Sp := fun vs H Q E => ∃ a : Addr, vs = [.ref a] ∧ TabG H P ∧
  ((∃ ns : List Str, (SqL K H a (ns.map V.str) ∨ SqT K H a (ns.map V.str)) ∧ ns.length ≤ 1000 ∧ (ns.Nodup → Q .non H) ∧ (¬ ns.Nodup → BadM C P H E)) ∨
   ∃ ks : List (Addr × List Str), SqL K H a (ks.map fun p => V.ref p.1) ∧ (∀ p ∈ ks, SqT K H p.1 (p.2.map V.str)) ∧ ks.length < 64 ∧ ((ks.map (·.2)).Nodup → Q .non H) ∧ (¬ (ks.map (·.2)).Nodup → BadM C P H E))
/-- pairs one behind the other, from the place at which the last one closed -/
theorem lastOf_cons {q : Int × Int} {r : List (Int × Int)} {c : Int} (i : Nat) : lastOf c (q :: r) (i + 1) = lastOf q.2 r i := by
  unfold lastOf
  rw [List.take_succ_cons]
  cases r.take i with
  | nil => rfl
  | cons a l => rw [List.getLast?_cons_cons]; cases h : (a :: l).getLast? with
    | none => simp at h
    | some z => rfl
theorem hours_snoc {d : Int} : ∀ {ps : List (Int × Int)} {c : Int} {p : Int × Int}, hoursOk d c (ps ++ [p]) ↔ hoursOk d c ps ∧ (lastOf c ps ps.length < p.1 ∧ p.1 < p.2 ∧ p.2 ≤ d)
  | [], c, p => ⟨fun h => ⟨trivial, h.1, h.2.1, h.2.2.1⟩, fun h => ⟨h.2.1, h.2.2.1, h.2.2.2, trivial⟩⟩
  | q :: r, c, p => by
    have ih := hours_snoc (d := d) (ps := r) (c := q.2) (p := p)
    rw [List.length_cons, lastOf_cons]
    constructor
    · rintro ⟨a, b, e, f⟩
      obtain ⟨g, h⟩ := ih.mp f
      exact ⟨⟨a, b, e, g⟩, h⟩
    · rintro ⟨⟨a, b, e, g⟩, h⟩
      exact ⟨a, b, e, ih.mpr ⟨g, h⟩⟩
/-- from the first pairs to more of them -/
theorem hours_take {d : Int} : ∀ {ps : List (Int × Int)} {c : Int} (i : Nat), hoursOk d c ps → hoursOk d c (ps.take i)
  | [], _, i, _ => by cases i <;> exact trivial
  | q :: r, c, 0, _ => trivial
  | q :: r, c, i + 1, h => ⟨h.1, h.2.1, h.2.2.1, hours_take i h.2.2.2⟩
theorem pairs_of {K : PySem.W.Frag} {H : Hp} : ∀ {qs : List (Int × Int)} {xs : List V}, Paired (GPairX K H) (qs.map fun p => [p.1, p.2]) xs → Paired (GPair K H) qs xs
  | [], _, h => by cases h; exact .nil
  | p :: r, _, h => by
    cases h with
    | cons a b => exact .cons a (pairs_of b)
section
variable {Pg : Program} {w : World} {K : PySem.W.Frag} {mg : Str → Option Value} {base : Heap} {C P : Addr}
end
end W

set_option Elab.async false
set_option linter.all false
set_option maxRecDepth 100000
set_option maxHeartbeats 1000000
namespace W
open PySem PySem.Spec PyProof.Rows L2 GxR MyG MyS SqX
def NamesOk (lo hi : Int) (ns : List Str) : Prop := lo ≤ ns.length ∧ (ns.length : Int) ≤ hi ∧ ns.all isNm = true ∧ ns.Nodup
def spNamesX (K : PySem.W.Frag) (C P : Addr) : Sp := fun vs H Q E => ∃ (a : Addr) (c : Bool) (ns : List Str) (lo hi : Int), vs = [.ref a, .int lo, .int hi] ∧ SqK c K H a (ns.map V.str) ∧ ns.length ≤ 1000 ∧ (∀ z ∈ ns, z.length ≤ 1000) ∧ lo.natAbs < 1000 ∧ hi.natAbs < 1000 ∧ TabG H P ∧
  (NamesOk lo hi ns → ∀ H' p ys, Grew P H H' → H p = none → H' p = some (.tup (ys.map V.str)) → ys.Perm ns → Asc ys → Q (.ref p) H') ∧ (¬ NamesOk lo hi ns → BadM C P H E)
/-- a road as it is given -/
structure RoadG where
  name : Str
  start : Str
  goal : Str
  minutes : Int
  users : List Str
  hours : Option (List (List Int))
def rG (r : RoadD) : RoadG := ⟨r.name, r.start, r.goal, r.minutes, r.users, hoursG r.hours⟩
def GRoadX (K : PySem.W.Frag) (H : Hp) (r : RoadG) (v : V) : Prop := ∃ (t u : Addr) (h : V) (c : Bool), v = .ref t ∧ SqT K H t [.str r.name, .str r.start, .str r.goal, .int r.minutes, .ref u, h] ∧ SqK c K H u (r.users.map V.str) ∧ GHoursX K H r.hours h
theorem GRoadX.grew {K : PySem.W.Frag} {P : Addr} {H H' : Hp} {r : RoadG} {v : V} (g : Grew P H H') (hP : TabG H P) (h : GRoadX K H r v) : GRoadX K H' r v := by
  obtain ⟨t, u, x, c, a, b, d, e⟩ := h
  exact ⟨t, u, x, c, a, g.sqT hP b, d.grew g hP, e.grew g hP⟩
/-- of a size that is told -/
structure SmallG (r : RoadG) : Prop where
  n : r.name.length ≤ 1000
  s : r.start.length ≤ 1000
  g : r.goal.length ≤ 1000
  m : r.minutes.natAbs < 10 ^ 12
  ul : r.users.length ≤ 1000
  u : ∀ z ∈ r.users, z.length ≤ 1000
  h : ∀ ps, r.hours = some ps → ps.length ≤ 1000
def RoadGOk (d : Int) (ps ks : List Str) (r : RoadG) : Prop := ∃ r0, r = rG r0 ∧ RoadOk d ps ks r0
def spRoadX (K : PySem.W.Frag) (C P : Addr) : Sp := fun vs H Q E => ∃ (x : V) (pl ki : Addr) (d : Int) (ps ks : List Str) (r : RoadG), vs = [x, .int d, .ref pl, .ref ki] ∧ GRoadX K H r x ∧ SmallG r ∧ SqT K H pl (ps.map V.str) ∧ SqT K H ki (ks.map V.str) ∧ ks.length ≤ 4 ∧ TabG H P ∧
  (∀ r0, r = rG r0 → RoadOk d ps ks r0 → ∀ H' p q h r', Grew P H H' → Kept r0 r' → H p = none → H' p = some (.tup [.str r'.name, .str r'.start, .str r'.goal, .int r'.minutes, .ref q, h]) → H' q = some (.tup (r'.users.map V.str)) → GHours K H' r'.hours h → Q (.ref p) H') ∧
  (¬ RoadGOk d ps ks r → BadM C P H E)
theorem inV_dec (z : Str) (xs : List Str) : inV (.str z) (xs.map V.str) = decide (z ∈ xs) := by
  by_cases h : z ∈ xs
  · rw [inV_str h, decide_eq_true h]
  · rw [decide_eq_false h]
    unfold inV
    rw [List.any_map, List.any_eq_false]
    intro y hy e
    have q : y = z := by simpa [eqV] using e
    exact h (q ▸ hy)
theorem nodup_sub_len {α : Type} : ∀ {l m : List α}, l.Nodup → (∀ x ∈ l, x ∈ m) → l.length ≤ m.length
  | [], m, _, _ => Nat.zero_le _
  | a :: l, m, nd, h => by
    obtain ⟨s, t, rfl⟩ := List.append_of_mem (h a List.mem_cons_self)
    have nd' := List.nodup_cons.mp nd
    have := nodup_sub_len (l := l) (m := s ++ t) nd'.2 fun x hx => by
      have hm := h x (List.mem_cons_of_mem _ hx)
      rcases List.mem_append.mp hm with q | q
      · exact List.mem_append_left _ q
      · rcases List.mem_cons.mp q with e | q
        · rw [e] at hx; exact absurd hx nd'.1
        · exact List.mem_append_right _ q
    simp only [List.length_append, List.length_cons] at this ⊢
    omega
section
variable {Pg : Program} {w : World} {K : PySem.W.Frag} {mg : Str → Option Value} {base : Heap} {C P : Addr}
end
end W

set_option Elab.async false
set_option linter.all false
set_option maxRecDepth 100000
set_option maxHeartbeats 2000000
/-! a comprehension whose element (or test) may let an exception out -/
namespace CpN
open PySem PySem.Spec PyProof.Rows L2
/-- what a block lets out: an exception over the frames, and the block's own state without it -/
def OutB (X : Cx) (s : Shared) (H : Hp) (scope : Scope) (ce : Env) (fp : List Addr) (E : XK) (u : Value) (s' : Shared) : Prop :=
  ∃ (a : Addr) (B : Heap) (sI : Shared) (pb : List (Addr × Obj)) (σb : L2.St) (H' : Hp) (cls : Value) (d : Option Addr), u = .ref a ∧ Inv (X.blk s H scope ce fp) pb σb H' sI ∧ (∀ b o, sI.heap.get? b = some o → b ∉ frs X.stack → B.get? b = some o) ∧
    sI.heap.UpToSlots s'.heap ∧ HandSPX.FlyingZ B X.stack a (L2N.Zn cls d) s'.heap ∧ H' a = none ∧ s'.os = sI.os ∧ AllBare s'.gens ∧ E cls d H'
/-- the block with its wish -/
abbrev blkE (X : Cx) (E : XK) (s : Shared) (H : Hp) (scope : Scope) (ce : Env) (fp : List Addr) : Cx := (X.blk s H scope ce fp).wish (OutB X s H scope ce fp E)
/-- what a call lets out, over the state at the call without the exception's objects -/
theorem fly_of {X : Cx} {pins : List (Addr × Obj)} {σ : L2.St} {H : Hp} {s s' : Shared} {E : XK} {u : Value} (I : Inv X pins σ H s) (c : L2N.CX X.prog X.w X.stack H s E u s') :
    ∃ (a : Addr) (B : Heap) (sI : Shared) (H' : Hp) (cls : Value) (d : Option Addr), u = .ref a ∧ Inv X pins σ H' sI ∧ (∀ b o, sI.heap.get? b = some o → b ∉ frs X.stack → B.get? b = some o) ∧ sI.heap.UpToSlots s'.heap ∧ HandSPX.FlyingZ B X.stack a (L2N.Zn cls d) s'.heap ∧ H' a = none ∧ s'.os = sI.os ∧ AllBare s'.gens ∧ E cls d H' := by
  obtain ⟨a, B, H', cls, d, rfl, fl, hok, ub, na, os, ag, hE⟩ := c
  obtain ⟨G, in1, out1⟩ := restrict s'.heap fun b => decide (b ∈ frs X.stack) || (B.get? b).isSome
  have here : ∀ b o, G.get? b = some o → s'.heap.get? b = some o ∧ (b ∈ frs X.stack ∨ (B.get? b).isSome = true) := fun b o e => by
    by_cases q : (decide (b ∈ frs X.stack) || (B.get? b).isSome) = true
    · rw [in1 b q] at e
      rw [Bool.or_eq_true, decide_eq_true_iff] at q
      exact ⟨e, q⟩
    · rw [out1 b (by simpa using q)] at e
      cases e
  have low : ∀ b o, B.get? b = some o → G.get? b = some o := fun b o e => (in1 b (by rw [e]; simp)).trans (fl.1 b o e)
  have frm : ∀ b, b ∈ frs X.stack → G.get? b = s'.heap.get? b := fun b hb => in1 b (by rw [decide_eq_true hb]; rfl)
  have un : Un (frs X.stack) [] H H' s.heap G := by
    refine ⟨fun b o e n hb _ => low b o (ub.keep b o e n hb), fun b o e _ hb _ => ?_, fun b o e n _ => ub.free b o e n, fun b o e _ => ?_, ub.tups, ub.frzs, ub.tbls⟩
    · obtain ⟨sl, q⟩ := ub.slot b o e hb
      exact ⟨sl, (frm b hb).trans q⟩
    · by_cases hb : b ∈ frs X.stack
      · obtain ⟨sl, q⟩ := ub.slot b o e hb
        exact ⟨_, (frm b hb).trans q⟩
      · obtain ⟨o', q⟩ := ub.there b o e hb
        exact ⟨o', low b o' q⟩
  have J := I.call (g' := s'.gens) (d' := s'.drawn) (t' := s'.toks) un (hok.kept low) ag (fun _ z => nomatch z)
  refine ⟨a, B, _, H', cls, d, rfl, J, fun b o e hb => ?_, fun b o e _ => ⟨o.slots, (here b o e).1⟩, fl, na, os, ag, hE⟩
  obtain ⟨e1, e2⟩ := here b o e
  rcases e2 with h | h
  · exact absurd h hb
  · obtain ⟨o', q⟩ := Option.isSome_iff_exists.mp h
    have z := fl.1 b o' q
    rw [e1] at z
    cases z
    exact q
/-- what a call in the block may let out -/
theorem passB {X : Cx} {E : XK} {s : Shared} {H : Hp} {scope : Scope} {ce : Env} {fp : List Addr} {Pg : Program} {w : World} (hP : X.prog = Pg) (hw : X.w = w) : Passes (L2N.CX Pg w) (blkE X E s H scope ce fp) E := by
  subst hP hw
  intro pins σ Hc sc u s' I c
  obtain ⟨a, B, sI, H', cls, d, e, J, nb, up, fl, na, os, ag, hE⟩ := fly_of (X := X.blk s H scope ce fp) I.unwish c
  exact ⟨a, B, sI, pins, σ, H', cls, d, e, J, nb, up, fl, na, os, ag, hE⟩
theorem note_same {x : Value} {ce env : Env} (h : ce.frame = env.frame) : noteFrame x ce = noteFrame x env := by
  unfold noteFrame PySem.frameOf
  rw [h]
theorem ns_up {h h' : Heap} {a : Addr} {m : Str → Option Value} (n : h.Ns a m) (u : h.UpToSlots h') : h'.Ns a m := by
  obtain ⟨o, es, ep, ho, hd, r⟩ := n
  obtain ⟨sl, q⟩ := u a o ho (fun vs z => by rw [hd] at z; cases z)
  exact ⟨_, es, ep, q, hd, r⟩
theorem fun_at {base B h h' : Heap} (nn : ∀ b, base.get? b = none → B.get? b = none) : ∀ {l : List Env}, h.FunFrames base l → (∀ b ∈ frs l, h'.get? b = h.get? b) → h'.FunFrames B l
  | [], _, _ => trivial
  | e :: l, ⟨hk, ⟨L, o, hf, nb, ho, hd⟩, hr⟩, k => ⟨hk, ⟨L, o, hf, nn L nb, (k L (List.mem_filterMap.mpr ⟨e, List.mem_cons_self, hf⟩)).trans ho, hd⟩, fun_at nn hr fun b hb => k b (by
      obtain ⟨e2, m, q⟩ := List.mem_filterMap.mp hb
      exact List.mem_filterMap.mpr ⟨e2, List.mem_cons_of_mem _ m, q⟩)⟩
/-- the exception leaves the block: noted, the block's names let go, on in the def's frame -/
theorem leaves_block {X : Cx} {E : XK} {pins : List (Addr × Obj)} {σ : L2.St} {s : Shared} {H : Hp} {scope : Scope} {ce : Env} {fp : List Addr} {u : Value} {s' : Shared} {use : Option (Value → Sem Unit)} {Qf : Value → Shared → Prop} {acc : Value}
    (hs : X.stack = X.env :: X.outer) (hf : X.env.frame = some X.env.locals) (tk : L2N.Takes X (fun cls d _ H => E cls d H)) (I : Inv X pins σ H s) (hl : ce.locals = s.heap.objs.size) (hfr : ce.frame = X.env.frame)
    (hfp : ∀ b ∈ fp, FpOk X pins H b) (x : OutB X s H scope ce fp E u s') :
    notedBy (model X.prog X.w) X.A ce (fun e s'' => compEnds (model X.prog X.w) X.A X.xe use Qf acc ce (.error e) s'') u s' := by
  obtain ⟨a, B, sI, pb, σb, H', cls, d, rfl, J, nb, up, fl, na, os, ag, hE⟩ := x
  have frA : X.A.frames = some (X.env :: X.outer) := by rw [I.ok.frames, hs]
  show wpAny _ _ (noteFrame (.ref a) ce) _ _ _
  rw [note_same hfr]
  rw [hs] at fl
  refine PXN.looks_onZ L2N.Zn.steady frA hf fl fun h1 held up1 => ?_
  obtain ⟨m, nsI, _⟩ := J.loc
  have ns1 := ns_up (ns_up nsI up) up1
  have ends : CompFails (model X.prog X.w) X.A X.xe ce (.ref a) { s' with heap := h1 } := by
    refine ⟨m, ns1, fun h2 m2 ns2 same => ?_⟩
    obtain ⟨k1, k2, k3, oe, vs, T, oT, ts, he, hz, hd, hv, hnT, hTe, hT, hdT, h3⟩ := held
    have dict1 : ∃ o es ep, h1.get? ce.locals = some o ∧ o.data = .dict es ep := by
      obtain ⟨o, es, ep, ho, hdo, _⟩ := ns1
      exact ⟨o, es, ep, ho, hdo⟩
    obtain ⟨oc, es, ep, hoc, hdc⟩ := dict1
    have neA : a ≠ ce.locals := fun z => by
      rw [z, hoc] at he
      cases he
      rw [hd] at hdc
      cases hdc
    have neT : T ≠ ce.locals := fun z => by
      rw [z, hoc] at hT
      cases hT
      rw [hdT] at hdc
      cases hdc
    have neF : ∀ b ∈ frs X.stack, b ≠ ce.locals := fun b hb z => by
      obtain ⟨_, o, e, _⟩ := I.stack.mem hb
      have := Heap.lt_size e
      rw [z, hl] at this
      exact absurd this (Nat.lt_irrefl _)
    have hid : ∀ b o, (PySem.W.hideAll B [ce.locals]).get? b = some o → B.get? b = some o ∧ b ≠ ce.locals := fun b o e => by
      refine ⟨PySem.W.of_hideAll _ e, fun z => ?_⟩
      have q := PySem.W.of_hideAll _ e
      rw [PySem.W.hideAll_none _ (List.mem_singleton.mpr z)] at e
      cases e
    have none2 : ∀ b, B.get? b = none → (PySem.W.hideAll B [ce.locals]).get? b = none := fun b n => by
      cases q : (PySem.W.hideAll B [ce.locals]).get? b with
      | none => rfl
      | some o => rw [(hid b o q).1] at n; cases n
    have held2 : HandSPX.HeldZ (PySem.W.hideAll B [ce.locals]) (X.env :: X.outer) a (L2N.Zn cls d) X.env.locals h2 := by
      refine ⟨fun b o e => ?_, none2 a k2, ?_, oe, vs, T, oT, ts, (same.2 a neA).trans he, hz, hd, hv, none2 T hnT, hTe, (same.2 T neT).trans hT, hdT, h3⟩
      · obtain ⟨e1, n1⟩ := hid b o e
        exact (same.2 b n1).trans (k1 b o e1)
      · rw [← hs] at k3 ⊢
        exact fun_at none2 k3 fun b hb => same.2 b (neF b hb)
    -- the state of the def, without the block's names
    have un : Un (frs X.stack) fp H H' s.heap (PySem.W.hideAll sI.heap [ce.locals]) := by
      have at_ : ∀ b o, s.heap.get? b = some o → (PySem.W.hideAll sI.heap [ce.locals]).get? b = sI.heap.get? b := fun b o e => by
        have lt := Heap.lt_size e
        have nb : b ∉ [ce.locals] := fun z => by
          rw [List.mem_singleton.mp z, hl] at lt
          exact absurd lt (Nat.lt_irrefl _)
        cases q : sI.heap.get? b with
        | some o2 => exact PySem.W.hideAll_get _ q nb
        | none =>
          cases q2 : (PySem.W.hideAll sI.heap [ce.locals]).get? b with
          | none => rfl
          | some o2 => rw [PySem.W.of_hideAll _ q2] at q; cases q
      have bs : Un (frs X.stack) fp H H' s.heap sI.heap := J.base
      refine ⟨fun b o e n hb hx => (at_ b o e).trans (bs.keep b o e n hb hx), fun b o e n hb hx => ?_, bs.free, fun b o e hx => ?_, bs.tups, bs.frzs, bs.tbls⟩
      · obtain ⟨sl, q⟩ := bs.slot b o e n hb hx
        exact ⟨sl, (at_ b o e).trans q⟩
      · obtain ⟨o2, q⟩ := bs.there b o e hx
        exact ⟨o2, (at_ b o e).trans q⟩
    have cNone : H' ce.locals = none := J.free
    have hok2 : HOk X.prog X.w H' (PySem.W.hideAll sI.heap [ce.locals]) := fun b o q => (J.hok b o q).stay (fun c w hc r => PySem.W.hideAll_get _ r fun z => by
      rw [List.mem_singleton.mp z] at hc
      rcases hc with hc | hc
      · rw [← hc, cNone] at q; cases q
      · rw [cNone] at hc; cases hc) (fun _ r => r) fun _ _ r => r
    have I2 : Inv X pins σ H' { sI with heap := PySem.W.hideAll sI.heap [ce.locals] } := I.call' (ch := fp) J.os un hok2 J.bare fun b hb => ⟨(hfp b hb).2.2.2.1, (hfp b hb).2.1, (hfp b hb).2.2.2.2.1, (hfp b hb).2.2.2.2.2⟩
    have up2 : (PySem.W.hideAll sI.heap [ce.locals]).UpToSlots h2 := fun b o e hn => by
      have e1 := PySem.W.of_hideAll _ e
      have nb : b ≠ ce.locals := fun z => by
        rw [PySem.W.hideAll_none _ (List.mem_singleton.mpr z)] at e
        cases e
      obtain ⟨sl, q⟩ := (up.trans up1) b o e1 hn
      exact ⟨sl, (same.2 b nb).trans q⟩
    have nb2 : ∀ b o, (PySem.W.hideAll sI.heap [ce.locals]).get? b = some o → b ∉ frs X.stack → (PySem.W.hideAll B [ce.locals]).get? b = some o := fun b o e hb => by
      have e1 := PySem.W.of_hideAll _ e
      have nc : b ∉ [ce.locals] := fun z => by
        rw [PySem.W.hideAll_none _ z] at e
        cases e
      exact PySem.W.hideAll_get _ (nb b o e1 hb) nc
    obtain ⟨_, _, _, oe2, vs2, T2, _, _, he2, _, hd2, hv2, _⟩ := id held2
    unfold PySem.passOn
    refine wpAny_bind (wpAny_field he2 hd2 hv2 ?_)
    rw [if_neg (show ¬ ((Value.ref T2 == Value.none) = true) from by simp)]
    have fin : wpAny (model X.prog X.w) X.A (setFlight (.ref a) ce.frame) (fun _ s4 => wpAny (model X.prog X.w) X.A (throw (.ref a) : Sem Value) (fun _ _ => False) X.xe s4) X.xe { s' with heap := h2 } := by
      rw [hfr, hf]
      refine HandSPX.setFlight_onZ held2 fun h4 held4 up4 => wpAny_throw (tk _ _ ?_)
      exact ⟨a, _, _, pins, σ, H', cls, d, rfl, I2, nb2, up2.trans up4, .inr (.inr (by rw [hs]; exact held4)), na, os, ag, hE⟩
    first
      | exact wpAny_bind (wpAny_pure (wpAny_bind fin))
      | exact wpAny_bind fin
  cases use <;> exact ends
section
variable {X : Cx}
theorem core {E : XK} {pins : List (Addr × Obj)} {s : Shared} {σ : L2.St} {H : Hp} {Q : VK} {elt tg iter : Expr} {ifs : List Expr} {scope : Scope} {own : List (Str × Nat)} {pos pos' : Pos} {wi : TI} {g : TG} {tt : TT} {te : TE} {use : Option (Value → Sem Unit)} {Qf : Value → Shared → Prop}
    (hs : X.stack = X.env :: X.outer) (hf : X.env.frame = some X.env.locals) (tk : L2N.Takes X (fun cls d _ H => E cls d H)) (hc : X.calm = true) (hN : X.N.Nodup) (I : Inv X pins σ H s) (hi : PI X tg iter wi) (ok : BlkOk X.N X.env.scope scope own)
    (hg : ∀ (s : Shared) (H : Hp) (C : Addr) (cl : List (Str × Addr)) (fp : List Addr), PG (blkE X E s H scope (compEnvC scope cl C X.env) fp) tg g)
    (ht : ∀ (s : Shared) (H : Hp) (C : Addr) (cl : List (Str × Addr)) (fp : List Addr), PTs (blkE X E s H scope (compEnvC scope cl C X.env) fp) ifs tt)
    (he : ∀ (s : Shared) (H : Hp) (C : Addr) (cl : List (Str × Addr)) (fp : List Addr), PE (blkE X E s H scope (compEnvC scope cl C X.env) fp) elt te) (hset : ∀ x, foldedSetIterable iter X.env x = pure x)
    (h : tLc wi g tt te (own.map (·.2)) σ H Q)
    (done : ∀ N ce s' m H', Inv X pins σ H' s' → Q (.ref N) H' → s'.heap.Ns ce.locals m → FpOk X pins H' ce.locals → compEnds (model X.prog X.w) X.A X.xe use Qf (.ref N) ce (.ok .next) s') :
    wpAny (model X.prog X.w) X.A (comprehension (.ListComp elt [⟨tg, iter, ifs, 0⟩] scope pos) scope X.env pos' (newList []) false (eval iter X.env) use) Qf X.xe s := by
  have frees : ∀ y ∈ scope.names, y.2 = .free → ∃ c, X.env.cells.lookup y.1 = some c := fun y hy e => I.ok.has _ (ok.free y hy e)
  refine comprehension_at (use := use) rfl hset (closure_ok frees) ok.kind (fun y hy e => (ok.uniq y hy).trans (congrArg some e))
    (thn (hi.run pins s σ H _ I h) fun xv s1 hx => thn hx fun itv s2 h2 => ?_)
  obtain ⟨it, fp, tn, J, H2, rfl, I2, T, st2, f2, q⟩ := h2
  refine wpAny_newObj_type (newEnv_comp ?_) (by show 0 ≤ sizeLine; decide)
  generalize hD : s2.heap.objs.size = N
  have hDn : H2 N = none := I2.hok.fresh (Nat.le_of_eq hD)
  obtain ⟨W, ⟨m0, w0⟩, turn⟩ := q N hDn
  generalize hs3 : ({ s2 with heap := s2.heap.push { cls := .type "list", data := .seq ([] : List Value).toArray } } : Shared) = sN
  have h3 : sN.heap = s2.heap.push { cls := .type "list", data := .seq ([] : List Value).toArray } := by rw [← hs3]
  have IN : Inv X pins σ (upd H2 N (.lst [])) sN := by
    rw [← hs3]
    exact I2.laid (t' := s2.toks) (fun b o e => Heap.get?_push_of_some _ e) (Nat.le_of_eq hD) ⟨Nat.zero_le _, [], 0, .nil, by rw [← hD]; exact Heap.get?_push_size _ rfl⟩
  have fN : ∀ b ∈ fp, FpOk X pins (upd H2 N (.lst [])) b ∧ b < sN.heap.objs.size := fun b hb => by
    obtain ⟨o, e, _⟩ := T.obj _ _ st2 b hb
    have lt := Heap.lt_size e
    refine ⟨⟨?_, (f2 b hb).2⟩, by rw [h3, Heap.size_push]; exact Nat.lt_succ_of_lt lt⟩
    rw [upd_ne (by rw [← hD]; exact Nat.ne_of_lt lt)]
    exact (f2 b hb).1
  have stN : tn 0 sN.heap := T.keep _ _ _ st2 fun b _ o e => by rw [h3]; exact Heap.get?_push_of_some _ e
  have IB := block_start IN ok hN fN
  have pg := hg sN (upd H2 N (.lst [])) sN.heap.objs.size (cellsFrom (sN.heap.objs.size + 1) scope.names (cloFrom X.env.cells scope.names [])) fp
  have pt := ht sN (upd H2 N (.lst [])) sN.heap.objs.size (cellsFrom (sN.heap.objs.size + 1) scope.names (cloFrom X.env.cells scope.names [])) fp
  have pe := he sN (upd H2 N (.lst [])) sN.heap.objs.size (cellsFrom (sN.heap.objs.size + 1) scope.names (cloFrom X.env.cells scope.names [])) fp
  show codeAny _ _ (.compStart (.ListComp elt [⟨tg, iter, ifs, 0⟩] scope pos) 0 (.ref it) (.ref N) (compEnvC scope (cellsFrom (sN.heap.objs.size + 1) scope.names (cloFrom X.env.cells scope.names [])) sN.heap.objs.size X.env)) (compEnds (model X.prog X.w) X.A X.xe use Qf (.ref N) (compEnvC scope (cellsFrom (sN.heap.objs.size + 1) scope.names (cloFrom X.env.cells scope.names [])) sN.heap.objs.size X.env)) { sN with heap := pushCells (sN.heap.push { cls := .type "dict", data := .dict #[] }) scope.names }
  have nfp : ∀ b ∈ fp, (upd H2 N (.lst [])) b = none := fun b hb => (fN b hb).1.1
  generalize hce : compEnvC scope (cellsFrom (sN.heap.objs.size + 1) scope.names (cloFrom X.env.cells scope.names [])) sN.heap.objs.size X.env = ce at IB pg pt pe ⊢
  have cL : ce.locals = sN.heap.objs.size := by subst hce; rfl
  have cF : ce.frame = X.env.frame := by subst hce; rfl
  generalize hH3 : upd H2 N (.lst []) = HN at IN IB pg pt pe w0 nfp fN
  generalize hs4 : ({ sN with heap := pushCells (sN.heap.push { cls := .type "dict", data := .dict #[] }) scope.names } : Shared) = sB at IB ⊢
  have stB : tn 0 sB.heap := T.keep _ _ _ stN fun b _ o e => by rw [← hs4]; exact pushCells_keeps _ _ _ _ (Heap.get?_push_of_some _ e)
  have lv : ∀ {u : Value} {s' : Shared}, OutB X sN HN scope ce fp E u s' → notedBy (model X.prog X.w) X.A ce (fun e s'' => compEnds (model X.prog X.w) X.A X.xe use Qf (.ref N) ce (.error e) s'') u s' := fun x =>
    leaves_block hs hf tk IN cL cF (fun b hb => (fN b hb).1) x
  have stat : ∀ {σ' : L2.St} {H' : Hp} {s' : Shared}, Inv (X.blk sN HN scope ce fp) [] σ' H' s' → (∀ b ∈ fp, H' b = none) → ∀ b ∈ fp, FpOk (X.blk sN HN scope ce fp) [] H' b := fun I' hn b hb =>
    ⟨hn b hb, (I'.ok.exf b hb).1, I'.ok.exfs b hb, .inl hb, fun x c e => (I'.ok.exf b hb).2 x c e, fun p hp => absurd (show p ∈ ([] : List (Addr × Obj)) ++ [] from hp) (by simp)⟩
  have loop : codeAny (model X.prog X.w) X.A (.compLoop (.ListComp elt [⟨tg, iter, ifs, 0⟩] scope pos) 0 (.ref it) (.ref N) ce) (compEnds (model X.prog X.w) X.A X.xe use Qf (.ref N) ce) sB := by
    refine compLoop_any (fun n s' => ∃ i H', Inv (X.blk sN HN scope ce fp) [] (wipe σ (own.map (·.2))) H' s' ∧ tn i s'.heap ∧ (∀ b ∈ fp, H' b = none) ∧ W i n H') ?_ m0 ⟨0, HN, IB, stB, nfp, w0⟩
    rintro n s5 ⟨i, H5, I5, st5, n5, w5⟩
    rcases turn i n H5 w5 with ⟨stop, qq⟩ | ⟨go, Nx, hNx, step⟩
    · have td := T.done (X.blk sN HN scope ce fp) rfl rfl rfl hc i [] s5 _ H5 (fun _ _ => False) I5 (stat I5 n5) st5 stop
      refine thnF td fun r s6 ⟨hr, I6⟩ => ?_
      subst hr
      have I7 : Inv X pins σ H5 s6 := IN.call' (ch := fp) I6.os I6.base I6.hok I6.bare fun b hb => ⟨(fN b hb).1.2.2.2.1, (fN b hb).1.2.1, (fN b hb).1.2.2.2.2.1, (fN b hb).1.2.2.2.2.2⟩
      have nC : H5 ce.locals = none := I6.free
      obtain ⟨m, hn, _⟩ := I6.loc
      exact done N ce s6 m H5 I7 qq hn (IN.fpOk (Nat.le_of_eq cL.symm) nC)
    · have ti := T.item (X.blk sN HN scope ce fp) rfl rfl rfl hc i [] s5 _ H5 (fun _ _ => False) I5 (stat I5 n5) st5 go
      refine thnF ti fun r s6 ⟨u, hr, h6⟩ => ?_
      subst hr
      refine thnF h6 fun _ s7 ⟨x, H7, I7, r7, y7, st7, n7⟩ => ?_
      have I7' := I7.pinned (stat I7 n7) (T.obj _ _ st7)
      refine wpAny_mono (pg.run _ s7 _ H7 x u _ (I7'.wish _) r7 (step x H7 y7)) (fun _ s8 ⟨σ8, H8, I8, hw8, q8⟩ => ?_) fun _ _ x => lv x
      refine wpAny_mono (pt.run _ s8 σ8 H8 _ I8 q8) (fun b s9 ⟨H9, I9, q9⟩ => ?_) fun _ _ x => lv x
      have fin : ∀ {s' : Shared} {H' : Hp}, Inv (X.blk sN HN scope ce fp) ([] ++ pinsAt fp s7.heap) σ8 H' s' → Nx H' → ∃ m, m < n ∧ ∃ i H', Inv (X.blk sN HN scope ce fp) [] (wipe σ (own.map (·.2))) H' s' ∧ tn i s'.heap ∧ (∀ b ∈ fp, H' b = none) ∧ W i m H' := fun {s' H'} I' nx => by
        obtain ⟨m', hm, w'⟩ := hNx H' nx
        have pin' : ∀ b ∈ fp, ∀ o, s7.heap.get? b = some o → s'.heap.get? b = some o ∧ H' b = none := fun b hb o e => by
          have z := I'.pin (b, o) (List.mem_append_right _ (List.mem_append_right _ (mem_pinsAt hb e)))
          exact ⟨z.1, z.2.1⟩
        have hl : (wipe σ (own.map (·.2))).length = σ8.length := by rw [← hw8, wipe_length]
        refine ⟨m', hm, i + 1, H', (I'.unpinned (pins := [])).weak hl (fun j v e => ?_), T.keep _ _ _ st7 fun b hb o e => (pin' b hb o e).1, fun b hb => ?_, w'⟩
        · rw [← hw8] at e; exact (wipe_some e).1
        · obtain ⟨o, e, _⟩ := T.obj _ _ st7 b hb; exact (pin' b hb o e).2
      cases b with
      | false =>
        simp only [Bool.false_eq_true, if_false] at q9 ⊢
        exact fin I9.unwish q9
      | true =>
        simp only [if_true] at q9 ⊢
        refine wpAny_mono (pe.run _ s9 σ8 H9 _ I9 q9) (fun z s10 ⟨yv, H10, I10, r10, acc, hD10, hz10, nx⟩ => ?_) fun _ _ x => lv x
        exact app_ok (X := X.blk sN HN scope ce fp) I10.unwish hD10 hz10 r10 fun s11 I11 => fin I11 nx
  exact codeAny_compStart_list loop (T.self X.A 0 _ _ _ stB loop)
/-- as a value -/
theorem pe_lcX {E : XK} {elt tg iter : Expr} {ifs : List Expr} {scope : Scope} {own : List (Str × Nat)} {pos : Pos} {wi : TI} {g : TG} {tt : TT} {te : TE} (hs : X.stack = X.env :: X.outer) (hf : X.env.frame = some X.env.locals) (tk : L2N.Takes X (fun cls d _ H => E cls d H)) (hc : X.calm = true) (hN : X.N.Nodup) (hi : PI X tg iter wi) (ok : BlkOk X.N X.env.scope scope own)
    (hg : ∀ (s : Shared) (H : Hp) (C : Addr) (cl : List (Str × Addr)) (fp : List Addr), PG (blkE X E s H scope (compEnvC scope cl C X.env) fp) tg g)
    (ht : ∀ (s : Shared) (H : Hp) (C : Addr) (cl : List (Str × Addr)) (fp : List Addr), PTs (blkE X E s H scope (compEnvC scope cl C X.env) fp) ifs tt)
    (he : ∀ (s : Shared) (H : Hp) (C : Addr) (cl : List (Str × Addr)) (fp : List Addr), PE (blkE X E s H scope (compEnvC scope cl C X.env) fp) elt te) (hset : ∀ x, foldedSetIterable iter X.env x = pure x := by intro _; rfl) :
    PE X (.ListComp elt [⟨tg, iter, ifs, 0⟩] scope pos) (tLc wi g tt te (own.map (·.2))) := by
  refine ⟨fun pins s σ H Q I h => ?_⟩
  rw [eval_ListComp]
  refine core hs hf tk hc hN I hi ok hg ht he hset h fun N ce s' m H' I' q hn f => ⟨m, hn, fun h'' sb => ?_⟩
  obtain ⟨f0, f1, f2, f3, f4, f5⟩ := f
  exact ⟨.ref N, H', I'.turned (t' := s'.toks) (fun b o hb e => (sb.2 b hb).trans e) f0 f1 f3 f4 f5, rfl, q⟩
/-- given to a local on one row -/
theorem ps_setLcX {E : XK} {i : Nat} {y : Str} {py : Pos} {elt tg iter : Expr} {ifs : List Expr} {scope : Scope} {own : List (Str × Nat)} {pos spos : Pos} {wi : TI} {g : TG} {tt : TT} {te : TE} (hs : X.stack = X.env :: X.outer) (hf : X.env.frame = some X.env.locals) (tk : L2N.Takes X (fun cls d _ H => E cls d H)) (hc : X.calm = true) (hN : X.N.Nodup) (hy : X.N[i]? = some y) (hyl : X.env.scope.names.lookup y = some .local)
    (hsw : swapsWith (.ListComp elt [⟨tg, iter, ifs, 0⟩] scope pos) (some (.Name y py)) spos.line X.env = pure true) (hi : PI X tg iter wi) (ok : BlkOk X.N X.env.scope scope own)
    (hg : ∀ (s : Shared) (H : Hp) (C : Addr) (cl : List (Str × Addr)) (fp : List Addr), PG (blkE X E s H scope (compEnvC scope cl C X.env) fp) tg g)
    (ht : ∀ (s : Shared) (H : Hp) (C : Addr) (cl : List (Str × Addr)) (fp : List Addr), PTs (blkE X E s H scope (compEnvC scope cl C X.env) fp) ifs tt)
    (he : ∀ (s : Shared) (H : Hp) (C : Addr) (cl : List (Str × Addr)) (fp : List Addr), PE (blkE X E s H scope (compEnvC scope cl C X.env) fp) elt te) (hset : ∀ x, foldedSetIterable iter X.env x = pure x := by intro _; rfl) :
    PS X (.Assign [.Name y py] (.ListComp elt [⟨tg, iter, ifs, 0⟩] scope pos) spos) (tAsg (tLc wi g tt te (own.map (·.2))) (gName i)) := by
  refine ⟨fun pins s σ H D I h => ?_⟩
  rw [exec_Assign_Name_used _ _ _ _ hsw]
  refine wpAny_bind (wpAny_standAt (wpAny_bind ?_))
  have h' : tLc wi g tt te (own.map (·.2)) σ H (fun x H1 => gName i x σ H1 D.nx) := h
  refine wpAny_bind (thn (core (Qf := fun _ s' => SP X pins D .next s') hs hf tk hc hN I hi ok hg ht he hset h' fun N ce s' m H' I' q hn f => ?_) fun _ s' hq => wpAny_pure (wpAny_pure hq))
  show wpAny _ _ (assign (.Name y py) X.env (.ref N)) _ _ _
  obtain ⟨f0, f1, f2, f3, f4, f5⟩ := f
  refine wpAny_assign_Name (store_ok2 (v := V.ref N) I' hN hy (.inl hyl) rfl (fun s2 I2 ⟨a, sb, ha⟩ => ?_) (.inr hyl))
  have apart : ce.locals ≠ a := by
    rcases ha with z | z
    · rw [z]; exact f1
    · exact fun e => f4 y a z e.symm
  refine ⟨m, hn.sameBut sb apart, fun h3 sb3 => ⟨_, H', ?_, q⟩⟩
  exact I2.turned (t' := s2.toks) (fun b o hb e => (sb3.2 b hb).trans e) f0 f1 f3 f4 f5
end
end CpN

set_option Elab.async false
set_option linter.all false
set_option maxRecDepth 100000
set_option maxHeartbeats 1000000
namespace W
open PySem PySem.Spec PyProof.Rows L2 GxR MyG MyS SqX
/-- one of the roads that are given: of six parts, or of another number -/
abbrev RoadI := RoadG ⊕ Nat
def GItem (K : PySem.W.Frag) (H : Hp) (i : RoadI) (v : V) : Prop := match i with
  | .inl r => GRoadX K H r v
  | .inr n => ∃ t xs, v = .ref t ∧ SqT K H t xs ∧ xs.length = n ∧ n ≠ 6
theorem GItem.grew {K : PySem.W.Frag} {P : Addr} {H H' : Hp} {i : RoadI} {v : V} (g : Grew P H H') (hP : TabG H P) (h : GItem K H i v) : GItem K H' i v := by
  cases i with
  | inl r => exact GRoadX.grew g hP h
  | inr n =>
    obtain ⟨t, xs, a, b, c, d⟩ := h
    exact ⟨t, xs, a, g.sqT hP b, c, d⟩
def itemG (r : RoadD) : RoadI := .inl (rG r)
def RoadsGOk (d : Int) (ps ks : List Str) (gs : List RoadI) : Prop := ∃ rs, gs = rs.map itemG ∧ RoadsOk d ps ks rs
def spRoadsX (K : PySem.W.Frag) (C P : Addr) : Sp := fun vs H Q E => ∃ (a pl ki : Addr) (c : Bool) (d : Int) (ps ks : List Str) (gs : List RoadI) (xs : List V), vs = [.ref a, .int d, .ref pl, .ref ki] ∧ SqK c K H a xs ∧ Paired (GItem K H) gs xs ∧ (∀ r, Sum.inl r ∈ gs → SmallG r) ∧ gs.length ≤ 1000 ∧ SqT K H pl (ps.map V.str) ∧ SqT K H ki (ks.map V.str) ∧ ks.length ≤ 4 ∧ TabG H P ∧
  (∀ rs, gs = rs.map itemG → RoadsOk d ps ks rs → ∀ H' p rs' ys, Grew P H H' → KeptAll rs rs' → AscR rs' → H p = none → H' p = some (.tup ys) → Paired (RoadAt K H') rs' ys → Q (.ref p) H') ∧ (¬ RoadsGOk d ps ks gs → BadM C P H E)
theorem rG_inj {a b : RoadD} (h : rG a = rG b) : a = b := by
  obtain ⟨a1, a2, a3, a4, a5, a6⟩ := a
  obtain ⟨b1, b2, b3, b4, b5, b6⟩ := b
  unfold rG at h
  injection h with h1 h2 h3 h4 h5 h6
  have e : a6 = b6 := by
    have inj : ∀ x y : Int × Int, [x.1, x.2] = [y.1, y.2] → x = y := fun x y h => Prod.ext (List.cons.inj h).1 (List.cons.inj (List.cons.inj h).2).1
    cases a6 with
    | none => cases b6 with
      | none => rfl
      | some _ => cases h6
    | some x => cases b6 with
      | none => cases h6
      | some y => exact congrArg some (List.map_inj_right inj |>.mp (Option.some.inj h6))
  simp only at h1 h2 h3 h4 h5
  rw [h1, h2, h3, h4, h5, e]
theorem all_inl : ∀ {gs : List RoadI}, (∀ i ∈ gs, ∃ r, i = Sum.inl r) → ∃ gg : List RoadG, gs = gg.map Sum.inl
  | [], _ => ⟨[], rfl⟩
  | i :: gs, h => by
    obtain ⟨r, e⟩ := h i List.mem_cons_self
    obtain ⟨gg, e2⟩ := all_inl (gs := gs) fun x hx => h x (List.mem_cons_of_mem _ hx)
    exact ⟨r :: gg, by rw [e, e2]; rfl⟩
theorem paired_inl {K : PySem.W.Frag} {H : Hp} : ∀ {gg : List RoadG} {xs : List V}, Paired (GItem K H) (gg.map Sum.inl) xs → Paired (GRoadX K H) gg xs
  | [], _, h => by cases h; exact .nil
  | r :: gg, _, h => by
    cases h with
    | cons a b => exact .cons a (paired_inl b)
section
variable {Pg : Program} {w : World} {K : PySem.W.Frag} {mg : Str → Option Value} {base : Heap} {C P : Addr}
end
end W

set_option Elab.async false
set_option linter.all false
set_option maxRecDepth 100000
set_option maxHeartbeats 1000000
namespace W
open PySem PySem.Spec PyProof.Rows L2 GxR MyG MyS SqX
theorem uniqN : ∀ {rs : List RoadD} {r r' : RoadD}, (rs.map (·.name)).Nodup → r ∈ rs → r' ∈ rs → r.name = r'.name → r = r'
  | a :: rs, r, r', nd, h, h', e => by
    rw [List.map_cons, List.nodup_cons] at nd
    rcases List.mem_cons.mp h with h | h <;> rcases List.mem_cons.mp h' with h' | h'
    · rw [h, h']
    · rw [h] at e; exact absurd (List.mem_map.mpr ⟨r', h', e.symm⟩) nd.1
    · rw [h'] at e; exact absurd (List.mem_map.mpr ⟨r, h, e⟩) nd.1
    · exact uniqN nd.2 h h' e
def p2 (b : Str × Str) : List Str := [b.1, b.2]
theorem p2_inj : ∀ x y : Str × Str, p2 x = p2 y → x = y := fun x y h => Prod.ext (List.cons.inj h).1 (List.cons.inj (List.cons.inj h).2).1
/-- unpacking of a tuple or of a list -/
def gAny (K : PySem.W.Frag) (n : Nat) (t : TGs) : TG := fun v σ H Q => ∃ a xs, v = .ref a ∧ (SqL K H a xs ∨ SqT K H a xs) ∧ xs.length = n ∧ t xs σ H Q
theorem pg_any {X : Cx} {pos : Pos} {es : List Expr} {k : Nat} {t : TGs} {n : Nat} (hc : X.calm = true) (h : PGs X es t)
    (hn : (assignEach es X.env).length = n := by rfl) (hst : (assignEach es X.env).findIdx? (·.1) = none := by rfl) : PG X (.Tuple es k pos) (gAny X.K n t) := by
  refine ⟨fun pins s σ H v u Q I r hw => ?_⟩
  obtain ⟨a, xs, e1, hq | hq, hl, hw⟩ := hw
  · exact (pg_lst hc h hn hst).run pins s σ H v u Q I r ⟨a, xs, e1, hq, hl, hw⟩
  · exact (pg_tup hc h hn hst).run pins s σ H v u Q I r ⟨a, xs, e1, hq, hl, hw⟩
/-- a bar as it is given: a tuple or a list -/
def GBarX (H : Hp) (b : List Str) (v : V) : Prop := ∃ t, v = .ref t ∧ (H t = some (.lst (b.map V.str)) ∨ H t = some (.tup (b.map V.str)))
theorem GBarX.grew {P : Addr} {H H' : Hp} {b : List Str} {v : V} (g : Grew P H H') (h : TabG H P) (m : GBarX H b v) : GBarX H' b v := let ⟨t, e, q⟩ := m; ⟨t, e, q.imp (g.lst h) (g.tup h)⟩
theorem paired_p2 {H : Hp} : ∀ {bs : List (Str × Str)} {xs : List V}, Paired (GBarX H) (bs.map p2) xs → Paired (fun b v => GBarX H (p2 b) v) bs xs
  | [], _, h => by cases h; exact .nil
  | b :: bs, _, h => by
    cases h with
    | cons a r => exact .cons a (paired_p2 r)
def BarsGOk (rs : List RoadD) (gs : List (List Str)) : Prop := ∃ bs, gs = bs.map p2 ∧ BarsOk rs bs
def spBarsX (K : PySem.W.Frag) (C P : Addr) : Sp := fun vs H Q E => ∃ (a d : Addr) (c : Bool) (rs : List RoadD) (gs : List (List Str)) (xs : List V), vs = [.ref a, .ref d] ∧ SqK c K H a xs ∧ Paired (GBarX H) gs xs ∧ gs.length ≤ 1000 ∧ (∀ b ∈ gs, ∀ z ∈ b, z.length ≤ 1000) ∧ DictR K H d rs ∧ (rs.map (·.name)).Nodup ∧ TabG H P ∧
  (∀ bs, gs = bs.map p2 → BarsOk rs bs → ∀ H' p bs' ys, Grew P H H' → bs'.Perm bs → AscB bs' → H p = none → H' p = some (.tup ys) → Paired (GBar H') bs' ys → Q (.ref p) H') ∧ (¬ BarsGOk rs gs → BadM C P H E)
theorem nodup_p2 {bs : List (Str × Str)} : (bs.map fun b => [b.1, b.2]).Nodup ↔ bs.Nodup :=
  ⟨fun h => (List.pairwise_map.mp h).imp fun {a b} ne e => ne (by rw [e]), nodup_bars⟩
section
variable {Pg : Program} {w : World} {K : PySem.W.Frag} {mg : Str → Option Value} {base : Heap} {C P : Addr}
end
end W

set_option Elab.async false
set_option linter.all false
set_option maxRecDepth 100000
set_option maxHeartbeats 1000000
namespace W
open PySem PySem.Spec PyProof.Rows L2 GxR MyG MyS SqX
/-! ### Map.__init__ of whatever is given -/
structure GivenSm (d : Int) (ks ps : List Str) (gs : List RoadI) (bg : List (List Str)) : Prop where
  d : d.natAbs < 10 ^ 12
  kl : ks.length ≤ 1000
  k : ∀ z ∈ ks, z.length ≤ 1000
  pl : ps.length ≤ 1000
  p : ∀ z ∈ ps, z.length ≤ 1000
  rl : gs.length ≤ 1000
  r : ∀ r, Sum.inl r ∈ gs → SmallG r
  bl : bg.length ≤ 1000
  b : ∀ b ∈ bg, ∀ z ∈ b, z.length ≤ 1000
def GivenOk (d : Int) (ks ps : List Str) (gs : List RoadI) (bg : List (List Str)) : Prop := ∃ rs bs, gs = rs.map itemG ∧ bg = bs.map p2 ∧ PartsOk d ks ps rs bs
theorem BarsOk.keptR {rs rs' : List RoadD} {bs : List (Str × Str)} (h : BarsOk rs' bs) (k : KeptAll rs rs') : BarsOk rs bs := by
  obtain ⟨a, b, c⟩ := h
  obtain ⟨l, pm, pr⟩ := k
  have f : ∀ r' ∈ rs', ∃ r ∈ rs, r.name = r'.name ∧ r.start = r'.start ∧ r.goal = r'.goal := fun r' hr' => by
    obtain ⟨r, hr, q⟩ := Paired.mem pr (pm.mem_iff.mpr hr')
    exact ⟨r, hr, q.1.symm, q.2.1.symm, q.2.2.1.symm⟩
  refine ⟨a, b, fun z hz => ?_⟩
  obtain ⟨r1, h1, r2, h2, e1, e2, e3⟩ := c z hz
  obtain ⟨s1, m1, n1, _, g1⟩ := f r1 h1
  obtain ⟨s2, m2, n2, g2, _⟩ := f r2 h2
  exact ⟨s1, m1, s2, m2, by rw [n1]; exact e1, by rw [n2]; exact e2, by rw [g1, g2]; exact e3⟩
def spInitX (K : PySem.W.Frag) (M C P : Addr) : Sp := fun vs H Q E => ∃ (x dx ki pl ro ba : Addr) (ck cp cr cb : Bool) (d : Int) (ks ps : List Str) (gs : List RoadI) (bg : List (List Str)) (xs zs : List V) (H0 : Hp), vs = [.ref x, .int d, .ref ki, .ref pl, .ref ro, .ref ba] ∧
  Grew P H0 H ∧ TabG H0 P ∧ H0 x = none ∧ H x = some (.ins M dx []) ∧ SqK ck K H0 ki (ks.map V.str) ∧ SqK cp K H0 pl (ps.map V.str) ∧ SqK cr K H0 ro xs ∧ Paired (GItem K H0) gs xs ∧ SqK cb K H0 ba zs ∧ Paired (GBarX H0) bg zs ∧ GivenSm d ks ps gs bg ∧
  (∀ rs bs, gs = rs.map itemG → bg = bs.map p2 → PartsOk d ks ps rs bs → ∀ H' ks' ps' rs' bs', Grew P H0 H' → ks'.Perm ks → Asc ks' → ps'.Perm ps → Asc ps' → KeptAll rs rs' → AscR rs' → bs'.Perm bs → AscB bs' → MapAt K H' M x d ks' ps' rs' bs' → Q .non H') ∧
  (¬ GivenOk d ks ps gs bg → BadM C P H0 E)
section
variable {Pg : Program} {w : World} {K : PySem.W.Frag} {mg : Str → Option Value} {base : Heap} {C P : Addr}
end
end W

set_option Elab.async false
set_option linter.all false
set_option maxRecDepth 100000
set_option maxHeartbeats 400000
namespace W
open PySem PySem.Spec PyProof.Rows L2 GxR MyG MyS
abbrev sLNames : Stmt := top 14
abbrev sLRoadG : Stmt := top 16
abbrev sLHours : Stmt := top 15
abbrev sLBarsG : Stmt := top 17
abbrev sLPartsG : Stmt := top 18
def zGood : Str := "abcdefghijklmnopqrstuvwxyz0123456789"
theorem str_len (z : Str) : z.length = z.cps.toList.length := by simp [Str.length]
/-! ### drawn names -/
/-- of the signs of names alone -/
def Gd (z : Str) : Prop := ∀ c ∈ z.cps.toList, goodC c = true
theorem good_all : ∀ c ∈ zGood.cps.toList, goodC c = true := by decide +kernel
theorem good_len : zGood.cps.toList.length = 36 := by decide +kernel
theorem good_nodup : zGood.cps.toList.Nodup := by decide +kernel
theorem good_let : ∀ c ∈ zGood.cps.toList.take 26, c ∈ zLet.cps.toList := by decide +kernel
theorem Gd.one {c : Nat} (h : c ∈ zGood.cps.toList) : Gd ⟨#[c]⟩ := fun x hx => by
  have e : x = c := by simpa using hx
  rw [e]; exact good_all c h
theorem app_cps (a b : Str) : (a ++ b).cps.toList = a.cps.toList ++ b.cps.toList := by
  show (a.cps ++ b.cps).toList = _
  exact Array.toList_append
theorem Gd.app {a b : Str} (h : Gd a) (k : Gd b) : Gd (a ++ b) := fun c hc => by
  rw [app_cps] at hc
  rcases List.mem_append.mp hc with hc | hc
  · exact h c hc
  · exact k c hc
theorem cutS_sub {z : Str} {lo hi : Option Int} {c : Nat} (h : c ∈ (cutS z lo hi).cps.toList) : c ∈ z.cps.toList := by
  unfold cutS at h
  have h2 : c ∈ (z.cps.toList.drop (HT.sIx z.length 0 lo)).take (HT.sIx z.length z.length hi - HT.sIx z.length 0 lo) := by simpa using h
  exact List.mem_of_mem_drop (List.mem_of_mem_take h2)
theorem Gd.cut {z : Str} (h : Gd z) (lo hi : Option Int) : Gd (cutS z lo hi) := fun c hc => h c (cutS_sub hc)
theorem fold_mem {sep : Str} {c : Nat} : ∀ (rest : List Str) (acc : Array Nat), c ∈ (rest.foldl (fun acc p => acc ++ sep.cps ++ p.cps) acc).toList → c ∈ acc.toList ∨ c ∈ sep.cps.toList ∨ ∃ p ∈ rest, c ∈ p.cps.toList
  | [], _, h => .inl h
  | p :: rest, acc, h => by
    rcases fold_mem rest _ h with h | h | ⟨q, hq, h⟩
    · rw [Array.toList_append, Array.toList_append] at h
      rcases List.mem_append.mp h with h | h
      · rcases List.mem_append.mp h with h | h
        · exact .inl h
        · exact .inr (.inl h)
      · exact .inr (.inr ⟨p, List.mem_cons_self, h⟩)
    · exact .inr (.inl h)
    · exact .inr (.inr ⟨q, List.mem_cons_of_mem _ hq, h⟩)
theorem Gd.join {ys : List Str} (h : ∀ y ∈ ys, Gd y) : Gd (Txt.join (Str.ofString "") ys) := fun c hc => by
  have hc2 : c ∈ ((ys.drop 1).foldl (fun acc p => acc ++ (Str.ofString "").cps ++ p.cps) (ys.headD Str.empty).cps).toList := hc
  rcases fold_mem _ _ hc2 with q | q | ⟨p, hp, q⟩
  · cases ys with
    | nil =>
      have e : (([] : List Str).headD Str.empty).cps.toList = [] := by decide +kernel
      rw [e] at q
      cases q
    | cons y ys => exact h y List.mem_cons_self c q
  · have e : (Str.ofString "").cps.toList = [] := by decide +kernel
    rw [e] at q
    cases q
  · exact h p (List.mem_of_mem_drop hp) c q
theorem join_len (ys : List Str) : (Txt.join (Str.ofString "") ys).length = (ys.map (·.length)).sum := by
  have e := size_glued (Str.ofString "") ys
  have e0 : (Str.ofString "").length = 0 := by decide +kernel
  rw [e0, Nat.mul_zero, Nat.add_zero] at e
  exact e
theorem cut_pre {z : Str} {k : Nat} (h : k ≤ z.length) : (cutS z none (some (k : Int))).cps.toList = z.cps.toList.take k := by
  unfold cutS
  rw [HT.sIx_none, HT.sIx_nat, List.drop_zero, Nat.sub_zero, Nat.min_eq_left h]
theorem cut_suf {z : Str} {k : Nat} (h : k ≤ z.length) : (cutS z (some (k : Int)) none).cps.toList = z.cps.toList.drop k := by
  unfold cutS
  rw [HT.sIx_none, HT.sIx_nat, Nat.min_eq_left h]
  show (z.cps.toList.drop k).take (z.length - k) = z.cps.toList.drop k
  refine List.take_of_length_le ?_
  rw [List.length_drop, str_len]
  exact Nat.le_refl _
theorem at_some {α : Type} {l : List α} {i : Int} (h0 : 0 ≤ i) (h1 : i < l.length) : ∃ c, atI l i = some c ∧ l[i.toNat]? = some c := by
  obtain ⟨n, rfl⟩ := Int.eq_ofNat_of_zero_le h0
  have hn : n < l.length := by omega
  exact ⟨l[n], atI_nat (List.getElem?_eq_getElem hn), List.getElem?_eq_getElem hn⟩
/-- a drawn name: the letter, a part, a sign, the rest -/
def nameOf (c : Nat) (z : Str) (k : Nat) (e : Nat) : Str := (((⟨#[c]⟩ : Str) ++ cutS z none (some (k : Int))) ++ (⟨#[e]⟩ : Str)) ++ cutS z (some (k : Int)) none
theorem nameOf_cps {c : Nat} {z : Str} {k e : Nat} (h : k ≤ z.length) : (nameOf c z k e).cps.toList = c :: (z.cps.toList.take k ++ e :: z.cps.toList.drop k) := by
  unfold nameOf
  rw [app_cps, app_cps, app_cps, cut_pre h, cut_suf h]
  simp
theorem nameOf_ok {c : Nat} {z : Str} {k e : Nat} (h : k ≤ z.length) (h10 : z.length ≤ 10) (hz : Gd z) (hc : c ∈ zLet.cps.toList) (he : e ∈ zGood.cps.toList) : isNm (nameOf c z k e) = true := by
  have q := nameOf_cps (c := c) (e := e) h
  have hl : (nameOf c z k e).length = z.length + 2 := by
    rw [str_len, q, List.length_cons, List.length_append, List.length_take, List.length_cons, List.length_drop, ← str_len]
    omega
  unfold isNm
  rw [q]
  simp only [Bool.and_eq_true, decide_eq_true_eq]
  refine ⟨⟨⟨by omega, by omega⟩, hc⟩, List.all_eq_true.mpr fun x hx => ?_⟩
  rcases List.mem_cons.mp hx with e1 | hx
  · subst e1
    unfold goodC
    rw [decide_eq_true hc]; rfl
  · rcases List.mem_append.mp hx with hx | hx
    · exact hz x (List.mem_of_mem_take hx)
    · rcases List.mem_cons.mp hx with e2 | hx
      · subst e2; exact good_all _ he
      · exact hz x (List.mem_of_mem_drop hx)
end W

set_option Elab.async false
set_option linter.all false
set_option maxRecDepth 100000
set_option maxHeartbeats 400000
namespace W
open PySem PySem.Spec PyProof.Rows L2 GxR MyG MyS
theorem heads_nodup (n : Int) {m : Nat} (hm : m ≤ 9) : ((List.range m).map fun (j : Nat) => zGood.cps.toList[((n + 3 * (j : Int)) % 26).toNat]?).Nodup := by
  refine List.pairwise_map.mpr (List.pairwise_iff_getElem.mpr fun a b ha hb hab e => ?_)
  rw [List.length_range] at ha hb
  rw [List.getElem_range, List.getElem_range] at e
  have h1 : ((n + 3 * (a : Int)) % 26).toNat < zGood.cps.toList.length := by rw [good_len]; omega
  have q := (List.getElem?_inj h1 good_nodup).mp e
  omega
/-- the first signs differ -/
def heads (ns : List Str) : List (Option Nat) := ns.map fun z => z.cps.toList.head?
def spLNames (P : Addr) : Sp := fun vs H Q _ => ∃ (n : Int) (m : Nat), vs = [.int n, .int m] ∧ 0 ≤ n ∧ m ≤ 9 ∧ TabG H P ∧ ∀ H' p (ns : List Str), Grew P H H' → H p = none → H' p = some (.lst (ns.map V.str)) → ns.length = m → ns.all isNm = true → ns.Nodup → Q (.ref p) H'
abbrev nLNames : List Str := ["number", "many", "letters", "size", "k", "rest", "place", "names", "own", "spot", "step"]
def rInt1 : List V → Hp → VK → Prop := fun xs H Q => (∃ i, xs = [.int i] ∧ Q (.int i) H) ∨ ∃ k, xs = [.bl k] ∧ Q (.int (if k then 1 else 0)) H
section
variable {Pg : Program} {w : World} {K : PySem.W.Frag} {mg : Str → Option Value} {base : Heap} {C P : Addr}
theorem scLNames : FnScope nLNames ["number", "many"] (defScope sLNames) := ⟨rfl, rfl, rfl, by decide +kernel, rfl, by decide +kernel, by decide +kernel⟩
theorem ok_lnames {f : Addr} {fd : FuncData} (F : Fun K "_law_names" "_law_names" sLNames f fd) (hi : mg "int" = none) (hr' : mg "range" = none) (hl : mg "len" = none) (hm : mg "min" = none) : FnOk Pg w K mg base CX0 1 f fd ["number", "many"] (spLNames P) := by
  refine F.ok scLNames (fun vs H Q E h => ?_) (fun cdv A outer s H vs Q E hr h => ?_)
  · obtain ⟨n, m, rfl, _⟩ := h
    rfl
  · obtain ⟨n, m, rfl, hn, hm9, hP, k⟩ := h
    refine ⟨_, pss_cons (ps_set (i := 2) scLNames.nd rfl (Or.inr rfl) pe_str)
      (pss_cons (ps_set (i := 3) scLNames.nd rfl (Or.inl rfl) (pe_op op_mod (pe_callTy call_int1 (by rfl) hi (by decide +kernel) (pa_cons (pv 0) pa_nil)) pe_int))
      (pss_cons (ps_set (i := 5) scLNames.nd rfl (Or.inl rfl) (pe_join pe_str (pe_lc (own := [("k", 4)]) (g := gName 4) (tt := tYes) rfl scLNames.nd (pi_range1 rfl hr' (pa_cons (pv 3) pa_nil)) (blkOk_by (N := nLNames) (sc := defScope sLNames) (by decide +kernel)) (fun _ _ _ _ _ => pg_name (i := 4) scLNames.nd rfl (Or.inl rfl)) (fun _ _ _ _ _ => pts_nil)
          (fun _ _ _ _ _ => pe_ix (r := rIxS) ix_str (pv 2) (pe_op op_mod (pe_callTy (r := rInt1) call_int1 (by rfl) hi (by decide +kernel) (pa_cons (pe_op op_add (pv 0) (pe_op op_mul (pe_op op_mul pe_int (pv 4)) (pv 4))) pa_nil)) pe_int) (fun _ _ => rfl)))))
      (pss_cons (ps_set (i := 6) scLNames.nd rfl (Or.inl rfl) (pe_op op_mod (pe_op op_fdiv (pv 0) pe_int) (pe_op op_add (pv 3) pe_int)))
      (pss_cons (ps_set (i := 7) scLNames.nd rfl (Or.inl rfl) (pe_lst pa_nil))
      (pss_cons (ps_for PassesOwn.never rfl (pi_range1 rfl hr' (pa_cons (pv 1) pa_nil)) (pg_name (i := 4) scLNames.nd rfl (Or.inl rfl))
        (pss_cons (ps_set (i := 8) scLNames.nd rfl (Or.inl rfl) (pv 5))
        (C8.pss_cut (ps_if (pt_cmpR op_eq (pe_op op_mod (pe_callTy call_int1 (by rfl) hi (by decide +kernel) (pa_cons (pe_op op_add (pe_op op_fdiv (pv 0) pe_int) (pv 4)) pa_nil)) pe_int) pe_int (nomark _))
          (pss_one (ps_set (i := 8) scLNames.nd rfl (Or.inl rfl) (pe_slice sl_str (pv 5) (po_some pe_int) po_none))) pss_nil)
        (pss_cons (ps_set (i := 9) scLNames.nd rfl (Or.inl rfl) (pe_callB (call_min2 rfl) (by rfl) hm (by decide +kernel) (pa_cons (pv 6) (pa_cons (pe_callB call_len_str (by rfl) hl PySem.boot_len (pa_cons (pv 8) pa_nil)) pa_nil))))
        (pss_cons (ps_set (i := 10) scLNames.nd rfl (Or.inl rfl) pe_int)
        (C8.pss_cut (ps_if (pt_cmpR op_eq (pe_op op_mod (pe_op op_fdiv (pv 0) pe_int) pe_int) pe_int (nomark _))
          (pss_one (ps_set (i := 10) scLNames.nd rfl (Or.inl rfl) pe_int)) pss_nil)
        (pss_one (ps_expr (pe_bm PySem.F.plainAttrs_list PySem.F.slot_list_append PySem.F.type_list_append mt_append (pv 7) (pa_cons
          (pe_op op_add_str (pe_op op_add_str (pe_op op_add_str (pe_ix ix_str (pv 2) (pe_op op_mod (pe_callTy call_int1 (by rfl) hi (by decide +kernel) (pa_cons (pe_op op_add (pv 0) (pe_op op_mul pe_int (pv 4))) pa_nil)) pe_int) (fun _ _ => rfl)) (pe_slice sl_str (pv 8) po_none (po_some (pv 9)))) (pe_ix ix_str (pv 2) (pe_op op_mod (pe_callTy call_int1 (by rfl) hi (by decide +kernel) (pa_cons (pe_op op_add (pv 0) (pe_op op_mul (pv 10) (pv 4))) pa_nil)) pe_int) (fun _ _ => rfl))) (pe_slice sl_str (pv 8) (po_some (pv 9)) po_none)) pa_nil))))))))))
      (pss_one (ps_ret (pv 7)))))))), ?_⟩
    have sG : zGood.length ≤ sizeLine := by rw [str_len, good_len, sizeLine_eq]; decide
    refine ⟨_, rfl, .inl ⟨_, rfl, _, _, rfl, rfl, (show (0 : Int) < 11 by decide), ?_⟩⟩
    have hsz : 0 ≤ n % 11 ∧ n % 11 < 11 := by omega
    refine ⟨⟨_, rfl⟩, _, rfl, n % 11, rfl, by omega, by omega, fun D nD => lc_range (n := (n % 11).toNat) (fun i H1 => Grew P H H1 ∧ ∃ ys : List Str, H1 D = some (.lst (ys.map V.str)) ∧ ys.length = i ∧ ∀ y ∈ ys, Gd y ∧ y.length = 1)
      ⟨Grew.new hP nD, [], upd_same, rfl, fun y hy => by cases hy⟩ (fun i H1 hi p => ?_) (fun H1 p => ?_)⟩
    · obtain ⟨g, ys, hD, hl1, hy⟩ := p
      have hb : 0 ≤ (n + 7 * (0 + (i : Int)) * (0 + (i : Int))) % 36 ∧ (n + 7 * (0 + (i : Int)) * (0 + (i : Int))) % 36 < 36 := by omega
      obtain ⟨c, ec, ec2⟩ := at_some (l := zGood.cps.toList) hb.1 (by rw [good_len]; exact hb.2)
      refine ⟨rfl, _, rfl, _, rfl, _, rfl, _, _, rfl, rfl, .inl ⟨by decide, by decide⟩, _, rfl, _, _, rfl, rfl, .inr ⟨by omega, by omega⟩, _, _, rfl, rfl, .inl ⟨_, rfl, _, _, rfl, rfl, (show (0 : Int) < 36 by decide), _, _, c, rfl, rfl, sG, ec, _, hD, ?_, g.write hD (fun _ z => by cases z) nD, ys ++ [⟨#[c]⟩], ?_, ?_, ?_⟩⟩
      · rw [List.length_map, hl1, sizeLine_eq]; omega
      · rw [upd_same, List.map_append]; rfl
      · rw [List.length_append, hl1]; rfl
      · intro y hy2
        rcases List.mem_append.mp hy2 with hy2 | hy2
        · exact hy y hy2
        · rw [List.mem_singleton.mp hy2]
          exact ⟨Gd.one (List.mem_of_getElem? ec2), rfl⟩
    · obtain ⟨g, ys, hD, hl1, hy⟩ := p
      have hsum : ∀ ys : List Str, (∀ y ∈ ys, y.length = 1) → (ys.map (·.length)).sum = ys.length := by
        intro ys
        induction ys with
        | nil => intro _; rfl
        | cons y ys ih =>
          intro h
          rw [List.map_cons, List.sum_cons, ih fun z hz => h z (List.mem_cons_of_mem _ hz), h y List.mem_cons_self, List.length_cons]
          omega
      have hs1 := hsum ys fun y h => (hy y h).2
      have e0 : (Str.ofString "").length = 0 := by decide +kernel
      refine ⟨_, D, ys, rfl, rfl, .inl (SqL.of hD), by rw [hs1, e0]; omega, ?_⟩
      have hjl := join_len ys
      have hjg := Gd.join fun y h => (hy y h).1
      rw [hs1] at hjl
      generalize Txt.join (Str.ofString "") ys = rest at hjl hjg ⊢
      have hr10 : rest.length ≤ 10 := by omega
      refine ⟨_, rfl, _, _, rfl, rfl, ⟨by decide, by decide⟩, _, rfl, _, _, rfl, rfl, _, _, rfl, rfl, (show (0 : Int) < n % 11 + 1 by omega), ?_⟩
      have hpl : 0 ≤ n / 11 % (n % 11 + 1) := Int.emod_nonneg _ (by omega)
      refine ⟨Nat.zero_le _, fun p np => ?_⟩
      refine ⟨_, rfl, m, rfl, by omega, by omega, for_range (n := m) (fun i σ H' => ∃ kv ov sv tv, ∃ ns : List Str, σ = [some (.int n), some (.int m), some (.str zGood), some (.int (n % 11)), kv, some (.str rest), some (.int (n / 11 % (n % 11 + 1))), some (.ref p), ov, sv, tv] ∧ Grew P H H' ∧ H' p = some (.lst (ns.map V.str)) ∧ ns.length = i ∧ ns.all isNm = true ∧
          heads ns = (List.range i).map fun (j : Nat) => zGood.cps.toList[((n + 3 * (j : Int)) % 26).toNat]?)
        ⟨none, none, none, none, [], rfl, g.put np, upd_same, rfl, rfl, rfl⟩ ?_ ?_⟩
      · rintro i σ H' hi ⟨kv, ov, sv, tv, ns, rfl, g1, hp, hln, hall, hheads⟩
        refine ⟨_, rfl, ?_⟩
        -- own
        refine ⟨fun σ2 H2 => ∃ own : Str, σ2 = [some (.int n), some (.int m), some (.str zGood), some (.int (n % 11)), some (.int (0 + (i : Int))), some (.str rest), some (.int (n / 11 % (n % 11 + 1))), some (.ref p), some (.str own), sv, tv] ∧ own.length ≤ 10 ∧ Gd own ∧ H2 = H', ?_, ?_⟩
        · refine ⟨_, rfl, _, _, rfl, rfl, ⟨by decide, by decide⟩, _, rfl, _, _, rfl, rfl, .inl ⟨_, rfl, _, _, rfl, rfl, (show (0 : Int) < 3 by decide), rfl, _, rfl, ?_⟩⟩
          refine ite2 (fun _ => ?_) (fun _ => ?_)
          · have hc : (cutS rest (some 1) none).length ≤ 10 := by
              rw [str_len]
              have q : (cutS rest (some 1) none).cps.toList.length ≤ rest.cps.toList.length := by
                unfold cutS
                show ((rest.cps.toList.drop _).take _).toArray.toList.length ≤ _
                rw [List.toList_toArray, List.length_take, List.length_drop]
                omega
              rw [← str_len rest] at q
              omega
            exact ⟨_, rfl, 1, rfl, rest, rfl, by rw [sizeLine_eq]; omega, _, rfl, hc, hjg.cut _ _, rfl⟩
          · exact ⟨rest, rfl, hr10, hjg, rfl⟩
        rintro σ2 H2 ⟨own, rfl, ho10, hog, rfl⟩
        -- spot
        refine ⟨_, rfl, _, rfl, own, rfl, by rw [sizeLine_eq]; omega, _, _, rfl, ?_⟩
        obtain ⟨sp, hsp, hsp2⟩ : ∃ sp : Nat, (if ((own.length : Nat) : Int) < n / 11 % (n % 11 + 1) then ((own.length : Nat) : Int) else n / 11 % (n % 11 + 1)) = (sp : Int) ∧ sp ≤ own.length := by
          by_cases c : ((own.length : Nat) : Int) < n / 11 % (n % 11 + 1)
          · exact ⟨own.length, if_pos c, Nat.le_refl _⟩
          · refine ⟨(n / 11 % (n % 11 + 1)).toNat, ?_, by omega⟩
            rw [if_neg c]
            omega
        rw [hsp]
        -- step
        refine ⟨fun σ2 H3 => ∃ st : Int, σ2 = [some (.int n), some (.int m), some (.str zGood), some (.int (n % 11)), some (.int (0 + (i : Int))), some (.str rest), some (.int (n / 11 % (n % 11 + 1))), some (.ref p), some (.str own), some (.int sp), some (.int st)] ∧ 0 ≤ st ∧ st ≤ 31 ∧ H3 = H2, ?_, ?_⟩
        · refine ⟨_, rfl, _, _, rfl, rfl, ⟨by decide, by decide⟩, _, _, rfl, rfl, (show (0 : Int) < 2 by decide), rfl, _, rfl, ?_⟩
          refine ite2 (fun _ => ?_) (fun _ => ?_)
          · exact ⟨31, rfl, by decide, by decide, rfl⟩
          · exact ⟨5, rfl, by decide, by decide, rfl⟩
        rintro σ2 H3 ⟨st, rfl, hst1, hst2, rfl⟩
        have b1 : 0 ≤ (n + 3 * (0 + (i : Int))) % 26 ∧ (n + 3 * (0 + (i : Int))) % 26 < 26 := by omega
        have b2 : 0 ≤ (n + st * (0 + (i : Int))) % 36 ∧ (n + st * (0 + (i : Int))) % 36 < 36 := by omega
        obtain ⟨c, ec, ec'⟩ := at_some (l := zGood.cps.toList) b1.1 (by rw [good_len]; omega)
        obtain ⟨e, ee, ee'⟩ := at_some (l := zGood.cps.toList) b2.1 (by rw [good_len]; exact b2.2)
        have l1 : (cutS own none (some (sp : Int))).length = sp := by
          rw [str_len, cut_pre hsp2, List.length_take, ← str_len]; omega
        have l2 : (cutS own (some (sp : Int)) none).length = own.length - sp := by
          rw [str_len, cut_suf hsp2, List.length_drop, ← str_len]
        have lo : ∀ c : Nat, (⟨#[c]⟩ : Str).length = 1 := fun _ => rfl
        have s1 : ((⟨#[c]⟩ : Str) ++ cutS own none (some (sp : Int))).length = 1 + sp := by rw [PySem.Str.length_append, l1, lo]
        have s2 : ((⟨#[c]⟩ : Str) ++ cutS own none (some (sp : Int)) ++ (⟨#[e]⟩ : Str)).length = 1 + sp + 1 := by rw [PySem.Str.length_append, s1, lo]
        refine ⟨_, rfl, .inl ⟨rfl, _, SqL.of hp⟩, _, rfl, _, rfl, _, rfl, _, _, rfl, rfl, .inl ⟨by decide, by decide⟩, _, _, rfl, rfl, .inl ⟨_, rfl, _, _, rfl, rfl, (show (0 : Int) < 26 by decide), _, _, c, rfl, rfl, sG, ec, _, rfl, _, rfl, _, rfl, own, rfl, by rw [sizeLine_eq]; omega, _, _, rfl, rfl, by rw [l1, lo, sizeLine_eq]; omega,
          _, rfl, _, rfl, _, rfl, _, rfl, _, _, rfl, rfl, .inl ⟨by omega, by omega⟩, _, _, rfl, rfl, .inl ⟨_, rfl, _, _, rfl, rfl, (show (0 : Int) < 36 by decide), _, _, e, rfl, rfl, sG, ee, _, _, rfl, rfl, by rw [s1, lo, sizeLine_eq]; omega,
          _, rfl, _, rfl, _, rfl, own, rfl, by rw [sizeLine_eq]; omega, _, _, rfl, rfl, by rw [s2, l2, sizeLine_eq]; omega, p, _, _, rfl, rfl, hp, by rw [List.length_map, hln, sizeLine_eq]; omega, ?_⟩⟩⟩
        have hok : isNm (nameOf c own sp e) = true := nameOf_ok hsp2 ho10 hog (good_let c ?_) (List.mem_of_getElem? ee')
        · refine ⟨_, _, _, _, ns ++ [nameOf c own sp e], rfl, g1.write hp (fun _ z => by cases z) (g.free np), ?_, ?_, ?_, ?_⟩
          · rw [upd_same, List.map_append]; rfl
          · rw [List.length_append, hln]; rfl
          · rw [List.all_append, hall, List.all_cons, hok]; rfl
          · unfold heads at hheads ⊢
            rw [List.map_append, hheads, List.range_succ, List.map_append]
            congr 1
            show [(nameOf c own sp e).cps.toList.head?] = [_]
            rw [nameOf_cps hsp2]
            have ez : (0 : Int) + (i : Int) = (i : Int) := by omega
            rw [ez] at ec'
            exact congrArg (fun z => [z]) ec'.symm
        · exact List.mem_of_getElem? (i := ((n + 3 * (0 + (i : Int))) % 26).toNat) (by rw [List.getElem?_take_of_lt (by omega)]; exact ec')
      · rintro σ H' ⟨kv, ov, sv, tv, ns, rfl, g1, hp, hln, hall, hheads⟩
        refine ⟨_, rfl, k H' p ns g1 (g.free np) hp hln hall ?_⟩
        have nd : (heads ns).Nodup := by
          rw [hheads]
          exact heads_nodup n hm9
        exact List.Pairwise.of_map _ (fun a b hne e => hne (congrArg (fun z : Str => z.cps.toList.head?) e)) nd
end
end W

set_option Elab.async false
set_option linter.all false
set_option maxRecDepth 100000
set_option maxHeartbeats 400000
namespace W
open PySem PySem.Spec PyProof.Rows L2 GxR MyG MyS
theorem at_num {ns : List Int} (hs : Sm ns) {i : Int} (h0 : 0 ≤ i) (h1 : i < ns.length) : ∃ n, atI (ns.map V.int) i = some (.int n) ∧ 0 ≤ n ∧ n < 1009 := by
  obtain ⟨k, rfl⟩ := Int.eq_ofNat_of_zero_le h0
  have hn : k < ns.length := by omega
  refine ⟨ns[k], atI_nat (by rw [List.getElem?_map, List.getElem?_eq_getElem hn]; rfl), hs _ (List.getElem_mem hn)⟩
def lastP (c : Int) (ps : List (Int × Int)) : Int := (ps.getLast?.map (·.2)).getD c
theorem hoursOk_snoc {d : Int} {q : Int × Int} : ∀ {ps : List (Int × Int)} {c : Int}, hoursOk d c ps → lastP c ps < q.1 → q.1 < q.2 → q.2 ≤ d → hoursOk d c (ps ++ [q])
  | [], _, _, h1, h2, h3 => ⟨h1, h2, h3, True.intro⟩
  | p :: ps, c, h, h1, h2, h3 => by
    refine ⟨h.1, h.2.1, h.2.2.1, hoursOk_snoc h.2.2.2 ?_ h2 h3⟩
    have e : lastP c (p :: ps) = lastP p.2 ps := by
      unfold lastP
      cases ps with
      | nil => rfl
      | cons a l =>
        rw [List.getLast?_cons_cons]
        cases h : (a :: l).getLast? with
        | none => simp at h
        | some z => rfl
    rw [← e]; exact h1
theorem lastP_snoc (c : Int) (ps : List (Int × Int)) (q : Int × Int) : lastP c (ps ++ [q]) = q.2 := by
  unfold lastP
  rw [List.getLast?_concat]
  rfl
def spLHours (K : PySem.W.Frag) (P : Addr) : Sp := fun vs H Q _ => ∃ (a : Addr) (ns : List Int) (at_ d : Int), vs = [.ref a, .int at_, .int d] ∧ SqL K H a (ns.map V.int) ∧ Sm ns ∧ 0 ≤ at_ ∧ at_ + 4 ≤ ns.length ∧ 1 ≤ d ∧ TabG H P ∧ ∀ H' hs v, Grew P H H' → GHours K H' hs v → HoursOk d hs → Q v H'
section
variable {Pg : Program} {w : World} {K : PySem.W.Frag} {mg : Str → Option Value} {base : Heap} {C P : Addr}
abbrev nLHours : List Str := ["numbers", "at", "day", "hours", "last", "k", "opened", "closed"]
theorem scLHours : FnScope nLHours ["numbers", "at", "day"] (defScope sLHours) := ⟨rfl, rfl, rfl, by decide +kernel, rfl, by decide +kernel, by decide +kernel⟩
theorem ok_lhours {f : Addr} {fd : FuncData} (F : Fun K "_law_hours" "_law_hours" sLHours f fd) (hi : mg "int" = none) (ht : mg "tuple" = none) (hr' : mg "range" = none) : FnOk Pg w K mg base CX0 1 f fd ["numbers", "at", "day"] (spLHours K P) := by
  refine F.ok scLHours (fun vs H Q E h => ?_) (fun cdv A outer s H vs Q E hr h => ?_)
  · obtain ⟨a, ns, at_, d, rfl, _⟩ := h
    rfl
  · obtain ⟨a, ns, at_, d, rfl, hS, hsm, ha0, ha1, hd, hP, k⟩ := h
    refine ⟨_, pss_cons (ps_if (pt_cmpR op_eq (pe_op op_mod (pe_callTy call_int1 (by rfl) hi (by decide +kernel) (pa_cons (pe_ix ix_list (pv 0) (pv 1) (fun _ _ => rfl)) pa_nil)) pe_int) pe_int (nomark _)) (pss_one (ps_ret pe_non)) pss_nil)
      (pss_cons (ps_set (i := 3) scLHours.nd rfl (Or.inl rfl) (pe_lst pa_nil))
      (pss_cons (ps_set (i := 4) scLHours.nd rfl (Or.inl rfl) (pe_un un_neg pe_int))
      (pss_cons (ps_for PassesOwn.never rfl (pi_range1 rfl hr' (pa_cons (pe_op op_mod (pe_callTy call_int1 (by rfl) hi (by decide +kernel) (pa_cons (pe_ix ix_list (pv 0) (pv 1) (fun _ _ => rfl)) pa_nil)) pe_int) pa_nil)) (pg_name (i := 5) scLHours.nd rfl (Or.inl rfl))
        (pss_cons (ps_set (i := 6) scLHours.nd rfl (Or.inl rfl) (pe_op op_add (pe_op op_add (pv 4) pe_int) (pe_op op_mod (pe_callTy call_int1 (by rfl) hi (by decide +kernel) (pa_cons (pe_ix ix_list (pv 0) (pe_op op_add (pe_op op_add (pv 1) pe_int) (pv 5)) (fun _ _ => rfl)) pa_nil)) pe_int)))
        (pss_cons (ps_set (i := 7) scLHours.nd rfl (Or.inl rfl) (pe_op op_add (pe_op op_add (pv 6) pe_int) (pe_op op_mod (pe_op op_fdiv (pe_ix ix_list (pv 0) (pe_op op_add (pe_op op_add (pv 1) pe_int) (pv 5)) (fun _ _ => rfl)) pe_int) pe_int)))
        (pss_one (ps_if (pt_cmpR op_le (pv 7) (pv 2) (nomark _))
          (pss_cons (ps_expr (pe_bm PySem.F.plainAttrs_list PySem.F.slot_list_append PySem.F.type_list_append mt_append (pv 3) (pa_cons (pe_tup (pa_cons (pv 6) (pa_cons (pv 7) pa_nil))) pa_nil)))
          (pss_one (ps_set (i := 4) scLHours.nd rfl (Or.inl rfl) (pv 7)))) pss_nil)))))
      (pss_one (ps_ret (pe_callTy call_tuple_of (by rfl) ht (by decide +kernel) (pa_cons (pv 3) pa_nil))))))), ?_⟩
    obtain ⟨n0, e0, l0, u0⟩ := at_num hsm (i := at_) ha0 (by omega)
    refine ⟨_, rfl, _, rfl, a, _, _, _, rfl, rfl, hS, e0, .inl ⟨_, rfl, _, _, rfl, rfl, (show (0 : Int) < 3 by decide), rfl, _, rfl, ?_⟩⟩
    refine ite2 (fun _ => k H none .non (Grew.refl hP) rfl True.intro) (fun _ => ?_)
    refine ⟨Nat.zero_le _, fun p np => ⟨1, rfl, ?_⟩⟩
    have g1 := Grew.new hP (o := .lst []) np
    refine ⟨_, rfl, _, rfl, a, _, _, _, rfl, rfl, g1.sqL hP hS, e0, .inl ⟨_, rfl, _, _, rfl, rfl, (show (0 : Int) < 4 by decide), n0 % 4, rfl, by omega, by omega,
      for_range (n := (n0 % 4).toNat) (fun i σ H' => ∃ kv ov cv, ∃ (ps : List (Int × Int)) (xs : List V), σ = [some (.ref a), some (.int at_), some (.int d), some (.ref p), some (.int (lastP (-1) ps)), kv, ov, cv] ∧ Grew P H H' ∧ H' p = some (.lst xs) ∧ Paired (GPair K H') ps xs ∧ ps.length ≤ i ∧ hoursOk d (-1) ps)
        ⟨none, none, none, [], [], rfl, g1, upd_same, .nil, Nat.le_refl _, True.intro⟩ ?_ ?_⟩⟩
    · rintro i σ H' hi ⟨kv, ov, cv, ps, xs, rfl, g, hp, hps, hln, hok⟩
      have hi3 : i < 3 := by omega
      obtain ⟨n2, e2, l2, u2⟩ := at_num hsm (i := at_ + 1 + (0 + (i : Int))) (by omega) (by omega)
      have hS2 := g.sqL hP hS
      refine ⟨_, rfl, _, _, rfl, rfl, _, rfl, _, rfl, _, _, rfl, rfl, _, rfl, _, _, rfl, rfl, a, _, _, _, rfl, rfl, hS2, e2, .inl ⟨_, rfl, _, _, rfl, rfl, (show (0 : Int) < 4 by decide), _, _, rfl, rfl, ?_⟩⟩
      refine ⟨_, rfl, _, _, rfl, rfl, _, rfl, _, rfl, _, _, rfl, rfl, _, rfl, _, _, rfl, rfl, a, _, _, _, rfl, rfl, hS2, e2, _, _, rfl, rfl, ⟨by decide, by decide⟩, _, _, rfl, rfl, (show (0 : Int) < 6 by decide), _, _, rfl, rfl, ?_⟩
      have r1 : 0 ≤ n2 % 4 := Int.emod_nonneg _ (by omega)
      have r2 : 0 ≤ n2 / 4 % 6 := Int.emod_nonneg _ (by omega)
      refine ⟨_, rfl, _, rfl, _, _, rfl, rfl, _, rfl, ?_⟩
      refine ite2 (fun hle => ?_) (fun _ => ⟨_, _, _, ps, xs, rfl, g, hp, hps, by omega, hok⟩)
      have hle' := of_decide_eq_true hle
      refine ⟨_, rfl, .inl ⟨rfl, _, SqL.of hp⟩, _, rfl, _, rfl, by show 2 ≤ sizeLine; decide, fun q hq => ?_⟩
      have gq := g.put (o := .tup [.int (lastP (-1) ps + 1 + n2 % 4), .int (lastP (-1) ps + 1 + n2 % 4 + 1 + n2 / 4 % 6)]) hq
      have hpq := (Grew.new g.tab (o := .tup [.int (lastP (-1) ps + 1 + n2 % 4), .int (lastP (-1) ps + 1 + n2 % 4 + 1 + n2 / 4 % 6)]) hq).lst g.tab hp
      have lx := Paired.len hps
      have kt := KeepT.trans (KeepT.new (K := K) (o := .tup [.int (lastP (-1) ps + 1 + n2 % 4), .int (lastP (-1) ps + 1 + n2 % 4 + 1 + n2 / 4 % 6)]) hq) (KeepT.lst (o := .lst (xs ++ [.ref q])) hpq)
      refine ⟨p, _, _, rfl, rfl, hpq, by rw [sizeLine_eq]; omega, _, rfl, some (.int (0 + (i : Int))), some (.int (lastP (-1) ps + 1 + n2 % 4)), some (.int (lastP (-1) ps + 1 + n2 % 4 + 1 + n2 / 4 % 6)), ps ++ [(lastP (-1) ps + 1 + n2 % 4, lastP (-1) ps + 1 + n2 % 4 + 1 + n2 / 4 % 6)], xs ++ [.ref q], ?_, gq.write hpq (fun _ z => by cases z) np, upd_same, ?_, ?_, ?_⟩
      · rw [lastP_snoc]; rfl
      · refine Paired.snoc (Paired.map' hps fun _ _ m => m.keep kt) ⟨q, rfl, ?_⟩
        exact (KeepT.lst (K := K) (o := .lst (xs ++ [.ref q])) hpq) _ _ (SqT.of upd_same)
      · rw [List.length_append, List.length_singleton]; omega
      · exact hoursOk_snoc hok (by show lastP (-1) ps < lastP (-1) ps + 1 + n2 % 4; omega) (by show lastP (-1) ps + 1 + n2 % 4 < lastP (-1) ps + 1 + n2 % 4 + 1 + n2 / 4 % 6; omega) hle'
    · rintro σ H' ⟨kv, ov, cv, ps, xs, rfl, g, hp, hps, hln, hok⟩
      refine ⟨_, rfl, p, _, rfl, .inl ⟨SqL.of hp, fun q nq => ?_⟩⟩
      exact k _ (some ps) _ (g.put nq) ⟨q, xs, rfl, SqT.of upd_same, Paired.map' hps fun _ _ m => m.keep (KeepT.new nq)⟩ ⟨by omega, hok⟩
end
end W

set_option Elab.async false
set_option linter.all false
set_option maxRecDepth 100000
set_option maxHeartbeats 1000000
namespace W
open PySem PySem.Spec PyProof.Rows L2 GxR MyG MyS
/-! ### _law_road (parts of tuples) -/
theorem at_str {ns : List Str} {i : Int} (h0 : 0 ≤ i) (h1 : i < ns.length) : ∃ z, atI (ns.map V.str) i = some (.str z) ∧ ns[i.toNat]? = some z ∧ z ∈ ns := by
  obtain ⟨k, rfl⟩ := Int.eq_ofNat_of_zero_le h0
  have hn : k < ns.length := by omega
  exact ⟨ns[k], atI_nat (by rw [List.getElem?_map, List.getElem?_eq_getElem hn]; rfl), by rw [Int.toNat_natCast]; exact List.getElem?_eq_getElem hn, List.getElem_mem hn⟩
def spLRoadG (K : PySem.W.Frag) (P : Addr) : Sp := fun vs H Q _ => ∃ (a ki pl : Addr) (ns : List Int) (at_ d : Int) (z : Str) (ks ps : List Str), vs = [.ref a, .int at_, .str z, .int d, .ref ki, .ref pl] ∧ SqL K H a (ns.map V.int) ∧ Sm ns ∧ 0 ≤ at_ ∧ at_ + 9 ≤ ns.length ∧ 1 ≤ d ∧ H ki = some (.tup (ks.map V.str)) ∧ H pl = some (.tup (ps.map V.str)) ∧ 1 ≤ ps.length ∧ ks.length ≤ 4 ∧ ks.Nodup ∧ TabG H P ∧
  ∀ H' r t, Grew P H H' → H t = none → RoadAt K H' r (.ref t) → r.name = z → RoadOk d ps ks r → r.users.Sublist ks → Q (.ref t) H'
theorem of9 (j : Int) (h0 : 0 ≤ j) (h3 : j < 3) : ∃ c : Int, atI [V.int 9, V.int 9, V.int 40] j = some (.int c) ∧ 0 < c ∧ c ≤ 40 := by
  have : j = 0 ∨ j = 1 ∨ j = 2 := by omega
  rcases this with rfl | rfl | rfl <;> exact ⟨_, rfl, by decide, by decide⟩
section
variable {Pg : Program} {w : World} {K : PySem.W.Frag} {mg : Str → Option Value} {base : Heap} {C P : Addr}
abbrev nRoadG : List Str := ["numbers", "at", "name", "day", "kinds", "places", "start", "end", "minutes", "used", "k"]
theorem scRoadG : FnScope nRoadG ["numbers", "at", "name", "day", "kinds", "places"] (defScope sLRoadG) := ⟨rfl, rfl, rfl, by decide +kernel, rfl, by decide +kernel, by decide +kernel⟩
theorem ok_lroadG {f fH : Addr} {fd fdH : FuncData} (F : Fun K "_law_road" "_law_road" sLRoadG f fd) (hi : mg "int" = none) (hl : mg "len" = none) (ht : mg "tuple" = none) (hr' : mg "range" = none)
    (GH : FnOk Pg w K mg base CX0 1 fH fdH ["numbers", "at", "day"] (spLHours K P)) (gH : mg "_law_hours" = some (.ref fH)) (kH : PySem.W.keepIn K (.ref fH) = true) (bH : Binds K fdH ["numbers", "at", "day"] []) :
    FnOk Pg w K mg base CX0 2 f fd ["numbers", "at", "name", "day", "kinds", "places"] (spLRoadG K P) := by
  refine F.ok scRoadG (fun vs H Q E h => ?_) (fun cdv A outer s H vs Q E hr h => ?_)
  · obtain ⟨a, ki, pl, ns, at_, d, z, ks, ps, rfl, _⟩ := h
    rfl
  · obtain ⟨a, ki, pl, ns, at_, d, z, ks, ps, rfl, hS, hsm, ha0, ha1, hd, hki, hpl, lp, lk, ndk, hP, k⟩ := h
    refine ⟨_, pss_cons (ps_set (i := 6) scRoadG.nd rfl (Or.inl rfl) (pe_ix ix_tup (pv 5) (pe_op op_mod (pe_callTy call_int1 (by rfl) hi (by decide +kernel) (pa_cons (pe_ix ix_list (pv 0) (pv 1) (fun _ _ => rfl)) pa_nil)) (pe_callB call_len_seq (by rfl) hl PySem.boot_len (pa_cons (pv 5) pa_nil))) (fun _ _ => rfl)))
      (pss_cons (ps_set (i := 7) scRoadG.nd rfl (Or.inl rfl) (pe_ix ix_tup (pv 5) (pe_op op_mod (pe_callTy call_int1 (by rfl) hi (by decide +kernel) (pa_cons (pe_ix ix_list (pv 0) (pe_op op_add (pv 1) pe_int) (fun _ _ => rfl)) pa_nil)) (pe_callB call_len_seq (by rfl) hl PySem.boot_len (pa_cons (pv 5) pa_nil))) (fun _ _ => rfl)))
      (pss_cons (ps_set (i := 8) scRoadG.nd rfl (Or.inl rfl) (pe_op op_add pe_int (pe_op op_mod (pe_callTy call_int1 (by rfl) hi (by decide +kernel) (pa_cons (pe_ix ix_list (pv 0) (pe_op op_add (pv 1) pe_int) (fun _ _ => rfl)) pa_nil)) (pe_ix ix_tup (pe_tup (pa_cons pe_int (pa_cons pe_int (pa_cons pe_int pa_nil)))) (pe_op op_mod (pe_callTy call_int1 (by rfl) hi (by decide +kernel) (pa_cons (pe_ix ix_list (pv 0) (pe_op op_add (pv 1) pe_int) (fun _ _ => rfl)) pa_nil)) pe_int) (fun _ _ => rfl)))))
      (C8.pss_cut (ps_set (i := 9) scRoadG.nd rfl (Or.inl rfl) (pe_callTy call_tuple_of (by rfl) ht (by decide +kernel) (pa_cons (pe_lc (own := [("k", 10)]) (g := gName 10) rfl scRoadG.nd (pi_range1 rfl hr' (pa_cons (pe_callB call_len_seq (by rfl) hl PySem.boot_len (pa_cons (pv 4) pa_nil)) pa_nil)) (blkOk_by (N := nRoadG) (sc := defScope sLRoadG) (by decide +kernel)) (fun _ _ _ _ _ => pg_name (i := 10) scRoadG.nd rfl (Or.inl rfl))
          (fun _ _ _ _ _ => pts_one (pt_cmpR op_gt (pe_op op_mod (pe_callTy (r := rInt1) call_int1 (by rfl) hi (by decide +kernel) (pa_cons (pe_op op_add (pe_ix (r := rIxL K) ix_list (pv 0) (pe_op op_add (pv 1) pe_int) (fun _ _ => rfl)) (pv 10)) pa_nil)) pe_int) pe_int (nomark _))) (fun _ _ _ _ _ => pe_ix (r := rIxT K) ix_tup (pv 4) (pv 10) (fun _ _ => rfl))) pa_nil)))
      (pss_one (ps_ret (pe_tup (pa_cons (pv 2) (pa_cons (pv 6) (pa_cons (pv 7) (pa_cons (pv 8) (pa_cons (pv 9) (pa_cons (pe_call GH hr (by rfl) gH kH bH .nil pass0 (pa_cons (pv 0) (pa_cons (pe_op op_add (pv 1) pe_int) (pa_cons (pv 3) pa_nil)))) pa_nil)))))))))))), ?_⟩
    obtain ⟨n0, e0, l0, u0⟩ := at_num hsm (i := at_) ha0 (by omega)
    obtain ⟨n1, e1, l1, u1⟩ := at_num hsm (i := at_ + 1) (by omega) (by omega)
    obtain ⟨n2, e2, l2, u2⟩ := at_num hsm (i := at_ + 2) (by omega) (by omega)
    obtain ⟨n3, e3, l3, u3⟩ := at_num hsm (i := at_ + 3) (by omega) (by omega)
    obtain ⟨n4, e4, l4, u4⟩ := at_num hsm (i := at_ + 4) (by omega) (by omega)
    have cp : (0 : Int) < (((ps.map V.str).length : Nat) : Int) := by rw [List.length_map]; omega
    obtain ⟨s0, es, _, hs'⟩ := at_str (ns := ps) (i := n0 % ((ps.map V.str).length : Nat)) (Int.emod_nonneg _ (by omega)) (by have := Int.emod_lt_of_pos n0 cp; rw [List.length_map] at *; exact this)
    obtain ⟨s1, et, _, hg⟩ := at_str (ns := ps) (i := n1 % ((ps.map V.str).length : Nat)) (Int.emod_nonneg _ (by omega)) (by have := Int.emod_lt_of_pos n1 cp; rw [List.length_map] at *; exact this)
    obtain ⟨c, ec, hc0, hc40⟩ := of9 (n3 % 3) (Int.emod_nonneg _ (by decide)) (Int.emod_lt_of_pos _ (by decide))
    -- start, end
    refine ⟨_, rfl, _, rfl, _, rfl, a, _, _, _, rfl, rfl, hS, e0, .inl ⟨_, rfl, _, rfl, pl, _, rfl, .inr (SqT.of hpl), _, _, rfl, rfl, cp, pl, _, _, _, rfl, rfl, SqT.of hpl, es, ?_⟩⟩
    refine ⟨_, rfl, _, rfl, _, rfl, _, _, rfl, rfl, a, _, _, _, rfl, rfl, hS, e1, .inl ⟨_, rfl, _, rfl, pl, _, rfl, .inr (SqT.of hpl), _, _, rfl, rfl, cp, pl, _, _, _, rfl, rfl, SqT.of hpl, et, ?_⟩⟩
    -- minutes
    refine ⟨_, rfl, _, rfl, _, _, rfl, rfl, a, _, _, _, rfl, rfl, hS, e2, .inl ⟨_, rfl, by show 3 ≤ sizeLine; decide, fun T3 nT3 => ?_⟩⟩
    have g3 := Grew.new hP (o := .tup [V.int 9, V.int 9, V.int 40]) nT3
    have hT3 : (L2.upd H T3 (.tup [V.int 9, V.int 9, V.int 40])) T3 = some (.tup [V.int 9, V.int 9, V.int 40]) := upd_same
    generalize L2.upd H T3 (.tup [V.int 9, V.int 9, V.int 40]) = H1 at g3 hT3
    refine ⟨_, rfl, _, rfl, _, _, rfl, rfl, a, _, _, _, rfl, rfl, g3.sqL hP hS, e3, .inl ⟨_, rfl, _, _, rfl, rfl, (show (0 : Int) < 3 by decide), T3, _, _, _, rfl, rfl, SqT.of hT3, ec, _, _, rfl, rfl, hc0, _, _, rfl, rfl, ?_⟩⟩
    have b0 : 0 ≤ n2 % c := Int.emod_nonneg _ (by omega)
    have b1 : n2 % c < c := Int.emod_lt_of_pos _ hc0
    have hki1 := g3.tup hP hki
    have hS1 := g3.sqL hP hS
    -- used
    refine ⟨fun σ H' => ∃ (u : Addr) (us : List Str), σ = [some (.ref a), some (.int at_), some (.str z), some (.int d), some (.ref ki), some (.ref pl), some (.str s0), some (.str s1), some (.int (1 + n2 % c)), some (.ref u), none] ∧ Grew P H1 H' ∧ H' u = some (.tup (us.map V.str)) ∧ us.Sublist ks, ?_, ?_⟩
    · refine ⟨_, rfl, ki, _, rfl, .inr (SqT.of hki1), _, rfl, by rw [List.length_map]; omega, by rw [List.length_map]; omega, fun D nD => lc_range (n := (((ks.map V.str).length : Nat) : Int).toNat) (fun i H' => Grew P H1 H' ∧ ∃ us : List Str, H' D = some (.lst (us.map V.str)) ∧ us.Sublist (ks.take i))
        ⟨Grew.new g3.tab nD, [], upd_same, List.nil_sublist _⟩ (fun i H2 hi p => ?_) (fun H2 p => ?_)⟩
      · obtain ⟨g, us, hD, hsub⟩ := p
        have hi2 : i < ks.length := by rw [List.length_map] at hi; omega
        have lu : us.length ≤ 4 := Nat.le_trans hsub.length_le (by rw [List.length_take]; omega)
        have tk : ks.take (i + 1) = ks.take i ++ [ks[i]] := by rw [List.take_succ, List.getElem?_eq_getElem hi2]; rfl
        have ek : atI (ks.map V.str) (0 + (i : Int)) = some (.str ks[i]) := by
          rw [Int.zero_add]
          exact atI_nat (by rw [List.getElem?_map, List.getElem?_eq_getElem hi2]; rfl)
        refine ⟨rfl, _, rfl, _, rfl, _, _, rfl, rfl, a, _, _, _, rfl, rfl, g.sqL g3.tab hS1, e4, _, rfl, _, _, rfl, rfl, .inl ⟨_, rfl, _, _, rfl, rfl, (show (0 : Int) < 4 by decide), _, _, rfl, rfl, _, rfl, ?_⟩⟩
        refine ite2 (fun _ => ?_) (fun _ => ⟨g, us, hD, hsub.trans (by rw [tk]; exact List.sublist_append_left _ _)⟩)
        refine ⟨_, rfl, _, rfl, ki, _, _, _, rfl, rfl, SqT.of (g.tup g3.tab hki1), ek, _, hD, by rw [List.length_map, sizeLine_eq]; omega, g.write hD (fun _ z => by cases z) nD, us ++ [ks[i]], ?_, ?_⟩
        · rw [upd_same, List.map_append]; rfl
        · rw [tk]; exact hsub.append (List.Sublist.refl _)
      · obtain ⟨g, us, hD, hsub⟩ := p
        refine ⟨D, _, rfl, .inl ⟨SqL.of hD, fun u nu => ⟨u, us, rfl, g.trans (Grew.new g.tab nu), upd_same, hsub.trans (List.take_sublist _ _)⟩⟩⟩
    rintro σ H2 ⟨u, us, rfl, g2, hu, hsub⟩
    have g02 := g3.trans g2
    refine ⟨_, rfl, _, rfl, _, rfl, _, rfl, _, rfl, _, rfl, _, rfl, _, _, rfl, rfl, _, rfl, a, ns, at_ + 5, d, rfl, g02.sqL hP hS, hsm, by omega, by omega, hd, g02.tab, fun H3 hs v g4 hv hho => ?_⟩
    have g03 := g02.trans g4
    have hu3 := g4.tup g02.tab hu
    refine ⟨by show 6 ≤ sizeLine; decide, fun t nt => ?_⟩
    refine k _ ⟨z, s0, s1, 1 + n2 % c, us, hs⟩ t (g03.trans (Grew.new g03.tab nt)) (g03.free nt) ⟨t, u, v, rfl, upd_same, (Grew.new g03.tab nt).tup g03.tab hu3, hv.keep (KeepT.new nt)⟩ rfl ?_ hsub
    exact ⟨hs', hg, by show 1 ≤ 1 + n2 % c; omega, by show 1 + n2 % c ≤ 1000; omega, fun y hy => hsub.subset hy, Nat.le_trans hsub.length_le lk, ndk.sublist hsub, hho⟩
end
end W

set_option Elab.async false
set_option linter.all false
set_option maxRecDepth 100000
set_option maxHeartbeats 1000000
namespace W
open PySem PySem.Spec PyProof.Rows L2 GxR MyG MyS
/-! ### _law_bars (parts of tuples) -/
theorem RoadAt.keepT {K : PySem.W.Frag} {P : Addr} {H H' : Hp} {r : RoadD} {v : V} (m : RoadAt K H r v) (h : TabG H P) (g : Grew P H H') : RoadAt K H' r v := m.grew g h
/-- the pairs of roads that meet -/
def meetL (rs : List RoadD) (one : RoadD) : List (Str × Str) := (rs.filter fun o => decide (one.goal = o.start)).map fun o => (one.name, o.name)
theorem meetL_len (rs : List RoadD) (one : RoadD) : (meetL rs one).length ≤ rs.length := by
  unfold meetL
  rw [List.length_map]
  exact List.length_filter_le _ _
def pairL (rs l : List RoadD) : List (Str × Str) := l.flatMap (meetL rs)
theorem pairL_len (rs : List RoadD) : ∀ l : List RoadD, (pairL rs l).length ≤ l.length * rs.length
  | [] => Nat.zero_le _
  | a :: l => by
    have h := pairL_len rs l
    have h2 := meetL_len rs a
    show (meetL rs a ++ pairL rs l).length ≤ _
    rw [List.length_append, List.length_cons, Nat.succ_mul]
    omega
theorem meetL_mem {rs : List RoadD} {one : RoadD} {b : Str × Str} (h : b ∈ meetL rs one) : b.1 = one.name ∧ ∃ o ∈ rs, b.2 = o.name ∧ one.goal = o.start := by
  obtain ⟨o, ho, rfl⟩ := List.mem_map.mp h
  obtain ⟨h1, h2⟩ := List.mem_filter.mp ho
  exact ⟨rfl, o, h1, rfl, of_decide_eq_true h2⟩
theorem pairL_ok {rs l : List RoadD} {b : Str × Str} (h : b ∈ pairL rs l) : ∃ r1 ∈ l, ∃ r2 ∈ rs, b.1 = r1.name ∧ b.2 = r2.name ∧ r1.goal = r2.start := by
  obtain ⟨one, h1, h2⟩ := List.mem_flatMap.mp h
  obtain ⟨e, o, ho, e2, e3⟩ := meetL_mem h2
  exact ⟨one, h1, o, ho, e, e2, e3⟩
theorem pairL_nd {rs : List RoadD} (nd : (rs.map (·.name)).Nodup) : ∀ {l : List RoadD}, (l.map (·.name)).Nodup → (pairL rs l).Nodup
  | [], _ => List.nodup_nil
  | a :: l, h => by
    obtain ⟨h1, h2⟩ := List.nodup_cons.mp h
    refine List.nodup_append.mpr ⟨?_, pairL_nd nd h2, fun b hb c hc e => ?_⟩
    · unfold meetL
      have s : ((rs.filter fun o => decide (a.goal = o.start)).map (·.name)).Nodup := nd.sublist (List.Sublist.map _ List.filter_sublist)
      refine List.pairwise_map.mpr ((List.pairwise_map.mp s).imp fun {x y} n e => n (congrArg Prod.snd e))
    · subst e
      obtain ⟨r1, m, r2, _, e1, _⟩ := pairL_ok hc
      exact h1 (List.mem_map.mpr ⟨r1, m, by rw [← e1]; exact (meetL_mem hb).1⟩)
theorem paired_app {α β : Type} {F : α → β → Prop} : ∀ {l l2 : List α} {m m2 : List β}, Paired F l m → Paired F l2 m2 → Paired F (l ++ l2) (m ++ m2)
  | _, _, _, _, .nil, h => h
  | _, _, _, _, .cons a r, h => .cons a (paired_app r h)
def spLBarsG (K : PySem.W.Frag) (P : Addr) : Sp := fun vs H Q _ => ∃ (a ro : Addr) (ns : List Int) (at_ : Int) (rs : List RoadD) (xs : List V), vs = [.ref a, .int at_, .ref ro] ∧ SqL K H a (ns.map V.int) ∧ Sm ns ∧ 0 ≤ at_ ∧ at_ + 7 ≤ ns.length ∧ H ro = some (.tup xs) ∧ Paired (RoadAt K H) rs xs ∧ rs.length ≤ 12 ∧ (rs.map (·.name)).Nodup ∧ TabG H P ∧
  ∀ H' p bs ys, Grew P H H' → H p = none → H' p = some (.tup ys) → Paired (GBar H') bs ys → AscB bs → BarsOk rs bs → Q (.ref p) H'
section
variable {Pg : Program} {w : World} {K : PySem.W.Frag} {mg : Str → Option Value} {base : Heap} {C P : Addr}
abbrev nBarsG : List Str := ["numbers", "at", "roads", "pairs", "one", "other", "chosen", "k"]
theorem scBarsG : FnScope nBarsG ["numbers", "at", "roads"] (defScope sLBarsG) := ⟨rfl, rfl, rfl, by decide +kernel, rfl, by decide +kernel, by decide +kernel⟩
theorem ok_lbarsG {f : Addr} {fd : FuncData} (F : Fun K "_law_bars" "_law_bars" sLBarsG f fd) (hi : mg "int" = none) (hl : mg "len" = none) (ht : mg "tuple" = none) (hr' : mg "range" = none) (hs : mg "sorted" = none) :
    FnOk Pg w K mg base CX0 1 f fd ["numbers", "at", "roads"] (spLBarsG K P) := by
  refine F.ok scBarsG (fun vs H Q E h => ?_) (fun cdv A outer s H vs Q E hr h => ?_)
  · obtain ⟨a, ro, ns, at_, rs, xs, rfl, _⟩ := h
    rfl
  · obtain ⟨a, ro, ns, at_, rs, xs, rfl, hS, hsm, ha0, ha1, hro, hrs, lr, nd, hP, k⟩ := h
    refine ⟨_, pss_cons (ps_set (i := 3) scBarsG.nd rfl (Or.inl rfl) (pe_lst pa_nil))
      (C8.pss_cut (ps_for PassesOwn.never rfl (pi_tup (pv 2)) (pg_name (i := 4) scBarsG.nd rfl (Or.inl rfl))
        (pss_one (ps_for PassesOwn.never rfl (pi_tup (pv 2)) (pg_name (i := 5) scBarsG.nd rfl (Or.inl rfl))
          (pss_one (ps_if (pt_cmpR op_eq (pe_ix (r := rIxT K) ix_tup (pv 4) pe_int (fun _ _ => rfl)) (pe_ix (r := rIxT K) ix_tup (pv 5) pe_int (fun _ _ => rfl)) (nomark _))
            (pss_one (ps_expr (pe_bm PySem.F.plainAttrs_list PySem.F.slot_list_append PySem.F.type_list_append mt_append (pv 3) (pa_cons (pe_tup (pa_cons (pe_ix (r := rIxT K) ix_tup (pv 4) pe_int (fun _ _ => rfl)) (pa_cons (pe_ix (r := rIxT K) ix_tup (pv 5) pe_int (fun _ _ => rfl)) pa_nil))) pa_nil)))) pss_nil)))))
      (pss_cons (ps_set (i := 6) scBarsG.nd rfl (Or.inl rfl) (pe_lst pa_nil))
      (C8.pss_cut (ps_for PassesOwn.never rfl (pi_range1 rfl hr' (pa_cons (pe_callB call_len_seq (by rfl) hl PySem.boot_len (pa_cons (pv 3) pa_nil)) pa_nil)) (pg_name (i := 7) scBarsG.nd rfl (Or.inl rfl))
        (pss_one (ps_if (PW.pt (pw_and (pt_cmpR op_eq (pe_op op_mod (pe_callTy call_int1 (by rfl) hi (by decide +kernel) (pa_cons (pe_op op_add (pe_ix ix_list (pv 0) (pe_op op_add (pv 1) (pe_op op_mod (pv 7) pe_int)) (fun _ _ => rfl)) (pe_op op_mul pe_int (pv 7))) pa_nil)) pe_int) pe_int (nomark _)) (pw_and1 (pt_cmpR op_lt (pe_callB call_len_seq (by rfl) hl PySem.boot_len (pa_cons (pv 6) pa_nil)) pe_int (nomark _)))))
          (pss_one (ps_expr (pe_bm PySem.F.plainAttrs_list PySem.F.slot_list_append PySem.F.type_list_append mt_append (pv 6) (pa_cons (pe_ix ix_list (pv 3) (pv 7) (fun _ _ => rfl)) pa_nil)))) pss_nil)))
      (pss_one (ps_ret (pe_callTy call_tuple_of (by rfl) ht (by decide +kernel) (pa_cons (pe_callB cr_sortB (by rfl) hs (by decide +kernel) (pa_cons (pv 6) pa_nil)) pa_nil))))))), ?_⟩
    have lx := Paired.len hrs
    refine ⟨Nat.zero_le _, fun p0 np0 => ?_⟩
    have g0 := Grew.new hP (o := .lst []) np0
    have hp0 : (L2.upd H p0 (.lst [])) p0 = some (.lst []) := upd_same
    generalize L2.upd H p0 (.lst []) = H0 at g0 hp0
    -- pairs
    refine ⟨fun σ H' => ∃ (q : Addr) (v4 v5 : Option V) (ys : List V), σ = [some (.ref a), some (.int at_), some (.ref ro), some (.ref q), v4, v5, none, none] ∧ Grew P H H' ∧ H' q = some (.lst ys) ∧ Paired (GBar H') (pairL rs rs) ys, ?_, ?_⟩
    · refine ⟨_, rfl, ro, rfl, ⟨_, SqT.of (g0.tup hP hro)⟩, for_tup (K := K) (a := ro) (xs := xs) (fun i σ H' => ∃ (v4 v5 : Option V) (ys : List V), σ = [some (.ref a), some (.int at_), some (.ref ro), some (.ref p0), v4, v5, none, none] ∧ Grew P H H' ∧ H' p0 = some (.lst ys) ∧ Paired (GBar H') (pairL rs (rs.take i)) ys)
        ⟨none, none, [], rfl, g0, hp0, .nil⟩ (fun i σ H' _ ⟨_, _, _, _, g, _⟩ => SqT.of (g.tup hP hro)) ?_ ?_⟩
      · rintro i v σ H1 hv ⟨v4, v5, ys, rfl, g1, hq, hys⟩
        obtain ⟨one, hone, hr1⟩ := Paired.at hrs hv
        have hr1' := hr1.grew g1 hP
        obtain ⟨t1, u1, h1, rfl, e1, _, _⟩ := hr1'
        have hil := (List.getElem?_eq_some_iff.mp hone).1
        have lp := pairL_len rs (rs.take i)
        rw [List.length_take] at lp
        have b1 : (pairL rs (rs.take i)).length ≤ 12 * 12 := Nat.le_trans lp (Nat.mul_le_mul (by omega) lr)
        refine ⟨_, rfl, ro, rfl, ⟨_, SqT.of (g1.tup hP hro)⟩, for_tup (K := K) (a := ro) (xs := xs) (fun j σ H' => ∃ (v5 : Option V) (ys : List V), σ = [some (.ref a), some (.int at_), some (.ref ro), some (.ref p0), some (.ref t1), v5, none, none] ∧ Grew P H H' ∧ H' t1 = some (.tup [.str one.name, .str one.start, .str one.goal, .int one.minutes, .ref u1, h1]) ∧ H' p0 = some (.lst ys) ∧ Paired (GBar H') (pairL rs (rs.take i) ++ meetL (rs.take j) one) ys)
          ⟨v5, ys, rfl, g1, e1, hq, by rw [List.take_zero, show meetL [] one = [] from rfl, List.append_nil]; exact hys⟩ (fun j σ H' _ ⟨_, _, _, g, _⟩ => SqT.of (g.tup hP hro)) ?_ ?_⟩
        · rintro j v σ H2 hj ⟨v5, ys, rfl, g2, e12, hq, hacc⟩
          obtain ⟨o, ho, hr2⟩ := Paired.at hrs hj
          have hr2' := hr2.grew g2 hP
          obtain ⟨t2, u2, h2, rfl, e2, _, _⟩ := hr2'
          have hjl := (List.getElem?_eq_some_iff.mp ho).1
          have la := Paired.len hacc
          have lm := meetL_len (rs.take j) one
          rw [List.length_take] at lm
          rw [List.length_append] at la
          have et : meetL (rs.take (j + 1)) one = meetL (rs.take j) one ++ (if decide (one.goal = o.start) = true then [(one.name, o.name)] else []) := by
            unfold meetL
            have e0 : rs.take (j + 1) = rs.take j ++ [o] := by rw [List.take_succ, ho]; rfl
            rw [e0, List.filter_append, List.map_append, List.filter_cons]
            split <;> rfl
          refine ⟨_, rfl, t1, _, 2, _, rfl, rfl, SqT.of e12, rfl, _, rfl, t2, _, 1, _, rfl, rfl, SqT.of e2, rfl, rfl, _, rfl, ?_⟩
          by_cases c : one.goal = o.start
          · rw [if_pos (decide_eq_true c)] at et
            refine if_t (decide_eq_true (congrArg V.str c)) ?_
            refine ⟨_, rfl, .inl ⟨rfl, _, SqL.of hq⟩, _, rfl, t1, _, 0, _, rfl, rfl, SqT.of e12, rfl, _, rfl, t2, _, 0, _, rfl, rfl, SqT.of e2, rfl, by show 2 ≤ sizeLine; decide, fun tp ntp => ?_⟩
            have gt := Grew.new g2.tab (o := .tup [.str one.name, .str o.name]) ntp
            have hq3 := gt.lst g2.tab hq
            have htp : (L2.upd H2 tp (.tup [.str one.name, .str o.name])) tp = some (.tup [.str one.name, .str o.name]) := upd_same
            have e13 := gt.tup g2.tab e12
            generalize L2.upd H2 tp (.tup [.str one.name, .str o.name]) = H3 at gt hq3 htp e13
            have kp : ∀ {b : Str × Str} {v : V}, GBar H3 b v → GBar (L2.upd H3 p0 (.lst (ys ++ [.ref tp]))) b v := fun {b v} ⟨t, a, m⟩ => ⟨t, a, by rw [upd_ne (fun z => by rw [z, hq3] at m; cases m)]; exact m⟩
            refine ⟨p0, ys, _, rfl, rfl, hq3, by rw [sizeLine_eq]; omega, _, _, rfl, (g2.trans gt).write hq3 (fun _ z => by cases z) np0, by rw [upd_ne (fun z => by rw [z, hq3] at e13; cases e13)]; exact e13, upd_same, ?_⟩
            rw [et, ← List.append_assoc]
            exact Paired.snoc (Paired.map' hacc fun b v m => kp (m.grew gt g2.tab)) (kp ⟨tp, rfl, htp⟩)
          · rw [if_neg (by rw [decide_eq_true_iff]; exact c), List.append_nil] at et
            exact if_f (decide_eq_false (fun e => c (V.str.inj e))) ⟨_, ys, rfl, g2, e12, hq, by rw [et]; exact hacc⟩
        · rintro σ H2 ⟨v5, ys, rfl, g2, _, hq, hacc⟩
          rw [← lx, List.take_length] at hacc
          have et : pairL rs (rs.take (i + 1)) = pairL rs (rs.take i) ++ meetL rs one := by
            unfold pairL
            rw [List.take_succ, hone, List.flatMap_append]
            simp
          exact ⟨_, _, ys, rfl, g2, hq, by rw [et]; exact hacc⟩
      · rintro σ H' ⟨v4, v5, ys, rfl, g, hq, hys⟩
        rw [← lx, List.take_length] at hys
        exact ⟨p0, v4, v5, ys, rfl, g, hq, hys⟩
    rintro σ H1 ⟨q, v4, v5, ys, rfl, g1, hq, hys⟩
    have ly := Paired.len hys
    have lpp := pairL_len rs rs
    have b1 : (pairL rs rs).length ≤ 12 * 12 := Nat.le_trans lpp (Nat.mul_le_mul lr lr)
    have ndp := pairL_nd nd nd
    have okp : ∀ b ∈ pairL rs rs, ∃ r1 ∈ rs, ∃ r2 ∈ rs, b.1 = r1.name ∧ b.2 = r2.name ∧ r1.goal = r2.start := fun b hb => pairL_ok hb
    generalize pairL rs rs = PL at hys ly b1 ndp okp
    -- chosen
    refine ⟨Nat.zero_le _, fun ch nch => ?_⟩
    have gc := Grew.new g1.tab (o := .lst []) nch
    have hch : (L2.upd H1 ch (.lst [])) ch = some (.lst []) := upd_same
    have hq2 := gc.lst g1.tab hq
    generalize L2.upd H1 ch (.lst []) = H2 at gc hch hq2
    refine ⟨fun σ H' => ∃ (v6 : Option V) (bs : List (Str × Str)) (zs : List V), σ = [some (.ref a), some (.int at_), some (.ref ro), some (.ref q), v4, v5, some (.ref ch), v6] ∧ Grew P H1 H' ∧ H' ch = some (.lst zs) ∧ Paired (GBar H') bs zs ∧ bs.Sublist PL ∧ bs.length ≤ 40, ?_, ?_⟩
    · refine ⟨_, rfl, q, _, rfl, .inl (SqL.of hq2), (ys.length : Int), rfl, by omega, by omega, for_range (n := ys.length) (fun i σ H' => ∃ (v6 : Option V) (bs : List (Str × Str)) (zs : List V), σ = [some (.ref a), some (.int at_), some (.ref ro), some (.ref q), v4, v5, some (.ref ch), v6] ∧ Grew P H1 H' ∧ H' ch = some (.lst zs) ∧ Paired (GBar H') bs zs ∧ bs.Sublist (PL.take i) ∧ bs.length ≤ 40)
        ⟨none, [], [], rfl, gc, hch, .nil, List.nil_sublist _, Nat.zero_le _⟩ ?_ ?_⟩
      · rintro i σ H3 hi ⟨v6, bs, zs, rfl, g3, hz, hbz, hsub, l40⟩
        rw [Int.zero_add]
        have m7 : 0 ≤ (i : Int) % 7 := Int.emod_nonneg _ (by decide)
        have m7' : (i : Int) % 7 < 7 := Int.emod_lt_of_pos _ (by decide)
        obtain ⟨n0, e0, l0, u0⟩ := at_num hsm (i := at_ + (i : Int) % 7) (by omega) (by omega)
        have hi2 : i < PL.length := by omega
        have hyi : ys[i]? = some (ys[i]'hi) := List.getElem?_eq_getElem hi
        generalize ys[i]'hi = yv at hyi
        obtain ⟨b, hb, hbv⟩ := Paired.at hys hyi
        have tk : PL.take (i + 1) = PL.take i ++ [b] := by rw [List.take_succ, hb]; rfl
        have lz := Paired.len hbz
        have skip : ∃ (v6 : Option V) (bs : List (Str × Str)) (zs : List V), ([some (.ref a), some (.int at_), some (.ref ro), some (.ref q), v4, v5, some (.ref ch), some (.int (i : Int))] : L2.St) = [some (.ref a), some (.int at_), some (.ref ro), some (.ref q), v4, v5, some (.ref ch), v6] ∧ Grew P H1 H3 ∧ H3 ch = some (.lst zs) ∧ Paired (GBar H3) bs zs ∧ bs.Sublist (PL.take (i + 1)) ∧ bs.length ≤ 40 :=
          ⟨_, bs, zs, rfl, g3, hz, hbz, hsub.trans (by rw [tk]; exact List.sublist_append_left _ _), l40⟩
        refine ⟨_, rfl, _, rfl, _, rfl, _, _, rfl, rfl, (show (0 : Int) < 7 by decide), _, _, rfl, rfl, a, _, _, _, rfl, rfl, (g1.trans g3).sqL hP hS, e0, _, rfl, _, _, rfl, rfl, .inl ⟨by decide, by decide⟩, _, _, rfl, rfl, .inl ⟨_, rfl, _, _, rfl, rfl, (show (0 : Int) < 6 by decide), rfl, _, rfl, ?_⟩⟩
        refine ite2 (fun _ => ?_) (fun _ => skip)
        refine ⟨_, rfl, ch, _, rfl, .inl (SqL.of hz), _, _, rfl, rfl, _, rfl, ?_⟩
        refine ite2 (fun c => ?_) (fun _ => skip)
        have c' : (zs.length : Int) < 40 := of_decide_eq_true c
        refine ⟨_, rfl, .inl ⟨rfl, _, SqL.of hz⟩, _, rfl, _, rfl, q, _, _, _, rfl, rfl, SqL.of (g3.lst g1.tab hq), atI_nat hyi, ch, _, _, rfl, rfl, hz, by rw [sizeLine_eq]; omega, ?_⟩
        have kp : ∀ {b : Str × Str} {v : V}, GBar H3 b v → GBar (L2.upd H3 ch (.lst (zs ++ [yv]))) b v := fun {b v} ⟨t, a, m⟩ => ⟨t, a, by rw [upd_ne (fun z => by rw [z, hz] at m; cases m)]; exact m⟩
        refine ⟨_, bs ++ [b], zs ++ [yv], rfl, g3.write hz (fun _ z => by cases z) nch, upd_same, Paired.snoc (Paired.map' hbz fun b v m => kp m) (kp (hbv.grew g3 g1.tab)), ?_, ?_⟩
        · rw [tk]; exact hsub.append (List.Sublist.refl _)
        · rw [List.length_append, List.length_singleton]; omega
      · rintro σ H' ⟨v6, bs, zs, rfl, g, hz, hbz, hsub, l40⟩
        exact ⟨v6, bs, zs, rfl, g, hz, hbz, hsub.trans (List.take_sublist _ _), l40⟩
    rintro σ H3 ⟨v6, bs, zs, rfl, g3, hz, hbz, hsub, l40⟩
    have g13 := g1.trans g3
    refine ⟨_, rfl, ch, zs, barAt H3, rfl, SqL.of hz, fun x hx => ?_, fun ws l hpm hso hl => ⟨l, _, rfl, .inl ⟨SqL.of upd_same, fun p hp2 => ?_⟩⟩⟩
    · obtain ⟨b, _, m⟩ := Paired.mem hbz hx
      have nm := m.at
      obtain ⟨t, e, q⟩ := m
      exact ⟨t, e, by rw [nm]; exact SqT.of q⟩
    · obtain ⟨bs', pm, hr'⟩ := Paired.perm hpm hbz
      have gl := Grew.new g13.tab (o := .lst ws) hl
      have gp := gl.put (o := .tup ws) hp2
      refine k _ p bs' ws (g13.trans gp) (g13.free (gl.free hp2)) upd_same (Paired.map' hr' fun _ _ m => m.grew gp g13.tab) (Paired.pair (fun a b x y m m' e => by rw [m.at, m'.at] at e; exact e) hr' hso) ⟨?_, ?_, fun b hb => okp b (hsub.subset (pm.mem_iff.mp hb))⟩
      · rw [pm.length_eq]; exact l40
      · exact pm.nodup_iff.mpr (ndp.sublist hsub)
end
end W

set_option Elab.async false
set_option linter.all false
set_option maxRecDepth 100000
set_option maxHeartbeats 1000000
namespace W
open PySem PySem.Spec PyProof.Rows L2 GxR MyG MyS
/-! ### _law_parts (of tuples) -/
/-- parts whose kinds, places, roads and bars are tuples -/
def PartsT (K : PySem.W.Frag) (H : Hp) (p : Addr) (d : Int) (ks ps : List Str) (rs : List RoadD) (bs : List (Str × Str)) : Prop := ∃ ki pl ro ba xs zs, H p = some (.lst [.int d, .ref ki, .ref pl, .ref ro, .ref ba]) ∧
  H ki = some (.tup (ks.map V.str)) ∧ H pl = some (.tup (ps.map V.str)) ∧ H ro = some (.tup xs) ∧ Paired (RoadAt K H) rs xs ∧ H ba = some (.tup zs) ∧ Paired (GBar H) bs zs
theorem PartsT.grew {K : PySem.W.Frag} {P : Addr} {H H' : Hp} {p : Addr} {d : Int} {ks ps : List Str} {rs : List RoadD} {bs : List (Str × Str)} (m : PartsT K H p d ks ps rs bs) (g : Grew P H H') (h : TabG H P) : PartsT K H' p d ks ps rs bs := by
  obtain ⟨ki, pl, ro, ba, xs, zs, e0, e1, e2, e3, e4, e5, e6⟩ := m
  exact ⟨ki, pl, ro, ba, xs, zs, g.lst h e0, g.tup h e1, g.tup h e2, g.tup h e3, Paired.map' e4 fun _ _ m => m.grew g h, g.tup h e5, Paired.map' e6 fun _ _ m => m.grew g h⟩
def spLPartsG (K : PySem.W.Frag) (P : Addr) : Sp := fun vs H Q _ => ∃ (a : Addr) (ns : List Int) (at_ : Int), vs = [.ref a, .int at_] ∧ SqL K H a (ns.map V.int) ∧ Sm ns ∧ 0 ≤ at_ ∧ at_ + 97 ≤ ns.length ∧ TabG H P ∧
  ∀ H' p d ks ps rs bs, Grew P H H' → H p = none → PartsT K H' p d ks ps rs bs → PartsOk d ks ps rs bs → Asc ks → Asc ps → AscR rs → AscB bs → 2 ≤ ps.length → 1 ≤ rs.length → rs.length ≤ 8 → (∀ r ∈ rs, Asc r.users) → ks.length ≤ 2 → Q (.ref p) H'
theorem day4 (x j : Int) (h0 : 0 ≤ j) (h3 : j < 4) (a : 1 ≤ x) (b : x ≤ 1440) : ∃ c : Int, atI [V.int x, V.int 24, V.int 1440, V.int x] j = some (.int c) ∧ 1 ≤ c ∧ c ≤ 1440 := by
  have : j = 0 ∨ j = 1 ∨ j = 2 ∨ j = 3 := by omega
  rcases this with rfl | rfl | rfl | rfl
  · exact ⟨_, rfl, a, b⟩
  · exact ⟨_, rfl, by decide, by decide⟩
  · exact ⟨_, rfl, by decide, by decide⟩
  · exact ⟨_, rfl, a, b⟩
section
variable {Pg : Program} {w : World} {K : PySem.W.Frag} {mg : Str → Option Value} {base : Heap} {C P : Addr}
abbrev nPartsG : List Str := ["numbers", "at", "day", "kinds", "places", "names", "roads", "k"]
theorem scPartsG : FnScope nPartsG ["numbers", "at"] (defScope sLPartsG) := ⟨rfl, rfl, rfl, by decide +kernel, rfl, by decide +kernel, by decide +kernel⟩
theorem ok_lpartsG {f fN fR fB : Addr} {fd fdN fdR fdB : FuncData} (F : Fun K "_law_parts" "_law_parts" sLPartsG f fd) (hi : mg "int" = none) (ht : mg "tuple" = none) (hr' : mg "range" = none) (hs : mg "sorted" = none)
    (GN : FnOk Pg w K mg base CX0 1 fN fdN ["number", "many"] (spLNames P)) (gN : mg "_law_names" = some (.ref fN)) (kN : PySem.W.keepIn K (.ref fN) = true) (bN : Binds K fdN ["number", "many"] [])
    (GR : FnOk Pg w K mg base CX0 2 fR fdR ["numbers", "at", "name", "day", "kinds", "places"] (spLRoadG K P)) (gR : mg "_law_road" = some (.ref fR)) (kR : PySem.W.keepIn K (.ref fR) = true) (bR : Binds K fdR ["numbers", "at", "name", "day", "kinds", "places"] [])
    (GB : FnOk Pg w K mg base CX0 1 fB fdB ["numbers", "at", "roads"] (spLBarsG K P)) (gB : mg "_law_bars" = some (.ref fB)) (kB : PySem.W.keepIn K (.ref fB) = true) (bB : Binds K fdB ["numbers", "at", "roads"] []) :
    FnOk Pg w K mg base CX0 3 f fd ["numbers", "at"] (spLPartsG K P) := by
  refine F.ok scPartsG (fun vs H Q E h => ?_) (fun cdv A outer s H vs Q E hr h => ?_)
  · obtain ⟨a, ns, at_, rfl, _⟩ := h
    rfl
  · obtain ⟨a, ns, at_, rfl, hS, hsm, ha0, ha1, hP, k⟩ := h
    refine ⟨_, C8.pss_cut (ps_set (i := 2) scPartsG.nd rfl (Or.inl rfl) (pe_ix ix_tup (pe_tup (pa_cons (pe_op op_add pe_int (pe_op op_mod (pe_callTy call_int1 (by rfl) hi (by decide +kernel) (pa_cons (pe_ix ix_list (pv 0) (pv 1) (fun _ _ => rfl)) pa_nil)) pe_int)) (pa_cons pe_int (pa_cons pe_int (pa_cons (pe_op op_add pe_int (pe_op op_mod (pe_callTy call_int1 (by rfl) hi (by decide +kernel) (pa_cons (pe_ix ix_list (pv 0) (pv 1) (fun _ _ => rfl)) pa_nil)) pe_int)) pa_nil)))))
        (pe_op op_mod (pe_callTy call_int1 (by rfl) hi (by decide +kernel) (pa_cons (pe_ix ix_list (pv 0) (pe_op op_add (pv 1) pe_int) (fun _ _ => rfl)) pa_nil)) pe_int) (fun _ _ => rfl)))
      (C8.pss_cut (ps_set (i := 3) scPartsG.nd rfl (Or.inl rfl) (pe_callTy call_tuple_of (by rfl) ht (by decide +kernel) (pa_cons (pe_callB cr_sortSQ (by rfl) hs (by decide +kernel) (pa_cons (pe_call GN (hr.mono (by decide)) (by rfl) gN kN bN .nil pass0 (pa_cons (pe_ix ix_list (pv 0) (pe_op op_add (pv 1) pe_int) (fun _ _ => rfl)) (pa_cons (pe_op op_add pe_int (pe_op op_mod (pe_callTy call_int1 (by rfl) hi (by decide +kernel) (pa_cons (pe_ix ix_list (pv 0) (pe_op op_add (pv 1) pe_int) (fun _ _ => rfl)) pa_nil)) pe_int)) pa_nil))) pa_nil)) pa_nil)))
      (C8.pss_cut (ps_set (i := 4) scPartsG.nd rfl (Or.inl rfl) (pe_callTy call_tuple_of (by rfl) ht (by decide +kernel) (pa_cons (pe_callB cr_sortSQ (by rfl) hs (by decide +kernel) (pa_cons (pe_call GN (hr.mono (by decide)) (by rfl) gN kN bN .nil pass0 (pa_cons (pe_ix ix_list (pv 0) (pe_op op_add (pv 1) pe_int) (fun _ _ => rfl)) (pa_cons (pe_op op_add pe_int (pe_op op_mod (pe_callTy call_int1 (by rfl) hi (by decide +kernel) (pa_cons (pe_ix ix_list (pv 0) (pe_op op_add (pv 1) pe_int) (fun _ _ => rfl)) pa_nil)) pe_int)) pa_nil))) pa_nil)) pa_nil)))
      (C8.pss_cut (ps_set (i := 5) scPartsG.nd rfl (Or.inl rfl) (pe_call GN (hr.mono (by decide)) (by rfl) gN kN bN .nil pass0 (pa_cons (pe_ix ix_list (pv 0) (pe_op op_add (pv 1) pe_int) (fun _ _ => rfl)) (pa_cons pe_int pa_nil))))
      (pss_cons (ps_set (i := 6) scPartsG.nd rfl (Or.inl rfl) (pe_lst pa_nil))
      (C8.pss_cut (ps_for PassesOwn.never rfl (pi_range1 rfl hr' (pa_cons (pe_op op_add pe_int (pe_op op_mod (pe_callTy call_int1 (by rfl) hi (by decide +kernel) (pa_cons (pe_ix ix_list (pv 0) (pe_op op_add (pv 1) pe_int) (fun _ _ => rfl)) pa_nil)) pe_int)) pa_nil)) (pg_name (i := 7) scPartsG.nd rfl (Or.inl rfl))
        (pss_one (ps_expr (pe_bm PySem.F.plainAttrs_list PySem.F.slot_list_append PySem.F.type_list_append mt_append (pv 6) (pa_cons (pe_call GR hr (by rfl) gR kR bR .nil pass0 (pa_cons (pv 0) (pa_cons (pe_op op_add (pe_op op_add (pv 1) pe_int) (pe_op op_mul pe_int (pv 7))) (pa_cons (pe_ix ix_list (pv 5) (pv 7) (fun _ _ => rfl)) (pa_cons (pv 2) (pa_cons (pv 3) (pa_cons (pv 4) pa_nil))))))) pa_nil)))))
      (C8.pss_cut (ps_set (i := 6) scPartsG.nd rfl (Or.inl rfl) (pe_callTy call_tuple_of (by rfl) ht (by decide +kernel) (pa_cons (pe_callB cr_sortR (by rfl) hs (by decide +kernel) (pa_cons (pv 6) pa_nil)) pa_nil)))
      (pss_one (ps_ret (pe_lst (pa_cons (pv 2) (pa_cons (pv 3) (pa_cons (pv 4) (pa_cons (pv 6) (pa_cons (pe_call GB (hr.mono (by decide)) (by rfl) gB kB bB .nil pass0 (pa_cons (pv 0) (pa_cons (pe_op op_add (pv 1) pe_int) (pa_cons (pv 6) pa_nil)))) pa_nil)))))))))))))), ?_⟩
    have num : ∀ {j : Int}, 0 ≤ j → j < at_ + 97 → ∃ n, atI (ns.map V.int) j = some (.int n) ∧ 0 ≤ n ∧ n < 1009 := fun h0 h1 => at_num hsm h0 (by omega)
    obtain ⟨n0, e0, l0, u0⟩ := num (j := at_) (by omega) (by omega)
    obtain ⟨n1, e1, l1, u1⟩ := num (j := at_ + 1) (by omega) (by omega)
    obtain ⟨n2, e2, l2, u2⟩ := num (j := at_ + 2) (by omega) (by omega)
    obtain ⟨n3, e3, l3, u3⟩ := num (j := at_ + 3) (by omega) (by omega)
    obtain ⟨n4, e4, l4, u4⟩ := num (j := at_ + 4) (by omega) (by omega)
    obtain ⟨n5, e5, l5, u5⟩ := num (j := at_ + 5) (by omega) (by omega)
    obtain ⟨n6, e6, l6, u6⟩ := num (j := at_ + 6) (by omega) (by omega)
    obtain ⟨n7, e7, l7, u7⟩ := num (j := at_ + 7) (by omega) (by omega)
    have A0 : L2.start nPartsG [.ref a, .int at_] = [some (.ref a), some (.int at_), none, none, none, none, none, none] := rfl
    -- day
    refine ⟨fun σ H' => ∃ d : Int, σ = [some (.ref a), some (.int at_), some (.int d), none, none, none, none, none] ∧ Grew P H H' ∧ 1 ≤ d ∧ d ≤ 1440, ?_, ?_⟩
    · obtain ⟨c, ec, c1, c2⟩ := day4 (1 + n0 % 24) (n1 % 4) (Int.emod_nonneg _ (by decide)) (Int.emod_lt_of_pos _ (by decide)) (by omega) (by omega)
      refine ⟨_, rfl, _, rfl, a, _, _, _, rfl, rfl, hS, e0, .inl ⟨_, rfl, _, _, rfl, rfl, (show (0 : Int) < 24 by decide), _, _, rfl, rfl, ?_⟩⟩
      refine ⟨_, rfl, _, rfl, a, _, _, _, rfl, rfl, hS, e0, .inl ⟨_, rfl, _, _, rfl, rfl, (show (0 : Int) < 24 by decide), _, _, rfl, rfl, by show 4 ≤ sizeLine; decide, fun T nT => ?_⟩⟩
      have gT := Grew.new hP (o := .tup [V.int (1 + n0 % 24), V.int 24, V.int 1440, V.int (1 + n0 % 24)]) nT
      exact ⟨_, rfl, _, rfl, _, _, rfl, rfl, a, _, _, _, rfl, rfl, gT.sqL hP hS, e1, .inl ⟨_, rfl, _, _, rfl, rfl, (show (0 : Int) < 4 by decide), T, _, _, _, rfl, rfl, SqT.of upd_same, ec, c, rfl, gT, c1, c2⟩⟩
    rintro σ H1 ⟨d, rfl, g1, d1, d2⟩
    -- kinds
    refine ⟨fun σ H' => ∃ (ki : Addr) (ks : List Str), σ = [some (.ref a), some (.int at_), some (.int d), some (.ref ki), none, none, none, none] ∧ Grew P H1 H' ∧ H' ki = some (.tup (ks.map V.str)) ∧ 1 ≤ ks.length ∧ ks.length ≤ 2 ∧ ks.all isNm = true ∧ ks.Nodup ∧ Asc ks, ?_, ?_⟩
    · refine ⟨_, rfl, _, rfl, _, _, rfl, rfl, a, _, _, _, rfl, rfl, g1.sqL hP hS, e2, _, rfl, _, rfl, _, _, rfl, rfl, a, _, _, _, rfl, rfl, g1.sqL hP hS, e3, .inl ⟨_, rfl, _, _, rfl, rfl, (show (0 : Int) < 2 by decide), _, _, rfl, rfl,
        n2, (1 + n3 % 2).toNat, congrArg (fun z => [V.int n2, V.int z]) (Int.toNat_of_nonneg (show 0 ≤ 1 + n3 % 2 by omega)).symm, l2, by omega, g1.tab, fun Ha ki ks ga nki eki lks aks dks => ?_⟩⟩
      refine ⟨_, ks, rfl, .inl (SqL.of eki), fun ys l pm asc nl => ⟨l, _, rfl, .inl ⟨SqL.of upd_same, fun q nq => ?_⟩⟩⟩
      have gl := Grew.new ga.tab (o := .lst (ys.map V.str)) nl
      have gq := gl.put (o := .tup (ys.map V.str)) nq
      refine ⟨q, ys, rfl, ga.trans gq, upd_same, ?_, ?_, ?_, pm.nodup_iff.mpr dks, asc⟩
      · rw [pm.length_eq, lks]; omega
      · rw [pm.length_eq, lks]; omega
      · exact List.all_eq_true.mpr fun z hz => List.all_eq_true.mp aks z (pm.mem_iff.mp hz)
    rintro σ H2 ⟨ki, ks, rfl, g2, hki, k1, k2, aks, dks, sks⟩
    have g02 := g1.trans g2
    -- places
    refine ⟨fun σ H' => ∃ (pl : Addr) (ps : List Str), σ = [some (.ref a), some (.int at_), some (.int d), some (.ref ki), some (.ref pl), none, none, none] ∧ Grew P H2 H' ∧ H' pl = some (.tup (ps.map V.str)) ∧ 2 ≤ ps.length ∧ ps.length ≤ 5 ∧ ps.all isNm = true ∧ ps.Nodup ∧ Asc ps, ?_, ?_⟩
    · refine ⟨_, rfl, _, rfl, _, _, rfl, rfl, a, _, _, _, rfl, rfl, g02.sqL hP hS, e4, _, rfl, _, rfl, _, _, rfl, rfl, a, _, _, _, rfl, rfl, g02.sqL hP hS, e5, .inl ⟨_, rfl, _, _, rfl, rfl, (show (0 : Int) < 4 by decide), _, _, rfl, rfl,
        n4, (2 + n5 % 4).toNat, congrArg (fun z => [V.int n4, V.int z]) (Int.toNat_of_nonneg (show 0 ≤ 2 + n5 % 4 by omega)).symm, l4, by omega, g02.tab, fun Ha ki ks ga nki eki lks aks dks => ?_⟩⟩
      refine ⟨_, ks, rfl, .inl (SqL.of eki), fun ys l pm asc nl => ⟨l, _, rfl, .inl ⟨SqL.of upd_same, fun q nq => ?_⟩⟩⟩
      have gl := Grew.new ga.tab (o := .lst (ys.map V.str)) nl
      have gq := gl.put (o := .tup (ys.map V.str)) nq
      refine ⟨q, ys, rfl, ga.trans gq, upd_same, ?_, ?_, ?_, pm.nodup_iff.mpr dks, asc⟩
      · rw [pm.length_eq, lks]; omega
      · rw [pm.length_eq, lks]; omega
      · exact List.all_eq_true.mpr fun z hz => List.all_eq_true.mp aks z (pm.mem_iff.mp hz)
    rintro σ H3 ⟨pl, ps, rfl, g3, hpl, p1, p2, aps, dps, sps⟩
    have g03 := g02.trans g3
    have hki3 := g3.tup g02.tab hki
    -- names
    refine ⟨fun σ H' => ∃ (nm : Addr) (names : List Str), σ = [some (.ref a), some (.int at_), some (.int d), some (.ref ki), some (.ref pl), some (.ref nm), none, none] ∧ Grew P H3 H' ∧ H' nm = some (.lst (names.map V.str)) ∧ names.length = 8 ∧ names.all isNm = true ∧ names.Nodup, ?_, ?_⟩
    · exact ⟨_, rfl, _, rfl, _, _, rfl, rfl, a, _, _, _, rfl, rfl, g03.sqL hP hS, e6, n6, 8, rfl, l6, by decide, g03.tab, fun Ha q names ga nq eq lq aq dq => ⟨q, names, rfl, ga, eq, lq, aq, dq⟩⟩
    rintro σ H4 ⟨nm, names, rfl, g4, hnm, lnm, anm, dnm⟩
    have g04 := g03.trans g4
    have hki4 := g4.tup g03.tab hki3
    have hpl4 := g4.tup g03.tab hpl
    -- roads
    refine ⟨Nat.zero_le _, fun ro nro => ?_⟩
    have gr := Grew.new g04.tab (o := .lst []) nro
    have hro : (L2.upd H4 ro (.lst [])) ro = some (.lst []) := upd_same
    generalize L2.upd H4 ro (.lst []) = H5 at gr hro
    have nro0 : H ro = none := g04.free nro
    have m8 : 0 ≤ n7 % 8 := Int.emod_nonneg _ (by decide)
    have m8' : n7 % 8 < 8 := Int.emod_lt_of_pos _ (by decide)
    refine ⟨fun σ H' => ∃ (v7 : Option V) (rs : List RoadD) (xs : List V), σ = [some (.ref a), some (.int at_), some (.int d), some (.ref ki), some (.ref pl), some (.ref nm), some (.ref ro), v7] ∧ Grew P H4 H' ∧ H' ro = some (.lst xs) ∧ Paired (RoadAt K H') rs xs ∧ (∀ r ∈ rs, RoadOk d ps ks r ∧ r.users.Sublist ks) ∧ rs.map (·.name) = names.take rs.length ∧ 1 ≤ rs.length ∧ rs.length ≤ 8, ?_, ?_⟩
    · refine ⟨_, rfl, _, rfl, _, _, rfl, rfl, a, _, _, _, rfl, rfl, (g04.trans gr).sqL hP hS, e7, .inl ⟨_, rfl, _, _, rfl, rfl, (show (0 : Int) < 8 by decide), _, _, rfl, rfl, 1 + n7 % 8, rfl, by omega, by omega,
        for_range (n := (1 + n7 % 8).toNat) (fun i σ H' => ∃ (v7 : Option V) (rs : List RoadD) (xs : List V), σ = [some (.ref a), some (.int at_), some (.int d), some (.ref ki), some (.ref pl), some (.ref nm), some (.ref ro), v7] ∧ Grew P H4 H' ∧ H' ro = some (.lst xs) ∧ Paired (RoadAt K H') rs xs ∧ (∀ r ∈ rs, RoadOk d ps ks r ∧ r.users.Sublist ks) ∧ rs.map (·.name) = names.take i ∧ rs.length = i)
          ⟨none, [], [], rfl, gr, hro, .nil, fun r hr => absurd hr (by simp), rfl, rfl⟩ ?_ ?_⟩⟩
      · rintro i σ H6 hi ⟨v7, rs, xs, rfl, g6, hxs, hrs, hok, hnms, lrs⟩
        rw [Int.zero_add]
        have hi8 : i < names.length := by omega
        have g06 := g04.trans g6
        have en : names[i]? = some names[i] := List.getElem?_eq_getElem hi8
        refine ⟨_, rfl, .inl ⟨rfl, _, SqL.of hxs⟩, ?_⟩
        refine ⟨_, rfl, _, rfl, _, _, rfl, rfl, _, rfl, _, _, rfl, rfl, .inl ⟨by decide, by decide⟩, _, _, rfl, rfl, _, rfl, _, rfl, nm, _, _, _, rfl, rfl, SqL.of (g6.lst g04.tab hnm), atI_nat (by rw [List.getElem?_map, en]; rfl), _, rfl, _, rfl, _, rfl,
          a, ki, pl, ns, at_ + 8 + 10 * (i : Int), d, names[i], ks, ps, rfl, g06.sqL hP hS, hsm, by omega, by omega, d1, g6.tup g04.tab hki4, g6.tup g04.tab hpl4, by omega, by omega, dks, g06.tab, fun H7 r t g7 nt hr hn hro7 hsub7 => ?_⟩
        have hxs7 := g7.lst g06.tab hxs
        have lx := Paired.len hrs
        have up : ∀ {r : RoadD} {v : V}, RoadAt K H7 r v → RoadAt K (L2.upd H7 ro (.lst (xs ++ [.ref t]))) r v := fun m => m.upd (fun xs z => by rw [hxs7] at z; cases z) (KeepT.lst hxs7)
        refine ⟨ro, _, .ref t, rfl, rfl, hxs7, by rw [sizeLine_eq]; omega, _, rs ++ [r], xs ++ [.ref t], rfl, (g6.trans g7).write hxs7 (fun _ z => by cases z) nro, upd_same, Paired.snoc (Paired.map' hrs fun r v m => up (m.grew g7 g06.tab)) (up hr), ?_, ?_, ?_⟩
        · intro y hy
          rcases List.mem_append.mp hy with hy | hy
          · exact hok y hy
          · rw [List.mem_singleton.mp hy]; exact ⟨hro7, hsub7⟩
        · rw [List.map_append, hnms, List.take_succ, en]
          show _ ++ [r.name] = _
          rw [hn]
          rfl
        · rw [List.length_append, lrs]; rfl
      · rintro σ H' ⟨v7, rs, xs, rfl, g6, hxs, hrs, hok, hnms, lrs⟩
        exact ⟨v7, rs, xs, rfl, g6, hxs, hrs, hok, by rw [hnms, lrs], by omega, by omega⟩
    rintro σ H6 ⟨v7, rs, xs, rfl, g6, hxs, hrs, hok, hnms, r1, r8⟩
    have g06 := g04.trans g6
    have nd : (rs.map (·.name)).Nodup := by rw [hnms]; exact dnm.sublist (List.take_sublist _ _)
    have nmA : (rs.map (·.name)).all isNm = true := by
      rw [hnms]
      exact List.all_eq_true.mpr fun z hz => List.all_eq_true.mp anm z (List.mem_of_mem_take hz)
    -- sorted
    refine ⟨fun σ H' => ∃ (ro2 : Addr) (rs2 : List RoadD) (ys : List V), σ = [some (.ref a), some (.int at_), some (.int d), some (.ref ki), some (.ref pl), some (.ref nm), some (.ref ro2), v7] ∧ Grew P H6 H' ∧ H' ro2 = some (.tup ys) ∧ Paired (RoadAt K H') rs2 ys ∧ rs2.Perm rs ∧ AscR rs2, ?_, ?_⟩
    · refine ⟨_, rfl, ro, xs, nameAt H6, rfl, SqL.of hxs, fun x hx => ?_, fun x hx y hy e => Paired.inj hrs nd hx hy fun r r' m m' => by rw [← m.name, ← m'.name]; exact e, fun ys l hpm hso hl => ⟨l, _, rfl, .inl ⟨SqL.of upd_same, fun p hp2 => ?_⟩⟩⟩
      · obtain ⟨r, _, m⟩ := Paired.mem hrs hx
        have nm := m.name
        obtain ⟨p, q, hv, e, e1, _⟩ := m
        exact ⟨p, _, e, by rw [nm]; exact SqT.of e1⟩
      · obtain ⟨rs', pm, hr'⟩ := Paired.perm hpm hrs
        have gl := Grew.new g06.tab (o := .lst ys) hl
        have gp := gl.put (o := .tup ys) hp2
        exact ⟨p, rs', ys, rfl, gp, upd_same, Paired.map' hr' fun _ _ m => m.grew gp g06.tab, pm, Paired.pair (fun a b x y m m' e => by rw [m.name, m'.name] at e; exact e) hr' hso⟩
    rintro σ H7 ⟨ro2, rs2, ys, rfl, g7, hys, hrs2, pm, asc⟩
    have g07 := g06.trans g7
    have hki7 := g7.tup g06.tab (g6.tup g04.tab hki4)
    have hpl7 := g7.tup g06.tab (g6.tup g04.tab hpl4)
    have nd2 : (rs2.map (·.name)).Nodup := (pm.map _).nodup_iff.mpr nd
    refine ⟨_, rfl, _, rfl, _, rfl, _, rfl, _, rfl, _, rfl, _, _, rfl, rfl, _, rfl, a, ro2, ns, at_ + 90, rs2, ys, rfl, g07.sqL hP hS, hsm, by omega, by omega, hys, hrs2, by rw [pm.length_eq]; omega, nd2, g07.tab, fun H8 ba bs zs g8 nba hba hzs ab bok => ?_⟩
    have g08 := g07.trans g8
    refine ⟨by show 5 ≤ sizeLine; decide, fun q nq => ?_⟩
    have gq := Grew.new g08.tab (o := .lst [V.int d, .ref ki, .ref pl, .ref ro2, .ref ba]) nq
    refine k _ q d ks ps rs2 bs (g08.trans gq) (g08.free nq) ⟨ki, pl, ro2, ba, ys, zs, upd_same, gq.tup g08.tab (g8.tup g07.tab hki7), gq.tup g08.tab (g8.tup g07.tab hpl7), gq.tup g08.tab (g8.tup g07.tab hys), Paired.map' hrs2 fun _ _ m => (m.grew g8 g07.tab).grew gq g08.tab, gq.tup g08.tab hba, Paired.map' hzs fun _ _ m => m.grew gq g08.tab⟩ ?_ sks sps asc ab p1 (by rw [pm.length_eq]; exact r1) (by rw [pm.length_eq]; exact r8) (fun r hr => sks.sublist (hok r (pm.mem_iff.mp hr)).2) k2
    refine ⟨d1, d2, k1, by omega, by omega, aks, aps, dks, dps, ⟨by rw [pm.length_eq]; omega, ?_, nd2, fun r hr => (hok r (pm.mem_iff.mp hr)).1⟩, bok⟩
    exact List.all_eq_true.mpr fun z hz => List.all_eq_true.mp nmA z ((pm.map _).mem_iff.mp hz)
end
end W

set_option Elab.async false
set_option linter.all false
set_option maxRecDepth 100000
set_option maxHeartbeats 2000000
namespace W
open PySem PySem.Spec PyProof.Rows L2 GxR MyG MyS SqX
/-! ### parts as a map keeps them: there is one way only -/
structure Srt (ks ps : List Str) (rs : List RoadD) (bs : List (Str × Str)) (ks' ps' : List Str) (rs' : List RoadD) (bs' : List (Str × Str)) : Prop where
  k : ks'.Perm ks
  ka : Asc ks'
  p : ps'.Perm ps
  pa : Asc ps'
  r : KeptAll rs rs'
  ra : AscR rs'
  b : bs'.Perm bs
  ba : AscB bs'
theorem asc_one {l m n : List Str} (h1 : l.Perm n) (h2 : m.Perm n) (a1 : Asc l) (a2 : Asc m) : l = m :=
  List.Perm.eq_of_pairwise (le := fun a b => slt b a = false) (fun a b _ _ x y => slt_tri y x) a1 a2 (h1.trans h2.symm)
theorem slt2_tri {a b : Str × Str} (h1 : slt2 a b = false) (h2 : slt2 b a = false) : a = b := by
  by_cases e : a.1 = b.1
  · rw [slt2_eq e] at h1
    rw [slt2_eq e.symm] at h2
    exact Prod.ext e (slt_tri h1 h2)
  · rw [slt2_ne e] at h1
    rw [slt2_ne (fun c => e c.symm)] at h2
    exact absurd (slt_tri h1 h2) e
theorem ascB_one {l m n : List (Str × Str)} (h1 : l.Perm n) (h2 : m.Perm n) (a1 : AscB l) (a2 : AscB m) : l = m :=
  List.Perm.eq_of_pairwise (le := fun a b => slt2 b a = false) (fun a b _ _ x y => slt2_tri y x) a1 a2 (h1.trans h2.symm)
theorem kept_one {r a b : RoadD} (h1 : Kept r a) (h2 : Kept r b) : a = b := by
  obtain ⟨a1, a2, a3, a4, a5, a6, a7⟩ := h1
  obtain ⟨b1, b2, b3, b4, b5, b6, b7⟩ := h2
  have e := asc_one a6 b6 a7 b7
  cases a
  cases b
  simp_all
theorem paired_one {α β : Type} {F : α → β → Prop} (u : ∀ a b c, F a b → F a c → b = c) : ∀ {l : List α} {m n : List β}, Paired F l m → Paired F l n → m = n
  | _, _, _, .nil, h => by cases h; rfl
  | _, _, _, .cons x r, h => by
    cases h with
    | cons y s => rw [u _ _ _ x y, paired_one u r s]
theorem roads_one {rs l m : List RoadD} (nd : (rs.map (·.name)).Nodup) (h1 : KeptAll rs l) (h2 : KeptAll rs m) (a1 : AscR l) (a2 : AscR m) : l = m := by
  have n1 := h1.nodup nd
  obtain ⟨x, px, qx⟩ := h1
  obtain ⟨y, py, qy⟩ := h2
  have e : x = y := paired_one (F := Kept) (fun _ _ _ a b => kept_one a b) qx qy
  subst e
  have pm : l.Perm m := px.symm.trans py
  exact List.Perm.eq_of_pairwise (le := fun a b : RoadD => slt b.name a.name = false) (fun a b ha hb p q => uniqN n1 ha (pm.mem_iff.mpr hb) (slt_tri q p)) a1 a2 pm
theorem Srt.one {ks ps ks1 ps1 ks2 ps2 : List Str} {rs rs1 rs2 : List RoadD} {bs bs1 bs2 : List (Str × Str)} (nd : (rs.map (·.name)).Nodup) (h1 : Srt ks ps rs bs ks1 ps1 rs1 bs1) (h2 : Srt ks ps rs bs ks2 ps2 rs2 bs2) : ks1 = ks2 ∧ ps1 = ps2 ∧ rs1 = rs2 ∧ bs1 = bs2 :=
  ⟨asc_one h1.k h2.k h1.ka h2.ka, asc_one h1.p h2.p h1.pa h2.pa, roads_one nd h1.r h2.r h1.ra h2.ra, ascB_one h1.b h2.b h1.ba h2.ba⟩
/-! ### data -/
def pairP (p : Int × Int) : PyData := .tuple [.int p.1, .int p.2]
def hoursP : Option (List (Int × Int)) → PyData
  | none => .none
  | some gs => .tuple (gs.map pairP)
def roadP (r : RoadD) : PyData := .tuple [.str r.name, .str r.start, .str r.goal, .int r.minutes, .tuple (r.users.map .str), hoursP r.hours]
def barP (b : Str × Str) : PyData := .tuple [.str b.1, .str b.2]
theorem dpAll_of {α : Type} {F : α → V → Prop} {f : α → PyData} {K : PySem.W.Frag} {H : Hp} (u : ∀ a v, F a v → Dp K H v (f a)) : ∀ {l : List α} {xs : List V}, Paired F l xs → DpAll K H xs (l.map f)
  | _, _, .nil => .nil
  | _, _, .cons a r => .cons (u _ _ a) (dpAll_of u r)
theorem dpAll_strs {K : PySem.W.Frag} {H : Hp} : ∀ ns : List Str, DpAll K H (ns.map V.str) (ns.map PyData.str)
  | [] => .nil
  | n :: ns => .cons (.str n) (dpAll_strs ns)
theorem GPair.dp {K : PySem.W.Frag} {H : Hp} {p : Int × Int} {v : V} (h : GPair K H p v) : Dp K H v (pairP p) := by
  obtain ⟨t, rfl, e⟩ := h
  exact .tup e (.cons (.int _) (.cons (.int _) .nil))
theorem GHours.dp {K : PySem.W.Frag} {H : Hp} {hs : Option (List (Int × Int))} {v : V} (h : GHours K H hs v) : Dp K H v (hoursP hs) := by
  cases hs with
  | none =>
    have e : v = .non := h
    rw [e]
    exact .non
  | some gs =>
    obtain ⟨l, xs, rfl, q, r⟩ := h
    exact .tup q (dpAll_of (fun _ _ m => m.dp) r)
theorem RoadAt.dp {K : PySem.W.Frag} {H : Hp} {r : RoadD} {v : V} (h : RoadAt K H r v) : Dp K H v (roadP r) := by
  obtain ⟨p, q, h, rfl, e, e2, g⟩ := h
  exact .tup (SqT.of e) (.cons (.str _) (.cons (.str _) (.cons (.str _) (.cons (.int _) (.cons (.tup (SqT.of e2) (dpAll_strs _)) (.cons g.dp .nil))))))
theorem GBar.dp {K : PySem.W.Frag} {H : Hp} {b : Str × Str} {v : V} (h : GBar H b v) : Dp K H v (barP b) := by
  obtain ⟨t, rfl, e⟩ := h
  exact .tup (SqT.of e) (.cons (.str _) (.cons (.str _) .nil))
def Lay (n : Nat) (d : PyData) : Prop := d.canLay0 = true ∧ d.depth ≤ n
theorem lay_all {n : Nat} : ∀ {ds : List PyData}, (∀ d ∈ ds, Lay n d) → PyData.canLayAll0 ds = true ∧ PyData.depthAll ds ≤ n
  | [], _ => ⟨rfl, Nat.zero_le _⟩
  | d :: ds, h => by
    obtain ⟨a, b⟩ := h d List.mem_cons_self
    obtain ⟨c, e⟩ := lay_all fun x hx => h x (List.mem_cons_of_mem _ hx)
    refine ⟨by simp [PyData.canLayAll0, a, c], ?_⟩
    simp only [PyData.depthAll]
    omega
theorem Lay.tuple {n : Nat} {ds : List PyData} (h : ∀ d ∈ ds, Lay n d) : Lay (n + 1) (.tuple ds) := by
  obtain ⟨a, b⟩ := lay_all h
  refine ⟨by simpa [PyData.canLay0] using a, ?_⟩
  simp only [PyData.depth]
  omega
theorem Lay.mono {n m : Nat} {d : PyData} (h : Lay n d) (hm : n ≤ m) : Lay m d := ⟨h.1, Nat.le_trans h.2 hm⟩
theorem Lay.int (i : Int) : Lay 1 (.int i) := ⟨rfl, by simp [PyData.depth]⟩
theorem Lay.none : Lay 1 .none := ⟨rfl, by simp [PyData.depth]⟩
theorem Lay.str {z : Str} (h : PyData.strOk z = true) : Lay 1 (.str z) := ⟨by simpa [PyData.canLay0] using h, by simp [PyData.depth]⟩
theorem Lay.shaped {n : Nat} {d : PyData} (h : Lay n d) (hn : n ≤ 64) : SeqAt.shaped d = true := by
  unfold SeqAt.shaped
  rw [Bool.and_eq_true]
  exact ⟨h.1, decide_eq_true (Nat.le_trans h.2 hn)⟩
theorem Lay.refl {n : Nat} {d : PyData} (h : Lay n d) : PyData.eqv d d = true := SeqAt.eqv_refl _ h.1
structure TxtR (r : RoadD) : Prop where
  n : PyData.strOk r.name = true
  s : PyData.strOk r.start = true
  g : PyData.strOk r.goal = true
  u : ∀ z ∈ r.users, PyData.strOk z = true
theorem lay_strs {ns : List Str} (h : ∀ z ∈ ns, PyData.strOk z = true) : Lay 2 (.tuple (ns.map .str)) := Lay.tuple fun d hd => by
  obtain ⟨z, hz, rfl⟩ := List.mem_map.mp hd
  exact Lay.str (h z hz)
theorem lay_hours (hs : Option (List (Int × Int))) : Lay 3 (hoursP hs) := by
  cases hs with
  | none => exact Lay.none.mono (by decide)
  | some gs =>
    refine Lay.tuple fun d hd => ?_
    obtain ⟨p, _, rfl⟩ := List.mem_map.mp hd
    refine Lay.tuple fun d hd => ?_
    simp only [List.mem_cons, List.not_mem_nil, or_false] at hd
    rcases hd with rfl | rfl <;> exact Lay.int _
theorem TxtR.lay {r : RoadD} (h : TxtR r) : Lay 4 (roadP r) := Lay.tuple fun d hd => by
  simp only [List.mem_cons, List.not_mem_nil, or_false] at hd
  rcases hd with rfl | rfl | rfl | rfl | rfl | rfl
  · exact (Lay.str h.n).mono (by decide)
  · exact (Lay.str h.s).mono (by decide)
  · exact (Lay.str h.g).mono (by decide)
  · exact (Lay.int _).mono (by decide)
  · exact (lay_strs h.u).mono (by decide)
  · exact lay_hours _
theorem lay_roads {rs : List RoadD} (h : ∀ r ∈ rs, TxtR r) : Lay 5 (.tuple (rs.map roadP)) := Lay.tuple fun d hd => by
  obtain ⟨r, hr, rfl⟩ := List.mem_map.mp hd
  exact (h r hr).lay
theorem lay_bars {bs : List (Str × Str)} (h : ∀ b ∈ bs, PyData.strOk b.1 = true ∧ PyData.strOk b.2 = true) : Lay 3 (.tuple (bs.map barP)) := Lay.tuple fun d hd => by
  obtain ⟨b, hb, rfl⟩ := List.mem_map.mp hd
  refine Lay.tuple fun d hd => ?_
  simp only [List.mem_cons, List.not_mem_nil, or_false] at hd
  rcases hd with rfl | rfl
  · exact Lay.str (h b hb).1
  · exact Lay.str (h b hb).2
theorem nm_ok {z : Str} (h : isNm z = true) : PyData.strOk z = true := by
  unfold isNm at h
  simp only [Bool.and_eq_true] at h
  have h4 := h.2
  unfold PyData.strOk
  rw [← Array.all_toList]
  refine List.all_eq_true.mpr fun c hc => ?_
  have g := List.all_eq_true.mp h4 c hc
  have a1 : ∀ c ∈ zLet.cps.toList, decide (c < 0x110000) = true := by decide +kernel
  have a2 : ∀ c ∈ zDig.cps.toList, decide (c < 0x110000) = true := by decide +kernel
  unfold goodC at g
  rcases Bool.or_eq_true_iff.mp g with g | g
  · exact a1 c (of_decide_eq_true g)
  · exact a2 c (of_decide_eq_true g)
/-- texts that may be compared -/
structure TxtP (ks ps : List Str) (rs : List RoadD) (bs : List (Str × Str)) : Prop where
  k : ∀ z ∈ ks, PyData.strOk z = true
  p : ∀ z ∈ ps, PyData.strOk z = true
  r : ∀ r ∈ rs, TxtR r
  b : ∀ b ∈ bs, PyData.strOk b.1 = true ∧ PyData.strOk b.2 = true
theorem all_nm {ns : List Str} (h : ns.all isNm = true) : ∀ z ∈ ns, PyData.strOk z = true := fun z hz => nm_ok (List.all_eq_true.mp h z hz)
theorem PartsOk.txt {d : Int} {ks ps : List Str} {rs : List RoadD} {bs : List (Str × Str)} (h : PartsOk d ks ps rs bs) : TxtP ks ps rs bs := by
  have hn : ∀ r ∈ rs, PyData.strOk r.name = true := fun r hr => all_nm h.r.nm _ (List.mem_map.mpr ⟨r, hr, rfl⟩)
  refine ⟨all_nm h.kn, all_nm h.pn, fun r hr => ?_, fun b hb => ?_⟩
  · have o := h.r.ok r hr
    exact ⟨hn r hr, all_nm h.pn _ o.s, all_nm h.pn _ o.g, fun z hz => all_nm h.kn _ (o.u z hz)⟩
  · obtain ⟨r1, h1, r2, h2, e1, e2, _⟩ := h.b.ok b hb
    rw [e1, e2]
    exact ⟨hn r1 h1, hn r2 h2⟩
theorem TxtP.srt {ks ps ks' ps' : List Str} {rs rs' : List RoadD} {bs bs' : List (Str × Str)} (h : TxtP ks ps rs bs) (s : Srt ks ps rs bs ks' ps' rs' bs') : TxtP ks' ps' rs' bs' := by
  refine ⟨fun z hz => h.k z (s.k.mem_iff.mp hz), fun z hz => h.p z (s.p.mem_iff.mp hz), fun r hr => ?_, fun b hb => h.b b (s.b.mem_iff.mp hb)⟩
  obtain ⟨l, pm, q⟩ := s.r
  obtain ⟨r0, h0, a1, a2, a3, _, _, a6, _⟩ := Paired.mem q (pm.mem_iff.mpr hr)
  have o := h.r r0 h0
  exact ⟨by rw [a1]; exact o.n, by rw [a2]; exact o.s, by rw [a3]; exact o.g, fun z hz => o.u z (a6.mem_iff.mp hz)⟩
/-! ### of the size that the map's checks ask for -/
theorem parts_small {d : Int} {ks ps : List Str} {rs : List RoadD} {bs : List (Str × Str)} (h : PartsOk d ks ps rs bs) : GivenSm d ks ps (rs.map itemG) (bs.map p2) := by
  have ln : ∀ {ns : List Str}, ns.all isNm = true → ∀ z ∈ ns, z.length ≤ 1000 := fun h z hz => Nat.le_trans (isNm_len (List.all_eq_true.mp h z hz)) (by decide)
  have hn : ∀ r ∈ rs, r.name.length ≤ 1000 := fun r hr => ln h.r.nm _ (List.mem_map.mpr ⟨r, hr, rfl⟩)
  refine ⟨by have := h.d1; have := h.d2; omega, by have := h.k2; omega, ln h.kn, by have := h.p2; omega, ln h.pn, by rw [List.length_map]; have := h.r.len; omega, fun g hg => ?_, by rw [List.length_map]; have := h.b.len; omega, fun b hb z hz => ?_⟩
  · obtain ⟨r, hr, e⟩ := List.mem_map.mp hg
    have e' : rG r = g := Sum.inl.inj e
    subst e'
    have o := h.r.ok r hr
    refine ⟨hn r hr, ln h.pn _ o.s, ln h.pn _ o.g, by show r.minutes.natAbs < _; have := o.m1; have := o.m2; omega, by show r.users.length ≤ _; have := o.un; omega, fun z hz => ln h.kn _ (o.u z hz), fun ps hps => ?_⟩
    have oh := o.h
    obtain ⟨hs, ehs⟩ : ∃ hs, hs = r.hours := ⟨_, rfl⟩
    rw [← ehs] at oh
    have hps' : hoursG hs = some ps := by rw [ehs]; exact hps
    cases hs with
    | none => cases hps'
    | some gs =>
      have e : gs.map (fun p => [p.1, p.2]) = ps := Option.some.inj hps'
      rw [← e, List.length_map]
      have := oh.1
      omega
  · obtain ⟨b0, h0, rfl⟩ := List.mem_map.mp hb
    obtain ⟨r1, h1, r2, h2, e1, e2, _⟩ := h.b.ok b0 h0
    have : z = b0.1 ∨ z = b0.2 := by simpa [p2] using hz
    rcases this with rfl | rfl
    · rw [e1]; exact hn r1 h1
    · rw [e2]; exact hn r2 h2
end W

set_option Elab.async false
set_option linter.all false
set_option maxRecDepth 100000
set_option maxHeartbeats 1000000
namespace W
open PySem PySem.Spec PyProof.Rows L2 GxR MyG MyS SqX
/-! ### a map made of parts that are as they should be -/
theorem passF {P : Program} {w : World} {X : Cx} (hP : X.prog = P) (hw : X.w = w) : Passes (L2N.CX P w) X E0 := fun pins σ H s e s' I c => by
  obtain ⟨_, _, _, _, _, _, _, _, _, _, _, _, q⟩ := c
  exact q.elim
abbrev kMapA : List Str := ["day", "places", "kinds", "roads", "bars"]
def gMapA {α : Type} (us mv ws : List α) : List α := us ++ ((match ws with | [a, b, c, d, e] => [a, c, b, d, e] | _ => []) ++ mv)
abbrev kMapB : List Str := ["day", "kinds"]
def gMapB {α : Type} (us mv ws : List α) : List α := us ++ (ws ++ mv)
theorem paired_mapl {α β γ : Type} {F : α → γ → Prop} {G : β → γ → Prop} {f : α → β} (u : ∀ a c, F a c → G (f a) c) : ∀ {l : List α} {m : List γ}, Paired F l m → Paired G (l.map f) m
  | _, _, .nil => .nil
  | _, _, .cons a r => .cons (u _ _ a) (paired_mapl u r)
theorem GHours.gen {K : PySem.W.Frag} {H : Hp} {hs : Option (List (Int × Int))} {v : V} (m : GHours K H hs v) : GHoursX K H (hoursG hs) v := by
  cases hs with
  | none => exact m
  | some gs =>
    obtain ⟨l, xs, e, a, b⟩ := m
    exact ⟨l, xs, false, e, a, paired_mapl (fun p c ⟨t, e1, e2⟩ => ⟨t, e1, e2⟩) b⟩
theorem RoadAt.gen {K : PySem.W.Frag} {H : Hp} {r : RoadD} {v : V} (m : RoadAt K H r v) : GItem K H (itemG r) v := by
  obtain ⟨t, u, h, a, b, c, d⟩ := m
  exact ⟨t, u, h, false, a, SqT.of b, SqT.of c, d.gen⟩
theorem GBar.gen {H : Hp} {b : Str × Str} {v : V} (m : GBar H b v) : GBarX H (p2 b) v := let ⟨t, e, q⟩ := m; ⟨t, e, .inr q⟩
def MadeQ (K : PySem.W.Frag) (M P x : Addr) (H : Hp) (d : Int) (ks ps : List Str) (rs : List RoadD) (bs : List (Str × Str)) (R : Hp → Prop) : Prop := ∀ H' ks' ps' rs' bs', Grew P H H' → H x = none → Srt ks ps rs bs ks' ps' rs' bs' → MapAt K H' M x d ks' ps' rs' bs' → R H'
/-- parts that are not too large for Map -/
structure PartsSm (d : Int) (ks ps : List Str) (rs : List RoadD) (bs : List (Str × Str)) : Prop where
  sm : GivenSm d ks ps (rs.map itemG) (bs.map p2)
theorem PartsOk.sm {d : Int} {ks ps : List Str} {rs : List RoadD} {bs : List (Str × Str)} (h : PartsOk d ks ps rs bs) : PartsSm d ks ps rs bs := ⟨parts_small h⟩
theorem initG_of {K : PySem.W.Frag} {M C P x dx ki pl ro ba : Addr} {H : Hp} {ck cp cr cb : Bool} {d : Int} {ks ps : List Str} {rs : List RoadD} {bs : List (Str × Str)} {xs zs : List V} {Q : VK} {E : XK} (hP : TabG H P) (nx : H x = none) (ndx : H dx = none) (nex : dx ≠ x)
    (hk : SqK ck K H ki (ks.map V.str)) (hp : SqK cp K H pl (ps.map V.str)) (hr : SqK cr K H ro xs) (hrs : Paired (GItem K H) (rs.map itemG) xs) (hb : SqK cb K H ba zs) (hbs : Paired (fun b v => GBarX H (p2 b) v) bs zs) (sm : PartsSm d ks ps rs bs)
    (k : PartsOk d ks ps rs bs → MadeQ K M P x H d ks ps rs bs fun H' => Q .non H') (kE : ¬ PartsOk d ks ps rs bs → BadM C P H E) : spInitX K M C P [.ref x, .int d, .ref ki, .ref pl, .ref ro, .ref ba] (L2.upd (L2.upd H dx (.own x)) x (.ins M dx [])) Q E := by
  have gx : Grew P H (L2.upd (L2.upd H dx (.own x)) x (.ins M dx [])) := (Grew.new hP ndx).put (by rw [upd_ne nex.symm]; exact nx)
  have inj : ∀ {rs0 : List RoadD} {bs0 : List (Str × Str)}, rs.map itemG = rs0.map itemG → bs.map p2 = bs0.map p2 → rs = rs0 ∧ bs = bs0 := fun e1 e2 =>
    ⟨List.map_inj_right (fun a b h => rG_inj (Sum.inl.inj h)) |>.mp e1, List.map_inj_right (fun a b h => p2_inj a b h) |>.mp e2⟩
  refine ⟨x, dx, ki, pl, ro, ba, ck, cp, cr, cb, d, ks, ps, rs.map itemG, bs.map p2, xs, zs, H, rfl, gx, hP, nx, upd_same, hk, hp, hr, hrs, hb, paired_mapl (f := p2) (G := GBarX H) (fun _ _ m => m) hbs, sm.sm, fun rs0 bs0 e1 e2 ok' H' ks' ps' rs' bs' g a1 a2 a3 a4 a5 a6 a7 a8 m => ?_, fun no => kE fun o => no ⟨rs, bs, rfl, rfl, o⟩⟩
  obtain ⟨q1, q2⟩ := inj e1 e2
  subst q1 q2
  exact k ok' H' ks' ps' rs' bs' g nx ⟨a1, a2, a3, a4, a5, a6, a7, a8⟩ m
theorem initX_of {K : PySem.W.Frag} {M C P x dx ki pl ro ba : Addr} {H : Hp} {ck cp cr cb : Bool} {d : Int} {ks ps : List Str} {rs : List RoadD} {bs : List (Str × Str)} {xs zs : List V} {Q : VK} {E : XK} (hP : TabG H P) (nx : H x = none) (ndx : H dx = none) (nex : dx ≠ x)
    (hk : SqK ck K H ki (ks.map V.str)) (hp : SqK cp K H pl (ps.map V.str)) (hr : SqK cr K H ro xs) (hrs : Paired (GItem K H) (rs.map itemG) xs) (hb : SqK cb K H ba zs) (hbs : Paired (GBar H) bs zs) (ok : PartsOk d ks ps rs bs)
    (k : MadeQ K M P x H d ks ps rs bs fun H' => Q .non H') : spInitX K M C P [.ref x, .int d, .ref ki, .ref pl, .ref ro, .ref ba] (L2.upd (L2.upd H dx (.own x)) x (.ins M dx [])) Q E :=
  initG_of hP nx ndx nex hk hp hr hrs hb (Paired.map' hbs fun _ _ m => m.gen) ok.sm (fun _ => k) (fun no => absurd ok no)
section
variable {Pg : Program} {w : World} {K : PySem.W.Frag} {mg : Str → Option Value} {base : Heap} {C P : Addr}
end
end W

set_option Elab.async false
set_option linter.all false
set_option maxRecDepth 100000
set_option maxHeartbeats 400000
namespace W
open PySem PySem.Spec PyProof.Rows L2 GxR MyG MyS
/-! ### Map.check_road, Map.road -/
/-- an UnknownName with this name flies -/
def Unk (U : Addr) (H : Hp) (E : XK) (z : Str) : Prop := ∀ e, H e = none → E (.ref U) (some e) (L2.upd H e (.xd [("name", V.str z)]))
/-- UnknownName.__init__ -/
def spUInit (K : PySem.W.Frag) (U : Addr) : Sp := fun vs H Q _ => ∃ (a : Addr) (z : Str), vs = [.ref a, .str z] ∧ z.length ≤ 1000 ∧ H a = some (exo a U none) ∧ ∀ dx, H dx = none → dx ≠ a → Q .non (L2.upd (L2.upd H dx (exd dx [("name", V.str z)])) a (exo a U (some dx)))
def spCheck (K : PySem.W.Frag) (M U : Addr) : Sp := fun vs H Q E => ∃ (x : Addr) (z : Str) (d : Int) (ks ps : List Str) (rs : List RoadD) (bs : List (Str × Str)), vs = [.ref x, .str z] ∧ z.length ≤ 1000 ∧ MapAt K H M x d ks ps rs bs ∧
  ((∃ r ∈ rs, r.name = z) → Q .non H) ∧ ((∀ r ∈ rs, r.name ≠ z) → Unk U H E z)
def spRoadM (K : PySem.W.Frag) (M U : Addr) : Sp := fun vs H Q E => ∃ (x : Addr) (z : Str) (d : Int) (ks ps : List Str) (rs : List RoadD) (bs : List (Str × Str)), vs = [.ref x, .str z] ∧ z.length ≤ 1000 ∧ MapAt K H M x d ks ps rs bs ∧
  (∀ r ∈ rs, r.name = z → ∀ v, RoadAt K H r v → Q v H) ∧ ((∀ r ∈ rs, r.name ≠ z) → Unk U H E z)
theorem flown {H : Hp} {U a dx : Addr} {fs : List (Str × V)} (na : H a = none) (ndx : (L2.upd H a (exo a U none)) dx = none) : L2.upd (del (L2.upd (L2.upd (L2.upd H a (exo a U none)) dx (exd dx fs)) a (exo a U (some dx))) a) dx (.xd fs) = L2.upd H dx (.xd fs) := by
  funext b
  by_cases h1 : b = dx
  · subst h1; rw [upd_same, upd_same]
  · rw [upd_ne h1, upd_ne h1]
    by_cases h2 : b = a
    · subst h2; rw [del_same, na]
    · rw [del_ne h2, upd_ne h2, upd_ne h1, upd_ne h2]
section
variable {Pg : Program} {w : World} {K : PySem.W.Frag} {mg : Str → Option Value} {base : Heap} {C P : Addr}
end
end W

set_option Elab.async false
set_option linter.all false
set_option maxRecDepth 100000
set_option maxHeartbeats 800000
namespace MyR
open PySem PySem.Spec PyProof.Rows L2
/-! ### repr of data, where no repr is under way -/
def rRep (K : PySem.W.Frag) : List V → Hp → VK → Prop := fun xs H Q => ∃ (a : Addr) (d : PyData), xs = [.ref a] ∧ Dp K H (.ref a) d ∧ d.showable = true ∧ d.hasDict = false ∧ d.depth ≤ 8 ∧ d.shown.length ≤ sizeLine ∧ Q (.str d.shown) H
theorem call_repD {X : Cx} (hg : X.A.guards = some []) (hu : X.A.units + 64 < cLine) : CallR X (.builtin "repr") (rRep X.K) := by
  intro pins s σ H xs us Q I r h
  obtain ⟨a, d, rfl, hd, hs, hn, hp, hz, q⟩ := h
  obtain ⟨u, rfl, r1⟩ := vals1 r
  obtain rfl : u = Value.ref a := r1
  obtain ⟨as, rd⟩ := Dp.reads I d _ _ hd rfl
  exact repr_of_reads' rd hs (fun e => by rw [hn] at e; cases e) hg (by omega) (fun _ _ e => e) (fun h' u tk k => ⟨.str _, H, I.kept k, ⟨u, rfl⟩, q⟩) hz
end MyR

set_option Elab.async false
set_option linter.all false
set_option maxRecDepth 100000
set_option maxHeartbeats 2000000
namespace MyR
open PySem PySem.Spec PyProof.Rows L2
/-! ### the law's own call: here, and only here, it is known that no repr is under way -/
/-- f called by the caller of the law keeps sp -/
def RunG (P : Program) (w : World) (K : PySem.W.Frag) (mg : Str → Option Value) (base : Heap) (CX : CXT) (f : Addr) (sp : Sp) : Prop :=
  ∀ (s : Shared) (H : Hp) (a : Addr) (Q : VK) (E : XK), Env0 P w K mg base callerA [] s H → sp [.ref a] H Q E → codeAny (model P w) callerA (.call (.ref f) ⟨[.ref a], []⟩) (CR CX [] P w H s Q E) s
section
variable {P : Program} {w : World} {K : PySem.W.Frag} {mg : Str → Option Value} {base : Heap}
theorem runG_of {CX : CXT} {f : Addr} {name qual x : Str} {params : Arguments} {body : List Stmt} {scope : Scope} {dV kV doc pm cdv ct oc : Value} {an od : Option Addr} {osl : Array (Option Value)} {N : List Str} {sp : Sp}
    (lk : K.lookup f = some ⟨oc, od, .func (PySem.W.fnOf name qual params body scope dV kV doc pm an cdv ct), osl⟩) (hcd : PySem.W.codeIn K cdv qual = true) (S : FnScope N [x] scope)
    (hb : ∀ (s : Shared) (u : Value), BindsTo s (PySem.W.fnOf name qual params body scope dV kV doc pm an cdv ct) ⟨[u], []⟩ [(x, u)]) (hr : Room 8 callerA)
    (hbody : ∀ (s : Shared) (H : Hp) (a : Addr) (Q : VK) (E : XK), sp [.ref a] H Q E → ∃ t, PSs (cxOf CX P w K mg base N qual scope f cdv callerA [] s H E) body t ∧ t { nx := fun _ H' => Q .non H', rt := Q } (start N [.ref a]) H) :
    RunG P w K mg base CX f sp := fun s H a Q E e0 hsp => by
  have up : ∀ b o, base.get? b = some o → s.heap.get? b = some o := fun b o e => (e0.bs b o e).1
  have KX : K.In s.heap := e0.mod.kin.keeps up
  have hx : scope.names.lookup x = some .local ∨ (scope.names.lookup x = some .cell ∧ ((cellsFrom (s.heap.objs.size + 1) scope.names []).lookup x).isSome = true) :=
    (S.par x (List.mem_singleton.mpr rfl)).imp id fun q => ⟨q, PySem.W.cellsFrom_some _ _ _ (.inl q)⟩
  refine codeAny_call_function hr.depth (KX _ _ lk) rfl S.co S.gen rfl (PySem.W.codeRec_of KX hcd) (hb s (.ref a) _ _ _ _ ?_)
  refine wpAny_newFunctionEnv_cells S.kind (fun y hy => by rw [List.mem_singleton.mp hy]; exact hx) fun env he s1 st => ?_
  subst he
  refine ⟨(e0.mod.nolimit.keeps up).keeps st.toInCall.keep, codeAny_func ?_⟩
  obtain ⟨t, ht, hq⟩ := hbody s H a Q E hsp
  have I : Inv (cxOf CX P w K mg base N qual scope f cdv callerA [] s H E) [] (start N [.ref a]) H s1 := inv_start S hr.hd e0 rfl (.cons rfl .nil) st
  have out : ∀ {σ2 : L2.St} {H2 : Hp} {s2 : Shared} {v : V} {u : Value}, Inv (cxOf CX P w K mg base N qual scope f cdv callerA [] s H E) [] σ2 H2 s2 → RelV v u → Q v H2 → CE [] P w H s Q u s2 :=
    fun {σ2 H2 s2 v u} J rv q => ⟨v, H2, J.os, J.bare, J.base, J.hok, rv, q⟩
  refine wpAny_mono (ht.run [] s1 _ H _ I hq) (fun fl s2 hs => ?_) fun _ _ z => z
  match fl, hs with
  | .ret u, ⟨v, σ2, H2, J, rv, q⟩ => exact out J rv q
  | .next, ⟨σ2, H2, J, q⟩ => exact out (v := V.non) (u := Value.none) J rfl q
  | .brk, ⟨_, _, _, z⟩ => exact z.elim
  | .cont, ⟨_, _, _, z⟩ => exact z.elim
/-- what is tracked at the top: the one table, and the script where it is not written down -/
def topH (K : PySem.W.Frag) (T a : Addr) (o : Obj) (xs : List V) : Hp := fun b => if b = T then some (.tbl #[]) else if b = a ∧ K.lookup a = none then some (.frz o (.lst xs)) else none
theorem topH_cases {T a b : Addr} {o : Obj} {xs : List V} {u : HO} (h : topH K T a o xs b = some u) : (b = T ∧ u = .tbl #[]) ∨ (b ≠ T ∧ b = a ∧ K.lookup a = none ∧ u = .frz o (.lst xs)) := by
  unfold topH at h
  by_cases h1 : b = T
  · rw [if_pos h1] at h
    exact .inl ⟨h1, (Option.some.inj h).symm⟩
  · rw [if_neg h1] at h
    by_cases h2 : b = a ∧ K.lookup a = none
    · rw [if_pos h2] at h
      exact .inr ⟨h1, h2.1, h2.2, (Option.some.inj h).symm⟩
    · rw [if_neg h2] at h
      cases h
theorem top_call {mb : Str → Option Value} {CX : CXT} {f a c T : Addr} {sp : Sp} {s : Shared} {vs : List Value} {ns : List Int} (KX : K.In s.heap) (G : s.heap.Ns mainGlobals mg) (B : s.heap.Ns builtinsNs mb) (hB : ∀ x : Str, x ≠ "__name__" → mb x = bootBuiltins x) (lim : s.heap.NoLimit) (ng : s.gens = #[])
    (eT : s.heap.get? T = some { cls := .none, data := .fields #[] }) (nT : K.lookup T = none) (C : PySem.W.CodeHd s.heap c T)
    (hbm : ∃ (bm : Addr) (ob : Obj), mg "__builtins__" = some (.ref bm) ∧ bm ≠ builtinsNs ∧ s.heap.get? bm = some ob ∧ ob.cls = .type "module" ∧ ob.dict = some builtinsNs ∧ ob.data = .plain)
    (ea : s.heap.get? a = some { cls := .type "list", data := .seq vs.toArray }) (hi : IntsAre vs ns) (hl : ns.length ≤ sizeLine)
    (R : ∀ base : Heap, K.In base → base.Ns mainGlobals mg → LamX.TabB base mg c T → RunG P w K mg base CX f sp)
    (hsp : ∀ H : Hp, H T = some (.tbl #[]) → SqL K H a (ns.map V.int) → sp [.ref a] H (fun v _ => v = .bl true) fun _ _ _ => False)
    (no : ∀ H e s', CX [] H s (fun _ _ _ => False) e s' → False) :
    codeAny (model P w) callerA (.call (.ref f) ⟨[.ref a], []⟩) (fun r s' => r = .ok (.ret (.bool true)) ∧ OldK s.heap s'.heap ∧ s'.os = s.os ∧ AllBare s'.gens) s := by
  have rv := vals_ints hi
  have nz : a ≠ T := fun z => by
    rw [z, eT] at ea
    cases ea
  obtain ⟨H, eH⟩ : ∃ H, H = topH K T a { cls := .type "list", data := .seq vs.toArray } (ns.map V.int) := ⟨_, rfl⟩
  have tr : ∀ {b : Addr} {u : HO}, H b = some u → _ := fun {b u} h => topH_cases (by rw [eH] at h; exact h)
  have HT : H T = some (.tbl #[]) := by
    rw [eH]
    exact if_pos rfl
  have hS : SqL K H a (ns.map V.int) := by
    cases q : K.lookup a with
    | none => exact .inl (.inr ⟨_, by rw [eH]; exact (if_neg nz).trans (if_pos ⟨rfl, q⟩)⟩)
    | some o =>
      have e := KX a o q
      rw [ea] at e
      cases e
      exact .inr ⟨_, vs.toArray, _, q, rfl, rfl, rfl, by rw [List.size_toArray, hi.length]; exact hl, by simpa using rv⟩
  have ok : HOk P w H s.heap := fun b u h => by
    rcases tr h with ⟨rfl, rfl⟩ | ⟨_, rfl, _, rfl⟩
    · exact eT
    · exact ⟨ea, by rw [List.length_map]; exact hl, vs, _, rv, ea⟩
  have gone : ∀ {b : Addr} {o : Obj}, s.heap.get? b = some o → (∀ xs n, o.data ≠ .seq xs n) → o.data ≠ .fields #[] → H b = none := fun {b o} e d1 d2 => by
    cases h : H b with
    | none => rfl
    | some u =>
      rcases tr h with ⟨rfl, _⟩ | ⟨_, rfl, _, _⟩
      · rw [eT] at e
        cases e
        exact (d2 rfl).elim
      · rw [ea] at e
        cases e
        exact (d1 _ _ rfl).elim
  have toB : ∀ {b : Addr} {m : Str → Option Value}, s.heap.Ns b m → (hidT s.heap H).Ns b m := fun {b m} ⟨o, es, ep, e, d, r⟩ =>
    ⟨o, es, ep, hidT_get e (gone e (fun xs n z => by rw [d] at z; cases z) (fun z => by rw [d] at z; cases z)), d, r⟩
  have KB : K.In (hidT s.heap H) := fun b o e => hidT_get (KX b o e) (by
    cases h : H b with
    | none => rfl
    | some u =>
      rcases tr h with ⟨rfl, _⟩ | ⟨_, rfl, k, _⟩
      · rw [nT] at e; cases e
      · rw [k] at e; cases e)
  have TB : LamX.TabB (hidT s.heap H) mg c T := by
    refine ⟨?_, ?_, fun z => ?_⟩
    · obtain ⟨o, us, file, tf, flags, tg, inF, text, tt, e1, r1, r2, r3, r⟩ := C
      exact ⟨o, us, file, tf, flags, tg, inF, text, tt, hidT_get e1 (gone e1 (fun xs n z => by rw [r2] at z; cases z) (fun z => by rw [r2] at z; cases z; simp at r3)), r1, r2, r3, r⟩
    · obtain ⟨bm, ob, b1, b2, b3, b4, b5, b6⟩ := hbm
      refine ⟨bm, ob, b1, b2, fun z => ?_, fun z => ?_, hidT_get b3 (gone b3 (fun xs n z => by rw [b6] at z; cases z) (fun z => by rw [b6] at z; cases z)), b4, b5, b6⟩
      · obtain ⟨o, es, ep, e, d, _⟩ := G
        rw [z, e] at b3
        cases b3
        rw [d] at b6
        cases b6
      · rw [z, eT] at b3
        cases b3
        cases b6
    · obtain ⟨o, es, ep, e, d, _⟩ := G
      rw [z, eT] at e
      cases e
      cases d
  have e0 : Env0 P w K mg (hidT s.heap H) callerA [] s H :=
    ⟨rfl, ⟨KB, toB G, ⟨mb, toB B, hB⟩, let ⟨mc, h1, h2⟩ := lim; ⟨mc, toB h1, h2⟩⟩, fun b o e => of_hidT e, Nat.le_of_eq (hidT_size _ _), trivial, fun b hb => absurd (show b ∈ ([] : List Addr) from hb) (by simp), ok, .of_eq ng⟩
  refine codeAny_mono (R _ KB (toB G) TB s H a _ _ e0 (hsp H HT hS)) fun r s' h => ?_
  match r, h with
  | .error e, h => exact (no H e s' h).elim
  | .ok .next, h => exact False.elim h
  | .ok .brk, h => exact False.elim h
  | .ok .cont, h => exact False.elim h
  | .ok (.ret u), ⟨v, H', os, bare, un, ok', r', q⟩ =>
    obtain rfl : v = .bl true := q
    obtain rfl : u = Value.bool true := r'
    obtain ⟨more, hm⟩ : ∃ more : Array Value, s'.heap.get? T = some { cls := .none, data := .fields more } := by
      obtain ⟨more, z⟩ := un.tbls T #[] HT
      exact ⟨_, ok' T _ z⟩
    have old : ∀ b o, b ≠ T → s.heap.get? b = some o → s'.heap.get? b = some o := fun b o ne e => by
      cases h : H b with
      | none => exact un.keep b o e h (fun z => absurd (show b ∈ ([] : List Addr) from z) (by simp)) (by simp)
      | some u =>
        rcases tr h with ⟨z, _⟩ | ⟨_, rfl, _, rfl⟩
        · exact absurd z ne
        · obtain ⟨e2, _⟩ := ok' b _ (un.frzs b _ _ h)
          rw [ea] at e
          cases e
          exact e2
    refine ⟨rfl, ⟨fun b o e => ?_, fun b o e => ?_⟩, os, bare⟩
    · by_cases hb : b = T
      · subst hb
        rw [eT] at e
        cases e
        exact .inr (.inl ⟨(C.tab eT).isCodeTable, rfl, #[], more, rfl, by rw [Array.empty_append]; exact hm⟩)
      · exact .inl (old b o hb e)
    · by_cases hb : b = T
      · rw [hb]
        exact ⟨_, hm⟩
      · exact ⟨o, old b o hb e⟩
end

/-- what the law's end asks: the table T of the code object c, and the promise sp -/
def LawG (l : PySem.W.OpenLaw) (w : World) (K : PySem.W.Frag) (CX : CXT) (n : Nat) (mg : Str → Option Value) (fa : Addr) (h : Heap) : Prop :=
  ∃ (c T : Addr) (sp : Sp), h.get? T = some { cls := .none, data := .fields #[] } ∧ K.lookup T = none ∧ PySem.W.CodeHd h c T ∧
    (∀ (H : Hp) (a : Addr) (ns : List Int), ns.length ≤ n → H T = some (.tbl #[]) → SqL K H a (ns.map V.int) → sp [.ref a] H (fun v _ => v = .bl true) fun _ _ _ => False) ∧
    ∀ base : Heap, K.In base → base.Ns mainGlobals mg → LamX.TabB base mg c T → RunG l.prog w K mg base CX fa sp
theorem walk_ofG {l : PySem.W.OpenLaw} {n : Nat} {q : Program} {loose : List Str} {XP : (Str → Option Value) → Heap → Prop} {YP : World → Heap → Prop} {d : DefRec} {K : Params → PySem.W.Frag} {CX : World → CXT} (names : List Str)
    (hn : l.most = some n) (hn2 : n ≤ sizeLine) (hdf : d.params.defaults = []) (hrec : names.all (fun y => (recsOf q).any fun e => e.name == y) = true) (hY : ∀ (w : World) (h : Heap), YP w h → (K w.params).In h)
    (F : ∀ (w : World) (mg : Str → Option Value) (fa : Addr) (h : Heap), YP w h → (K w.params).In h → h.Ns mainGlobals mg → mg d.name = some (.ref fa) → (∀ y ∈ names, ∀ f, mg y = some (.ref f) → LamX.OwnTab (K w.params) f h) → LawG l w (K w.params) (CX w) n mg fa h)
    (no : ∀ (w : World) (H : Hp) (s : Shared) (e : Value) (s' : Shared), CX w [] H s (fun _ _ _ => False) e s' → False) :
    PySem.W.WalkO q loose XP YP l.row.toRowW d [] (fun f vs => PySem.call f vs) := by
  refine Att.attach_callB hn hdf fun w s₀ s₁ mg mb fa o pm cd doc a vs ns G Y ho hd hcd hmg hobj hints hlen hbits hg => ?_
  have KX := hY w _ Y
  obtain ⟨c, T, sp, eT, nT, C, hsp, R⟩ := F w mg fa _ Y KX G.T.g hmg (fun y hy f hf c P o1 fd1 e dd vs1 sl k1 k2 k3 k4 k5 => by
    obtain ⟨dL, hm, hn1⟩ := List.any_eq_true.mp (List.all_eq_true.mp hrec y hy)
    obtain ⟨a', o', fd', c', P', h1, h2, h3, h4, h5, h6⟩ := G.T.tab dL hm
    rw [beq_iff_eq.mp hn1, hf] at h1
    cases h1
    have g1 := KX _ _ k1
    rw [g1] at h2
    cases h2
    rw [k2] at h3
    cases h3
    rw [k3] at h4
    cases h4
    obtain ⟨⟨oc, vc, e1, _, e3, e4⟩, hP⟩ := h6
    have g2 := KX _ _ k4
    rw [g2] at e1
    cases e1
    cases e3
    rw [k5] at e4
    cases e4
    exact hP)
  exact top_call KX G.T.g G.T.b G.T.builtins G.T.nolimit hg eT nT C G.T.bmain hobj hints (Nat.le_trans hlen hn2) R (fun H hH hS => hsp H a ns hlen hH hS) fun H e s' => no w H s₁ e s'
end MyR

set_option Elab.async false
set_option linter.all false
set_option maxRecDepth 100000
set_option maxHeartbeats 800000
namespace W
open PySem PySem.Spec PyProof.Rows L2 GxR MyG MyS
/-! ### isinstance of a caught error with fields -/
structure ExcD (K : PySem.W.Frag) (D : Addr) : Prop where
  cl : (PySem.W.clsIn K D).isSome = true
  hg : PySem.W.findIn K (.ref D) "__getattribute__" = some (some (.builtin "BaseException.__getattribute__"))
  hk : PySem.W.findIn K (.ref D) "__getattr__" = some none
  hs : PySem.W.subIn K (.ref D) (.type "BaseException") = some true
  ha : PySem.W.findIn K (.ref D) "__class__" = some (some (.builtin "object.__class__"))
  hn : PySem.W.specialIn K (.builtin "object.__class__") "__get__" = some (some (.builtin "getset_descriptor.__get__"))
  ht : PySem.W.takesIn K (.builtin "object.__class__") = some true
  hm : PySem.W.mroIn K D (.type "object") = some true
def rIsD (K : PySem.W.Frag) (D a : Addr) (cls : Value) (d : Option Addr) : List V → Hp → VK → Prop := fun xs H Q => ∃ (c : V) (cv : Value) (dd : Addr) (fs : List (Str × V)) (b : Bool), xs = [.ref a, c] ∧ cls = .ref D ∧ d = some dd ∧ (∀ u, RelV c u → u = cv) ∧ H dd = some (.xd fs) ∧ PySem.W.kitOne K (.ref D) cv = some b ∧ Q (.bl b) H
theorem call_isD {X : Cx} {a D : Addr} {cls : Value} {d : Option Addr} {oe : Obj} {pn : List (Addr × Obj)} (C : ExcD X.K D) (hz : Zc cls d oe) (hf : ∃ vs, oe.data = .fields vs) : CallR (X.suite a ((a, oe) :: pn)) (.builtin "isinstance") (rIsD X.K D a cls d) := by
  intro pins s σ H xs us Q I r h
  obtain ⟨c, cv, dd, fs, b, rfl, rfl, rfl, hcv, ed, e, q⟩ := h
  obtain ⟨u1, u2, rfl, r1, r2⟩ := vals2 r
  obtain rfl : u1 = Value.ref a := r1
  obtain rfl : u2 = cv := hcv _ r2
  obtain ⟨hget, _⟩ := I.pin (a, oe) (List.mem_append.mpr (.inl List.mem_cons_self))
  obtain ⟨vs, hd⟩ := hf
  have hx : ObjOk X.prog X.w H s.heap dd (.xd fs) := I.hok dd _ ed
  obtain ⟨mA, hns, hr⟩ := hx
  obtain ⟨od, ho, hl⟩ := lookIn_ns hns
  have J : PySem.W.InstAt s.heap a oe D (some od) := ⟨hget, hz.1, by unfold PySem.W.notCls; rw [hd] <;> rfl, by rw [hz.2]; exact ho⟩
  exact PySem.W.kia_one (PySem.W.kitx_exc C.cl C.hg C.hk C.hs C.ha C.hn C.ht C.hm) I.kIn J e (fun z => nomatch z) fun tk => ⟨.bl b, H, I.kept (t' := tk) fun _ _ z => z, rfl, q⟩
/-! ### super().__init__(..) of an own error: the bound __init__ called -/
section
variable {prog : Program} {w : World} {A : Around} {E : Value → Shared → Prop} {h : Heap} {g : Array GenState} {d : Drawn} {t : Nat} {os : OsState}
variable {nm q : Str} {C N : Addr} {bs bm bmB : List Value} {hdct : Bool} {sn : List Str} {sub : List Value} {ab : Bool} {col : Option Bool} {dd : Option Addr} {k0 k1 k2 k3 k5 : Option Value} {newId initId : String} {B : String}
theorem call_mw (FB : ExcBaseFacts B newId initId bmB) {u a t0 : Addr} {rest : List Value} {Q : Value → Shared → Prop} (hu : h.get? u = some (PySem.W.kxs_mw initId a)) (hC : h.get? C = some (excClassObj nm q C N bs bm hdct sn sub ab col dd k0 k1 k2 k3 k5 newId)) (he : h.get? a = some (PySem.HandSPX.excO C t0)) (hz : rest.length ≤ sizeLine)
    (hq : ∀ h' t1, (∀ b o, b ≠ a → h.get? b = some o → h'.get? b = some o) → h'.get? a = some (PySem.HandSPX.excO C t1) → Q .none ⟨h', g, d, t, os⟩) :
    wpAny (model prog w) A (call (.ref u) rest) Q E ⟨h, g, d, t, os⟩ := by
  refine wpAny_call (codeAny_of_tree ?_)
  show wpAny _ A.in1 (callAny (.ref u) ⟨rest, []⟩) _ _ _
  simp only [callAny]
  refine wpAny_bind (wpAny_load hu ?_)
  simp only [PySem.W.kxs_mw, show (Value.type "method-wrapper" == Value.type "method" || Value.type "method-wrapper" == Value.type "builtin_function_or_method" || Value.type "method-wrapper" == Value.type "method-wrapper") = true by decide, if_true]
  refine PySem.W.KFB.if_so (by decide) ?_
  refine wpAny_bind (PySem.W.check_bound_init FB.toExcCallFacts hC he rfl ?_)
  refine wpAny_bind (wpAny_pure (wpAny_pure ?_))
  refine ⟨plainId_quiet FB.init.plain _, codeAny_builtin FB.initEntry ?_⟩
  exact PySem.W.exc_init_tree (cls := .ref C) (t0 := t0) (dv := none) (c2 := .none) (c3 := .none) (b4 := .bool false) he hz fun h' k e1 _ => hq h' _ k e1
end
end W

set_option Elab.async false
set_option linter.all false
set_option maxRecDepth 100000
set_option maxHeartbeats 1000000
namespace W
open PySem PySem.Spec PyProof.Rows L2 GxR MyG MyS SqX
/-! ### the questions of a map: answered, or UnknownName -/
theorem pe_fldK {X : Cx} {e : Expr} {f : Str} {pos : Pos} {ta : TE} {K : PySem.W.Frag} (hK : X.K = K) (he : PE X e ta) (hb : attributeBase e f X.env (eval e X.env) = eval e X.env) : PE X (.Attribute e f pos) (tFld K ta f) := by
  subst hK
  exact pe_fld he hb
theorem MapAt.grew {K : PySem.W.Frag} {H H' : Hp} {M x P : Addr} {d : Int} {ks ps : List Str} {rs : List RoadD} {bs : List (Str × Str)} (g : Grew P H H') (h : TabG H P) (m : MapAt K H M x d ks ps rs bs) : MapAt K H' M x d ks ps rs bs := by
  obtain ⟨dx, fs, kk, pp, rr, D, bb, D2, ys, zs, hx, F⟩ := m
  obtain ⟨kvs, hd, hin⟩ := F.db
  exact ⟨dx, fs, kk, pp, rr, D, bb, D2, ys, zs, g.get h hx (fun _ z => by cases z), ⟨F.f0, F.f1, F.f2, F.f3, F.f4, F.f5, F.f6, F.f7, g.tup h F.k, g.tup h F.p, g.tup h F.r, Paired.map' F.ry (fun _ _ m => m.grew g h), F.d.grew g h, g.tup h F.b, Paired.map' F.bz (fun _ _ m => m.grew g h), ⟨kvs, g.get h hd (fun _ z => by cases z), hin⟩⟩⟩
def namesV (rs : List RoadD) : List V := (rs.map (·.name)).map V.str
theorem filter_take {α : Type} {p : α → Bool} {l : List α} {i : Nat} {a : α} (h : l[i]? = some a) : (l.take (i + 1)).filter p = if p a = true then (l.take i).filter p ++ [a] else (l.take i).filter p := by
  rw [List.take_succ, h, List.filter_append]
  by_cases c : p a = true
  · rw [if_pos c]
    simp [c]
  · rw [if_neg c]
    simp [c]
theorem namesV_app (a b : List RoadD) : namesV (a ++ b) = namesV a ++ namesV b := by
  unfold namesV
  rw [List.map_append, List.map_append]
theorem namesV_len (a : List RoadD) : (namesV a).length ≤ a.length := by
  unfold namesV
  rw [List.length_map, List.length_map]
  exact Nat.le_refl _
def Known (rs : List RoadD) (z : Str) : Prop := ∃ r ∈ rs, r.name = z
theorem unknown {rs : List RoadD} {z : Str} (h : ¬ Known rs z) : ∀ r ∈ rs, r.name ≠ z := fun r hr e => h ⟨r, hr, e⟩
structure MIn (K : PySem.W.Frag) (H : Hp) (M P x : Addr) (d : Int) (ks ps : List Str) (rs : List RoadD) (bs : List (Str × Str)) : Prop where
  m : MapAt K H M x d ks ps rs bs
  t : TabG H P
  ok : PartsOk d ks ps rs bs
theorem MIn.nd {K : PySem.W.Frag} {H : Hp} {M P x : Addr} {d : Int} {ks ps : List Str} {rs : List RoadD} {bs : List (Str × Str)} (h : MIn K H M P x d ks ps rs bs) : (rs.map (·.name)).Nodup := h.ok.r.nd
theorem MIn.l60 {K : PySem.W.Frag} {H : Hp} {M P x : Addr} {d : Int} {ks ps : List Str} {rs : List RoadD} {bs : List (Str × Str)} (h : MIn K H M P x d ks ps rs bs) : rs.length ≤ 60 := h.ok.r.len
theorem MIn.nl {K : PySem.W.Frag} {H : Hp} {M P x : Addr} {d : Int} {ks ps : List Str} {rs : List RoadD} {bs : List (Str × Str)} (h : MIn K H M P x d ks ps rs bs) : ∀ r ∈ rs, r.name.length ≤ 1000 := fun r hr => Nat.le_trans (isNm_len (List.all_eq_true.mp h.ok.r.nm _ (List.mem_map.mpr ⟨r, hr, rfl⟩))) (by decide)
theorem MIn.gl {K : PySem.W.Frag} {H : Hp} {M P x : Addr} {d : Int} {ks ps : List Str} {rs : List RoadD} {bs : List (Str × Str)} (h : MIn K H M P x d ks ps rs bs) : ∀ r ∈ rs, r.goal.length ≤ 1000 := fun r hr => Nat.le_trans (isNm_len (List.all_eq_true.mp h.ok.pn _ (h.ok.r.ok r hr).g)) (by decide)
theorem MIn.grew {K : PySem.W.Frag} {H H' : Hp} {M P x : Addr} {d : Int} {ks ps : List Str} {rs : List RoadD} {bs : List (Str × Str)} (h : MIn K H M P x d ks ps rs bs) (g : Grew P H H') : MIn K H' M P x d ks ps rs bs :=
  ⟨MapAt.grew g h.t h.m, g.tab, h.ok⟩
def spChkL (K : PySem.W.Frag) (M U : Addr) (f : List Str → List Str → List Str) : Sp := fun vs H Q E => ∃ (x : Addr) (z : Str) (d : Int) (ks ps : List Str) (rs : List RoadD) (bs : List (Str × Str)), vs = [.ref x, .str z] ∧ z.length ≤ 1000 ∧ MapAt K H M x d ks ps rs bs ∧
  (z ∈ f ks ps → Q .non H) ∧ (z ∉ f ks ps → Unk U H E z)
def selK (ks _ps : List Str) : List Str := ks
def selP (_ks ps : List Str) : List Str := ps
def spBarredB (K : PySem.W.Frag) (M U P : Addr) : Sp := fun vs H Q E => ∃ (x : Addr) (a b : Str) (d : Int) (ks ps : List Str) (rs : List RoadD) (bs : List (Str × Str)), vs = [.ref x, .str a, .str b] ∧ a.length ≤ 1000 ∧ b.length ≤ 1000 ∧ MIn K H M P x d ks ps rs bs ∧
  (Known rs a → Known rs b → ∀ H', Grew P H H' → Q (.bl (decide ((a, b) ∈ bs))) H') ∧ (¬ Known rs a → Unk U H E a) ∧ (Known rs a → ¬ Known rs b → Unk U H E b)
def spMayFB (K : PySem.W.Frag) (M U P : Addr) : Sp := fun vs H Q E => ∃ (x : Addr) (a b : Str) (d : Int) (ks ps : List Str) (rs : List RoadD) (bs : List (Str × Str)), vs = [.ref x, .str a, .str b] ∧ a.length ≤ 1000 ∧ b.length ≤ 1000 ∧ MIn K H M P x d ks ps rs bs ∧
  (∀ r1 ∈ rs, r1.name = a → ∀ r2 ∈ rs, r2.name = b → ∀ H', Grew P H H' → Q (.bl (decide (r1.goal = r2.start) && !decide ((a, b) ∈ bs))) H') ∧ (¬ Known rs a → Unk U H E a) ∧ (Known rs a → ¬ Known rs b → Unk U H E b)
def spMayUB (K : PySem.W.Frag) (M U P : Addr) : Sp := fun vs H Q E => ∃ (x : Addr) (a b : Str) (d : Int) (ks ps : List Str) (rs : List RoadD) (bs : List (Str × Str)), vs = [.ref x, .str a, .str b] ∧ a.length ≤ 1000 ∧ b.length ≤ 1000 ∧ MIn K H M P x d ks ps rs bs ∧
  (a ∈ ks → ∀ r ∈ rs, r.name = b → Q (.bl (decide (a ∈ r.users))) H) ∧ (a ∉ ks → Unk U H E a) ∧ (a ∈ ks → ¬ Known rs b → Unk U H E b)
def spPlaceB (K : PySem.W.Frag) (M U P : Addr) (f : RoadD → Str) : Sp := fun vs H Q E => ∃ (x : Addr) (z : Str) (d : Int) (ks ps : List Str) (rs : List RoadD) (bs : List (Str × Str)), vs = [.ref x, .str z] ∧ z.length ≤ 1000 ∧ MIn K H M P x d ks ps rs bs ∧
  (z ∈ ps → ∀ H' p, Grew P H H' → H p = none → H' p = some (.lst (namesV (rs.filter fun r => decide (f r = z)))) → Q (.ref p) H') ∧ (z ∉ ps → Unk U H E z)
def spFollB (K : PySem.W.Frag) (M U P : Addr) : Sp := fun vs H Q E => ∃ (x : Addr) (z : Str) (d : Int) (ks ps : List Str) (rs : List RoadD) (bs : List (Str × Str)), vs = [.ref x, .str z] ∧ z.length ≤ 1000 ∧ MIn K H M P x d ks ps rs bs ∧
  (∀ r0 ∈ rs, r0.name = z → ∀ H' p, Grew P H H' → H p = none → H' p = some (.lst (namesV (rs.filter fun r => decide (r.start = r0.goal) && !decide ((z, r.name) ∈ bs)))) → Q (.ref p) H') ∧ (¬ Known rs z → Unk U H E z)
section
variable {Pg : Program} {w : World} {K : PySem.W.Frag} {mg : Str → Option Value} {base : Heap} {C P : Addr}
theorem raise_end {H : Hp} {U a : Addr} {E : XK} {z : Str} (na : H a = none) (kE : Unk U H E z) :
    ∀ dx, (L2.upd H a (exo a U none)) dx = none → dx ≠ a → ∀ H2, H2 = L2.upd (del (L2.upd (L2.upd (L2.upd H a (exo a U none)) dx (exd dx [("name", V.str z)])) a (exo a U (some dx))) a) dx (.xd [("name", V.str z)]) → E (.ref U) (some dx) H2 := fun dx nd ne H2 e2 => by
  rw [e2, flown na nd]
  rw [upd_ne ne] at nd
  exact kE dx nd
end
end W

set_option Elab.async false
set_option linter.all false
set_option maxRecDepth 100000
set_option maxHeartbeats 4000000
namespace W
open PySem PySem.Spec PyProof.Rows L2 GxR MyG MyS SqX
/-! ### Map._with_parts of whatever parts -/
abbrev kMapC : List Str := ["day", "kinds", "places", "roads", "bars"]
def gMapC {α : Type} (us mv ws : List α) : List α := us ++ (ws ++ mv)
theorem filter_nodup_map {α β : Type} {f : α → β} {p : α → Bool} : ∀ {l : List α}, (l.map f).Nodup → ((l.filter p).map f).Nodup := fun {l} h => (List.Sublist.map f List.filter_sublist).nodup h
theorem filter_takeA {α : Type} {p : α → Bool} {l : List α} {i : Nat} {a : α} (e : l[i]? = some a) : (l.take (i + 1)).filter p = (l.take i).filter p ++ if p a then [a] else [] := by
  rw [List.take_succ, e, List.filter_append]
  by_cases h : p a = true
  · rw [if_pos h]; simp [h]
  · rw [if_neg h]; simp [h]
/-- the roads but one -/
def butR (z : Str) (rs : List RoadD) : List RoadD := rs.filter fun r => !decide (r.name = z)
def butB (z : Str) (bs : List (Str × Str)) : List (Str × Str) := bs.filter fun b => !decide (z = b.1 ∨ z = b.2)
theorem mem_butR {z : Str} {rs : List RoadD} {r : RoadD} : r ∈ butR z rs ↔ r ∈ rs ∧ r.name ≠ z := by
  unfold butR
  rw [List.mem_filter]
  simp
theorem mem_butB {z : Str} {bs : List (Str × Str)} {b : Str × Str} : b ∈ butB z bs ↔ b ∈ bs ∧ z ≠ b.1 ∧ z ≠ b.2 := by
  unfold butB
  rw [List.mem_filter]
  simp
theorem PartsOk.but {d : Int} {ks ps : List Str} {rs : List RoadD} {bs : List (Str × Str)} (h : PartsOk d ks ps rs bs) (z : Str) : PartsOk d ks ps (butR z rs) (butB z bs) := by
  obtain ⟨d1, d2, k1, k2, p2, kn, pn, kd, pd, hr, hb⟩ := h
  refine ⟨d1, d2, k1, k2, p2, kn, pn, kd, pd, ?_, ?_⟩
  · obtain ⟨a, b, c, e⟩ := hr
    refine ⟨Nat.le_trans (List.length_filter_le _ _) a, ?_, filter_nodup_map c, fun r hr => e r (mem_butR.mp hr).1⟩
    refine List.all_eq_true.mpr fun n hn => ?_
    obtain ⟨r, hr, rfl⟩ := List.mem_map.mp hn
    exact List.all_eq_true.mp b _ (List.mem_map.mpr ⟨r, (mem_butR.mp hr).1, rfl⟩)
  · obtain ⟨a, b, c⟩ := hb
    refine ⟨Nat.le_trans (List.length_filter_le _ _) a, List.filter_sublist.nodup b, fun x hx => ?_⟩
    obtain ⟨x1, x2, x3⟩ := mem_butB.mp hx
    obtain ⟨r1, h1, r2, h2, e1, e2, e3⟩ := c x x1
    exact ⟨r1, mem_butR.mpr ⟨h1, fun e => x2 (by rw [e1, e])⟩, r2, mem_butR.mpr ⟨h2, fun e => x3 (by rw [e2, e])⟩, e1, e2, e3⟩
/-- a map of these parts, or InvalidMap -/
def EitherM (K : PySem.W.Frag) (M C P : Addr) (H : Hp) (d : Int) (ks ps : List Str) (rs : List RoadD) (bs : List (Str × Str)) (Q : VK) (E : XK) : Prop :=
  (PartsOk d ks ps rs bs → ∀ y, MadeQ K M P y H d ks ps rs bs fun H' => Q (.ref y) H') ∧ (¬ PartsOk d ks ps rs bs → BadM C P H E)
theorem EitherM.on {K : PySem.W.Frag} {M C P : Addr} {H H1 : Hp} {d : Int} {ks ps : List Str} {rs : List RoadD} {bs : List (Str × Str)} {Q : VK} {E : XK} (h : EitherM K M C P H d ks ps rs bs Q E) (g : Grew P H H1) : EitherM K M C P H1 d ks ps rs bs Q E :=
  ⟨fun ok y H' ks' ps' rs' bs' g' nx s m => h.1 ok y H' ks' ps' rs' bs' (g.trans g') (g.free nx) s m, fun no => (h.2 no).on g⟩
def spWithPX (K : PySem.W.Frag) (M C P : Addr) : Sp := fun vs H Q E => ∃ (x pl ro ba : Addr) (cp cr cb : Bool) (d : Int) (ks ps ps0 : List Str) (rs rs0 : List RoadD) (bs bs0 : List (Str × Str)) (xs zs : List V), vs = [.ref x, .ref pl, .ref ro, .ref ba] ∧ MapAt K H M x d ks ps0 rs0 bs0 ∧ TabG H P ∧
  SqK cp K H pl (ps.map V.str) ∧ SqK cr K H ro xs ∧ Paired (fun r v => GRoadX K H (rG r) v) rs xs ∧ SqK cb K H ba zs ∧ Paired (GBar H) bs zs ∧ PartsSm d ks ps rs bs ∧ EitherM K M C P H d ks ps rs bs Q E
section
variable {Pg : Program} {w : World} {K : PySem.W.Frag} {mg : Str → Option Value} {base : Heap} {C P : Addr}
end
end W

set_option Elab.async false
set_option linter.all false
set_option maxRecDepth 100000
set_option maxHeartbeats 4000000
namespace W
open PySem PySem.Spec PyProof.Rows L2 GxR MyG MyS SqX
theorem Paired.app {α β : Type} {F : α → β → Prop} {l l2 : List α} {m m2 : List β} (h : Paired F l m) (g : Paired F l2 m2) : Paired F (l ++ l2) (m ++ m2) := paired_app h g
/-! ### Map.with_road, Map.with_hours -/
def putR (r : RoadD) (rs : List RoadD) : List RoadD := butR r.name rs ++ [r]
def spWithRX (K : PySem.W.Frag) (M C P : Addr) : Sp := fun vs H Q E => ∃ (x : Addr) (v : V) (r : RoadD) (d : Int) (ks ps : List Str) (rs : List RoadD) (bs : List (Str × Str)), vs = [.ref x, v] ∧ GRoadX K H (rG r) v ∧ MapAt K H M x d ks ps rs bs ∧ rs.length ≤ 60 ∧ TabG H P ∧ PartsSm d ks ps (putR r rs) bs ∧
  EitherM K M C P H d ks ps (putR r rs) bs Q E
def spWithHX (K : PySem.W.Frag) (M C U P : Addr) : Sp := fun vs H Q E => ∃ (x : Addr) (z : Str) (v : V) (hs : Option (List (Int × Int))) (d : Int) (ks ps : List Str) (rs : List RoadD) (bs : List (Str × Str)), vs = [.ref x, .str z, v] ∧ z.length ≤ 1000 ∧ GHoursX K H (hoursG hs) v ∧ MapAt K H M x d ks ps rs bs ∧ rs.length ≤ 60 ∧ TabG H P ∧
  (∀ r ∈ rs, r.name = z → PartsSm d ks ps (putR { r with hours := hs } rs) bs ∧ EitherM K M C P H d ks ps (putR { r with hours := hs } rs) bs Q E) ∧ (¬ Known rs z → Unk U H E z)
section
variable {Pg : Program} {w : World} {K : PySem.W.Frag} {mg : Str → Option Value} {base : Heap} {C P : Addr}
abbrev nWR : List Str := ["self", "road", "others", "other"]
end
end W

set_option Elab.async false
set_option linter.all false
set_option maxRecDepth 100000
set_option maxHeartbeats 4000000
namespace W
open PySem PySem.Spec PyProof.Rows L2 GxR MyG MyS SqX
theorem eqvAll_strs : ∀ (xs ys : List Str), PyData.eqvAll (xs.map .str) (ys.map .str) = decide (xs = ys)
  | [], [] => by simp [PyData.eqvAll]
  | [], y :: ys => by simp [PyData.eqvAll]
  | x :: xs, [] => by simp [PyData.eqvAll]
  | x :: xs, y :: ys => by
    rw [List.map_cons, List.map_cons, PyData.eqvAll, eqvAll_strs xs ys]
    have e : PyData.eqv (.str x) (.str y) = decide (x = y) := by
      rw [PyData.eqv]
      exact Bool.beq_eq_decide_eq ..
    rw [e, Bool.eq_iff_iff, Bool.and_eq_true, decide_eq_true_eq, decide_eq_true_eq, decide_eq_true_eq, List.cons.injEq]
theorem eqv_lists (xs ys : List Str) : PyData.eqv (.list (xs.map .str)) (.list (ys.map .str)) = decide (xs = ys) := by
  rw [PyData.eqv]
  exact eqvAll_strs xs ys
/-! ### Map.without_road, with_place, without_place, with_bar, without_bar -/
def spWithoutRX (K : PySem.W.Frag) (M C U P : Addr) : Sp := fun vs H Q E => ∃ (x : Addr) (z : Str) (d : Int) (ks ps : List Str) (rs : List RoadD) (bs : List (Str × Str)), vs = [.ref x, .str z] ∧ z.length ≤ 1000 ∧ MIn K H M P x d ks ps rs bs ∧
  (Known rs z → EitherM K M C P H d ks ps (butR z rs) (butB z bs) Q E) ∧ (¬ Known rs z → Unk U H E z)
def spWithPlX (K : PySem.W.Frag) (M C P : Addr) : Sp := fun vs H Q E => ∃ (x : Addr) (z : Str) (d : Int) (ks ps : List Str) (rs : List RoadD) (bs : List (Str × Str)), vs = [.ref x, .str z] ∧ MIn K H M P x d ks ps rs bs ∧ PartsSm d ks (ps ++ [z]) rs bs ∧
  EitherM K M C P H d ks (ps ++ [z]) rs bs Q E
def outP (z : Str) (ps : List Str) : List Str := ps.filter fun q => !decide (q = z)
def spWoutPlX (K : PySem.W.Frag) (M C U P : Addr) : Sp := fun vs H Q E => ∃ (x : Addr) (z : Str) (d : Int) (ks ps : List Str) (rs : List RoadD) (bs : List (Str × Str)), vs = [.ref x, .str z] ∧ z.length ≤ 1000 ∧ MIn K H M P x d ks ps rs bs ∧
  (z ∈ ps → EitherM K M C P H d ks (outP z ps) rs bs Q E) ∧ (z ∉ ps → Unk U H E z)
def spWithBX (K : PySem.W.Frag) (M C U P : Addr) : Sp := fun vs H Q E => ∃ (x : Addr) (a b : Str) (d : Int) (ks ps : List Str) (rs : List RoadD) (bs : List (Str × Str)), vs = [.ref x, .str a, .str b] ∧ a.length ≤ 1000 ∧ b.length ≤ 1000 ∧ MIn K H M P x d ks ps rs bs ∧
  (Known rs a → Known rs b → EitherM K M C P H d ks ps rs (bs ++ [(a, b)]) Q E) ∧ (¬ Known rs a → Unk U H E a) ∧ (Known rs a → ¬ Known rs b → Unk U H E b)
def outB (a b : Str) (bs : List (Str × Str)) : List (Str × Str) := bs.filter fun q => !decide (q = (a, b))
def spWoutBX (K : PySem.W.Frag) (M C U P : Addr) : Sp := fun vs H Q E => ∃ (x : Addr) (a b : Str) (d : Int) (ks ps : List Str) (rs : List RoadD) (bs : List (Str × Str)), vs = [.ref x, .str a, .str b] ∧ a.length ≤ 1000 ∧ b.length ≤ 1000 ∧ PyData.strOk a = true ∧ PyData.strOk b = true ∧ MIn K H M P x d ks ps rs bs ∧
  (Known rs a → Known rs b → (a, b) ∈ bs → EitherM K M C P H d ks ps rs (outB a b bs) Q E) ∧ (Known rs a → Known rs b → (a, b) ∉ bs → BadM C P H E) ∧ (¬ Known rs a → Unk U H E a) ∧ (Known rs a → ¬ Known rs b → Unk U H E b)
theorem sm_less {d : Int} {ks ps ps' : List Str} {rs rs' : List RoadD} {bs bs' : List (Str × Str)} (h : PartsSm d ks ps rs bs) (hp : ∀ z ∈ ps', z ∈ ps) (hr : ∀ r ∈ rs', r ∈ rs) (hb : ∀ b ∈ bs', b ∈ bs) (lp : ps'.length ≤ ps.length) (lr : rs'.length ≤ rs.length) (lb : bs'.length ≤ bs.length) : PartsSm d ks ps' rs' bs' := by
  obtain ⟨s⟩ := h
  have q1 := s.pl
  have q2 := s.rl
  have q3 := s.bl
  rw [List.length_map] at q2 q3
  refine ⟨⟨s.d, s.kl, s.k, by omega, fun z hz => s.p z (hp z hz), by rw [List.length_map]; omega, fun r hr' => s.r r ?_, by rw [List.length_map]; omega, fun b hb' => s.b b ?_⟩⟩
  · obtain ⟨r0, h0, e⟩ := List.mem_map.mp hr'
    exact List.mem_map.mpr ⟨r0, hr r0 h0, e⟩
  · obtain ⟨b0, h0, e⟩ := List.mem_map.mp hb'
    exact List.mem_map.mpr ⟨b0, hb b0 h0, e⟩
section
variable {Pg : Program} {w : World} {K : PySem.W.Frag} {mg : Str → Option Value} {base : Heap} {C P : Addr}
abbrev nWo : List Str := ["self", "name", "roads", "bars", "road", "bar"]
abbrev nWPl : List Str := ["self", "place"]
abbrev nOP : List Str := ["self", "place", "places", "other"]
abbrev nWB : List Str := ["self", "first", "second"]
abbrev nOB : List Str := ["self", "first", "second", "bars", "bar"]
end
end W

set_option Elab.async false
set_option linter.all false
set_option maxRecDepth 100000
set_option maxHeartbeats 2000000
namespace W
open PySem PySem.Spec PyProof.Rows L2 GxR MyG MyS SqX
/-! ### parts in another order, parts as a map keeps them -/
theorem paired_flip {α β : Type} {F : α → β → Prop} {G : β → α → Prop} (u : ∀ a b, F a b → G b a) : ∀ {l : List α} {m : List β}, Paired F l m → Paired G m l
  | _, _, .nil => .nil
  | _, _, .cons a r => .cons (u _ _ a) (paired_flip u r)
theorem paired_rev {α β : Type} {F : α → β → Prop} {l : List α} {m : List β} (h : Paired F l m) : Paired F l.reverse m.reverse := by
  induction h with
  | nil => exact .nil
  | cons a _ ih =>
    rw [List.reverse_cons, List.reverse_cons]
    exact Paired.snoc ih a
theorem all_perm {α : Type} {f : α → Bool} {l m : List α} (p : l.Perm m) (h : m.all f = true) : l.all f = true := List.all_eq_true.mpr fun x hx => List.all_eq_true.mp h x (p.mem_iff.mp hx)
theorem roadOk_in {d : Int} {ps ks ps' ks' : List Str} {r : RoadD} (h : RoadOk d ps ks r) (hp : ∀ z ∈ ps, z ∈ ps') (hk : ∀ z ∈ ks, z ∈ ks') : RoadOk d ps' ks' r := ⟨hp _ h.s, hp _ h.g, h.m1, h.m2, fun z hz => hk _ (h.u z hz), h.un, h.ud, h.h⟩
theorem partsOk_perm {d : Int} {ks ps ks' ps' : List Str} {rs rs' : List RoadD} {bs bs' : List (Str × Str)} (h : PartsOk d ks ps rs bs) (hk : ks'.Perm ks) (hp : ps'.Perm ps) (hr : rs'.Perm rs) (hb : bs'.Perm bs) : PartsOk d ks' ps' rs' bs' := by
  refine ⟨h.d1, h.d2, by rw [hk.length_eq]; exact h.k1, by rw [hk.length_eq]; exact h.k2, by rw [hp.length_eq]; exact h.p2, all_perm hk h.kn, all_perm hp h.pn, hk.nodup_iff.mpr h.kd, hp.nodup_iff.mpr h.pd, ⟨by rw [hr.length_eq]; exact h.r.len, all_perm (hr.map _) h.r.nm, (hr.map _).nodup_iff.mpr h.r.nd, fun r m => roadOk_in (h.r.ok r (hr.mem_iff.mp m)) (fun z => hp.mem_iff.mpr) (fun z => hk.mem_iff.mpr)⟩, ⟨by rw [hb.length_eq]; exact h.b.len, hb.nodup_iff.mpr h.b.nd, fun b m => ?_⟩⟩
  obtain ⟨r1, m1, r2, m2, q⟩ := h.b.ok b (hb.mem_iff.mp m)
  exact ⟨r1, hr.mem_iff.mpr m1, r2, hr.mem_iff.mpr m2, q⟩
theorem partsOk_srt {d : Int} {ks ps ks' ps' : List Str} {rs rs' : List RoadD} {bs bs' : List (Str × Str)} (h : PartsOk d ks ps rs bs) (s : Srt ks ps rs bs ks' ps' rs' bs') : PartsOk d ks' ps' rs' bs' := by
  have ek : ∀ r' ∈ rs', ∃ r ∈ rs, Kept r r' := fun r' hr' => by
    obtain ⟨l, pm, q⟩ := s.r
    exact Paired.mem q (pm.mem_iff.mpr hr')
  have ke : ∀ r ∈ rs, ∃ r' ∈ rs', Kept r r' := fun r hr => by
    obtain ⟨l, pm, q⟩ := s.r
    obtain ⟨i, hi, e⟩ := List.getElem_of_mem hr
    obtain ⟨v, hv, m⟩ := Paired.to q (List.getElem?_eq_some_iff.mpr ⟨hi, e⟩)
    exact ⟨v, pm.mem_iff.mp (List.mem_of_getElem? hv), m⟩
  refine ⟨h.d1, h.d2, by rw [s.k.length_eq]; exact h.k1, by rw [s.k.length_eq]; exact h.k2, by rw [s.p.length_eq]; exact h.p2, all_perm s.k h.kn, all_perm s.p h.pn, s.k.nodup_iff.mpr h.kd, s.p.nodup_iff.mpr h.pd, ⟨by rw [s.r.len]; exact h.r.len, List.all_eq_true.mpr fun z hz => ?_, s.r.nodup h.r.nd, fun r' m => ?_⟩, ⟨by rw [s.b.length_eq]; exact h.b.len, s.b.nodup_iff.mpr h.b.nd, fun b m => ?_⟩⟩
  · obtain ⟨r', hr', rfl⟩ := List.mem_map.mp hz
    obtain ⟨r, hr, k⟩ := ek r' hr'
    show isNm r'.name = true
    rw [k.1]
    exact List.all_eq_true.mp h.r.nm _ (List.mem_map.mpr ⟨r, hr, rfl⟩)
  · obtain ⟨r, hr, k1, k2, k3, k4, k5, k6, k7⟩ := ek r' m
    have o := h.r.ok r hr
    exact ⟨s.p.mem_iff.mpr (by rw [k2]; exact o.s), s.p.mem_iff.mpr (by rw [k3]; exact o.g), by rw [k4]; exact o.m1, by rw [k4]; exact o.m2, fun z hz => s.k.mem_iff.mpr (o.u z (k6.mem_iff.mp hz)), by rw [k6.length_eq]; exact o.un, k6.nodup_iff.mpr o.ud, by rw [k5]; exact o.h⟩
  · obtain ⟨r1, m1, r2, m2, e1, e2, e3⟩ := h.b.ok b (s.b.mem_iff.mp m)
    obtain ⟨s1, n1, k1⟩ := ke r1 m1
    obtain ⟨s2, n2, k2⟩ := ke r2 m2
    exact ⟨s1, n1, s2, n2, by rw [k1.1]; exact e1, by rw [k2.1]; exact e2, by rw [k1.2.2.1, k2.2.1]; exact e3⟩
theorem kept_trans {a b c : RoadD} (h1 : Kept a b) (h2 : Kept b c) : Kept a c := ⟨h2.1.trans h1.1, h2.2.1.trans h1.2.1, h2.2.2.1.trans h1.2.2.1, h2.2.2.2.1.trans h1.2.2.2.1, h2.2.2.2.2.1.trans h1.2.2.2.2.1, h2.2.2.2.2.2.1.trans h1.2.2.2.2.2.1, h2.2.2.2.2.2.2⟩
theorem paired_trans {α β γ : Type} {F : α → β → Prop} {G : β → γ → Prop} {R : α → γ → Prop} (u : ∀ a b c, F a b → G b c → R a c) : ∀ {l : List α} {m : List β} {n : List γ}, Paired F l m → Paired G m n → Paired R l n
  | _, _, _, .nil, h => by cases h; exact .nil
  | _, _, _, .cons a r, h => by
    cases h with
    | cons b s => exact .cons (u _ _ _ a b) (paired_trans u r s)
theorem keptAll_trans {a b c : List RoadD} (h1 : KeptAll a b) (h2 : KeptAll b c) : KeptAll a c := by
  obtain ⟨l, p, q⟩ := h1
  obtain ⟨m, p2, q2⟩ := h2
  -- a ~Kept~ l, l ~ b, b ~Kept~ m, m ~ c
  obtain ⟨m', p3, q3⟩ := Paired.perm p (paired_flip (G := fun y x => Kept x y) (fun _ _ h => h) q2)
  have q4 : Paired Kept l m' := paired_flip (fun _ _ h => h) q3
  exact ⟨m', p3.trans p2, paired_trans (F := Kept) (G := Kept) (R := Kept) (fun _ _ _ h1 h2 => kept_trans h1 h2) q q4⟩
theorem Srt.trans {ks ps ks1 ps1 ks2 ps2 : List Str} {rs rs1 rs2 : List RoadD} {bs bs1 bs2 : List (Str × Str)} (h1 : Srt ks ps rs bs ks1 ps1 rs1 bs1) (h2 : Srt ks1 ps1 rs1 bs1 ks2 ps2 rs2 bs2) : Srt ks ps rs bs ks2 ps2 rs2 bs2 :=
  ⟨h2.k.trans h1.k, h2.ka, h2.p.trans h1.p, h2.pa, keptAll_trans h1.r h2.r, h2.ra, h2.b.trans h1.b, h2.ba⟩
theorem Srt.rev {ks ps ks2 ps2 : List Str} {rs rs2 : List RoadD} {bs bs2 : List (Str × Str)} (h : Srt ks.reverse ps.reverse rs.reverse bs.reverse ks2 ps2 rs2 bs2) : Srt ks ps rs bs ks2 ps2 rs2 bs2 := by
  refine ⟨h.k.trans (List.reverse_perm _), h.ka, h.p.trans (List.reverse_perm _), h.pa, ?_, h.ra, h.b.trans (List.reverse_perm _), h.ba⟩
  obtain ⟨l, p, q⟩ := h.r
  have q2 := paired_rev q
  rw [List.reverse_reverse] at q2
  exact ⟨l.reverse, (List.reverse_perm l).trans p, q2⟩
theorem srt_bare {ks ks2 ps2 : List Str} {rs2 : List RoadD} {bs2 : List (Str × Str)} (h : Srt ks [] [] [] ks2 ps2 rs2 bs2) : ps2 = [] ∧ rs2 = [] ∧ bs2 = [] := by
  obtain ⟨l, p, q⟩ := h.r
  cases q
  exact ⟨List.perm_nil.mp h.p, List.nil_perm.mp p, List.perm_nil.mp h.b⟩
theorem partsOk_bare {d : Int} {ks ps : List Str} {rs : List RoadD} {bs : List (Str × Str)} (h : PartsOk d ks ps rs bs) : PartsOk d ks [] [] [] :=
  ⟨h.d1, h.d2, h.k1, h.k2, Nat.zero_le _, h.kn, rfl, h.kd, List.nodup_nil, ⟨Nat.zero_le _, rfl, List.nodup_nil, fun r h => (by cases h)⟩, ⟨Nat.zero_le _, List.nodup_nil, fun r h => (by cases h)⟩⟩
end W

set_option Elab.async false
set_option linter.all false
set_option maxRecDepth 100000
/-! x in t, x not in t, where t is a tuple of data of any depth -/
namespace MyH
open PySem PySem.Spec PyProof.Rows L2
section
variable {X : Cx}
def rInDT (K : PySem.W.Frag) : R2 := fun x y H Q => ∃ d ds, Dp K H x d ∧ Dp K H y (.tuple ds) ∧ SeqAt.shaped d = true ∧ SeqAt.shaped (.tuple ds) = true ∧ Q (.bl (ds.any fun z => PyData.eqv z d)) H
def rNotInDT (K : PySem.W.Frag) : R2 := fun x y H Q => ∃ d ds, Dp K H x d ∧ Dp K H y (.tuple ds) ∧ SeqAt.shaped d = true ∧ SeqAt.shaped (.tuple ds) = true ∧ Q (.bl (!ds.any fun z => PyData.eqv z d)) H
theorem op_inDT (hu : X.A.units + 65 < cLine) : OpR X (compareOp .In) (rInDT X.K) := by
  intro pins s σ H x y v u Q I rx ry h
  obtain ⟨d, ds, hd, he, sd, se, q⟩ := h
  obtain ⟨as, r1⟩ := Dp.reads I d x v hd rx
  obtain ⟨bs, r2⟩ := Dp.reads I (.tuple ds) y u he ry
  exact SeqAt.in_tuple_reads r2 r1 (SeqAt.canLay_of_shaped se) (SeqAt.canLay_of_shaped sd) (room_in_shaped sd hu) ⟨.bl _, H, I, rfl, q⟩
theorem op_notInDT (hu : X.A.units + 65 < cLine) : OpR X (compareOp .NotIn) (rNotInDT X.K) := by
  intro pins s σ H x y v u Q I rx ry h
  obtain ⟨d, ds, hd, he, sd, se, q⟩ := h
  obtain ⟨as, r1⟩ := Dp.reads I d x v hd rx
  obtain ⟨bs, r2⟩ := Dp.reads I (.tuple ds) y u he ry
  exact SeqAt.notIn_tuple_reads r2 r1 (SeqAt.canLay_of_shaped se) (SeqAt.canLay_of_shaped sd) (room_in_shaped sd hu) ⟨.bl _, H, I, rfl, q⟩
end
end MyH

set_option Elab.async false
set_option linter.all false
set_option maxRecDepth 100000
set_option maxHeartbeats 2000000
set_option exponentiation.threshold 2000
namespace W
open PySem PySem.Spec PyProof.Rows L2 GxR MyG MyS SqX
/-! ### plain data: it is equal as Python says exactly if it is the same -/
mutual
def Pl : PyData → Prop
  | .none => True
  | .bool _ => False
  | .int _ => True
  | .str _ => True
  | .list xs => PlAll xs
  | .tuple xs => PlAll xs
  | .dict _ => False
def PlAll : List PyData → Prop
  | [] => True
  | d :: ds => Pl d ∧ PlAll ds
end
mutual
theorem eqv_iff : ∀ (d e : PyData), Pl d → Pl e → (PyData.eqv d e = true ↔ d = e)
  | .none, e, _, he => by cases e <;> simp [PyData.eqv]
  | .bool b, e, h, _ => h.elim
  | .int i, e, _, he => by
    cases e with
    | bool b => exact he.elim
    | int j => simp [PyData.eqv]
    | _ => simp [PyData.eqv]
  | .str x, e, _, he => by
    cases e with
    | str y => rw [PyData.eqv, beq_iff_eq, PyData.str.injEq]
    | _ => simp [PyData.eqv]
  | .list xs, e, h, he => by
    cases e with
    | list ys => rw [PyData.eqv, eqvAll_iff xs ys h he, PyData.list.injEq]
    | _ => simp [PyData.eqv]
  | .tuple xs, e, h, he => by
    cases e with
    | tuple ys => rw [PyData.eqv, eqvAll_iff xs ys h he, PyData.tuple.injEq]
    | _ => simp [PyData.eqv]
  | .dict kvs, e, h, _ => h.elim
theorem eqvAll_iff : ∀ (ds es : List PyData), PlAll ds → PlAll es → (PyData.eqvAll ds es = true ↔ ds = es)
  | [], [], _, _ => by simp [PyData.eqvAll]
  | [], _ :: _, _, _ => by simp [PyData.eqvAll]
  | _ :: _, [], _, _ => by simp [PyData.eqvAll]
  | d :: ds, e :: es, h, he => by
    rw [PyData.eqvAll, Bool.and_eq_true, eqv_iff d e h.1 he.1, eqvAll_iff ds es h.2 he.2, List.cons.injEq]
end
theorem plAll_of {ds : List PyData} (h : ∀ d ∈ ds, Pl d) : PlAll ds := by
  induction ds with
  | nil => exact True.intro
  | cons d ds ih => exact ⟨h d List.mem_cons_self, ih fun x hx => h x (List.mem_cons_of_mem _ hx)⟩
theorem Pl.map {α : Type} {f : α → PyData} (h : ∀ a, Pl (f a)) (l : List α) : Pl (.tuple (l.map f)) := plAll_of fun d hd => by
  obtain ⟨a, _, rfl⟩ := List.mem_map.mp hd
  exact h a
theorem pl_strs (ns : List Str) : Pl (.tuple (ns.map .str)) := Pl.map (f := PyData.str) (fun _ => by show True; exact True.intro) ns
theorem pl_pair (p : Int × Int) : Pl (pairP p) := ⟨True.intro, True.intro, True.intro⟩
theorem pl_hours (hs : Option (List (Int × Int))) : Pl (hoursP hs) := by
  cases hs with
  | none => exact True.intro
  | some gs => exact Pl.map pl_pair gs
theorem pl_road (r : RoadD) : Pl (roadP r) := ⟨True.intro, True.intro, True.intro, True.intro, pl_strs _, pl_hours _, True.intro⟩
theorem pl_bar (b : Str × Str) : Pl (barP b) := ⟨True.intro, True.intro, True.intro⟩
theorem map_inj' {α β : Type} {f : α → β} (h : ∀ a b, f a = f b → a = b) : ∀ {l m : List α}, l.map f = m.map f → l = m
  | [], [], _ => rfl
  | [], _ :: _, e => by cases e
  | _ :: _, [], e => by cases e
  | a :: l, b :: m, e => by
    rw [List.map_cons, List.map_cons] at e
    injection e with e1 e2
    rw [h a b e1, map_inj' h e2]
theorem strs_inj {a b : List Str} (e : a.map PyData.str = b.map PyData.str) : a = b := map_inj' (fun x y h => by injection h) e
theorem pairP_inj (p q : Int × Int) (e : pairP p = pairP q) : p = q := by
  unfold pairP at e
  injection e with e
  injection e with e1 e
  injection e with e2
  injection e1 with e1
  injection e2 with e2
  exact Prod.ext e1 e2
theorem hoursP_inj {a b : Option (List (Int × Int))} (e : hoursP a = hoursP b) : a = b := by
  cases a with
  | none => cases b with
    | none => rfl
    | some _ => cases e
  | some x => cases b with
    | none => cases e
    | some y => exact congrArg some (map_inj' pairP_inj (PyData.tuple.inj e))
theorem roadP_inj {r s : RoadD} (e : roadP r = roadP s) : r = s := by
  obtain ⟨a1, a2, a3, a4, a5, a6⟩ := r
  obtain ⟨b1, b2, b3, b4, b5, b6⟩ := s
  unfold roadP at e
  simp only [PyData.tuple.injEq, List.cons.injEq, PyData.str.injEq, PyData.int.injEq, and_true] at e
  obtain ⟨rfl, rfl, rfl, rfl, e5, e6⟩ := e
  rw [strs_inj e5, hoursP_inj e6]
theorem barP_inj {r s : Str × Str} (e : barP r = barP s) : r = s := by
  unfold barP at e
  simp only [PyData.tuple.injEq, List.cons.injEq, PyData.str.injEq, and_true] at e
  exact Prod.ext e.1 e.2
/-- is it in the list: as Python says -/
theorem any_eqv {α : Type} {f : α → PyData} (hp : ∀ a, Pl (f a)) (hi : ∀ a b, f a = f b → a = b) (l : List α) (a : α) : ((l.map f).any fun z => PyData.eqv z (f a)) = true ↔ a ∈ l := by
  rw [List.any_eq_true]
  constructor
  · rintro ⟨z, hz, e⟩
    obtain ⟨b, hb, rfl⟩ := List.mem_map.mp hz
    rw [← hi b a ((eqv_iff _ _ (hp b) (hp a)).mp e)]
    exact hb
  · intro h
    exact ⟨f a, List.mem_map.mpr ⟨a, h, rfl⟩, (eqv_iff _ _ (hp a) (hp a)).mpr rfl⟩
/-! ### changes -/
/-- a part of a road that a change may change -/
inductive Pt
  | mi (i : Int)
  | ki (us : List Str)
  | ho (hs : Option (List (Int × Int)))
def Pt.of (r : RoadD) : Pt → Pt
  | .mi _ => .mi r.minutes
  | .ki _ => .ki r.users
  | .ho _ => .ho r.hours
def Pt.put (r : RoadD) : Pt → RoadD
  | .mi i => { r with minutes := i }
  | .ki us => { r with users := us }
  | .ho hs => { r with hours := hs }
def Pt.word : Pt → Str
  | .mi _ => "minutes"
  | .ki _ => "kinds"
  | .ho _ => "hours"
def Pt.spot : Pt → Nat
  | .mi _ => 3
  | .ki _ => 4
  | .ho _ => 5
def ptP : Pt → PyData
  | .mi i => .int i
  | .ki us => .tuple (us.map .str)
  | .ho hs => hoursP hs
def PtAt (K : PySem.W.Frag) (H : Hp) : Pt → V → Prop
  | .mi i, v => v = .int i
  | .ki us, v => ∃ q, v = .ref q ∧ H q = some (.tup (us.map V.str))
  | .ho hs, v => GHours K H hs v
inductive Chg
  | place (up : Bool) (z : Str)
  | road (up : Bool) (r : RoadD)
  | part (n : Str) (a b : Pt)
  | bar (up : Bool) (b : Str × Str)
def wPl : Bool → Str
  | true => "place"
  | false => "unplace"
def wRd : Bool → Str
  | true => "road"
  | false => "unroad"
def wBr : Bool → Str
  | true => "bar"
  | false => "unbar"
def Chg.word : Chg → Str
  | .place up _ => wPl up
  | .road up _ => wRd up
  | .part _ a _ => a.word
  | .bar up _ => wBr up
def chgP : Chg → PyData
  | .place up z => .tuple [.str (wPl up), .str z]
  | .road up r => .tuple [.str (wRd up), roadP r]
  | .part n a b => .tuple [.str a.word, .str n, ptP a, ptP b]
  | .bar up b => .tuple [.str (wBr up), .str b.1, .str b.2]
/-- what stands behind the word -/
def TailAt (K : PySem.W.Frag) (H : Hp) : Chg → List V → Prop
  | .place _ z, xs => xs = [.str z]
  | .road _ r, xs => ∃ v, xs = [v] ∧ RoadAt K H r v
  | .part n a b, xs => ∃ u v, xs = [.str n, u, v] ∧ PtAt K H a u ∧ PtAt K H b v
  | .bar _ b, xs => xs = [.str b.1, .str b.2]
def ChgAt (K : PySem.W.Frag) (H : Hp) (c : Chg) (v : V) : Prop := ∃ t xs, v = .ref t ∧ H t = some (.tup (.str c.word :: xs)) ∧ TailAt K H c xs
theorem GHours.grew {K : PySem.W.Frag} {P : Addr} {H H' : Hp} {hs : Option (List (Int × Int))} {v : V} (m : GHours K H hs v) (g : Grew P H H') (h : TabG H P) : GHours K H' hs v := m.keep (KeepT.grew g h)
theorem PtAt.grew {K : PySem.W.Frag} {P : Addr} {H H' : Hp} {p : Pt} {v : V} (m : PtAt K H p v) (g : Grew P H H') (h : TabG H P) : PtAt K H' p v := by
  cases p with
  | mi i => exact m
  | ki us => obtain ⟨q, e, e2⟩ := m; exact ⟨q, e, g.tup h e2⟩
  | ho hs => exact GHours.grew m g h
theorem TailAt.grew {K : PySem.W.Frag} {P : Addr} {H H' : Hp} {c : Chg} {xs : List V} (m : TailAt K H c xs) (g : Grew P H H') (h : TabG H P) : TailAt K H' c xs := by
  cases c with
  | place up z => exact m
  | road up r => obtain ⟨v, e, m⟩ := m; exact ⟨v, e, m.grew g h⟩
  | part n a b => obtain ⟨u, v, e, m1, m2⟩ := m; exact ⟨u, v, e, m1.grew g h, m2.grew g h⟩
  | bar up b => exact m
theorem ChgAt.grew {K : PySem.W.Frag} {P : Addr} {H H' : Hp} {c : Chg} {v : V} (m : ChgAt K H c v) (g : Grew P H H') (h : TabG H P) : ChgAt K H' c v := by
  obtain ⟨t, xs, e, q, m⟩ := m
  exact ⟨t, xs, e, g.tup h q, m.grew g h⟩
/-- a heap in which the tuples stay -/
structure TKp (H H' : Hp) : Prop where
  t : ∀ a xs, H a = some (.tup xs) → H' a = some (.tup xs)
  f : ∀ a u xs, H a = some (.frz u (.tup xs)) → H' a = some (.frz u (.tup xs))
theorem TKp.lst {H : Hp} {D : Addr} {o : HO} {l : List V} (e : H D = some (.lst l)) : TKp H (L2.upd H D o) := by
  refine ⟨fun a xs q => ?_, fun a u xs q => ?_⟩
  · rw [upd_ne (fun z => by rw [z, e] at q; cases q)]
    exact q
  · rw [upd_ne (fun z => by rw [z, e] at q; cases q)]
    exact q
theorem TKp.sq {K : PySem.W.Frag} {H H' : Hp} {a : Addr} {xs : List V} (k : TKp H H') (h : SqT K H a xs) : SqT K H' a xs := by
  rcases h with (h | ⟨u, h⟩) | h
  · exact .inl (.inl (k.t _ _ h))
  · exact .inl (.inr ⟨u, k.f _ _ _ h⟩)
  · exact .inr h
theorem GHours.kp {K : PySem.W.Frag} {H H' : Hp} {hs : Option (List (Int × Int))} {v : V} (k : TKp H H') (m : GHours K H hs v) : GHours K H' hs v := by
  cases hs with
  | none => exact m
  | some ps =>
    obtain ⟨l, xs, e, q, p⟩ := m
    exact ⟨l, xs, e, k.sq q, Paired.map' p fun _ _ m => let ⟨t, a, b⟩ := m; ⟨t, a, k.sq b⟩⟩
theorem RoadAt.kp {K : PySem.W.Frag} {H H' : Hp} {r : RoadD} {v : V} (k : TKp H H') (m : RoadAt K H r v) : RoadAt K H' r v := by
  obtain ⟨p, q, h, e, e1, e2, e3⟩ := m
  exact ⟨p, q, h, e, k.t _ _ e1, k.t _ _ e2, e3.kp k⟩
theorem PtAt.kp {K : PySem.W.Frag} {H H' : Hp} {p : Pt} {v : V} (k : TKp H H') (m : PtAt K H p v) : PtAt K H' p v := by
  cases p with
  | mi i => exact m
  | ki us => obtain ⟨q, e, e2⟩ := m; exact ⟨q, e, k.t _ _ e2⟩
  | ho hs => exact GHours.kp k m
theorem ChgAt.kp {K : PySem.W.Frag} {H H' : Hp} {c : Chg} {v : V} (k : TKp H H') (m : ChgAt K H c v) : ChgAt K H' c v := by
  obtain ⟨t, xs, e, q, m⟩ := m
  refine ⟨t, xs, e, k.t _ _ q, ?_⟩
  cases c with
  | place up z => exact m
  | road up r => obtain ⟨v, e, m⟩ := m; exact ⟨v, e, m.kp k⟩
  | part n a b => obtain ⟨u, v, e, m1, m2⟩ := m; exact ⟨u, v, e, m1.kp k, m2.kp k⟩
  | bar up b => exact m
theorem PtAt.dp {K : PySem.W.Frag} {H : Hp} {p : Pt} {v : V} (m : PtAt K H p v) : Dp K H v (ptP p) := by
  cases p with
  | mi i => have e : v = .int i := m; rw [e]; exact .int i
  | ki us => obtain ⟨q, rfl, e2⟩ := m; exact .tup (SqT.of e2) (dpAll_strs _)
  | ho hs => exact GHours.dp m
theorem ChgAt.dp {K : PySem.W.Frag} {H : Hp} {c : Chg} {v : V} (m : ChgAt K H c v) : Dp K H v (chgP c) := by
  obtain ⟨t, xs, rfl, q, m⟩ := m
  cases c with
  | place up z => obtain rfl := m; exact .tup (SqT.of q) (.cons (.str _) (.cons (.str _) .nil))
  | road up r => obtain ⟨v, rfl, m⟩ := m; exact .tup (SqT.of q) (.cons (.str _) (.cons m.dp .nil))
  | part n a b => obtain ⟨u, v, rfl, m1, m2⟩ := m; exact .tup (SqT.of q) (.cons (.str _) (.cons (.str _) (.cons m1.dp (.cons m2.dp .nil))))
  | bar up b => obtain rfl := m; exact .tup (SqT.of q) (.cons (.str _) (.cons (.str _) (.cons (.str _) .nil)))
theorem pl_pt (p : Pt) : Pl (ptP p) := by
  cases p with
  | mi i => exact True.intro
  | ki us => exact pl_strs us
  | ho hs => exact pl_hours hs
/-! ### which changes are drawn -/
structure GoodR (d : Int) (ks : List Str) (r : RoadD) : Prop where
  n : isNm r.name = true
  s : isNm r.start = true
  g : isNm r.goal = true
  m1 : 1 ≤ r.minutes
  m2 : r.minutes ≤ 1000
  u : ∀ k ∈ r.users, k ∈ ks
  un : r.users.length ≤ 4
  ud : r.users.Nodup
  ua : Asc r.users
  h : HoursOk d r.hours
def PtSm : Pt → Prop
  | .mi i => i.natAbs < 10 ^ 9
  | .ki us => us.length ≤ 5 ∧ us.all isNm = true
  | .ho hs => ∀ gs, hs = some gs → gs.length ≤ 4 ∧ ∀ p ∈ gs, p.1.natAbs < 10 ^ 9 ∧ p.2.natAbs < 10 ^ 9
def SameK : Pt → Pt → Prop
  | .mi _, .mi _ => True
  | .ki _, .ki _ => True
  | .ho _, .ho _ => True
  | _, _ => False
def ChgOk (d : Int) (ks : List Str) : Chg → Prop
  | .place _ z => isNm z = true
  | .road _ r => GoodR d ks r
  | .part n a b => isNm n = true ∧ SameK a b ∧ PtSm a ∧ PtSm b
  | .bar _ b => isNm b.1 = true ∧ isNm b.2 = true
theorem GoodR.txt {d : Int} {ks : List Str} {r : RoadD} (h : GoodR d ks r) (hk : ks.all isNm = true) : TxtR r :=
  ⟨nm_ok h.n, nm_ok h.s, nm_ok h.g, fun z hz => all_nm hk z (h.u z hz)⟩
theorem lay_pt {p : Pt} (h : PtSm p) : Lay 3 (ptP p) := by
  cases p with
  | mi i => exact (Lay.int i).mono (by decide)
  | ki us => exact (lay_strs (all_nm h.2)).mono (by decide)
  | ho hs => exact lay_hours hs
theorem ptWord_ok (p : Pt) : PyData.strOk p.word = true := by
  cases p
  · show PyData.strOk "minutes" = true; decide +kernel
  · show PyData.strOk "kinds" = true; decide +kernel
  · show PyData.strOk "hours" = true; decide +kernel
theorem wPl_ok (b : Bool) : PyData.strOk (wPl b) = true := by cases b <;> decide +kernel
theorem wRd_ok (b : Bool) : PyData.strOk (wRd b) = true := by cases b <;> decide +kernel
theorem wBr_ok (b : Bool) : PyData.strOk (wBr b) = true := by cases b <;> decide +kernel
theorem chg_lay {d : Int} {ks : List Str} {c : Chg} (hk : ks.all isNm = true) (h : ChgOk d ks c) : Lay 5 (chgP c) := by
  cases c with
  | place up z =>
    refine Lay.tuple fun e he => ?_
    simp only [List.mem_cons, List.not_mem_nil, or_false] at he
    rcases he with rfl | rfl
    · exact (Lay.str (wPl_ok up)).mono (by decide)
    · exact (Lay.str (nm_ok h)).mono (by decide)
  | road up r =>
    refine Lay.tuple fun e he => ?_
    simp only [List.mem_cons, List.not_mem_nil, or_false] at he
    rcases he with rfl | rfl
    · exact (Lay.str (wRd_ok up)).mono (by decide)
    · exact (GoodR.txt h hk).lay
  | part n a b =>
    refine Lay.tuple fun e he => ?_
    simp only [List.mem_cons, List.not_mem_nil, or_false] at he
    rcases he with rfl | rfl | rfl | rfl
    · exact (Lay.str (ptWord_ok a)).mono (by decide)
    · exact (Lay.str (nm_ok h.1)).mono (by decide)
    · exact (lay_pt h.2.2.1).mono (by decide)
    · exact (lay_pt h.2.2.2).mono (by decide)
  | bar up b =>
    refine Lay.tuple fun e he => ?_
    simp only [List.mem_cons, List.not_mem_nil, or_false] at he
    rcases he with rfl | rfl | rfl
    · exact (Lay.str (wBr_ok up)).mono (by decide)
    · exact (Lay.str (nm_ok h.1)).mono (by decide)
    · exact (Lay.str (nm_ok h.2)).mono (by decide)
end W

set_option Elab.async false
set_option linter.all false
set_option maxRecDepth 100000
set_option maxHeartbeats 2000000
namespace W
open PySem PySem.Spec PyProof.Rows L2 GxR MyG MyS SqX
/-! ### what a change makes of parts as a map keeps them -/
noncomputable instance : DecidableEq RoadD := fun a b => Classical.propDecidable (a = b)
noncomputable def srtS (l : List Str) : List Str := open Classical in if h : ∃ m : List Str, m.Perm l ∧ Asc m then h.choose else l
noncomputable def srtB (l : List (Str × Str)) : List (Str × Str) := open Classical in if h : ∃ m : List (Str × Str), m.Perm l ∧ AscB m then h.choose else l
noncomputable def srtR (l : List RoadD) : List RoadD := open Classical in if h : ∃ m : List RoadD, m.Perm l ∧ AscR m then h.choose else l
theorem srtS_eq {l m : List Str} (p : m.Perm l) (a : Asc m) : srtS l = m := by
  have h : ∃ m : List Str, m.Perm l ∧ Asc m := ⟨m, p, a⟩
  unfold srtS
  rw [dif_pos h]
  exact asc_one h.choose_spec.1 p h.choose_spec.2 a
theorem srtB_eq {l m : List (Str × Str)} (p : m.Perm l) (a : AscB m) : srtB l = m := by
  have h : ∃ m : List (Str × Str), m.Perm l ∧ AscB m := ⟨m, p, a⟩
  unfold srtB
  rw [dif_pos h]
  exact ascB_one h.choose_spec.1 p h.choose_spec.2 a
theorem ascR_one {l m n : List RoadD} (nd : (n.map (·.name)).Nodup) (h1 : l.Perm n) (h2 : m.Perm n) (a1 : AscR l) (a2 : AscR m) : l = m :=
  List.Perm.eq_of_pairwise (le := fun a b : RoadD => slt b.name a.name = false) (fun a b ha hb p q => uniqN nd (h1.mem_iff.mp ha) (h2.mem_iff.mp hb) (slt_tri q p)) a1 a2 (h1.trans h2.symm)
theorem srtR_eq {l m : List RoadD} (nd : (l.map (·.name)).Nodup) (p : m.Perm l) (a : AscR m) : srtR l = m := by
  have h : ∃ m : List RoadD, m.Perm l ∧ AscR m := ⟨m, p, a⟩
  unfold srtR
  rw [dif_pos h]
  exact ascR_one nd h.choose_spec.1 p h.choose_spec.2 a
/-- the parts that a change may change -/
structure PT where
  ps : List Str
  rs : List RoadD
  bs : List (Str × Str)
def nmsR (rs : List RoadD) : List Str := rs.map (·.name)
noncomputable def outR (r : RoadD) (rs : List RoadD) : List RoadD := rs.filter fun x => !decide (x = r)
def setR (n : Str) (b : Pt) (rs : List RoadD) : List RoadD := rs.map fun r => if r.name = n then Pt.put r b else r
def fits (d : Int) (ks : List Str) : Pt → Prop
  | .mi i => 1 ≤ i ∧ i ≤ 1000
  | .ki us => us = ks.filter fun k => decide (k ∈ us)
  | .ho hs => ∀ gs, hs = some gs → hoursOk d (-1) gs
def Meets (rs : List RoadD) (b : Str × Str) : Prop := ∃ r1 ∈ rs, ∃ r2 ∈ rs, b.1 = r1.name ∧ b.2 = r2.name ∧ r1.goal = r2.start
noncomputable def chg (d : Int) (ks : List Str) (q : PT) : Chg → Option PT := open Classical in fun
  | .place true z => if z ∈ q.ps ∨ q.ps.length = 30 then none else some ⟨srtS (q.ps ++ [z]), q.rs, q.bs⟩
  | .place false z => if z ∉ q.ps ∨ ∃ r ∈ q.rs, z = r.start ∨ z = r.goal then none else some ⟨outP z q.ps, q.rs, q.bs⟩
  | .road true r => if r.name ∈ nmsR q.rs ∨ q.rs.length = 60 ∨ r.start ∉ q.ps ∨ r.goal ∉ q.ps then none else some ⟨q.ps, srtR (q.rs ++ [r]), q.bs⟩
  | .road false r => if r ∉ q.rs ∨ ∃ b ∈ q.bs, r.name = b.1 ∨ r.name = b.2 then none else some ⟨q.ps, outR r q.rs, q.bs⟩
  | .part n a b => if ∃ r ∈ q.rs, r.name = n ∧ Pt.of r b = a ∧ a ≠ b ∧ fits d ks b then some ⟨q.ps, setR n b q.rs, q.bs⟩ else none
  | .bar true b => if b ∈ q.bs ∨ q.bs.length = 40 ∨ ¬ Meets q.rs b then none else some ⟨q.ps, q.rs, srtB (q.bs ++ [b])⟩
  | .bar false b => if b ∈ q.bs then some ⟨q.ps, q.rs, outB b.1 b.2 q.bs⟩ else none
/-- parts as a map keeps them -/
structure SP (d : Int) (ks : List Str) (q : PT) : Prop where
  ok : PartsOk d ks q.ps q.rs q.bs
  ka : Asc ks
  pa : Asc q.ps
  ra : AscR q.rs
  ba : AscB q.bs
  ua : ∀ r ∈ q.rs, Asc r.users
theorem kept_self {r : RoadD} (h : Asc r.users) : Kept r r := ⟨rfl, rfl, rfl, rfl, rfl, List.Perm.refl _, h⟩
theorem keptAll_perm {rs l : List RoadD} (h : KeptAll rs l) (ua : ∀ r ∈ rs, Asc r.users) : l.Perm rs := by
  obtain ⟨m, pm, q⟩ := h
  have e : m = rs := by
    have key : ∀ {a b : List RoadD}, Paired Kept a b → (∀ r ∈ a, Asc r.users) → b = a := by
      intro a b h
      induction h with
      | nil => intro _; rfl
      | cons x _ ih =>
        intro hu
        rw [ih fun r hr => hu r (List.mem_cons_of_mem _ hr), kept_one x (kept_self (hu _ List.mem_cons_self))]
    exact key q ua
  rw [← e]
  exact pm.symm
/-- a map made of such parts holds them so -/
theorem SP.made {d : Int} {ks ps' ks2 ps2 : List Str} {rs' rs2 : List RoadD} {bs' bs2 : List (Str × Str)} {q : PT} (h : SP d ks q) (pp : ps'.Perm q.ps) (pr : rs'.Perm q.rs) (pb : bs'.Perm q.bs) (s : Srt ks ps' rs' bs' ks2 ps2 rs2 bs2) : ks2 = ks ∧ ps2 = q.ps ∧ rs2 = q.rs ∧ bs2 = q.bs :=
  ⟨asc_one s.k (List.Perm.refl _) s.ka h.ka, asc_one s.p pp.symm s.pa h.pa, ascR_one (n := rs') ((pr.map _).nodup_iff.mpr h.ok.r.nd) (keptAll_perm s.r fun r hr => h.ua r (pr.mem_iff.mp hr)) pr.symm s.ra h.ra, ascB_one s.b pb.symm s.ba h.ba⟩
theorem SP.of_srt {d : Int} {ks ps ks' ps' : List Str} {rs rs' : List RoadD} {bs bs' : List (Str × Str)} (ok : PartsOk d ks ps rs bs) (s : Srt ks ps rs bs ks' ps' rs' bs') : SP d ks' ⟨ps', rs', bs'⟩ := by
  refine ⟨partsOk_srt ok s, s.ka, s.pa, s.ra, s.ba, fun r hr => ?_⟩
  obtain ⟨l, pm, q⟩ := s.r
  obtain ⟨r0, _, k⟩ := Paired.mem q (pm.mem_iff.mpr hr)
  exact k.2.2.2.2.2.2
theorem SP.self {d : Int} {ks : List Str} {q : PT} (h : SP d ks q) : Srt ks q.ps q.rs q.bs ks q.ps q.rs q.bs := by
  refine ⟨List.Perm.refl _, h.ka, List.Perm.refl _, h.pa, ⟨q.rs, List.Perm.refl _, ?_⟩, h.ra, List.Perm.refl _, h.ba⟩
  have key : ∀ {a : List RoadD}, (∀ r ∈ a, Asc r.users) → Paired Kept a a := by
    intro a
    induction a with
    | nil => intro _; exact .nil
    | cons x l ih => intro hu; exact .cons (kept_self (hu x List.mem_cons_self)) (ih fun r hr => hu r (List.mem_cons_of_mem _ hr))
  exact key h.ua
/-! ### there is a sorted list of each -/
theorem srt_ex {α : Type} (lt : α → α → Bool) (ntr : ∀ x y z, lt y x = false → lt z y = false → lt z x = false) (asym : ∀ a b, lt a b = true → lt b a = false) (l : List α) : ∃ m : List α, m.Perm l ∧ m.Pairwise fun a b => lt b a = false := by
  refine ⟨l.mergeSort fun a b => !lt b a, List.mergeSort_perm _ _, (List.pairwise_mergeSort ?_ ?_ l).imp fun {a b} h => by simpa using h⟩
  · intro a b c h1 h2
    simp only [Bool.not_eq_true'] at h1 h2 ⊢
    exact ntr a b c h1 h2
  · intro a b
    cases e : lt b a with
    | false => rfl
    | true => simp [asym b a e]
theorem srtS_ok (l : List Str) : (srtS l).Perm l ∧ Asc (srtS l) := by
  obtain ⟨m, p, a⟩ := srt_ex slt (fun x y z => slt_ntr) (fun a b => slt_asym) l
  rw [srtS_eq p a]
  exact ⟨p, a⟩
theorem srtR_ok {l : List RoadD} (nd : (l.map (·.name)).Nodup) : (srtR l).Perm l ∧ AscR (srtR l) := by
  obtain ⟨m, p, a⟩ := srt_ex (fun a b : RoadD => slt a.name b.name) (fun x y z => slt_ntr) (fun a b => slt_asym) l
  rw [srtR_eq nd p a]
  exact ⟨p, a⟩
theorem slt2_ntr' {x y z : Str × Str} (h1 : slt2 y x = false) (h2 : slt2 z y = false) : slt2 z x = false := by
  by_cases e1 : x.1 = y.1
  · by_cases e2 : y.1 = z.1
    · rw [slt2_eq e1.symm] at h1
      rw [slt2_eq e2.symm] at h2
      rw [slt2_eq (e1.trans e2).symm]
      exact slt_ntr h1 h2
    · rw [slt2_ne (Ne.symm e2)] at h2
      rw [slt2_ne (fun c => e2 (e1.symm.trans c.symm)), e1]
      exact h2
  · by_cases e2 : y.1 = z.1
    · rw [slt2_ne (Ne.symm e1)] at h1
      rw [slt2_ne (fun c => e1 (c.symm.trans e2.symm)), ← e2]
      exact h1
    · rw [slt2_ne (Ne.symm e1)] at h1
      rw [slt2_ne (Ne.symm e2)] at h2
      have h3 := slt_ntr h1 h2
      by_cases e3 : z.1 = x.1
      · rw [e3] at h2
        exact absurd (slt_tri h2 h1) e1
      · rw [slt2_ne e3]
        exact h3
theorem slt2_asym {a b : Str × Str} (h : slt2 a b = true) : slt2 b a = false := by
  by_cases e : a.1 = b.1
  · rw [slt2_eq e] at h
    rw [slt2_eq e.symm]
    exact slt_asym h
  · rw [slt2_ne e] at h
    rw [slt2_ne (Ne.symm e)]
    exact slt_asym h
theorem srtB_ok (l : List (Str × Str)) : (srtB l).Perm l ∧ AscB (srtB l) := by
  obtain ⟨m, p, a⟩ := srt_ex slt2 (fun x y z => slt2_ntr') (fun a b => slt2_asym) l
  rw [srtB_eq p a]
  exact ⟨p, a⟩
/-! ### when the changed parts make a map -/
theorem mem_outP {z a : Str} {ps : List Str} : a ∈ outP z ps ↔ a ∈ ps ∧ a ≠ z := by
  unfold outP
  rw [List.mem_filter]
  simp
theorem mem_outB {a b : Str} {x : Str × Str} {bs : List (Str × Str)} : x ∈ outB a b bs ↔ x ∈ bs ∧ x ≠ (a, b) := by
  unfold outB
  rw [List.mem_filter]
  simp
section
variable {d : Int} {ks : List Str} {q : PT}
theorem ok_place (h : PartsOk d ks q.ps q.rs q.bs) {z : Str} (hz : isNm z = true) : PartsOk d ks (q.ps ++ [z]) q.rs q.bs ↔ ¬ (z ∈ q.ps ∨ q.ps.length = 30) := by
  constructor
  · intro o hn
    rcases hn with hn | hn
    · have q := (List.nodup_append.mp o.pd).2.2 z hn z (List.mem_singleton.mpr rfl)
      exact q rfl
    · have q := o.p2
      rw [List.length_append, hn, List.length_singleton] at q
      omega
  · intro hn
    have hn1 : z ∉ q.ps := fun c => hn (.inl c)
    have hn2 : q.ps.length ≠ 30 := fun c => hn (.inr c)
    have p2 := h.p2
    refine ⟨h.d1, h.d2, h.k1, h.k2, by rw [List.length_append, List.length_singleton]; omega, h.kn, by rw [List.all_append, h.pn]; simp [hz], h.kd, List.nodup_append.mpr ⟨h.pd, List.nodup_cons.mpr ⟨by simp, List.nodup_nil⟩, fun a ha b hb e => hn1 (by rw [← List.mem_singleton.mp hb, ← e]; exact ha)⟩, ⟨h.r.len, h.r.nm, h.r.nd, fun r hr => ?_⟩, h.b⟩
    have o := h.r.ok r hr
    exact ⟨List.mem_append.mpr (.inl o.s), List.mem_append.mpr (.inl o.g), o.m1, o.m2, o.u, o.un, o.ud, o.h⟩
theorem ok_unplace (h : PartsOk d ks q.ps q.rs q.bs) (z : Str) : PartsOk d ks (outP z q.ps) q.rs q.bs ↔ ¬ ∃ r ∈ q.rs, z = r.start ∨ z = r.goal := by
  constructor
  · rintro o ⟨r, hr, e⟩
    have w := o.r.ok r hr
    rcases e with e | e
    · exact (mem_outP.mp w.s).2 e.symm
    · exact (mem_outP.mp w.g).2 e.symm
  · intro hn
    have p2 := h.p2
    have lf : (outP z q.ps).length ≤ q.ps.length := List.length_filter_le _ _
    refine ⟨h.d1, h.d2, h.k1, h.k2, by omega, h.kn, List.all_eq_true.mpr fun a ha => List.all_eq_true.mp h.pn a (mem_outP.mp ha).1, h.kd, h.pd.sublist List.filter_sublist, ⟨h.r.len, h.r.nm, h.r.nd, fun r hr => ?_⟩, h.b⟩
    have o := h.r.ok r hr
    exact ⟨mem_outP.mpr ⟨o.s, fun e => hn ⟨r, hr, .inl e.symm⟩⟩, mem_outP.mpr ⟨o.g, fun e => hn ⟨r, hr, .inr e.symm⟩⟩, o.m1, o.m2, o.u, o.un, o.ud, o.h⟩
theorem butR_none {n : Str} {rs : List RoadD} (h : n ∉ nmsR rs) : butR n rs = rs := by
  unfold butR
  refine List.filter_eq_self.mpr fun r hr => ?_
  simp only [Bool.not_eq_true', decide_eq_false_iff_not]
  exact fun e => h (List.mem_map.mpr ⟨r, hr, e⟩)
theorem GoodR.ok {r : RoadD} (h : GoodR d ks r) {ps : List Str} (hs : r.start ∈ ps) (hg : r.goal ∈ ps) : RoadOk d ps ks r := ⟨hs, hg, h.m1, h.m2, h.u, h.un, h.ud, h.h⟩
theorem okP_road (h : PartsOk d ks q.ps q.rs q.bs) {r : RoadD} (hr : GoodR d ks r) (hn : r.name ∉ nmsR q.rs) : PartsOk d ks q.ps (putR r q.rs) q.bs ↔ ¬ (q.rs.length = 60 ∨ r.start ∉ q.ps ∨ r.goal ∉ q.ps) := by
  have e : putR r q.rs = q.rs ++ [r] := by unfold putR; rw [butR_none hn]
  rw [e]
  have hrm : r ∈ q.rs ++ [r] := List.mem_append.mpr (.inr List.mem_cons_self)
  constructor
  · intro o hx
    rcases hx with hx | hx | hx
    · have := o.r.len
      rw [List.length_append, hx, List.length_singleton] at this
      omega
    · exact hx (o.r.ok r hrm).s
    · exact hx (o.r.ok r hrm).g
  · intro hx
    have h1 : q.rs.length ≠ 60 := fun c => hx (.inl c)
    have h2 : r.start ∈ q.ps := Classical.byContradiction fun c => hx (.inr (.inl c))
    have h3 : r.goal ∈ q.ps := Classical.byContradiction fun c => hx (.inr (.inr c))
    have l60 := h.r.len
    refine ⟨h.d1, h.d2, h.k1, h.k2, h.p2, h.kn, h.pn, h.kd, h.pd, ⟨by rw [List.length_append, List.length_singleton]; omega, ?_, ?_, fun x hx => ?_⟩, ⟨h.b.len, h.b.nd, fun b hb => ?_⟩⟩
    · rw [List.map_append, List.all_append, h.r.nm]
      simp [hr.n]
    · rw [List.map_append]
      exact List.nodup_append.mpr ⟨h.r.nd, List.nodup_cons.mpr ⟨by simp, List.nodup_nil⟩, fun a ha b hb e => hn (by rw [show r.name = b from (List.mem_singleton.mp hb).symm, ← e]; exact ha)⟩
    · rcases List.mem_append.mp hx with c | c
      · exact h.r.ok x c
      · rw [List.mem_singleton.mp c]
        exact hr.ok h2 h3
    · obtain ⟨r1, m1, r2, m2, e1, e2, e3⟩ := h.b.ok b hb
      exact ⟨r1, List.mem_append.mpr (.inl m1), r2, List.mem_append.mpr (.inl m2), e1, e2, e3⟩
theorem butB_none {z : Str} {bs : List (Str × Str)} (h : ¬ ∃ b ∈ bs, z = b.1 ∨ z = b.2) : butB z bs = bs := by
  unfold butB
  refine List.filter_eq_self.mpr fun b hb => ?_
  simp only [Bool.not_eq_true', decide_eq_false_iff_not]
  exact fun e => h ⟨b, hb, e⟩
theorem outR_but {rs : List RoadD} (nd : (rs.map (·.name)).Nodup) {r : RoadD} (hr : r ∈ rs) : outR r rs = butR r.name rs := by
  unfold outR butR
  refine List.filter_congr fun x hx => ?_
  congr 1
  by_cases e : x = r
  · rw [decide_eq_true e, decide_eq_true (by rw [e])]
  · rw [decide_eq_false e, decide_eq_false (fun c => e (uniqN nd hx hr c))]
theorem ok_unroad (h : PartsOk d ks q.ps q.rs q.bs) {r : RoadD} (hn : ¬ ∃ b ∈ q.bs, r.name = b.1 ∨ r.name = b.2) : PartsOk d ks q.ps (butR r.name q.rs) q.bs := by
  have l60 := h.r.len
  have lf : (butR r.name q.rs).length ≤ q.rs.length := List.length_filter_le _ _
  refine ⟨h.d1, h.d2, h.k1, h.k2, h.p2, h.kn, h.pn, h.kd, h.pd, ⟨by omega, List.all_eq_true.mpr fun a ha => ?_, h.r.nd.sublist (List.filter_sublist.map _), fun x hx => h.r.ok x (mem_butR.mp hx).1⟩, ⟨h.b.len, h.b.nd, fun b hb => ?_⟩⟩
  · obtain ⟨x, hx, rfl⟩ := List.mem_map.mp ha
    exact List.all_eq_true.mp h.r.nm _ (List.mem_map.mpr ⟨x, (mem_butR.mp hx).1, rfl⟩)
  · obtain ⟨r1, m1, r2, m2, e1, e2, e3⟩ := h.b.ok b hb
    exact ⟨r1, mem_butR.mpr ⟨m1, fun c => hn ⟨b, hb, .inl (c.symm.trans e1.symm)⟩⟩, r2, mem_butR.mpr ⟨m2, fun c => hn ⟨b, hb, .inr (c.symm.trans e2.symm)⟩⟩, e1, e2, e3⟩
theorem put_name (r : RoadD) (b : Pt) : (Pt.put r b).name = r.name ∧ (Pt.put r b).start = r.start ∧ (Pt.put r b).goal = r.goal := by cases b <;> exact ⟨rfl, rfl, rfl⟩
theorem setR_names (n : Str) (b : Pt) (rs : List RoadD) : (setR n b rs).map (·.name) = rs.map (·.name) := by
  unfold setR
  rw [List.map_map]
  refine List.map_congr_left fun r _ => ?_
  show (if r.name = n then Pt.put r b else r).name = r.name
  split
  · exact (put_name r b).1
  · rfl
theorem setR_none {n : Str} {b : Pt} {rs : List RoadD} (h : ∀ r ∈ rs, r.name ≠ n) : setR n b rs = rs := by
  unfold setR
  exact (List.map_congr_left (g := id) fun r hr => if_neg (h r hr)).trans (List.map_id rs)
theorem setR_perm {rs : List RoadD} (nd : (rs.map (·.name)).Nodup) {r : RoadD} (hr : r ∈ rs) (b : Pt) : (putR (Pt.put r b) rs).Perm (setR r.name b rs) := by
  obtain ⟨l1, l2, rfl⟩ := List.append_of_mem hr
  rw [List.map_append, List.map_cons] at nd
  obtain ⟨n1, n2, n3⟩ := List.nodup_append.mp nd
  have h1 : ∀ x ∈ l1, x.name ≠ r.name := fun x hx e => n3 x.name (List.mem_map.mpr ⟨x, hx, rfl⟩) r.name List.mem_cons_self e
  have h2 : ∀ x ∈ l2, x.name ≠ r.name := fun x hx e => (List.nodup_cons.mp n2).1 (List.mem_map.mpr ⟨x, hx, e⟩)
  have e1 : setR r.name b (l1 ++ r :: l2) = l1 ++ Pt.put r b :: l2 := by
    have : setR r.name b (l1 ++ r :: l2) = setR r.name b l1 ++ (if r.name = r.name then Pt.put r b else r) :: setR r.name b l2 := by unfold setR; rw [List.map_append, List.map_cons]
    rw [this, setR_none h1, setR_none h2, if_pos rfl]
  have e2 : butR (Pt.put r b).name (l1 ++ r :: l2) = l1 ++ l2 := by
    rw [(put_name r b).1]
    have : butR r.name (l1 ++ r :: l2) = butR r.name l1 ++ butR r.name l2 := by
      unfold butR
      rw [List.filter_append, List.filter_cons]
      simp
    rw [this, butR_none (fun c => by obtain ⟨x, hx, e⟩ := List.mem_map.mp c; exact h1 x hx e), butR_none (fun c => by obtain ⟨x, hx, e⟩ := List.mem_map.mp c; exact h2 x hx e)]
  unfold putR
  rw [e1, e2, List.append_assoc]
  refine List.Perm.append_left l1 ?_
  exact List.perm_append_comm (l₁ := l2) (l₂ := [Pt.put r b])
theorem ok_set (h : PartsOk d ks q.ps q.rs q.bs) {r : RoadD} (hr : r ∈ q.rs) (b : Pt) : PartsOk d ks q.ps (setR r.name b q.rs) q.bs ↔ RoadOk d q.ps ks (Pt.put r b) := by
  have nm := setR_names r.name b q.rs
  have len : (setR r.name b q.rs).length = q.rs.length := by unfold setR; rw [List.length_map]
  have hin : Pt.put r b ∈ setR r.name b q.rs := List.mem_map.mpr ⟨r, hr, if_pos rfl⟩
  constructor
  · intro o
    exact o.r.ok _ hin
  · intro o
    refine ⟨h.d1, h.d2, h.k1, h.k2, h.p2, h.kn, h.pn, h.kd, h.pd, ⟨by rw [len]; exact h.r.len, by rw [nm]; exact h.r.nm, by rw [nm]; exact h.r.nd, fun x hx => ?_⟩, ⟨h.b.len, h.b.nd, fun x hx => ?_⟩⟩
    · obtain ⟨y, hy, rfl⟩ := List.mem_map.mp hx
      by_cases e : y.name = r.name
      · rw [if_pos e, uniqN h.r.nd hy hr e]
        exact o
      · rw [if_neg e]
        exact h.r.ok y hy
    · obtain ⟨r1, m1, r2, m2, e1, e2, e3⟩ := h.b.ok x hx
      have key : ∀ y : RoadD, (if y.name = r.name then Pt.put y b else y).name = y.name ∧ (if y.name = r.name then Pt.put y b else y).start = y.start ∧ (if y.name = r.name then Pt.put y b else y).goal = y.goal := fun y => by
        split
        · exact put_name y b
        · exact ⟨rfl, rfl, rfl⟩
      exact ⟨_, List.mem_map.mpr ⟨r1, m1, rfl⟩, _, List.mem_map.mpr ⟨r2, m2, rfl⟩, by rw [(key r1).1]; exact e1, by rw [(key r2).1]; exact e2, by rw [(key r1).2.2, (key r2).2.1]; exact e3⟩
theorem fits_iff (h : SP d ks q) {r : RoadD} (hr : r ∈ q.rs) {b : Pt} (hb : PtSm b) : (RoadOk d q.ps ks (Pt.put r b) ∧ Asc (Pt.put r b).users) ↔ fits d ks b := by
  have o := h.ok.r.ok r hr
  have a := h.ua r hr
  cases b with
  | mi i => exact ⟨fun ⟨w, _⟩ => ⟨w.m1, w.m2⟩, fun ⟨w1, w2⟩ => ⟨⟨o.s, o.g, w1, w2, o.u, o.un, o.ud, o.h⟩, a⟩⟩
  | ki us =>
    constructor
    · rintro ⟨w, wa⟩
      refine asc_one (l := us) (n := us) (List.Perm.refl _) ?_ wa (h.ka.sublist List.filter_sublist)
      refine (List.perm_ext_iff_of_nodup (h.ok.kd.sublist List.filter_sublist) w.ud).mpr fun z => ?_
      rw [List.mem_filter, decide_eq_true_eq]
      exact ⟨fun c => c.2, fun c => ⟨w.u z c, c⟩⟩
    · intro e
      have e' : us = ks.filter fun k => decide (k ∈ us) := e
      have sb : us.Sublist ks := by rw [e']; exact List.filter_sublist
      have l4 := sb.length_le
      have k2 := h.ok.k2
      exact ⟨⟨o.s, o.g, o.m1, o.m2, fun z hz => sb.subset hz, by show us.length ≤ 4; omega, h.ok.kd.sublist sb, o.h⟩, h.ka.sublist sb⟩
  | ho hs =>
    constructor
    · rintro ⟨w, _⟩ gs e
      have q := w.h
      have q' : HoursOk d hs := q
      rw [e] at q'
      exact q'.2
    · intro w
      refine ⟨⟨o.s, o.g, o.m1, o.m2, o.u, o.un, o.ud, ?_⟩, a⟩
      show HoursOk d hs
      cases hs with
      | none => exact True.intro
      | some gs => exact ⟨(hb gs rfl).1, w gs rfl⟩
theorem ok_bar (h : PartsOk d ks q.ps q.rs q.bs) (b : Str × Str) : PartsOk d ks q.ps q.rs (q.bs ++ [b]) ↔ ¬ (b ∈ q.bs ∨ q.bs.length = 40 ∨ ¬ Meets q.rs b) := by
  constructor
  · intro o hx
    rcases hx with hx | hx | hx
    · exact (List.nodup_append.mp o.b.nd).2.2 b hx b List.mem_cons_self rfl
    · have := o.b.len
      rw [List.length_append, hx, List.length_singleton] at this
      omega
    · exact hx (o.b.ok b (List.mem_append.mpr (.inr List.mem_cons_self)))
  · intro hx
    have h1 : b ∉ q.bs := fun c => hx (.inl c)
    have h2 : q.bs.length ≠ 40 := fun c => hx (.inr (.inl c))
    have h3 : Meets q.rs b := Classical.byContradiction fun c => hx (.inr (.inr c))
    have l40 := h.b.len
    refine ⟨h.d1, h.d2, h.k1, h.k2, h.p2, h.kn, h.pn, h.kd, h.pd, h.r, ⟨by rw [List.length_append, List.length_singleton]; omega, List.nodup_append.mpr ⟨h.b.nd, List.nodup_cons.mpr ⟨by simp, List.nodup_nil⟩, fun x hx y hy e => h1 (by rw [← List.mem_singleton.mp hy, ← e]; exact hx)⟩, fun x hx => ?_⟩⟩
    rcases List.mem_append.mp hx with c | c
    · exact h.b.ok x c
    · rw [List.mem_singleton.mp c]
      exact h3
theorem ok_unbar (h : PartsOk d ks q.ps q.rs q.bs) (a b : Str) : PartsOk d ks q.ps q.rs (outB a b q.bs) := by
  have l40 := h.b.len
  have lf : (outB a b q.bs).length ≤ q.bs.length := List.length_filter_le _ _
  exact ⟨h.d1, h.d2, h.k1, h.k2, h.p2, h.kn, h.pn, h.kd, h.pd, h.r, ⟨by omega, h.b.nd.sublist List.filter_sublist, fun x hx => h.b.ok x (mem_outB.mp hx).1⟩⟩
theorem ascR_set {rs : List RoadD} (a : AscR rs) (n : Str) (b : Pt) : AscR (setR n b rs) := by
  unfold AscR setR
  refine List.pairwise_map.mpr (a.imp fun {x y} h => ?_)
  have key : ∀ y : RoadD, (if y.name = n then Pt.put y b else y).name = y.name := fun y => by
    split
    · exact (put_name y b).1
    · rfl
  rw [key, key]
  exact h
/-- what a change makes of parts as a map keeps them is kept so -/
theorem chg_sp (h : SP d ks q) {c : Chg} (hc : ChgOk d ks c) {q' : PT} (e : chg d ks q c = some q') : SP d ks q' := by
  cases c with
  | place up z =>
    cases up with
    | true =>
      simp only [chg] at e
      split at e
      · cases e
      · rename_i hn
        obtain rfl := Option.some.inj e
        obtain ⟨pm, pa⟩ := srtS_ok (q.ps ++ [z])
        exact ⟨partsOk_perm ((ok_place h.ok hc).mpr hn) (List.Perm.refl _) pm (List.Perm.refl _) (List.Perm.refl _), h.ka, pa, h.ra, h.ba, h.ua⟩
    | false =>
      simp only [chg] at e
      split at e
      · cases e
      · rename_i hn
        obtain rfl := Option.some.inj e
        exact ⟨(ok_unplace h.ok z).mpr fun c => hn (.inr c), h.ka, h.pa.sublist List.filter_sublist, h.ra, h.ba, h.ua⟩
  | road up r =>
    cases up with
    | true =>
      simp only [chg] at e
      split at e
      · cases e
      · rename_i hn
        obtain rfl := Option.some.inj e
        have hnm : r.name ∉ nmsR q.rs := fun c => hn (.inl c)
        have o := (okP_road h.ok hc hnm).mpr fun c => hn (.inr c)
        have ep : putR r q.rs = q.rs ++ [r] := by unfold putR; rw [butR_none hnm]
        rw [ep] at o
        obtain ⟨pm, pa⟩ := srtR_ok o.r.nd
        refine ⟨partsOk_perm o (List.Perm.refl _) (List.Perm.refl _) pm (List.Perm.refl _), h.ka, h.pa, pa, h.ba, fun x hx => ?_⟩
        rcases List.mem_append.mp (pm.mem_iff.mp hx) with w | w
        · exact h.ua x w
        · rw [List.mem_singleton.mp w]
          exact hc.ua
    | false =>
      simp only [chg] at e
      split at e
      · cases e
      · rename_i hn
        obtain rfl := Option.some.inj e
        have hr : r ∈ q.rs := Classical.byContradiction fun c => hn (.inl c)
        have er := outR_but h.ok.r.nd hr
        refine ⟨by show PartsOk d ks q.ps (outR r q.rs) q.bs; rw [er]; exact ok_unroad h.ok fun c => hn (.inr c), h.ka, h.pa, h.ra.sublist List.filter_sublist, h.ba, fun x hx => h.ua x (List.mem_filter.mp hx).1⟩
  | part n a b =>
    simp only [chg] at e
    split at e
    · rename_i hx
      obtain rfl := Option.some.inj e
      obtain ⟨r, hr, rfl, _, _, hf⟩ := hx
      obtain ⟨w1, w2⟩ := (fits_iff h hr hc.2.2.2).mpr hf
      refine ⟨(ok_set h.ok hr b).mpr w1, h.ka, h.pa, ascR_set h.ra _ _, h.ba, fun x hx => ?_⟩
      obtain ⟨y, hy, rfl⟩ := List.mem_map.mp hx
      by_cases ey : y.name = r.name
      · rw [if_pos ey, uniqN h.ok.r.nd hy hr ey]
        exact w2
      · rw [if_neg ey]
        exact h.ua y hy
    · cases e
  | bar up b =>
    cases up with
    | true =>
      simp only [chg] at e
      split at e
      · cases e
      · rename_i hn
        obtain rfl := Option.some.inj e
        obtain ⟨pm, pa⟩ := srtB_ok (q.bs ++ [b])
        exact ⟨partsOk_perm ((ok_bar h.ok b).mpr hn) (List.Perm.refl _) (List.Perm.refl _) (List.Perm.refl _) pm, h.ka, h.pa, h.ra, pa, h.ua⟩
    | false =>
      simp only [chg] at e
      split at e
      · obtain rfl := Option.some.inj e
        exact ⟨ok_unbar h.ok _ _, h.ka, h.pa, h.ra, h.ba.sublist List.filter_sublist, h.ua⟩
      · cases e
end
end W

set_option Elab.async false
set_option linter.all false
set_option maxRecDepth 100000
set_option maxHeartbeats 1000000
/-! t[::-1] of a tuple -/
namespace RevT
open PySem PySem.Spec PyProof.Rows HT L2
section
variable {prog : Program} {w : World} {A : Around} {E : Value → Shared → Prop} {s : Shared}
theorem adjust_rev (n : Nat) : Builtin.Slice.sliceAdjust none none (-1) (n : Int) = ((n : Int) - 1, -1) := by
  unfold Builtin.Slice.sliceAdjust
  rfl
theorem places_rev (n : Nat) : Builtin.Slice.slicePlaces ((n : Int) - 1) (-1) (-1) = n := by
  unfold Builtin.Slice.slicePlaces
  rw [if_neg (by decide)]
  by_cases h : (n : Int) - 1 > -1
  · rw [if_pos h, show (- -1 : Int) = 1 by decide, Int.ediv_one]
    omega
  · rw [if_neg h]
    omega
theorem fm_congr {α β : Type} {f g : α → Option β} : ∀ {l : List α}, (∀ a ∈ l, f a = g a) → l.filterMap f = l.filterMap g
  | [], _ => rfl
  | a :: l, h => by rw [List.filterMap_cons, List.filterMap_cons, h a List.mem_cons_self, fm_congr fun b hb => h b (List.mem_cons_of_mem _ hb)]
theorem pick_rev (xs : Array Value) : ((List.range xs.size).filterMap fun (m : Nat) => xs[(((xs.size : Int) - 1) + (m : Int) * (-1)).toNat]?).toArray = xs.toList.reverse.toArray := by
  congr 1
  have e : ((List.range xs.size).filterMap fun (m : Nat) => xs[(((xs.size : Int) - 1) + (m : Int) * (-1)).toNat]?) = ((List.range xs.size).map fun k => xs.size - 1 - k).filterMap (xs[·]?) := by
    rw [List.filterMap_map]
    refine fm_congr fun m hm => ?_
    have := List.mem_range.mp hm
    show xs[(((xs.size : Int) - 1) + (m : Int) * (-1)).toNat]? = xs[xs.size - 1 - m]?
    congr 1
    omega
  rw [e, PySem.W.krv_range, List.filterMap_reverse, PySem.W.krv_all]
theorem sliceApplied_rev {sl : Addr} {vs : Value} {n : Nat} {Q : Int × Int × Nat → Shared → Prop} (hs : s.heap.IsSliceOf sl .none .none vs) (ps : IsPart vs (some (-1)))
    (h : Q ((n : Int) - 1, -1, n) s) : wpAny (model prog w) A (Builtin.Slice.sliceApplied (.ref sl) (pure (n : Int))) Q E s := by
  obtain ⟨os, hos, hcs, hds⟩ := id hs
  unfold Builtin.Slice.sliceApplied Builtin.Slice.sliceFields
  refine wpAny_bind (wpAny_bind (wpAny_field hos hds (x := .none) rfl (wpAny_bind (wpAny_field hos hds (x := .none) rfl (wpAny_bind (wpAny_field hos hds (x := vs) rfl (wpAny_pure ?_)))))))
  refine wpAny_bind (slicePart_ ps ?_)
  show wpAny _ _ (if ((-1 : Int) == 0) = true then _ else _) _ _ s
  rw [if_neg (by decide)]
  refine wpAny_bind (slicePart_none (wpAny_bind (slicePart_none (wpAny_bind (wpAny_pure ?_)))))
  show wpAny _ _ (match Builtin.Slice.sliceAdjust none none (-1) (n : Int) with | (lo, hi) => pure (lo, (-1 : Int), Builtin.Slice.slicePlaces lo hi (-1))) _ _ s
  rw [adjust_rev n]
  show wpAny _ _ (pure ((n : Int) - 1, (-1 : Int), Builtin.Slice.slicePlaces ((n : Int) - 1) (-1) (-1))) _ _ s
  rw [places_rev]
  exact wpAny_pure h
theorem getItem_tuple_rev {t sl : Addr} {items : Array Value} {vs : Value} {Q : Value → Shared → Prop} (ht : IsTup s.heap t items) (hs : s.heap.IsSliceOf sl .none .none vs) (ps : IsPart vs (some (-1)))
    (h : Q (.ref s.heap.objs.size) { s with heap := s.heap.push { cls := .type "tuple", data := .seq items.toList.reverse.toArray } })
    (hsz : items.size ≤ sizeLine) : wpAny (model prog w) A (getItem (.ref t) (.ref sl)) Q E s := by
  have htake : sizeOk (.seq items.toList.reverse.toArray) := by
    show items.toList.reverse.toArray.size ≤ sizeLine
    rw [List.size_toArray, List.length_reverse, Array.length_toList]
    omega
  obtain ⟨os, hos, hcs, hds⟩ := id hs
  have hTs : s.TypeIs (.ref sl) "slice" := ⟨os, hos, hcs⟩
  unfold getItem
  try with_reducible refine wpAny_holding ?_
  first | refine wpAny_bind (wpAny_pure ?_) | skip
  refine wpAny_bind (wpAny_sequenceKey ht.typeIs (by decide) ?_)
  refine wpAny_bind (wpAny_callSpecial?_slot (name := Str.ofString "__getitem__") ht.typeIs PyProof.Rows.slot_tuple_getitem
    (wpAny_call_entry PyProof.Rows.slot_tuple_getitem ht.typeIs entry_tuple_getitem ?_ (args_tuple_getitem _ _)))
  show wpAny _ _ (Builtin.Tuple.tupleItemsOf (.ref t) >>= _) _ _ s
  refine wpAny_bind (tupleItemsOf_ ht ?_)
  refine wpAny_bind (wpAny_typeOf hTs ?_)
  rw [if_pos (by decide)]
  refine wpAny_bind (sliceApplied_rev hs ps ?_)
  show wpAny _ _ (if (((items.size : Int) - 1) == 0 && (-1 : Int) == 1 && items.size == items.size) = true then _ else _) _ _ s
  rw [if_neg (by rw [show ((-1 : Int) == 1) = false by decide, Bool.and_false, Bool.false_and]; decide), pick_rev]
  first
    | exact wpAny_bind (m := Builtin.Tuple.tupleExact _) (wpAny_newObj_type (wpAny_pure ⟨_, rfl, wpAny_pure h⟩) htake)
    | exact wpAny_bind (m := Builtin.Tuple.tupleExact _) (wpAny_newObj_type (wpAny_bind (wpAny_pure (wpAny_pure ⟨_, rfl, wpAny_pure h⟩))) htake)
    | exact wpAny_bind (wpAny_bind (m := Builtin.Tuple.tupleExact _) (wpAny_newObj_type (wpAny_pure (wpAny_pure ⟨_, rfl, wpAny_pure h⟩)) htake))
    | exact wpAny_bind (wpAny_bind (m := Builtin.Tuple.tupleExact _) (wpAny_newObj_type (wpAny_pure ⟨_, rfl, wpAny_pure h⟩) htake))
end
/-! ### t[::-1] -/
def tRevT (K : PySem.W.Frag) (te : TE) : TE := fun σ H Q => te σ H fun x H1 => ∃ a xs, x = .ref a ∧ SqT K H1 a xs ∧ ∀ p, H1 p = none → Q (.ref p) (upd H1 p (.tup xs.reverse))
theorem pe_revT {X : Cx} {e : Expr} {te : TE} {k : Nat} {p1 p2 p3 pos : Pos} (he : PE X e te) : PE X (.Subscript e (.Slice none none (some (.UnaryOp .USub (.Constant (.int 1) k p1) p2)) p3) pos) (tRevT X.K te) := by
  refine ⟨fun pins s σ H Q I h => ?_⟩
  refine Subscript_ (thn (he.run pins s σ H _ I h) fun v s1 ⟨x, H1, I1, r1, q1⟩ => ?_)
  obtain ⟨a, xs, ex, hx, q⟩ := q1
  subst ex
  cases r1
  have hst : PO X (some (.UnaryOp .USub (.Constant (.int 1) k p1) p2)) (tPart (tUn (rU fun i => .int (-i)) (tC (.int 1)))) := po_some (pe_un un_neg pe_int)
  refine wpAny_Slice (thn (po_none.run pins s1 σ H1 (fun o H2 => o = none ∧ H2 = H1) I1 ⟨rfl, rfl⟩) fun vl s2 ⟨l, H2, I2, pl, el, e2⟩ => ?_)
  subst el e2
  refine thn (po_none.run pins s2 σ H2 (fun o H3 => o = none ∧ H3 = H2) I2 ⟨rfl, rfl⟩) fun vu s3 ⟨u, H3, I3, pu, eu, e3⟩ => ?_
  subst eu e3
  refine thn (hst.run pins s3 σ H3 (fun o H4 => o = some (-1) ∧ H4 = H3) I3 ⟨1, rfl, -1, rfl, rfl, rfl⟩) fun vs s4 ⟨o, H4, I4, ps, eo, e4⟩ => ?_
  subst eo e4
  have I5 : Inv X pins σ H4 { s4 with heap := s4.heap.push { cls := .type "slice", data := .fields #[vl, vu, vs] } } := I4.kept (t' := s4.toks) fun b ob q => Heap.get?_push_of_some _ q
  obtain ⟨its, r, ht, hz⟩ := I5.tuple hx
  have hlen := r.length
  show wpAny (model X.prog X.w) X.A (subscriptTail e (.Slice none none (some (.UnaryOp .USub (.Constant (.int 1) k p1) p2)) p3) (.ref a) (.ref s4.heap.objs.size)) (EP X pins σ Q) X.xe { s4 with heap := s4.heap.push { cls := .type "slice", data := .fields #[vl, vu, vs] } }
  refine tail_any (ops := [.ref a, .ref s4.heap.objs.size]) ht.typeIs (PyProof.Rows.slot_tuple_getitem.lookup) ?_ (by with_unfolding_all rfl)
  cases pl
  cases pu
  refine getItem_tuple_rev ht (Heap.IsSliceOf.new _ .none .none vs) ps ?_ (by rw [List.size_toArray]; omega)
  rw [List.toList_toArray]
  refine ⟨.ref _, _, I5.laid (t' := s4.toks) (o := .tup xs.reverse) (fun b ob q => Heap.get?_push_of_some _ q) (Nat.le_refl _) ?_, rfl, q _ (I5.hok.fresh (Nat.le_refl _))⟩
  exact ⟨by rw [List.length_reverse]; exact hz, _, r.reverse, IsTup.new _ _⟩
end RevT

set_option Elab.async false
set_option linter.all false
set_option maxRecDepth 100000
set_option maxHeartbeats 8000000
set_option exponentiation.threshold 2000
namespace W
open PySem PySem.Spec PyProof.Rows L2 GxR MyG MyS SqX
/-! ### _law_drawn_change -/
abbrev sDc : Stmt := top 19
abbrev nDc : List Str := ["numbers", "at", "parts", "words", "word", "names", "options", "name", "road", "following", "other"]
theorem scDc : FnScope nDc ["numbers", "at", "parts"] (defScope sDc) := ⟨rfl, rfl, rfl, by decide +kernel, rfl, by decide +kernel, by decide +kernel⟩
def rLenK (K : PySem.W.Frag) : List V → Hp → VK → Prop := fun xs H Q => ∃ p ys, xs = [V.ref p] ∧ (SqL K H p ys ∨ SqT K H p ys) ∧ Q (V.int ys.length) H
def wordsS : List Str := ["place", "unplace", "road", "unroad", "minutes", "minutes", "hours", "kinds", "bar", "unbar", "road", "unroad"]
def newS : List Str := ["new1", "new2"]
def freshS : List Str := ["fresh", "fresh2", "fresh3"]
theorem fresh_nm : freshS.all isNm = true := by decide +kernel
theorem atI_in {α : Type} {xs : List α} {i : Int} (h0 : 0 ≤ i) (h1 : i < (xs.length : Int)) : ∃ c, atI xs i = some c ∧ c ∈ xs := by
  obtain ⟨k, rfl⟩ := Int.eq_ofNat_of_zero_le h0
  have hk : k < xs.length := by omega
  exact ⟨xs[k], atI_nat (List.getElem?_eq_getElem hk), List.getElem_mem hk⟩
theorem atI_mod {α : Type} {xs : List α} {n : Int} (hl : 0 < xs.length) : ∃ c, atI xs (n % (xs.length : Int)) = some c ∧ c ∈ xs :=
  atI_in (Int.emod_nonneg _ (by omega)) (Int.emod_lt_of_pos _ (by omega))
theorem at_strs {ns : List Str} {n : Int} (hl : 0 < ns.length) : ∃ z, atI (ns.map V.str) (n % (ns.length : Int)) = some (.str z) ∧ z ∈ ns := by
  obtain ⟨v, ev, hv⟩ := atI_mod (xs := ns.map V.str) (n := n) (by rw [List.length_map]; exact hl)
  obtain ⟨z, hz, rfl⟩ := List.mem_map.mp hv
  rw [List.length_map] at ev
  exact ⟨z, ev, hz⟩
theorem hours_sm {d : Int} {hs : Option (List (Int × Int))} (h : HoursOk d hs) (hd : d ≤ 1440) : PtSm (.ho hs) := fun gs e => by
  subst e
  obtain ⟨h1, h2⟩ := h
  refine ⟨h1, ?_⟩
  have key : ∀ (gs : List (Int × Int)) (c : Int), -1 ≤ c → hoursOk d c gs → ∀ p ∈ gs, p.1.natAbs < 10 ^ 9 ∧ p.2.natAbs < 10 ^ 9 := by
    intro gs
    induction gs with
    | nil => intro c _ _ p hp; cases hp
    | cons x l ih =>
      intro c hc h p hp
      obtain ⟨q1, q2, q3, q4⟩ := h
      rcases List.mem_cons.mp hp with rfl | hp
      · constructor <;> omega
      · exact ih _ (by omega) q4 p hp
  exact key gs (-1) (by decide) h2
/-- the law's parts -/
def PrtAt (K : PySem.W.Frag) (H : Hp) (p : Addr) (d : Int) (ks : List Str) (q : PT) : Prop := PartsT K H p d ks q.ps q.rs q.bs
theorem PrtAt.grew {K : PySem.W.Frag} {P : Addr} {H H' : Hp} {p : Addr} {d : Int} {ks : List Str} {q : PT} (m : PrtAt K H p d ks q) (g : Grew P H H') (h : TabG H P) : PrtAt K H' p d ks q := PartsT.grew m g h
def spDrawn (K : PySem.W.Frag) (P : Addr) : Sp := fun vs H Q _ => ∃ (a p : Addr) (ns : List Int) (at_ d : Int) (ks : List Str) (q : PT), vs = [.ref a, .int at_, .ref p] ∧ SqL K H a (ns.map V.int) ∧ Sm ns ∧ 0 ≤ at_ ∧ at_ + 12 ≤ ns.length ∧ PrtAt K H p d ks q ∧ SP d ks q ∧ TabG H P ∧
  ∀ H' c v, Grew P H H' → ChgAt K H' c v → ChgOk d ks c → Q v H'
theorem namesV_take {rs : List RoadD} {i : Nat} {r : RoadD} (h : rs[i]? = some r) : namesV (rs.take (i + 1)) = namesV (rs.take i) ++ [.str r.name] := by
  have e : rs.take (i + 1) = rs.take i ++ [r] := by rw [List.take_succ, h]; rfl
  rw [e, namesV_app]
  rfl
section
variable {Pg : Program} {w : World} {K : PySem.W.Frag} {mg : Str → Option Value} {base : Heap} {C P : Addr}
theorem ok_drawn {f fLr fLh : Addr} {fd fdLr fdLh : FuncData} (F : Fun K "_law_drawn_change" "_law_drawn_change" sDc f fd) (hi : mg "int" = none) (hl : mg "len" = none) (hls : mg "list" = none)
    (GLr : FnOk Pg w K mg base CX0 2 fLr fdLr ["numbers", "at", "name", "day", "kinds", "places"] (spLRoadG K P)) (gLr : mg "_law_road" = some (.ref fLr)) (kLr : PySem.W.keepIn K (.ref fLr) = true) (bLr : Binds K fdLr ["numbers", "at", "name", "day", "kinds", "places"] [])
    (GLh : FnOk Pg w K mg base CX0 1 fLh fdLh ["numbers", "at", "day"] (spLHours K P)) (gLh : mg "_law_hours" = some (.ref fLh)) (kLh : PySem.W.keepIn K (.ref fLh) = true) (bLh : Binds K fdLh ["numbers", "at", "day"] []) :
    FnOk Pg w K mg base CX0 3 f fd ["numbers", "at", "parts"] (spDrawn K P) := by
  refine F.ok scDc (fun vs H Q E h => ?_) (fun cdv A outer s H vs Q E hr h => ?_)
  · obtain ⟨a, p, ns, at_, d, ks, q, rfl, _⟩ := h
    rfl
  · obtain ⟨a, p, ns, at_, d, ks, q, rfl, hS, hsm, ha0, ha1, hp0, sp, hP, kQ⟩ := h
    refine ⟨_, (pss_cons (ps_set (i := 3) scDc.nd rfl (Or.inl rfl) (pe_tup (pa_cons pe_str (pa_cons pe_str (pa_cons pe_str (pa_cons pe_str (pa_cons pe_str (pa_cons pe_str (pa_cons pe_str (pa_cons pe_str (pa_cons pe_str (pa_cons pe_str (pa_cons pe_str (pa_cons pe_str pa_nil))))))))))))))
      (pss_cons (ps_set (i := 4) scDc.nd rfl (Or.inl rfl) (pe_ix (r := rIxT K) ix_tup (pv 3) (pe_op op_mod (pe_callTy (r := rInt1) call_int1 (by rfl) hi (by decide +kernel) (pa_cons (pe_ix (r := rIxL K) ix_list (pv 0) (pv 1) (fun _ _ => rfl)) pa_nil)) pe_int) (fun _ _ => rfl)))
      (C8.pss_cut (ps_setLc (i := 5) (own := [("road", 8)]) (g := (gName 8)) (tt := tYes) rfl scDc.nd rfl rfl (sw_true rfl rfl rfl (by decide +kernel)) (pi_tup (pe_ix (r := rIxL K) ix_list (pv 2) pe_int (fun _ _ => rfl))) (blkOk_by (N := nDc) (sc := defScope sDc) (by decide +kernel)) (fun _ _ _ _ _ => pg_name (i := 8) scDc.nd rfl (Or.inl rfl)) (fun _ _ _ _ _ => pts_nil) (fun _ _ _ _ _ => (pe_ix (r := rIxT K) ix_tup (pv 8) pe_int (fun _ _ => rfl))))
      (pss_cons (ps_if (PW.pt (pw_or (pt_cmpR op_eq (pv 4) pe_str (nomark _)) (pw_or1 (pt_cmpR op_eq (pv 4) pe_str (nomark _))))) (pss_cons (ps_set (i := 6) scDc.nd rfl (Or.inl rfl) (pe_op op_cat (pe_callTy call_list_of (by rfl) hls (by decide +kernel) (pa_cons (pe_ix (r := rIxL K) ix_list (pv 2) pe_int (fun _ _ => rfl)) pa_nil)) (pe_lst (pa_cons pe_str (pa_cons pe_str pa_nil)))))
      (pss_one (ps_ret (pe_tup (pa_cons (pv 4) (pa_cons (pe_ix (r := rIxL K) ix_list (pv 6) (pe_op op_mod (pe_callTy (r := rInt1) call_int1 (by rfl) hi (by decide +kernel) (pa_cons (pe_ix (r := rIxL K) ix_list (pv 0) (pe_op op_add (pv 1) pe_int) (fun _ _ => rfl)) pa_nil)) (pe_callB (r := rLenK K) call_len_seq (by rfl) hl PySem.boot_len (pa_cons (pv 6) pa_nil))) (fun _ _ => rfl)) pa_nil))))))
        pss_nil)
      (pss_cons (ps_if (PW.pt (pw_or (pt_cmpR op_eq (pe_callB (r := rLenK K) call_len_seq (by rfl) hl PySem.boot_len (pa_cons (pe_ix (r := rIxL K) ix_list (pv 2) pe_int (fun _ _ => rfl)) pa_nil)) pe_int (nomark _)) (pw_or1 (pt_cmpR op_eq (pv 4) pe_str (nomark _))))) (pss_cons (ps_set (i := 7) scDc.nd rfl (Or.inl rfl) (pe_ix (r := rIxT K) ix_tup (pe_tup (pa_cons pe_str (pa_cons pe_str (pa_cons pe_str pa_nil)))) (pe_op op_mod (pe_callTy (r := rInt1) call_int1 (by rfl) hi (by decide +kernel) (pa_cons (pe_ix (r := rIxL K) ix_list (pv 0) (pe_op op_add (pv 1) pe_int) (fun _ _ => rfl)) pa_nil)) pe_int) (fun _ _ => rfl)))
      (pss_cons (ps_if (pt_cmpR op_eq (pe_callB (r := rLenK K) call_len_seq (by rfl) hl PySem.boot_len (pa_cons (pe_ix (r := rIxL K) ix_list (pv 2) pe_int (fun _ _ => rfl)) pa_nil)) pe_int (nomark _)) (pss_one (ps_ret (pe_tup (pa_cons pe_str (pa_cons (pv 7) pa_nil)))))
        pss_nil)
      (pss_cons (ps_set (i := 8) scDc.nd rfl (Or.inr rfl) (pe_call GLr (hr.mono (by decide)) (by rfl) gLr kLr bLr .nil pass0 (pa_cons (pv 0) (pa_cons (pe_op op_add (pv 1) pe_int) (pa_cons (pv 7) (pa_cons (pe_ix (r := rIxL K) ix_list (pv 2) pe_int (fun _ _ => rfl)) (pa_cons (pe_ix (r := rIxL K) ix_list (pv 2) pe_int (fun _ _ => rfl)) (pa_cons (pe_op op_catA (pe_ix (r := rIxL K) ix_list (pv 2) pe_int (fun _ _ => rfl)) (pe_slice sl_tupA (pe_tup (pa_cons pe_str pa_nil)) po_none (po_some (pe_op op_fdiv (pe_op op_mod (pe_callTy (r := rInt1) call_int1 (by rfl) hi (by decide +kernel) (pa_cons (pe_ix (r := rIxL K) ix_list (pv 0) (pe_op op_add (pv 1) pe_int) (fun _ _ => rfl)) pa_nil)) pe_int) pe_int)))) pa_nil))))))))
      (pss_one (ps_ret (pe_tup (pa_cons pe_str (pa_cons (pv 8) pa_nil))))))))
        pss_nil)
      (pss_cons (ps_set (i := 8) scDc.nd rfl (Or.inr rfl) (pe_ix (r := rIxT K) ix_tup (pe_ix (r := rIxL K) ix_list (pv 2) pe_int (fun _ _ => rfl)) (pe_op op_mod (pe_callTy (r := rInt1) call_int1 (by rfl) hi (by decide +kernel) (pa_cons (pe_ix (r := rIxL K) ix_list (pv 0) (pe_op op_add (pv 1) pe_int) (fun _ _ => rfl)) pa_nil)) (pe_callB (r := rLenK K) call_len_seq (by rfl) hl PySem.boot_len (pa_cons (pe_ix (r := rIxL K) ix_list (pv 2) pe_int (fun _ _ => rfl)) pa_nil))) (fun _ _ => rfl)))
      (pss_cons (ps_if (pt_cmpR op_eq (pv 4) pe_str (nomark _)) (pss_one (ps_ret (pe_tup (pa_cons (pv 4) (pa_cons (pv 8) pa_nil)))))
        pss_nil)
      (pss_cons (ps_if (pt_cmpR op_eq (pv 4) pe_str (nomark _)) (pss_one (ps_ret (pe_tup (pa_cons (pv 4) (pa_cons (pe_ix (r := rIxT K) ix_tup (pv 8) pe_int (fun _ _ => rfl)) (pa_cons (pe_ix (r := rIxT K) ix_tup (pv 8) pe_int (fun _ _ => rfl)) (pa_cons (pe_ifExp (pt_cmpR op_eq (pe_op op_mod (pe_callTy (r := rInt1) call_int1 (by rfl) hi (by decide +kernel) (pa_cons (pe_ix (r := rIxL K) ix_list (pv 0) (pe_op op_add (pv 1) pe_int) (fun _ _ => rfl)) pa_nil)) pe_int) pe_int (nomark _)) (pe_ix (r := rIxT K) ix_tup (pe_tup (pa_cons pe_int (pa_cons pe_int (pa_cons pe_int pa_nil)))) (pe_op op_mod (pe_callTy (r := rInt1) call_int1 (by rfl) hi (by decide +kernel) (pa_cons (pe_ix (r := rIxL K) ix_list (pv 0) (pe_op op_add (pv 1) pe_int) (fun _ _ => rfl)) pa_nil)) pe_int) (fun _ _ => rfl)) (pe_op op_add pe_int (pe_op op_mod (pe_callTy (r := rInt1) call_int1 (by rfl) hi (by decide +kernel) (pa_cons (pe_ix (r := rIxL K) ix_list (pv 0) (pe_op op_add (pv 1) pe_int) (fun _ _ => rfl)) pa_nil)) pe_int))) pa_nil)))))))
        pss_nil)
      (pss_cons (ps_if (pt_cmpR op_eq (pv 4) pe_str (nomark _)) (pss_cons (ps_if (pt_cmpR op_eq (pe_op op_mod (pe_callTy (r := rInt1) call_int1 (by rfl) hi (by decide +kernel) (pa_cons (pe_ix (r := rIxL K) ix_list (pv 0) (pe_op op_add (pv 1) pe_int) (fun _ _ => rfl)) pa_nil)) pe_int) pe_int (nomark _)) (pss_one (ps_ret (pe_tup (pa_cons (pv 4) (pa_cons (pe_ix (r := rIxT K) ix_tup (pv 8) pe_int (fun _ _ => rfl)) (pa_cons (pe_ix (r := rIxT K) ix_tup (pv 8) pe_int (fun _ _ => rfl)) (pa_cons (pe_ix (r := rIxT K) ix_tup (pe_tup (pa_cons (pe_tup (pa_cons (pe_tup (pa_cons pe_int (pa_cons (pe_op op_add (pe_ix (r := rIxL K) ix_list (pv 2) pe_int (fun _ _ => rfl)) pe_int) pa_nil))) pa_nil)) (pa_cons (pe_tup (pa_cons (pe_tup (pa_cons pe_int (pa_cons pe_int pa_nil))) pa_nil)) (pa_cons (pe_tup (pa_cons (pe_tup (pa_cons pe_int (pa_cons pe_int pa_nil))) (pa_cons (pe_tup (pa_cons pe_int (pa_cons pe_int pa_nil))) pa_nil))) (pa_cons (pe_tup (pa_cons (pe_tup (pa_cons pe_int (pa_cons pe_int pa_nil))) (pa_cons (pe_tup (pa_cons pe_int (pa_cons pe_int pa_nil))) pa_nil))) pa_nil))))) (pe_op op_mod (pe_callTy (r := rInt1) call_int1 (by rfl) hi (by decide +kernel) (pa_cons (pe_ix (r := rIxL K) ix_list (pv 0) (pe_op op_add (pv 1) pe_int) (fun _ _ => rfl)) pa_nil)) pe_int) (fun _ _ => rfl)) pa_nil)))))))
        pss_nil)
      (pss_one (ps_ret (pe_tup (pa_cons (pv 4) (pa_cons (pe_ix (r := rIxT K) ix_tup (pv 8) pe_int (fun _ _ => rfl)) (pa_cons (pe_ix (r := rIxT K) ix_tup (pv 8) pe_int (fun _ _ => rfl)) (pa_cons (pe_call GLh (hr.mono (by decide)) (by rfl) gLh kLh bLh .nil pass0 (pa_cons (pv 0) (pa_cons (pe_op op_add (pv 1) pe_int) (pa_cons (pe_ix (r := rIxL K) ix_list (pv 2) pe_int (fun _ _ => rfl)) pa_nil)))) pa_nil))))))))
        pss_nil)
      (pss_cons (ps_if (pt_cmpR op_eq (pv 4) pe_str (nomark _)) (pss_cons (ps_if (pt_cmpR op_eq (pe_op op_mod (pe_callTy (r := rInt1) call_int1 (by rfl) hi (by decide +kernel) (pa_cons (pe_ix (r := rIxL K) ix_list (pv 0) (pe_op op_add (pv 1) pe_int) (fun _ _ => rfl)) pa_nil)) pe_int) pe_int (nomark _)) (pss_one (ps_ret (pe_tup (pa_cons (pv 4) (pa_cons (pe_ix (r := rIxT K) ix_tup (pv 8) pe_int (fun _ _ => rfl)) (pa_cons (pe_ix (r := rIxT K) ix_tup (pv 8) pe_int (fun _ _ => rfl)) (pa_cons (pe_ix (r := rIxT K) ix_tup (pe_tup (pa_cons (pe_tup (pa_cons pe_str pa_nil)) (pa_cons (RevT.pe_revT (pe_ix (r := rIxL K) ix_list (pv 2) pe_int (fun _ _ => rfl))) (pa_cons (pe_op op_catA (pe_ix (r := rIxL K) ix_list (pv 2) pe_int (fun _ _ => rfl)) (pe_slice sl_tupA (pe_ix (r := rIxL K) ix_list (pv 2) pe_int (fun _ _ => rfl)) po_none (po_some pe_int))) pa_nil)))) (pe_op op_mod (pe_callTy (r := rInt1) call_int1 (by rfl) hi (by decide +kernel) (pa_cons (pe_ix (r := rIxL K) ix_list (pv 0) (pe_op op_add (pv 1) pe_int) (fun _ _ => rfl)) pa_nil)) pe_int) (fun _ _ => rfl)) pa_nil)))))))
        pss_nil)
      (pss_one (ps_ret (pe_tup (pa_cons (pv 4) (pa_cons (pe_ix (r := rIxT K) ix_tup (pv 8) pe_int (fun _ _ => rfl)) (pa_cons (pe_ix (r := rIxT K) ix_tup (pv 8) pe_int (fun _ _ => rfl)) (pa_cons (pe_slice sl_tupA (pe_ix (r := rIxL K) ix_list (pv 2) pe_int (fun _ _ => rfl)) po_none (po_some (pe_op op_mod (pe_callTy (r := rInt1) call_int1 (by rfl) hi (by decide +kernel) (pa_cons (pe_ix (r := rIxL K) ix_list (pv 0) (pe_op op_add (pv 1) pe_int) (fun _ _ => rfl)) pa_nil)) (pe_op op_add (pe_callB (r := rLenK K) call_len_seq (by rfl) hl PySem.boot_len (pa_cons (pe_ix (r := rIxL K) ix_list (pv 2) pe_int (fun _ _ => rfl)) pa_nil)) pe_int)))) pa_nil))))))))
        pss_nil)
      (C8.pss_cut (ps_if (PW.pt (pw_and (pt_cmpR op_eq (pv 4) pe_str (nomark _)) (pw_and1 (pt_cmpR op_gt (pe_callB (r := rLenK K) call_len_seq (by rfl) hl PySem.boot_len (pa_cons (pe_ix (r := rIxL K) ix_list (pv 2) pe_int (fun _ _ => rfl)) pa_nil)) pe_int (nomark _))))) (pss_one (ps_ret (pe_op op_catA (pe_tup (pa_cons (pv 4) pa_nil)) (pe_ix (r := rIxT K) ix_tup (pe_ix (r := rIxL K) ix_list (pv 2) pe_int (fun _ _ => rfl)) (pe_op op_mod (pe_callTy (r := rInt1) call_int1 (by rfl) hi (by decide +kernel) (pa_cons (pe_ix (r := rIxL K) ix_list (pv 0) (pe_op op_add (pv 1) pe_int) (fun _ _ => rfl)) pa_nil)) (pe_callB (r := rLenK K) call_len_seq (by rfl) hl PySem.boot_len (pa_cons (pe_ix (r := rIxL K) ix_list (pv 2) pe_int (fun _ _ => rfl)) pa_nil))) (fun _ _ => rfl)))))
        pss_nil)
      (pss_cons (ps_set (i := 9) scDc.nd rfl (Or.inl rfl) (pe_op op_cat (pe_lc (own := [("other", 10)]) (g := (gName 10)) rfl scDc.nd (pi_tup (pe_ix (r := rIxL K) ix_list (pv 2) pe_int (fun _ _ => rfl))) (blkOk_by (N := nDc) (sc := defScope sDc) (by decide +kernel)) (fun _ _ _ _ _ => pg_name (i := 10) scDc.nd rfl (Or.inl rfl)) (fun _ _ _ _ _ => pts_one (pt_cmpR op_eq (pe_ix (r := rIxT K) ix_tup (pv 10) pe_int (fun _ _ => rfl)) (pe_ix (r := rIxT K) ix_tup (pv 8) pe_int (fun _ _ => rfl)) (nomark _))) (fun _ _ _ _ _ => (pe_ix (r := rIxT K) ix_tup (pv 10) pe_int (fun _ _ => rfl)))) (pe_slice sl_list (pv 5) po_none (po_some pe_int))))
      (pss_one (ps_ret (pe_tup (pa_cons pe_str (pa_cons (pe_ix (r := rIxT K) ix_tup (pv 8) pe_int (fun _ _ => rfl)) (pa_cons (pe_ix (r := rIxL K) ix_list (pv 9) (pe_op op_mod (pe_callTy (r := rInt1) call_int1 (by rfl) hi (by decide +kernel) (pa_cons (pe_ix (r := rIxL K) ix_list (pv 0) (pe_op op_add (pv 1) pe_int) (fun _ _ => rfl)) pa_nil)) (pe_callB (r := rLenK K) call_len_seq (by rfl) hl PySem.boot_len (pa_cons (pv 9) pa_nil))) (fun _ _ => rfl)) pa_nil)))))))))))))))))), ?_⟩
    obtain ⟨ki, pl, ro, ba, xs, zs, hp, hki, hpl, hro, hrs, hba, hzs⟩ := id hp0
    have ok := sp.ok
    have lx := Paired.len hrs
    have lz := Paired.len hzs
    have l60 := ok.r.len
    have l40 := ok.b.len
    have l4 := ok.k2
    have l30 := ok.p2
    have bd1 := ok.d1
    have bd2 := ok.d2
    have good : ∀ r ∈ q.rs, GoodR d ks r := fun r hr => by
      have o := ok.r.ok r hr
      exact ⟨List.all_eq_true.mp ok.r.nm _ (List.mem_map.mpr ⟨r, hr, rfl⟩), List.all_eq_true.mp ok.pn _ o.s, List.all_eq_true.mp ok.pn _ o.g, o.m1, o.m2, o.u, o.un, o.ud, sp.ua r hr, o.h⟩
    obtain ⟨n0, e0, l0, u0⟩ := at_num hsm (i := at_) ha0 (by omega)
    obtain ⟨n1, e1, l1, u1⟩ := at_num hsm (i := at_ + 1) (by omega) (by omega)
    obtain ⟨n2, e2, l2, u2⟩ := at_num hsm (i := at_ + 2) (by omega) (by omega)
    obtain ⟨n3, e3, l3, u3⟩ := at_num hsm (i := at_ + 3) (by omega) (by omega)
    obtain ⟨v0, ev0, hv0⟩ := atI_mod (xs := wordsS.map V.str) (n := n0) (by decide)
    obtain ⟨w0, hw0, rfl⟩ := List.mem_map.mp hv0
    refine ⟨(show 12 ≤ sizeLine by decide), fun W nW => ?_⟩
    generalize eH1 : L2.upd H W _ = H1
    have gW : Grew P H H1 := by rw [← eH1]; exact Grew.new hP nW
    have hW : H1 W = some (.tup (wordsS.map V.str)) := by rw [← eH1]; exact upd_same
    refine ⟨_, rfl, _, rfl, _, rfl, a, _, _, _, rfl, rfl, gW.sqL hP hS, e0, .inl ⟨n0, rfl, _, _, rfl, rfl, (show (0 : Int) < 12 by decide), W, _, _, _, rfl, rfl, SqT.of hW, ev0, ?_⟩⟩
    refine ⟨fun σ H' => ∃ D : Addr, σ = [some (.ref a), some (.int at_), some (.ref p), some (.ref W), some (.str w0), some (.ref D), none, none, none, none, none] ∧ Grew P H H' ∧ H' D = some (.lst (namesV q.rs)), ?_, ?_⟩
    · refine ⟨_, rfl, p, _, 3, _, rfl, rfl, SqL.of (gW.lst hP hp), rfl, ro, rfl, ⟨_, SqT.of (gW.tup hP hro)⟩, fun D nD => lc_tup (K := K) (a := ro) (xs := xs) (fun j H' => Grew P H1 H' ∧ H' D = some (.lst (namesV (q.rs.take j)))) ⟨Grew.new gW.tab nD, upd_same⟩ (fun j H' _ h => SqT.of ((gW.trans h.1).tup hP hro)) (fun j v H2 hj h => ?_) (fun H2 h => ?_)⟩
      · obtain ⟨g2, hD⟩ := h
        obtain ⟨r, hr1, hm⟩ := Paired.at hrs hj
        obtain ⟨t, u, hh, rfl, et, _, _⟩ := hm.grew (gW.trans g2) hP
        refine ⟨rfl, _, rfl, t, _, 0, _, rfl, rfl, SqT.of et, rfl, _, hD, ?_, g2.write hD (fun _ z => by cases z) nD, ?_⟩
        · have q1 := namesV_len (q.rs.take j)
          rw [List.length_take] at q1
          rw [sizeLine_eq]
          omega
        · rw [upd_same, namesV_take hr1]
      · obtain ⟨g2, hD⟩ := h
        rw [← lx, List.take_length] at hD
        exact ⟨D, rfl, gW.trans g2, hD⟩
    rintro σ H2 ⟨D, rfl, g2, hD⟩
    have hp2 := g2.lst hP hp
    have hki2 := g2.tup hP hki
    have hpl2 := g2.tup hP hpl
    have hro2 := g2.tup hP hro
    have hba2 := g2.tup hP hba
    have hrs2 : Paired (RoadAt K H2) q.rs xs := Paired.map' hrs fun _ _ m => m.grew g2 hP
    have hzs2 : Paired (GBar H2) q.bs zs := Paired.map' hzs fun _ _ m => m.grew g2 hP
    have hS2 := g2.sqL hP hS
    have kQ2 : ∀ H' c v, Grew P H2 H' → ChgAt K H' c v → ChgOk d ks c → Q v H' := fun H' c v g => kQ H' c v (g2.trans g)
    have t2 := g2.tab
    have G0 := Grew.refl t2
    -- place, unplace
    refine ⟨_, rfl, rfl, _, rfl, ite2 (fun c => ?b1) fun c => ⟨_, rfl, rfl, _, rfl, ite2 (fun c' => ?b2) fun c' => ?rest1⟩⟩
    case' b1 => have hup : ∃ up, w0 = wPl up := ⟨true, V.str.inj (of_decide_eq_true c)⟩
    case' b2 => have hup : ∃ up, w0 = wPl up := ⟨false, V.str.inj (of_decide_eq_true c')⟩
    case b1 | b2 =>
      obtain ⟨up, rfl⟩ := hup
      refine ⟨_, rfl, p, _, 2, _, rfl, rfl, SqL.of hp2, rfl, pl, _, rfl, .inr (SqT.of hpl2), fun A1 m1 => ?_⟩
      have gA := Grew.new t2 (o := .lst (q.ps.map V.str)) m1
      refine ⟨(show 2 ≤ sizeLine by decide), fun A3 m3 => ?_⟩
      generalize eHb : L2.upd _ A3 _ = Hb
      have gB := (Grew.new gA.tab (o := .lst (newS.map V.str)) m3)
      have eHb' : L2.upd _ A3 (.lst (newS.map V.str)) = Hb := eHb
      rw [eHb'] at gB
      have hA3 : Hb A3 = some (.lst (newS.map V.str)) := by rw [← eHb']; exact upd_same
      refine ⟨A1, A3, _, _, rfl, rfl, gB.lst gA.tab upd_same, hA3, (by rw [List.length_map, sizeLine_eq]; show _ + 2 ≤ _; omega), fun A4 m4 => ?_⟩
      generalize eH5 : L2.upd Hb A4 _ = H5
      have gC : Grew P Hb H5 := by rw [← eH5]; exact Grew.new gB.tab m4
      have hA4 : H5 A4 = some (.lst ((q.ps ++ newS).map V.str)) := by rw [← eH5, List.map_append]; exact upd_same
      have gg := gA.trans (gB.trans gC)
      obtain ⟨v, ev, hv⟩ := atI_mod (xs := (q.ps ++ newS).map V.str) (n := n1) (by rw [List.length_map, List.length_append]; show 0 < _ + 2; omega)
      obtain ⟨z, hz, rfl⟩ := List.mem_map.mp hv
      have hzn : isNm z = true := by
        rcases List.mem_append.mp hz with h | h
        · exact List.all_eq_true.mp ok.pn z h
        · exact List.all_eq_true.mp (show newS.all isNm = true by decide +kernel) z h
      refine ⟨_, rfl, _, rfl, _, rfl, _, rfl, _, _, rfl, rfl, a, _, _, _, rfl, rfl, gg.sqL t2 hS2, e1, .inl ⟨n1, rfl, _, rfl, A4, _, rfl, .inl (SqL.of hA4), _, _, rfl, rfl, (by rw [List.length_map, List.length_append]; show (0 : Int) < ((_ + 2 : Nat) : Int); omega), A4, _, _, _, rfl, rfl, SqL.of hA4, ev, (show 2 ≤ sizeLine by decide), fun T nT => ?_⟩⟩
      exact kQ2 _ (.place up z) _ (gg.trans (Grew.new gg.tab nT)) ⟨T, [.str z], rfl, upd_same, rfl⟩ hzn
    -- road
    refine ⟨_, rfl, p, _, 3, _, rfl, rfl, SqL.of hp2, rfl, ro, _, rfl, .inr (SqT.of hro2), rfl, _, rfl, ite2 (fun d1 => ?r1) fun d1 => ⟨_, rfl, rfl, _, rfl, ite2 (fun d2 => ?r2) fun d2 => ?rest2⟩⟩
    case r1 | r2 =>
      obtain ⟨vf, evf, hvf⟩ := atI_mod (xs := freshS.map V.str) (n := n1) (by decide)
      obtain ⟨z, hz, rfl⟩ := List.mem_map.mp hvf
      have hzn := List.all_eq_true.mp fresh_nm z hz
      refine ⟨(show 3 ≤ sizeLine by decide), fun F1 m1 => ?_⟩
      generalize eH3 : L2.upd H2 F1 _ = H3
      have gF : Grew P H2 H3 := by rw [← eH3]; exact Grew.new t2 m1
      have hF : H3 F1 = some (.tup (freshS.map V.str)) := by rw [← eH3]; exact upd_same
      refine ⟨_, rfl, _, rfl, _, _, rfl, rfl, a, _, _, _, rfl, rfl, gF.sqL t2 hS2, e1, .inl ⟨n1, rfl, _, _, rfl, rfl, (show (0 : Int) < 3 by decide), F1, _, _, _, rfl, rfl, SqT.of hF, evf, ?_⟩⟩
      have hp3 := gF.lst t2 hp2
      have hpl3 := gF.tup t2 hpl2
      refine ⟨_, rfl, p, _, 2, _, rfl, rfl, SqL.of hp3, rfl, pl, _, rfl, .inr (SqT.of hpl3), rfl, _, rfl, ite2 (fun c2 => ?_) fun c2 => ?_⟩
      · refine ⟨_, rfl, (show 2 ≤ sizeLine by decide), fun T nT => ?_⟩
        exact kQ2 _ (.place true z) _ (gF.trans (Grew.new gF.tab nT)) ⟨T, [.str z], rfl, upd_same, rfl⟩ hzn
      · have hne : q.ps ≠ [] := fun e => by rw [e] at c2; exact absurd c2 (by decide)
        have hpos : 0 < q.ps.length := List.length_pos_iff.mpr hne
        refine ⟨_, rfl, _, rfl, _, _, rfl, rfl, _, rfl, _, rfl, p, _, 0, _, rfl, rfl, SqL.of hp3, rfl, _, rfl, p, _, 1, _, rfl, rfl, SqL.of hp3, rfl, _, rfl, p, _, 2, _, rfl, rfl, SqL.of hp3, rfl, (show 1 ≤ sizeLine by decide), fun A1 a1 => ?_⟩
        generalize eH4 : L2.upd H3 A1 _ = H4
        have gA : Grew P H2 H4 := gF.trans (by rw [← eH4]; exact Grew.new gF.tab a1)
        have hA1 : H4 A1 = some (.tup [V.str "new1"]) := by rw [← eH4]; exact upd_same
        have hpl4 := gA.tup t2 hpl2
        have tl : ∀ (H6 : Hp) (r : RoadD) (t : Addr), Grew P H2 H6 → RoadAt K H6 r (.ref t) → GoodR d ks r → ∀ T, H6 T = none → Q (.ref T) (L2.upd H6 T (.tup [V.str "road", .ref t])) := fun H6 r t g6 hr hg T nT =>
          kQ2 _ (.road true r) _ (g6.trans (Grew.new g6.tab nT)) ⟨T, [.ref t], rfl, upd_same, .ref t, rfl, hr.grew (Grew.new g6.tab nT) g6.tab⟩ hg
        obtain ⟨kb, ekb, hkb⟩ : ∃ kb : Nat, n1 % 5 / 4 = (kb : Int) ∧ kb ≤ 1 := ⟨(n1 % 5 / 4).toNat, by omega, by omega⟩
        refine ⟨_, rfl, _, rfl, _, _, rfl, rfl, a, _, _, _, rfl, rfl, gA.sqL t2 hS2, e1, .inl ⟨n1, rfl, _, _, rfl, rfl, (show (0 : Int) < 5 by decide), _, _, rfl, rfl, ⟨by decide, by decide⟩, _, rfl, A1, _, rfl, SqT.of hA1, fun w => ?_, fun w A2 a2 => ?_⟩⟩
        · refine ⟨pl, A1, _, _, rfl, rfl, SqT.of hpl4, SqT.of hA1, (by rw [List.length_map, sizeLine_eq]; show _ + 1 ≤ _; omega), fun e => absurd (List.map_eq_nil_iff.mp e) hne, fun _ e => (by cases e), fun _ _ A3 a3 => ?_⟩
          have g3 := gA.trans (Grew.new gA.tab (o := .tup (q.ps.map V.str ++ [V.str "new1"])) a3)
          have hnm5 : (q.ps ++ newS.take 1).all isNm = true := by rw [List.all_append, ok.pn]; decide +kernel
          refine ⟨a, ki, A3, ns, at_ + 2, d, z, ks, q.ps ++ newS.take 1, rfl, (g3).sqL t2 hS2, hsm, by omega, by omega, ok.d1, (g3).tup t2 hki2, by rw [List.map_append]; exact upd_same, by rw [List.length_append]; omega, l4, ok.kd, (g3).tab, fun H6 r t g6 nt hr hn ho hsub => ?_⟩
          refine ⟨_, rfl, (show 2 ≤ sizeLine by decide), fun T nT => tl H6 r t ((g3).trans g6) hr ⟨by rw [hn]; exact hzn, List.all_eq_true.mp hnm5 _ ho.s, List.all_eq_true.mp hnm5 _ ho.g, ho.m1, ho.m2, ho.u, ho.un, ho.ud, sp.ka.sublist hsub, ho.h⟩ T nT⟩
        · have hk0 : kb = 0 := by
            rcases Nat.lt_or_ge kb 1 with h | h
            · omega
            · have hk1 : kb = 1 := by omega
              rw [ekb, hk1] at w
              exact absurd ⟨rfl, rfl⟩ w
          have ec : cutV [V.str "new1"] none (some (n1 % 5 / 4)) = [] := by rw [ekb, hk0]; rfl
          have gB := gA.trans (Grew.new gA.tab (o := .tup (cutV [V.str "new1"] none (some (n1 % 5 / 4)))) a2)
          refine ⟨pl, A2, _, _, rfl, rfl, SqT.of (gB.tup t2 hpl2), SqT.of upd_same, (by rw [List.length_map, ec, sizeLine_eq]; show _ + 0 ≤ _; omega), fun e => absurd (List.map_eq_nil_iff.mp e) hne, fun _ _ => ?_, fun _ e => absurd ec e⟩
          have hnm5 : (q.ps).all isNm = true := ok.pn
          refine ⟨a, ki, pl, ns, at_ + 2, d, z, ks, q.ps, rfl, (gB).sqL t2 hS2, hsm, by omega, by omega, ok.d1, (gB).tup t2 hki2, gB.tup t2 hpl2, hpos, l4, ok.kd, (gB).tab, fun H6 r t g6 nt hr hn ho hsub => ?_⟩
          refine ⟨_, rfl, (show 2 ≤ sizeLine by decide), fun T nT => tl H6 r t ((gB).trans g6) hr ⟨by rw [hn]; exact hzn, List.all_eq_true.mp hnm5 _ ho.s, List.all_eq_true.mp hnm5 _ ho.g, ho.m1, ho.m2, ho.u, ho.un, ho.ud, sp.ka.sublist hsub, ho.h⟩ T nT⟩
    -- a road that is there
    have hxpos : 0 < xs.length := by
      rcases Nat.eq_zero_or_pos xs.length with h | h
      · exact absurd (congrArg (fun n : Nat => V.int (n : Int)) h) (fun e => d1 (decide_eq_true e))
      · exact h
    obtain ⟨vr, evr, hvr⟩ := atI_mod (xs := xs) (n := n1) hxpos
    obtain ⟨r, hr, hm⟩ := Paired.mem hrs2 hvr
    obtain ⟨t, u, hh, rfl, et, eu, eh⟩ := id hm
    have gr := good r hr
    refine ⟨_, rfl, p, _, 3, _, rfl, rfl, SqL.of hp2, rfl, _, rfl, _, rfl, _, _, rfl, rfl, a, _, _, _, rfl, rfl, hS2, e1, .inl ⟨n1, rfl, _, rfl, p, _, 3, _, rfl, rfl, SqL.of hp2, rfl, ro, _, rfl, .inr (SqT.of hro2), _, _, rfl, rfl, (show (0 : Int) < (xs.length : Int) by omega), ro, _, _, _, rfl, rfl, SqT.of hro2, evr, ?_⟩⟩
    refine ⟨_, rfl, rfl, _, rfl, ite2 (fun c3 => ?_) fun c3 => ?_⟩
    · obtain rfl : w0 = "unroad" := V.str.inj (of_decide_eq_true c3)
      refine ⟨_, rfl, _, rfl, (show 2 ≤ sizeLine by decide), fun T nT => ?_⟩
      exact kQ2 _ (.road false r) _ (Grew.new t2 nT) ⟨T, [.ref t], rfl, upd_same, .ref t, rfl, hm.grew (Grew.new t2 nT) t2⟩ gr
    refine ⟨_, rfl, rfl, _, rfl, ite2 (fun c4 => ?_) fun c4 => ?_⟩
    · obtain rfl : w0 = "minutes" := V.str.inj (of_decide_eq_true c4)
      have mm : PtSm (.mi r.minutes) := by have := gr.m1; have := gr.m2; show r.minutes.natAbs < 10 ^ 9; omega
      refine ⟨_, rfl, _, rfl, t, _, 0, _, rfl, rfl, SqT.of et, rfl, _, rfl, t, _, 3, _, rfl, rfl, SqT.of et, rfl, _, rfl, _, rfl, _, _, rfl, rfl, a, _, _, _, rfl, rfl, hS2, e2, .inl ⟨n2, rfl, _, _, rfl, rfl, (show (0 : Int) < 9 by decide), rfl, _, rfl, ite2 (fun c => ?_) fun c => ?_⟩⟩
      · obtain ⟨vi, evi, hvi⟩ := atI_mod (xs := ([0, 1001, 1000] : List Int).map V.int) (n := n3) (by decide)
        obtain ⟨i, hi3, rfl⟩ := List.mem_map.mp hvi
        refine ⟨(show 3 ≤ sizeLine by decide), fun T1 m1 => ?_⟩
        generalize eH3 : L2.upd H2 T1 _ = H3
        have g1 : Grew P H2 H3 := by rw [← eH3]; exact Grew.new t2 m1
        have hT1 : H3 T1 = some (.tup (([0, 1001, 1000] : List Int).map V.int)) := by rw [← eH3]; exact upd_same
        refine ⟨_, rfl, _, rfl, _, _, rfl, rfl, a, _, _, _, rfl, rfl, g1.sqL t2 hS2, e3, .inl ⟨n3, rfl, _, _, rfl, rfl, (show (0 : Int) < 3 by decide), T1, _, _, _, rfl, rfl, SqT.of hT1, evi, (show 4 ≤ sizeLine by decide), fun T nT => ?_⟩⟩
        refine kQ2 _ (.part r.name (.mi r.minutes) (.mi i)) _ (g1.trans (Grew.new g1.tab nT)) ⟨T, [.str r.name, .int r.minutes, .int i], rfl, upd_same, _, _, rfl, rfl, rfl⟩ ⟨gr.n, True.intro, mm, ?_⟩
        show i.natAbs < 10 ^ 9
        simp only [List.mem_cons, List.not_mem_nil, or_false] at hi3
        omega
      · refine ⟨_, rfl, _, rfl, _, _, rfl, rfl, a, _, _, _, rfl, rfl, hS2, e2, .inl ⟨n2, rfl, _, _, rfl, rfl, (show (0 : Int) < 12 by decide), _, _, rfl, rfl, (show 4 ≤ sizeLine by decide), fun T nT => ?_⟩⟩
        refine kQ2 _ (.part r.name (.mi r.minutes) (.mi (1 + n2 % 12))) _ (Grew.new t2 nT) ⟨T, [.str r.name, .int r.minutes, .int (1 + n2 % 12)], rfl, upd_same, _, _, rfl, rfl, rfl⟩ ⟨gr.n, True.intro, mm, ?_⟩
        show (1 + n2 % 12).natAbs < 10 ^ 9
        omega

    refine ⟨_, rfl, rfl, _, rfl, ite2 (fun c5 => ?_) fun c5 => ?_⟩
    · obtain rfl : w0 = "hours" := V.str.inj (of_decide_eq_true c5)
      have mm : PtSm (.ho r.hours) := hours_sm gr.h bd2
      refine ⟨_, rfl, _, rfl, _, _, rfl, rfl, a, _, _, _, rfl, rfl, hS2, e2, .inl ⟨n2, rfl, _, _, rfl, rfl, (show (0 : Int) < 9 by decide), rfl, _, rfl, ite2 (fun c => ?_) fun c => ?_⟩⟩
      · refine ⟨_, rfl, _, rfl, t, _, 0, _, rfl, rfl, SqT.of et, rfl, _, rfl, t, _, 5, _, rfl, rfl, SqT.of et, rfl, _, rfl, p, _, 0, _, rfl, rfl, SqL.of hp2, rfl, _, _, rfl, rfl, (show 2 ≤ sizeLine by decide), fun B1 b1 => ?_⟩
        generalize eK1 : L2.upd H2 B1 _ = K1
        have g1' : Grew P H2 K1 := by rw [← eK1]; exact Grew.new t2 b1
        have x1 : K1 B1 = some (.tup [V.int 0, V.int (d + 1)]) := by rw [← eK1]; exact upd_same
        have G1 := g1'
        refine ⟨(show 1 ≤ sizeLine by decide), fun B2 b2 => ?_⟩
        generalize eK2 : L2.upd K1 B2 _ = K2
        have g2' : Grew P K1 K2 := by rw [← eK2]; exact Grew.new G1.tab b2
        have x2 : K2 B2 = some (.tup [V.ref B1]) := by rw [← eK2]; exact upd_same
        have G2 := G1.trans g2'
        refine ⟨(show 2 ≤ sizeLine by decide), fun B3 b3 => ?_⟩
        generalize eK3 : L2.upd K2 B3 _ = K3
        have g3' : Grew P K2 K3 := by rw [← eK3]; exact Grew.new G2.tab b3
        have x3 : K3 B3 = some (.tup [V.int 0, V.int 0]) := by rw [← eK3]; exact upd_same
        have G3 := G2.trans g3'
        refine ⟨(show 1 ≤ sizeLine by decide), fun B4 b4 => ?_⟩
        generalize eK4 : L2.upd K3 B4 _ = K4
        have g4' : Grew P K3 K4 := by rw [← eK4]; exact Grew.new G3.tab b4
        have x4 : K4 B4 = some (.tup [V.ref B3]) := by rw [← eK4]; exact upd_same
        have G4 := G3.trans g4'
        refine ⟨(show 2 ≤ sizeLine by decide), fun B5 b5 => ?_⟩
        generalize eK5 : L2.upd K4 B5 _ = K5
        have g5' : Grew P K4 K5 := by rw [← eK5]; exact Grew.new G4.tab b5
        have x5 : K5 B5 = some (.tup [V.int 1, V.int 2]) := by rw [← eK5]; exact upd_same
        have G5 := G4.trans g5'
        refine ⟨(show 2 ≤ sizeLine by decide), fun B6 b6 => ?_⟩
        generalize eK6 : L2.upd K5 B6 _ = K6
        have g6' : Grew P K5 K6 := by rw [← eK6]; exact Grew.new G5.tab b6
        have x6 : K6 B6 = some (.tup [V.int 2, V.int 3]) := by rw [← eK6]; exact upd_same
        have G6 := G5.trans g6'
        refine ⟨(show 2 ≤ sizeLine by decide), fun B7 b7 => ?_⟩
        generalize eK7 : L2.upd K6 B7 _ = K7
        have g7' : Grew P K6 K7 := by rw [← eK7]; exact Grew.new G6.tab b7
        have x7 : K7 B7 = some (.tup [V.ref B5, V.ref B6]) := by rw [← eK7]; exact upd_same
        have G7 := G6.trans g7'
        refine ⟨(show 2 ≤ sizeLine by decide), fun B8 b8 => ?_⟩
        generalize eK8 : L2.upd K7 B8 _ = K8
        have g8' : Grew P K7 K8 := by rw [← eK8]; exact Grew.new G7.tab b8
        have x8 : K8 B8 = some (.tup [V.int 0, V.int 1]) := by rw [← eK8]; exact upd_same
        have G8 := G7.trans g8'
        refine ⟨(show 2 ≤ sizeLine by decide), fun B9 b9 => ?_⟩
        generalize eK9 : L2.upd K8 B9 _ = K9
        have g9' : Grew P K8 K9 := by rw [← eK9]; exact Grew.new G8.tab b9
        have x9 : K9 B9 = some (.tup [V.int 2, V.int 1]) := by rw [← eK9]; exact upd_same
        have G9 := G8.trans g9'
        refine ⟨(show 2 ≤ sizeLine by decide), fun B10 b10 => ?_⟩
        generalize eK10 : L2.upd K9 B10 _ = K10
        have g10' : Grew P K9 K10 := by rw [← eK10]; exact Grew.new G9.tab b10
        have x10 : K10 B10 = some (.tup [V.ref B8, V.ref B9]) := by rw [← eK10]; exact upd_same
        have G10 := G9.trans g10'
        refine ⟨(show 4 ≤ sizeLine by decide), fun B11 b11 => ?_⟩
        generalize eK11 : L2.upd K10 B11 _ = K11
        have g11' : Grew P K10 K11 := by rw [← eK11]; exact Grew.new G10.tab b11
        have x11 : K11 B11 = some (.tup [V.ref B2, V.ref B4, V.ref B7, V.ref B10]) := by rw [← eK11]; exact upd_same
        have G11 := G10.trans g11'
        have w1 := (g2'.trans (g3'.trans (g4'.trans (g5'.trans (g6'.trans (g7'.trans (g8'.trans (g9'.trans (g10'.trans (g11')))))))))).tup G1.tab x1
        have w2 := (g3'.trans (g4'.trans (g5'.trans (g6'.trans (g7'.trans (g8'.trans (g9'.trans (g10'.trans (g11'))))))))).tup G2.tab x2
        have w3 := (g4'.trans (g5'.trans (g6'.trans (g7'.trans (g8'.trans (g9'.trans (g10'.trans (g11')))))))).tup G3.tab x3
        have w4 := (g5'.trans (g6'.trans (g7'.trans (g8'.trans (g9'.trans (g10'.trans (g11'))))))).tup G4.tab x4
        have w5 := (g6'.trans (g7'.trans (g8'.trans (g9'.trans (g10'.trans (g11')))))).tup G5.tab x5
        have w6 := (g7'.trans (g8'.trans (g9'.trans (g10'.trans (g11'))))).tup G6.tab x6
        have w7 := (g8'.trans (g9'.trans (g10'.trans (g11')))).tup G7.tab x7
        have w8 := (g9'.trans (g10'.trans (g11'))).tup G8.tab x8
        have w9 := (g10'.trans (g11')).tup G9.tab x9
        have w10 := g11'.tup G10.tab x10
        have w11 := x11
        have gv : ∀ v ∈ [V.ref B2, V.ref B4, V.ref B7, V.ref B10], ∃ hs, GHours K K11 hs v ∧ PtSm (.ho hs) := by
          intro v hv
          simp only [List.mem_cons, List.not_mem_nil, or_false] at hv
          rcases hv with rfl | rfl | rfl | rfl
          · exact ⟨some [(0, d + 1)], ⟨B2, _, rfl, SqT.of w2, .cons ⟨B1, rfl, SqT.of w1⟩ .nil⟩, fun gs e => by obtain rfl := Option.some.inj e; exact ⟨by show 1 ≤ 4; decide, fun p hp => by rw [List.mem_singleton.mp hp]; exact ⟨by show (0 : Int).natAbs < 10 ^ 9; decide, by show (d + 1).natAbs < 10 ^ 9; omega⟩⟩⟩
          · exact ⟨some [(0, 0)], ⟨B4, _, rfl, SqT.of w4, .cons ⟨B3, rfl, SqT.of w3⟩ .nil⟩, fun gs e => by obtain rfl := Option.some.inj e; exact ⟨by decide, by decide⟩⟩
          · exact ⟨some [(1, 2), (2, 3)], ⟨B7, _, rfl, SqT.of w7, .cons ⟨B5, rfl, SqT.of w5⟩ (.cons ⟨B6, rfl, SqT.of w6⟩ .nil)⟩, fun gs e => by obtain rfl := Option.some.inj e; exact ⟨by decide, by decide⟩⟩
          · exact ⟨some [(0, 1), (2, 1)], ⟨B10, _, rfl, SqT.of w10, .cons ⟨B8, rfl, SqT.of w8⟩ (.cons ⟨B9, rfl, SqT.of w9⟩ .nil)⟩, fun gs e => by obtain rfl := Option.some.inj e; exact ⟨by decide, by decide⟩⟩
        have hB11 := w11
        obtain ⟨v, ev, hv⟩ := atI_mod (xs := [V.ref B2, V.ref B4, V.ref B7, V.ref B10]) (n := n3) (by show 0 < 4; decide)
        obtain ⟨hs, hg, hsm2⟩ := gv v hv
        refine ⟨_, rfl, _, rfl, _, _, rfl, rfl, a, _, _, _, rfl, rfl, G11.sqL t2 hS2, e3, .inl ⟨n3, rfl, _, _, rfl, rfl, (show (0 : Int) < 4 by decide), B11, _, _, _, rfl, rfl, SqT.of hB11, ev, (show 4 ≤ sizeLine by decide), fun T nT => ?_⟩⟩
        have gT := Grew.new G11.tab (o := .tup [V.str "hours", .str r.name, hh, v]) nT
        exact kQ2 _ (.part r.name (.ho r.hours) (.ho hs)) _ (G11.trans gT) ⟨T, [.str r.name, hh, v], rfl, upd_same, _, _, rfl, eh.grew (G11.trans gT) t2, hg.grew gT G11.tab⟩ ⟨gr.n, True.intro, mm, hsm2⟩
      · refine ⟨_, rfl, _, rfl, t, _, 0, _, rfl, rfl, SqT.of et, rfl, _, rfl, t, _, 5, _, rfl, rfl, SqT.of et, rfl, _, rfl, _, rfl, _, _, rfl, rfl, _, rfl, p, _, 0, _, rfl, rfl, SqL.of hp2, rfl, a, ns, at_ + 2, d, rfl, hS2, hsm, by omega, by omega, bd1, t2, fun H3 hs v g3 hg ho => ?_⟩
        refine ⟨(show 4 ≤ sizeLine by decide), fun T nT => ?_⟩
        have gT := Grew.new g3.tab (o := .tup [V.str "hours", .str r.name, hh, v]) nT
        exact kQ2 _ (.part r.name (.ho r.hours) (.ho hs)) _ (g3.trans gT) ⟨T, [.str r.name, hh, v], rfl, upd_same, _, _, rfl, eh.grew (g3.trans gT) t2, hg.grew gT g3.tab⟩ ⟨gr.n, True.intro, mm, hours_sm ho bd2⟩
    refine ⟨_, rfl, rfl, _, rfl, ite2 (fun c6 => ?_) fun c6 => ?_⟩
    · obtain rfl : w0 = "kinds" := V.str.inj (of_decide_eq_true c6)
      have kn5 : ∀ us : List Str, (∀ z ∈ us, z ∈ ks) → us.length ≤ 5 → PtSm (.ki us) := fun us h l => ⟨l, List.all_eq_true.mpr fun z hz => List.all_eq_true.mp ok.kn z (h z hz)⟩
      have mm : PtSm (.ki r.users) := kn5 _ gr.u (by have := gr.un; omega)
      have fin : ∀ (H5 : Hp) (b : Addr) (us : List Str), Grew P H2 H5 → H5 b = some (.tup (us.map V.str)) → PtSm (.ki us) → ∀ T, H5 T = none → Q (.ref T) (L2.upd H5 T (.tup [V.str "kinds", .str r.name, .ref u, .ref b])) := fun H5 b us g5 hb hsm5 T nT => by
        have gT := Grew.new g5.tab (o := .tup [V.str "kinds", .str r.name, .ref u, .ref b]) nT
        exact kQ2 _ (.part r.name (.ki r.users) (.ki us)) _ (g5.trans gT) ⟨T, [.str r.name, .ref u, .ref b], rfl, upd_same, _, _, rfl, ⟨u, rfl, (g5.trans gT).tup t2 eu⟩, ⟨b, rfl, gT.tup g5.tab hb⟩⟩ ⟨gr.n, True.intro, mm, hsm5⟩
      refine ⟨_, rfl, _, rfl, _, _, rfl, rfl, a, _, _, _, rfl, rfl, hS2, e2, .inl ⟨n2, rfl, _, _, rfl, rfl, (show (0 : Int) < 7 by decide), rfl, _, rfl, ite2 (fun c => ?_) fun c => ?_⟩⟩
      · refine ⟨_, rfl, _, rfl, t, _, 0, _, rfl, rfl, SqT.of et, rfl, _, rfl, t, _, 4, _, rfl, rfl, SqT.of et, rfl, (show 1 ≤ sizeLine by decide), fun B1 b1 => ?_⟩
        generalize eH3 : L2.upd H2 B1 _ = H3
        have G1 : Grew P H2 H3 := by rw [← eH3]; exact Grew.new t2 b1
        have hB1 : H3 B1 = some (.tup (([ "zz" ] : List Str).map V.str)) := by rw [← eH3]; exact upd_same
        refine ⟨_, rfl, p, _, 1, _, rfl, rfl, SqL.of (G1.lst t2 hp2), rfl, ki, _, rfl, SqT.of (G1.tup t2 hki2), fun B2 b2 => ?_⟩
        generalize eH4 : L2.upd H3 B2 _ = H4
        have g2' : Grew P H3 H4 := by rw [← eH4]; exact Grew.new G1.tab b2
        have G2 := G1.trans g2'
        have w1 := g2'.tup G1.tab hB1
        have w2 : H4 B2 = some (.tup (ks.reverse.map V.str)) := by rw [← eH4, List.map_reverse]; exact upd_same
        have tail : ∀ (H5 : Hp) (s5 : Addr), Grew P H4 H5 → H5 s5 = some (.tup ((ks.take 1).map V.str)) → ∀ B3, H5 B3 = none → ∀ B4, (L2.upd H5 B3 (.tup (ks.map V.str ++ (ks.take 1).map V.str))) B4 = none → ∃ H6, H6 = L2.upd (L2.upd H5 B3 (.tup (ks.map V.str ++ (ks.take 1).map V.str))) B4 (.tup [V.ref B1, V.ref B2, V.ref B3]) ∧ Grew P H2 H6 ∧ H6 B4 = some (.tup [V.ref B1, V.ref B2, V.ref B3]) ∧ ∀ v ∈ [V.ref B1, V.ref B2, V.ref B3], ∃ b us, v = .ref b ∧ H6 b = some (.tup (us.map V.str)) ∧ PtSm (.ki us) := fun H5 s5 g5 h5 B3 b3 B4 b4 => by
          have g3' := Grew.new g5.tab (o := .tup (ks.map V.str ++ (ks.take 1).map V.str)) b3
          have g4' := Grew.new g3'.tab (o := .tup [V.ref B1, V.ref B2, V.ref B3]) b4
          have g45 := g5.trans (g3'.trans g4')
          refine ⟨_, rfl, G2.trans g45, upd_same, fun v hv => ?_⟩
          simp only [List.mem_cons, List.not_mem_nil, or_false] at hv
          rcases hv with rfl | rfl | rfl
          · exact ⟨B1, ["zz"], rfl, g45.tup G2.tab w1, by decide, by decide +kernel⟩
          · exact ⟨B2, ks.reverse, rfl, g45.tup G2.tab w2, kn5 _ (fun z hz => List.mem_reverse.mp hz) (by rw [List.length_reverse]; omega)⟩
          · exact ⟨B3, ks ++ ks.take 1, rfl, by rw [List.map_append]; exact g4'.tup g3'.tab upd_same, kn5 _ (fun z hz => (List.mem_append.mp hz).elim id fun h => List.mem_of_mem_take h) (by rw [List.length_append, List.length_take]; omega)⟩
        have k1 := ok.k1
        have hkne : ks.map V.str ≠ [] := fun e => by rw [List.map_eq_nil_iff.mp e] at k1; exact absurd k1 (by decide)
        have hne1 : (ks.take 1).map V.str ≠ [] := fun e => by
          have q1 := congrArg List.length e
          rw [List.length_map, List.length_take] at q1
          simp only [List.length_nil] at q1
          omega
        obtain ⟨v, ev, hv⟩ : ∃ f : Addr → V, (∀ B3, atI [V.ref B1, V.ref B2, V.ref B3] (n3 % 3) = some (f B3)) ∧ ∀ B3, f B3 ∈ [V.ref B1, V.ref B2, V.ref B3] := by
          have key : ∀ B3 : Addr, ∃ v, atI [V.ref B1, V.ref B2, V.ref B3] (n3 % 3) = some v ∧ v ∈ [V.ref B1, V.ref B2, V.ref B3] := fun B3 => atI_mod (xs := [V.ref B1, V.ref B2, V.ref B3]) (n := n3) (by show 0 < 3; decide)
          exact ⟨fun B3 => (key B3).choose, fun B3 => (key B3).choose_spec.1, fun B3 => (key B3).choose_spec.2⟩
        refine ⟨_, rfl, p, _, 1, _, rfl, rfl, SqL.of (G2.lst t2 hp2), rfl, _, rfl, p, _, 1, _, rfl, rfl, SqL.of (G2.lst t2 hp2), rfl, _, rfl, ki, _, rfl, SqT.of (G2.tup t2 hki2), fun w => ?_, fun w B5 b5 => ?_⟩
        · have e1 : ks.take 1 = ks := by
            have q1 : min 1 (ks.map V.str).length = (ks.map V.str).length := w.2
            rw [List.length_map] at q1
            exact List.take_of_length_le (by omega)
          refine ⟨ki, ki, _, _, rfl, rfl, SqT.of (G2.tup t2 hki2), SqT.of (G2.tup t2 hki2), (by rw [List.length_map, sizeLine_eq]; omega), fun e => absurd e hkne, fun _ e => absurd e hkne, fun _ _ B3 b3 => ?_⟩
          refine ⟨(show 3 ≤ sizeLine by decide), fun B4 b4 => ?_⟩
          obtain ⟨H6, e6, G6, h6, gv⟩ := tail H4 ki (Grew.refl G2.tab) (by rw [e1]; exact G2.tup t2 hki2) B3 b3 B4 (by rw [e1]; exact b4)
          rw [e1] at e6
          rw [← e6]
          obtain ⟨b, us, evb, hb, hus⟩ := gv (v B3) (hv B3)
          have ev3 := ev B3
          rw [evb] at ev3
          exact ⟨_, rfl, _, rfl, _, _, rfl, rfl, a, _, _, _, rfl, rfl, G6.sqL t2 hS2, e3, .inl ⟨n3, rfl, _, _, rfl, rfl, (show (0 : Int) < 3 by decide), B4, _, _, _, rfl, rfl, SqT.of h6, ev3, (show 4 ≤ sizeLine by decide), fun T nT => fin H6 b us G6 hb hus T nT⟩⟩
        · have e1 : cutV (ks.map V.str) none (some 1) = (ks.take 1).map V.str := by
            rw [show (1 : Int) = ((1 : Nat) : Int) from rfl, cutV_pre, List.map_take]
          have gB := Grew.new G2.tab (o := .tup (cutV (ks.map V.str) none (some 1))) b5
          have hB5 : L2.upd H4 B5 (.tup (cutV (ks.map V.str) none (some 1))) B5 = some (.tup ((ks.take 1).map V.str)) := by rw [← e1]; exact upd_same
          rw [e1] at gB hB5 ⊢
          refine ⟨ki, B5, _, _, rfl, rfl, SqT.of ((G2.trans gB).tup t2 hki2), SqT.of hB5, (by rw [List.length_map, List.length_map, List.length_take, sizeLine_eq]; omega), fun e => absurd e hkne, fun _ e => absurd e hne1, fun _ _ B3 b3 => ?_⟩
          refine ⟨(show 3 ≤ sizeLine by decide), fun B4 b4 => ?_⟩
          obtain ⟨H6, e6, G6, h6, gv⟩ := tail _ B5 gB hB5 B3 b3 B4 b4
          rw [← e6]
          obtain ⟨b, us, evb, hb, hus⟩ := gv (v B3) (hv B3)
          have ev3 := ev B3
          rw [evb] at ev3
          exact ⟨_, rfl, _, rfl, _, _, rfl, rfl, a, _, _, _, rfl, rfl, G6.sqL t2 hS2, e3, .inl ⟨n3, rfl, _, _, rfl, rfl, (show (0 : Int) < 3 by decide), B4, _, _, _, rfl, rfl, SqT.of h6, ev3, (show 4 ≤ sizeLine by decide), fun T nT => fin H6 b us G6 hb hus T nT⟩⟩
      · obtain ⟨m, em⟩ : ∃ m : Nat, n2 % (((ks.map V.str).length : Nat) + 1 : Int) = (m : Int) := ⟨(n2 % (((ks.map V.str).length : Nat) + 1 : Int)).toNat, (Int.toNat_of_nonneg (Int.emod_nonneg _ (by omega))).symm⟩
        refine ⟨_, rfl, _, rfl, t, _, 0, _, rfl, rfl, SqT.of et, rfl, _, rfl, t, _, 4, _, rfl, rfl, SqT.of et, rfl, _, rfl, p, _, 1, _, rfl, rfl, SqL.of hp2, rfl, _, rfl, _, rfl, _, _, rfl, rfl, a, _, _, _, rfl, rfl, hS2, e2, .inl ⟨n2, rfl, _, rfl, p, _, 1, _, rfl, rfl, SqL.of hp2, rfl, ki, _, rfl, .inr (SqT.of hki2), _, _, rfl, rfl, _, _, rfl, rfl, (by omega), _, rfl, ki, _, rfl, SqT.of hki2, fun w => ?_, fun w B5 b5 => ?_⟩⟩
        · exact ⟨(show 4 ≤ sizeLine by decide), fun T nT => fin H2 ki ks G0 hki2 (kn5 _ (fun z hz => hz) (by omega)) T nT⟩
        · have gB := Grew.new t2 (o := .tup (cutV (ks.map V.str) none (some (n2 % (((ks.map V.str).length : Nat) + 1 : Int))))) b5
          refine ⟨(show 4 ≤ sizeLine by decide), fun T nT => fin _ B5 (ks.take m) gB ?_ (kn5 _ (fun z hz => List.mem_of_mem_take hz) (by rw [List.length_take]; omega)) T nT⟩
          rw [upd_same, em, cutV_pre, List.map_take]
    refine ⟨fun σ H' => σ = [some (.ref a), some (.int at_), some (.ref p), some (.ref W), some (.str w0), some (.ref D), none, none, some (.ref t), none, none] ∧ H' = H2, ?_, ?_⟩
    · refine ⟨_, rfl, rfl, _, rfl, ite2 (fun c7 => ?_) fun c7 => if_f rfl ⟨rfl, rfl⟩⟩
      obtain rfl : w0 = "unbar" := V.str.inj (of_decide_eq_true c7)
      refine ⟨_, rfl, p, _, 4, _, rfl, rfl, SqL.of hp2, rfl, ba, _, rfl, .inr (SqT.of hba2), _, _, rfl, rfl, _, rfl, ite2 (fun c8 => ?_) fun c8 => ⟨rfl, rfl⟩⟩
      have c8' : (0 : Int) < (zs.length : Int) := of_decide_eq_true c8
      obtain ⟨vb, evb, hvb⟩ := atI_mod (xs := zs) (n := n2) (by omega)
      obtain ⟨b, hb, tb, rfl, etb⟩ := Paired.mem hzs2 hvb
      have bn : isNm b.1 = true ∧ isNm b.2 = true := by
        obtain ⟨r1, m1, r2, m2, e1, e2, _⟩ := ok.b.ok b hb
        rw [e1, e2]
        exact ⟨(good r1 m1).n, (good r2 m2).n⟩
      refine ⟨_, rfl, (show 1 ≤ sizeLine by decide), fun B1 b1 => ?_⟩
      generalize eH3 : L2.upd H2 B1 _ = H3
      have G1 : Grew P H2 H3 := by rw [← eH3]; exact Grew.new t2 b1
      have hB1 : H3 B1 = some (.tup [V.str "unbar"]) := by rw [← eH3]; exact upd_same
      refine ⟨_, rfl, p, _, 4, _, rfl, rfl, SqL.of (G1.lst t2 hp2), rfl, _, rfl, _, rfl, _, _, rfl, rfl, a, _, _, _, rfl, rfl, G1.sqL t2 hS2, e2, .inl ⟨n2, rfl, _, rfl, p, _, 4, _, rfl, rfl, SqL.of (G1.lst t2 hp2), rfl, ba, _, rfl, .inr (SqT.of (G1.tup t2 hba2)), _, _, rfl, rfl, c8', ba, _, _, _, rfl, rfl, SqT.of (G1.tup t2 hba2), evb, B1, tb, _, _, rfl, rfl, SqT.of hB1, SqT.of (G1.tup t2 etb), (show 3 ≤ sizeLine by decide), fun e => (by cases e), fun _ e => (by cases e), fun _ _ T nT => ?_⟩⟩
      exact kQ2 _ (.bar false b) _ (G1.trans (Grew.new G1.tab nT)) ⟨T, [.str b.1, .str b.2], rfl, upd_same, rfl⟩ bn
    rintro σ H' ⟨rfl, rfl⟩
    refine ⟨_, rfl, p, _, 3, _, rfl, rfl, SqL.of hp2, rfl, ro, rfl, ⟨_, SqT.of hro2⟩, fun E1 m1 => lc_tup (K := K) (a := ro) (xs := xs) (fun j H4 => Grew P H' H4 ∧ ∃ acc : List Str, H4 E1 = some (.lst (acc.map V.str)) ∧ acc.length ≤ j ∧ ∀ z ∈ acc, isNm z = true) ⟨Grew.new t2 m1, [], upd_same, Nat.le_refl _, fun z hz => by cases hz⟩ (fun j H4 _ h => SqT.of (h.1.tup t2 hro2)) (fun j v H4 hj h => ?_) (fun H4 h => ?_)⟩
    · obtain ⟨g4, acc, hE, la, hac⟩ := h
      obtain ⟨o, ho, hm4⟩ := Paired.at hrs2 hj
      obtain ⟨t4, u4, h4, rfl, et4, _, _⟩ := hm4.grew g4 t2
      have hjl := (List.getElem?_eq_some_iff.mp hj).1
      refine ⟨rfl, _, rfl, t4, _, 1, _, rfl, rfl, SqT.of et4, rfl, _, rfl, t, _, 2, _, rfl, rfl, SqT.of (g4.tup t2 et), rfl, rfl, _, rfl, ite2 (fun c => ?_) fun c => ⟨g4, acc, hE, by omega, hac⟩⟩
      refine ⟨_, rfl, t4, _, 0, _, rfl, rfl, SqT.of et4, rfl, _, hE, by rw [List.length_map, sizeLine_eq]; omega, g4.write hE (fun _ z => by cases z) m1, acc ++ [o.name], by rw [upd_same, List.map_append]; rfl, by rw [List.length_append]; show _ + 1 ≤ _; omega, fun z hz => ?_⟩
      rcases List.mem_append.mp hz with h | h
      · exact hac z h
      · rw [List.mem_singleton.mp h]
        exact (good o (List.mem_of_getElem? ho)).n
    obtain ⟨g4, acc, hE, la, hac⟩ := h
    have hD4 := g4.lst t2 hD
    refine ⟨_, rfl, _, rfl, D, _, rfl, SqL.of hD4, fun E2 m2 => ?_⟩
    have ec : cutV (namesV q.rs) none (some 1) = ((q.rs.map (·.name)).take 1).map V.str := by
      rw [show (1 : Int) = ((1 : Nat) : Int) from rfl, cutV_pre]
      unfold namesV
      rw [List.map_take]
    rw [ec]
    have g5 := Grew.new g4.tab (o := .lst (((q.rs.map (·.name)).take 1).map V.str)) m2
    refine ⟨E1, E2, _, _, rfl, rfl, g5.lst g4.tab hE, upd_same, (by rw [List.length_map, List.length_map, List.length_take, sizeLine_eq]; omega), fun E3 m3 => ?_⟩
    have g6 := Grew.new g5.tab (o := .lst (acc.map V.str ++ ((q.rs.map (·.name)).take 1).map V.str)) m3
    have G6 := g4.trans (g5.trans g6)
    have hE3 : L2.upd (L2.upd H4 E2 (.lst (((q.rs.map (·.name)).take 1).map V.str))) E3 (.lst (acc.map V.str ++ ((q.rs.map (·.name)).take 1).map V.str)) E3 = some (.lst ((acc ++ (q.rs.map (·.name)).take 1).map V.str)) := by rw [List.map_append]; exact upd_same
    generalize L2.upd (L2.upd H4 E2 (.lst (((q.rs.map (·.name)).take 1).map V.str))) E3 (.lst (acc.map V.str ++ ((q.rs.map (·.name)).take 1).map V.str)) = H7 at G6 hE3 ⊢
    have lpos : 0 < ((acc ++ (q.rs.map (·.name)).take 1).map V.str).length := by
      rw [List.length_map, List.length_append, List.length_take, List.length_map]
      omega
    obtain ⟨v, ev, hv⟩ := atI_mod (xs := (acc ++ (q.rs.map (·.name)).take 1).map V.str) (n := n2) lpos
    obtain ⟨z, hz, rfl⟩ := List.mem_map.mp hv
    have hzn : isNm z = true := by
      rcases List.mem_append.mp hz with h | h
      · exact hac z h
      · exact List.all_eq_true.mp ok.r.nm z (List.mem_of_mem_take h)
    refine ⟨_, rfl, t, _, 0, _, rfl, rfl, SqT.of (G6.tup t2 et), rfl, _, rfl, _, rfl, _, rfl, _, _, rfl, rfl, a, _, _, _, rfl, rfl, G6.sqL t2 hS2, e2, .inl ⟨n2, rfl, _, rfl, E3, _, rfl, .inl (SqL.of hE3), _, _, rfl, rfl, (by omega), E3, _, _, _, rfl, rfl, SqL.of hE3, ev, (show 3 ≤ sizeLine by decide), fun T nT => ?_⟩⟩
    exact kQ2 _ (.bar true (r.name, z)) _ (G6.trans (Grew.new G6.tab nT)) ⟨T, [.str r.name, .str z], rfl, upd_same, rfl⟩ ⟨gr.n, hzn⟩
end
end W

set_option Elab.async false
set_option linter.all false
set_option maxRecDepth 100000
set_option maxHeartbeats 1000000
namespace MyS
open PySem PySem.Spec PyProof.Rows L2
open SrtO hiding Str
section
variable {X : Cx}
/-- sorted(xs), xs a list of tuples told apart by their first text -/
def rSortRQ (K : PySem.W.Frag) : List V → Hp → VK → Prop := fun vs H Q => ∃ (a : Addr) (xs : List V) (k : V → Str), vs = [V.ref a] ∧ (SqL K H a xs ∨ SqT K H a xs) ∧ (∀ x ∈ xs, ∃ t r, x = V.ref t ∧ SqT K H t (.str (k x) :: r)) ∧ (∀ x ∈ xs, ∀ y ∈ xs, k x = k y → x = y) ∧
  ∀ ys p, ys.Perm xs → ys.Pairwise (fun x y => slt (k y) (k x) = false) → H p = none → Q (.ref p) (upd H p (.lst ys))
theorem cr_sortRQ : CallR X (.builtin "sorted") (rSortRQ X.K) := by
  intro pins s σ H vs us Q I r h
  obtain ⟨a, xs, k, rfl, hs, hx, ne, q⟩ := h
  obtain ⟨its, rv, hl, hz⟩ : ∃ its : List Value, Vals xs its ∧ (s.heap.IsList a its.toArray ∨ s.heap.IsTuple a its.toArray) ∧ xs.length ≤ sizeLine := by
    rcases hs with hs | hs
    · obtain ⟨its, rv, pl, hz⟩ := I.list hs
      exact ⟨its, rv, .inl pl.isList, hz⟩
    · obtain ⟨its, rv, pl, hz⟩ := I.tuple hs
      exact ⟨its, rv, .inr (by first | exact pl | exact pl.isTuple), hz⟩
  rw [Vals.ref1 r]
  obtain ⟨e1, e2⟩ := refs_back rv fun x m => by
    obtain ⟨t, r, e, _⟩ := hx x m
    exact ⟨t, e⟩
  have hp : ∀ v ∈ its, ∃ r, IsTp s.heap v (k (backV v)) r := fun v hv => by
    obtain ⟨t, rfl⟩ := e2 v hv
    have hm : V.ref t ∈ xs := by rw [e1]; exact List.mem_map.mpr ⟨_, hv, rfl⟩
    obtain ⟨t', r, e, ht⟩ := hx _ hm
    cases e
    obtain ⟨its2, r2, ⟨o, ho, hc, n, hd⟩, _⟩ := I.tuple ht
    cases r2 with
    | cons r0 r3 =>
      obtain ⟨tk, rfl⟩ := r0
      exact ⟨_, t, o, _, n, tk, rfl, ho, hc, hd, rfl⟩
  have ne' : ∀ v ∈ its, ∀ u ∈ its, k (backV v) = k (backV u) → v = u := fun v hv u hu e => by
    obtain ⟨t, rfl⟩ := e2 v hv
    obtain ⟨t', rfl⟩ := e2 u hu
    have q := ne (.ref t) (by rw [e1]; exact List.mem_map.mpr ⟨_, hv, rfl⟩) (.ref t') (by rw [e1]; exact List.mem_map.mpr ⟨_, hu, rfl⟩) e
    injection q with q
    rw [q]
  refine sorted_seq (swo_of swo_s fun u => k (backV u)) hl (by rw [← rv.length]; exact hz) (fun h2 h₁ a' ha' kk => first_sortable (by omega) (fun v hv => let ⟨r, z⟩ := hp v hv; ⟨r, z.keeps fun b o e _ => (kk b o e).2⟩) ne' (noTup ha')) fun out h1 h2 => ?_
  have h3 : ∀ u ∈ out, ∃ a, u = Value.ref a := fun u hu => e2 u (h2.perm.mem_iff.mp hu)
  obtain ⟨ep, he'⟩ := PyProof.Rows.sortedAll_at s.heap its out.toArray
  have pm : (out.map backV).Perm xs := by
    rw [e1]
    exact h2.perm.map backV
  refine ⟨.ref _, upd H (s.heap.objs.size + 1) (.lst (out.map backV)), I.laid (t' := s.toks) (fun _ _ => PyProof.Rows.sortedAll_old) (Nat.le_succ _) ⟨by rw [pm.length_eq]; exact hz, out, ep, vals_back h3, he'⟩, rfl, q _ _ pm (List.pairwise_map.mpr h1) (I.hok.fresh (Nat.le_succ _))⟩
/-- sorted(xs), xs a list of pairs of texts -/
def rSortBQ (K : PySem.W.Frag) : List V → Hp → VK → Prop := fun vs H Q => ∃ (a : Addr) (xs : List V) (k : V → Str × Str), vs = [V.ref a] ∧ (SqL K H a xs ∨ SqT K H a xs) ∧ (∀ x ∈ xs, ∃ t, x = V.ref t ∧ SqT K H t [.str (k x).1, .str (k x).2]) ∧
  ∀ ys p, ys.Perm xs → ys.Pairwise (fun x y => slt2 (k y) (k x) = false) → H p = none → Q (.ref p) (upd H p (.lst ys))
theorem cr_sortBQ : CallR X (.builtin "sorted") (rSortBQ X.K) := by
  intro pins s σ H vs us Q I r h
  obtain ⟨a, xs, k, rfl, hs, hx, q⟩ := h
  obtain ⟨its, rv, hl, hz⟩ : ∃ its : List Value, Vals xs its ∧ (s.heap.IsList a its.toArray ∨ s.heap.IsTuple a its.toArray) ∧ xs.length ≤ sizeLine := by
    rcases hs with hs | hs
    · obtain ⟨its, rv, pl, hz⟩ := I.list hs
      exact ⟨its, rv, .inl pl.isList, hz⟩
    · obtain ⟨its, rv, pl, hz⟩ := I.tuple hs
      exact ⟨its, rv, .inr (by first | exact pl | exact pl.isTuple), hz⟩
  rw [Vals.ref1 r]
  obtain ⟨e1, e2⟩ := refs_back rv fun x m => by
    obtain ⟨t, e, _⟩ := hx x m
    exact ⟨t, e⟩
  have hp : ∀ v ∈ its, ∃ t, IsTp s.heap v (k (backV v)).1 [.str (k (backV v)).2 t] := fun v hv => by
    obtain ⟨t, rfl⟩ := e2 v hv
    have hm : V.ref t ∈ xs := by rw [e1]; exact List.mem_map.mpr ⟨_, hv, rfl⟩
    obtain ⟨t', e, ht⟩ := hx _ hm
    cases e
    obtain ⟨its2, r2, ⟨o, ho, hc, n, hd⟩, _⟩ := I.tuple ht
    obtain ⟨u1, u2, rfl, ri, rj⟩ := vals2 r2
    obtain ⟨t1, rfl⟩ := ri
    obtain ⟨t2, rfl⟩ := rj
    exact ⟨t2, t, o, _, n, t1, rfl, ho, hc, hd, rfl⟩
  refine sorted_seq (swo_of swo_s2 fun u => k (backV u)) hl (by rw [← rv.length]; exact hz) (fun h2 h₁ a' ha' kk => pairs_sortable (by omega) (fun v hv => let ⟨r, z⟩ := hp v hv; ⟨r, z.keeps fun b o e _ => (kk b o e).2⟩) (noTup ha')) fun out h1 h2 => ?_
  have h3 : ∀ u ∈ out, ∃ a, u = Value.ref a := fun u hu => e2 u (h2.perm.mem_iff.mp hu)
  obtain ⟨ep, he'⟩ := PyProof.Rows.sortedAll_at s.heap its out.toArray
  have pm : (out.map backV).Perm xs := by
    rw [e1]
    exact h2.perm.map backV
  refine ⟨.ref _, upd H (s.heap.objs.size + 1) (.lst (out.map backV)), I.laid (t' := s.toks) (fun _ _ => PyProof.Rows.sortedAll_old) (Nat.le_succ _) ⟨by rw [pm.length_eq]; exact hz, out, ep, vals_back h3, he'⟩, rfl, q _ _ pm (List.pairwise_map.mpr h1) (I.hok.fresh (Nat.le_succ _))⟩
end
end MyS

set_option Elab.async false
set_option linter.all false
set_option maxRecDepth 100000
set_option maxHeartbeats 1000000
/-! sorted(xs), xs a list or a tuple of tuples of texts of any length (one at least). -/
namespace MyS
open PySem PySem.Spec PyProof.Rows L2
open SrtO hiding Str
/-- the order of tuples of texts -/
def llt : List Str → List Str → Bool
  | [], [] => false
  | [], _ :: _ => true
  | _ :: _, [] => false
  | a :: as, b :: bs => if a = b then llt as bs else slt a b
theorem llt_irr : ∀ as : List Str, llt as as = false
  | [] => rfl
  | a :: as => by
    simp [llt, llt_irr as]
theorem llt_asym : ∀ {as bs : List Str}, llt as bs = true → llt bs as = false
  | [], [], _ => rfl
  | [], _ :: _, _ => rfl
  | _ :: _, [], h => by simp [llt] at h
  | a :: as, b :: bs, h => by
    simp only [llt] at h ⊢
    by_cases e : a = b
    · rw [if_pos e] at h
      rw [if_pos e.symm]
      exact llt_asym h
    · rw [if_neg e] at h
      rw [if_neg fun c => e c.symm]
      exact slt_asym h
theorem llt_tri : ∀ {as bs : List Str}, llt as bs = false → llt bs as = false → as = bs
  | [], [], _, _ => rfl
  | [], _ :: _, h, _ => by simp [llt] at h
  | _ :: _, [], _, h => by simp [llt] at h
  | a :: as, b :: bs, h, h2 => by
    simp only [llt] at h h2
    by_cases e : a = b
    · rw [if_pos e] at h
      rw [if_pos e.symm] at h2
      rw [e, llt_tri h h2]
    · rw [if_neg e] at h
      rw [if_neg fun c => e c.symm] at h2
      exact absurd (slt_tri h h2) e
theorem llt_ntr : ∀ {x y z : List Str}, llt y x = false → llt z y = false → llt z x = false
  | [], [], [], _, _ => rfl
  | [], [], _ :: _, _, h => h
  | [], _ :: _, [], _, _ => rfl
  | [], _ :: _, _ :: _, _, _ => rfl
  | _ :: _, [], _, h, _ => by simp [llt] at h
  | _ :: _, _ :: _, [], _, h => by simp [llt] at h
  | a :: x, b :: y, c :: z, h1, h2 => by
    simp only [llt] at h1 h2 ⊢
    by_cases e1 : b = a
    · subst e1
      rw [if_pos rfl] at h1
      by_cases e2 : c = b
      · rw [if_pos e2] at h2 ⊢
        exact llt_ntr h1 h2
      · rw [if_neg e2] at h2 ⊢
        exact h2
    · rw [if_neg e1] at h1
      by_cases e2 : c = b
      · subst e2
        rw [if_neg e1]
        exact h1
      · rw [if_neg e2] at h2
        by_cases e3 : c = a
        · subst e3
          exact absurd (slt_tri h1 h2) e1
        · rw [if_neg e3]
          exact slt_ntr h1 h2
theorem swo_l : Swo llt := ⟨fun x y h => llt_asym h, fun x y z h1 h2 => llt_ntr h1 h2⟩
section
variable {prog : Program} {w : World} {A : Around} {E : Value → Shared → Prop} {s : Shared}
/-- v is a tuple of these texts -/
def IsTx (h : Heap) (v : Value) (k : List Str) : Prop := ∃ (b : Addr) (o : Obj) (xs : Array Value) (n : Nat), v = .ref b ∧ h.get? b = some o ∧ o.cls = .type "tuple" ∧ o.data = .seq xs n ∧ StrsAre xs.toList k
theorem IsTx.keeps {h h' : Heap} {v : Value} {k : List Str} (x : IsTx h v k) (kk : ∀ b o, h.get? b = some o → o.cls = .type "tuple" → h'.get? b = some o) : IsTx h' v k := by
  obtain ⟨b, o, xs, n, e, ho, hc, q⟩ := x
  exact ⟨b, o, xs, n, e, kk b o ho hc, hc, q⟩
theorem strsAre_len : ∀ {vs : List Value} {ss : List Str}, StrsAre vs ss → vs.length = ss.length := by
  intro vs ss h
  have e := congrArg List.length (sv_strs h)
  rw [List.length_map] at e
  exact e
theorem strsAre_cons {vs : List Value} {a : Str} {as : List Str} (h : StrsAre vs (a :: as)) : ∃ t r, vs = .str a t :: r ∧ StrsAre r as := by
  cases h with
  | cons y t h2 => exact ⟨t, _, rfl, h2⟩
theorem strsAre_nil {vs : List Value} (h : StrsAre vs []) : vs = [] := by
  cases h
  rfl
theorem kat_strs {fin : Bool} {Q : Bool → Shared → Prop} : ∀ (as bs : List Str) (xs ys : List Value) (i c : Nat), StrsAre xs as → StrsAre ys bs → fin = decide (as.length + c < bs.length + c) → Q (llt as bs) s →
    PySem.W.KatLex prog w A true fin Q (xs.zip ys) (i + 1) s
  | [], [], xs, ys, i, c, h1, h2, hf, q => by
    rw [strsAre_nil h1]
    refine PySem.W.kat_nil ?_
    rw [hf, decide_eq_false (by simp)]
    exact q
  | [], b :: bs, xs, ys, i, c, h1, h2, hf, q => by
    rw [strsAre_nil h1]
    refine PySem.W.kat_nil ?_
    rw [hf, decide_eq_true (by simp)]
    exact q
  | a :: as, [], xs, ys, i, c, h1, h2, hf, q => by
    rw [strsAre_nil h2, List.zip_nil_right]
    refine PySem.W.kat_nil ?_
    rw [hf, decide_eq_false (by simp)]
    exact q
  | a :: as, b :: bs, xs, ys, i, c, h1, h2, hf, q => by
    obtain ⟨t, r, rfl, k1⟩ := strsAre_cons h1
    obtain ⟨t', r', rfl, k2⟩ := strsAre_cons h2
    rw [List.zip_cons_cons]
    simp only [llt] at q
    refine PySem.W.kat_cons (SeqAt.EqAt.str_str a t b t' prog w _ _ ?_)
    refine PySem.W.kat_go (fun e1 => ?_) (fun e1 => ?_)
    · have ex : a = b := by simpa using e1
      rw [if_pos ex] at q
      refine PySem.W.kat_yes (kat_strs as bs r r' (i + 1) (c + 1) k1 k2 ?_ q)
      rw [hf, List.length_cons, List.length_cons]
      congr 1
      exact propext ⟨fun h => by omega, fun h => by omega⟩
    · have ex : ¬ a = b := by simpa using e1
      rw [if_neg ex] at q
      refine PySem.W.kat_no (PySem.W.kat_one _ _ ?_)
      refine PyProof.Rows.lt_str ?_
      exact q
theorem texts_cmp {vs : List Value} {k : Value → List Str} (hp : ∀ v ∈ vs, IsTx s.heap v (k v) ∧ k v ≠ []) : Cmp prog w A s (tuples' true) (fun p => p.1 ∈ vs) (lt2 fun v u => llt (k v) (k u)) := by
  intro p q hm hm'
  obtain ⟨⟨b, o, xs, n, e, ho, hc, hd, hx⟩, ne⟩ := hp _ hm
  obtain ⟨⟨b', o', xs', n', e', ho', hc', hd', hx'⟩, ne'⟩ := hp _ hm'
  show wpAny (model prog w) A (keyLt' (tuples' true) p.1 q.1) (fun r s' => s' = s ∧ r = llt (k p.1) (k q.1)) (fun _ _ => False) s
  generalize k p.1 = x at *
  generalize k q.1 = y at *
  rw [e, e']
  have sz : xs.size = x.length := by rw [← Array.length_toList]; exact strsAre_len hx
  have sz' : xs'.size = y.length := by rw [← Array.length_toList]; exact strsAre_len hx'
  refine PySem.W.kat_lt ho hd ho' hd' ?_
  rw [sz, sz']
  cases x with
  | nil => exact absurd rfl ne
  | cons a as =>
    cases y with
    | nil => exact absurd rfl ne'
    | cons c cs =>
      obtain ⟨t, r, er, h1⟩ := strsAre_cons hx
      obtain ⟨t', r', er', h2⟩ := strsAre_cons hx'
      rw [er, er']
      show PySem.W.KatLex prog w A true _ _ ((.str a t, .str c t') :: r.zip r') 0 s
      refine PySem.W.kat_cons (SeqAt.EqAt.str_str a t c t' prog w _ _ ?_)
      refine PySem.W.kat_go (fun e1 => ?_) (fun e1 => ?_)
      · have ex : a = c := by simpa using e1
        refine PySem.W.kat_yes (kat_strs as cs r r' 0 1 h1 h2 rfl ⟨rfl, ?_⟩)
        simp only [llt]
        rw [if_pos ex]
      · have ex : ¬ a = c := by simpa using e1
        refine PySem.W.kat_no (oneLt_str ⟨rfl, ?_⟩)
        simp only [llt]
        rw [if_neg ex]
        rfl
theorem IsTx.tp {h : Heap} {v : Value} {k : List Str} (x : IsTx h v k) (ne : k ≠ []) : ∃ a r, IsTp h v a r := by
  obtain ⟨b, o, xs, n, e, ho, hc, hd, hx⟩ := x
  cases k with
  | nil => exact absurd rfl ne
  | cons a as =>
    obtain ⟨t, r, er, _⟩ := strsAre_cons hx
    exact ⟨a, r, b, o, xs, n, t, e, ho, hc, hd, er⟩
theorem texts_sortable {a : Addr} {vs : List Value} {k : Value → List Str} (h0 : 0 < vs.length) (hp : ∀ v ∈ vs, IsTx s.heap v (k v) ∧ k v ≠ []) (ha : ∀ o, s.heap.get? a = some o → o.cls ≠ .type "tuple") : SortableO prog w A s a vs fun v u => llt (k v) (k u) := by
  intro h' keep
  have hp' : ∀ v ∈ vs, IsTx h' v (k v) ∧ k v ≠ [] := fun v hm => ⟨(hp v hm).1.keeps fun b o e c => keep b o (fun z => by subst z; exact ha o e c) e, (hp v hm).2⟩
  exact ⟨tuples' true, fun Q E hq => tps_kind h0 (fun v hm => (hp' v hm).1.tp (hp' v hm).2) hq, texts_cmp hp'⟩
end
section
variable {X : Cx}
theorem strsAre_vals : ∀ {k : List Str} {us : List Value}, Vals (k.map V.str) us → StrsAre us k
  | [], _, .nil => .nil
  | a :: k, _, .cons e r => by
    obtain ⟨t, rfl⟩ := e
    exact .cons a t (strsAre_vals r)
theorem inv_tx {pins : List (Addr × Obj)} {σ : L2.St} {H : Hp} {s : Shared} {b : Addr} {k : List Str} (I : Inv X pins σ H s) (h : SqT X.K H b (k.map V.str)) : IsTx s.heap (.ref b) k := by
  obtain ⟨its2, r2, ⟨o, ho, hc, n, hd⟩, _⟩ := I.tuple h
  exact ⟨b, o, _, n, rfl, ho, hc, hd, by simpa using strsAre_vals r2⟩
/-- sorted(xs), xs a list or a tuple of tuples of texts -/
def rSortLQ (K : PySem.W.Frag) : List V → Hp → VK → Prop := fun vs H Q => ∃ (a : Addr) (xs : List V) (k : V → List Str), vs = [V.ref a] ∧ (SqL K H a xs ∨ SqT K H a xs) ∧ (∀ x ∈ xs, ∃ t, x = V.ref t ∧ SqT K H t ((k x).map V.str) ∧ k x ≠ []) ∧
  ∀ ys p, ys.Perm xs → ys.Pairwise (fun x y => llt (k y) (k x) = false) → H p = none → Q (.ref p) (upd H p (.lst ys))
theorem cr_sortLQ : CallR X (.builtin "sorted") (rSortLQ X.K) := by
  intro pins s σ H vs us Q I r h
  obtain ⟨a, xs, k, rfl, hs, hx, q⟩ := h
  obtain ⟨its, rv, hl, hz⟩ : ∃ its : List Value, Vals xs its ∧ (s.heap.IsList a its.toArray ∨ s.heap.IsTuple a its.toArray) ∧ xs.length ≤ sizeLine := by
    rcases hs with hs | hs
    · obtain ⟨its, rv, pl, hz⟩ := I.list hs
      exact ⟨its, rv, .inl pl.isList, hz⟩
    · obtain ⟨its, rv, pl, hz⟩ := I.tuple hs
      exact ⟨its, rv, .inr (by first | exact pl | exact pl.isTuple), hz⟩
  rw [Vals.ref1 r]
  obtain ⟨e1, e2⟩ := refs_back rv fun x m => by
    obtain ⟨t, e, _⟩ := hx x m
    exact ⟨t, e⟩
  have hp : ∀ v ∈ its, IsTx s.heap v (k (backV v)) ∧ k (backV v) ≠ [] := fun v hv => by
    obtain ⟨t, rfl⟩ := e2 v hv
    have hm : V.ref t ∈ xs := by rw [e1]; exact List.mem_map.mpr ⟨_, hv, rfl⟩
    obtain ⟨t', e, ht, ne⟩ := hx _ hm
    cases e
    exact ⟨inv_tx I ht, ne⟩
  refine sorted_seq (swo_of swo_l fun u => k (backV u)) hl (by rw [← rv.length]; exact hz) (fun h2 h₁ a' ha' kk => texts_sortable (by omega) (fun v hv => ⟨(hp v hv).1.keeps fun b o e _ => (kk b o e).2, (hp v hv).2⟩) (noTup ha')) fun out h1 h2 => ?_
  have h3 : ∀ u ∈ out, ∃ a, u = Value.ref a := fun u hu => e2 u (h2.perm.mem_iff.mp hu)
  obtain ⟨ep, he'⟩ := PyProof.Rows.sortedAll_at s.heap its out.toArray
  have pm : (out.map backV).Perm xs := by
    rw [e1]
    exact h2.perm.map backV
  refine ⟨.ref _, upd H (s.heap.objs.size + 1) (.lst (out.map backV)), I.laid (t' := s.toks) (fun _ _ => PyProof.Rows.sortedAll_old) (Nat.le_succ _) ⟨by rw [pm.length_eq]; exact hz, out, ep, vals_back h3, he'⟩, rfl, q _ _ pm (List.pairwise_map.mpr h1) (I.hok.fresh (Nat.le_succ _))⟩
end
end MyS

set_option Elab.async false
set_option linter.all false
set_option maxRecDepth 100000
set_option maxHeartbeats 2000000
/-! Sets of tuples of texts, held in the state: set(xs) of a list or a tuple, sorted(set). -/
namespace MyS
open PySem PySem.Spec PyProof.Rows L2
open SrtO hiding Str
/-! ### the set in the state -/
/-- the set at a, without what its tuples are -/
structure PSet0 (P : Program) (w : World) (h : Heap) (a : Addr) (L : List (Addr × List Str)) : Prop where
  ex : ∃ (es : Array (Int × Value)) (ep : Nat) (t : SetTable), (∃ o, h.get? a = some o ∧ o.ExactSet ∧ o.data = .set es ep t) ∧ es.toList = L.map (rowP P w) ∧ TabOk t (L.map fun p => hashP P w p.2) ∧ (L.map (·.2)).Nodup ∧
    L.length * 5 < t.mask * 3 ∧ L.length < 64 ∧ (w.params.followText "set-order" = true ∨ t.led = true)
def PSetO (P : Program) (w : World) (a : Addr) (L : List (Addr × List Str)) : HO := .ext fun h => PSet0 P w h a L
theorem PSet.p0 {P : Program} {w : World} {h : Heap} {a : Addr} {L : List (Addr × List Str)} {es : Array (Int × Value)} {ep : Nat} {t : SetTable} (R : PSet P w h a L es ep t) : PSet0 P w h a L := ⟨es, ep, t, R.ob, R.rows, R.tab, R.nd, R.room, R.few, R.led⟩
theorem PSet0.full {P : Program} {w : World} {h : Heap} {a : Addr} {L : List (Addr × List Str)} (R : PSet0 P w h a L) (tup : ∀ p ∈ L, IsP P w h p.2 p.1) : ∃ es ep t, PSet P w h a L es ep t := by
  obtain ⟨es, ep, t, h1, h2, h3, h4, h5, h6, h7⟩ := R.ex
  exact ⟨es, ep, t, h1, h2, h3, h4, tup, h5, h6, h7⟩
theorem pset_new {P : Program} {w : World} {H : Hp} {h : Heap} {a : Addr} {L : List (Addr × List Str)} (R : PSet0 P w h a L) : ObjOk P w H h a (PSetO P w a L) := by
  have ⟨es, ep, t, ⟨o, ho, r⟩, q⟩ := R.ex
  refine ⟨R, ⟨o, ho⟩, fun h1 h2 p k => ?_⟩
  have ⟨es', ep', t', ⟨o', ho', r'⟩, q'⟩ := PSet0.ex p
  exact ⟨es', ep', t', ⟨o', k o' ho', r'⟩, q'⟩
theorem pset_fresh {P : Program} {w : World} {h : Heap} {a : Addr} (ho : h.get? a = some (freshSet w)) : PSet0 P w h a [] := by
  obtain ⟨L, es, ep, t, R, _, hM, hc⟩ := JP.zero (P := P) (ks := []) (h0 := h) ho
  have e : L = [] := by
    have := hc.le
    simpa using this
  rw [e] at R
  exact R.p0
/-! ### sorted(set) -/
section
variable {P : Program} {w : World} {A : Around} {E : Value → Shared → Prop} {s : Shared}
/-- the tuple at an address of the set -/
def keyAt (L : List (Addr × List Str)) : Value → Addr × List Str
  | .ref b => (L.find? fun p => p.1 == b).getD (b, [])
  | _ => (0, [])
theorem keyAt_of {L : List (Addr × List Str)} (one : ∀ q ∈ L, ∀ r ∈ L, q.1 = r.1 → q = r) {p : Addr × List Str} (hp : p ∈ L) : keyAt L (.ref p.1) = p := by
  show (L.find? fun q => q.1 == p.1).getD (p.1, []) = p
  cases c : L.find? (fun q => q.1 == p.1) with
  | none =>
    have := List.find?_eq_none.mp c p hp
    simp at this
  | some r =>
    have h1 := List.find?_some c
    have h2 := List.mem_of_find?_eq_some c
    show r = p
    exact one r h2 p hp (by simpa using h1)
theorem IsP.tx {h : Heap} {k : List Str} {b : Addr} (x : IsP P w h k b) : IsTx h (.ref b) k := by
  obtain ⟨o, items, n, ho, hc, hd, it⟩ := x
  refine ⟨b, o, items, n, rfl, ho, hc, hd, ?_⟩
  have e : ∀ {k : List Str} {vs : List Value}, ItemsAre (PySem.strKind P w) k vs → StrsAre vs k := by
    intro k vs h
    induction h with
    | nil => exact .nil
    | @cons k0 v' ks vs h1 _ ih =>
      obtain ⟨x, t, rfl⟩ := strs_of (P := P) (w := w) (.cons h1 .nil) v' List.mem_cons_self
      have ex : x = k0 := (PySem.strKind P w).inj (.str x t) x k0 (strKind_is P w x t) h1
      subst ex
      exact .cons _ t ih
  exact e it
theorem sorted_setP {a : Addr} {L : List (Addr × List Str)} {es : Array (Int × Value)} {ep : Nat} {t : SetTable} {Q : Value → Shared → Prop} (R : PSet P w s.heap a L es ep t) (hh : A.handled = none) (ne : ∀ p ∈ L, p.2 ≠ [])
    (hQ : ∀ s' p (out : Array Value) (c : Nat) (L' : List (Addr × List Str)), (∀ b o, s.heap.get? b = some o → s'.heap.get? b = some o) → s'.gens = s.gens → s'.os = s.os → s.heap.objs.size ≤ p →
      s'.heap.get? p = some (seqObj "list" out c) → out.toList = L'.map (fun q => Value.ref q.1) → L'.Perm L → L'.Pairwise (fun q r => llt r.2 q.2 = false) → Q (.ref p) s') :
    wpAny (model P w) A (call (.builtin "sorted") [.ref a]) Q E s := by
  obtain ⟨o, ho, hex, hd⟩ := R.ob
  have hsz := R.size
  have hfew := R.few
  refine Calls.call_function_entry kind_sorted plain_sorted entry_sorted (args_sorted1 _) ?_
  unfold Builtin.«sorted»
  refine wpAny_bind (m := checkCount "sorted" 1 1 _) (wpAny_pure ?_)
  refine wpAny_bind (collect_set (A := A.in1) hh ⟨o, ho, hex.1, hd⟩ R.fits (by unfold scanBound; omega) R.tab.ris R.led fun s1 vs k1 hz g1 o1 pm => ?_)
  have rows : es.toList.map (·.2) = L.map fun q => Value.ref q.1 := by
    rw [R.rows, List.map_map]
    rfl
  rw [rows] at pm
  have one : ∀ q ∈ L, ∀ r ∈ L, q.1 = r.1 → q = r := fun q hq r hr e => by
    have a1 := R.tup q hq
    have a2 := R.tup r hr
    rw [e] at a1
    exact Prod.ext e (a1.inj a2)
  have at_ : ∀ v ∈ vs, ∃ p ∈ L, v = .ref p.1 := fun v hv => by
    obtain ⟨p, hp, e⟩ := List.mem_map.mp (pm.mem_iff.mp hv)
    exact ⟨p, hp, e.symm⟩
  have lv : vs.length < 64 := by rw [pm.length_eq, List.length_map]; exact hfew
  refine wpAny_bind (wpAny_newList ?_ (by rw [sizeLine_eq]; omega))
  have hoL : (s1.heap.push (seqObj "list" vs.toArray 0)).get? s1.heap.objs.size = some (seqObj "list" vs.toArray 0) := Heap.get?_push_size _ rfl
  have tx : ∀ v ∈ vs, IsTx (s1.heap.push (seqObj "list" vs.toArray 0)) v (keyAt L v).2 ∧ (keyAt L v).2 ≠ [] := fun v hv => by
    obtain ⟨p, hp, rfl⟩ := at_ v hv
    rw [keyAt_of one hp]
    exact ⟨((R.tup p hp).tx).keeps fun b o e _ => Heap.get?_push_of_some _ (k1 b o e), ne p hp⟩
  refine wpAny_bind (wpAny_holding (wpAny_call_entry slot_list_sort ⟨_, hoL, rfl⟩ entry_list_sort (list_sort_ord (s := { s1 with heap := s1.heap.push (seqObj "list" vs.toArray 0) }) (swo_of swo_l fun u => (keyAt L u).2) hoL (by rw [sizeLine_eq]; omega) (fun h2 => texts_sortable (by omega) tx (noTup hoL)) fun out h1 h2 => ⟨_, rfl, ?_⟩) (args_list_sort _)))
  obtain ⟨c, hc⟩ := sortedHeap_at (vs := vs) (out := out.toArray) hoL
  have po : out.Perm (L.map fun q => Value.ref q.1) := h2.perm.trans pm
  have eo : out = (out.map (keyAt L)).map (fun q => Value.ref q.1) := by
    rw [List.map_map]
    have : ∀ v ∈ out, ((fun q : Addr × List Str => Value.ref q.1) ∘ keyAt L) v = v := fun v hv => by
      obtain ⟨p, hp, e⟩ := List.mem_map.mp (po.mem_iff.mp hv)
      subst e
      show Value.ref (keyAt L (.ref p.1)).1 = .ref p.1
      rw [keyAt_of one hp]
    exact ((List.map_congr_left this).trans (List.map_id' _)).symm
  have pL : (out.map (keyAt L)).Perm L := by
    have q := po.map (keyAt L)
    rw [List.map_map] at q
    have : ∀ p ∈ L, (keyAt L ∘ fun q : Addr × List Str => Value.ref q.1) p = p := fun p hp => keyAt_of one hp
    rw [(List.map_congr_left this).trans (List.map_id' _)] at q
    exact q
  refine wpAny_pure ⟨_, rfl, hQ _ s1.heap.objs.size out.toArray c (out.map (keyAt L)) (fun b u e => ?_) g1 o1 hz hc (by simpa using eo) pL (List.pairwise_map.mpr h1)⟩
  have q := k1 b u e
  have lt := Heap.lt_size q
  show (sortedHeap (s1.heap.push (seqObj "list" vs.toArray 0)) s1.heap.objs.size vs out.toArray).get? b = some u
  rw [sortedHeap_old (Nat.ne_of_lt lt) (by rw [size_push']; exact Nat.lt_succ_of_lt lt)]
  exact Heap.get?_push_of_some _ q
end
/-- the set at S behind the first i tuples, with where they stand -/
def JW (P : Program) (w : World) (S : Addr) (ks : List (Addr × List Str)) (i : Nat) (h : Heap) : Prop :=
  ∃ L es ep t, PSet P w h S L es ep t ∧ (∀ p ∈ L, p ∈ ks) ∧ (∀ k, k ∈ L.map (·.2) ↔ k ∈ (ks.take i).map (·.2)) ∧ L.length ≤ i
section
variable {P : Program} {w : World} {A : Around} {E : Value → Shared → Prop} {s : Shared}
theorem JW.adds {S : Addr} {ks : List (Addr × List Str)} {h0 : Heap} {i : Nat} {p0 : Addr × List Str} (hx : ks[i]? = some p0) (hb : ks.length < 64) (ht : IsP P w h0 p0.2 p0.1) (hu : A.units < cLine) : Adds P w A S h0 (JW P w S ks) i (.ref p0.1) := by
  obtain ⟨x, k⟩ := p0
  intro z Q E hJ hk hQ
  obtain ⟨L, es, ep, t, R, sub, hM, hl⟩ := hJ
  have hi : i < ks.length := (List.getElem?_eq_some_iff.mp hx).1
  have hz : IsP P w z.heap k x := ht.keep fun o e => hk x o e
  unfold setAdd
  refine wpAny_holding ?_
  refine wpAny_bind (wpAny_pyHash_tuple hu hz ?_)
  refine addP (s := { z with toks := z.toks + (k.length + 1) }) R hz hu (by omega) fun b h' L' es' ep' t' sb R' c1 c2 => ?_
  have et : ks.take (i + 1) = ks.take i ++ [(x, k)] := by rw [List.take_succ, hx]; rfl
  refine hQ _ h' _ (Nat.le_add_right _ _) sb ⟨L', es', ep', t', R', ?_⟩
  rw [et, List.map_append]
  by_cases c : k ∈ L.map (·.2)
  · have e := c1 c
    subst e
    refine ⟨sub, fun q => ?_, by omega⟩
    rw [List.mem_append, hM q]
    exact ⟨.inl, fun h => h.elim id fun e => by rw [List.mem_singleton.mp e]; exact (hM k).mp c⟩
  · have pm := c2 c
    refine ⟨fun p hp => ?_, fun q => ?_, by rw [pm.length_eq, List.length_cons]; omega⟩
    · rcases List.mem_cons.mp (pm.mem_iff.mp hp) with e | hp
      · rw [e]; exact List.mem_of_getElem? hx
      · exact sub p hp
    · rw [(pm.map (·.2)).mem_iff, List.map_cons, List.mem_cons, List.mem_append, hM q]
      exact ⟨fun h => h.elim (fun e => .inr (by rw [e]; exact List.mem_cons_self)) .inl, fun h => h.elim .inr fun e => .inl (List.mem_singleton.mp e)⟩
theorem JW.keeps {S : Addr} {ks : List (Addr × List Str)} {h0 : Heap} (ht : ∀ p ∈ ks, IsP P w h0 p.2 p.1) : KeepsJ S h0 (JW P w S ks) := by
  rintro i h h' ⟨L, es, ep, t, R, sub, r⟩ k1 k2
  obtain ⟨o, ho, r1⟩ := R.ob
  exact ⟨L, es, ep, t, ⟨⟨o, k1 o ho, r1⟩, R.rows, R.tab, R.nd, fun p hp => (ht p (sub p hp)).keep fun o e => k2 p.1 o e, R.room, R.few, R.led⟩, sub, r⟩
theorem JW.zero {S : Addr} {ks : List (Addr × List Str)} {h : Heap} (ho : h.get? S = some (freshSet w)) : JW P w S ks 0 h := by
  obtain ⟨L, es, ep, t, R, _, hM, hc⟩ := JP.zero (P := P) (ks := []) (h0 := h) ho
  have e : L = [] := by
    have := hc.le
    simpa using this
  subst e
  exact ⟨[], es, ep, t, R, fun p hp => (by cases hp), fun k => by simp, Nat.le_refl _⟩
end
section
variable {X : Cx}
/-- set(xs), xs a list or a tuple of tuples of texts -/
def rSetOfP (K : PySem.W.Frag) (P : Program) (w : World) : List V → Hp → VK → Prop := fun xs H Q => ∃ (l : Addr) (ks : List (Addr × List Str)), xs = [V.ref l] ∧ (SqL K H l (ks.map fun p => V.ref p.1) ∨ SqT K H l (ks.map fun p => V.ref p.1)) ∧ (∀ p ∈ ks, SqT K H p.1 (p.2.map V.str)) ∧ ks.length < 64 ∧
  ∀ a L, H a = none → (∀ p ∈ L, p ∈ ks) → (∀ k, k ∈ L.map (·.2) ↔ k ∈ ks.map (·.2)) → (L.map (·.2)).Nodup → Q (.ref a) (upd H a (PSetO P w a L))
/-- sorted(set) -/
def rSortedP (K : PySem.W.Frag) (P : Program) (w : World) : List V → Hp → VK → Prop := fun vs H Q => ∃ (a : Addr) (L : List (Addr × List Str)), vs = [V.ref a] ∧ H a = some (PSetO P w a L) ∧ (∀ p ∈ L, SqT K H p.1 (p.2.map V.str) ∧ p.2 ≠ []) ∧
  ∀ (L' : List (Addr × List Str)) (p : Addr), L'.Perm L → (L'.map (·.2)).Nodup → L'.length < 64 → L'.Pairwise (fun q r => llt r.2 q.2 = false) → H p = none → Q (.ref p) (upd H p (.lst (L'.map fun q => V.ref q.1)))
theorem refs_vals : ∀ (ks : List (Addr × List Str)), Vals (ks.map fun p => V.ref p.1) (ks.map fun p => Value.ref p.1)
  | [] => .nil
  | _ :: ks => .cons rfl (refs_vals ks)
theorem cr_sortedP2 (hc : X.calm = true) : CallR X (.builtin "sorted") (rSortedP X.K X.prog X.w) := by
  intro pins s σ H vs us Q I r h
  obtain ⟨a, L, rfl, ha, hk, q⟩ := h
  have R0 : PSet0 X.prog X.w s.heap a L := (I.hok a _ ha).1
  obtain ⟨es, ep, t, R⟩ := R0.full fun p hp => Inv_isP I (hk p hp).1
  rw [Vals.ref1 r]
  refine sorted_setP R (I.ok.hd hc) (fun p hp => (hk p hp).2) fun s' p out c L' k g o hp hg hout pm pw => ?_
  have hfew : L'.length < 64 := by rw [pm.length_eq]; exact R.few
  have hlen : (L'.map fun q => V.ref q.1).length ≤ sizeLine := by rw [List.length_map, sizeLine_eq]; omega
  have hn : H p = none := I.hok.fresh hp
  have hv : Vals (L'.map fun q => V.ref q.1) out.toList := by rw [hout]; exact refs_vals L'
  have J : Inv X pins σ (upd H p (.lst (L'.map fun q => V.ref q.1))) { s with heap := s'.heap, gens := s'.gens, drawn := s'.drawn, toks := s'.toks } :=
    I.call (ch := []) (Un.laid k hp hn) (I.hok.laid k hp ⟨hlen, out.toList, c, hv, hg⟩) (by rw [g]; exact I.bare) (fun _ z => nomatch z)
  have e : s' = { s with heap := s'.heap, gens := s'.gens, drawn := s'.drawn, toks := s'.toks } := by
    cases s'
    cases s
    cases o
    rfl
  rw [e]
  exact ⟨.ref p, _, J, rfl, q L' p pm ((pm.map (·.2)).nodup_iff.mpr R.nd) hfew pw hn⟩
theorem cr_setOfP (hc : X.calm = true) (hu : X.A.units + 64 < cLine) : CallR X (.type "set") (rSetOfP X.K X.prog X.w) := by
  intro pins s1 σ H1 xs us Q I1 r h
  obtain ⟨l, ks, rfl, hq, ht, h1, q1⟩ := h
  rw [Vals.ref1 r]
  have hn : H1 s1.heap.objs.size = none := I1.hok.fresh (Nat.le_refl _)
  have go : ∀ (its : List Value), Vals (ks.map fun p => V.ref p.1) its → (s1.heap.IsList l its.toArray ∨ s1.heap.IsTuple l its.toArray) → wpAny (model X.prog X.w) X.A (call (.type "set") [.ref l]) (EP X pins σ Q) X.xe s1 := fun its r hl => by
    have hits := refsP r
    have hsz : its.toArray.size = ks.length := by rw [List.size_toArray, hits, List.length_map]
    have isp : ∀ p ∈ ks, IsP X.prog X.w s1.heap p.2 p.1 := fun p hp => Inv_isP I1 (ht p hp)
    refine call_setJ (J := JW X.prog X.w s1.heap.objs.size ks) (I1.ok.hd hc) hl (fun h ho => JW.zero ho) (JW.keeps isp) (fun h hJ => ?_) (fun A' hA i v hv => ?_) fun h' tk hJ hk _ => ?_
    · obtain ⟨L, es, ep, t, R, _⟩ := hJ
      obtain ⟨o, ho, _⟩ := R.ob
      exact ⟨o, ho⟩
    · have e1 : (ks.map fun p => Value.ref p.1)[i]? = some v := by rw [← hits]; simpa using hv
      rw [List.getElem?_map] at e1
      obtain ⟨p, hp, rfl⟩ := Option.map_eq_some_iff.mp e1
      exact JW.adds hp h1 (isp p (List.mem_of_getElem? hp)) (by omega)
    · rw [hsz] at hJ
      obtain ⟨L, es, ep, t, R, sub, hM, _⟩ := hJ
      rw [List.take_length] at hM
      exact ⟨.ref s1.heap.objs.size, upd H1 s1.heap.objs.size (PSetO X.prog X.w s1.heap.objs.size L), I1.laid (t' := tk) hk (Nat.le_refl _) (pset_new R.p0), rfl, q1 _ L hn sub hM R.nd⟩
  rcases hq with hq | hq
  · obtain ⟨its, r, pl, hz⟩ := I1.list hq
    exact go its r (.inl pl.isList)
  · obtain ⟨its, r, pl, hz⟩ := I1.tuple hq
    exact go its r (.inr (by first | exact pl | exact pl.isTuple))
end
end MyS

set_option Elab.async false
set_option linter.all false
set_option maxRecDepth 100000
set_option maxHeartbeats 2000000
/-! {e for a in .. for b in ..}, e a tuple of texts: a set comprehension with two clauses -/
namespace MyC
open PySem PySem.Spec PyProof.Rows L2 MyS
section
variable {X : Cx}
/-- set.add of a tuple of texts -/
theorem addS_ok {pins : List (Addr × Obj)} {σ : L2.St} {H : Hp} {s : Shared} {E : Value → Shared → Prop} {D b : Addr} {L : List (Addr × List Str)} {k : List Str} {Q : Value → Shared → Prop} (I : Inv X pins σ H s) (hu : X.A.units + 64 < cLine) (hD : H D = some (PSetO X.prog X.w D L))
    (hL : ∀ p ∈ L, SqT X.K H p.1 (p.2.map V.str)) (hb : SqT X.K H b (k.map V.str)) (few : L.length + 1 < 64) (h : ∀ L' s', (k ∈ L.map (·.2) → L' = L) → (k ∉ L.map (·.2) → L'.Perm ((b, k) :: L)) → Inv X pins σ (L2.upd H D (PSetO X.prog X.w D L')) s' → Q .none s') :
    wpAny (model X.prog X.w) X.A (call (.builtin "set.add") [.ref D, .ref b]) Q E s := by
  obtain ⟨es, ep, t, R⟩ := PSet0.full (I.hok D _ hD).1 fun p hp => Inv_isP I (hL p hp)
  obtain ⟨o, ho, hex, hd⟩ := R.ob
  have ty : s.TypeIs (.ref D) "set" := ⟨o, ho, hex.1⟩
  have hz := Inv_isP I hb
  refine wpAny_call_entry PySem.F.slot_set_add ty PySem.F.entry_set_add ?_ (PySem.F.args_set_add_2 _ _)
  unfold Builtin.«set.add» Builtin.Frozenset.oneOther
  simp only [List.isEmpty_nil, bind_assoc]
  unfold Builtin.Frozenset.addrOf setAdd
  refine wpAny_bind (wpAny_pure ?_)
  try dsimp only
  refine wpAny_bind (wpAny_pure ?_)
  try dsimp only
  refine wpAny_bind ?_
  refine wpAny_holding ?_
  have hu1 : X.A.in1.units < cLine := by have e : X.A.in1.units = X.A.units + 1 := rfl; omega
  refine wpAny_bind (wpAny_pyHash_tuple hu1 hz ?_)
  refine addP (s := { s with toks := s.toks + (k.length + 1) }) R hz hu1 few fun bb h' L' es' ep' t' sb R' c1 c2 => ?_
  show wpAny _ _ (ret Value.none) _ _ _
  refine wpAny_pure ⟨_, rfl, h L' _ c1 c2 ?_⟩
  obtain ⟨o', ho', _⟩ := R'.ob
  exact I.write (e := D) (t' := s.toks + (k.length + 1)) (by rw [hD]; trivial) (.inl rfl) (fun c u hc hu2 => (sb.2 c hc).trans hu2) ⟨o', ho'⟩ (pset_new R'.p0)
end
abbrev S2 (el ta ia tb ib : Expr) (fa fb : List Expr) (sc : Scope) (ps : Pos) : Expr := .SetComp el [⟨ta, ia, fa, 0⟩, ⟨tb, ib, fb, 0⟩] sc ps
abbrev Nb (pg : Program) (w : World) (A : Around) (en : Env) (R : Result → Shared → Prop) : Value → Shared → Prop := notedBy (model pg w) A en fun x s' => R (.error x) s'
abbrev Ts (en : Env) (l : List Expr) : Sem Bool := forIn l true fun c r => if r = true then do let ok ← isTrue c en (eval c en); pure (ForInStep.yield ok) else pure (ForInStep.yield r)
section
variable {pg : Program} {w : World} {A : Around} {R : Result → Shared → Prop} {s : Shared} {el ta ia tb ib : Expr} {fa fb : List Expr} {sc : Scope} {ps : Pos} {it acc : Value} {en : Env}
theorem turn_a : compTurn (S2 el ta ia tb ib fa fb sc ps) 0 it acc en = (do
      standAt ia.pos
      match ← pyNext it with
      | none => pure (.done .next)
      | some v =>
        letOwnedTupleGo ta it v
        assign ta en v
        let mut ok := true
        for c in fa do
          if ok then ok ← isTrue c en (eval c en)
        if ok then
          let x ← eval ib en
          standAt ib.pos
          let x ← foldedSetIterable ib en x
          let _ ← runOwn (.compStart (S2 el ta ia tb ib fa fb sc ps) 1 (← holding [x] (pyIter x)) acc en) en
        again (.compLoop (S2 el ta ia tb ib fa fb sc ps) 0 it acc en)) := by rfl
theorem turn_b {D : Addr} : compTurn (S2 el ta ia tb ib fa fb sc ps) 1 it (.ref D) en = (do
      standAt ib.pos
      match ← pyNext it with
      | none => pure (.done .next)
      | some v =>
        letOwnedTupleGo tb it v
        assign tb en v
        let mut ok := true
        for c in fb do
          if ok then ok ← isTrue c en (eval c en)
        if ok then
          (do let v ← eval el en; standAt el.pos; let _ ← call (.builtin "set.add") [.ref D, v])
        again (.compLoop (S2 el ta ia tb ib fa fb sc ps) 1 it (.ref D) en)) := by rfl
/-- the first clause's rounds -/
theorem loop_a (hf : ∀ x, foldedSetIterable ib en x = pure x) (W : Nat → Shared → Prop)
    (turn : ∀ n s, W n s → wpAny (model pg w) A (pyNext it) (fun r s1 => match r with
      | none => R (.ok .next) s1
      | some v => wpAny (model pg w) A (letOwnedTupleGo ta it v) (fun _ s2 => wpAny (model pg w) A (assign ta en v) (fun _ s3 =>
          wpAny (model pg w) A (Ts en fa) (fun b s4 => if b = true then wpAny (model pg w) A (eval ib en) (fun x s5 => wpAny (model pg w) A (pyIter x) (fun j s6 =>
              codeAny (model pg w) A (.compStart (S2 el ta ia tb ib fa fb sc ps) 1 j acc en) (fun r s7 => match r with
                | .ok _ => ∃ m, m < n ∧ W m s7
                | .error _ => False) s6) (Nb pg w A en R) s5) (Nb pg w A en R) s4
            else ∃ m, m < n ∧ W m s4) (Nb pg w A en R) s3) (Nb pg w A en R) s2) (Nb pg w A en R) s1) (Nb pg w A en R) s)
    (n : Nat) (h : W n s) : codeAny (model pg w) A (.compLoop (S2 el ta ia tb ib fa fb sc ps) 0 it acc en) R s := by
  refine codeAny_loop rfl W (fun n s hW => ?_) n h
  show wpAny _ A ((compTurn (S2 el ta ia tb ib fa fb sc ps) 0 it acc en).onRaise (fun x => do noteFrame x en; theTreesLotGoes x)) _ _ s
  refine wpAny_noted ?_
  rw [turn_a]
  refine wpAny_bind (wpAny_standAt (wpAny_bind (wpAny_mono (turn n s hW) (fun r s1 q1 => ?_) fun _ _ z => z)))
  cases r with
  | none => exact wpAny_pure q1
  | some v =>
    refine wpAny_bind (wpAny_mono q1 (fun _ s2 q2 => ?_) fun _ _ z => z)
    refine wpAny_bind (wpAny_mono q2 (fun _ s3 q3 => wpAny_bind (wpAny_mono q3 (fun b s4 q4 => ?_) fun _ _ z => z)) fun _ _ z => z)
    cases b with
    | false => exact wpAny_pure ⟨rfl, q4⟩
    | true =>
      refine wpAny_bind (wpAny_mono q4 (fun x s5 q5 => ?_) fun _ _ z => z)
      refine wpAny_bind (wpAny_standAt (wpAny_bind (wpAny_of_eq (hf x) (wpAny_bind (wpAny_holding (wpAny_mono q5 (fun j s6 q6 => ?_) fun _ _ z => z))))))
      refine wpAny_bind (wpAny_runOwn ?_)
      rw [Around.mark_none]
      refine codeAny_mono q6 fun r s7 q7 => ?_
      cases r with
      | error e => exact q7.elim
      | ok f => first | exact wpAny_pure ⟨rfl, q7⟩ | exact wpAny_bind (wpAny_pure (wpAny_pure ⟨rfl, q7⟩))
/-- the second clause's rounds -/
theorem loop_b {D : Addr} (W : Nat → Shared → Prop)
    (turn : ∀ n s, W n s → wpAny (model pg w) A (pyNext it) (fun r s1 => match r with
      | none => R (.ok .next) s1
      | some v => wpAny (model pg w) A (letOwnedTupleGo tb it v) (fun _ s2 => wpAny (model pg w) A (assign tb en v) (fun _ s3 =>
          wpAny (model pg w) A (Ts en fb) (fun b s4 => if b = true then wpAny (model pg w) A (eval el en) (fun y s5 =>
              wpAny (model pg w) A (call (.builtin "set.add") [.ref D, y]) (fun _ s7 => ∃ m, m < n ∧ W m s7) (Nb pg w A en R) s5) (Nb pg w A en R) s4
            else ∃ m, m < n ∧ W m s4) (Nb pg w A en R) s3) (Nb pg w A en R) s2) (Nb pg w A en R) s1) (Nb pg w A en R) s)
    (n : Nat) (h : W n s) : codeAny (model pg w) A (.compLoop (S2 el ta ia tb ib fa fb sc ps) 1 it (.ref D) en) R s := by
  refine codeAny_loop rfl W (fun n s hW => ?_) n h
  show wpAny _ A ((compTurn (S2 el ta ia tb ib fa fb sc ps) 1 it (.ref D) en).onRaise (fun x => do noteFrame x en; theTreesLotGoes x)) _ _ s
  refine wpAny_noted ?_
  rw [turn_b]
  refine wpAny_bind (wpAny_standAt (wpAny_bind (wpAny_mono (turn n s hW) (fun r s1 q1 => ?_) fun _ _ z => z)))
  cases r with
  | none => exact wpAny_pure q1
  | some v =>
    refine wpAny_bind (wpAny_mono q1 (fun _ s2 q2 => ?_) fun _ _ z => z)
    refine wpAny_bind (wpAny_mono q2 (fun _ s3 q3 => wpAny_bind (wpAny_mono q3 (fun b s4 q4 => ?_) fun _ _ z => z)) fun _ _ z => z)
    cases b with
    | false => exact wpAny_pure ⟨rfl, q4⟩
    | true => exact wpAny_bind (wpAny_bind (wpAny_mono q4 (fun y s5 q5 => wpAny_bind (wpAny_standAt (wpAny_bind (wpAny_mono q5 (fun _ s7 q7 => wpAny_pure (wpAny_pure ⟨rfl, q7⟩)) fun _ _ u => u)))) fun _ _ u => u))
/-- the second clause begins -/
theorem start_b (h0 : codeAny (model pg w) A (.compLoop (S2 el ta ia tb ib fa fb sc ps) 1 it acc en) R s)
    (h : wpAny (model pg w) A (pyIter it) (fun j s1 => codeAny (model pg w) A (.compLoop (S2 el ta ia tb ib fa fb sc ps) 1 j acc en) R s1) (Nb pg w A en R) s) :
    codeAny (model pg w) A (.compStart (S2 el ta ia tb ib fa fb sc ps) 1 it acc en) R s := by
  refine codeAny_of_tree ?_
  show wpAny _ _ ((compStart (S2 el ta ia tb ib fa fb sc ps) 1 it acc en).onRaise (fun x => do noteFrame x en; standAt theWindowsPlace)) _ _ s
  refine wpAny_notedAt ?_
  unfold compStart
  show wpAny _ _ (ask >>= _) _ _ s
  refine wpAny_bind (wpAny_askSetting (wpAny_ite ?_))
  split
  · first | exact wpAny_bind (wpAny_pure (wpAny_pure ⟨rfl, h0⟩)) | exact wpAny_pure ⟨rfl, h0⟩
  · first
      | exact wpAny_bind (wpAny_rule (wpAny_bind (wpAny_standAt (wpAny_bind (wpAny_mono h (fun j s1 q => wpAny_pure (And.intro rfl q)) fun _ _ z => z)))))
      | (refine wpAny_bind (wpAny_rule ?_); show wpAny _ _ (standAt ib.pos >>= _) _ _ s; exact wpAny_bind (wpAny_standAt (wpAny_bind (wpAny_mono h (fun j s1 q => wpAny_pure (And.intro rfl q)) fun _ _ z => z))))
end
section
variable {X : Cx}
/-- in every block of the comprehension's scope -/
abbrev Bk (X : Cx) (sc : Scope) (T : Cx → Prop) : Prop := ∀ (s : Shared) (H : Hp) (a : Addr) (cl : List (Str × Addr)) (fp : List Addr), T (X.blk s H sc (compEnvC sc cl a X.env) fp)
/-- what {k: v for ta in ia if .. for tb in ib if ..} asks; vb: the names of the second target -/
def tS2 (K : PySem.W.Frag) (P : Program) (w : World) (wa : TI) (ga : TG) (ca : TT) (wb : TI) (gb : TG) (cb : TT) (te : TE) (vs vb : List Nat) : TE := fun σ H Q => wa σ H fun J H1 => ∀ D, H1 D = none → ∃ W : Nat → Nat → Hp → Prop, (∃ m, W 0 m (L2.upd H1 D (PSetO P w D []))) ∧ ∀ i m H, W i m H →
  (J.stop i H ∧ Q (.ref D) H) ∨ (J.go i H ∧ ∃ N : Hp → Prop, (∀ H', N H' → ∃ l, l < m ∧ W (i + 1) l H') ∧ ∀ x H', J.yld i H x H' → ga x (wipe σ vs) H' fun σ2 H2 => wipe σ2 vs = wipe σ vs ∧ ca σ2 H2 fun b H3 =>
    if b = true then wb σ2 H3 fun J1 H4 => ∃ W1 : Nat → Nat → Hp → Prop, (∃ m, W1 0 m H4) ∧ ∀ j k H, W1 j k H →
      (J1.stop j H ∧ N H) ∨ (J1.go j H ∧ ∃ N1 : Hp → Prop, (∀ H', N1 H' → ∃ l, l < k ∧ W1 (j + 1) l H') ∧ ∀ x H', J1.yld j H x H' → gb x (wipe σ2 vb) H' fun σ3 H5 => wipe σ3 vb = wipe σ2 vb ∧ cb σ3 H5 fun b H6 =>
        if b = true then te σ3 H6 fun y H7 => ∃ (b : Addr) (k : List Str) (L : List (Addr × List Str)), y = .ref b ∧ SqT K H7 b (k.map V.str) ∧ H7 D = some (PSetO P w D L) ∧ (∀ p ∈ L, SqT K H7 p.1 (p.2.map V.str)) ∧ L.length + 1 < 64 ∧ ∀ L', (k ∈ L.map (·.2) → L' = L) → (k ∉ L.map (·.2) → L'.Perm ((b, k) :: L)) → N1 (L2.upd H7 D (PSetO P w D L')) else N1 H6)
    else N H3)
theorem s2_core {pins : List (Addr × Obj)} {s : Shared} {σ : L2.St} {H : Hp} {Q : VK} {el ta ia tb ib : Expr} {fa fb : List Expr} {sc : Scope} {own : List (Str × Nat)} {vb : List Nat} {ps ps' : Pos} {wa wb : TI} {ga gb : TG} {ca cb : TT} {te : TE} {use : Option (Value → Sem Unit)} {Qf : Value → Shared → Prop}
    (calm : X.calm = true) (hu : X.A.units + 64 < cLine) (nd : X.N.Nodup) (I : Inv X pins σ H s) (ha : PI X ta ia wa) (bo : BlkOk X.N X.env.scope sc own) (sub : ∀ i ∈ vb, i ∈ own.map (·.2))
    (pa : Bk X sc fun Y => PG Y ta ga) (qa : Bk X sc fun Y => PTs Y fa ca) (hb : Bk X sc fun Y => PI Y tb ib wb) (pb : Bk X sc fun Y => PG Y tb gb) (qb : Bk X sc fun Y => PTs Y fb cb) (he : Bk X sc fun Y => PE Y el te)
    (fs : ∀ x, foldedSetIterable ia X.env x = pure x) (fs1 : ∀ en x, foldedSetIterable ib en x = pure x) (h : tS2 X.K X.prog X.w wa ga ca wb gb cb te (own.map (·.2)) vb σ H Q)
    (hR : ∀ D C s' m H', Inv X pins σ H' s' → Q (.ref D) H' → s'.heap.Ns C m → FpOk X pins H' C → compPost (model X.prog X.w) X.A X.xe use Qf (.ref D) C (.ok .next) s') :
    wpAny (model X.prog X.w) X.A (comprehension (S2 el ta ia tb ib fa fb sc ps) sc X.env ps' (newSet (.type "set")) false (eval ia X.env) use) Qf X.xe s := by
  refine wpAny_comprehension_free (use := use) rfl fs (closure_ok fun y hy e => (bo.free y hy e).elim (fun k => I.ok.has _ (.inl k)) (fun k => I.ok.has _ (.inr k))) bo.kind (fun y hy e => by rw [bo.uniq y hy, e])
    (thn (ha.run pins s σ H _ I h) fun xv s1 hx => thn hx fun itv s2 h2 => ?_)
  obtain ⟨it, fp, tn, J, H2, rfl, I2, T, t2, f2, q⟩ := h2
  refine PpSet.newSet_ok (newEnv_comp ?_)
  generalize eD : s2.heap.objs.size = D
  have nD : H2 D = none := I2.hok.fresh (Nat.le_of_eq eD)
  obtain ⟨W, ⟨m0, w0⟩, turn⟩ := q D nD
  -- the dict
  generalize e3 : ({ s2 with heap := s2.heap.push (freshSet X.w) } : Shared) = s3
  have I3 : Inv X pins σ (L2.upd H2 D (PSetO X.prog X.w D [])) s3 := by
    subst e3
    refine I2.laid (t' := s2.toks) (fun b o e => Heap.get?_push_of_some _ e) (Nat.le_of_eq eD) ?_
    subst eD
    exact pset_new (pset_fresh (Heap.get?_push_size _ rfl))
  have hp3 : s3.heap = s2.heap.push (freshSet X.w) := by subst e3; rfl
  have f3 : ∀ b ∈ fp, FpOk X pins (L2.upd H2 D (PSetO X.prog X.w D [])) b ∧ b < s3.heap.objs.size := fun b hb => by
    obtain ⟨o, eo, _⟩ := T.obj _ _ t2 b hb
    have lt := Heap.lt_size eo
    refine ⟨⟨?_, (f2 b hb).2⟩, by rw [hp3, Heap.size_push]; exact Nat.lt_succ_of_lt lt⟩
    rw [upd_ne (fun z => by rw [z, ← eD] at lt; exact Nat.lt_irrefl _ lt)]
    exact (f2 b hb).1
  have t3 : tn 0 s3.heap := T.keep _ _ _ t2 fun b _ o e => by rw [hp3]; exact Heap.get?_push_of_some _ e
  have I4 := block_start I3 bo nd f3
  have blk := fun {T : Cx → Prop} (z : Bk X sc T) => z s3 (L2.upd H2 D (PSetO X.prog X.w D [])) s3.heap.objs.size (cellsFrom (s3.heap.objs.size + 1) sc.names (cloFrom X.env.cells sc.names [])) fp
  have pa := blk pa
  have qa := blk qa
  have hb := blk hb
  have pb := blk pb
  have qb := blk qb
  have he := blk he
  clear blk
  show codeAny _ _ (.compStart (S2 el ta ia tb ib fa fb sc ps) 0 (.ref it) (.ref D) (compEnvC sc (cellsFrom (s3.heap.objs.size + 1) sc.names (cloFrom X.env.cells sc.names [])) s3.heap.objs.size X.env)) (compPost (model X.prog X.w) X.A X.xe use Qf (.ref D) s3.heap.objs.size) { s3 with heap := pushCells (s3.heap.push { cls := .type "dict", data := .dict #[] }) sc.names }
  have nfp : ∀ b ∈ fp, (L2.upd H2 D (PSetO X.prog X.w D [])) b = none := fun b hb => (f3 b hb).1.1
  generalize hce : compEnvC sc (cellsFrom (s3.heap.objs.size + 1) sc.names (cloFrom X.env.cells sc.names [])) s3.heap.objs.size X.env = ce at I4 pa qa hb pb qb he ⊢
  have cL : ce.locals = s3.heap.objs.size := by subst hce; rfl
  generalize L2.upd H2 D (PSetO X.prog X.w D []) = H3 at I3 I4 pa qa hb pb qb he w0 nfp f3
  generalize e4 : ({ s3 with heap := pushCells (s3.heap.push { cls := .type "dict", data := .dict #[] }) sc.names } : Shared) = s4 at I4 ⊢
  have t4 : tn 0 s4.heap := T.keep _ _ _ t3 fun b _ o e => by subst e4; exact pushCells_keeps _ _ _ _ (Heap.get?_push_of_some _ e)
  let Y := X.blk s3 H3 sc ce fp
  -- what holds between the rounds
  let R0 : Nat → Shared → Prop := fun n s' => ∃ i H', Inv Y [] (wipe σ (own.map (·.2))) H' s' ∧ tn i s'.heap ∧ (∀ b ∈ fp, H' b = none) ∧ W i n H'
  have stat : ∀ {σ' : L2.St} {H' : Hp} {s' : Shared}, Inv Y [] σ' H' s' → (∀ b ∈ fp, H' b = none) → ∀ b ∈ fp, FpOk Y [] H' b := fun {σ' H' s'} I' hn b hb =>
    ⟨hn b hb, (I'.ok.exf b hb).1, I'.ok.exfs b hb, .inl hb, fun x c e => (I'.ok.exf b hb).2 x c e, fun p hp => by cases hp⟩
  have loop : codeAny (model X.prog X.w) X.A (.compLoop (S2 el ta ia tb ib fa fb sc ps) 0 (.ref it) (.ref D) ce) (compPost (model X.prog X.w) X.A X.xe use Qf (.ref D) s3.heap.objs.size) s4 := by
    refine loop_a (fs1 ce) R0 ?_ m0 ⟨0, H3, I4, t4, nfp, w0⟩
    rintro n s5 ⟨i, H5, I5, t5, n5, w5⟩
    rcases turn i n H5 w5 with ⟨stop, qq⟩ | ⟨go, N, hN, step⟩
    · refine thnF (T.done Y rfl rfl rfl calm i [] s5 _ H5 (fun _ _ => False) I5 (stat I5 n5) t5 stop) fun r s6 ⟨hr, I6⟩ => ?_
      subst hr
      have I7 : Inv X pins σ H5 s6 := I3.call' (ch := fp) I6.os I6.base I6.hok I6.bare fun b hb => let z := (f3 b hb).1.2; ⟨z.2.2.1, z.1, z.2.2.2.1, z.2.2.2.2⟩
      have nC : H5 s3.heap.objs.size = none := by rw [← cL]; exact I6.free
      obtain ⟨m, hn, _⟩ := I6.loc
      have hn : s6.heap.Ns s3.heap.objs.size m := by rw [← cL]; exact hn
      exact hR D s3.heap.objs.size s6 m H5 I7 qq hn (I3.fpOk (Nat.le_refl _) nC)
    · refine thnF (T.item Y rfl rfl rfl calm i [] s5 _ H5 (fun _ _ => False) I5 (stat I5 n5) t5 go) fun r s6 ⟨u, hr, h6⟩ => ?_
      subst hr
      refine thnF h6 fun _ s7 ⟨x, H7, I7, r7, y7, t7, n7⟩ => ?_
      refine thnF (pa.run _ s7 _ H7 x u _ (I7.pinned (stat I7 n7) (T.obj _ _ t7)) r7 (step x H7 y7)) fun _ s8 ⟨σ8, H8, I8, hw8, q8⟩ => ?_
      refine thnF (qa.run _ s8 σ8 H8 _ I8 q8) fun b s9 ⟨H9, I9, q9⟩ => ?_
      have fin : ∀ {σ9 : L2.St} {s' : Shared} {H' : Hp}, Inv Y ([] ++ pinsAt fp s7.heap) σ9 H' s' → (wipe σ (own.map (·.2))).length = σ9.length → (∀ (j : Nat) v, (wipe σ (own.map (·.2)))[j]? = some (some v) → σ9[j]? = some (some v)) → N H' → ∃ m, m < n ∧ R0 m s' := fun {σ9 s' H'} I' hl hj nx => by
        obtain ⟨l, ll, w'⟩ := hN H' nx
        have pin : ∀ b ∈ fp, ∀ o, s7.heap.get? b = some o → s'.heap.get? b = some o ∧ H' b = none := fun b hb o e => by
          obtain ⟨z1, z2, _⟩ := I'.pin (b, o) (List.mem_append_right _ (List.mem_append_right _ (mem_pinsAt hb e)))
          exact ⟨z1, z2⟩
        exact ⟨l, ll, i + 1, H', (I'.unpinned (pins := [])).weak hl hj, T.keep _ _ _ t7 fun b hb o e => (pin b hb o e).1, fun b hb => let ⟨o, e, _⟩ := T.obj _ _ t7 b hb; (pin b hb o e).2, w'⟩
      have l8 : (wipe σ (own.map (·.2))).length = σ8.length := by rw [← hw8]; exact wipe_length _ _
      have k8 : ∀ (j : Nat) v, (wipe σ (own.map (·.2)))[j]? = some (some v) → σ8[j]? = some (some v) ∧ (wipe σ8 vb)[j]? = some (some v) := fun j v e => by
        rw [← hw8] at e
        obtain ⟨a1, a2⟩ := wipe_some e
        exact ⟨a1, by rw [wipe_out fun z => a2 (sub j z)]; exact a1⟩
      cases b with
      | false => simp only [Bool.false_eq_true, if_false] at q9 ⊢; exact fin I9 l8 (fun j v e => (k8 j v e).1) q9
      | true =>
        simp only [if_true] at q9 ⊢
        refine thnF (hb.run _ s9 σ8 H9 _ I9 q9) fun xv s10 hx => thnF hx fun itv s11 h11 => ?_
        obtain ⟨jt, fp1, tn1, J1, H11, rfl, I11, T1, t11, f11, W1, ⟨m1, w1⟩, turn1⟩ := h11
        let P1 := [] ++ pinsAt fp s7.heap
        let R1 : Nat → Shared → Prop := fun k s' => ∃ j H', Inv Y P1 (wipe σ8 vb) H' s' ∧ tn1 j s'.heap ∧ (∀ b ∈ fp1, H' b = none) ∧ W1 j k H'
        have stat1 : ∀ {H' : Hp}, (∀ b ∈ fp1, H' b = none) → ∀ b ∈ fp1, FpOk Y P1 H' b := fun hn b hb => ⟨hn b hb, (f11 b hb).2⟩
        have inner : codeAny (model X.prog X.w) X.A (.compLoop (S2 el ta ia tb ib fa fb sc ps) 1 (.ref jt) (.ref D) ce) (fun r s' => match r with | .ok _ => ∃ m, m < n ∧ R0 m s' | .error _ => False) s11 := by
          refine loop_b R1 ?_ m1 ⟨0, H11, I11.weak (wipe_length _ _) (fun j v e => (wipe_some e).1), t11, fun b hb => (f11 b hb).1, w1⟩
          rintro k s12 ⟨j, H12, I12, t12, n12, w12⟩
          rcases turn1 j k H12 w12 with ⟨stop1, nx1⟩ | ⟨go1, N1, hN1, step1⟩
          · refine thnF (T1.done Y rfl rfl rfl calm j _ s12 (wipe σ8 vb) H12 (fun _ _ => False) I12 (stat1 n12) t12 stop1) fun r s13 ⟨hr, I13⟩ => ?_
            subst hr
            exact fin I13 (l8.trans (wipe_length _ _).symm) (fun j v e => (k8 j v e).2) nx1
          · refine thnF (T1.item Y rfl rfl rfl calm j _ s12 (wipe σ8 vb) H12 (fun _ _ => False) I12 (stat1 n12) t12 go1) fun r s13 ⟨u1, hr, h13⟩ => ?_
            subst hr
            refine thnF h13 fun _ s14 ⟨x1, H14, I14, r14, y14, t14, n14⟩ => ?_
            refine thnF (pb.run _ s14 (wipe σ8 vb) H14 x1 u1 _ (I14.pinned (stat1 n14) (T1.obj _ _ t14)) r14 (step1 x1 H14 y14)) fun _ s15 ⟨σ15, H15, I15, hw15, q15⟩ => ?_
            refine thnF (qb.run _ s15 σ15 H15 _ I15 q15) fun b1 s16 ⟨H16, I16, q16⟩ => ?_
            have fin1 : ∀ {s' : Shared} {H' : Hp}, Inv Y (P1 ++ pinsAt fp1 s14.heap) σ15 H' s' → N1 H' → ∃ m, m < k ∧ R1 m s' := fun {s' H'} I' nx => by
              obtain ⟨l, ll, w'⟩ := hN1 H' nx
              have pin : ∀ b ∈ fp1, ∀ o, s14.heap.get? b = some o → s'.heap.get? b = some o ∧ H' b = none := fun b hb o e => by
                obtain ⟨z1, z2, _⟩ := I'.pin (b, o) (List.mem_append_right _ (List.mem_append_right _ (mem_pinsAt hb e)))
                exact ⟨z1, z2⟩
              exact ⟨l, ll, j + 1, H', I'.unpinned.weak (by rw [← hw15, wipe_length]) (fun j v e => by rw [← hw15] at e; exact (wipe_some e).1), T1.keep _ _ _ t14 fun b hb o e => (pin b hb o e).1, fun b hb => let ⟨o, e, _⟩ := T1.obj _ _ t14 b hb; (pin b hb o e).2, w'⟩
            cases b1 with
            | false => simp only [Bool.false_eq_true, if_false] at q16 ⊢; exact fin1 I16 q16
            | true =>
              simp only [if_true] at q16 ⊢
              refine thnF (he.run _ s16 σ15 H16 _ I16 q16) fun z s17 ⟨yk, H17, I17, r17, b2, k2, L2', ey, hk2, hD, hL, few, nx⟩ => ?_
              subst ey
              obtain rfl : z = Value.ref b2 := r17
              exact addS_ok (X := Y) I17 hu hD hL hk2 few fun L3 s19 c1 c2 I19 => fin1 I19 (nx L3 c1 c2)
        exact start_b inner (T1.self X.A 0 _ _ _ t11 inner)
  exact PpSet.codeAny_compStart_set loop (T.self X.A 0 _ _ _ t4 loop)
/-- as a value -/
theorem pe_s2 {el ta ia tb ib : Expr} {fa fb : List Expr} {sc : Scope} {own : List (Str × Nat)} {vb : List Nat} {ps : Pos} {wa wb : TI} {ga gb : TG} {ca cb : TT} {te : TE} (calm : X.calm = true) (hu : X.A.units + 64 < cLine) (nd : X.N.Nodup) (ha : PI X ta ia wa) (bo : BlkOk X.N X.env.scope sc own) (sub : ∀ i ∈ vb, i ∈ own.map (·.2))
    (pa : ∀ (s : Shared) (H : Hp) (a : Addr) (cl : List (Str × Addr)) (fp : List Addr), PG (X.blk s H sc (compEnvC sc cl a X.env) fp) ta ga) (qa : ∀ (s : Shared) (H : Hp) (a : Addr) (cl : List (Str × Addr)) (fp : List Addr), PTs (X.blk s H sc (compEnvC sc cl a X.env) fp) fa ca) (hb : ∀ (s : Shared) (H : Hp) (a : Addr) (cl : List (Str × Addr)) (fp : List Addr), PI (X.blk s H sc (compEnvC sc cl a X.env) fp) tb ib wb) (pb : ∀ (s : Shared) (H : Hp) (a : Addr) (cl : List (Str × Addr)) (fp : List Addr), PG (X.blk s H sc (compEnvC sc cl a X.env) fp) tb gb) (qb : ∀ (s : Shared) (H : Hp) (a : Addr) (cl : List (Str × Addr)) (fp : List Addr), PTs (X.blk s H sc (compEnvC sc cl a X.env) fp) fb cb) (he : ∀ (s : Shared) (H : Hp) (a : Addr) (cl : List (Str × Addr)) (fp : List Addr), PE (X.blk s H sc (compEnvC sc cl a X.env) fp) el te)
    (fs : ∀ x, foldedSetIterable ia X.env x = pure x := by intro _; rfl) (fs1 : ∀ en x, foldedSetIterable ib en x = pure x := by intro _ _; rfl) :
    PE X (S2 el ta ia tb ib fa fb sc ps) (tS2 X.K X.prog X.w wa ga ca wb gb cb te (own.map (·.2)) vb) := by
  refine ⟨fun pins s σ H Q I h => ?_⟩
  rw [PpSet.eval_SetComp]
  refine s2_core calm hu nd I ha bo sub pa qa hb pb qb he fs fs1 h fun D C s' m H' I' q hn f => ⟨m, hn, fun h2 sb => ⟨.ref D, H', ?_, rfl, q⟩⟩
  obtain ⟨z1, z2, _, z3, z4, z5⟩ := f
  exact I'.turned (t' := s'.toks) (fun b o hb e => (sb.2 b hb).trans e) z1 z2 z3 z4 z5
end
/-! ### one clause -/
section
variable {X : Cx}
abbrev S1 (el ta ia : Expr) (fa : List Expr) (sc : Scope) (ps : Pos) : Expr := .SetComp el [⟨ta, ia, fa, 0⟩] sc ps
def tS1 (K : PySem.W.Frag) (P : Program) (w : World) (wa : TI) (ga : TG) (ca : TT) (te : TE) (vs : List Nat) : TE := fun σ H Q => wa σ H fun J H1 => ∀ D, H1 D = none → ∃ W : Nat → Nat → Hp → Prop, (∃ m, W 0 m (L2.upd H1 D (PSetO P w D []))) ∧ ∀ i m H, W i m H →
  (J.stop i H ∧ Q (.ref D) H) ∨ (J.go i H ∧ ∃ N : Hp → Prop, (∀ H', N H' → ∃ l, l < m ∧ W (i + 1) l H') ∧ ∀ x H', J.yld i H x H' → ga x (wipe σ vs) H' fun σ2 H2 => wipe σ2 vs = wipe σ vs ∧ ca σ2 H2 fun b H3 =>
    if b = true then te σ2 H3 fun y H7 => ∃ (b : Addr) (k : List Str) (L : List (Addr × List Str)), y = .ref b ∧ SqT K H7 b (k.map V.str) ∧ H7 D = some (PSetO P w D L) ∧ (∀ p ∈ L, SqT K H7 p.1 (p.2.map V.str)) ∧ L.length + 1 < 64 ∧ ∀ L', (k ∈ L.map (·.2) → L' = L) → (k ∉ L.map (·.2) → L'.Perm ((b, k) :: L)) → N (L2.upd H7 D (PSetO P w D L'))
    else N H3)
theorem s1_core {pins : List (Addr × Obj)} {s : Shared} {σ : L2.St} {H : Hp} {Q : VK} {el ta ia : Expr} {fa : List Expr} {sc : Scope} {own : List (Str × Nat)} {ps ps' : Pos} {wa : TI} {ga : TG} {ca : TT} {te : TE} {use : Option (Value → Sem Unit)} {Qf : Value → Shared → Prop}
    (calm : X.calm = true) (hu : X.A.units + 64 < cLine) (nd : X.N.Nodup) (I : Inv X pins σ H s) (ha : PI X ta ia wa) (bo : BlkOk X.N X.env.scope sc own)
    (pa : Bk X sc fun Y => PG Y ta ga) (qa : Bk X sc fun Y => PTs Y fa ca) (he : Bk X sc fun Y => PE Y el te)
    (fs : ∀ x, foldedSetIterable ia X.env x = pure x) (h : tS1 X.K X.prog X.w wa ga ca te (own.map (·.2)) σ H Q)
    (hR : ∀ D C s' m H', Inv X pins σ H' s' → Q (.ref D) H' → s'.heap.Ns C m → FpOk X pins H' C → compPost (model X.prog X.w) X.A X.xe use Qf (.ref D) C (.ok .next) s') :
    wpAny (model X.prog X.w) X.A (comprehension (S1 el ta ia fa sc ps) sc X.env ps' (newSet (.type "set")) false (eval ia X.env) use) Qf X.xe s := by
  refine wpAny_comprehension_free (use := use) rfl fs (closure_ok fun y hy e => (bo.free y hy e).elim (fun k => I.ok.has _ (.inl k)) (fun k => I.ok.has _ (.inr k))) bo.kind (fun y hy e => by rw [bo.uniq y hy, e])
    (thn (ha.run pins s σ H _ I h) fun xv s1 hx => thn hx fun itv s2 h2 => ?_)
  obtain ⟨it, fp, tn, J, H2, rfl, I2, T, t2, f2, q⟩ := h2
  refine PpSet.newSet_ok (newEnv_comp ?_)
  generalize eD : s2.heap.objs.size = D
  have nD : H2 D = none := I2.hok.fresh (Nat.le_of_eq eD)
  obtain ⟨W, ⟨m0, w0⟩, turn⟩ := q D nD
  -- the dict
  generalize e3 : ({ s2 with heap := s2.heap.push (freshSet X.w) } : Shared) = s3
  have I3 : Inv X pins σ (L2.upd H2 D (PSetO X.prog X.w D [])) s3 := by
    subst e3
    refine I2.laid (t' := s2.toks) (fun b o e => Heap.get?_push_of_some _ e) (Nat.le_of_eq eD) ?_
    subst eD
    exact pset_new (pset_fresh (Heap.get?_push_size _ rfl))
  have hp3 : s3.heap = s2.heap.push (freshSet X.w) := by subst e3; rfl
  have f3 : ∀ b ∈ fp, FpOk X pins (L2.upd H2 D (PSetO X.prog X.w D [])) b ∧ b < s3.heap.objs.size := fun b hb => by
    obtain ⟨o, eo, _⟩ := T.obj _ _ t2 b hb
    have lt := Heap.lt_size eo
    refine ⟨⟨?_, (f2 b hb).2⟩, by rw [hp3, Heap.size_push]; exact Nat.lt_succ_of_lt lt⟩
    rw [upd_ne (fun z => by rw [z, ← eD] at lt; exact Nat.lt_irrefl _ lt)]
    exact (f2 b hb).1
  have t3 : tn 0 s3.heap := T.keep _ _ _ t2 fun b _ o e => by rw [hp3]; exact Heap.get?_push_of_some _ e
  have I4 := block_start I3 bo nd f3
  have blk := fun {T : Cx → Prop} (z : Bk X sc T) => z s3 (L2.upd H2 D (PSetO X.prog X.w D [])) s3.heap.objs.size (cellsFrom (s3.heap.objs.size + 1) sc.names (cloFrom X.env.cells sc.names [])) fp
  have pa := blk pa
  have qa := blk qa
  have he := blk he
  clear blk
  show codeAny _ _ (.compStart (S1 el ta ia fa sc ps) 0 (.ref it) (.ref D) (compEnvC sc (cellsFrom (s3.heap.objs.size + 1) sc.names (cloFrom X.env.cells sc.names [])) s3.heap.objs.size X.env)) (compPost (model X.prog X.w) X.A X.xe use Qf (.ref D) s3.heap.objs.size) { s3 with heap := pushCells (s3.heap.push { cls := .type "dict", data := .dict #[] }) sc.names }
  have nfp : ∀ b ∈ fp, (L2.upd H2 D (PSetO X.prog X.w D [])) b = none := fun b hb => (f3 b hb).1.1
  generalize hce : compEnvC sc (cellsFrom (s3.heap.objs.size + 1) sc.names (cloFrom X.env.cells sc.names [])) s3.heap.objs.size X.env = ce at I4 pa qa he ⊢
  have cL : ce.locals = s3.heap.objs.size := by subst hce; rfl
  generalize L2.upd H2 D (PSetO X.prog X.w D []) = H3 at I3 I4 pa qa he w0 nfp f3
  generalize e4 : ({ s3 with heap := pushCells (s3.heap.push { cls := .type "dict", data := .dict #[] }) sc.names } : Shared) = s4 at I4 ⊢
  have t4 : tn 0 s4.heap := T.keep _ _ _ t3 fun b _ o e => by subst e4; exact pushCells_keeps _ _ _ _ (Heap.get?_push_of_some _ e)
  let Y := X.blk s3 H3 sc ce fp
  -- what holds between the rounds
  let R0 : Nat → Shared → Prop := fun n s' => ∃ i H', Inv Y [] (wipe σ (own.map (·.2))) H' s' ∧ tn i s'.heap ∧ (∀ b ∈ fp, H' b = none) ∧ W i n H'
  have stat : ∀ {σ' : L2.St} {H' : Hp} {s' : Shared}, Inv Y [] σ' H' s' → (∀ b ∈ fp, H' b = none) → ∀ b ∈ fp, FpOk Y [] H' b := fun {σ' H' s'} I' hn b hb =>
    ⟨hn b hb, (I'.ok.exf b hb).1, I'.ok.exfs b hb, .inl hb, fun x c e => (I'.ok.exf b hb).2 x c e, fun p hp => by cases hp⟩
  have loop : codeAny (model X.prog X.w) X.A (.compLoop (S1 el ta ia fa sc ps) 0 (.ref it) (.ref D) ce) (compPost (model X.prog X.w) X.A X.xe use Qf (.ref D) s3.heap.objs.size) s4 := by
    refine PpSet.compLoopS_any R0 ?_ m0 ⟨0, H3, I4, t4, nfp, w0⟩
    rintro n s5 ⟨i, H5, I5, t5, n5, w5⟩
    rcases turn i n H5 w5 with ⟨stop, qq⟩ | ⟨go, N, hN, step⟩
    · refine thnF (T.done Y rfl rfl rfl calm i [] s5 _ H5 (fun _ _ => False) I5 (stat I5 n5) t5 stop) fun r s6 ⟨hr, I6⟩ => ?_
      subst hr
      have I7 : Inv X pins σ H5 s6 := I3.call' (ch := fp) I6.os I6.base I6.hok I6.bare fun b hb => let z := (f3 b hb).1.2; ⟨z.2.2.1, z.1, z.2.2.2.1, z.2.2.2.2⟩
      have nC : H5 s3.heap.objs.size = none := by rw [← cL]; exact I6.free
      obtain ⟨m, hn, _⟩ := I6.loc
      have hn : s6.heap.Ns s3.heap.objs.size m := by rw [← cL]; exact hn
      exact hR D s3.heap.objs.size s6 m H5 I7 qq hn (I3.fpOk (Nat.le_refl _) nC)
    · refine thnF (T.item Y rfl rfl rfl calm i [] s5 _ H5 (fun _ _ => False) I5 (stat I5 n5) t5 go) fun r s6 ⟨u, hr, h6⟩ => ?_
      subst hr
      refine thnF h6 fun _ s7 ⟨x, H7, I7, r7, y7, t7, n7⟩ => ?_
      refine thnF (pa.run _ s7 _ H7 x u _ (I7.pinned (stat I7 n7) (T.obj _ _ t7)) r7 (step x H7 y7)) fun _ s8 ⟨σ8, H8, I8, hw8, q8⟩ => ?_
      refine thnF (qa.run _ s8 σ8 H8 _ I8 q8) fun b s9 ⟨H9, I9, q9⟩ => ?_
      have fin : ∀ {σ9 : L2.St} {s' : Shared} {H' : Hp}, Inv Y ([] ++ pinsAt fp s7.heap) σ9 H' s' → (wipe σ (own.map (·.2))).length = σ9.length → (∀ (j : Nat) v, (wipe σ (own.map (·.2)))[j]? = some (some v) → σ9[j]? = some (some v)) → N H' → ∃ m, m < n ∧ R0 m s' := fun {σ9 s' H'} I' hl hj nx => by
        obtain ⟨l, ll, w'⟩ := hN H' nx
        have pin : ∀ b ∈ fp, ∀ o, s7.heap.get? b = some o → s'.heap.get? b = some o ∧ H' b = none := fun b hb o e => by
          obtain ⟨z1, z2, _⟩ := I'.pin (b, o) (List.mem_append_right _ (List.mem_append_right _ (mem_pinsAt hb e)))
          exact ⟨z1, z2⟩
        exact ⟨l, ll, i + 1, H', (I'.unpinned (pins := [])).weak hl hj, T.keep _ _ _ t7 fun b hb o e => (pin b hb o e).1, fun b hb => let ⟨o, e, _⟩ := T.obj _ _ t7 b hb; (pin b hb o e).2, w'⟩
      have l8 : (wipe σ (own.map (·.2))).length = σ8.length := by rw [← hw8]; exact wipe_length _ _
      have k8 : ∀ (j : Nat) v, (wipe σ (own.map (·.2)))[j]? = some (some v) → σ8[j]? = some (some v) := fun j v e => by
        rw [← hw8] at e
        exact (wipe_some e).1
      cases b with
      | false => simp only [Bool.false_eq_true, if_false] at q9 ⊢; exact fin I9 l8 k8 q9
      | true =>
        simp only [if_true] at q9 ⊢
        refine thnF (he.run _ s9 σ8 H9 _ I9 q9) fun z s17 ⟨yk, H17, I17, r17, b2, k2, L2', ey, hk2, hD, hL, few, nx⟩ => ?_
        subst ey
        obtain rfl : z = Value.ref b2 := r17
        exact addS_ok (X := Y) I17 hu hD hL hk2 few fun L3 s19 c1 c2 I19 => fin I19 l8 k8 (nx L3 c1 c2)
  exact PpSet.codeAny_compStart_set loop (T.self X.A 0 _ _ _ t4 loop)
/-- as a value -/
theorem pe_s1 {el ta ia : Expr} {fa : List Expr} {sc : Scope} {own : List (Str × Nat)} {ps : Pos} {wa : TI} {ga : TG} {ca : TT} {te : TE} (calm : X.calm = true) (hu : X.A.units + 64 < cLine) (nd : X.N.Nodup) (ha : PI X ta ia wa) (bo : BlkOk X.N X.env.scope sc own)
    (pa : ∀ (s : Shared) (H : Hp) (a : Addr) (cl : List (Str × Addr)) (fp : List Addr), PG (X.blk s H sc (compEnvC sc cl a X.env) fp) ta ga) (qa : ∀ (s : Shared) (H : Hp) (a : Addr) (cl : List (Str × Addr)) (fp : List Addr), PTs (X.blk s H sc (compEnvC sc cl a X.env) fp) fa ca)
    (he : ∀ (s : Shared) (H : Hp) (a : Addr) (cl : List (Str × Addr)) (fp : List Addr), PE (X.blk s H sc (compEnvC sc cl a X.env) fp) el te) (fs : ∀ x, foldedSetIterable ia X.env x = pure x := by intro _; rfl) :
    PE X (S1 el ta ia fa sc ps) (tS1 X.K X.prog X.w wa ga ca te (own.map (·.2))) := by
  refine ⟨fun pins s σ H Q I h => ?_⟩
  rw [PpSet.eval_SetComp]
  refine s1_core calm hu nd I ha bo pa qa he fs h fun D C s' m H' I' q hn f => ⟨m, hn, fun h2 sb => ⟨.ref D, H', ?_, rfl, q⟩⟩
  obtain ⟨z1, z2, _, z3, z4, z5⟩ := f
  exact I'.turned (t' := s'.toks) (fun b o hb e => (sb.2 b hb).trans e) z1 z2 z3 z4 z5
end
/-- over a list -/
theorem s1_list {K : PySem.W.Frag} {P : Program} {w : World} {a : Addr} {xs : List V} {ga : TG} {ca : TT} {te : TE} {vs : List Nat} {σ : L2.St} {H1 : Hp} {D : Addr} {Qd : Hp → Prop} (Pv : Nat → Hp → Prop) (h0 : Pv 0 (L2.upd H1 D (PSetO P w D []))) (hl : ∀ i H, i ≤ xs.length → Pv i H → SqL K H a xs)
    (hs : ∀ i x H, xs[i]? = some x → Pv i H → ga x (wipe σ vs) H fun σ2 H2 => wipe σ2 vs = wipe σ vs ∧ ca σ2 H2 fun b H3 =>
      if b = true then te σ2 H3 fun y H7 => ∃ (b : Addr) (k : List Str) (L : List (Addr × List Str)), y = .ref b ∧ SqT K H7 b (k.map V.str) ∧ H7 D = some (PSetO P w D L) ∧ (∀ p ∈ L, SqT K H7 p.1 (p.2.map V.str)) ∧ L.length + 1 < 64 ∧ ∀ L', (k ∈ L.map (·.2) → L' = L) → (k ∉ L.map (·.2) → L'.Perm ((b, k) :: L)) → Pv (i + 1) (L2.upd H7 D (PSetO P w D L'))
      else Pv (i + 1) H3) (hd : ∀ H, Pv xs.length H → Qd H) :
    ∃ W : Nat → Nat → Hp → Prop, (∃ m, W 0 m (L2.upd H1 D (PSetO P w D []))) ∧ ∀ i m H, W i m H →
      ((Itl K a).stop i H ∧ Qd H) ∨ ((Itl K a).go i H ∧ ∃ N : Hp → Prop, (∀ H', N H' → ∃ l, l < m ∧ W (i + 1) l H') ∧ ∀ x H', (Itl K a).yld i H x H' → ga x (wipe σ vs) H' fun σ2 H2 => wipe σ2 vs = wipe σ vs ∧ ca σ2 H2 fun b H3 =>
        if b = true then te σ2 H3 fun y H7 => ∃ (b : Addr) (k : List Str) (L : List (Addr × List Str)), y = .ref b ∧ SqT K H7 b (k.map V.str) ∧ H7 D = some (PSetO P w D L) ∧ (∀ p ∈ L, SqT K H7 p.1 (p.2.map V.str)) ∧ L.length + 1 < 64 ∧ ∀ L', (k ∈ L.map (·.2) → L' = L) → (k ∉ L.map (·.2) → L'.Perm ((b, k) :: L)) → N (L2.upd H7 D (PSetO P w D L'))
        else N H3) := by
  refine ⟨fun i m H => m = xs.length - i ∧ i ≤ xs.length ∧ Pv i H, ⟨xs.length, by simp, Nat.zero_le _, h0⟩, ?_⟩
  rintro i m H ⟨rfl, hi, p⟩
  have q := hl i H hi p
  rcases Nat.lt_or_ge i xs.length with lt | ge
  · refine .inr ⟨⟨xs, xs[i], q, List.getElem?_eq_getElem lt⟩, Pv (i + 1), fun H' p' => ⟨xs.length - (i + 1), by omega, rfl, lt, p'⟩, fun x H' ⟨e, y⟩ => ?_⟩
    subst e
    exact hs i x _ (y xs q) p
  · obtain rfl : i = xs.length := by omega
    exact .inl ⟨⟨xs, q, Nat.le_refl _⟩, hd H p⟩
/-- two clauses: the outer over a list -/
theorem s2_list {K : PySem.W.Frag} {P : Program} {w : World} {a : Addr} {xs : List V} {ga gb : TG} {ca cb : TT} {wb : TI} {te : TE} {vs vb : List Nat} {σ : L2.St} {H1 : Hp} {D : Addr} {Qd : Hp → Prop} (Pv : Nat → Hp → Prop) (h0 : Pv 0 (L2.upd H1 D (PSetO P w D []))) (hl : ∀ i H, i ≤ xs.length → Pv i H → SqL K H a xs)
    (hs : ∀ i x H, xs[i]? = some x → Pv i H → ga x (wipe σ vs) H fun σ2 H2 => wipe σ2 vs = wipe σ vs ∧ ca σ2 H2 fun b H3 =>
      if b = true then wb σ2 H3 fun J1 H4 => ∃ W1 : Nat → Nat → Hp → Prop, (∃ m, W1 0 m H4) ∧ ∀ j k H, W1 j k H →
        (J1.stop j H ∧ Pv (i + 1) H) ∨ (J1.go j H ∧ ∃ N1 : Hp → Prop, (∀ H', N1 H' → ∃ l, l < k ∧ W1 (j + 1) l H') ∧ ∀ x H', J1.yld j H x H' → gb x (wipe σ2 vb) H' fun σ3 H5 => wipe σ3 vb = wipe σ2 vb ∧ cb σ3 H5 fun b H6 =>
          if b = true then te σ3 H6 fun y H7 => ∃ (b : Addr) (k : List Str) (L : List (Addr × List Str)), y = .ref b ∧ SqT K H7 b (k.map V.str) ∧ H7 D = some (PSetO P w D L) ∧ (∀ p ∈ L, SqT K H7 p.1 (p.2.map V.str)) ∧ L.length + 1 < 64 ∧ ∀ L', (k ∈ L.map (·.2) → L' = L) → (k ∉ L.map (·.2) → L'.Perm ((b, k) :: L)) → N1 (L2.upd H7 D (PSetO P w D L')) else N1 H6)
      else Pv (i + 1) H3) (hd : ∀ H, Pv xs.length H → Qd H) :
    ∃ W : Nat → Nat → Hp → Prop, (∃ m, W 0 m (L2.upd H1 D (PSetO P w D []))) ∧ ∀ i m H, W i m H →
      ((Itl K a).stop i H ∧ Qd H) ∨ ((Itl K a).go i H ∧ ∃ N : Hp → Prop, (∀ H', N H' → ∃ l, l < m ∧ W (i + 1) l H') ∧ ∀ x H', (Itl K a).yld i H x H' → ga x (wipe σ vs) H' fun σ2 H2 => wipe σ2 vs = wipe σ vs ∧ ca σ2 H2 fun b H3 =>
        if b = true then wb σ2 H3 fun J1 H4 => ∃ W1 : Nat → Nat → Hp → Prop, (∃ m, W1 0 m H4) ∧ ∀ j k H, W1 j k H →
          (J1.stop j H ∧ N H) ∨ (J1.go j H ∧ ∃ N1 : Hp → Prop, (∀ H', N1 H' → ∃ l, l < k ∧ W1 (j + 1) l H') ∧ ∀ x H', J1.yld j H x H' → gb x (wipe σ2 vb) H' fun σ3 H5 => wipe σ3 vb = wipe σ2 vb ∧ cb σ3 H5 fun b H6 =>
            if b = true then te σ3 H6 fun y H7 => ∃ (b : Addr) (k : List Str) (L : List (Addr × List Str)), y = .ref b ∧ SqT K H7 b (k.map V.str) ∧ H7 D = some (PSetO P w D L) ∧ (∀ p ∈ L, SqT K H7 p.1 (p.2.map V.str)) ∧ L.length + 1 < 64 ∧ ∀ L', (k ∈ L.map (·.2) → L' = L) → (k ∉ L.map (·.2) → L'.Perm ((b, k) :: L)) → N1 (L2.upd H7 D (PSetO P w D L')) else N1 H6)
        else N H3) := by
  refine ⟨fun i m H => m = xs.length - i ∧ i ≤ xs.length ∧ Pv i H, ⟨xs.length, by simp, Nat.zero_le _, h0⟩, ?_⟩
  rintro i m H ⟨rfl, hi, p⟩
  have q := hl i H hi p
  rcases Nat.lt_or_ge i xs.length with lt | ge
  · refine .inr ⟨⟨xs, xs[i], q, List.getElem?_eq_getElem lt⟩, Pv (i + 1), fun H' p' => ⟨xs.length - (i + 1), by omega, rfl, lt, p'⟩, fun x H' ⟨e, y⟩ => ?_⟩
    subst e
    exact hs i x _ (y xs q) p
  · obtain rfl : i = xs.length := by omega
    exact .inl ⟨⟨xs, q, Nat.le_refl _⟩, hd H p⟩
/-- two clauses: the inner over a list -/
theorem s2_in {K : PySem.W.Frag} {P : Program} {w : World} {a : Addr} {xs : List V} {gb : TG} {cb : TT} {te : TE} {vb : List Nat} {σ2 : L2.St} {H4 : Hp} {D : Addr} {N : Hp → Prop} (Pw : Nat → Hp → Prop) (h0 : Pw 0 H4) (hl : ∀ j H, j ≤ xs.length → Pw j H → SqL K H a xs)
    (hs : ∀ j x H, xs[j]? = some x → Pw j H → gb x (wipe σ2 vb) H fun σ3 H5 => wipe σ3 vb = wipe σ2 vb ∧ cb σ3 H5 fun b H6 =>
      if b = true then te σ3 H6 fun y H7 => ∃ (b : Addr) (k : List Str) (L : List (Addr × List Str)), y = .ref b ∧ SqT K H7 b (k.map V.str) ∧ H7 D = some (PSetO P w D L) ∧ (∀ p ∈ L, SqT K H7 p.1 (p.2.map V.str)) ∧ L.length + 1 < 64 ∧ ∀ L', (k ∈ L.map (·.2) → L' = L) → (k ∉ L.map (·.2) → L'.Perm ((b, k) :: L)) → Pw (j + 1) (L2.upd H7 D (PSetO P w D L')) else Pw (j + 1) H6) (hd : ∀ H, Pw xs.length H → N H) :
    ∃ W1 : Nat → Nat → Hp → Prop, (∃ m, W1 0 m H4) ∧ ∀ j k H, W1 j k H →
      ((Itl K a).stop j H ∧ N H) ∨ ((Itl K a).go j H ∧ ∃ N1 : Hp → Prop, (∀ H', N1 H' → ∃ l, l < k ∧ W1 (j + 1) l H') ∧ ∀ x H', (Itl K a).yld j H x H' → gb x (wipe σ2 vb) H' fun σ3 H5 => wipe σ3 vb = wipe σ2 vb ∧ cb σ3 H5 fun b H6 =>
        if b = true then te σ3 H6 fun y H7 => ∃ (b : Addr) (k : List Str) (L : List (Addr × List Str)), y = .ref b ∧ SqT K H7 b (k.map V.str) ∧ H7 D = some (PSetO P w D L) ∧ (∀ p ∈ L, SqT K H7 p.1 (p.2.map V.str)) ∧ L.length + 1 < 64 ∧ ∀ L', (k ∈ L.map (·.2) → L' = L) → (k ∉ L.map (·.2) → L'.Perm ((b, k) :: L)) → N1 (L2.upd H7 D (PSetO P w D L')) else N1 H6) := by
  refine ⟨fun j m H => m = xs.length - j ∧ j ≤ xs.length ∧ Pw j H, ⟨xs.length, by simp, Nat.zero_le _, h0⟩, ?_⟩
  rintro j m H ⟨rfl, hj, p⟩
  have q := hl j H hj p
  rcases Nat.lt_or_ge j xs.length with lt | ge
  · refine .inr ⟨⟨xs, xs[j], q, List.getElem?_eq_getElem lt⟩, Pw (j + 1), fun H' p' => ⟨xs.length - (j + 1), by omega, rfl, lt, p'⟩, fun x H' ⟨e, y⟩ => ?_⟩
    subst e
    exact hs j x _ (y xs q) p
  · obtain rfl : j = xs.length := by omega
    exact .inl ⟨⟨xs, q, Nat.le_refl _⟩, hd H p⟩
end MyC

set_option Elab.async false
set_option linter.all false
set_option maxRecDepth 100000
set_option maxHeartbeats 1000000
/-! t + u, t[a:b] of tuples: one answer, whatever object it is -/
namespace CatB
open PySem PySem.Spec PyProof.Rows L2
def NewT (H H' : Hp) (p : Addr) (zs : List V) : Prop := (H' = H ∨ (H p = none ∧ H' = upd H p (.tup zs))) ∧ H' p = some (.tup zs)
def rCat : R2 := fun x y H Q => ∃ a b xs ys, x = .ref a ∧ y = .ref b ∧ H a = some (.tup xs) ∧ H b = some (.tup ys) ∧ xs.length + ys.length ≤ sizeLine ∧ ∀ H' p, NewT H H' p (xs ++ ys) → Q (.ref p) H'
theorem op_catB {X : Cx} : OpR X (binaryOp .Add) rCat := by
  intro pins s σ H x y v u Q I rx ry h
  obtain ⟨a, b, xs, ys, ex, ey, ha, hb, hz, k⟩ := h
  refine op_catA pins s σ H x y v u Q I rx ry ⟨a, b, xs, ys, ex, ey, SqT.of ha, SqT.of hb, hz, fun e => k H b ⟨.inl rfl, by rw [e]; exact hb⟩, fun _ e => k H a ⟨.inl rfl, by rw [e, List.append_nil]; exact ha⟩, fun _ _ p np => k _ p ⟨.inr ⟨np, rfl⟩, upd_same⟩⟩
theorem cut_whole {xs : List V} {lo hi : Option Int} (w : HT.sIx xs.length 0 lo = 0 ∧ HT.sIx xs.length xs.length hi = xs.length) : cutV xs lo hi = xs := by
  unfold cutV
  rw [w.1, w.2, List.drop_zero, Nat.sub_zero, List.take_length]
def rSl : V → Option Int → Option Int → Hp → VK → Prop := fun x lo hi H Q => ∃ a xs, x = .ref a ∧ H a = some (.tup xs) ∧ ∀ H' p, NewT H H' p (cutV xs lo hi) → Q (.ref p) H'
theorem sl_tupB {X : Cx} : SlR X rSl := by
  intro pins s σ H x v vl vu lo hi sl Q I rx hs pl pu h
  obtain ⟨a, xs, ex, ha, k⟩ := h
  exact sl_tupA pins s σ H x v vl vu lo hi sl Q I rx hs pl pu ⟨a, xs, ex, SqT.of ha, fun w => k H a ⟨.inl rfl, by rw [cut_whole w]; exact ha⟩, fun _ p np => k _ p ⟨.inr ⟨np, rfl⟩, upd_same⟩⟩
end CatB

set_option Elab.async false
set_option linter.all false
set_option maxRecDepth 100000
set_option maxHeartbeats 2000000
namespace W
open PySem PySem.Spec PyProof.Rows L2 GxR MyG MyS SqX
/-- a list of changes -/
def CsAt (K : PySem.W.Frag) (H : Hp) (L : Addr) (d : Int) (ks : List Str) (cs : List Chg) : Prop := ∃ xs, H L = some (.lst xs) ∧ Paired (ChgAt K H) cs xs ∧ (∀ c ∈ cs, ChgOk d ks c)
theorem CsAt.grew {K : PySem.W.Frag} {P : Addr} {H H' : Hp} {L : Addr} {d : Int} {ks : List Str} {cs : List Chg} (m : CsAt K H L d ks cs) (g : Grew P H H') (h : TabG H P) : CsAt K H' L d ks cs := by
  obtain ⟨xs, e, p, o⟩ := m
  exact ⟨xs, g.lst h e, Paired.map' p fun _ _ m => m.grew g h, o⟩
/-! ### things -/
def thingOf : Chg → List Str
  | .place _ z => ["place", z]
  | .road _ r => ["road", r.name]
  | .part n _ _ => ["road", n]
  | .bar _ b => ["bar", b.1, b.2]
def belowOf : Chg → List (List Str)
  | .road _ r => [["place", r.start], ["place", r.goal]]
  | .bar _ b => [["road", b.1], ["road", b.2]]
  | _ => []
def thL (cs : List Chg) : List (List Str) := cs.map thingOf
def blL (cs : List Chg) : List (List Str) := (cs.map belowOf).flatten
theorem thing_ne (c : Chg) : thingOf c ≠ [] := by cases c <;> simp [thingOf]
theorem below_ne {c : Chg} : ∀ k ∈ belowOf c, k ≠ [] := by
  intro k hk
  cases c <;> simp [belowOf] at hk <;> (try (rcases hk with rfl | rfl <;> simp))
theorem below_len (c : Chg) : (belowOf c).length ≤ 2 := by cases c <;> simp [belowOf]
theorem blL_ne {cs : List Chg} : ∀ k ∈ blL cs, k ≠ [] := fun k hk => by
  obtain ⟨l, hl, h⟩ := List.mem_flatten.mp hk
  obtain ⟨c, _, rfl⟩ := List.mem_map.mp hl
  exact below_ne k h
theorem thL_ne {cs : List Chg} : ∀ k ∈ thL cs, k ≠ [] := fun k hk => by
  obtain ⟨c, _, rfl⟩ := List.mem_map.mp hk
  exact thing_ne c
theorem blL_len : ∀ cs : List Chg, (blL cs).length ≤ 2 * cs.length
  | [] => Nat.le_refl _
  | c :: cs => by
    have h1 := below_len c
    have h2 := blL_len cs
    unfold blL at h2 ⊢
    rw [List.map_cons, List.flatten_cons, List.length_append, List.length_cons]
    omega
/-- m: the members of l, each once, ascending -/
structure Told (l m : List (List Str)) : Prop where
  nd : m.Nodup
  pw : m.Pairwise fun a b => llt b a = false
  mem : ∀ k, k ∈ m ↔ k ∈ l
theorem Told.one {l l' m m' : List (List Str)} (h : Told l m) (h' : Told l' m') (e : ∀ k, k ∈ l ↔ k ∈ l') : m = m' :=
  List.Perm.eq_of_pairwise (le := fun a b : List Str => llt b a = false) (fun a b _ _ p q => llt_tri q p) h.pw h'.pw ((List.perm_ext_iff_of_nodup h.nd h'.nd).mpr fun k => (h.mem k).trans ((e k).trans (h'.mem k).symm))
theorem nodup_len : ∀ {m l : List (List Str)}, m.Nodup → (∀ k ∈ m, k ∈ l) → m.length ≤ l.length
  | [], _, _, _ => Nat.zero_le _
  | a :: m, l, nd, s => by
    obtain ⟨na, nm⟩ := List.nodup_cons.mp nd
    have ha := s a List.mem_cons_self
    have h := nodup_len (m := m) (l := l.erase a) nm fun k hk => (List.mem_erase_of_ne fun (e : k = a) => na (by rw [← e]; exact hk)).mpr (s k (List.mem_cons_of_mem _ hk))
    rw [List.length_erase_of_mem ha] at h
    have := List.length_pos_of_mem ha
    rw [List.length_cons]
    omega
theorem Told.len {l m : List (List Str)} (h : Told l m) : m.length ≤ l.length := nodup_len h.nd fun k hk => (h.mem k).mp hk
/-- a thing as the program holds it -/
def ThAt (H : Hp) (k : List Str) (v : V) : Prop := ∃ t, v = .ref t ∧ H t = some (.tup (k.map V.str))
theorem ThAt.grew {P : Addr} {H H' : Hp} {k : List Str} {v : V} (m : ThAt H k v) (g : Grew P H H') (h : TabG H P) : ThAt H' k v := let ⟨t, e, q⟩ := m; ⟨t, e, g.tup h q⟩
theorem ThAt.kp {H H' : Hp} {k : List Str} {v : V} (m : ThAt H k v) (kp : TKp H H') : ThAt H' k v := let ⟨t, e, q⟩ := m; ⟨t, e, kp.t _ _ q⟩
def thP (k : List Str) : PyData := .tuple (k.map .str)
theorem pl_th (k : List Str) : Pl (thP k) := pl_strs k
theorem thP_inj (a b : List Str) (e : thP a = thP b) : a = b := by
  injection e with e
  exact strs_inj e
theorem ThAt.dp {K : PySem.W.Frag} {H : Hp} {k : List Str} {v : V} (m : ThAt H k v) : Dp K H v (thP k) := by
  obtain ⟨t, rfl, e⟩ := m
  exact .tup (SqT.of e) (dpAll_strs k)
/-- a list of things -/
def ThsAt (H : Hp) (B : Addr) (m : List (List Str)) : Prop := ∃ xs, H B = some (.lst xs) ∧ Paired (ThAt H) m xs
theorem ThsAt.grew {P : Addr} {H H' : Hp} {B : Addr} {m : List (List Str)} (h : ThsAt H B m) (g : Grew P H H') (hP : TabG H P) : ThsAt H' B m := let ⟨xs, e, p⟩ := h; ⟨xs, g.lst hP e, Paired.map' p fun _ _ m => m.grew g hP⟩
theorem ThsAt.dp {K : PySem.W.Frag} {H : Hp} {B : Addr} {m : List (List Str)} (h : ThsAt H B m) : Dp K H (.ref B) (.list (m.map thP)) := by
  obtain ⟨xs, e, p⟩ := h
  exact .lst (SqL.of e) (dpAll_of (fun _ _ m => ThAt.dp m) p)
/-- texts that may be compared -/
def OkT (l : List (List Str)) : Prop := ∀ k ∈ l, ∀ z ∈ k, PyData.strOk z = true
theorem OkT.lay {l : List (List Str)} (h : OkT l) : Lay 3 (.list (l.map thP)) := by
  have hl : ∀ d ∈ l.map thP, Lay 2 d := fun d hd => by
    obtain ⟨k, hk, rfl⟩ := List.mem_map.mp hd
    exact (lay_strs (h k hk)).mono (by decide)
  obtain ⟨a, b⟩ := lay_all hl
  refine ⟨by simpa [PyData.canLay0] using a, ?_⟩
  simp only [PyData.depth]
  omega
theorem OkT.one {l : List (List Str)} (h : OkT l) {k : List Str} (hk : k ∈ l) : Lay 2 (thP k) := (lay_strs (h k hk)).mono (by decide)
theorem thL_ok {d : Int} {ks : List Str} {cs : List Chg} (h : ∀ c ∈ cs, ChgOk d ks c) : OkT (thL cs) := fun k hk z hz => by
  obtain ⟨c, hc, rfl⟩ := List.mem_map.mp hk
  have o := h c hc
  have w1 : PyData.strOk ("place" : Str) = true := by decide +kernel
  have w2 : PyData.strOk ("road" : Str) = true := by decide +kernel
  have w3 : PyData.strOk ("bar" : Str) = true := by decide +kernel
  cases c with
  | place up y =>
    rcases List.mem_cons.mp hz with e | hz
    · rw [e]; exact w1
    · rw [List.mem_singleton.mp hz]; exact nm_ok o
  | road up r =>
    rcases List.mem_cons.mp hz with e | hz
    · rw [e]; exact w2
    · rw [List.mem_singleton.mp hz]; exact nm_ok o.n
  | part n a b =>
    rcases List.mem_cons.mp hz with e | hz
    · rw [e]; exact w2
    · rw [List.mem_singleton.mp hz]; exact nm_ok o.1
  | bar up b =>
    rcases List.mem_cons.mp hz with e | hz
    · rw [e]; exact w3
    rcases List.mem_cons.mp hz with e | hz
    · rw [e]; exact nm_ok o.1
    · rw [List.mem_singleton.mp hz]; exact nm_ok o.2
theorem blL_ok {d : Int} {ks : List Str} {cs : List Chg} (h : ∀ c ∈ cs, ChgOk d ks c) : OkT (blL cs) := fun k hk z hz => by
  obtain ⟨l, hl, hk⟩ := List.mem_flatten.mp hk
  obtain ⟨c, hc, rfl⟩ := List.mem_map.mp hl
  have o := h c hc
  have w1 : PyData.strOk ("place" : Str) = true := by decide +kernel
  have w2 : PyData.strOk ("road" : Str) = true := by decide +kernel
  cases c with
  | place up y => cases hk
  | part n a b => cases hk
  | road up r =>
    rcases List.mem_cons.mp hk with rfl | hk
    · rcases List.mem_cons.mp hz with e | hz
      · rw [e]; exact w1
      · rw [List.mem_singleton.mp hz]; exact nm_ok o.s
    · rw [List.mem_singleton.mp hk] at hz
      rcases List.mem_cons.mp hz with e | hz
      · rw [e]; exact w1
      · rw [List.mem_singleton.mp hz]; exact nm_ok o.g
  | bar up b =>
    rcases List.mem_cons.mp hk with rfl | hk
    · rcases List.mem_cons.mp hz with e | hz
      · rw [e]; exact w2
      · rw [List.mem_singleton.mp hz]; exact nm_ok o.1
    · rw [List.mem_singleton.mp hk] at hz
      rcases List.mem_cons.mp hz with e | hz
      · rw [e]; exact w2
      · rw [List.mem_singleton.mp hz]; exact nm_ok o.2
/-- what two sets clash about -/
noncomputable def clashL (cs os : List Chg) : List (List Str) := open Classical in (thL cs).filter (fun k => decide (k ∈ thL os ++ blL os)) ++ (thL os).filter fun k => decide (k ∈ thL cs ++ blL cs)
theorem mem_clash {cs os : List Chg} {k : List Str} : k ∈ clashL cs os ↔ (k ∈ thL cs ∧ (k ∈ thL os ∨ k ∈ blL os)) ∨ (k ∈ thL os ∧ (k ∈ thL cs ∨ k ∈ blL cs)) := by
  unfold clashL
  rw [List.mem_append, List.mem_filter, List.mem_filter, decide_eq_true_iff, decide_eq_true_iff, List.mem_append, List.mem_append]
theorem clash_symm {cs os : List Chg} {k : List Str} : k ∈ clashL cs os ↔ k ∈ clashL os cs := by
  rw [mem_clash, mem_clash]
  exact Or.comm
end W

set_option Elab.async false
set_option linter.all false
set_option maxRecDepth 100000
set_option maxHeartbeats 4000000
namespace W
open PySem PySem.Spec PyProof.Rows L2 GxR MyG MyS SqX
/-! ### _touched_thing, _things_below -/
abbrev sTt : Stmt := top 5
abbrev sBl : Stmt := top 7
abbrev nTt : List Str := ["change"]
abbrev nBl : List Str := ["change"]
theorem scTt : FnScope nTt ["change"] (defScope sTt) := ⟨rfl, rfl, rfl, by decide +kernel, rfl, by decide +kernel, by decide +kernel⟩
theorem scBl : FnScope nBl ["change"] (defScope sBl) := ⟨rfl, rfl, rfl, by decide +kernel, rfl, by decide +kernel, by decide +kernel⟩
def spTt (K : PySem.W.Frag) (P : Addr) : Sp := fun vs H Q _ => ∃ (v : V) (c : Chg), vs = [v] ∧ ChgAt K H c v ∧ TabG H P ∧ ∀ H' y, Grew P H H' → ThAt H' (thingOf c) y → Q y H'
def spBl (K : PySem.W.Frag) (P : Addr) : Sp := fun vs H Q _ => ∃ (v : V) (c : Chg), vs = [v] ∧ ChgAt K H c v ∧ TabG H P ∧ ∀ H' B, Grew P H H' → H B = none → ThsAt H' B (belowOf c) → Q (.ref B) H'
section
variable {Pg : Program} {w : World} {K : PySem.W.Frag} {mg : Str → Option Value} {base : Heap} {C P : Addr}
theorem ok_tt {f : Addr} {fd : FuncData} {t1 : Tok} (F : Fun K "_touched_thing" "_touched_thing" sTt f fd) (i_NAME : mg "NAME" = some (.int 0 t1)) :
    FnOk Pg w K mg base CX0 1 f fd ["change"] (spTt K P) := by
  refine F.ok scTt (fun vs H Q E h => ?_) (fun cdv A outer s H vs Q E hr h => ?_)
  · obtain ⟨v, c, rfl, _⟩ := h
    rfl
  · obtain ⟨v, c, rfl, hv, hP, k⟩ := h
    refine ⟨_, (pss_cons (ps_if (pt_cmpR (r := rIn K false) op_in_seq (pe_ix (r := rIxT K) ix_tup (pv 0) pe_int (fun _ _ => rfl)) (pe_tup (pa_cons pe_str (pa_cons pe_str pa_nil))) (by rfl)) (pss_one (ps_ret (pe_tup (pa_cons pe_str (pa_cons (pe_ix (r := rIxT K) ix_tup (pv 0) pe_int (fun _ _ => rfl)) pa_nil)))))
        pss_nil)
      (pss_cons (ps_if (pt_cmpR (r := rIn K false) op_in_seq (pe_ix (r := rIxT K) ix_tup (pv 0) pe_int (fun _ _ => rfl)) (pe_tup (pa_cons pe_str (pa_cons pe_str pa_nil))) (by rfl)) (pss_one (ps_ret (pe_tup (pa_cons pe_str (pa_cons (pe_ix (r := rIxT K) ix_tup (pe_ix (r := rIxT K) ix_tup (pv 0) pe_int (fun _ _ => rfl)) (pe_gI i_NAME) (fun _ _ => rfl)) pa_nil)))))
        pss_nil)
      (pss_cons (ps_if (pt_cmpR (r := rIn K false) op_in_seq (pe_ix (r := rIxT K) ix_tup (pv 0) pe_int (fun _ _ => rfl)) (pe_tup (pa_cons pe_str (pa_cons pe_str pa_nil))) (by rfl)) (pss_one (ps_ret (pe_tup (pa_cons pe_str (pa_cons (pe_ix (r := rIxT K) ix_tup (pv 0) pe_int (fun _ _ => rfl)) (pa_cons (pe_ix (r := rIxT K) ix_tup (pv 0) pe_int (fun _ _ => rfl)) pa_nil))))))
        pss_nil)
      (pss_one (ps_ret (pe_tup (pa_cons pe_str (pa_cons (pe_ix (r := rIxT K) ix_tup (pv 0) pe_int (fun _ _ => rfl)) pa_nil)))))))), ?_⟩
    obtain ⟨t, xs, rfl, ht, htl⟩ := id hv
    have at0 : ∀ z : Str, atI (V.str z :: xs) 0 = some (.str z) := fun z => atI_nat (xs := V.str z :: xs) (j := 0) rfl
    cases c with
    | place up z =>
      refine ⟨_, rfl, t, _, 0, _, rfl, rfl, SqT.of ht, at0 _, (show 2 ≤ sizeLine by decide), fun T1 n1 => ?_⟩
      generalize eH1 : L2.upd H T1 _ = H1
      have s1 : Grew P H H1 := by rw [← eH1]; exact Grew.new hP n1
      have hT1 : H1 T1 = some (.tup [.str "place", .str "unplace"]) := by rw [← eH1]; exact upd_same
      have g1 : Grew P H H1 := s1
      have ht1 := g1.tup hP ht
      refine ⟨T1, _, rfl, .inr (SqT.of hT1), rfl, flat_strs ["place", "unplace"], ?_⟩
      rw [show inV (V.str (Chg.place up z).word) [V.str "place", V.str "unplace"] = decide ((Chg.place up z).word ∈ (["place", "unplace"] : List Str)) from inV_dec _ ["place", "unplace"]]
      refine ⟨_, rfl, if_t (show decide ((wPl up) ∈ (["place", "unplace"] : List Str)) = true by cases up <;> decide +kernel) ?_⟩
      have ex : xs = [.str z] := htl
      subst ex
      refine ⟨_, rfl, t, _, 1, _, rfl, rfl, SqT.of ht1, rfl, (show 2 ≤ sizeLine by decide), fun T nT => ?_⟩
      exact k _ _ (g1.trans (Grew.new g1.tab nT)) ⟨T, rfl, upd_same⟩
    | road up r1 =>
      refine ⟨_, rfl, t, _, 0, _, rfl, rfl, SqT.of ht, at0 _, (show 2 ≤ sizeLine by decide), fun T1 n1 => ?_⟩
      generalize eH1 : L2.upd H T1 _ = H1
      have s1 : Grew P H H1 := by rw [← eH1]; exact Grew.new hP n1
      have hT1 : H1 T1 = some (.tup [.str "place", .str "unplace"]) := by rw [← eH1]; exact upd_same
      have g1 : Grew P H H1 := s1
      have ht1 := g1.tup hP ht
      refine ⟨T1, _, rfl, .inr (SqT.of hT1), rfl, flat_strs ["place", "unplace"], ?_⟩
      rw [show inV (V.str (Chg.road up r1).word) [V.str "place", V.str "unplace"] = decide ((Chg.road up r1).word ∈ (["place", "unplace"] : List Str)) from inV_dec _ ["place", "unplace"]]
      refine ⟨_, rfl, if_f (show decide ((wRd up) ∈ (["place", "unplace"] : List Str)) = false by cases up <;> decide +kernel) ?_⟩
      refine ⟨_, rfl, t, _, 0, _, rfl, rfl, SqT.of ht1, at0 _, (show 2 ≤ sizeLine by decide), fun T2 n2 => ?_⟩
      generalize eH2 : L2.upd H1 T2 _ = H2
      have s2 : Grew P H1 H2 := by rw [← eH2]; exact Grew.new g1.tab n2
      have hT2 : H2 T2 = some (.tup [.str "road", .str "unroad"]) := by rw [← eH2]; exact upd_same
      have g2 : Grew P H H2 := g1.trans s2
      have ht2 := g2.tup hP ht
      refine ⟨T2, _, rfl, .inr (SqT.of hT2), rfl, flat_strs ["road", "unroad"], ?_⟩
      rw [show inV (V.str (Chg.road up r1).word) [V.str "road", V.str "unroad"] = decide ((Chg.road up r1).word ∈ (["road", "unroad"] : List Str)) from inV_dec _ ["road", "unroad"]]
      refine ⟨_, rfl, if_t (show decide ((wRd up) ∈ (["road", "unroad"] : List Str)) = true by cases up <;> decide +kernel) ?_⟩
      obtain ⟨vr, rfl, hr1⟩ : ∃ vr, xs = [vr] ∧ RoadAt K H r1 vr := htl
      obtain ⟨tr, u, hh, rfl, et, _, _⟩ := hr1.grew g2 hP
      refine ⟨_, rfl, t, _, 1, _, rfl, rfl, SqT.of ht2, rfl, tr, _, 0, _, rfl, rfl, SqT.of et, rfl, (show 2 ≤ sizeLine by decide), fun T nT => ?_⟩
      exact k _ _ (g2.trans (Grew.new g2.tab nT)) ⟨T, rfl, upd_same⟩
    | bar up b =>
      refine ⟨_, rfl, t, _, 0, _, rfl, rfl, SqT.of ht, at0 _, (show 2 ≤ sizeLine by decide), fun T1 n1 => ?_⟩
      generalize eH1 : L2.upd H T1 _ = H1
      have s1 : Grew P H H1 := by rw [← eH1]; exact Grew.new hP n1
      have hT1 : H1 T1 = some (.tup [.str "place", .str "unplace"]) := by rw [← eH1]; exact upd_same
      have g1 : Grew P H H1 := s1
      have ht1 := g1.tup hP ht
      refine ⟨T1, _, rfl, .inr (SqT.of hT1), rfl, flat_strs ["place", "unplace"], ?_⟩
      rw [show inV (V.str (Chg.bar up b).word) [V.str "place", V.str "unplace"] = decide ((Chg.bar up b).word ∈ (["place", "unplace"] : List Str)) from inV_dec _ ["place", "unplace"]]
      refine ⟨_, rfl, if_f (show decide ((wBr up) ∈ (["place", "unplace"] : List Str)) = false by cases up <;> decide +kernel) ?_⟩
      refine ⟨_, rfl, t, _, 0, _, rfl, rfl, SqT.of ht1, at0 _, (show 2 ≤ sizeLine by decide), fun T2 n2 => ?_⟩
      generalize eH2 : L2.upd H1 T2 _ = H2
      have s2 : Grew P H1 H2 := by rw [← eH2]; exact Grew.new g1.tab n2
      have hT2 : H2 T2 = some (.tup [.str "road", .str "unroad"]) := by rw [← eH2]; exact upd_same
      have g2 : Grew P H H2 := g1.trans s2
      have ht2 := g2.tup hP ht
      refine ⟨T2, _, rfl, .inr (SqT.of hT2), rfl, flat_strs ["road", "unroad"], ?_⟩
      rw [show inV (V.str (Chg.bar up b).word) [V.str "road", V.str "unroad"] = decide ((Chg.bar up b).word ∈ (["road", "unroad"] : List Str)) from inV_dec _ ["road", "unroad"]]
      refine ⟨_, rfl, if_f (show decide ((wBr up) ∈ (["road", "unroad"] : List Str)) = false by cases up <;> decide +kernel) ?_⟩
      refine ⟨_, rfl, t, _, 0, _, rfl, rfl, SqT.of ht2, at0 _, (show 2 ≤ sizeLine by decide), fun T3 n3 => ?_⟩
      generalize eH3 : L2.upd H2 T3 _ = H3
      have s3 : Grew P H2 H3 := by rw [← eH3]; exact Grew.new g2.tab n3
      have hT3 : H3 T3 = some (.tup [.str "bar", .str "unbar"]) := by rw [← eH3]; exact upd_same
      have g3 : Grew P H H3 := g2.trans s3
      have ht3 := g3.tup hP ht
      refine ⟨T3, _, rfl, .inr (SqT.of hT3), rfl, flat_strs ["bar", "unbar"], ?_⟩
      rw [show inV (V.str (Chg.bar up b).word) [V.str "bar", V.str "unbar"] = decide ((Chg.bar up b).word ∈ (["bar", "unbar"] : List Str)) from inV_dec _ ["bar", "unbar"]]
      refine ⟨_, rfl, if_t (show decide ((wBr up) ∈ (["bar", "unbar"] : List Str)) = true by cases up <;> decide +kernel) ?_⟩
      have ex : xs = [.str b.1, .str b.2] := htl
      subst ex
      refine ⟨_, rfl, t, _, 1, _, rfl, rfl, SqT.of ht3, rfl, _, rfl, t, _, 2, _, rfl, rfl, SqT.of ht3, rfl, (show 3 ≤ sizeLine by decide), fun T nT => ?_⟩
      exact k _ _ (g3.trans (Grew.new g3.tab nT)) ⟨T, rfl, upd_same⟩
    | part nm a b =>
      refine ⟨_, rfl, t, _, 0, _, rfl, rfl, SqT.of ht, at0 _, (show 2 ≤ sizeLine by decide), fun T1 n1 => ?_⟩
      generalize eH1 : L2.upd H T1 _ = H1
      have s1 : Grew P H H1 := by rw [← eH1]; exact Grew.new hP n1
      have hT1 : H1 T1 = some (.tup [.str "place", .str "unplace"]) := by rw [← eH1]; exact upd_same
      have g1 : Grew P H H1 := s1
      have ht1 := g1.tup hP ht
      refine ⟨T1, _, rfl, .inr (SqT.of hT1), rfl, flat_strs ["place", "unplace"], ?_⟩
      rw [show inV (V.str (Chg.part nm a b).word) [V.str "place", V.str "unplace"] = decide ((Chg.part nm a b).word ∈ (["place", "unplace"] : List Str)) from inV_dec _ ["place", "unplace"]]
      refine ⟨_, rfl, if_f (show decide ((a.word) ∈ (["place", "unplace"] : List Str)) = false by cases a with | mi i => (show decide (("minutes" : Str) ∈ (["place", "unplace"] : List Str)) = false; decide +kernel) | ki us => (show decide (("kinds" : Str) ∈ (["place", "unplace"] : List Str)) = false; decide +kernel) | ho hs => (show decide (("hours" : Str) ∈ (["place", "unplace"] : List Str)) = false; decide +kernel)) ?_⟩
      refine ⟨_, rfl, t, _, 0, _, rfl, rfl, SqT.of ht1, at0 _, (show 2 ≤ sizeLine by decide), fun T2 n2 => ?_⟩
      generalize eH2 : L2.upd H1 T2 _ = H2
      have s2 : Grew P H1 H2 := by rw [← eH2]; exact Grew.new g1.tab n2
      have hT2 : H2 T2 = some (.tup [.str "road", .str "unroad"]) := by rw [← eH2]; exact upd_same
      have g2 : Grew P H H2 := g1.trans s2
      have ht2 := g2.tup hP ht
      refine ⟨T2, _, rfl, .inr (SqT.of hT2), rfl, flat_strs ["road", "unroad"], ?_⟩
      rw [show inV (V.str (Chg.part nm a b).word) [V.str "road", V.str "unroad"] = decide ((Chg.part nm a b).word ∈ (["road", "unroad"] : List Str)) from inV_dec _ ["road", "unroad"]]
      refine ⟨_, rfl, if_f (show decide ((a.word) ∈ (["road", "unroad"] : List Str)) = false by cases a with | mi i => (show decide (("minutes" : Str) ∈ (["road", "unroad"] : List Str)) = false; decide +kernel) | ki us => (show decide (("kinds" : Str) ∈ (["road", "unroad"] : List Str)) = false; decide +kernel) | ho hs => (show decide (("hours" : Str) ∈ (["road", "unroad"] : List Str)) = false; decide +kernel)) ?_⟩
      refine ⟨_, rfl, t, _, 0, _, rfl, rfl, SqT.of ht2, at0 _, (show 2 ≤ sizeLine by decide), fun T3 n3 => ?_⟩
      generalize eH3 : L2.upd H2 T3 _ = H3
      have s3 : Grew P H2 H3 := by rw [← eH3]; exact Grew.new g2.tab n3
      have hT3 : H3 T3 = some (.tup [.str "bar", .str "unbar"]) := by rw [← eH3]; exact upd_same
      have g3 : Grew P H H3 := g2.trans s3
      have ht3 := g3.tup hP ht
      refine ⟨T3, _, rfl, .inr (SqT.of hT3), rfl, flat_strs ["bar", "unbar"], ?_⟩
      rw [show inV (V.str (Chg.part nm a b).word) [V.str "bar", V.str "unbar"] = decide ((Chg.part nm a b).word ∈ (["bar", "unbar"] : List Str)) from inV_dec _ ["bar", "unbar"]]
      refine ⟨_, rfl, if_f (show decide ((a.word) ∈ (["bar", "unbar"] : List Str)) = false by cases a with | mi i => (show decide (("minutes" : Str) ∈ (["bar", "unbar"] : List Str)) = false; decide +kernel) | ki us => (show decide (("kinds" : Str) ∈ (["bar", "unbar"] : List Str)) = false; decide +kernel) | ho hs => (show decide (("hours" : Str) ∈ (["bar", "unbar"] : List Str)) = false; decide +kernel)) ?_⟩
      obtain ⟨va, vb, rfl, ma, mb⟩ := htl
      refine ⟨_, rfl, t, _, 1, _, rfl, rfl, SqT.of ht3, rfl, (show 2 ≤ sizeLine by decide), fun T nT => ?_⟩
      exact k _ _ (g3.trans (Grew.new g3.tab nT)) ⟨T, rfl, upd_same⟩
theorem ok_bl {f : Addr} {fd : FuncData} {t1 t2 : Tok} (F : Fun K "_things_below" "_things_below" sBl f fd) (i_START : mg "START" = some (.int 1 t1)) (i_END : mg "END" = some (.int 2 t2)) :
    FnOk Pg w K mg base CX0 1 f fd ["change"] (spBl K P) := by
  refine F.ok scBl (fun vs H Q E h => ?_) (fun cdv A outer s H vs Q E hr h => ?_)
  · obtain ⟨v, c, rfl, _⟩ := h
    rfl
  · obtain ⟨v, c, rfl, hv, hP, k⟩ := h
    refine ⟨_, (pss_cons (ps_if (pt_cmpR (r := rIn K false) op_in_seq (pe_ix (r := rIxT K) ix_tup (pv 0) pe_int (fun _ _ => rfl)) (pe_tup (pa_cons pe_str (pa_cons pe_str pa_nil))) (by rfl)) (pss_one (ps_ret (pe_lst (pa_cons (pe_tup (pa_cons pe_str (pa_cons (pe_ix (r := rIxT K) ix_tup (pe_ix (r := rIxT K) ix_tup (pv 0) pe_int (fun _ _ => rfl)) (pe_gI i_START) (fun _ _ => rfl)) pa_nil))) (pa_cons (pe_tup (pa_cons pe_str (pa_cons (pe_ix (r := rIxT K) ix_tup (pe_ix (r := rIxT K) ix_tup (pv 0) pe_int (fun _ _ => rfl)) (pe_gI i_END) (fun _ _ => rfl)) pa_nil))) pa_nil)))))
        pss_nil)
      (pss_cons (ps_if (pt_cmpR (r := rIn K false) op_in_seq (pe_ix (r := rIxT K) ix_tup (pv 0) pe_int (fun _ _ => rfl)) (pe_tup (pa_cons pe_str (pa_cons pe_str pa_nil))) (by rfl)) (pss_one (ps_ret (pe_lst (pa_cons (pe_tup (pa_cons pe_str (pa_cons (pe_ix (r := rIxT K) ix_tup (pv 0) pe_int (fun _ _ => rfl)) pa_nil))) (pa_cons (pe_tup (pa_cons pe_str (pa_cons (pe_ix (r := rIxT K) ix_tup (pv 0) pe_int (fun _ _ => rfl)) pa_nil))) pa_nil)))))
        pss_nil)
      (pss_one (ps_ret (pe_lst pa_nil))))), ?_⟩
    obtain ⟨t, xs, rfl, ht, htl⟩ := id hv
    have at0 : ∀ z : Str, atI (V.str z :: xs) 0 = some (.str z) := fun z => atI_nat (xs := V.str z :: xs) (j := 0) rfl
    cases c with
    | place up z =>
      refine ⟨_, rfl, t, _, 0, _, rfl, rfl, SqT.of ht, at0 _, (show 2 ≤ sizeLine by decide), fun T1 n1 => ?_⟩
      generalize eH1 : L2.upd H T1 _ = H1
      have s1 : Grew P H H1 := by rw [← eH1]; exact Grew.new hP n1
      have hT1 : H1 T1 = some (.tup [.str "road", .str "unroad"]) := by rw [← eH1]; exact upd_same
      have g1 : Grew P H H1 := s1
      have ht1 := g1.tup hP ht
      refine ⟨T1, _, rfl, .inr (SqT.of hT1), rfl, flat_strs ["road", "unroad"], ?_⟩
      rw [show inV (V.str (Chg.place up z).word) [V.str "road", V.str "unroad"] = decide ((Chg.place up z).word ∈ (["road", "unroad"] : List Str)) from inV_dec _ ["road", "unroad"]]
      refine ⟨_, rfl, if_f (show decide ((wPl up) ∈ (["road", "unroad"] : List Str)) = false by cases up <;> decide +kernel) ?_⟩
      refine ⟨_, rfl, t, _, 0, _, rfl, rfl, SqT.of ht1, at0 _, (show 2 ≤ sizeLine by decide), fun T2 n2 => ?_⟩
      generalize eH2 : L2.upd H1 T2 _ = H2
      have s2 : Grew P H1 H2 := by rw [← eH2]; exact Grew.new g1.tab n2
      have hT2 : H2 T2 = some (.tup [.str "bar", .str "unbar"]) := by rw [← eH2]; exact upd_same
      have g2 : Grew P H H2 := g1.trans s2
      have ht2 := g2.tup hP ht
      refine ⟨T2, _, rfl, .inr (SqT.of hT2), rfl, flat_strs ["bar", "unbar"], ?_⟩
      rw [show inV (V.str (Chg.place up z).word) [V.str "bar", V.str "unbar"] = decide ((Chg.place up z).word ∈ (["bar", "unbar"] : List Str)) from inV_dec _ ["bar", "unbar"]]
      refine ⟨_, rfl, if_f (show decide ((wPl up) ∈ (["bar", "unbar"] : List Str)) = false by cases up <;> decide +kernel) ?_⟩
      refine ⟨Nat.zero_le _, fun B nB => ?_⟩
      exact k _ B (g2.trans (Grew.new g2.tab nB)) (g2.free nB) ⟨_, upd_same, .nil⟩
    | road up r1 =>
      refine ⟨_, rfl, t, _, 0, _, rfl, rfl, SqT.of ht, at0 _, (show 2 ≤ sizeLine by decide), fun T1 n1 => ?_⟩
      generalize eH1 : L2.upd H T1 _ = H1
      have s1 : Grew P H H1 := by rw [← eH1]; exact Grew.new hP n1
      have hT1 : H1 T1 = some (.tup [.str "road", .str "unroad"]) := by rw [← eH1]; exact upd_same
      have g1 : Grew P H H1 := s1
      have ht1 := g1.tup hP ht
      refine ⟨T1, _, rfl, .inr (SqT.of hT1), rfl, flat_strs ["road", "unroad"], ?_⟩
      rw [show inV (V.str (Chg.road up r1).word) [V.str "road", V.str "unroad"] = decide ((Chg.road up r1).word ∈ (["road", "unroad"] : List Str)) from inV_dec _ ["road", "unroad"]]
      refine ⟨_, rfl, if_t (show decide ((wRd up) ∈ (["road", "unroad"] : List Str)) = true by cases up <;> decide +kernel) ?_⟩
      obtain ⟨vr, rfl, hr1⟩ : ∃ vr, xs = [vr] ∧ RoadAt K H r1 vr := htl
      obtain ⟨tr, u, hh, rfl, et, _, _⟩ := hr1.grew g1 hP
      refine ⟨_, rfl, t, _, 1, _, rfl, rfl, SqT.of ht1, rfl, tr, _, 1, _, rfl, rfl, SqT.of et, rfl, (show 2 ≤ sizeLine by decide), fun A1 a1 => ?_⟩
      generalize eK1 : L2.upd _ A1 _ = K1
      have q1 : Grew P H1 K1 := by rw [← eK1]; exact Grew.new g1.tab a1
      have hA1 : K1 A1 = some (.tup [.str "place", .str r1.start]) := by rw [← eK1]; exact upd_same
      refine ⟨_, rfl, t, _, 1, _, rfl, rfl, SqT.of (q1.tup g1.tab ht1), rfl, tr, _, 2, _, rfl, rfl, SqT.of (q1.tup g1.tab et), rfl, (show 2 ≤ sizeLine by decide), fun A2 a2 => ?_⟩
      generalize eK2 : L2.upd K1 A2 _ = K2
      have q2 : Grew P K1 K2 := by rw [← eK2]; exact Grew.new q1.tab a2
      have hA2 : K2 A2 = some (.tup [.str "place", .str r1.goal]) := by rw [← eK2]; exact upd_same
      refine ⟨(show 2 ≤ sizeLine by decide), fun B nB => ?_⟩
      have gB := g1.trans (q1.trans q2)
      have kp : ∀ {a : Addr} {ys : List V}, K2 a = some (.tup ys) → L2.upd K2 B (.lst [.ref A1, .ref A2]) a = some (.tup ys) := fun {a ys} e => by rw [upd_ne (fun z => by rw [z, nB] at e; cases e)]; exact e
      exact k _ B (gB.trans (Grew.new gB.tab nB)) (gB.free nB) ⟨_, upd_same, .cons ⟨A1, rfl, kp (q2.tup q1.tab hA1)⟩ (.cons ⟨A2, rfl, kp hA2⟩ .nil)⟩
    | bar up b =>
      refine ⟨_, rfl, t, _, 0, _, rfl, rfl, SqT.of ht, at0 _, (show 2 ≤ sizeLine by decide), fun T1 n1 => ?_⟩
      generalize eH1 : L2.upd H T1 _ = H1
      have s1 : Grew P H H1 := by rw [← eH1]; exact Grew.new hP n1
      have hT1 : H1 T1 = some (.tup [.str "road", .str "unroad"]) := by rw [← eH1]; exact upd_same
      have g1 : Grew P H H1 := s1
      have ht1 := g1.tup hP ht
      refine ⟨T1, _, rfl, .inr (SqT.of hT1), rfl, flat_strs ["road", "unroad"], ?_⟩
      rw [show inV (V.str (Chg.bar up b).word) [V.str "road", V.str "unroad"] = decide ((Chg.bar up b).word ∈ (["road", "unroad"] : List Str)) from inV_dec _ ["road", "unroad"]]
      refine ⟨_, rfl, if_f (show decide ((wBr up) ∈ (["road", "unroad"] : List Str)) = false by cases up <;> decide +kernel) ?_⟩
      refine ⟨_, rfl, t, _, 0, _, rfl, rfl, SqT.of ht1, at0 _, (show 2 ≤ sizeLine by decide), fun T2 n2 => ?_⟩
      generalize eH2 : L2.upd H1 T2 _ = H2
      have s2 : Grew P H1 H2 := by rw [← eH2]; exact Grew.new g1.tab n2
      have hT2 : H2 T2 = some (.tup [.str "bar", .str "unbar"]) := by rw [← eH2]; exact upd_same
      have g2 : Grew P H H2 := g1.trans s2
      have ht2 := g2.tup hP ht
      refine ⟨T2, _, rfl, .inr (SqT.of hT2), rfl, flat_strs ["bar", "unbar"], ?_⟩
      rw [show inV (V.str (Chg.bar up b).word) [V.str "bar", V.str "unbar"] = decide ((Chg.bar up b).word ∈ (["bar", "unbar"] : List Str)) from inV_dec _ ["bar", "unbar"]]
      refine ⟨_, rfl, if_t (show decide ((wBr up) ∈ (["bar", "unbar"] : List Str)) = true by cases up <;> decide +kernel) ?_⟩
      have ex : xs = [.str b.1, .str b.2] := htl
      subst ex
      refine ⟨_, rfl, t, _, 1, _, rfl, rfl, SqT.of ht2, rfl, (show 2 ≤ sizeLine by decide), fun A1 a1 => ?_⟩
      generalize eK1 : L2.upd _ A1 _ = K1
      have q1 : Grew P H2 K1 := by rw [← eK1]; exact Grew.new g2.tab a1
      have hA1 : K1 A1 = some (.tup [.str "road", .str b.1]) := by rw [← eK1]; exact upd_same
      refine ⟨_, rfl, t, _, 2, _, rfl, rfl, SqT.of (q1.tup g2.tab ht2), rfl, (show 2 ≤ sizeLine by decide), fun A2 a2 => ?_⟩
      generalize eK2 : L2.upd K1 A2 _ = K2
      have q2 : Grew P K1 K2 := by rw [← eK2]; exact Grew.new q1.tab a2
      have hA2 : K2 A2 = some (.tup [.str "road", .str b.2]) := by rw [← eK2]; exact upd_same
      refine ⟨(show 2 ≤ sizeLine by decide), fun B nB => ?_⟩
      have gB := g2.trans (q1.trans q2)
      have kp : ∀ {a : Addr} {ys : List V}, K2 a = some (.tup ys) → L2.upd K2 B (.lst [.ref A1, .ref A2]) a = some (.tup ys) := fun {a ys} e => by rw [upd_ne (fun z => by rw [z, nB] at e; cases e)]; exact e
      exact k _ B (gB.trans (Grew.new gB.tab nB)) (gB.free nB) ⟨_, upd_same, .cons ⟨A1, rfl, kp (q2.tup q1.tab hA1)⟩ (.cons ⟨A2, rfl, kp hA2⟩ .nil)⟩
    | part nm a b =>
      refine ⟨_, rfl, t, _, 0, _, rfl, rfl, SqT.of ht, at0 _, (show 2 ≤ sizeLine by decide), fun T1 n1 => ?_⟩
      generalize eH1 : L2.upd H T1 _ = H1
      have s1 : Grew P H H1 := by rw [← eH1]; exact Grew.new hP n1
      have hT1 : H1 T1 = some (.tup [.str "road", .str "unroad"]) := by rw [← eH1]; exact upd_same
      have g1 : Grew P H H1 := s1
      have ht1 := g1.tup hP ht
      refine ⟨T1, _, rfl, .inr (SqT.of hT1), rfl, flat_strs ["road", "unroad"], ?_⟩
      rw [show inV (V.str (Chg.part nm a b).word) [V.str "road", V.str "unroad"] = decide ((Chg.part nm a b).word ∈ (["road", "unroad"] : List Str)) from inV_dec _ ["road", "unroad"]]
      refine ⟨_, rfl, if_f (show decide ((a.word) ∈ (["road", "unroad"] : List Str)) = false by cases a with | mi i => (show decide (("minutes" : Str) ∈ (["road", "unroad"] : List Str)) = false; decide +kernel) | ki us => (show decide (("kinds" : Str) ∈ (["road", "unroad"] : List Str)) = false; decide +kernel) | ho hs => (show decide (("hours" : Str) ∈ (["road", "unroad"] : List Str)) = false; decide +kernel)) ?_⟩
      refine ⟨_, rfl, t, _, 0, _, rfl, rfl, SqT.of ht1, at0 _, (show 2 ≤ sizeLine by decide), fun T2 n2 => ?_⟩
      generalize eH2 : L2.upd H1 T2 _ = H2
      have s2 : Grew P H1 H2 := by rw [← eH2]; exact Grew.new g1.tab n2
      have hT2 : H2 T2 = some (.tup [.str "bar", .str "unbar"]) := by rw [← eH2]; exact upd_same
      have g2 : Grew P H H2 := g1.trans s2
      have ht2 := g2.tup hP ht
      refine ⟨T2, _, rfl, .inr (SqT.of hT2), rfl, flat_strs ["bar", "unbar"], ?_⟩
      rw [show inV (V.str (Chg.part nm a b).word) [V.str "bar", V.str "unbar"] = decide ((Chg.part nm a b).word ∈ (["bar", "unbar"] : List Str)) from inV_dec _ ["bar", "unbar"]]
      refine ⟨_, rfl, if_f (show decide ((a.word) ∈ (["bar", "unbar"] : List Str)) = false by cases a with | mi i => (show decide (("minutes" : Str) ∈ (["bar", "unbar"] : List Str)) = false; decide +kernel) | ki us => (show decide (("kinds" : Str) ∈ (["bar", "unbar"] : List Str)) = false; decide +kernel) | ho hs => (show decide (("hours" : Str) ∈ (["bar", "unbar"] : List Str)) = false; decide +kernel)) ?_⟩
      refine ⟨Nat.zero_le _, fun B nB => ?_⟩
      exact k _ B (g2.trans (Grew.new g2.tab nB)) (g2.free nB) ⟨_, upd_same, .nil⟩
end
end W

set_option Elab.async false
set_option linter.all false
set_option maxRecDepth 100000
set_option maxHeartbeats 4000000
namespace W
open PySem PySem.Spec PyProof.Rows L2 GxR MyG MyS SqX
theorem pi_listK {X : Cx} {l tg : Expr} {tl : TE} {K : PySem.W.Frag} (hK : X.K = K) (hl : PE X l tl) : PI X tg l (iList K tl) := by
  subst hK
  exact pi_list hl
/-! ### touched, leaned_on -/
abbrev sTo : Stmt := top 4
abbrev sLe : Stmt := top 6
abbrev nTo : List Str := ["changes", "change"]
abbrev nLe : List Str := ["changes", "change", "thing"]
theorem scTo : FnScope nTo ["changes"] (defScope sTo) := ⟨rfl, rfl, rfl, by decide +kernel, rfl, by decide +kernel, by decide +kernel⟩
theorem scLe : FnScope nLe ["changes"] (defScope sLe) := ⟨rfl, rfl, rfl, by decide +kernel, rfl, by decide +kernel, by decide +kernel⟩
def spThs (K : PySem.W.Frag) (P : Addr) (F : List Chg → List (List Str)) : Sp := fun vs H Q _ => ∃ (L : Addr) (d : Int) (ks : List Str) (cs : List Chg), vs = [.ref L] ∧ CsAt K H L d ks cs ∧ cs.length ≤ 30 ∧ TabG H P ∧ ∀ H' B m, Grew P H H' → H B = none → ThsAt H' B m → Told (F cs) m → Q (.ref B) H'
/-- a set of things that is being filled -/
structure SetAt2 (P : Addr) (Pg : Program) (w : World) (H H' : Hp) (D : Addr) (l : List (List Str)) : Prop where
  g : Grew P H H'
  ex : ∃ Ls : List (Addr × List Str), H' D = some (PSetO Pg w D Ls) ∧ (∀ p ∈ Ls, H' p.1 = some (.tup (p.2.map V.str))) ∧ (∀ k, k ∈ Ls.map (·.2) ↔ k ∈ l) ∧ (Ls.map (·.2)).Nodup
theorem SetAt2.new {P : Addr} {Pg : Program} {w : World} {H : Hp} {D : Addr} (hP : TabG H P) (nD : H D = none) : SetAt2 P Pg w H (L2.upd H D (PSetO Pg w D [])) D [] :=
  ⟨Grew.new hP nD, [], upd_same, fun p hp => (by cases hp), fun k => by simp, List.nodup_nil⟩
theorem SetAt2.on {P : Addr} {Pg : Program} {w : World} {H H1 H2 : Hp} {D : Addr} {l : List (List Str)} (h : SetAt2 P Pg w H H1 D l) (hP : TabG H P) (nD : H D = none) (g : Grew P H1 H2) : SetAt2 P Pg w H H2 D l := by
  obtain ⟨Ls, e, t, m, nd⟩ := h.ex
  exact ⟨h.g.trans g, Ls, g.get h.g.tab e (fun _ z => by cases z), fun p hp => g.tup h.g.tab (t p hp), m, nd⟩
theorem SetAt2.add {P : Addr} {Pg : Program} {w : World} {H H1 : Hp} {D b : Addr} {l : List (List Str)} {k : List Str} {L L' : List (Addr × List Str)} (g : Grew P H H1) (nD : H D = none) (hD : H1 D = some (PSetO Pg w D L)) (ht : ∀ p ∈ L, H1 p.1 = some (.tup (p.2.map V.str))) (hm : ∀ k, k ∈ L.map (·.2) ↔ k ∈ l) (nd : (L.map (·.2)).Nodup)
    (hb : H1 b = some (.tup (k.map V.str))) (c1 : k ∈ L.map (·.2) → L' = L) (c2 : k ∉ L.map (·.2) → L'.Perm ((b, k) :: L)) : SetAt2 P Pg w H (L2.upd H1 D (PSetO Pg w D L')) D (l ++ [k]) := by
  have kp : ∀ {a : Addr} {ys : List V}, H1 a = some (.tup ys) → L2.upd H1 D (PSetO Pg w D L') a = some (.tup ys) := fun {a ys} e => by rw [upd_ne (fun z => by rw [z, hD] at e; cases e)]; exact e
  refine ⟨g.write hD (fun _ z => by cases z) nD, L', upd_same, ?_, ?_, ?_⟩
  · by_cases c : k ∈ L.map (·.2)
    · obtain rfl := c1 c
      exact fun p hp => kp (ht p hp)
    · intro p hp
      rcases List.mem_cons.mp ((c2 c).mem_iff.mp hp) with e | hp
      · rw [e]; exact kp hb
      · exact kp (ht p hp)
  · intro q
    rw [List.mem_append, List.mem_singleton]
    by_cases c : k ∈ L.map (·.2)
    · rw [c1 c, hm q]
      exact ⟨.inl, fun h => h.elim id fun e => by rw [e]; exact (hm k).mp c⟩
    · rw [((c2 c).map (·.2)).mem_iff, List.map_cons, List.mem_cons, hm q]
      exact ⟨fun h => h.elim .inr .inl, fun h => h.elim .inr .inl⟩
  · by_cases c : k ∈ L.map (·.2)
    · rw [c1 c]; exact nd
    · refine ((c2 c).map (·.2)).nodup_iff.mpr ?_
      rw [List.map_cons]
      exact List.nodup_cons.mpr ⟨c, nd⟩
theorem SetAt2.few {l : List (List Str)} {L : List (Addr × List Str)} (hm : ∀ k, k ∈ L.map (·.2) ↔ k ∈ l) (nd : (L.map (·.2)).Nodup) : L.length ≤ l.length := by
  have := nodup_len nd fun k hk => (hm k).mp hk
  rwa [List.length_map] at this
theorem things_of {P : Addr} {H : Hp} : ∀ {L : List (Addr × List Str)}, (∀ p ∈ L, H p.1 = some (.tup (p.2.map V.str))) → Paired (ThAt H) (L.map (·.2)) (L.map fun q => V.ref q.1)
  | [], _ => .nil
  | p :: L, h => .cons ⟨p.1, rfl, h p List.mem_cons_self⟩ (things_of (P := P) fun q hq => h q (List.mem_cons_of_mem _ hq))
/-- the set, sorted -/
theorem SetAt2.sorted {P : Addr} {Pg : Program} {w : World} {H H1 : Hp} {D : Addr} {l : List (List Str)} {Q : VK} {K : PySem.W.Frag} (h : SetAt2 P Pg w H H1 D l) (hP : TabG H P) (ne : ∀ k ∈ l, k ≠ []) (k : ∀ H' B m, Grew P H H' → H B = none → ThsAt H' B m → Told l m → Q (.ref B) H') : rSortedP K Pg w [V.ref D] H1 Q := by
  obtain ⟨g, Ls, hD, ht, hm, nd⟩ := h
  refine ⟨D, Ls, rfl, hD, fun p hp => ⟨SqT.of (ht p hp), ne _ ((hm p.2).mp (List.mem_map.mpr ⟨p, hp, rfl⟩))⟩, fun L' B pm nd' few pw nB => ?_⟩
  have g2 := Grew.new (o := .lst (L'.map fun q => V.ref q.1)) g.tab nB
  refine k _ B (L'.map (·.2)) (g.trans g2) (g.free nB) ⟨_, upd_same, things_of (P := P) fun p hp => g2.tup g.tab (ht p (pm.mem_iff.mp hp))⟩ ⟨nd', List.pairwise_map.mpr pw, fun q => ?_⟩
  rw [(pm.map (·.2)).mem_iff]
  exact hm q
section
variable {Pg : Program} {w : World} {K : PySem.W.Frag} {mg : Str → Option Value} {base : Heap} {C P : Addr}
theorem ok_to {f fT : Addr} {fd fdT : FuncData} (F : Fun K "touched" "touched" sTo f fd) (hs : mg "sorted" = none)
    (GTt : FnOk Pg w K mg base CX0 1 fT fdT ["change"] (spTt K P)) (gTt : mg "_touched_thing" = some (.ref fT)) (kTt : PySem.W.keepIn K (.ref fT) = true) (bTt : Binds K fdT ["change"] []) :
    FnOk Pg w K mg base CX0 2 f fd ["changes"] (spThs K P thL) := by
  refine F.ok scTo (fun vs H Q E h => ?_) (fun cdv A outer s H vs Q E hr h => ?_)
  · obtain ⟨L, d, ks, cs, rfl, _⟩ := h
    rfl
  · obtain ⟨L, d, ks, cs, rfl, ⟨xs, hL, hcs, hok⟩, l30, hP, k⟩ := h
    have lx := Paired.len hcs
    have u64 : (A.deeper (envOfC "touched" (defScope sTo) s.heap.objs.size f cdv)).units + 64 < cLine := hr.units
    refine ⟨_, pss_one (ps_ret (pe_callB (r := rSortedP K Pg w) (cr_sortedP2 rfl) (by rfl) hs (by decide +kernel) (pa_cons (MyC.pe_s1 (own := [("change", 1)]) (ga := gName 1) (ca := tYes) rfl u64 scTo.nd (pi_list (pv 0)) (blkOk_by (N := nTo) (sc := defScope sTo) (by decide +kernel)) (fun _ _ _ _ _ => pg_name (i := 1) scTo.nd rfl (Or.inl rfl)) (fun _ _ _ _ _ => pts_nil) (fun _ _ _ _ _ => pe_call GTt (hr.mono (by decide)) (by rfl) gTt kTt bTt .nil pass0 (pa_cons (pv 1) pa_nil))) pa_nil))), ?_⟩
    refine ⟨_, rfl, L, rfl, ⟨_, SqL.of hL⟩, fun D nD => MyC.s1_list (K := K) (P := Pg) (w := w) (a := L) (xs := xs) (fun i H' => SetAt2 P Pg w H H' D ((cs.take i).map thingOf)) (SetAt2.new hP nD) (fun i H' _ p => SqL.of (p.g.lst hP hL)) (fun i v H1 hv p => ?_) (fun H1 p => ?_)⟩
    · obtain ⟨c, hc, hm⟩ := Paired.at hcs hv
      have hm1 := hm.grew p.g hP
      refine ⟨rfl, _, rfl, v, c, rfl, hm1, p.g.tab, fun H3 y g3 hy => ?_⟩
      obtain ⟨g1, Ls, hD, ht, hmem, nd⟩ := p.on hP nD g3
      obtain ⟨t, rfl, et⟩ := hy
      have few := SetAt2.few hmem nd
      rw [List.length_map, List.length_take] at few
      refine ⟨t, thingOf c, Ls, rfl, SqT.of et, hD, fun p hp => SqT.of (ht p hp), by omega, fun L' c1 c2 => ?_⟩
      rw [List.take_succ, hc, List.map_append]
      exact SetAt2.add g1 nD hD ht hmem nd et c1 c2
    · rw [← lx, List.take_length] at p
      exact p.sorted hP thL_ne k
theorem ok_le {f fB : Addr} {fd fdB : FuncData} (F : Fun K "leaned_on" "leaned_on" sLe f fd) (hs : mg "sorted" = none)
    (GBl : FnOk Pg w K mg base CX0 1 fB fdB ["change"] (spBl K P)) (gBl : mg "_things_below" = some (.ref fB)) (kBl : PySem.W.keepIn K (.ref fB) = true) (bBl : Binds K fdB ["change"] []) :
    FnOk Pg w K mg base CX0 2 f fd ["changes"] (spThs K P blL) := by
  refine F.ok scLe (fun vs H Q E h => ?_) (fun cdv A outer s H vs Q E hr h => ?_)
  · obtain ⟨L, d, ks, cs, rfl, _⟩ := h
    rfl
  · obtain ⟨L, d, ks, cs, rfl, ⟨xs, hL, hcs, hok⟩, l30, hP, k⟩ := h
    have lx := Paired.len hcs
    have u64 : (A.deeper (envOfC "leaned_on" (defScope sLe) s.heap.objs.size f cdv)).units + 64 < cLine := hr.units
    refine ⟨_, pss_one (ps_ret (pe_callB (r := rSortedP K Pg w) (cr_sortedP2 rfl) (by rfl) hs (by decide +kernel) (pa_cons (MyC.pe_s2 (own := [("change", 1), ("thing", 2)]) (vb := [2]) (ga := gName 1) (ca := tYes) (gb := gName 2) (cb := tYes) rfl u64 scLe.nd (pi_list (pv 0)) (blkOk_by (N := nLe) (sc := defScope sLe) (by decide +kernel)) (by decide) (fun _ _ _ _ _ => pg_name (i := 1) scLe.nd rfl (Or.inl rfl)) (fun _ _ _ _ _ => pts_nil) (fun _ _ _ _ _ => pi_listK (K := K) rfl (pe_call GBl (hr.mono (by decide)) (by rfl) gBl kBl bBl .nil pass0 (pa_cons (pv 1) pa_nil))) (fun _ _ _ _ _ => pg_name (i := 2) scLe.nd rfl (Or.inl rfl)) (fun _ _ _ _ _ => pts_nil) (fun _ _ _ _ _ => pv 2)) pa_nil))), ?_⟩
    refine ⟨_, rfl, L, rfl, ⟨_, SqL.of hL⟩, fun D nD => MyC.s2_list (K := K) (P := Pg) (w := w) (a := L) (xs := xs) (fun i H' => SetAt2 P Pg w H H' D (blL (cs.take i))) (SetAt2.new hP nD) (fun i H' _ p => SqL.of (p.g.lst hP hL)) (fun i v H1 hv p => ?_) (fun H1 p => ?_)⟩
    · obtain ⟨c, hc, hm⟩ := Paired.at hcs hv
      have hm1 := hm.grew p.g hP
      have et1 : blL (cs.take (i + 1)) = blL (cs.take i) ++ belowOf c := by
        unfold blL
        rw [List.take_succ, hc, List.map_append, List.flatten_append]
        show _ ++ (belowOf c ++ []) = _
        rw [List.append_nil]
      have lb := blL_len (cs.take i)
      rw [List.length_take] at lb
      have lbc := below_len c
      refine ⟨rfl, _, rfl, v, c, rfl, hm1, p.g.tab, fun H3 B g3 nB hB => ?_⟩
      have p3 := p.on hP nD g3
      obtain ⟨ys, hB3, hys⟩ := hB
      have ly := Paired.len hys
      refine ⟨B, rfl, ⟨_, SqL.of hB3⟩, MyC.s2_in (K := K) (P := Pg) (w := w) (a := B) (xs := ys) (fun j H' => SetAt2 P Pg w H H' D (blL (cs.take i) ++ (belowOf c).take j) ∧ H' B = some (.lst ys) ∧ Paired (ThAt H') (belowOf c) ys) ⟨by rw [List.take_zero, List.append_nil]; exact p3, hB3, hys⟩ (fun j H' _ p => SqL.of p.2.1) (fun j y H4 hy p4 => ?_) (fun H4 p4 => ?_)⟩
      · obtain ⟨p4, hB4, hys4⟩ := p4
        obtain ⟨kk, hk, hkm⟩ := Paired.at hys4 hy
        obtain ⟨t, rfl, et⟩ := hkm
        obtain ⟨g4, Ls, hD, ht, hmem, nd⟩ := p4
        have few := SetAt2.few hmem nd
        rw [List.length_append, List.length_take] at few
        refine ⟨rfl, _, rfl, t, kk, Ls, rfl, SqT.of et, hD, fun p hp => SqT.of (ht p hp), by omega, fun L' c1 c2 => ?_⟩
        have neB : B ≠ D := fun z => by rw [z, hD] at hB4; cases hB4
        have kp : ∀ {a : Addr} {zs : List V}, H4 a = some (.tup zs) → L2.upd H4 D (PSetO Pg w D L') a = some (.tup zs) := fun {a zs} e => by rw [upd_ne (fun z => by rw [z, hD] at e; cases e)]; exact e
        refine ⟨?_, by rw [upd_ne neB]; exact hB4, Paired.map' hys4 fun _ _ m => let ⟨t, e, q⟩ := m; ⟨t, e, kp q⟩⟩
        rw [List.take_succ, hk, ← List.append_assoc]
        exact SetAt2.add g4 nD hD ht hmem nd et c1 c2
      · obtain ⟨p4, _, _⟩ := p4
        rw [← ly, List.take_length] at p4
        rw [et1]
        exact p4
    · rw [← lx, List.take_length] at p
      exact p.sorted hP blL_ne k
end
end W

set_option Elab.async false
set_option linter.all false
set_option maxRecDepth 100000
set_option maxHeartbeats 4000000
namespace W
open PySem PySem.Spec PyProof.Rows L2 GxR MyG MyS SqX
/-! ### _touched_beside, clashes, are_apart -/
theorem u65 {k : Nat} {A : Around} (h : Room k A) : A.units + 65 < cLine := by have q := h.un; omega
abbrev sCl : Stmt := top 8
abbrev sBe : Stmt := top 9
abbrev sAa : Stmt := top 10
abbrev nCl : List Str := ["changes", "others"]
abbrev nBe : List Str := ["changes", "others", "beside", "thing"]
abbrev nAa : List Str := ["changes", "others"]
theorem scCl : FnScope nCl ["changes", "others"] (defScope sCl) := ⟨rfl, rfl, rfl, by decide +kernel, rfl, by decide +kernel, by decide +kernel⟩
theorem scBe : FnScope nBe ["changes", "others"] (defScope sBe) := ⟨rfl, rfl, rfl, by decide +kernel, rfl, by decide +kernel, by decide +kernel⟩
theorem scAa : FnScope nAa ["changes", "others"] (defScope sAa) := ⟨rfl, rfl, rfl, by decide +kernel, rfl, by decide +kernel, by decide +kernel⟩
def sp2 (K : PySem.W.Frag) (P : Addr) (R : List Chg → List Chg → Hp → Hp → V → Prop) : Sp := fun vs H Q _ => ∃ (L O : Addr) (d : Int) (ks : List Str) (cs os : List Chg), vs = [.ref L, .ref O] ∧ CsAt K H L d ks cs ∧ CsAt K H O d ks os ∧ cs.length ≤ 30 ∧ os.length ≤ 30 ∧ TabG H P ∧ ∀ H' v, Grew P H H' → R cs os H H' v → Q v H'
def rBe (cs os : List Chg) (H H' : Hp) (v : V) : Prop := ∃ B m, v = .ref B ∧ H B = none ∧ ThsAt H' B m ∧ (∀ k, k ∈ m ↔ k ∈ thL cs ∧ (k ∈ thL os ∨ k ∈ blL os)) ∧ m.length ≤ cs.length
def rCl (cs os : List Chg) (H H' : Hp) (v : V) : Prop := ∃ B m, v = .ref B ∧ H B = none ∧ ThsAt H' B m ∧ Told (clashL cs os) m
def rAa (cs os : List Chg) (H H' : Hp) (v : V) : Prop := ∃ b, v = .bl b ∧ ∀ m, Told (clashL cs os) m → b = decide (m = [])
theorem things_back {H : Hp} : ∀ {m : List (List Str)} {xs : List V}, Paired (ThAt H) m xs → ∃ ks : List (Addr × List Str), xs = ks.map (fun p => V.ref p.1) ∧ m = ks.map (·.2) ∧ ∀ p ∈ ks, H p.1 = some (.tup (p.2.map V.str))
  | _, _, .nil => ⟨[], rfl, rfl, fun p hp => by cases hp⟩
  | k :: m, _, .cons ⟨t, e, et⟩ r => by
    obtain ⟨ks, e1, e2, e3⟩ := things_back r
    refine ⟨(t, k) :: ks, by rw [e, e1]; rfl, by rw [e2]; rfl, fun p hp => ?_⟩
    rcases List.mem_cons.mp hp with rfl | hp
    · exact et
    · exact e3 p hp
theorem OkT.sub {l m : List (List Str)} (h : OkT l) (s : ∀ k ∈ m, k ∈ l) : OkT m := fun k hk => h k (s k hk)
theorem OkT.app {l m : List (List Str)} (h : OkT l) (h2 : OkT m) : OkT (l ++ m) := fun k hk => (List.mem_append.mp hk).elim (h k) (h2 k)
theorem in_things {l : List (List Str)} (k : List Str) : ((l.map thP).any fun z => PyData.eqv z (thP k)) = decide (k ∈ l) := by
  rw [Bool.eq_iff_iff, decide_eq_true_iff]
  exact any_eqv pl_th thP_inj l k
theorem clash_ok {d : Int} {ks : List Str} {cs os : List Chg} (h : ∀ c ∈ cs, ChgOk d ks c) (h2 : ∀ c ∈ os, ChgOk d ks c) : OkT (clashL cs os) := fun k hk => by
  rcases mem_clash.mp hk with ⟨h1, _⟩ | ⟨h1, _⟩
  · exact thL_ok h k h1
  · exact thL_ok h2 k h1
section
variable {Pg : Program} {w : World} {K : PySem.W.Frag} {mg : Str → Option Value} {base : Heap} {C P : Addr}
theorem ok_be {f fTo fLe : Addr} {fd fdTo fdLe : FuncData} (F : Fun K "_touched_beside" "_touched_beside" sBe f fd)
    (GTo : FnOk Pg w K mg base CX0 2 fTo fdTo ["changes"] (spThs K P thL)) (gTo : mg "touched" = some (.ref fTo)) (kTo : PySem.W.keepIn K (.ref fTo) = true) (bTo : Binds K fdTo ["changes"] [])
    (GLe : FnOk Pg w K mg base CX0 2 fLe fdLe ["changes"] (spThs K P blL)) (gLe : mg "leaned_on" = some (.ref fLe)) (kLe : PySem.W.keepIn K (.ref fLe) = true) (bLe : Binds K fdLe ["changes"] []) :
    FnOk Pg w K mg base CX0 3 f fd ["changes", "others"] (sp2 K P rBe) := by
  refine F.ok scBe (fun vs H Q E h => ?_) (fun cdv A outer s H vs Q E hr h => ?_)
  · obtain ⟨L, O, d, ks, cs, os, rfl, _⟩ := h
    rfl
  · obtain ⟨L, O, d, ks, cs, os, rfl, hL, hO, l30, o30, hP, k⟩ := h
    refine ⟨_, (pss_cons (ps_set (i := 2) scBe.nd rfl (Or.inr rfl) (pe_op op_cat (pe_call GTo (hr.mono (by decide)) (by rfl) gTo kTo bTo .nil pass0 (pa_cons (pv 1) pa_nil)) (pe_call GLe (hr.mono (by decide)) (by rfl) gLe kLe bLe .nil pass0 (pa_cons (pv 1) pa_nil))))
      (pss_one (ps_ret (pe_lc (own := [("thing", 3)]) (g := (gName 3)) rfl scBe.nd (pi_list (pe_call GTo (hr.mono (by decide)) (by rfl) gTo kTo bTo .nil pass0 (pa_cons (pv 0) pa_nil))) (blkOk_by (N := nBe) (sc := defScope sBe) (by decide +kernel)) (fun _ _ _ _ _ => pg_name (i := 3) scBe.nd rfl (Or.inl rfl)) (fun _ _ _ _ _ => pts_one (pt_cmpR (r := rInD K) (op_inD (u65 hr)) (pv 3) (pv 2) (by rfl))) (fun _ _ _ _ _ => (pv 3)))))), ?_⟩
    have okc := hL.choose_spec.2.2
    have oko := hO.choose_spec.2.2
    refine ⟨_, rfl, O, d, ks, os, rfl, hO, o30, hP, fun H1 B1 m1 g1 nB1 hB1 t1 => ?_⟩
    refine ⟨_, rfl, O, d, ks, os, rfl, hO.grew g1 hP, o30, g1.tab, fun H2 B2 m2 g2 nB2 hB2 t2 => ?_⟩
    have g02 := g1.trans g2
    have hB1' := hB1.grew g2 g1.tab
    obtain ⟨xs1, e1, p1⟩ := hB1'
    obtain ⟨xs2, e2, p2⟩ := id hB2
    have lx1 := Paired.len p1
    have lx2 := Paired.len p2
    have lm1 := t1.len
    have lm2 := t2.len
    have lb := blL_len os
    have lth : (thL os).length = os.length := List.length_map _
    refine ⟨B1, B2, _, _, rfl, rfl, e1, e2, by rw [sizeLine_eq]; omega, fun B3 nB3 => ?_⟩
    have g3 := Grew.new (o := .lst (xs1 ++ xs2)) g02.tab nB3
    have g03 := g02.trans g3
    generalize eH3 : L2.upd H2 B3 _ = H3 at g3 g03
    have hB3 : ThsAt H3 B3 (m1 ++ m2) := ⟨xs1 ++ xs2, by rw [← eH3]; exact upd_same, paired_app (Paired.map' p1 fun _ _ m => m.grew g3 g02.tab) (Paired.map' p2 fun _ _ m => m.grew g3 g02.tab)⟩
    refine ⟨_, rfl, L, d, ks, cs, rfl, hL.grew g03 hP, l30, g03.tab, fun H4 B4 m4 g4 nB4 hB4 t4 => ?_⟩
    have g04 := g03.trans g4
    have hB3' := hB3.grew g4 g03.tab
    obtain ⟨xs4, e4, p4⟩ := id hB4
    have lx4 := Paired.len p4
    have lm4 := t4.len
    have lthc : (thL cs).length = cs.length := List.length_map _
    have okb : OkT (m1 ++ m2) := OkT.app ((thL_ok oko).sub fun k hk => (t1.mem k).mp hk) ((blL_ok oko).sub fun k hk => (t2.mem k).mp hk)
    have okm : OkT m4 := (thL_ok okc).sub fun k hk => (t4.mem k).mp hk
    refine ⟨B4, rfl, ⟨_, SqL.of e4⟩, fun D nD => lc_list (K := K) (a := B4) (xs := xs4) (fun j H' => Grew P H4 H' ∧ ThsAt H' D ((m4.take j).filter fun k => decide (k ∈ m1 ++ m2))) ⟨Grew.new g04.tab nD, [], upd_same, .nil⟩ (fun j H' _ p => SqL.of (p.1.lst g04.tab e4)) (fun j v H5 hv p => ?_) (fun H5 p => ?_)⟩
    · obtain ⟨g5, ys, hD, hys⟩ := p
      obtain ⟨kk, hk, hkm⟩ := Paired.at p4 hv
      have hkm5 := hkm.grew g5 g04.tab
      have hB35 := hB3'.grew g5 g04.tab
      have et : (m4.take (j + 1)).filter (fun k => decide (k ∈ m1 ++ m2)) = (m4.take j).filter (fun k => decide (k ∈ m1 ++ m2)) ++ (if kk ∈ m1 ++ m2 then [kk] else []) := by
        rw [List.take_succ, hk, List.filter_append]
        congr 1
        show List.filter (fun k => decide (k ∈ m1 ++ m2)) [kk] = _
        rw [List.filter_cons, List.filter_nil]
        by_cases c : kk ∈ m1 ++ m2
        · rw [decide_eq_true c, if_pos rfl, if_pos c]
        · rw [decide_eq_false c, if_neg Bool.false_ne_true, if_neg c]
      have ly := Paired.len hys
      have lf := List.length_filter_le (fun k => decide (k ∈ m1 ++ m2)) (m4.take j)
      rw [List.length_take] at lf
      refine ⟨rfl, _, rfl, _, rfl, _, _, hkm5.dp, hB35.dp, (okm.one (List.mem_of_getElem? hk)).shaped (by decide), okb.lay.shaped (by decide), _, rfl, ?_⟩
      rw [in_things]
      by_cases c : kk ∈ m1 ++ m2
      · refine if_t (decide_eq_true c) ⟨_, rfl, ys, hD, by rw [sizeLine_eq]; omega, g5.write hD (fun _ z => by cases z) nD, ys ++ [v], upd_same, ?_⟩
        have kp : TKp H5 (L2.upd H5 D (.lst (ys ++ [v]))) := TKp.lst hD
        rw [et, if_pos c]
        exact Paired.snoc (Paired.map' hys fun _ _ m => m.kp kp) (hkm5.kp kp)
      · refine if_f (decide_eq_false c) ⟨g5, ys, hD, ?_⟩
        rw [et, if_neg c, List.append_nil]
        exact hys
    · obtain ⟨g5, hD⟩ := p
      rw [← lx4, List.take_length] at hD
      refine k H5 _ (g04.trans g5) ⟨D, _, rfl, g04.free nD, hD, fun q => ?_, ?_⟩
      · rw [List.mem_filter, decide_eq_true_iff, List.mem_append, t4.mem, t1.mem, t2.mem]
      · have lf := List.length_filter_le (fun k => decide (k ∈ m1 ++ m2)) m4
        omega
theorem ok_cl {f fB : Addr} {fd fdB : FuncData} (F : Fun K "clashes" "clashes" sCl f fd) (hs : mg "sorted" = none) (hst : mg "set" = none)
    (GBe : FnOk Pg w K mg base CX0 3 fB fdB ["changes", "others"] (sp2 K P rBe)) (gBe : mg "_touched_beside" = some (.ref fB)) (kBe : PySem.W.keepIn K (.ref fB) = true) (bBe : Binds K fdB ["changes", "others"] []) :
    FnOk Pg w K mg base CX0 4 f fd ["changes", "others"] (sp2 K P rCl) := by
  refine F.ok scCl (fun vs H Q E h => ?_) (fun cdv A outer s H vs Q E hr h => ?_)
  · obtain ⟨L, O, d, ks, cs, os, rfl, _⟩ := h
    rfl
  · obtain ⟨L, O, d, ks, cs, os, rfl, hL, hO, l30, o30, hP, k⟩ := h
    have u64 : (A.deeper (envOfC "clashes" (defScope sCl) s.heap.objs.size f cdv)).units + 64 < cLine := hr.units
    refine ⟨_, pss_one (ps_ret (pe_callB (r := rSortedP K Pg w) (cr_sortedP2 rfl) (by rfl) hs (by decide +kernel) (pa_cons (pe_callTy (r := rSetOfP K Pg w) (cr_setOfP rfl u64) (by rfl) hst (by decide +kernel) (pa_cons (pe_op op_cat (pe_call GBe (hr.mono (by decide)) (by rfl) gBe kBe bBe .nil pass0 (pa_cons (pv 0) (pa_cons (pv 1) pa_nil))) (pe_call GBe (hr.mono (by decide)) (by rfl) gBe kBe bBe .nil pass0 (pa_cons (pv 1) (pa_cons (pv 0) pa_nil)))) pa_nil)) pa_nil))), ?_⟩
    refine ⟨_, rfl, _, rfl, L, O, d, ks, cs, os, rfl, hL, hO, l30, o30, hP, fun H1 v1 g1 r1 => ?_⟩
    obtain ⟨B1, m1, rfl, nB1, hB1, t1, lm1⟩ := r1
    refine ⟨_, rfl, _, rfl, O, L, d, ks, os, cs, rfl, hO.grew g1 hP, hL.grew g1 hP, o30, l30, g1.tab, fun H2 v2 g2 r2 => ?_⟩
    obtain ⟨B2, m2, rfl, nB2, hB2, t2, lm2⟩ := r2
    have g02 := g1.trans g2
    obtain ⟨xs1, e1, p1⟩ := hB1.grew g2 g1.tab
    obtain ⟨xs2, e2, p2⟩ := id hB2
    have lx1 := Paired.len p1
    have lx2 := Paired.len p2
    refine ⟨B1, B2, _, _, rfl, rfl, e1, e2, by rw [sizeLine_eq]; omega, fun B3 nB3 => ?_⟩
    have g3 := Grew.new (o := .lst (xs1 ++ xs2)) g02.tab nB3
    have g03 := g02.trans g3
    generalize eH3 : L2.upd H2 B3 _ = H3 at g3 g03
    have pp : Paired (ThAt H3) (m1 ++ m2) (xs1 ++ xs2) := paired_app (Paired.map' p1 fun _ _ m => m.grew g3 g02.tab) (Paired.map' p2 fun _ _ m => m.grew g3 g02.tab)
    have hB3 : H3 B3 = some (.lst (xs1 ++ xs2)) := by rw [← eH3]; exact upd_same
    obtain ⟨kk, ex, em, et⟩ := things_back pp
    have lk : kk.length = m1.length + m2.length := by
      have := congrArg List.length em
      rw [List.length_append, List.length_map] at this
      omega
    refine ⟨B3, kk, rfl, .inl (SqL.of (by rw [hB3, ex])), fun p hp => SqT.of (et p hp), by omega, fun S L' nS sub hm nd => ?_⟩
    have mem : ∀ q, q ∈ m1 ++ m2 ↔ q ∈ clashL cs os := fun q => by
      rw [List.mem_append, t1, t2, mem_clash]
    have gS := Grew.new (o := PSetO Pg w S L') g03.tab nS
    have st : SetAt2 P Pg w H (L2.upd H3 S (PSetO Pg w S L')) S (clashL cs os) := ⟨g03.trans gS, L', upd_same, fun p hp => gS.tup g03.tab (et p (sub p hp)), fun q => by rw [hm q, ← em, mem q], nd⟩
    refine st.sorted hP (fun q hq => ?_) fun H' B m g nB hB ht => k H' _ g ⟨B, m, rfl, nB, hB, ht⟩
    rcases mem_clash.mp hq with ⟨h1, _⟩ | ⟨h1, _⟩
    · exact thL_ne q h1
    · exact thL_ne q h1
theorem ok_aa {f fC : Addr} {fd fdC : FuncData} (F : Fun K "are_apart" "are_apart" sAa f fd)
    (GCl : FnOk Pg w K mg base CX0 4 fC fdC ["changes", "others"] (sp2 K P rCl)) (gCl : mg "clashes" = some (.ref fC)) (kCl : PySem.W.keepIn K (.ref fC) = true) (bCl : Binds K fdC ["changes", "others"] []) :
    FnOk Pg w K mg base CX0 5 f fd ["changes", "others"] (sp2 K P rAa) := by
  refine F.ok scAa (fun vs H Q E h => ?_) (fun cdv A outer s H vs Q E hr h => ?_)
  · obtain ⟨L, O, d, ks, cs, os, rfl, _⟩ := h
    rfl
  · obtain ⟨L, O, d, ks, cs, os, rfl, hL, hO, l30, o30, hP, k⟩ := h
    refine ⟨_, (pss_one (ps_ret (pe_cmpR (r := rEqD K) (op_eqD hr.units) (pe_call GCl (hr.mono (by decide)) (by rfl) gCl kCl bCl .nil pass0 (pa_cons (pv 0) (pa_cons (pv 1) pa_nil))) (pe_lst pa_nil) (nomark _)))), ?_⟩
    refine ⟨_, rfl, _, rfl, L, O, d, ks, cs, os, rfl, hL, hO, l30, o30, hP, fun H1 v1 g1 r1 => ?_⟩
    obtain ⟨B, m, rfl, nB, hB, tm⟩ := r1
    refine ⟨Nat.zero_le _, fun E1 m1 => ?_⟩
    have g2 := Grew.new (o := .lst []) g1.tab m1
    have okm : OkT m := (clash_ok hL.choose_spec.2.2 hO.choose_spec.2.2).sub fun q hq => (tm.mem q).mp hq
    have ok0 : OkT ([] : List (List Str)) := fun q hq => by cases hq
    refine ⟨.list (m.map thP), .list [], (hB.grew g2 g1.tab).dp, .lst (SqL.of upd_same) .nil, okm.lay.shaped (by decide), ok0.lay.shaped (by decide), ?_⟩
    refine k _ _ (g1.trans g2) ⟨_, rfl, fun m' tm' => ?_⟩
    rw [← tm.one tm' fun q => Iff.rfl, Bool.eq_iff_iff, decide_eq_true_iff, eqv_iff _ _ (show Pl (.list (m.map thP)) from plAll_of fun d hd => by obtain ⟨q, _, rfl⟩ := List.mem_map.mp hd; exact pl_th q) (show Pl (.list []) from True.intro)]
    constructor
    · intro e
      injection e with e
      exact List.map_eq_nil_iff.mp e
    · intro e
      rw [e]
      rfl
end
end W

set_option Elab.async false
set_option linter.all false
set_option maxRecDepth 100000
set_option maxHeartbeats 4000000
namespace W
open PySem PySem.Spec PyProof.Rows L2 GxR MyG MyS SqX
/-! ### _law_touched, _law_leaned, _law_once -/
abbrev sLt : Stmt := top 23
abbrev sLl : Stmt := top 24
abbrev sLo : Stmt := top 25
abbrev nLt : List Str := ["changes", "found", "change"]
abbrev nLl : List Str := ["changes", "found", "change"]
abbrev nLo : List Str := ["things", "found", "thing"]
theorem scLt : FnScope nLt ["changes"] (defScope sLt) := ⟨rfl, rfl, rfl, by decide +kernel, rfl, by decide +kernel, by decide +kernel⟩
theorem scLl : FnScope nLl ["changes"] (defScope sLl) := ⟨rfl, rfl, rfl, by decide +kernel, rfl, by decide +kernel, by decide +kernel⟩
theorem scLo : FnScope nLo ["things"] (defScope sLo) := ⟨rfl, rfl, rfl, by decide +kernel, rfl, by decide +kernel, by decide +kernel⟩
def spLs (K : PySem.W.Frag) (P : Addr) (F : List Chg → List (List Str)) : Sp := fun vs H Q _ => ∃ (L : Addr) (d : Int) (ks : List Str) (cs : List Chg), vs = [.ref L] ∧ CsAt K H L d ks cs ∧ cs.length ≤ 30 ∧ TabG H P ∧ ∀ H' B, Grew P H H' → H B = none → ThsAt H' B (F cs) → Q (.ref B) H'
def spOnce (K : PySem.W.Frag) (P : Addr) : Sp := fun vs H Q _ => ∃ (L : Addr) (l : List (List Str)), vs = [.ref L] ∧ ThsAt H L l ∧ l.length ≤ 1000 ∧ OkT l ∧ (∀ k ∈ l, k ≠ []) ∧ TabG H P ∧ ∀ H' B m, Grew P H H' → H B = none → ThsAt H' B m → Told l m → Q (.ref B) H'
section
variable {Pg : Program} {w : World} {K : PySem.W.Frag} {mg : Str → Option Value} {base : Heap} {C P : Addr}
theorem ok_lt {f : Addr} {fd : FuncData} (F : Fun K "_law_touched" "_law_touched" sLt f fd) :
    FnOk Pg w K mg base CX0 1 f fd ["changes"] (spLs K P thL) := by
  refine F.ok scLt (fun vs H Q E h => ?_) (fun cdv A outer s H vs Q E hr h => ?_)
  · obtain ⟨L, d, ks, cs, rfl, _⟩ := h
    rfl
  · obtain ⟨L, d, ks, cs, rfl, ⟨xs0, hL, hcs, hok⟩, l30, hP, k⟩ := h
    have lx := Paired.len hcs
    refine ⟨_, (pss_cons (ps_set (i := 1) scLt.nd rfl (Or.inl rfl) (pe_lst pa_nil))
      (pss_cons (ps_for PassesOwn.never rfl (pi_list (pv 0)) (pg_name (i := 2) scLt.nd rfl (Or.inl rfl))
        (pss_one (ps_if (PW.pt (pw_or (pt_cmpR op_eq (pe_ix (r := rIxT K) ix_tup (pv 2) pe_int (fun _ _ => rfl)) pe_str (nomark _)) (pw_or1 (pt_cmpR op_eq (pe_ix (r := rIxT K) ix_tup (pv 2) pe_int (fun _ _ => rfl)) pe_str (nomark _))))) (pss_one (ps_expr (pe_bm PySem.F.plainAttrs_list PySem.F.slot_list_append PySem.F.type_list_append mt_append (pv 1) (pa_cons (pe_tup (pa_cons pe_str (pa_cons (pe_ix (r := rIxT K) ix_tup (pv 2) pe_int (fun _ _ => rfl)) pa_nil))) pa_nil))))
        (pss_one (ps_if (PW.pt (pw_or (pt_cmpR op_eq (pe_ix (r := rIxT K) ix_tup (pv 2) pe_int (fun _ _ => rfl)) pe_str (nomark _)) (pw_or1 (pt_cmpR op_eq (pe_ix (r := rIxT K) ix_tup (pv 2) pe_int (fun _ _ => rfl)) pe_str (nomark _))))) (pss_one (ps_expr (pe_bm PySem.F.plainAttrs_list PySem.F.slot_list_append PySem.F.type_list_append mt_append (pv 1) (pa_cons (pe_tup (pa_cons pe_str (pa_cons (pe_ix (r := rIxT K) ix_tup (pv 2) pe_int (fun _ _ => rfl)) (pa_cons (pe_ix (r := rIxT K) ix_tup (pv 2) pe_int (fun _ _ => rfl)) pa_nil)))) pa_nil))))
        (pss_one (ps_if (PW.pt (pw_or (pt_cmpR op_eq (pe_ix (r := rIxT K) ix_tup (pv 2) pe_int (fun _ _ => rfl)) pe_str (nomark _)) (pw_or1 (pt_cmpR op_eq (pe_ix (r := rIxT K) ix_tup (pv 2) pe_int (fun _ _ => rfl)) pe_str (nomark _))))) (pss_one (ps_expr (pe_bm PySem.F.plainAttrs_list PySem.F.slot_list_append PySem.F.type_list_append mt_append (pv 1) (pa_cons (pe_tup (pa_cons pe_str (pa_cons (pe_ix (r := rIxT K) ix_tup (pe_ix (r := rIxT K) ix_tup (pv 2) pe_int (fun _ _ => rfl)) pe_int (fun _ _ => rfl)) pa_nil))) pa_nil))))
        (pss_one (ps_expr (pe_bm PySem.F.plainAttrs_list PySem.F.slot_list_append PySem.F.type_list_append mt_append (pv 1) (pa_cons (pe_tup (pa_cons pe_str (pa_cons (pe_ix (r := rIxT K) ix_tup (pv 2) pe_int (fun _ _ => rfl)) pa_nil))) pa_nil)))))))))))
      (pss_one (ps_ret (pv 1))))), ?_⟩
    refine ⟨Nat.zero_le _, fun D nD => ?_⟩
    have gD := Grew.new (o := .lst []) hP nD
    refine ⟨_, rfl, L, rfl, ⟨_, SqL.of (gD.lst hP hL)⟩, for_list (K := K) (a := L) (xs := xs0) (fun i σ H' => ∃ v2, σ = [some (.ref L), some (.ref D), v2] ∧ Grew P H H' ∧ ThsAt H' D ((cs.take i).map thingOf))
      ⟨none, rfl, gD, [], upd_same, .nil⟩ (fun i σ H' _ h => by obtain ⟨_, _, g, _⟩ := h; exact SqL.of (g.lst hP hL)) ?_ ?_⟩
    · rintro i v σ H1 hv ⟨v2, rfl, g1, ys, hD, hys⟩
      obtain ⟨c, hc, hm⟩ := Paired.at hcs hv
      have hm1 := hm.grew g1 hP
      obtain ⟨t, xs, rfl, ht, htl⟩ := hm1
      have at0 : ∀ z : Str, atI (V.str z :: xs) 0 = some (.str z) := fun z => atI_nat (xs := V.str z :: xs) (j := 0) rfl
      have ly := Paired.len hys
      rw [List.length_map, List.length_take] at ly
      have fin : ∀ (T : Addr) (kk : List Str), H1 T = none → kk = thingOf c → ∃ p ws x, V.ref D = V.ref p ∧ [V.ref T] = [x] ∧ L2.upd H1 T (.tup (kk.map V.str)) p = some (.lst ws) ∧ ws.length < sizeLine ∧ (∃ v2, [some (V.ref L), some (.ref D), some (.ref t)] = [some (V.ref L), some (.ref D), v2] ∧ Grew P H (L2.upd (L2.upd H1 T (.tup (kk.map V.str))) p (.lst (ws ++ [x]))) ∧ ThsAt (L2.upd (L2.upd H1 T (.tup (kk.map V.str))) p (.lst (ws ++ [x]))) D ((cs.take (i + 1)).map thingOf)) := fun T kk nT ek => by
        have gT := Grew.new (o := .tup (kk.map V.str)) g1.tab nT
        have hD2 := gT.lst g1.tab hD
        have kp := TKp.lst (o := .lst (ys ++ [.ref T])) hD2
        refine ⟨D, ys, .ref T, rfl, rfl, hD2, by rw [sizeLine_eq]; omega, _, rfl, (g1.trans gT).write (o := .lst (ys ++ [.ref T])) hD2 (fun _ z => by cases z) nD, ys ++ [.ref T], upd_same, ?_⟩
        rw [List.take_succ, hc, List.map_append]
        exact Paired.snoc (Paired.map' hys fun _ _ m => (m.grew gT g1.tab).kp kp) ⟨T, rfl, kp.t _ _ (by rw [upd_same, ek])⟩
      cases c with
      | place up z =>
        have ex : xs = [.str z] := htl
        subst ex
        cases up with
        | true =>
          refine ⟨_, rfl, t, _, 0, _, rfl, rfl, SqT.of ht, at0 _, rfl, _, rfl, if_t (decide_eq_true rfl) ?_⟩
          refine ⟨_, rfl, .inl ⟨rfl, _, SqL.of hD⟩, _, rfl, t, _, 1, _, rfl, rfl, SqT.of ht, rfl, (show 2 ≤ sizeLine by decide), fun T nT => ?_⟩
          exact fin T ["place", z] nT rfl
        | false =>
          refine ⟨_, rfl, t, _, 0, _, rfl, rfl, SqT.of ht, at0 _, rfl, _, rfl, if_f (decide_eq_false fun e => (by decide +kernel : ¬ (("unplace" : Str) = "place")) (V.str.inj e)) ?_⟩
          refine ⟨_, rfl, t, _, 0, _, rfl, rfl, SqT.of ht, at0 _, rfl, _, rfl, if_t (decide_eq_true rfl) ?_⟩
          refine ⟨_, rfl, .inl ⟨rfl, _, SqL.of hD⟩, _, rfl, t, _, 1, _, rfl, rfl, SqT.of ht, rfl, (show 2 ≤ sizeLine by decide), fun T nT => ?_⟩
          exact fin T ["place", z] nT rfl
      | road up r1 =>
        obtain ⟨vr, rfl, hr1⟩ : ∃ vr, xs = [vr] ∧ RoadAt K H1 r1 vr := htl
        obtain ⟨tr, u, hh, rfl, et, _, _⟩ := hr1
        cases up with
        | true =>
          refine ⟨_, rfl, t, _, 0, _, rfl, rfl, SqT.of ht, at0 _, rfl, _, rfl, if_f (decide_eq_false fun e => (by decide +kernel : ¬ (("road" : Str) = "place")) (V.str.inj e)) ?_⟩
          refine ⟨_, rfl, t, _, 0, _, rfl, rfl, SqT.of ht, at0 _, rfl, _, rfl, if_f (decide_eq_false fun e => (by decide +kernel : ¬ (("road" : Str) = "unplace")) (V.str.inj e)) ?_⟩
          refine ⟨_, rfl, t, _, 0, _, rfl, rfl, SqT.of ht, at0 _, rfl, _, rfl, if_f (decide_eq_false fun e => (by decide +kernel : ¬ (("road" : Str) = "bar")) (V.str.inj e)) ?_⟩
          refine ⟨_, rfl, t, _, 0, _, rfl, rfl, SqT.of ht, at0 _, rfl, _, rfl, if_f (decide_eq_false fun e => (by decide +kernel : ¬ (("road" : Str) = "unbar")) (V.str.inj e)) ?_⟩
          refine ⟨_, rfl, t, _, 0, _, rfl, rfl, SqT.of ht, at0 _, rfl, _, rfl, if_t (decide_eq_true rfl) ?_⟩
          refine ⟨_, rfl, .inl ⟨rfl, _, SqL.of hD⟩, _, rfl, t, _, 1, _, rfl, rfl, SqT.of ht, rfl, tr, _, 0, _, rfl, rfl, SqT.of et, rfl, (show 2 ≤ sizeLine by decide), fun T nT => ?_⟩
          exact fin T ["road", r1.name] nT rfl
        | false =>
          refine ⟨_, rfl, t, _, 0, _, rfl, rfl, SqT.of ht, at0 _, rfl, _, rfl, if_f (decide_eq_false fun e => (by decide +kernel : ¬ (("unroad" : Str) = "place")) (V.str.inj e)) ?_⟩
          refine ⟨_, rfl, t, _, 0, _, rfl, rfl, SqT.of ht, at0 _, rfl, _, rfl, if_f (decide_eq_false fun e => (by decide +kernel : ¬ (("unroad" : Str) = "unplace")) (V.str.inj e)) ?_⟩
          refine ⟨_, rfl, t, _, 0, _, rfl, rfl, SqT.of ht, at0 _, rfl, _, rfl, if_f (decide_eq_false fun e => (by decide +kernel : ¬ (("unroad" : Str) = "bar")) (V.str.inj e)) ?_⟩
          refine ⟨_, rfl, t, _, 0, _, rfl, rfl, SqT.of ht, at0 _, rfl, _, rfl, if_f (decide_eq_false fun e => (by decide +kernel : ¬ (("unroad" : Str) = "unbar")) (V.str.inj e)) ?_⟩
          refine ⟨_, rfl, t, _, 0, _, rfl, rfl, SqT.of ht, at0 _, rfl, _, rfl, if_f (decide_eq_false fun e => (by decide +kernel : ¬ (("unroad" : Str) = "road")) (V.str.inj e)) ?_⟩
          refine ⟨_, rfl, t, _, 0, _, rfl, rfl, SqT.of ht, at0 _, rfl, _, rfl, if_t (decide_eq_true rfl) ?_⟩
          refine ⟨_, rfl, .inl ⟨rfl, _, SqL.of hD⟩, _, rfl, t, _, 1, _, rfl, rfl, SqT.of ht, rfl, tr, _, 0, _, rfl, rfl, SqT.of et, rfl, (show 2 ≤ sizeLine by decide), fun T nT => ?_⟩
          exact fin T ["road", r1.name] nT rfl
      | bar up b =>
        have ex : xs = [.str b.1, .str b.2] := htl
        subst ex
        cases up with
        | true =>
          refine ⟨_, rfl, t, _, 0, _, rfl, rfl, SqT.of ht, at0 _, rfl, _, rfl, if_f (decide_eq_false fun e => (by decide +kernel : ¬ (("bar" : Str) = "place")) (V.str.inj e)) ?_⟩
          refine ⟨_, rfl, t, _, 0, _, rfl, rfl, SqT.of ht, at0 _, rfl, _, rfl, if_f (decide_eq_false fun e => (by decide +kernel : ¬ (("bar" : Str) = "unplace")) (V.str.inj e)) ?_⟩
          refine ⟨_, rfl, t, _, 0, _, rfl, rfl, SqT.of ht, at0 _, rfl, _, rfl, if_t (decide_eq_true rfl) ?_⟩
          refine ⟨_, rfl, .inl ⟨rfl, _, SqL.of hD⟩, _, rfl, t, _, 1, _, rfl, rfl, SqT.of ht, rfl, _, rfl, t, _, 2, _, rfl, rfl, SqT.of ht, rfl, (show 3 ≤ sizeLine by decide), fun T nT => ?_⟩
          exact fin T ["bar", b.1, b.2] nT rfl
        | false =>
          refine ⟨_, rfl, t, _, 0, _, rfl, rfl, SqT.of ht, at0 _, rfl, _, rfl, if_f (decide_eq_false fun e => (by decide +kernel : ¬ (("unbar" : Str) = "place")) (V.str.inj e)) ?_⟩
          refine ⟨_, rfl, t, _, 0, _, rfl, rfl, SqT.of ht, at0 _, rfl, _, rfl, if_f (decide_eq_false fun e => (by decide +kernel : ¬ (("unbar" : Str) = "unplace")) (V.str.inj e)) ?_⟩
          refine ⟨_, rfl, t, _, 0, _, rfl, rfl, SqT.of ht, at0 _, rfl, _, rfl, if_f (decide_eq_false fun e => (by decide +kernel : ¬ (("unbar" : Str) = "bar")) (V.str.inj e)) ?_⟩
          refine ⟨_, rfl, t, _, 0, _, rfl, rfl, SqT.of ht, at0 _, rfl, _, rfl, if_t (decide_eq_true rfl) ?_⟩
          refine ⟨_, rfl, .inl ⟨rfl, _, SqL.of hD⟩, _, rfl, t, _, 1, _, rfl, rfl, SqT.of ht, rfl, _, rfl, t, _, 2, _, rfl, rfl, SqT.of ht, rfl, (show 3 ≤ sizeLine by decide), fun T nT => ?_⟩
          exact fin T ["bar", b.1, b.2] nT rfl
      | part nm a b =>
        obtain ⟨va, vb, rfl, ma, mb⟩ := htl
        cases a with
        | mi i =>
          refine ⟨_, rfl, t, _, 0, _, rfl, rfl, SqT.of ht, at0 _, rfl, _, rfl, if_f (decide_eq_false fun e => (by decide +kernel : ¬ (("minutes" : Str) = "place")) (V.str.inj e)) ?_⟩
          refine ⟨_, rfl, t, _, 0, _, rfl, rfl, SqT.of ht, at0 _, rfl, _, rfl, if_f (decide_eq_false fun e => (by decide +kernel : ¬ (("minutes" : Str) = "unplace")) (V.str.inj e)) ?_⟩
          refine ⟨_, rfl, t, _, 0, _, rfl, rfl, SqT.of ht, at0 _, rfl, _, rfl, if_f (decide_eq_false fun e => (by decide +kernel : ¬ (("minutes" : Str) = "bar")) (V.str.inj e)) ?_⟩
          refine ⟨_, rfl, t, _, 0, _, rfl, rfl, SqT.of ht, at0 _, rfl, _, rfl, if_f (decide_eq_false fun e => (by decide +kernel : ¬ (("minutes" : Str) = "unbar")) (V.str.inj e)) ?_⟩
          refine ⟨_, rfl, t, _, 0, _, rfl, rfl, SqT.of ht, at0 _, rfl, _, rfl, if_f (decide_eq_false fun e => (by decide +kernel : ¬ (("minutes" : Str) = "road")) (V.str.inj e)) ?_⟩
          refine ⟨_, rfl, t, _, 0, _, rfl, rfl, SqT.of ht, at0 _, rfl, _, rfl, if_f (decide_eq_false fun e => (by decide +kernel : ¬ (("minutes" : Str) = "unroad")) (V.str.inj e)) ?_⟩
          refine ⟨_, rfl, .inl ⟨rfl, _, SqL.of hD⟩, _, rfl, t, _, 1, _, rfl, rfl, SqT.of ht, rfl, (show 2 ≤ sizeLine by decide), fun T nT => ?_⟩
          exact fin T ["road", nm] nT rfl
        | ki us =>
          refine ⟨_, rfl, t, _, 0, _, rfl, rfl, SqT.of ht, at0 _, rfl, _, rfl, if_f (decide_eq_false fun e => (by decide +kernel : ¬ (("kinds" : Str) = "place")) (V.str.inj e)) ?_⟩
          refine ⟨_, rfl, t, _, 0, _, rfl, rfl, SqT.of ht, at0 _, rfl, _, rfl, if_f (decide_eq_false fun e => (by decide +kernel : ¬ (("kinds" : Str) = "unplace")) (V.str.inj e)) ?_⟩
          refine ⟨_, rfl, t, _, 0, _, rfl, rfl, SqT.of ht, at0 _, rfl, _, rfl, if_f (decide_eq_false fun e => (by decide +kernel : ¬ (("kinds" : Str) = "bar")) (V.str.inj e)) ?_⟩
          refine ⟨_, rfl, t, _, 0, _, rfl, rfl, SqT.of ht, at0 _, rfl, _, rfl, if_f (decide_eq_false fun e => (by decide +kernel : ¬ (("kinds" : Str) = "unbar")) (V.str.inj e)) ?_⟩
          refine ⟨_, rfl, t, _, 0, _, rfl, rfl, SqT.of ht, at0 _, rfl, _, rfl, if_f (decide_eq_false fun e => (by decide +kernel : ¬ (("kinds" : Str) = "road")) (V.str.inj e)) ?_⟩
          refine ⟨_, rfl, t, _, 0, _, rfl, rfl, SqT.of ht, at0 _, rfl, _, rfl, if_f (decide_eq_false fun e => (by decide +kernel : ¬ (("kinds" : Str) = "unroad")) (V.str.inj e)) ?_⟩
          refine ⟨_, rfl, .inl ⟨rfl, _, SqL.of hD⟩, _, rfl, t, _, 1, _, rfl, rfl, SqT.of ht, rfl, (show 2 ≤ sizeLine by decide), fun T nT => ?_⟩
          exact fin T ["road", nm] nT rfl
        | ho hs =>
          refine ⟨_, rfl, t, _, 0, _, rfl, rfl, SqT.of ht, at0 _, rfl, _, rfl, if_f (decide_eq_false fun e => (by decide +kernel : ¬ (("hours" : Str) = "place")) (V.str.inj e)) ?_⟩
          refine ⟨_, rfl, t, _, 0, _, rfl, rfl, SqT.of ht, at0 _, rfl, _, rfl, if_f (decide_eq_false fun e => (by decide +kernel : ¬ (("hours" : Str) = "unplace")) (V.str.inj e)) ?_⟩
          refine ⟨_, rfl, t, _, 0, _, rfl, rfl, SqT.of ht, at0 _, rfl, _, rfl, if_f (decide_eq_false fun e => (by decide +kernel : ¬ (("hours" : Str) = "bar")) (V.str.inj e)) ?_⟩
          refine ⟨_, rfl, t, _, 0, _, rfl, rfl, SqT.of ht, at0 _, rfl, _, rfl, if_f (decide_eq_false fun e => (by decide +kernel : ¬ (("hours" : Str) = "unbar")) (V.str.inj e)) ?_⟩
          refine ⟨_, rfl, t, _, 0, _, rfl, rfl, SqT.of ht, at0 _, rfl, _, rfl, if_f (decide_eq_false fun e => (by decide +kernel : ¬ (("hours" : Str) = "road")) (V.str.inj e)) ?_⟩
          refine ⟨_, rfl, t, _, 0, _, rfl, rfl, SqT.of ht, at0 _, rfl, _, rfl, if_f (decide_eq_false fun e => (by decide +kernel : ¬ (("hours" : Str) = "unroad")) (V.str.inj e)) ?_⟩
          refine ⟨_, rfl, .inl ⟨rfl, _, SqL.of hD⟩, _, rfl, t, _, 1, _, rfl, rfl, SqT.of ht, rfl, (show 2 ≤ sizeLine by decide), fun T nT => ?_⟩
          exact fin T ["road", nm] nT rfl
    · rintro σ H1 ⟨v2, rfl, g1, hD⟩
      rw [← lx, List.take_length] at hD
      exact ⟨_, rfl, k H1 D g1 nD hD⟩
theorem ok_ll {f : Addr} {fd : FuncData} (F : Fun K "_law_leaned" "_law_leaned" sLl f fd) :
    FnOk Pg w K mg base CX0 1 f fd ["changes"] (spLs K P blL) := by
  refine F.ok scLl (fun vs H Q E h => ?_) (fun cdv A outer s H vs Q E hr h => ?_)
  · obtain ⟨L, d, ks, cs, rfl, _⟩ := h
    rfl
  · obtain ⟨L, d, ks, cs, rfl, ⟨xs0, hL, hcs, hok⟩, l30, hP, k⟩ := h
    have lx := Paired.len hcs
    refine ⟨_, (pss_cons (ps_set (i := 1) scLl.nd rfl (Or.inl rfl) (pe_lst pa_nil))
      (pss_cons (ps_for PassesOwn.never rfl (pi_list (pv 0)) (pg_name (i := 2) scLl.nd rfl (Or.inl rfl))
        (pss_cons (ps_if (PW.pt (pw_or (pt_cmpR op_eq (pe_ix (r := rIxT K) ix_tup (pv 2) pe_int (fun _ _ => rfl)) pe_str (nomark _)) (pw_or1 (pt_cmpR op_eq (pe_ix (r := rIxT K) ix_tup (pv 2) pe_int (fun _ _ => rfl)) pe_str (nomark _))))) (pss_one (ps_set (i := 1) scLl.nd rfl (Or.inl rfl) (pe_op op_cat (pv 1) (pe_lst (pa_cons (pe_tup (pa_cons pe_str (pa_cons (pe_ix (r := rIxT K) ix_tup (pe_ix (r := rIxT K) ix_tup (pv 2) pe_int (fun _ _ => rfl)) pe_int (fun _ _ => rfl)) pa_nil))) (pa_cons (pe_tup (pa_cons pe_str (pa_cons (pe_ix (r := rIxT K) ix_tup (pe_ix (r := rIxT K) ix_tup (pv 2) pe_int (fun _ _ => rfl)) pe_int (fun _ _ => rfl)) pa_nil))) pa_nil))))))
        pss_nil)
      (pss_one (ps_if (PW.pt (pw_or (pt_cmpR op_eq (pe_ix (r := rIxT K) ix_tup (pv 2) pe_int (fun _ _ => rfl)) pe_str (nomark _)) (pw_or1 (pt_cmpR op_eq (pe_ix (r := rIxT K) ix_tup (pv 2) pe_int (fun _ _ => rfl)) pe_str (nomark _))))) (pss_one (ps_set (i := 1) scLl.nd rfl (Or.inl rfl) (pe_op op_cat (pv 1) (pe_lst (pa_cons (pe_tup (pa_cons pe_str (pa_cons (pe_ix (r := rIxT K) ix_tup (pv 2) pe_int (fun _ _ => rfl)) pa_nil))) (pa_cons (pe_tup (pa_cons pe_str (pa_cons (pe_ix (r := rIxT K) ix_tup (pv 2) pe_int (fun _ _ => rfl)) pa_nil))) pa_nil))))))
        pss_nil))))
      (pss_one (ps_ret (pv 1))))), ?_⟩
    refine ⟨Nat.zero_le _, fun D0 nD0 => ?_⟩
    have gD := Grew.new (o := .lst []) hP nD0
    refine ⟨_, rfl, L, rfl, ⟨_, SqL.of (gD.lst hP hL)⟩, for_list (K := K) (a := L) (xs := xs0) (fun i σ H' => ∃ D v2, σ = [some (.ref L), some (.ref D), v2] ∧ Grew P H H' ∧ H D = none ∧ ThsAt H' D (blL (cs.take i)))
      ⟨D0, none, rfl, gD, nD0, [], upd_same, .nil⟩ (fun i σ H' _ h => by obtain ⟨_, _, _, g, _⟩ := h; exact SqL.of (g.lst hP hL)) ?_ ?_⟩
    · rintro i v σ H1 hv ⟨D, v2, rfl, g1, nD, ys, hD, hys⟩
      obtain ⟨c, hc, hm⟩ := Paired.at hcs hv
      have hm1 := hm.grew g1 hP
      obtain ⟨t, xs, rfl, ht, htl⟩ := hm1
      have at0 : ∀ z : Str, atI (V.str z :: xs) 0 = some (.str z) := fun z => atI_nat (xs := V.str z :: xs) (j := 0) rfl
      have ly := Paired.len hys
      have lb := blL_len (cs.take i)
      rw [List.length_take] at lb
      have et1 : blL (cs.take (i + 1)) = blL (cs.take i) ++ belowOf c := by
        unfold blL
        rw [List.take_succ, hc, List.map_append, List.flatten_append]
        show _ ++ (belowOf c ++ []) = _
        rw [List.append_nil]
      have fin0 : belowOf c = [] → ∃ D2 v2, [some (V.ref L), some (.ref D), some (.ref t)] = [some (V.ref L), some (.ref D2), v2] ∧ Grew P H H1 ∧ H D2 = none ∧ ThsAt H1 D2 (blL (cs.take (i + 1))) := fun e => ⟨D, _, rfl, g1, nD, by rw [et1, e, List.append_nil]; exact ⟨ys, hD, hys⟩⟩
      have fin : ∀ {A1 A2 B : Addr} {K1 K2 : Hp} {k1 k2 : List Str}, Grew P H1 K1 → Grew P K1 K2 → K2 B = none → K1 A1 = some (.tup (k1.map V.str)) → K2 A2 = some (.tup (k2.map V.str)) → belowOf c = [k1, k2] → ∃ a b us ws, V.ref D = V.ref a ∧ V.ref B = V.ref b ∧ L2.upd K2 B (.lst [.ref A1, .ref A2]) a = some (.lst us) ∧ L2.upd K2 B (.lst [.ref A1, .ref A2]) b = some (.lst ws) ∧ us.length + ws.length ≤ sizeLine ∧ ∀ D2, L2.upd K2 B (.lst [.ref A1, .ref A2]) D2 = none → Grew P H1 (L2.upd (L2.upd K2 B (.lst [.ref A1, .ref A2])) D2 (.lst (us ++ ws))) ∧ H D2 = none ∧ ThsAt (L2.upd (L2.upd K2 B (.lst [.ref A1, .ref A2])) D2 (.lst (us ++ ws))) D2 (blL (cs.take (i + 1))) := by
        intro A1 A2 B K1 K2 k1 k2 q1 q2 nB h1 h2 eb
        have gB := Grew.new (o := .lst [.ref A1, .ref A2]) (q2.tab) nB
        have g12 := q1.trans (q2.trans gB)
        refine ⟨D, B, ys, _, rfl, rfl, g12.lst g1.tab hD, upd_same, by rw [sizeLine_eq]; show _ + 2 ≤ _; omega, fun D2 nD2 => ?_⟩
        have g3 := Grew.new (o := .lst (ys ++ [.ref A1, .ref A2])) g12.tab nD2
        refine ⟨g12.trans g3, g1.free (g12.free nD2), ys ++ [.ref A1, .ref A2], upd_same, ?_⟩
        rw [et1, eb]
        refine paired_app (Paired.map' hys fun _ _ m => m.grew (g12.trans g3) g1.tab) (.cons ⟨A1, rfl, ?_⟩ (.cons ⟨A2, rfl, ?_⟩ .nil))
        · exact (q2.trans (gB.trans g3)).tup q1.tab h1
        · exact (gB.trans g3).tup q2.tab h2
      cases c with
      | place up z =>
        have ex : xs = [.str z] := htl
        subst ex
        cases up with
        | true =>
          refine ⟨_, rfl, t, _, 0, _, rfl, rfl, SqT.of ht, at0 _, rfl, _, rfl, if_f (decide_eq_false fun e => (by decide +kernel : ¬ (("place" : Str) = "road")) (V.str.inj e)) ?_⟩
          refine ⟨_, rfl, t, _, 0, _, rfl, rfl, SqT.of ht, at0 _, rfl, _, rfl, if_f (decide_eq_false fun e => (by decide +kernel : ¬ (("place" : Str) = "unroad")) (V.str.inj e)) ?_⟩
          refine ⟨_, rfl, t, _, 0, _, rfl, rfl, SqT.of ht, at0 _, rfl, _, rfl, if_f (decide_eq_false fun e => (by decide +kernel : ¬ (("place" : Str) = "bar")) (V.str.inj e)) ?_⟩
          refine ⟨_, rfl, t, _, 0, _, rfl, rfl, SqT.of ht, at0 _, rfl, _, rfl, if_f (decide_eq_false fun e => (by decide +kernel : ¬ (("place" : Str) = "unbar")) (V.str.inj e)) ?_⟩
          exact fin0 rfl
        | false =>
          refine ⟨_, rfl, t, _, 0, _, rfl, rfl, SqT.of ht, at0 _, rfl, _, rfl, if_f (decide_eq_false fun e => (by decide +kernel : ¬ (("unplace" : Str) = "road")) (V.str.inj e)) ?_⟩
          refine ⟨_, rfl, t, _, 0, _, rfl, rfl, SqT.of ht, at0 _, rfl, _, rfl, if_f (decide_eq_false fun e => (by decide +kernel : ¬ (("unplace" : Str) = "unroad")) (V.str.inj e)) ?_⟩
          refine ⟨_, rfl, t, _, 0, _, rfl, rfl, SqT.of ht, at0 _, rfl, _, rfl, if_f (decide_eq_false fun e => (by decide +kernel : ¬ (("unplace" : Str) = "bar")) (V.str.inj e)) ?_⟩
          refine ⟨_, rfl, t, _, 0, _, rfl, rfl, SqT.of ht, at0 _, rfl, _, rfl, if_f (decide_eq_false fun e => (by decide +kernel : ¬ (("unplace" : Str) = "unbar")) (V.str.inj e)) ?_⟩
          exact fin0 rfl
      | road up r1 =>
        obtain ⟨vr, rfl, hr1⟩ : ∃ vr, xs = [vr] ∧ RoadAt K H1 r1 vr := htl
        obtain ⟨tr, u, hh, rfl, et, _, _⟩ := hr1
        cases up with
        | true =>
          refine ⟨_, rfl, t, _, 0, _, rfl, rfl, SqT.of ht, at0 _, rfl, _, rfl, if_t (decide_eq_true rfl) ?_⟩
          refine ⟨_, rfl, _, rfl, t, _, 1, _, rfl, rfl, SqT.of ht, rfl, tr, _, 1, _, rfl, rfl, SqT.of et, rfl, (show 2 ≤ sizeLine by decide), fun A1 a1 => ?_⟩
          generalize eK1 : L2.upd H1 A1 _ = K1
          have q1 : Grew P H1 K1 := by rw [← eK1]; exact Grew.new g1.tab a1
          have hA1 : K1 A1 = some (.tup [.str "place", .str r1.start]) := by rw [← eK1]; exact upd_same
          refine ⟨_, rfl, t, _, 1, _, rfl, rfl, SqT.of (q1.tup g1.tab ht), rfl, tr, _, 2, _, rfl, rfl, SqT.of (q1.tup g1.tab et), rfl, (show 2 ≤ sizeLine by decide), fun A2 a2 => ?_⟩
          generalize eK2 : L2.upd K1 A2 _ = K2
          have q2 : Grew P K1 K2 := by rw [← eK2]; exact Grew.new q1.tab a2
          have hA2 : K2 A2 = some (.tup [.str "place", .str r1.goal]) := by rw [← eK2]; exact upd_same
          refine ⟨(show 2 ≤ sizeLine by decide), fun B nB => ?_⟩
          obtain ⟨a', b', us, ws, z1, z2, z3, z4, z5, z6⟩ := fin (k1 := ["place", r1.start]) (k2 := ["place", r1.goal]) q1 q2 nB hA1 hA2 rfl
          refine ⟨a', b', us, ws, z1, z2, z3, z4, z5, fun D2 nD2 => ?_⟩
          obtain ⟨g5, n5, h5⟩ := z6 D2 nD2
          have ht := g5.tup g1.tab ht
          refine ⟨_, rfl, t, _, 0, _, rfl, rfl, SqT.of ht, at0 _, rfl, _, rfl, if_f (decide_eq_false fun e => (by decide +kernel : ¬ (("road" : Str) = "bar")) (V.str.inj e)) ?_⟩
          refine ⟨_, rfl, t, _, 0, _, rfl, rfl, SqT.of ht, at0 _, rfl, _, rfl, if_f (decide_eq_false fun e => (by decide +kernel : ¬ (("road" : Str) = "unbar")) (V.str.inj e)) ?_⟩
          exact ⟨D2, _, rfl, g1.trans g5, n5, h5⟩
        | false =>
          refine ⟨_, rfl, t, _, 0, _, rfl, rfl, SqT.of ht, at0 _, rfl, _, rfl, if_f (decide_eq_false fun e => (by decide +kernel : ¬ (("unroad" : Str) = "road")) (V.str.inj e)) ?_⟩
          refine ⟨_, rfl, t, _, 0, _, rfl, rfl, SqT.of ht, at0 _, rfl, _, rfl, if_t (decide_eq_true rfl) ?_⟩
          refine ⟨_, rfl, _, rfl, t, _, 1, _, rfl, rfl, SqT.of ht, rfl, tr, _, 1, _, rfl, rfl, SqT.of et, rfl, (show 2 ≤ sizeLine by decide), fun A1 a1 => ?_⟩
          generalize eK1 : L2.upd H1 A1 _ = K1
          have q1 : Grew P H1 K1 := by rw [← eK1]; exact Grew.new g1.tab a1
          have hA1 : K1 A1 = some (.tup [.str "place", .str r1.start]) := by rw [← eK1]; exact upd_same
          refine ⟨_, rfl, t, _, 1, _, rfl, rfl, SqT.of (q1.tup g1.tab ht), rfl, tr, _, 2, _, rfl, rfl, SqT.of (q1.tup g1.tab et), rfl, (show 2 ≤ sizeLine by decide), fun A2 a2 => ?_⟩
          generalize eK2 : L2.upd K1 A2 _ = K2
          have q2 : Grew P K1 K2 := by rw [← eK2]; exact Grew.new q1.tab a2
          have hA2 : K2 A2 = some (.tup [.str "place", .str r1.goal]) := by rw [← eK2]; exact upd_same
          refine ⟨(show 2 ≤ sizeLine by decide), fun B nB => ?_⟩
          obtain ⟨a', b', us, ws, z1, z2, z3, z4, z5, z6⟩ := fin (k1 := ["place", r1.start]) (k2 := ["place", r1.goal]) q1 q2 nB hA1 hA2 rfl
          refine ⟨a', b', us, ws, z1, z2, z3, z4, z5, fun D2 nD2 => ?_⟩
          obtain ⟨g5, n5, h5⟩ := z6 D2 nD2
          have ht := g5.tup g1.tab ht
          refine ⟨_, rfl, t, _, 0, _, rfl, rfl, SqT.of ht, at0 _, rfl, _, rfl, if_f (decide_eq_false fun e => (by decide +kernel : ¬ (("unroad" : Str) = "bar")) (V.str.inj e)) ?_⟩
          refine ⟨_, rfl, t, _, 0, _, rfl, rfl, SqT.of ht, at0 _, rfl, _, rfl, if_f (decide_eq_false fun e => (by decide +kernel : ¬ (("unroad" : Str) = "unbar")) (V.str.inj e)) ?_⟩
          exact ⟨D2, _, rfl, g1.trans g5, n5, h5⟩
      | bar up b =>
        have ex : xs = [.str b.1, .str b.2] := htl
        subst ex
        cases up with
        | true =>
          refine ⟨_, rfl, t, _, 0, _, rfl, rfl, SqT.of ht, at0 _, rfl, _, rfl, if_f (decide_eq_false fun e => (by decide +kernel : ¬ (("bar" : Str) = "road")) (V.str.inj e)) ?_⟩
          refine ⟨_, rfl, t, _, 0, _, rfl, rfl, SqT.of ht, at0 _, rfl, _, rfl, if_f (decide_eq_false fun e => (by decide +kernel : ¬ (("bar" : Str) = "unroad")) (V.str.inj e)) ?_⟩
          refine ⟨_, rfl, t, _, 0, _, rfl, rfl, SqT.of ht, at0 _, rfl, _, rfl, if_t (decide_eq_true rfl) ?_⟩
          refine ⟨_, rfl, _, rfl, t, _, 1, _, rfl, rfl, SqT.of ht, rfl, (show 2 ≤ sizeLine by decide), fun A1 a1 => ?_⟩
          generalize eK1 : L2.upd H1 A1 _ = K1
          have q1 : Grew P H1 K1 := by rw [← eK1]; exact Grew.new g1.tab a1
          have hA1 : K1 A1 = some (.tup [.str "road", .str b.1]) := by rw [← eK1]; exact upd_same
          refine ⟨_, rfl, t, _, 2, _, rfl, rfl, SqT.of (q1.tup g1.tab ht), rfl, (show 2 ≤ sizeLine by decide), fun A2 a2 => ?_⟩
          generalize eK2 : L2.upd K1 A2 _ = K2
          have q2 : Grew P K1 K2 := by rw [← eK2]; exact Grew.new q1.tab a2
          have hA2 : K2 A2 = some (.tup [.str "road", .str b.2]) := by rw [← eK2]; exact upd_same
          refine ⟨(show 2 ≤ sizeLine by decide), fun B nB => ?_⟩
          obtain ⟨a', b', us, ws, z1, z2, z3, z4, z5, z6⟩ := fin (k1 := ["road", b.1]) (k2 := ["road", b.2]) q1 q2 nB hA1 hA2 rfl
          refine ⟨a', b', us, ws, z1, z2, z3, z4, z5, fun D2 nD2 => ?_⟩
          obtain ⟨g5, n5, h5⟩ := z6 D2 nD2
          exact ⟨D2, _, rfl, g1.trans g5, n5, h5⟩
        | false =>
          refine ⟨_, rfl, t, _, 0, _, rfl, rfl, SqT.of ht, at0 _, rfl, _, rfl, if_f (decide_eq_false fun e => (by decide +kernel : ¬ (("unbar" : Str) = "road")) (V.str.inj e)) ?_⟩
          refine ⟨_, rfl, t, _, 0, _, rfl, rfl, SqT.of ht, at0 _, rfl, _, rfl, if_f (decide_eq_false fun e => (by decide +kernel : ¬ (("unbar" : Str) = "unroad")) (V.str.inj e)) ?_⟩
          refine ⟨_, rfl, t, _, 0, _, rfl, rfl, SqT.of ht, at0 _, rfl, _, rfl, if_f (decide_eq_false fun e => (by decide +kernel : ¬ (("unbar" : Str) = "bar")) (V.str.inj e)) ?_⟩
          refine ⟨_, rfl, t, _, 0, _, rfl, rfl, SqT.of ht, at0 _, rfl, _, rfl, if_t (decide_eq_true rfl) ?_⟩
          refine ⟨_, rfl, _, rfl, t, _, 1, _, rfl, rfl, SqT.of ht, rfl, (show 2 ≤ sizeLine by decide), fun A1 a1 => ?_⟩
          generalize eK1 : L2.upd H1 A1 _ = K1
          have q1 : Grew P H1 K1 := by rw [← eK1]; exact Grew.new g1.tab a1
          have hA1 : K1 A1 = some (.tup [.str "road", .str b.1]) := by rw [← eK1]; exact upd_same
          refine ⟨_, rfl, t, _, 2, _, rfl, rfl, SqT.of (q1.tup g1.tab ht), rfl, (show 2 ≤ sizeLine by decide), fun A2 a2 => ?_⟩
          generalize eK2 : L2.upd K1 A2 _ = K2
          have q2 : Grew P K1 K2 := by rw [← eK2]; exact Grew.new q1.tab a2
          have hA2 : K2 A2 = some (.tup [.str "road", .str b.2]) := by rw [← eK2]; exact upd_same
          refine ⟨(show 2 ≤ sizeLine by decide), fun B nB => ?_⟩
          obtain ⟨a', b', us, ws, z1, z2, z3, z4, z5, z6⟩ := fin (k1 := ["road", b.1]) (k2 := ["road", b.2]) q1 q2 nB hA1 hA2 rfl
          refine ⟨a', b', us, ws, z1, z2, z3, z4, z5, fun D2 nD2 => ?_⟩
          obtain ⟨g5, n5, h5⟩ := z6 D2 nD2
          exact ⟨D2, _, rfl, g1.trans g5, n5, h5⟩
      | part nm a b =>
        obtain ⟨va, vb, rfl, ma, mb⟩ := htl
        cases a with
        | mi i =>
          refine ⟨_, rfl, t, _, 0, _, rfl, rfl, SqT.of ht, at0 _, rfl, _, rfl, if_f (decide_eq_false fun e => (by decide +kernel : ¬ (("minutes" : Str) = "road")) (V.str.inj e)) ?_⟩
          refine ⟨_, rfl, t, _, 0, _, rfl, rfl, SqT.of ht, at0 _, rfl, _, rfl, if_f (decide_eq_false fun e => (by decide +kernel : ¬ (("minutes" : Str) = "unroad")) (V.str.inj e)) ?_⟩
          refine ⟨_, rfl, t, _, 0, _, rfl, rfl, SqT.of ht, at0 _, rfl, _, rfl, if_f (decide_eq_false fun e => (by decide +kernel : ¬ (("minutes" : Str) = "bar")) (V.str.inj e)) ?_⟩
          refine ⟨_, rfl, t, _, 0, _, rfl, rfl, SqT.of ht, at0 _, rfl, _, rfl, if_f (decide_eq_false fun e => (by decide +kernel : ¬ (("minutes" : Str) = "unbar")) (V.str.inj e)) ?_⟩
          exact fin0 rfl
        | ki us =>
          refine ⟨_, rfl, t, _, 0, _, rfl, rfl, SqT.of ht, at0 _, rfl, _, rfl, if_f (decide_eq_false fun e => (by decide +kernel : ¬ (("kinds" : Str) = "road")) (V.str.inj e)) ?_⟩
          refine ⟨_, rfl, t, _, 0, _, rfl, rfl, SqT.of ht, at0 _, rfl, _, rfl, if_f (decide_eq_false fun e => (by decide +kernel : ¬ (("kinds" : Str) = "unroad")) (V.str.inj e)) ?_⟩
          refine ⟨_, rfl, t, _, 0, _, rfl, rfl, SqT.of ht, at0 _, rfl, _, rfl, if_f (decide_eq_false fun e => (by decide +kernel : ¬ (("kinds" : Str) = "bar")) (V.str.inj e)) ?_⟩
          refine ⟨_, rfl, t, _, 0, _, rfl, rfl, SqT.of ht, at0 _, rfl, _, rfl, if_f (decide_eq_false fun e => (by decide +kernel : ¬ (("kinds" : Str) = "unbar")) (V.str.inj e)) ?_⟩
          exact fin0 rfl
        | ho hs =>
          refine ⟨_, rfl, t, _, 0, _, rfl, rfl, SqT.of ht, at0 _, rfl, _, rfl, if_f (decide_eq_false fun e => (by decide +kernel : ¬ (("hours" : Str) = "road")) (V.str.inj e)) ?_⟩
          refine ⟨_, rfl, t, _, 0, _, rfl, rfl, SqT.of ht, at0 _, rfl, _, rfl, if_f (decide_eq_false fun e => (by decide +kernel : ¬ (("hours" : Str) = "unroad")) (V.str.inj e)) ?_⟩
          refine ⟨_, rfl, t, _, 0, _, rfl, rfl, SqT.of ht, at0 _, rfl, _, rfl, if_f (decide_eq_false fun e => (by decide +kernel : ¬ (("hours" : Str) = "bar")) (V.str.inj e)) ?_⟩
          refine ⟨_, rfl, t, _, 0, _, rfl, rfl, SqT.of ht, at0 _, rfl, _, rfl, if_f (decide_eq_false fun e => (by decide +kernel : ¬ (("hours" : Str) = "unbar")) (V.str.inj e)) ?_⟩
          exact fin0 rfl
    · rintro σ H1 ⟨D, v2, rfl, g1, nD, hD⟩
      rw [← lx, List.take_length] at hD
      exact ⟨_, rfl, k H1 D g1 nD hD⟩
end
end W

set_option Elab.async false
set_option linter.all false
set_option maxRecDepth 100000
set_option maxHeartbeats 4000000
namespace W
open PySem PySem.Spec PyProof.Rows L2 GxR MyG MyS SqX
/-! ### _law_once, _law_clashes -/
abbrev sLc : Stmt := top 26
abbrev nLc : List Str := ["changes", "others", "first", "second", "found", "thing"]
theorem scLc : FnScope nLc ["changes", "others"] (defScope sLc) := ⟨rfl, rfl, rfl, by decide +kernel, rfl, by decide +kernel, by decide +kernel⟩
def strV : V → Str
  | .str z => z
  | _ => Str.empty
/-- the texts of the tuple that a value names -/
def keyH (H : Hp) : V → List Str
  | .ref t => match H t with
    | some (.tup vs) => vs.map strV
    | _ => []
  | _ => []
theorem keyH_of {H : Hp} {k : List Str} {v : V} (m : ThAt H k v) : keyH H v = k := by
  obtain ⟨t, rfl, e⟩ := m
  show (match H t with | some (.tup vs) => vs.map strV | _ => []) = k
  rw [e]
  show (k.map V.str).map strV = k
  rw [List.map_map]
  exact (List.map_congr_left (fun _ _ => rfl)).trans (List.map_id' _)
theorem keyH_list {H : Hp} : ∀ {l : List (List Str)} {xs : List V}, Paired (ThAt H) l xs → l = xs.map (keyH H) ∧ ∀ x ∈ xs, ThAt H (keyH H x) x
  | _, _, .nil => ⟨rfl, fun x hx => by cases hx⟩
  | k :: l, x :: xs, .cons m r => by
    obtain ⟨e, h⟩ := keyH_list r
    have ek := keyH_of m
    refine ⟨by rw [List.map_cons, ek, e], fun y hy => ?_⟩
    rcases List.mem_cons.mp hy with rfl | hy
    · rw [ek]; exact m
    · exact h y hy
theorem paired_keys {H : Hp} {H' : Hp} : ∀ {ys : List V}, (∀ y ∈ ys, ThAt H' (keyH H y) y) → Paired (ThAt H') (ys.map (keyH H)) ys
  | [], _ => .nil
  | y :: ys, h => .cons (h y List.mem_cons_self) (paired_keys fun z hz => h z (List.mem_cons_of_mem _ hz))
section
variable {Pg : Program} {w : World} {K : PySem.W.Frag} {mg : Str → Option Value} {base : Heap} {C P : Addr}
theorem ok_lo {f : Addr} {fd : FuncData} (F : Fun K "_law_once" "_law_once" sLo f fd) (hs : mg "sorted" = none) :
    FnOk Pg w K mg base CX0 1 f fd ["things"] (spOnce K P) := by
  refine F.ok scLo (fun vs H Q E h => ?_) (fun cdv A outer s H vs Q E hr h => ?_)
  · obtain ⟨L, l, rfl, _⟩ := h
    rfl
  · obtain ⟨L, l, rfl, ⟨xs, hL, hxs⟩, ll, okl, ne, hP, k⟩ := h
    have lx := Paired.len hxs
    obtain ⟨el, hk⟩ := keyH_list hxs
    refine ⟨_, (pss_cons (ps_set (i := 1) scLo.nd rfl (Or.inl rfl) (pe_lst pa_nil))
      (pss_cons (ps_for PassesOwn.never rfl (pi_list (pe_callB (r := rSortLQ K) cr_sortLQ (by rfl) hs (by decide +kernel) (pa_cons (pv 0) pa_nil))) (pg_name (i := 2) scLo.nd rfl (Or.inl rfl))
        (pss_one (ps_if (pt_cmpR (r := rNotInD K) (op_notInD (u65 hr)) (pv 2) (pv 1) (by rfl)) (pss_one (ps_expr (pe_bm PySem.F.plainAttrs_list PySem.F.slot_list_append PySem.F.type_list_append mt_append (pv 1) (pa_cons (pv 2) pa_nil))))
        pss_nil)))
      (pss_one (ps_ret (pv 1))))), ?_⟩
    refine ⟨Nat.zero_le _, fun D nD => ?_⟩
    have gD := Grew.new (o := .lst []) hP nD
    refine ⟨_, rfl, L, xs, keyH H, rfl, .inl (SqL.of (gD.lst hP hL)), fun x hx => ?_, fun ys B pm pw nB => ?_⟩
    · obtain ⟨t, e, et⟩ := (hk x hx).grew gD hP
      refine ⟨t, e, SqT.of et, ?_⟩
      refine ne _ ?_
      rw [el]
      exact List.mem_map.mpr ⟨x, hx, rfl⟩
    have gB := gD.trans (Grew.new (o := .lst ys) gD.tab nB)
    have neB : D ≠ B := fun z => by rw [← z, upd_same] at nB; cases nB
    have hD1 : L2.upd (L2.upd H D (.lst [])) B (.lst ys) D = some (.lst []) := by rw [upd_ne neB, upd_same]
    have hB1 : L2.upd (L2.upd H D (.lst [])) B (.lst ys) B = some (.lst ys) := upd_same
    generalize L2.upd (L2.upd H D (.lst [])) B (.lst ys) = H1 at gB hD1 hB1 ⊢
    have hys : Paired (ThAt H) (ys.map (keyH H)) ys := paired_keys fun y hy => hk y (pm.mem_iff.mp hy)
    have lys := Paired.len hys
    have ly : ys.length = xs.length := pm.length_eq
    refine ⟨B, rfl, ⟨_, SqL.of hB1⟩, for_list (K := K) (a := B) (xs := ys) (fun i σ H' => ∃ v2 acc, σ = [some (.ref L), some (.ref D), v2] ∧ Grew P H H' ∧ H' B = some (.lst ys) ∧ ThsAt H' D acc ∧ acc.Sublist ((ys.map (keyH H)).take i) ∧ acc.Nodup ∧ ∀ q, q ∈ acc ↔ q ∈ (ys.map (keyH H)).take i)
      ⟨none, [], rfl, gB, hB1, ⟨[], hD1, .nil⟩, List.Sublist.refl _, List.nodup_nil, fun q => by simp⟩ (fun i σ H' _ h => by obtain ⟨_, _, _, _, h, _⟩ := h; exact SqL.of h) ?_ ?_⟩
    · rintro i v σ H2 hv ⟨v2, acc, rfl, g2, hB2, ⟨zs, hD, hzs⟩, sub, nd, mem⟩
      obtain ⟨kk, hkk, hm⟩ := Paired.at hys hv
      have hm2 := hm.grew g2 hP
      have et : (ys.map (keyH H)).take (i + 1) = (ys.map (keyH H)).take i ++ [kk] := by rw [List.take_succ, hkk]; rfl
      have memAll : ∀ q ∈ (ys.map (keyH H)), q ∈ l := fun q hq => by
        rw [el]
        exact ((pm.map (keyH H)).mem_iff).mp hq
      have hkl : kk ∈ l := memAll kk (List.mem_of_getElem? hkk)
      have oka : OkT acc := okl.sub fun q hq => memAll q (List.mem_of_mem_take ((mem q).mp hq))
      have la := sub.length_le
      rw [List.length_take, List.length_map] at la
      have lz := Paired.len hzs
      refine ⟨_, rfl, _, rfl, thP kk, acc.map thP, hm2.dp, (ThsAt.dp ⟨zs, hD, hzs⟩), (okl.one hkl).shaped (by decide), oka.lay.shaped (by decide), _, rfl, ?_⟩
      rw [in_things]
      by_cases c : kk ∈ acc
      · refine if_f (by rw [decide_eq_true c]; rfl) ⟨_, acc, rfl, g2, hB2, ⟨zs, hD, hzs⟩, ?_, nd, fun q => ?_⟩
        · rw [et]
          exact sub.trans (List.sublist_append_left _ _)
        · rw [et, List.mem_append, mem q]
          exact ⟨.inl, fun h => h.elim id fun e => by rw [List.mem_singleton.mp e]; exact (mem kk).mp c⟩
      · refine if_t (by rw [decide_eq_false c]; rfl) ?_
        have kp : TKp H2 (L2.upd H2 D (.lst (zs ++ [v]))) := TKp.lst hD
        have neD : B ≠ D := fun z => neB z.symm
        refine ⟨_, rfl, .inl ⟨rfl, _, SqL.of hD⟩, _, rfl, D, zs, _, rfl, rfl, hD, by rw [sizeLine_eq]; omega, _, acc ++ [kk], rfl, g2.write (o := .lst (zs ++ [v])) hD (fun _ z => by cases z) nD, by rw [upd_ne neD]; exact hB2, ⟨zs ++ [v], upd_same, Paired.snoc (Paired.map' hzs fun _ _ m => m.kp kp) (hm2.kp kp)⟩, ?_, ?_, fun q => ?_⟩
        · rw [et]
          exact sub.append (List.Sublist.refl _)
        · exact nodup_snoc.mpr ⟨nd, c⟩
        · rw [et, List.mem_append, List.mem_append, mem q]
    · rintro σ H2 ⟨v2, acc, rfl, g2, hB2, hD, sub, nd, mem⟩
      have et : (ys.map (keyH H)).take ys.length = ys.map (keyH H) := List.take_of_length_le (by rw [List.length_map]; exact Nat.le_refl _)
      rw [et] at sub mem
      refine ⟨_, rfl, k H2 D acc g2 nD hD ⟨nd, (List.pairwise_map.mpr pw).sublist sub, fun q => ?_⟩⟩
      rw [mem q, el]
      exact (pm.map (keyH H)).mem_iff
theorem ok_lc {f fT fL fO : Addr} {fd fdT fdL fdO : FuncData} (F : Fun K "_law_clashes" "_law_clashes" sLc f fd)
    (GLt : FnOk Pg w K mg base CX0 1 fT fdT ["changes"] (spLs K P thL)) (gLt : mg "_law_touched" = some (.ref fT)) (kLt : PySem.W.keepIn K (.ref fT) = true) (bLt : Binds K fdT ["changes"] [])
    (GLl : FnOk Pg w K mg base CX0 1 fL fdL ["changes"] (spLs K P blL)) (gLl : mg "_law_leaned" = some (.ref fL)) (kLl : PySem.W.keepIn K (.ref fL) = true) (bLl : Binds K fdL ["changes"] [])
    (GLo : FnOk Pg w K mg base CX0 1 fO fdO ["things"] (spOnce K P)) (gLo : mg "_law_once" = some (.ref fO)) (kLo : PySem.W.keepIn K (.ref fO) = true) (bLo : Binds K fdO ["things"] []) :
    FnOk Pg w K mg base CX0 2 f fd ["changes", "others"] (sp2 K P rCl) := by
  refine F.ok scLc (fun vs H Q E h => ?_) (fun cdv A outer s H vs Q E hr h => ?_)
  · obtain ⟨L, O, d, ks, cs, os, rfl, _⟩ := h
    rfl
  · obtain ⟨L, O, d, ks, cs, os, rfl, hL, hO, l30, o30, hP, k⟩ := h
    refine ⟨_, (pss_cons (ps_set (i := 2) scLc.nd rfl (Or.inl rfl) (pe_call GLt (hr.mono (by decide)) (by rfl) gLt kLt bLt .nil pass0 (pa_cons (pv 0) pa_nil)))
      (pss_cons (ps_set (i := 3) scLc.nd rfl (Or.inr rfl) (pe_call GLt (hr.mono (by decide)) (by rfl) gLt kLt bLt .nil pass0 (pa_cons (pv 1) pa_nil)))
      (pss_cons (ps_setLc (i := 4) (own := [("thing", 5)]) (g := (gName 5)) rfl scLc.nd rfl rfl (sw_true rfl rfl rfl (by decide +kernel)) (pi_list (pv 2)) (blkOk_by (N := nLc) (sc := defScope sLc) (by decide +kernel)) (fun _ _ _ _ _ => pg_name (i := 5) scLc.nd rfl (Or.inl rfl)) (fun _ _ _ _ _ => pts_one (pt_cmpR (r := rInD K) (op_inD (u65 hr)) (pv 5) (pe_op op_cat (pv 3) (pe_call GLl (hr.mono (by decide)) (by rfl) gLl kLl bLl .nil pass0 (pa_cons (pv 1) pa_nil))) (by rfl))) (fun _ _ _ _ _ => (pv 5)))
      (pss_one (ps_ret (pe_call GLo (hr.mono (by decide)) (by rfl) gLo kLo bLo .nil pass0 (pa_cons (pe_op op_cat (pv 4) (pe_lc (own := [("thing", 5)]) (g := (gName 5)) rfl scLc.nd (pi_list (pv 3)) (blkOk_by (N := nLc) (sc := defScope sLc) (by decide +kernel)) (fun _ _ _ _ _ => pg_name (i := 5) scLc.nd rfl (Or.inl rfl)) (fun _ _ _ _ _ => pts_one (pt_cmpR (r := rInD K) (op_inD (u65 hr)) (pv 5) (pe_call GLl (hr.mono (by decide)) (by rfl) gLl kLl bLl .nil pass0 (pa_cons (pv 0) pa_nil)) (by rfl))) (fun _ _ _ _ _ => (pv 5)))) pa_nil))))))), ?_⟩
    have okc := hL.choose_spec.2.2
    have oko := hO.choose_spec.2.2
    have lth : (thL cs).length = cs.length := List.length_map _
    have lto : (thL os).length = os.length := List.length_map _
    have lbo := blL_len os
    have lbc := blL_len cs
    refine ⟨_, rfl, L, d, ks, cs, rfl, hL, l30, hP, fun H1 B1 g1 nB1 hB1 => ?_⟩
    refine ⟨_, rfl, O, d, ks, os, rfl, hO.grew g1 hP, o30, g1.tab, fun H2 B2 g2 nB2 hB2 => ?_⟩
    have g02 := g1.trans g2
    obtain ⟨xs1, e1, p1⟩ := hB1.grew g2 g1.tab
    obtain ⟨xs2, e2, p2⟩ := id hB2
    have lx1 := Paired.len p1
    have lx2 := Paired.len p2
    refine ⟨_, rfl, B1, rfl, ⟨_, SqL.of e1⟩, fun D nD => lc_list (K := K) (a := B1) (xs := xs1) (fun j H' => Grew P H2 H' ∧ ThsAt H' D (((thL cs).take j).filter fun q => decide (q ∈ thL os ++ blL os))) ⟨Grew.new g02.tab nD, [], upd_same, .nil⟩ (fun j H' _ p => SqL.of (p.1.lst g02.tab e1)) (fun j v H5 hv p => ?_) (fun H5 p => ?_)⟩
    · obtain ⟨g5, ys, hD, hys⟩ := p
      obtain ⟨kk, hk, hkm⟩ := Paired.at p1 hv
      have g05 := g02.trans g5
      have et : ((thL cs).take (j + 1)).filter (fun q => decide (q ∈ thL os ++ blL os)) = ((thL cs).take j).filter (fun q => decide (q ∈ thL os ++ blL os)) ++ (if kk ∈ thL os ++ blL os then [kk] else []) := by
        rw [List.take_succ, hk, List.filter_append]
        congr 1
        show List.filter (fun q => decide (q ∈ thL os ++ blL os)) [kk] = _
        rw [List.filter_cons, List.filter_nil]
        by_cases c : kk ∈ thL os ++ blL os
        · rw [decide_eq_true c, if_pos rfl, if_pos c]
        · rw [decide_eq_false c, if_neg Bool.false_ne_true, if_neg c]
      have ly := Paired.len hys
      have lf := List.length_filter_le (fun q => decide (q ∈ thL os ++ blL os)) ((thL cs).take j)
      rw [List.length_take] at lf
      refine ⟨rfl, _, rfl, _, rfl, _, rfl, O, d, ks, os, rfl, hO.grew g05 hP, o30, g05.tab, fun H6 B6 g6 nB6 hB6 => ?_⟩
      have g56 := g5.trans g6
      obtain ⟨xs6, e6, p6⟩ := id hB6
      have lx6 := Paired.len p6
      refine ⟨B2, B6, _, _, rfl, rfl, g56.lst g02.tab e2, e6, by rw [sizeLine_eq]; omega, fun B7 nB7 => ?_⟩
      have g7 := Grew.new (o := .lst (xs2 ++ xs6)) (g02.trans g56).tab nB7
      have g57 := g56.trans g7
      generalize eH7 : L2.upd H6 B7 _ = H7 at g7 g57
      have hB7 : ThsAt H7 B7 (thL os ++ blL os) := ⟨xs2 ++ xs6, by rw [← eH7]; exact upd_same, paired_app (Paired.map' p2 fun _ _ m => m.grew g57 g02.tab) (Paired.map' p6 fun _ _ m => m.grew g7 (g02.trans g56).tab)⟩
      have hkm7 := hkm.grew g57 g02.tab
      have okb : OkT (thL os ++ blL os) := OkT.app (thL_ok oko) (blL_ok oko)
      refine ⟨_, _, hkm7.dp, hB7.dp, ((thL_ok okc).one (List.mem_of_getElem? hk)).shaped (by decide), okb.lay.shaped (by decide), _, rfl, ?_⟩
      rw [in_things]
      have hD7 := (g6.trans g7).lst g05.tab hD
      have hys7 := Paired.map' hys fun _ _ m => ThAt.grew m (g6.trans g7) g05.tab
      by_cases c : kk ∈ thL os ++ blL os
      · refine if_t (decide_eq_true c) ⟨_, rfl, ys, hD7, by rw [sizeLine_eq]; omega, g57.write hD7 (fun _ z => by cases z) nD, ys ++ [v], upd_same, ?_⟩
        have kp : TKp H7 (L2.upd H7 D (.lst (ys ++ [v]))) := TKp.lst hD7
        rw [et, if_pos c]
        exact Paired.snoc (Paired.map' hys7 fun _ _ m => m.kp kp) (hkm7.kp kp)
      · refine if_f (decide_eq_false c) ⟨g57, ys, hD7, ?_⟩
        rw [et, if_neg c, List.append_nil]
        exact hys7
    obtain ⟨g5, hD⟩ := p
    have tk1 : (thL cs).take xs1.length = thL cs := List.take_of_length_le (by omega)
    rw [tk1] at hD
    have g05 := g02.trans g5
    have e2' := g5.lst g02.tab e2
    have p2' := Paired.map' p2 fun _ _ m => ThAt.grew m g5 g02.tab
    obtain ⟨xd, eD, pD⟩ := id hD
    have lxd := Paired.len pD
    have lf1 := List.length_filter_le (fun q => decide (q ∈ thL os ++ blL os)) (thL cs)
    refine ⟨_, rfl, _, rfl, B2, rfl, ⟨_, SqL.of e2'⟩, fun D2 nD2 => lc_list (K := K) (a := B2) (xs := xs2) (fun j H' => Grew P H5 H' ∧ ThsAt H' D2 (((thL os).take j).filter fun q => decide (q ∈ blL cs))) ⟨Grew.new g05.tab nD2, [], upd_same, .nil⟩ (fun j H' _ p => SqL.of (p.1.lst g05.tab e2')) (fun j v H6 hv p => ?_) (fun H6 p => ?_)⟩
    · obtain ⟨g6, ys, hD2, hys⟩ := p
      obtain ⟨kk, hk, hkm⟩ := Paired.at p2' hv
      have g06 := g05.trans g6
      have et : ((thL os).take (j + 1)).filter (fun q => decide (q ∈ blL cs)) = ((thL os).take j).filter (fun q => decide (q ∈ blL cs)) ++ (if kk ∈ blL cs then [kk] else []) := by
        rw [List.take_succ, hk, List.filter_append]
        congr 1
        show List.filter (fun q => decide (q ∈ blL cs)) [kk] = _
        rw [List.filter_cons, List.filter_nil]
        by_cases c : kk ∈ blL cs
        · rw [decide_eq_true c, if_pos rfl, if_pos c]
        · rw [decide_eq_false c, if_neg Bool.false_ne_true, if_neg c]
      have ly := Paired.len hys
      have lf := List.length_filter_le (fun q => decide (q ∈ blL cs)) ((thL os).take j)
      rw [List.length_take] at lf
      refine ⟨rfl, _, rfl, _, rfl, L, d, ks, cs, rfl, hL.grew g06 hP, l30, g06.tab, fun H7 B7 g7 nB7 hB7 => ?_⟩
      have g67 := g6.trans g7
      have hkm7 := hkm.grew g67 g05.tab
      refine ⟨_, _, hkm7.dp, hB7.dp, ((thL_ok oko).one (List.mem_of_getElem? hk)).shaped (by decide), (blL_ok okc).lay.shaped (by decide), _, rfl, ?_⟩
      rw [in_things]
      have hD7 := g7.lst g06.tab hD2
      have hys7 := Paired.map' hys fun _ _ m => ThAt.grew m g7 g06.tab
      by_cases c : kk ∈ blL cs
      · refine if_t (decide_eq_true c) ⟨_, rfl, ys, hD7, by rw [sizeLine_eq]; omega, g67.write hD7 (fun _ z => by cases z) nD2, ys ++ [v], upd_same, ?_⟩
        have kp : TKp H7 (L2.upd H7 D2 (.lst (ys ++ [v]))) := TKp.lst hD7
        rw [et, if_pos c]
        exact Paired.snoc (Paired.map' hys7 fun _ _ m => m.kp kp) (hkm7.kp kp)
      · refine if_f (decide_eq_false c) ⟨g67, ys, hD7, ?_⟩
        rw [et, if_neg c, List.append_nil]
        exact hys7
    obtain ⟨g6, hD2⟩ := p
    have tk2 : (thL os).take xs2.length = thL os := List.take_of_length_le (by omega)
    rw [tk2] at hD2
    have g06 := g05.trans g6
    obtain ⟨xd2, eD2, pD2⟩ := id hD2
    have lxd2 := Paired.len pD2
    have lf2 := List.length_filter_le (fun q => decide (q ∈ blL cs)) (thL os)
    refine ⟨D, D2, _, _, rfl, rfl, g6.lst g05.tab eD, eD2, by rw [sizeLine_eq]; omega, fun B9 nB9 => ?_⟩
    have g9 := Grew.new (o := .lst (xd ++ xd2)) g06.tab nB9
    have hB9 : ThsAt (L2.upd H6 B9 (.lst (xd ++ xd2))) B9 ((thL cs).filter (fun q => decide (q ∈ thL os ++ blL os)) ++ (thL os).filter fun q => decide (q ∈ blL cs)) := ⟨_, upd_same, paired_app (Paired.map' pD fun _ _ m => m.grew (g6.trans g9) g05.tab) (Paired.map' pD2 fun _ _ m => m.grew g9 g06.tab)⟩
    have mem : ∀ q, q ∈ (thL cs).filter (fun q => decide (q ∈ thL os ++ blL os)) ++ (thL os).filter (fun q => decide (q ∈ blL cs)) ↔ q ∈ clashL cs os := fun q => by
      rw [List.mem_append, List.mem_filter, List.mem_filter, decide_eq_true_iff, decide_eq_true_iff, List.mem_append, mem_clash]
      constructor
      · rintro (h | ⟨h1, h2⟩)
        · exact .inl h
        · exact .inr ⟨h1, .inr h2⟩
      · rintro (h | ⟨h1, h2 | h2⟩)
        · exact .inl h
        · exact .inl ⟨h2, .inl h1⟩
        · exact .inr ⟨h1, h2⟩
    refine ⟨B9, _, rfl, hB9, by rw [List.length_append]; omega, (clash_ok okc oko).sub fun q hq => (mem q).mp hq, fun q hq => ?_, (g06.trans g9).tab, fun Ha B m ga nB hB ht => ?_⟩
    · rcases mem_clash.mp ((mem q).mp hq) with ⟨h1, _⟩ | ⟨h1, _⟩
      · exact thL_ne q h1
      · exact thL_ne q h1
    · have g09 := g06.trans g9
      exact k Ha _ (g09.trans ga) ⟨B, m, rfl, g09.free nB, hB, ⟨ht.nd, ht.pw, fun q => (ht.mem q).trans (mem q)⟩⟩
end
end W

set_option Elab.async false
set_option linter.all false
set_option maxRecDepth 100000
set_option maxHeartbeats 2000000
namespace MyR
open PySem PySem.Spec PyProof.Rows L2
/-! ### the law's own call, where several defs hold a generator expression -/
section
variable {P : Program} {w : World} {K : PySem.W.Frag} {mg : Str → Option Value} {base : Heap}
def topL (K : PySem.W.Frag) (cs : List (Addr × Addr)) (a : Addr) (o : Obj) (xs : List V) : Hp := fun b => if b ∈ cs.map (·.2) then some (.tbl #[]) else if b = a ∧ K.lookup a = none then some (.frz o (.lst xs)) else none
theorem topL_cases {cs : List (Addr × Addr)} {a b : Addr} {o : Obj} {xs : List V} {u : HO} (h : topL K cs a o xs b = some u) : (b ∈ cs.map (·.2) ∧ u = .tbl #[]) ∨ (b ∉ cs.map (·.2) ∧ b = a ∧ K.lookup a = none ∧ u = .frz o (.lst xs)) := by
  unfold topL at h
  by_cases h1 : b ∈ cs.map (·.2)
  · rw [if_pos h1] at h
    exact .inl ⟨h1, (Option.some.inj h).symm⟩
  · rw [if_neg h1] at h
    by_cases h2 : b = a ∧ K.lookup a = none
    · rw [if_pos h2] at h
      exact .inr ⟨h1, h2.1, h2.2, (Option.some.inj h).symm⟩
    · rw [if_neg h2] at h
      cases h
theorem top_callL {mb : Str → Option Value} {CX : CXT} {f a : Addr} {cs : List (Addr × Addr)} {sp : Sp} {s : Shared} {vs : List Value} {ns : List Int} (KX : K.In s.heap) (G : s.heap.Ns mainGlobals mg) (B : s.heap.Ns builtinsNs mb) (hB : ∀ x : Str, x ≠ "__name__" → mb x = bootBuiltins x) (lim : s.heap.NoLimit) (ng : s.gens = #[])
    (hcs : ∀ p ∈ cs, s.heap.get? p.2 = some { cls := .none, data := .fields #[] } ∧ K.lookup p.2 = none ∧ PySem.W.CodeHd s.heap p.1 p.2)
    (hbm : ∃ (bm : Addr) (ob : Obj), mg "__builtins__" = some (.ref bm) ∧ bm ≠ builtinsNs ∧ s.heap.get? bm = some ob ∧ ob.cls = .type "module" ∧ ob.dict = some builtinsNs ∧ ob.data = .plain)
    (ea : s.heap.get? a = some { cls := .type "list", data := .seq vs.toArray }) (hi : IntsAre vs ns) (hl : ns.length ≤ sizeLine)
    (R : ∀ base : Heap, K.In base → base.Ns mainGlobals mg → (∀ p ∈ cs, LamX.TabB base mg p.1 p.2) → RunG P w K mg base CX f sp)
    (hsp : ∀ H : Hp, (∀ p ∈ cs, H p.2 = some (.tbl #[])) → SqL K H a (ns.map V.int) → sp [.ref a] H (fun v _ => v = .bl true) fun _ _ _ => False)
    (no : ∀ H e s', CX [] H s (fun _ _ _ => False) e s' → False) :
    codeAny (model P w) callerA (.call (.ref f) ⟨[.ref a], []⟩) (fun r s' => r = .ok (.ret (.bool true)) ∧ OldK s.heap s'.heap ∧ s'.os = s.os ∧ AllBare s'.gens) s := by
  have rv := vals_ints hi
  have mem : ∀ {b : Addr}, b ∈ cs.map (·.2) → ∃ c, (c, b) ∈ cs := fun {b} h => by
    obtain ⟨⟨c, b'⟩, hp, e⟩ := List.mem_map.mp h
    have e' : b' = b := e
    exact ⟨c, e' ▸ hp⟩
  have eT : ∀ {b : Addr}, b ∈ cs.map (·.2) → s.heap.get? b = some { cls := .none, data := .fields #[] } := fun h => let ⟨c, hp⟩ := mem h; (hcs _ hp).1
  have nT : ∀ {b : Addr}, b ∈ cs.map (·.2) → K.lookup b = none := fun h => let ⟨c, hp⟩ := mem h; (hcs _ hp).2.1
  have nz : a ∉ cs.map (·.2) := fun z => by
    rw [eT z] at ea
    cases ea
  obtain ⟨H, eH⟩ : ∃ H, H = topL K cs a { cls := .type "list", data := .seq vs.toArray } (ns.map V.int) := ⟨_, rfl⟩
  have tr : ∀ {b : Addr} {u : HO}, H b = some u → _ := fun {b u} h => topL_cases (by rw [eH] at h; exact h)
  have HT : ∀ p ∈ cs, H p.2 = some (.tbl #[]) := fun p hp => by
    rw [eH]
    exact if_pos (List.mem_map.mpr ⟨p, hp, rfl⟩)
  have hS : SqL K H a (ns.map V.int) := by
    cases q : K.lookup a with
    | none => exact .inl (.inr ⟨_, by rw [eH]; exact (if_neg nz).trans (if_pos ⟨rfl, q⟩)⟩)
    | some o =>
      have e := KX a o q
      rw [ea] at e
      cases e
      exact .inr ⟨_, vs.toArray, _, q, rfl, rfl, rfl, by rw [List.size_toArray, hi.length]; exact hl, by simpa using rv⟩
  have ok : HOk P w H s.heap := fun b u h => by
    rcases tr h with ⟨hb, rfl⟩ | ⟨_, rfl, _, rfl⟩
    · exact eT hb
    · exact ⟨ea, by rw [List.length_map]; exact hl, vs, _, rv, ea⟩
  have gone : ∀ {b : Addr} {o : Obj}, s.heap.get? b = some o → (∀ xs n, o.data ≠ .seq xs n) → o.data ≠ .fields #[] → H b = none := fun {b o} e d1 d2 => by
    cases h : H b with
    | none => rfl
    | some u =>
      rcases tr h with ⟨hb, _⟩ | ⟨_, rfl, _, _⟩
      · rw [eT hb] at e
        cases e
        exact (d2 rfl).elim
      · rw [ea] at e
        cases e
        exact (d1 _ _ rfl).elim
  have toB : ∀ {b : Addr} {m : Str → Option Value}, s.heap.Ns b m → (hidT s.heap H).Ns b m := fun {b m} ⟨o, es, ep, e, d, r⟩ =>
    ⟨o, es, ep, hidT_get e (gone e (fun xs n z => by rw [d] at z; cases z) (fun z => by rw [d] at z; cases z)), d, r⟩
  have KB : K.In (hidT s.heap H) := fun b o e => hidT_get (KX b o e) (by
    cases h : H b with
    | none => rfl
    | some u =>
      rcases tr h with ⟨hb, _⟩ | ⟨_, rfl, k, _⟩
      · rw [nT hb] at e; cases e
      · rw [k] at e; cases e)
  have TB : ∀ p ∈ cs, LamX.TabB (hidT s.heap H) mg p.1 p.2 := fun p hp => by
    obtain ⟨eT, nT, C⟩ := hcs p hp
    refine ⟨?_, ?_, fun z => ?_⟩
    · obtain ⟨o, us, file, tf, flags, tg, inF, text, tt, e1, r1, r2, r3, r⟩ := C
      exact ⟨o, us, file, tf, flags, tg, inF, text, tt, hidT_get e1 (gone e1 (fun xs n z => by rw [r2] at z; cases z) (fun z => by rw [r2] at z; cases z; simp at r3)), r1, r2, r3, r⟩
    · obtain ⟨bm, ob, b1, b2, b3, b4, b5, b6⟩ := hbm
      refine ⟨bm, ob, b1, b2, fun z => ?_, fun z => ?_, hidT_get b3 (gone b3 (fun xs n z => by rw [b6] at z; cases z) (fun z => by rw [b6] at z; cases z)), b4, b5, b6⟩
      · obtain ⟨o, es, ep, e, d, _⟩ := G
        rw [z, e] at b3
        cases b3
        rw [d] at b6
        cases b6
      · rw [z, eT] at b3
        cases b3
        cases b6
    · obtain ⟨o, es, ep, e, d, _⟩ := G
      rw [z, eT] at e
      cases e
      cases d
  have e0 : Env0 P w K mg (hidT s.heap H) callerA [] s H :=
    ⟨rfl, ⟨KB, toB G, ⟨mb, toB B, hB⟩, let ⟨mc, h1, h2⟩ := lim; ⟨mc, toB h1, h2⟩⟩, fun b o e => of_hidT e, Nat.le_of_eq (hidT_size _ _), trivial, fun b hb => absurd (show b ∈ ([] : List Addr) from hb) (by simp), ok, .of_eq ng⟩
  refine codeAny_mono (R _ KB (toB G) TB s H a _ _ e0 (hsp H HT hS)) fun r s' h => ?_
  match r, h with
  | .error e, h => exact (no H e s' h).elim
  | .ok .next, h => exact False.elim h
  | .ok .brk, h => exact False.elim h
  | .ok .cont, h => exact False.elim h
  | .ok (.ret u), ⟨v, H', os, bare, un, ok', r', q⟩ =>
    obtain rfl : v = .bl true := q
    obtain rfl : u = Value.bool true := r'
    have hm : ∀ p ∈ cs, ∃ more : Array Value, s'.heap.get? p.2 = some { cls := .none, data := .fields more } := fun p hp => by
      obtain ⟨more, z⟩ := un.tbls p.2 #[] (HT p hp)
      exact ⟨_, ok' p.2 _ z⟩
    have old : ∀ b o, b ∉ cs.map (·.2) → s.heap.get? b = some o → s'.heap.get? b = some o := fun b o ne e => by
      cases h : H b with
      | none => exact un.keep b o e h (fun z => absurd (show b ∈ ([] : List Addr) from z) (by simp)) (by simp)
      | some u =>
        rcases tr h with ⟨z, _⟩ | ⟨_, rfl, _, rfl⟩
        · exact absurd z ne
        · obtain ⟨e2, _⟩ := ok' b _ (un.frzs b _ _ h)
          rw [ea] at e
          cases e
          exact e2
    refine ⟨rfl, ⟨fun b o e => ?_, fun b o e => ?_⟩, os, bare⟩
    · by_cases hb : b ∈ cs.map (·.2)
      · obtain ⟨c, hp⟩ := mem hb
        obtain ⟨eT, _, C⟩ := hcs _ hp
        obtain ⟨more, hm⟩ := hm _ hp
        have eT' : s.heap.get? b = some { cls := .none, data := .fields #[] } := eT
        rw [eT'] at e
        cases e
        exact .inr (.inl ⟨(C.tab eT).isCodeTable, rfl, #[], more, rfl, by rw [Array.empty_append]; exact hm⟩)
      · exact .inl (old b o hb e)
    · by_cases hb : b ∈ cs.map (·.2)
      · obtain ⟨c, hp⟩ := mem hb
        obtain ⟨more, hm⟩ := hm _ hp
        exact ⟨_, hm⟩
      · exact ⟨o, old b o hb e⟩
end
/-- what the law's end asks: the tables of the code objects, and the promise sp -/
def LawL (l : PySem.W.OpenLaw) (w : World) (K : PySem.W.Frag) (CX : CXT) (n : Nat) (mg : Str → Option Value) (fa : Addr) (h : Heap) : Prop :=
  ∃ (cs : List (Addr × Addr)) (sp : Sp), (∀ p ∈ cs, h.get? p.2 = some { cls := .none, data := .fields #[] } ∧ K.lookup p.2 = none ∧ PySem.W.CodeHd h p.1 p.2) ∧
    (∀ (H : Hp) (a : Addr) (ns : List Int), ns.length ≤ n → (∀ p ∈ cs, H p.2 = some (.tbl #[])) → SqL K H a (ns.map V.int) → sp [.ref a] H (fun v _ => v = .bl true) fun _ _ _ => False) ∧
    ∀ base : Heap, K.In base → base.Ns mainGlobals mg → (∀ p ∈ cs, LamX.TabB base mg p.1 p.2) → RunG l.prog w K mg base CX fa sp
theorem walk_ofL {l : PySem.W.OpenLaw} {n : Nat} {q : Program} {loose : List Str} {XP : (Str → Option Value) → Heap → Prop} {YP : World → Heap → Prop} {d : DefRec} {K : Params → PySem.W.Frag} {CX : World → CXT} (names : List Str)
    (hn : l.most = some n) (hn2 : n ≤ sizeLine) (hdf : d.params.defaults = []) (hrec : names.all (fun y => (recsOf q).any fun e => e.name == y) = true) (hY : ∀ (w : World) (h : Heap), YP w h → (K w.params).In h)
    (F : ∀ (w : World) (mg : Str → Option Value) (fa : Addr) (h : Heap), YP w h → (K w.params).In h → h.Ns mainGlobals mg → mg d.name = some (.ref fa) → (∀ y ∈ names, ∀ f, mg y = some (.ref f) → LamX.OwnTab (K w.params) f h) → LawL l w (K w.params) (CX w) n mg fa h)
    (no : ∀ (w : World) (H : Hp) (s : Shared) (e : Value) (s' : Shared), CX w [] H s (fun _ _ _ => False) e s' → False) :
    PySem.W.WalkO q loose XP YP l.row.toRowW d [] (fun f vs => PySem.call f vs) := by
  refine Att.attach_callB hn hdf fun w s₀ s₁ mg mb fa o pm cd doc a vs ns G Y ho hd hcd hmg hobj hints hlen hbits hg => ?_
  have KX := hY w _ Y
  obtain ⟨cs, sp, hcs, hsp, R⟩ := F w mg fa _ Y KX G.T.g hmg (fun y hy f hf c P o1 fd1 e dd vs1 sl k1 k2 k3 k4 k5 => by
    obtain ⟨dL, hm, hn1⟩ := List.any_eq_true.mp (List.all_eq_true.mp hrec y hy)
    obtain ⟨a', o', fd', c', P', h1, h2, h3, h4, h5, h6⟩ := G.T.tab dL hm
    rw [beq_iff_eq.mp hn1, hf] at h1
    cases h1
    have g1 := KX _ _ k1
    rw [g1] at h2
    cases h2
    rw [k2] at h3
    cases h3
    rw [k3] at h4
    cases h4
    obtain ⟨⟨oc, vc, e1, _, e3, e4⟩, hP⟩ := h6
    have g2 := KX _ _ k4
    rw [g2] at e1
    cases e1
    cases e3
    rw [k5] at e4
    cases e4
    exact hP)
  exact top_callL KX G.T.g G.T.b G.T.builtins G.T.nolimit hg hcs G.T.bmain hobj hints (Nat.le_trans hlen hn2) R (fun H hH hS => hsp H a ns hlen hH hS) fun H e s' => no w H s₁ e s'
end MyR

set_option Elab.async false
set_option linter.all false
set_option maxRecDepth 100000
set_option maxHeartbeats 8000000
namespace W
open PySem PySem.Spec PyProof.Rows L2 GxR MyG MyS SqX MyR
/-! ### the law -/
abbrev sLaw : Stmt := top 27
def spLaw (K : PySem.W.Frag) (P : Addr) : Sp := fun vs H Q _ => ∃ (a : Addr) (zs : List Int), vs = [.ref a] ∧ SqL K H a (zs.map V.int) ∧ zs.length ≤ 63 ∧ TabG H P ∧ ∀ H', Q (.bl true) H'
abbrev nLaw : List Str := ["script", "numbers", "parts", "first", "second", "due", "told", "actual", "k"]
theorem room6 {q : Str} {sc : Scope} {n : Nat} {f : Addr} {cd : Value} : Room 6 (callerA.deeper (envOfC q sc n f cd)) := ⟨rfl, by show 1 + claimMargin + 1 + 3 * 6 + 5 < _; decide, by show 4 + 3 + 16 * 6 + 200 < _; decide⟩
theorem CsAt.app {K : PySem.W.Frag} {H : Hp} {B : Addr} {d : Int} {ks : List Str} {cs os : List Chg} {xs ys : List V} (hx : Paired (ChgAt K H) cs xs) (hy : Paired (ChgAt K H) os ys) (h1 : ∀ c ∈ cs, ChgOk d ks c) (h2 : ∀ c ∈ os, ChgOk d ks c) (e : H B = some (.lst (xs ++ ys))) : CsAt K H B d ks (cs ++ os) :=
  ⟨_, e, paired_app hx hy, fun c hc => (List.mem_append.mp hc).elim (h1 c) (h2 c)⟩
theorem paired_take {α β : Type} {F : α → β → Prop} : ∀ {l : List α} {m : List β} (n : Nat), Paired F l m → Paired F (l.take n) (m.take n)
  | _, _, 0, _ => by rw [List.take_zero, List.take_zero]; exact .nil
  | _, _, n + 1, .nil => .nil
  | _, _, n + 1, .cons h r => .cons h (paired_take n r)
section
variable {Pg : Program} {w : World} {K : PySem.W.Frag} {mg : Str → Option Value} {base : Heap} {C P : Addr}
theorem scLaw : FnScope nLaw ["script"] (defScope sLaw) := ⟨rfl, rfl, rfl, by decide +kernel, rfl, by decide +kernel, by decide +kernel⟩
theorem ok_law {f fNu fPa fDc fTo fLe fCl fAa fLt fLl fLo fLc : Addr} {fdNu fdPa fdDc fdTo fdLe fdCl fdAa fdLt fdLl fdLo fdLc : FuncData} {dV kV doc pm cdv ct oc : Value} {an od : Option Addr} {osl : Array (Option Value)}
    (lk : K.lookup f = some ⟨oc, od, .func (PySem.W.fnOf "law" "law" (defArgs sLaw) (defBody sLaw) (defScope sLaw) dV kV doc pm an cdv ct), osl⟩) (hcd : PySem.W.codeIn K cdv "law" = true)
    (hb : ∀ (s : Shared) (u : Value), BindsTo s (PySem.W.fnOf "law" "law" (defArgs sLaw) (defBody sLaw) (defScope sLaw) dV kV doc pm an cdv ct) ⟨[u], []⟩ [("script", u)])
    (hi : mg "int" = none) (hl : mg "len" = none) (hls : mg "list" = none) (hrg : mg "range" = none) (his : mg "isinstance" = none) (hbo : mg "bool" = none)
    (GNu : FnOk Pg w K mg base CX0 2 fNu fdNu ["script", "many"] (spNumbers K P)) (gNu : mg "_law_numbers" = some (.ref fNu)) (kNu : PySem.W.keepIn K (.ref fNu) = true) (bNu : Binds K fdNu ["script", "many"] [])
    (GPa : FnOk Pg w K mg base CX0 3 fPa fdPa ["numbers", "at"] (spLPartsG K P)) (gPa : mg "_law_parts" = some (.ref fPa)) (kPa : PySem.W.keepIn K (.ref fPa) = true) (bPa : Binds K fdPa ["numbers", "at"] [])
    (GDc : FnOk Pg w K mg base CX0 3 fDc fdDc ["numbers", "at", "parts"] (spDrawn K P)) (gDc : mg "_law_drawn_change" = some (.ref fDc)) (kDc : PySem.W.keepIn K (.ref fDc) = true) (bDc : Binds K fdDc ["numbers", "at", "parts"] [])
    (GTo : FnOk Pg w K mg base CX0 2 fTo fdTo ["changes"] (spThs K P thL)) (gTo : mg "touched" = some (.ref fTo)) (kTo : PySem.W.keepIn K (.ref fTo) = true) (bTo : Binds K fdTo ["changes"] [])
    (GLe : FnOk Pg w K mg base CX0 2 fLe fdLe ["changes"] (spThs K P blL)) (gLe : mg "leaned_on" = some (.ref fLe)) (kLe : PySem.W.keepIn K (.ref fLe) = true) (bLe : Binds K fdLe ["changes"] [])
    (GCl : FnOk Pg w K mg base CX0 4 fCl fdCl ["changes", "others"] (sp2 K P rCl)) (gCl : mg "clashes" = some (.ref fCl)) (kCl : PySem.W.keepIn K (.ref fCl) = true) (bCl : Binds K fdCl ["changes", "others"] [])
    (GAa : FnOk Pg w K mg base CX0 5 fAa fdAa ["changes", "others"] (sp2 K P rAa)) (gAa : mg "are_apart" = some (.ref fAa)) (kAa : PySem.W.keepIn K (.ref fAa) = true) (bAa : Binds K fdAa ["changes", "others"] [])
    (GLt : FnOk Pg w K mg base CX0 1 fLt fdLt ["changes"] (spLs K P thL)) (gLt : mg "_law_touched" = some (.ref fLt)) (kLt : PySem.W.keepIn K (.ref fLt) = true) (bLt : Binds K fdLt ["changes"] [])
    (GLl : FnOk Pg w K mg base CX0 1 fLl fdLl ["changes"] (spLs K P blL)) (gLl : mg "_law_leaned" = some (.ref fLl)) (kLl : PySem.W.keepIn K (.ref fLl) = true) (bLl : Binds K fdLl ["changes"] [])
    (GLo : FnOk Pg w K mg base CX0 1 fLo fdLo ["things"] (spOnce K P)) (gLo : mg "_law_once" = some (.ref fLo)) (kLo : PySem.W.keepIn K (.ref fLo) = true) (bLo : Binds K fdLo ["things"] [])
    (GLc : FnOk Pg w K mg base CX0 2 fLc fdLc ["changes", "others"] (sp2 K P rCl)) (gLc : mg "_law_clashes" = some (.ref fLc)) (kLc : PySem.W.keepIn K (.ref fLc) = true) (bLc : Binds K fdLc ["changes", "others"] []) :
    RunG Pg w K mg base (L2.CX Pg w) f (spLaw K P) := by
  refine runG_of lk hcd scLaw hb ⟨rfl, by decide, by decide⟩ fun s H a Q E h => ?_
  obtain ⟨a1, zs, ea, hS, hz, hP, kQ⟩ := h
  cases ea
  have hr : Room 6 (callerA.deeper (envOfC "law" (defScope sLaw) s.heap.objs.size f cdv)) := room6
  refine ⟨_, (pss_cons (ps_set (i := 1) scLaw.nd rfl (Or.inr rfl) (pe_call GNu (hr.mono (by decide)) (by rfl) gNu kNu bNu .nil pass0 (pa_cons (pv 0) (pa_cons pe_int pa_nil))))
      (pss_cons (ps_set (i := 2) scLaw.nd rfl (Or.inr rfl) (pe_call GPa (hr.mono (by decide)) (by rfl) gPa kPa bPa .nil pass0 (pa_cons (pv 1) (pa_cons pe_int pa_nil))))
      (C8.pss_cut (ps_setLc (i := 3) (own := [("k", 8)]) (g := (gName 8)) (tt := tYes) rfl scLaw.nd rfl rfl (sw_true rfl rfl rfl (by decide +kernel)) (pi_range1 rfl hrg (pa_cons (pe_op op_mod (pe_callTy (r := rInt1) call_int1 (by rfl) hi (by decide +kernel) (pa_cons (pe_ix (r := rIxL K) ix_list (pv 1) pe_int (fun _ _ => rfl)) pa_nil)) pe_int) pa_nil)) (blkOk_by (N := nLaw) (sc := defScope sLaw) (by decide +kernel)) (fun _ _ _ _ _ => pg_name (i := 8) scLaw.nd rfl (Or.inl rfl)) (fun _ _ _ _ _ => pts_nil) (fun _ _ _ _ _ => (pe_call GDc (hr.mono (by decide)) (by rfl) gDc kDc bDc .nil pass0 (pa_cons (pv 1) (pa_cons (pe_op op_add pe_int (pe_op op_mul pe_int (pv 8))) (pa_cons (pv 2) pa_nil))))))
      (C8.pss_cut (ps_setLc (i := 4) (own := [("k", 8)]) (g := (gName 8)) (tt := tYes) rfl scLaw.nd rfl rfl (sw_true rfl rfl rfl (by decide +kernel)) (pi_range1 rfl hrg (pa_cons (pe_op op_mod (pe_callTy (r := rInt1) call_int1 (by rfl) hi (by decide +kernel) (pa_cons (pe_ix (r := rIxL K) ix_list (pv 1) pe_int (fun _ _ => rfl)) pa_nil)) pe_int) pa_nil)) (blkOk_by (N := nLaw) (sc := defScope sLaw) (by decide +kernel)) (fun _ _ _ _ _ => pg_name (i := 8) scLaw.nd rfl (Or.inl rfl)) (fun _ _ _ _ _ => pts_nil) (fun _ _ _ _ _ => (pe_call GDc (hr.mono (by decide)) (by rfl) gDc kDc bDc .nil pass0 (pa_cons (pv 1) (pa_cons (pe_op op_add pe_int (pe_op op_mul pe_int (pv 8))) (pa_cons (pv 2) pa_nil))))))
      (C8.pss_cut (ps_if (pt_cmpR op_eq (pe_op op_mod (pe_callTy (r := rInt1) call_int1 (by rfl) hi (by decide +kernel) (pa_cons (pe_ix (r := rIxL K) ix_list (pv 1) pe_int (fun _ _ => rfl)) pa_nil)) pe_int) pe_int (nomark _)) (pss_one (ps_set (i := 4) scLaw.nd rfl (Or.inl rfl) (pe_op op_cat (pv 4) (pe_slice sl_list (pv 3) po_none (po_some pe_int)))))
        pss_nil)
      (pss_cons (ps_if (PW.pt (pw_or (pt_cmpR (r := rNeD K) (op_neD hr.units) (pe_call GTo (hr.mono (by decide)) (by rfl) gTo kTo bTo .nil pass0 (pa_cons (pe_callTy call_list_of (by rfl) hls (by decide +kernel) (pa_cons (pv 3) pa_nil)) pa_nil)) (pe_call GLo (hr.mono (by decide)) (by rfl) gLo kLo bLo .nil pass0 (pa_cons (pe_call GLt (hr.mono (by decide)) (by rfl) gLt kLt bLt .nil pass0 (pa_cons (pv 3) pa_nil)) pa_nil)) (nomark _)) (pw_or1 (pt_cmpR (r := rNeD K) (op_neD hr.units) (pe_call GLe (hr.mono (by decide)) (by rfl) gLe kLe bLe .nil pass0 (pa_cons (pe_callTy call_list_of (by rfl) hls (by decide +kernel) (pa_cons (pv 3) pa_nil)) pa_nil)) (pe_call GLo (hr.mono (by decide)) (by rfl) gLo kLo bLo .nil pass0 (pa_cons (pe_call GLl (hr.mono (by decide)) (by rfl) gLl kLl bLl .nil pass0 (pa_cons (pv 3) pa_nil)) pa_nil)) (nomark _))))) (pss_one (ps_ret pe_bl))
        pss_nil)
      (pss_cons (ps_set (i := 5) scLaw.nd rfl (Or.inl rfl) (pe_call GLc (hr.mono (by decide)) (by rfl) gLc kLc bLc .nil pass0 (pa_cons (pv 3) (pa_cons (pv 4) pa_nil))))
      (pss_cons (ps_set (i := 6) scLaw.nd rfl (Or.inl rfl) (pe_call GCl (hr.mono (by decide)) (by rfl) gCl kCl bCl .nil pass0 (pa_cons (pe_callTy call_list_of (by rfl) hls (by decide +kernel) (pa_cons (pv 3) pa_nil)) (pa_cons (pe_callTy call_list_of (by rfl) hls (by decide +kernel) (pa_cons (pv 4) pa_nil)) pa_nil))))
      (pss_cons (ps_if (PW.pt (pw_or (pt_not (pt_val (pe_callB (r := rIsi K) call_isi (by rfl) his (by decide +kernel) (pa_cons (pv 6) (pa_cons (pe_bltn (v := .ty "list") (by rfl) hls (by decide +kernel) rfl) pa_nil))))) (pw_or (pt_cmpR (r := rNeD K) (op_neD hr.units) (pv 6) (pv 5) (nomark _)) (pw_or1 (pt_cmpR (r := rNeD K) (op_neD hr.units) (pe_call GCl (hr.mono (by decide)) (by rfl) gCl kCl bCl .nil pass0 (pa_cons (pv 4) (pa_cons (pv 3) pa_nil))) (pv 5) (nomark _)))))) (pss_one (ps_ret pe_bl))
        pss_nil)
      (pss_cons (ps_expr (pe_bm PySem.F.plainAttrs_list PySem.F.slot_list_append PySem.F.type_list_append mt_append (pv 6) (pa_cons pe_int pa_nil)))
      (pss_cons (ps_set (i := 7) scLaw.nd rfl (Or.inl rfl) (pe_call GAa (hr.mono (by decide)) (by rfl) gAa kAa bAa .nil pass0 (pa_cons (pv 3) (pa_cons (pv 4) pa_nil))))
      (pss_one (ps_ret (pe_and (pe_callB (r := rIsi K) call_isi (by rfl) his (by decide +kernel) (pa_cons (pv 7) (pa_cons (pe_bltn (v := .ty "bool") (by rfl) hbo (by decide +kernel) rfl) pa_nil))) (pe_and (pe_cmpR op_eq (pv 7) (pe_cmpR op_eq (pe_callB (r := rLenK K) call_len_seq (by rfl) hl PySem.boot_len (pa_cons (pv 5) pa_nil)) pe_int (nomark _)) (nomark _)) (pe_one (pe_cmpR (r := rEqD K) (op_eqD hr.units) (pe_call GCl (hr.mono (by decide)) (by rfl) gCl kCl bCl .nil pass0 (pa_cons (pv 3) (pa_cons (pv 4) pa_nil))) (pv 5) (nomark _)))))))))))))))))), ?_⟩
  refine ⟨_, rfl, a, zs, 200, rfl, hS, hz, by decide, hP, fun H1 N ns g1 nN hN hlen hsm => ?_⟩
  refine ⟨_, rfl, N, ns, 0, rfl, SqL.of hN, hsm, by decide, by omega, g1.tab, fun H2 p d ks ps rs bs g2 np hp2' ok ka pa ra ba l2 l1 l8 ua lk2 => ?_⟩
  obtain ⟨q, eq⟩ : ∃ q : PT, q = ⟨ps, rs, bs⟩ := ⟨_, rfl⟩
  have sp : SP d ks q := by rw [eq]; exact ⟨ok, ka, pa, ra, ba, ua⟩
  have hp2 : PrtAt K H2 p d ks q := by rw [eq]; exact hp2'
  clear hp2' ok ka pa ra ba l2 l1 l8 ua eq
  have g02 := g1.trans g2
  have hN2 := g2.sqL g1.tab (SqL.of (K := K) hN)
  obtain ⟨n5, e5, l5, u5⟩ := at_num hsm (i := 195) (by omega) (by omega)
  obtain ⟨n6, e6, l6, u6⟩ := at_num hsm (i := 196) (by omega) (by omega)
  obtain ⟨n7, e7, l7, u7⟩ := at_num hsm (i := 197) (by omega) (by omega)
  -- the first set
  refine ⟨fun σ H' => ∃ (A : Addr) (cs : List Chg), σ = [some (.ref a), some (.ref N), some (.ref p), some (.ref A), none, none, none, none, none] ∧ Grew P H2 H' ∧ CsAt K H' A d ks cs ∧ cs.length ≤ 4, ?_, ?_⟩
  · refine ⟨_, rfl, N, _, _, _, rfl, rfl, hN2, e5, .inl ⟨n5, rfl, _, _, rfl, rfl, (show (0 : Int) < 5 by decide), n5 % 5, rfl, by omega, by omega, fun D nD => lc_range (n := (n5 % 5).toNat) (fun i H4 => Grew P H2 H4 ∧ ∃ cs2 : List Chg, CsAt K H4 D d ks cs2 ∧ cs2.length = i) ⟨Grew.new g02.tab nD, [], ⟨[], upd_same, .nil, fun c hc => (by cases hc)⟩, rfl⟩ (fun i H4 hi p4 => ?_) (fun H4 p4 => ?_)⟩⟩
    · obtain ⟨g4, cs2, ⟨xs, hD, hxs, ok2⟩, lcs2⟩ := p4
      have lx := Paired.len hxs
      rw [Int.zero_add]
      have g04 := g02.trans g4
      refine ⟨rfl, _, rfl, _, rfl, _, _, rfl, rfl, .inl ⟨by decide, by decide⟩, _, _, rfl, rfl, _, rfl, N, p, ns, 105 + 10 * (i : Int), d, ks, q, rfl, g4.sqL g02.tab hN2, hsm, by omega, by omega, hp2.grew g4 g02.tab, sp, g04.tab, fun H5 c v g5 hm hc => ?_⟩
      have hD5 := g5.lst g04.tab hD
      have kp : TKp H5 (L2.upd H5 D (.lst (xs ++ [v]))) := TKp.lst hD5
      refine ⟨xs, hD5, by rw [sizeLine_eq]; omega, (g4.trans g5).write (o := .lst (xs ++ [v])) hD5 (fun _ z => by cases z) nD, cs2 ++ [c], ⟨xs ++ [v], upd_same, Paired.snoc (Paired.map' hxs fun _ _ m => (m.grew g5 g04.tab).kp kp) (hm.kp kp), fun x hx => ?_⟩, by rw [List.length_append]; show _ + 1 = _; omega⟩
      rcases List.mem_append.mp hx with h | h
      · exact ok2 x h
      · rw [List.mem_singleton.mp h]; exact hc
    · obtain ⟨g4, cs2, hcs2, lcs2⟩ := p4
      exact ⟨D, cs2, rfl, g4, hcs2, by omega⟩
  rintro σ H3 ⟨A, cs, rfl, g23, hA3, lA⟩
  have g03 := g02.trans g23
  have hN3 := g23.sqL g02.tab hN2
  have hp3 := hp2.grew g23 g02.tab
  refine ⟨fun σ H' => ∃ (B : Addr) (os : List Chg), σ = [some (.ref a), some (.ref N), some (.ref p), some (.ref A), some (.ref B), none, none, none, none] ∧ Grew P H3 H' ∧ CsAt K H' B d ks os ∧ os.length ≤ 4, ?_, ?_⟩
  · refine ⟨_, rfl, N, _, _, _, rfl, rfl, hN3, e6, .inl ⟨n6, rfl, _, _, rfl, rfl, (show (0 : Int) < 5 by decide), n6 % 5, rfl, by omega, by omega, fun D nD => lc_range (n := (n6 % 5).toNat) (fun i H4 => Grew P H3 H4 ∧ ∃ cs2 : List Chg, CsAt K H4 D d ks cs2 ∧ cs2.length = i) ⟨Grew.new g03.tab nD, [], ⟨[], upd_same, .nil, fun c hc => (by cases hc)⟩, rfl⟩ (fun i H4 hi p4 => ?_) (fun H4 p4 => ?_)⟩⟩
    · obtain ⟨g4, cs2, ⟨xs, hD, hxs, ok2⟩, lcs2⟩ := p4
      have lx := Paired.len hxs
      rw [Int.zero_add]
      have g04 := g03.trans g4
      refine ⟨rfl, _, rfl, _, rfl, _, _, rfl, rfl, .inl ⟨by decide, by decide⟩, _, _, rfl, rfl, _, rfl, N, p, ns, 150 + 10 * (i : Int), d, ks, q, rfl, g4.sqL g03.tab hN3, hsm, by omega, by omega, hp3.grew g4 g03.tab, sp, g04.tab, fun H5 c v g5 hm hc => ?_⟩
      have hD5 := g5.lst g04.tab hD
      have kp : TKp H5 (L2.upd H5 D (.lst (xs ++ [v]))) := TKp.lst hD5
      refine ⟨xs, hD5, by rw [sizeLine_eq]; omega, (g4.trans g5).write (o := .lst (xs ++ [v])) hD5 (fun _ z => by cases z) nD, cs2 ++ [c], ⟨xs ++ [v], upd_same, Paired.snoc (Paired.map' hxs fun _ _ m => (m.grew g5 g04.tab).kp kp) (hm.kp kp), fun x hx => ?_⟩, by rw [List.length_append]; show _ + 1 = _; omega⟩
      rcases List.mem_append.mp hx with h | h
      · exact ok2 x h
      · rw [List.mem_singleton.mp h]; exact hc
    · obtain ⟨g4, cs2, hcs2, lcs2⟩ := p4
      exact ⟨D, cs2, rfl, g4, hcs2, by omega⟩
  rintro σ H4 ⟨B, os, rfl, g34, hB4, lB⟩
  have g04 := g03.trans g34
  have hN4 := g34.sqL g03.tab hN3
  have hA4 := hA3.grew g34 g03.tab
  refine ⟨fun σ H' => ∃ (B : Addr) (os : List Chg), σ = [some (.ref a), some (.ref N), some (.ref p), some (.ref A), some (.ref B), none, none, none, none] ∧ Grew P H4 H' ∧ CsAt K H' B d ks os ∧ os.length ≤ 5, ?_, ?_⟩
  · refine ⟨_, rfl, N, _, _, _, rfl, rfl, hN4, e7, .inl ⟨n7, rfl, _, _, rfl, rfl, (show (0 : Int) < 3 by decide), rfl, _, rfl, ?_⟩⟩
    by_cases c : n7 % 3 = 0
    case neg =>
      refine if_f (decide_eq_false fun e => c (by injection e)) ?_
      exact ⟨B, os, rfl, Grew.refl g04.tab, hB4, by omega⟩
    refine if_t (decide_eq_true (congrArg V.int c)) ?_
    obtain ⟨xa, eA, pA, okA⟩ := id hA4
    obtain ⟨xb, eB, pB, okB⟩ := id hB4
    have lxb := Paired.len pB
    refine ⟨_, rfl, _, rfl, _, rfl, A, xa, rfl, SqL.of eA, fun T nT => ?_⟩
    have gT := Grew.new (o := .lst (cutV xa none (some 1))) g04.tab nT
    have et : cutV xa none (some 1) = xa.take 1 := cutV_pre xa 1
    have lt := List.length_take_le 1 xa
    refine ⟨B, T, _, _, rfl, rfl, gT.lst g04.tab eB, upd_same, by rw [et, sizeLine_eq]; omega, fun B2 nB2 => ?_⟩
    have g2' := Grew.new (o := .lst (xb ++ cutV xa none (some 1))) (g04.trans gT).tab nB2
    have gg := gT.trans g2'
    refine ⟨B2, os ++ cs.take 1, rfl, gg, CsAt.app (xs := xb) (ys := xa.take 1) (Paired.map' pB fun _ _ m => ChgAt.grew m gg g04.tab) (paired_take 1 (Paired.map' pA fun _ _ m => ChgAt.grew m gg g04.tab)) okB (fun c hc => okA c (List.mem_of_mem_take hc)) (by rw [upd_same, et]), ?_⟩
    have lt2 := List.length_take_le 1 cs
    rw [List.length_append]
    omega
  rintro σ H5 ⟨B, os, rfl, g45, hB5, lB⟩
  clear hB4
  have g05 := g04.trans g45
  have hA5 := hA4.grew g45 g04.tab
  have okc := hA5.choose_spec.2.2
  have oko := hB5.choose_spec.2.2
  have lth : (thL cs).length = cs.length := List.length_map _
  have lbc := blL_len cs
  -- touched, leaned_on
  obtain ⟨xa, eA, pA, _⟩ := id hA5
  refine ⟨_, rfl, A, _, rfl, .inl (SqL.of eA), fun L1 n1 => ?_⟩
  have s1 := Grew.new (o := .lst xa) g05.tab n1
  have hc1 : CsAt K (L2.upd H5 L1 (.lst xa)) L1 d ks cs := ⟨xa, upd_same, Paired.map' pA fun _ _ m => ChgAt.grew m s1 g05.tab, okc⟩
  generalize L2.upd H5 L1 (.lst xa) = H6 at s1 hc1
  have g06 := g05.trans s1
  refine ⟨L1, d, ks, cs, rfl, hc1, by omega, g06.tab, fun H7 T1 m1 s2 nT1 hT1 t1 => ?_⟩
  have g57 := s1.trans s2
  have g07 := g05.trans g57
  refine ⟨_, rfl, A, d, ks, cs, rfl, hA5.grew g57 g05.tab, by omega, g07.tab, fun H8 T2 s3 nT2 hT2 => ?_⟩
  have g08 := g07.trans s3
  refine ⟨T2, thL cs, rfl, hT2, by omega, thL_ok okc, thL_ne, g08.tab, fun H9 T3 m3 s4 nT3 hT3 t3 => ?_⟩
  have g79 := s3.trans s4
  have g59 := g57.trans g79
  have g09 := g05.trans g59
  obtain rfl : m1 = m3 := t1.one t3 fun q => Iff.rfl
  have okm : OkT m1 := (thL_ok okc).sub fun q hq => (t1.mem q).mp hq
  refine ⟨_, _, (hT1.grew g79 g07.tab).dp, hT3.dp, okm.lay.shaped (by decide), okm.lay.shaped (by decide), _, rfl, if_f (by rw [okm.lay.refl]; rfl) ?_⟩
  clear hT1 hT2 hT3 t1 t3 okm
  obtain ⟨xa9, eA9, pA9, _⟩ := id (hA5.grew g59 g05.tab)
  refine ⟨_, rfl, A, _, rfl, .inl (SqL.of eA9), fun L3 n3 => ?_⟩
  have r1 := Grew.new (o := .lst xa9) g09.tab n3
  have hc3 : CsAt K (L2.upd H9 L3 (.lst xa9)) L3 d ks cs := ⟨xa9, upd_same, Paired.map' pA9 fun _ _ m => ChgAt.grew m r1 g09.tab, okc⟩
  generalize L2.upd H9 L3 (.lst xa9) = Ha at r1 hc3
  have g0a := g09.trans r1
  refine ⟨L3, d, ks, cs, rfl, hc3, by omega, g0a.tab, fun Hb U1 m4 r2 nU1 hU1 u1 => ?_⟩
  have g9b := r1.trans r2
  have g5b := g59.trans g9b
  have g0b := g05.trans g5b
  refine ⟨_, rfl, A, d, ks, cs, rfl, hA5.grew g5b g05.tab, by omega, g0b.tab, fun Hc U2 r3 nU2 hU2 => ?_⟩
  have g0c := g0b.trans r3
  refine ⟨U2, blL cs, rfl, hU2, by omega, blL_ok okc, blL_ne, g0c.tab, fun Hd U3 m6 r4 nU3 hU3 u3 => ?_⟩
  have gbd := r3.trans r4
  have g5d := g5b.trans gbd
  have g0d := g05.trans g5d
  obtain rfl : m4 = m6 := u1.one u3 fun q => Iff.rfl
  have okm : OkT m4 := (blL_ok okc).sub fun q hq => (u1.mem q).mp hq
  refine ⟨_, _, (hU1.grew gbd g0b.tab).dp, hU3.dp, okm.lay.shaped (by decide), okm.lay.shaped (by decide), _, rfl, if_f (by rw [okm.lay.refl]; rfl) ?_⟩
  clear hU1 hU2 hU3 u1 u3 okm
  -- due
  have hAd := hA5.grew g5d g05.tab
  have hBd := hB5.grew g5d g05.tab
  refine ⟨_, rfl, _, rfl, A, B, d, ks, cs, os, rfl, hAd, hBd, by omega, by omega, g0d.tab, fun He v1 t1 rd => ?_⟩
  obtain ⟨Du, mu, rfl, nDu, hDu, tu⟩ := rd
  have g0e := g0d.trans t1
  have hAe := hAd.grew t1 g0d.tab
  have hBe := hBd.grew t1 g0d.tab
  have oku : OkT mu := (clash_ok okc oko).sub fun q hq => (tu.mem q).mp hq
  have layu := oku.lay
  -- told
  obtain ⟨xae, eAe, pAe, _⟩ := id hAe
  refine ⟨_, rfl, A, _, rfl, .inl (SqL.of eAe), fun L5 n5' => ?_⟩
  have w1 := Grew.new (o := .lst xae) g0e.tab n5'
  have hc5 : CsAt K (L2.upd He L5 (.lst xae)) L5 d ks cs := ⟨xae, upd_same, Paired.map' pAe fun _ _ m => ChgAt.grew m w1 g0e.tab, okc⟩
  generalize L2.upd He L5 (.lst xae) = Hf at w1 hc5
  have g0f := g0e.trans w1
  obtain ⟨xbf, eBf, pBf, _⟩ := id (hBe.grew w1 g0e.tab)
  refine ⟨_, rfl, B, _, rfl, .inl (SqL.of eBf), fun L6 n6' => ?_⟩
  have w2 := Grew.new (o := .lst xbf) g0f.tab n6'
  have hc6 : CsAt K (L2.upd Hf L6 (.lst xbf)) L6 d ks os := ⟨xbf, upd_same, Paired.map' pBf fun _ _ m => ChgAt.grew m w2 g0f.tab, oko⟩
  generalize L2.upd Hf L6 (.lst xbf) = Hg at w2 hc6
  have geg := w1.trans w2
  have g0g := g0e.trans geg
  refine ⟨L5, L6, d, ks, cs, os, rfl, hc5.grew w2 g0f.tab, hc6, by omega, by omega, g0g.tab, fun Hh v2 w3 rd2 => ?_⟩
  obtain ⟨Te, me, rfl, nTe, hTe, te⟩ := rd2
  obtain rfl : me = mu := te.one tu fun q => Iff.rfl
  have geh := geg.trans w3
  have g0h := g0e.trans geh
  obtain ⟨xt, eT, pT⟩ := id hTe
  refine ⟨_, rfl, _, _, _, _, true, rfl, .ty "list", .base (.lst eT), rfl, _, rfl, iteF ?_⟩
  have hDh := hDu.grew geh g0e.tab
  refine ⟨_, rfl, _, rfl, _, _, hTe.dp, hDh.dp, layu.shaped (by decide), layu.shaped (by decide), _, rfl, if_f (by rw [layu.refl]; rfl) ?_⟩
  refine ⟨_, rfl, _, rfl, B, A, d, ks, os, cs, rfl, hBe.grew geh g0e.tab, hAe.grew geh g0e.tab, by omega, by omega, g0h.tab, fun Hi v3 w4 rd3 => ?_⟩
  obtain ⟨Te2, me2, rfl, nTe2, hTe2, te2⟩ := rd3
  obtain rfl : me2 = me := te2.one te fun q => clash_symm
  have gei := geh.trans w4
  have g0i := g0e.trans gei
  refine ⟨_, rfl, _, _, hTe2.dp, (hDh.grew w4 g0h.tab).dp, layu.shaped (by decide), layu.shaped (by decide), _, rfl, if_f (by rw [layu.refl]; rfl) ?_⟩
  -- told.append(0)
  have lmu := tu.len
  have lcl : (clashL cs os).length ≤ cs.length + os.length := by
    unfold clashL
    rw [List.length_append]
    have h1 := List.length_filter_le (fun k => decide (k ∈ thL os ++ blL os)) (thL cs)
    have h2 := List.length_filter_le (fun k => decide (k ∈ thL cs ++ blL cs)) (thL os)
    have h3 : (thL os).length = os.length := List.length_map _
    omega
  have lxt := Paired.len pT
  have eTi := w4.lst g0h.tab eT
  refine ⟨_, rfl, .inl ⟨rfl, _, SqL.of eTi⟩, Te, xt, _, rfl, rfl, eTi, by rw [sizeLine_eq]; omega, ?_⟩
  have gej : Grew P He (L2.upd Hi Te (.lst (xt ++ [.int 0]))) := gei.write eTi (fun _ z => by cases z) (geg.free nTe)
  generalize L2.upd Hi Te (.lst (xt ++ [.int 0])) = Hj at gej ⊢
  have g0j := g0e.trans gej
  -- actual
  refine ⟨_, rfl, _, rfl, A, B, d, ks, cs, os, rfl, hAe.grew gej g0e.tab, hBe.grew gej g0e.tab, by omega, by omega, g0j.tab, fun Hk v4 w5 rd4 => ?_⟩
  obtain ⟨b, rfl, hbv⟩ := rd4
  have gek := gej.trans w5
  have g0k := g0e.trans gek
  have hbm := hbv _ tu
  obtain ⟨xd, eDk, pDk⟩ := id (hDu.grew gek g0e.tab)
  have lxd := Paired.len pDk
  refine ⟨_, rfl, _, _, _, _, true, rfl, .ty "bool", .base (.bl _), rfl, _, rfl, iteT ?_⟩
  refine ⟨_, rfl, _, rfl, Du, xd, rfl, .inl (SqL.of eDk), rfl, rfl, _, rfl, if_t ?_ ?_⟩
  · refine decide_eq_true (congrArg V.bl ?_)
    rw [hbm, Bool.eq_iff_iff, decide_eq_true_iff, decide_eq_true_iff]
    constructor
    · intro e
      have : xd.length = 0 := by rw [← lxd, e]; rfl
      rw [this]
      rfl
    · intro e
      injection e with e
      have : me2.length = 0 := by omega
      exact List.eq_nil_of_length_eq_zero this
  refine ⟨_, rfl, _, rfl, A, B, d, ks, cs, os, rfl, hAe.grew gek g0e.tab, hBe.grew gek g0e.tab, by omega, by omega, g0k.tab, fun Hl v5 w6 rd5 => ?_⟩
  obtain ⟨Te3, me3, rfl, nTe3, hTe3, te3⟩ := rd5
  obtain rfl : me3 = me2 := te3.one te2 fun q => clash_symm
  refine ⟨_, rfl, _, _, hTe3.dp, ((hDu.grew gek g0e.tab).grew w6 g0k.tab).dp, layu.shaped (by decide), layu.shaped (by decide), ?_⟩
  rw [layu.refl]
  exact kQ _
end
end W

set_option Elab.async false
set_option linter.all false
set_option maxRecDepth 100000
set_option maxHeartbeats 4000000
namespace W
open PySem PySem.Spec PyProof.Rows L2 GxR MyG MyR
theorem no_fly {P : Program} (w : World) (H : Hp) (s : Shared) (e : Value) (s' : Shared) (h : L2.CX P w [] H s (fun _ _ _ => False) e s') : False := by
  obtain ⟨_, _, _, _, _, _, _, _, _, _, _, _, q⟩ := h
  exact q
theorem all_mk {l : PySem.W.OpenLaw} {w : World} {K : PySem.W.Frag} {h : Heap} {mg : Str → Option Value} {fa fTo fTt fLe fBl fCl fBe fAa fRw fNu fLn fLh fLr fLq fMp fDc fLt fLl fLo fLc fLw qTo PTo : Addr} (X : K.In h) (G : h.Ns mainGlobals mg) (hfa : mg "law" = some (.ref fa)) (own : ∀ y ∈ ([("touched" : Str)] : List Str), ∀ f, mg y = some (.ref f) → LamX.OwnTab K f h)
    {odTo anTo : Option Addr} {slTo : Array (Option Value)} {ocTo kVTo dcTo pmTo ctTo : Value}
    {odTt anTt : Option Addr} {slTt : Array (Option Value)} {ocTt kVTt dcTt pmTt cdTt ctTt : Value}
    {odLe anLe : Option Addr} {slLe : Array (Option Value)} {ocLe kVLe dcLe pmLe cdLe ctLe : Value}
    {odBl anBl : Option Addr} {slBl : Array (Option Value)} {ocBl kVBl dcBl pmBl cdBl ctBl : Value}
    {odCl anCl : Option Addr} {slCl : Array (Option Value)} {ocCl kVCl dcCl pmCl cdCl ctCl : Value}
    {odBe anBe : Option Addr} {slBe : Array (Option Value)} {ocBe kVBe dcBe pmBe cdBe ctBe : Value}
    {odAa anAa : Option Addr} {slAa : Array (Option Value)} {ocAa kVAa dcAa pmAa cdAa ctAa : Value}
    {odRw anRw : Option Addr} {slRw : Array (Option Value)} {ocRw kVRw dcRw pmRw cdRw ctRw : Value}
    {odNu anNu : Option Addr} {slNu : Array (Option Value)} {ocNu kVNu dcNu pmNu cdNu ctNu : Value}
    {odLn anLn : Option Addr} {slLn : Array (Option Value)} {ocLn kVLn dcLn pmLn cdLn ctLn : Value}
    {odLh anLh : Option Addr} {slLh : Array (Option Value)} {ocLh kVLh dcLh pmLh cdLh ctLh : Value}
    {odLr anLr : Option Addr} {slLr : Array (Option Value)} {ocLr kVLr dcLr pmLr cdLr ctLr : Value}
    {odLq anLq : Option Addr} {slLq : Array (Option Value)} {ocLq kVLq dcLq pmLq cdLq ctLq : Value}
    {odMp anMp : Option Addr} {slMp : Array (Option Value)} {ocMp kVMp dcMp pmMp cdMp ctMp : Value}
    {odDc anDc : Option Addr} {slDc : Array (Option Value)} {ocDc kVDc dcDc pmDc cdDc ctDc : Value}
    {odLt anLt : Option Addr} {slLt : Array (Option Value)} {ocLt kVLt dcLt pmLt cdLt ctLt : Value}
    {odLl anLl : Option Addr} {slLl : Array (Option Value)} {ocLl kVLl dcLl pmLl cdLl ctLl : Value}
    {odLo anLo : Option Addr} {slLo : Array (Option Value)} {ocLo kVLo dcLo pmLo cdLo ctLo : Value}
    {odLc anLc : Option Addr} {slLc : Array (Option Value)} {ocLc kVLc dcLc pmLc cdLc ctLc : Value}
    {odLw anLw : Option Addr} {slLw : Array (Option Value)} {ocLw kVLw dcLw pmLw cdLw ctLw : Value}
    {eTo : Value} {dTo : Option Addr} {vsTo : Array Value} {slcTo : Array (Option Value)}
    {t_NAME t_START t_END : Tok}
    (aTo : PySem.W.nsIn K mainGlobals "touched" = some (some (.ref fTo)))
    (lTo : K.lookup fTo = some ⟨ocTo, odTo, .func (PySem.W.fnOf "touched" "touched" (defArgs sTo) (defBody sTo) (defScope sTo) .none kVTo dcTo pmTo anTo (.ref qTo) ctTo), slTo⟩)
    (cTo : PySem.W.codeIn K (.ref qTo) "touched" = true)
    (kTo : PySem.W.keepIn K (.ref fTo) = true)
    (aTt : PySem.W.nsIn K mainGlobals "_touched_thing" = some (some (.ref fTt)))
    (lTt : K.lookup fTt = some ⟨ocTt, odTt, .func (PySem.W.fnOf "_touched_thing" "_touched_thing" (defArgs sTt) (defBody sTt) (defScope sTt) .none kVTt dcTt pmTt anTt (cdTt) ctTt), slTt⟩)
    (cTt : PySem.W.codeIn K (cdTt) "_touched_thing" = true)
    (kTt : PySem.W.keepIn K (.ref fTt) = true)
    (aLe : PySem.W.nsIn K mainGlobals "leaned_on" = some (some (.ref fLe)))
    (lLe : K.lookup fLe = some ⟨ocLe, odLe, .func (PySem.W.fnOf "leaned_on" "leaned_on" (defArgs sLe) (defBody sLe) (defScope sLe) .none kVLe dcLe pmLe anLe (cdLe) ctLe), slLe⟩)
    (cLe : PySem.W.codeIn K (cdLe) "leaned_on" = true)
    (kLe : PySem.W.keepIn K (.ref fLe) = true)
    (aBl : PySem.W.nsIn K mainGlobals "_things_below" = some (some (.ref fBl)))
    (lBl : K.lookup fBl = some ⟨ocBl, odBl, .func (PySem.W.fnOf "_things_below" "_things_below" (defArgs sBl) (defBody sBl) (defScope sBl) .none kVBl dcBl pmBl anBl (cdBl) ctBl), slBl⟩)
    (cBl : PySem.W.codeIn K (cdBl) "_things_below" = true)
    (kBl : PySem.W.keepIn K (.ref fBl) = true)
    (aCl : PySem.W.nsIn K mainGlobals "clashes" = some (some (.ref fCl)))
    (lCl : K.lookup fCl = some ⟨ocCl, odCl, .func (PySem.W.fnOf "clashes" "clashes" (defArgs sCl) (defBody sCl) (defScope sCl) .none kVCl dcCl pmCl anCl (cdCl) ctCl), slCl⟩)
    (cCl : PySem.W.codeIn K (cdCl) "clashes" = true)
    (kCl : PySem.W.keepIn K (.ref fCl) = true)
    (aBe : PySem.W.nsIn K mainGlobals "_touched_beside" = some (some (.ref fBe)))
    (lBe : K.lookup fBe = some ⟨ocBe, odBe, .func (PySem.W.fnOf "_touched_beside" "_touched_beside" (defArgs sBe) (defBody sBe) (defScope sBe) .none kVBe dcBe pmBe anBe (cdBe) ctBe), slBe⟩)
    (cBe : PySem.W.codeIn K (cdBe) "_touched_beside" = true)
    (kBe : PySem.W.keepIn K (.ref fBe) = true)
    (aAa : PySem.W.nsIn K mainGlobals "are_apart" = some (some (.ref fAa)))
    (lAa : K.lookup fAa = some ⟨ocAa, odAa, .func (PySem.W.fnOf "are_apart" "are_apart" (defArgs sAa) (defBody sAa) (defScope sAa) .none kVAa dcAa pmAa anAa (cdAa) ctAa), slAa⟩)
    (cAa : PySem.W.codeIn K (cdAa) "are_apart" = true)
    (kAa : PySem.W.keepIn K (.ref fAa) = true)
    (aRw : PySem.W.nsIn K mainGlobals "_law_row" = some (some (.ref fRw)))
    (lRw : K.lookup fRw = some ⟨ocRw, odRw, .func (PySem.W.fnOf "_law_row" "_law_row" (defArgs sRow) (defBody sRow) (defScope sRow) .none kVRw dcRw pmRw anRw (cdRw) ctRw), slRw⟩)
    (cRw : PySem.W.codeIn K (cdRw) "_law_row" = true)
    (kRw : PySem.W.keepIn K (.ref fRw) = true)
    (aNu : PySem.W.nsIn K mainGlobals "_law_numbers" = some (some (.ref fNu)))
    (lNu : K.lookup fNu = some ⟨ocNu, odNu, .func (PySem.W.fnOf "_law_numbers" "_law_numbers" (defArgs sNumbers) (defBody sNumbers) (defScope sNumbers) .none kVNu dcNu pmNu anNu (cdNu) ctNu), slNu⟩)
    (cNu : PySem.W.codeIn K (cdNu) "_law_numbers" = true)
    (kNu : PySem.W.keepIn K (.ref fNu) = true)
    (aLn : PySem.W.nsIn K mainGlobals "_law_names" = some (some (.ref fLn)))
    (lLn : K.lookup fLn = some ⟨ocLn, odLn, .func (PySem.W.fnOf "_law_names" "_law_names" (defArgs sLNames) (defBody sLNames) (defScope sLNames) .none kVLn dcLn pmLn anLn (cdLn) ctLn), slLn⟩)
    (cLn : PySem.W.codeIn K (cdLn) "_law_names" = true)
    (kLn : PySem.W.keepIn K (.ref fLn) = true)
    (aLh : PySem.W.nsIn K mainGlobals "_law_hours" = some (some (.ref fLh)))
    (lLh : K.lookup fLh = some ⟨ocLh, odLh, .func (PySem.W.fnOf "_law_hours" "_law_hours" (defArgs sLHours) (defBody sLHours) (defScope sLHours) .none kVLh dcLh pmLh anLh (cdLh) ctLh), slLh⟩)
    (cLh : PySem.W.codeIn K (cdLh) "_law_hours" = true)
    (kLh : PySem.W.keepIn K (.ref fLh) = true)
    (aLr : PySem.W.nsIn K mainGlobals "_law_road" = some (some (.ref fLr)))
    (lLr : K.lookup fLr = some ⟨ocLr, odLr, .func (PySem.W.fnOf "_law_road" "_law_road" (defArgs sLRoadG) (defBody sLRoadG) (defScope sLRoadG) .none kVLr dcLr pmLr anLr (cdLr) ctLr), slLr⟩)
    (cLr : PySem.W.codeIn K (cdLr) "_law_road" = true)
    (kLr : PySem.W.keepIn K (.ref fLr) = true)
    (aLq : PySem.W.nsIn K mainGlobals "_law_bars" = some (some (.ref fLq)))
    (lLq : K.lookup fLq = some ⟨ocLq, odLq, .func (PySem.W.fnOf "_law_bars" "_law_bars" (defArgs sLBarsG) (defBody sLBarsG) (defScope sLBarsG) .none kVLq dcLq pmLq anLq (cdLq) ctLq), slLq⟩)
    (cLq : PySem.W.codeIn K (cdLq) "_law_bars" = true)
    (kLq : PySem.W.keepIn K (.ref fLq) = true)
    (aMp : PySem.W.nsIn K mainGlobals "_law_parts" = some (some (.ref fMp)))
    (lMp : K.lookup fMp = some ⟨ocMp, odMp, .func (PySem.W.fnOf "_law_parts" "_law_parts" (defArgs sLPartsG) (defBody sLPartsG) (defScope sLPartsG) .none kVMp dcMp pmMp anMp (cdMp) ctMp), slMp⟩)
    (cMp : PySem.W.codeIn K (cdMp) "_law_parts" = true)
    (kMp : PySem.W.keepIn K (.ref fMp) = true)
    (aDc : PySem.W.nsIn K mainGlobals "_law_drawn_change" = some (some (.ref fDc)))
    (lDc : K.lookup fDc = some ⟨ocDc, odDc, .func (PySem.W.fnOf "_law_drawn_change" "_law_drawn_change" (defArgs sDc) (defBody sDc) (defScope sDc) .none kVDc dcDc pmDc anDc (cdDc) ctDc), slDc⟩)
    (cDc : PySem.W.codeIn K (cdDc) "_law_drawn_change" = true)
    (kDc : PySem.W.keepIn K (.ref fDc) = true)
    (aLt : PySem.W.nsIn K mainGlobals "_law_touched" = some (some (.ref fLt)))
    (lLt : K.lookup fLt = some ⟨ocLt, odLt, .func (PySem.W.fnOf "_law_touched" "_law_touched" (defArgs sLt) (defBody sLt) (defScope sLt) .none kVLt dcLt pmLt anLt (cdLt) ctLt), slLt⟩)
    (cLt : PySem.W.codeIn K (cdLt) "_law_touched" = true)
    (kLt : PySem.W.keepIn K (.ref fLt) = true)
    (aLl : PySem.W.nsIn K mainGlobals "_law_leaned" = some (some (.ref fLl)))
    (lLl : K.lookup fLl = some ⟨ocLl, odLl, .func (PySem.W.fnOf "_law_leaned" "_law_leaned" (defArgs sLl) (defBody sLl) (defScope sLl) .none kVLl dcLl pmLl anLl (cdLl) ctLl), slLl⟩)
    (cLl : PySem.W.codeIn K (cdLl) "_law_leaned" = true)
    (kLl : PySem.W.keepIn K (.ref fLl) = true)
    (aLo : PySem.W.nsIn K mainGlobals "_law_once" = some (some (.ref fLo)))
    (lLo : K.lookup fLo = some ⟨ocLo, odLo, .func (PySem.W.fnOf "_law_once" "_law_once" (defArgs sLo) (defBody sLo) (defScope sLo) .none kVLo dcLo pmLo anLo (cdLo) ctLo), slLo⟩)
    (cLo : PySem.W.codeIn K (cdLo) "_law_once" = true)
    (kLo : PySem.W.keepIn K (.ref fLo) = true)
    (aLc : PySem.W.nsIn K mainGlobals "_law_clashes" = some (some (.ref fLc)))
    (lLc : K.lookup fLc = some ⟨ocLc, odLc, .func (PySem.W.fnOf "_law_clashes" "_law_clashes" (defArgs sLc) (defBody sLc) (defScope sLc) .none kVLc dcLc pmLc anLc (cdLc) ctLc), slLc⟩)
    (cLc : PySem.W.codeIn K (cdLc) "_law_clashes" = true)
    (kLc : PySem.W.keepIn K (.ref fLc) = true)
    (aLw : PySem.W.nsIn K mainGlobals "law" = some (some (.ref fLw)))
    (lLw : K.lookup fLw = some ⟨ocLw, odLw, .func (PySem.W.fnOf "law" "law" (defArgs sLaw) (defBody sLaw) (defScope sLaw) .none kVLw dcLw pmLw anLw (cdLw) ctLw), slLw⟩)
    (cLw : PySem.W.codeIn K (cdLw) "law" = true)
    (kLw : PySem.W.keepIn K (.ref fLw) = true)
    (lcTo : K.lookup qTo = some ⟨eTo, dTo, .fields vsTo, slcTo⟩)
    (v11To : vsTo[11]? = some (.ref PTo))
    (hcTo : PySem.W.codeHdIn K qTo PTo = true)
    (nPTo : K.lookup PTo = none)
    (g_NAME : PySem.W.nsIn K mainGlobals "NAME" = some (some (.int 0 t_NAME)))
    (g_START : PySem.W.nsIn K mainGlobals "START" = some (some (.int 1 t_START)))
    (g_END : PySem.W.nsIn K mainGlobals "END" = some (some (.int 2 t_END)))
    (z_len : PySem.W.nsIn K mainGlobals "len" = some none)
    (z_int : PySem.W.nsIn K mainGlobals "int" = some none)
    (z_range : PySem.W.nsIn K mainGlobals "range" = some none)
    (z_max : PySem.W.nsIn K mainGlobals "max" = some none)
    (z_min : PySem.W.nsIn K mainGlobals "min" = some none)
    (z_abs : PySem.W.nsIn K mainGlobals "abs" = some none)
    (z_isinstance : PySem.W.nsIn K mainGlobals "isinstance" = some none)
    (z_list : PySem.W.nsIn K mainGlobals "list" = some none)
    (z_bool : PySem.W.nsIn K mainGlobals "bool" = some none)
    (z_tuple : PySem.W.nsIn K mainGlobals "tuple" = some none)
    (z_sorted : PySem.W.nsIn K mainGlobals "sorted" = some none)
    (z_set : PySem.W.nsIn K mainGlobals "set" = some none) :
    LawL l w K (L2.CX l.prog w) 63 mg fa h := by
  have e := hfa.symm.trans (PySem.W.mg_of X G aLw)
  cases e
  have FTo := fun_mk (st := sTo) lTo cTo kTo
  have bTo := FTo.binds (ps := ["changes"]) fun _ _ _ _ _ _ us hl => match us, hl with | [_], _ => rfl
  have mTo := PySem.W.mg_of X G aTo
  have FTt := fun_mk (st := sTt) lTt cTt kTt
  have bTt := FTt.binds (ps := ["change"]) fun _ _ _ _ _ _ us hl => match us, hl with | [_], _ => rfl
  have mTt := PySem.W.mg_of X G aTt
  have FLe := fun_mk (st := sLe) lLe cLe kLe
  have bLe := FLe.binds (ps := ["changes"]) fun _ _ _ _ _ _ us hl => match us, hl with | [_], _ => rfl
  have mLe := PySem.W.mg_of X G aLe
  have FBl := fun_mk (st := sBl) lBl cBl kBl
  have bBl := FBl.binds (ps := ["change"]) fun _ _ _ _ _ _ us hl => match us, hl with | [_], _ => rfl
  have mBl := PySem.W.mg_of X G aBl
  have FCl := fun_mk (st := sCl) lCl cCl kCl
  have bCl := FCl.binds (ps := ["changes", "others"]) fun _ _ _ _ _ _ us hl => match us, hl with | [_, _], _ => rfl
  have mCl := PySem.W.mg_of X G aCl
  have FBe := fun_mk (st := sBe) lBe cBe kBe
  have bBe := FBe.binds (ps := ["changes", "others"]) fun _ _ _ _ _ _ us hl => match us, hl with | [_, _], _ => rfl
  have mBe := PySem.W.mg_of X G aBe
  have FAa := fun_mk (st := sAa) lAa cAa kAa
  have bAa := FAa.binds (ps := ["changes", "others"]) fun _ _ _ _ _ _ us hl => match us, hl with | [_, _], _ => rfl
  have mAa := PySem.W.mg_of X G aAa
  have FRw := fun_mk (st := sRow) lRw cRw kRw
  have bRw := FRw.binds (ps := ["cell", "many"]) fun _ _ _ _ _ _ us hl => match us, hl with | [_, _], _ => rfl
  have mRw := PySem.W.mg_of X G aRw
  have FNu := fun_mk (st := sNumbers) lNu cNu kNu
  have bNu := FNu.binds (ps := ["script", "many"]) fun _ _ _ _ _ _ us hl => match us, hl with | [_, _], _ => rfl
  have mNu := PySem.W.mg_of X G aNu
  have FLn := fun_mk (st := sLNames) lLn cLn kLn
  have bLn := FLn.binds (ps := ["number", "many"]) fun _ _ _ _ _ _ us hl => match us, hl with | [_, _], _ => rfl
  have mLn := PySem.W.mg_of X G aLn
  have FLh := fun_mk (st := sLHours) lLh cLh kLh
  have bLh := FLh.binds (ps := ["numbers", "at", "day"]) fun _ _ _ _ _ _ us hl => match us, hl with | [_, _, _], _ => rfl
  have mLh := PySem.W.mg_of X G aLh
  have FLr := fun_mk (st := sLRoadG) lLr cLr kLr
  have bLr := FLr.binds (ps := ["numbers", "at", "name", "day", "kinds", "places"]) fun _ _ _ _ _ _ us hl => match us, hl with | [_, _, _, _, _, _], _ => rfl
  have mLr := PySem.W.mg_of X G aLr
  have FLq := fun_mk (st := sLBarsG) lLq cLq kLq
  have bLq := FLq.binds (ps := ["numbers", "at", "roads"]) fun _ _ _ _ _ _ us hl => match us, hl with | [_, _, _], _ => rfl
  have mLq := PySem.W.mg_of X G aLq
  have FMp := fun_mk (st := sLPartsG) lMp cMp kMp
  have bMp := FMp.binds (ps := ["numbers", "at"]) fun _ _ _ _ _ _ us hl => match us, hl with | [_, _], _ => rfl
  have mMp := PySem.W.mg_of X G aMp
  have FDc := fun_mk (st := sDc) lDc cDc kDc
  have bDc := FDc.binds (ps := ["numbers", "at", "parts"]) fun _ _ _ _ _ _ us hl => match us, hl with | [_, _, _], _ => rfl
  have mDc := PySem.W.mg_of X G aDc
  have FLt := fun_mk (st := sLt) lLt cLt kLt
  have bLt := FLt.binds (ps := ["changes"]) fun _ _ _ _ _ _ us hl => match us, hl with | [_], _ => rfl
  have mLt := PySem.W.mg_of X G aLt
  have FLl := fun_mk (st := sLl) lLl cLl kLl
  have bLl := FLl.binds (ps := ["changes"]) fun _ _ _ _ _ _ us hl => match us, hl with | [_], _ => rfl
  have mLl := PySem.W.mg_of X G aLl
  have FLo := fun_mk (st := sLo) lLo cLo kLo
  have bLo := FLo.binds (ps := ["things"]) fun _ _ _ _ _ _ us hl => match us, hl with | [_], _ => rfl
  have mLo := PySem.W.mg_of X G aLo
  have FLc := fun_mk (st := sLc) lLc cLc kLc
  have bLc := FLc.binds (ps := ["changes", "others"]) fun _ _ _ _ _ _ us hl => match us, hl with | [_, _], _ => rfl
  have mLc := PySem.W.mg_of X G aLc
  have FLw := fun_mk (st := sLaw) lLw cLw kLw
  have bLw := FLw.binds (ps := ["script"]) fun _ _ _ _ _ _ us hl => match us, hl with | [_], _ => rfl
  have mLw := PySem.W.mg_of X G aLw
  have e_len := PySem.W.mg_none_of X G z_len
  have e_int := PySem.W.mg_none_of X G z_int
  have e_range := PySem.W.mg_none_of X G z_range
  have e_max := PySem.W.mg_none_of X G z_max
  have e_min := PySem.W.mg_none_of X G z_min
  have e_abs := PySem.W.mg_none_of X G z_abs
  have e_isinstance := PySem.W.mg_none_of X G z_isinstance
  have e_list := PySem.W.mg_none_of X G z_list
  have e_bool := PySem.W.mg_none_of X G z_bool
  have e_tuple := PySem.W.mg_none_of X G z_tuple
  have e_sorted := PySem.W.mg_none_of X G z_sorted
  have e_set := PySem.W.mg_none_of X G z_set
  have i_NAME := PySem.W.mg_of X G g_NAME
  have i_START := PySem.W.mg_of X G g_START
  have i_END := PySem.W.mg_of X G g_END
  have tabPTo : h.get? PTo = some { cls := .none, data := .fields #[] } := own _ (by decide +kernel) _ mTo qTo PTo _ _ _ _ _ _ lTo rfl rfl lcTo v11To
  have hcs : ∀ p ∈ ([(qTo, PTo)] : List (Addr × Addr)), h.get? p.2 = some { cls := .none, data := .fields #[] } ∧ K.lookup p.2 = none ∧ PySem.W.CodeHd h p.1 p.2 := fun p hp => by
    simp only [List.mem_cons, List.not_mem_nil, or_false] at hp
    rw [hp]
    exact ⟨tabPTo, nPTo, PySem.W.codeHd_of_K X hcTo⟩
  refine ⟨[(qTo, PTo)], spLaw K PTo, hcs, fun H a ns hl hT hS => ⟨a, ns, rfl, hS, hl, ⟨#[], hT (qTo, PTo) (by simp), by first | trivial | exact True.intro | decide⟩, fun _ => rfl⟩, fun base KB NB TBL => ?_⟩
  have GRw : FnOk l.prog w K mg base CX0 1 fRw _ ["cell", "many"] (spRow PTo) := ok_row FRw e_abs e_int e_range
  have GNu := ok_numbers FNu e_len e_max GRw mRw kRw bRw
  have GLn : FnOk l.prog w K mg base CX0 1 fLn _ ["number", "many"] (spLNames PTo) := ok_lnames FLn e_int e_range e_len e_min
  have GLh : FnOk l.prog w K mg base CX0 1 fLh _ ["numbers", "at", "day"] (spLHours K PTo) := ok_lhours FLh e_int e_tuple e_range
  have GLr := ok_lroadG FLr e_int e_len e_tuple e_range GLh mLh kLh bLh
  have GLq : FnOk l.prog w K mg base CX0 1 fLq _ ["numbers", "at", "roads"] (spLBarsG K PTo) := ok_lbarsG FLq e_int e_len e_tuple e_range e_sorted
  have GMp := ok_lpartsG FMp e_int e_tuple e_range e_sorted GLn mLn kLn bLn GLr mLr kLr bLr GLq mLq kLq bLq
  have GDc := ok_drawn FDc e_int e_len e_list GLr mLr kLr bLr GLh mLh kLh bLh
  have GTt : FnOk l.prog w K mg base CX0 1 fTt _ ["change"] (spTt K PTo) := ok_tt FTt i_NAME
  have GBl : FnOk l.prog w K mg base CX0 1 fBl _ ["change"] (spBl K PTo) := ok_bl FBl i_START i_END
  have GTo := ok_to FTo e_sorted GTt mTt kTt bTt
  have GLe := ok_le FLe e_sorted GBl mBl kBl bBl
  have GBe := ok_be FBe GTo mTo kTo bTo GLe mLe kLe bLe
  have GCl := ok_cl FCl e_sorted e_set GBe mBe kBe bBe
  have GAa := ok_aa FAa GCl mCl kCl bCl
  have GLt : FnOk l.prog w K mg base CX0 1 fLt _ ["changes"] (spLs K PTo thL) := ok_lt FLt
  have GLl : FnOk l.prog w K mg base CX0 1 fLl _ ["changes"] (spLs K PTo blL) := ok_ll FLl
  have GLo : FnOk l.prog w K mg base CX0 1 fLo _ ["things"] (spOnce K PTo) := ok_lo FLo e_sorted
  have GLc := ok_lc FLc GLt mLt kLt bLt GLl mLl kLl bLl GLo mLo kLo bLo
  exact ok_law lLw cLw (fun s v => .of_eq rfl) e_int e_len e_list e_range e_isinstance e_bool GNu mNu kNu bNu GMp mMp kMp bMp GDc mDc kDc bDc GTo mTo kTo bTo GLe mLe kLe bLe GCl mCl kCl bCl GAa mAa kAa bAa GLt mLt kLt bLt GLl mLl kLl bLl GLo mLo kLo bLo GLc mLc kLc bLc
end W

set_option Elab.async false
open PySem PySem.W PyProof.Rows in
set_option maxRecDepth 100000 in
set_option maxHeartbeats 0 in
theorem PySem.Challenge.cw_waypapers_k46_what_sets_clash_about_holds : PySem.Challenge.rw_waypapers_k46_what_sets_clash_about.Holds := by
  w_on; o_law; k_head; (case hw => w_witness2)
  k_fill
  refine MyR.walk_ofL (l := PySem.Challenge.rw_waypapers_k46_what_sets_clash_about) (n := 63) (CX := fun w => L2.CX (PySem.Challenge.rw_waypapers_k46_what_sets_clash_about).prog w) ["touched"] rfl (by decide) rfl (by decide +kernel) (fun w h Y => PySem.W.kIn_of Y) ?F (fun w H s e s' h => W.no_fly w H s e s' h)
  case F =>
    intro w mg fa h Y KX G hmg own
    refine' W.all_mk KX G hmg own ?aTo ?lTo ?cTo ?kTo ?aTt ?lTt ?cTt ?kTt ?aLe ?lLe ?cLe ?kLe ?aBl ?lBl ?cBl ?kBl ?aCl ?lCl ?cCl ?kCl ?aBe ?lBe ?cBe ?kBe ?aAa ?lAa ?cAa ?kAa ?aRw ?lRw ?cRw ?kRw ?aNu ?lNu ?cNu ?kNu ?aLn ?lLn ?cLn ?kLn ?aLh ?lLh ?cLh ?kLh ?aLr ?lLr ?cLr ?kLr ?aLq ?lLq ?cLq ?kLq ?aMp ?lMp ?cMp ?kMp ?aDc ?lDc ?cDc ?kDc ?aLt ?lLt ?cLt ?kLt ?aLl ?lLl ?cLl ?kLl ?aLo ?lLo ?cLo ?kLo ?aLc ?lLc ?cLc ?kLc ?aLw ?lLw ?cLw ?kLw ?lcTo ?v11To ?hcTo ?nPTo ?g_NAME ?g_START ?g_END ?z_len ?z_int ?z_range ?z_max ?z_min ?z_abs ?z_isinstance ?z_list ?z_bool ?z_tuple ?z_sorted ?z_set
    (case aTo => k_is)
    (case lTo => k_is)
    (case cTo => k_is)
    (case kTo => k_is)
    (case aTt => k_is)
    (case lTt => k_is)
    (case cTt => k_is)
    (case kTt => k_is)
    (case aLe => k_is)
    (case lLe => k_is)
    (case cLe => k_is)
    (case kLe => k_is)
    (case aBl => k_is)
    (case lBl => k_is)
    (case cBl => k_is)
    (case kBl => k_is)
    (case aCl => k_is)
    (case lCl => k_is)
    (case cCl => k_is)
    (case kCl => k_is)
    (case aBe => k_is)
    (case lBe => k_is)
    (case cBe => k_is)
    (case kBe => k_is)
    (case aAa => k_is)
    (case lAa => k_is)
    (case cAa => k_is)
    (case kAa => k_is)
    (case aRw => k_is)
    (case lRw => k_is)
    (case cRw => k_is)
    (case kRw => k_is)
    (case aNu => k_is)
    (case lNu => k_is)
    (case cNu => k_is)
    (case kNu => k_is)
    (case aLn => k_is)
    (case lLn => k_is)
    (case cLn => k_is)
    (case kLn => k_is)
    (case aLh => k_is)
    (case lLh => k_is)
    (case cLh => k_is)
    (case kLh => k_is)
    (case aLr => k_is)
    (case lLr => k_is)
    (case cLr => k_is)
    (case kLr => k_is)
    (case aLq => k_is)
    (case lLq => k_is)
    (case cLq => k_is)
    (case kLq => k_is)
    (case aMp => k_is)
    (case lMp => k_is)
    (case cMp => k_is)
    (case kMp => k_is)
    (case aDc => k_is)
    (case lDc => k_is)
    (case cDc => k_is)
    (case kDc => k_is)
    (case aLt => k_is)
    (case lLt => k_is)
    (case cLt => k_is)
    (case kLt => k_is)
    (case aLl => k_is)
    (case lLl => k_is)
    (case cLl => k_is)
    (case kLl => k_is)
    (case aLo => k_is)
    (case lLo => k_is)
    (case cLo => k_is)
    (case kLo => k_is)
    (case aLc => k_is)
    (case lLc => k_is)
    (case cLc => k_is)
    (case kLc => k_is)
    (case aLw => k_is)
    (case lLw => k_is)
    (case cLw => k_is)
    (case kLw => k_is)
    (case lcTo => k_is)
    (case v11To => rfl)
    (case hcTo => kernel_rfl)
    (case nPTo => kernel_rfl)
    (case g_NAME => k_is)
    (case g_START => k_is)
    (case g_END => k_is)
    (case z_len => k_is)
    (case z_int => k_is)
    (case z_range => k_is)
    (case z_max => k_is)
    (case z_min => k_is)
    (case z_abs => k_is)
    (case z_isinstance => k_is)
    (case z_list => k_is)
    (case z_bool => k_is)
    (case z_tuple => k_is)
    (case z_sorted => k_is)
    (case z_set => k_is)

