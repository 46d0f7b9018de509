import PyProof.Rows.All
import Wide.All
import OpenK.AllK
import Wide.FinOn
import HandS.ForMost
import HandS.ForExc
import HandS.AnyAll
import HandS.Strs
import HandS.FStr
import HandS.RaiseMore
import HandS.MakeKwOnly
import HandS.DictComp
import HandS.EndTab
import HandS.SortOrd
import KE.KNestM
import HandS.Codes
import HandS.IsInst
import HandS.Iter
import HandS.EndOwn
import PySem.Challenge.RW_waypapers_k08_names
set_option Elab.async false
set_option linter.all false
set_option maxRecDepth 100000
set_option maxHeartbeats 4000000
/-! all(test for x in text), where the test reads constants of the module: the walked element knows the base heap and the def's globals. -/
namespace MyG
open PySem PySem.Spec PyProof.Rows L2 GxR
/-- what the element's evaluation may lean on: the base heap stands, the globals are the module's, no exception is handled -/
def EltB (prog : Program) (w : World) (base : Heap) (scope : Scope) (x : Str) (elt : Expr) (pb : Nat → Bool) : Prop :=
  ∀ (ce : Env) (B : Around) (F : Value → Shared → Prop) (c : Nat) (t : Tok) (z : Shared) (m : Str → Option Value),
    ce.scope = scope → ce.globals = mainGlobals → B.handled = none → (∀ b o, base.get? b = some o → z.heap.get? b = some o) →
    z.heap.Ns ce.locals m → m x = some (.str ⟨#[c]⟩ t) → wpAny (model prog w) B (eval elt ce) (fun y z' => y = .bool (pb c) ∧ Keeps z z') F z
section
variable {X : Cx} {pins : List (Addr × Obj)} {σ : L2.St} {H : Hp} {s : Shared}
theorem genB {c P : Addr} {elt iter : Expr} {x : Str} {px gpos : Pos} {scope : Scope} {pb : Nat → Bool} {te : TE} {k : Nat} {Q' : Value → Shared → Prop} {R : Str → Hp → Prop}
    (hr : Room k X.A) (TB : TabB X.base X.mg c P) (hcode : X.env.code = .ref c) (S : GenS X.env scope x) (hi : PE X iter te) (hel : EltB X.prog X.w X.base scope x elt pb)
    (hs : ∀ v, genFold iter X.env v = pure v) (I : Inv X pins σ H s) (h : te σ H fun v H1 => ∃ a : Str, v = .str a ∧ TabG H1 P ∧ R a H1)
    (hQ : ∀ a H1 g z, R a H1 → Ready X pins σ H1 P a pb g z → Q' (.ref g) z) :
    wpAny (model X.prog X.w) X.A (eval (.GeneratorExp elt [⟨.Name x px, iter, [], 0⟩] scope gpos) X.env) Q' X.xe s := by
  refine wpAny_GeneratorExp_walksQ hr.hd S.co (closure_ok S.free) S.cell S.dot S.loc S.kind (by have := hr.dp; omega) ?_ hs
  refine thn (hi.run pins s σ H _ I h) fun xv s1 ⟨v, H1, I1, r1, a, ev, tb, q1⟩ => ?_
  subst ev
  obtain ⟨t, rfl⟩ := _root_.id r1
  obtain ⟨ps, hP, ht⟩ := tb
  refine wpAny_pyIter_str fun o St W hst => ?_
  have eP : s1.heap.get? P = some { cls := .none, data := .fields ps } := I1.hok P _ hP
  have ltP : P < s1.heap.objs.size := Heap.lt_size eP
  have eP2 := Heap.get?_push_of_some o eP
  have cd : PySem.W.CodeHd (s1.heap.push o) c P := TB.code.keeps fun b u e => Heap.get?_push_of_some _ (I1.bk b u e)
  have lim := I1.nolimit.push o
  have szp : (s1.heap.push o).objs.size = s1.heap.objs.size + 1 := Heap.size_push ..
  -- the base is not the table
  have nbP : ∀ b u, X.base.get? b = some u → b ≠ P := fun b u e z => by
    have q := (I1.bs b u e).2
    rw [z, hP] at q
    cases q
  have stP : cStatics ≠ P := fun e => by
    obtain ⟨_, ⟨o', es, ep, ho, hd, _⟩, _⟩ := I1.nolimit
    rw [e, eP] at ho
    cases ho
    cases hd
  have stlt : cStatics < s1.heap.objs.size := let ⟨_, hns, _⟩ := I1.nolimit; hns.lt
  -- behind the code object (made or found): h3, the table ps'
  have go : ∀ (code : Value) (h3 : Heap) (tk : Nat) (more : Array Value), Heap.ExtBut P (s1.heap.push o) h3 → (s1.heap.push o).objs.size ≤ h3.objs.size → h3.get? P = some { cls := .none, data := .fields (ps ++ more) } → TriplesOk (ps ++ more).toList →
      wpAny (model X.prog X.w) X.A (builtinsFor X.env.globals X.env.builtins) (fun bi s₄ =>
        ∃ Ia fp wr n₀ Pf St₀ pz F, Value.ref s1.heap.objs.size = .ref Ia ∧ (∀ A' : Around, A'.handled = none → Walks X.prog X.w A' Ia fp wr n₀ Pf St₀) ∧ St₀ 0 s₄.heap ∧ (∀ b ∈ fp, b < s₄.heap.objs.size) ∧ s₄.heap.NoLimit ∧ cStatics ∉ wr ∧
          (∀ href : Heap, (∀ b o, s₄.heap.get? b = some o → href.get? b = some o) →
            QuietGen X.prog X.w (genEnv scope (cloFrom X.env.cells scope.names []) s₄.heap.objs.size code bi X.env) x [] elt (List.range s₄.heap.objs.size) wr Pf pz F href) ∧
          (∀ a h₅ tk gs, gs.bare = true → s₄.heap.objs.size < a → h₅.objs.size = a + 1 → (∀ b o, s₄.heap.get? b = some o → h₅.get? b = some o) →
            WalksS X.prog X.w X.A.in4 a (a :: s₄.heap.objs.size :: List.range s₄.heap.objs.size) (s₄.heap.objs.size :: wr) (GenOnlyQ s₄.gens.size) (passing pz n₀ 0).length
              (fun j y => ∃ i, (passing pz n₀ 0)[j]? = some i ∧ F i y) (GenAt X.prog X.w X.A.in4 a s₄.gens.size s₄.heap.objs.size (List.range s₄.heap.objs.size) wr pz n₀ F) →
            GenAt X.prog X.w X.A.in4 a s₄.gens.size s₄.heap.objs.size (List.range s₄.heap.objs.size) wr pz n₀ F 0 { s₄ with gens := s₄.gens.push gs, toks := tk, heap := h₅ } →
            Q' (.ref a) { s₄ with gens := s₄.gens.push gs, toks := tk, heap := h₅ })) X.xe { s1 with heap := h3, toks := tk } := by
    intro code h3 tk more hx hsz e3 ht3
    obtain ⟨bm, ob, b1, b2, b3, b4, b5, b6, b7, b8⟩ := TB.bm
    have old : ∀ b u, b ≠ P → s1.heap.get? b = some u → h3.get? b = some u := fun b u hb e => hx b u hb (Heap.get?_push_of_some _ e)
    refine wpAny_builtinsFor (m := X.mg) (by rw [I1.ok.glob]; exact ((I1.mod.glob.keeps I1.bk).push o).extBut hx TB.gP) b1 b2 (old _ _ b4 (I1.bk _ _ b5)) b6 b7 b8 ?_
    refine ⟨s1.heap.objs.size, [s1.heap.objs.size], [s1.heap.objs.size], a.cps.size, SignAt a, St, (fun _ => true), (fun i y => ∃ cc, a.cps[i]? = some cc ∧ y = .bool (pb cc)), rfl, W, ?_, ?_, lim.extBut hx stP, ?_, ?_, ?_⟩
    · refine (W X.A hr.hd).frame _ _ _ hst fun b hb u e => hx b u (fun z => ?_) e
      have hb' : b = s1.heap.objs.size := List.mem_singleton.mp hb
      exact Nat.ne_of_lt ltP (z.symm.trans hb')
    · intro b hb
      have hb' : b = s1.heap.objs.size := List.mem_singleton.mp hb
      rw [hb']
      exact Nat.lt_of_lt_of_le (by rw [szp]; exact Nat.lt_succ_self _) hsz
    · intro z
      exact Nat.ne_of_lt stlt (List.mem_singleton.mp z)
    · intro href hk
      constructor
      · intro A' E' i v s₂ m₂ hA hPv hn hm hk2
        simp only [List.forIn_nil]
        exact wpAny_pure ⟨rfl, keeps_refl _⟩
      · intro A' E' i v s₂ m₂ hA hPv hp hn hm hk2
        obtain ⟨cc, u, hcc, rfl⟩ := hPv
        refine wpAny_mono (hel _ A' E' cc u s₂ m₂ rfl I1.ok.glob hA (fun b w' e => ?_) hn hm) (fun y s3 r => ⟨⟨cc, hcc, r.1⟩, r.2⟩) fun _ _ e => e
        have e1 := I1.bk b w' e
        have e2 := old b w' (nbP b w' e) e1
        have l1 : b < s1.heap.objs.size := Heap.lt_size e1
        refine hk2 b (List.mem_range.mpr (Heap.lt_size e2)) (fun z => ?_) w' (hk b w' e2)
        exact Nat.ne_of_lt l1 (List.mem_singleton.mp z)
    · intro g h5 tk5 gs hgb hag hsz5 hk5 W5 hat
      simp only [GxR.passing_true, List.length_range] at W5
      refine hQ a H1 g _ q1 ⟨_, _, _, _, _, W5.in4_1, hat, ?_, fun s' hm => ?_⟩
      · intro j y sj Qj Ej hy hQj
        obtain ⟨i, hij, cc, hcc, rfl⟩ := hy
        obtain ⟨hj, ej⟩ := List.getElem?_eq_some_iff.mp hij
        rw [List.getElem_range] at ej
        subst ej
        have e9 : a.cps.toList[j]? = some cc := by rw [Array.getElem?_toList]; exact hcc
        have hQ2 : Qj (trF pb a.cps.toList j) sj := hQj
        rw [trF_some e9] at hQ2
        exact wpAny_truthy_bool hQ2
      · have nwr : ∀ b u, s1.heap.get? b = some u → b ∉ h3.objs.size :: [s1.heap.objs.size] := fun b u e hb => by
          have hl := Heap.lt_size e
          rcases List.mem_cons.mp hb with z | z
          · exact Nat.ne_of_lt (Nat.lt_of_lt_of_le (Nat.lt_trans hl (Nat.lt_succ_self _)) (Nat.le_trans (Nat.le_of_eq szp.symm) hsz)) z
          · exact Nat.ne_of_lt hl (List.mem_singleton.mp z)
        have J := inv_tab (more := more) (h' := s'.heap) (g' := s'.gens) (d' := s'.drawn) (t' := s'.toks) I1 hP (fun b u hb e => hm.heap b u (nwr b u e) (hk5 b u (old b u hb e)))
          (hm.heap P _ (nwr P _ eP) (hk5 P _ e3)) (AllBare.movedS (I1.bare.push hgb) hm)
        rw [sh_eta s1 s' hm.os] at J
        exact ⟨upd H1 P (.tbl (ps ++ more)), ⟨⟨ps ++ more, upd_same, ht3⟩, fun b hb => upd_ne hb⟩, J⟩
  refine ⟨lim, ?_⟩
  cases hf : codeAmong gpos ps.toList with
  | none =>
    refine wpAny_genexprCodeX hcode (cd.code eP2 ht) (cd.tab eP2) hf fun c' h' tk hx hge hlt hco' _ htab' _ => ?_
    obtain ⟨o1, vs, f1, tf, fl, tg, inF, tx, tt, op, _, _, _, _, _, _, _, _, _, htr, _⟩ := hco'
    exact go _ h' tk _ hx (Nat.le_trans hge (Nat.le_of_lt hlt)) htab'.2 htr
  | some cv =>
    refine wpAny_genexprCode_hit hcode (cd.code eP2 ht) hf ?_
    refine go cv (s1.heap.push o) s1.toks #[] (Heap.ExtBut.refl _ _) (Nat.le_refl _) ?_ ?_
    · rw [Array.append_empty]; exact eP2
    · rw [Array.append_empty]; exact ht

/-- all(test for x in e), e a text -/
theorem pe_allB {c P : Addr} {elt iter : Expr} {x : Str} {px p pos gpos : Pos} {scope : Scope} {pb : Nat → Bool} {te : TE} {k : Nat}
    (hr : Room k X.A) (hg : Gl X "all") (hm : X.mg "all" = none) (TB : TabB X.base X.mg c P) (hcode : X.env.code = .ref c) (S : GenS X.env scope x) (hi : PE X iter te) (hel : EltB X.prog X.w X.base scope x elt pb)
    (hs : ∀ v, genFold iter X.env v = pure v)
    (he : starEach [.GeneratorExp elt [⟨.Name x px, iter, [], 0⟩] scope gpos] X.env = (false, eval (.GeneratorExp elt [⟨.Name x px, iter, [], 0⟩] scope gpos) X.env) :: starEach [] X.env := by rfl) :
    PE X (.Call (.Name "all" p) [.GeneratorExp elt [⟨.Name x px, iter, [], 0⟩] scope gpos] [] pos) (tAllS P pb te) := by
  refine ⟨fun pins s σ H Q I h => ?_⟩
  refine wpAny_Call_Name_kw (ld_blt I hg hm (by decide +kernel : bootBuiltins "all" = some (.builtin "all")) ?_)
  refine PyProof.Rows.callWith_builtin1 ?_ he (by rfl)
  rw [he]
  refine Calls.spliced_cons (genB (R := fun a H1 => ∀ H2, Tabbed P H1 H2 → Q (.bl (a.cps.toList.all pb)) H2) hr TB hcode S hi hel hs I h fun a H1 g z hR hG => Calls.spliced_nil ?_)
  obtain ⟨fp, wr, G, F, St, W, hst, htr, hI⟩ := hG
  refine call_all_walkS (W.self 0 _ _ _ hst ⟨g, fp, wr, G, _, F, St, _, rfl, W, hst, htr, fun s' hmv => ?_⟩)
  obtain ⟨H2, hT, J⟩ := hI s' hmv
  exact ⟨.bl _, H2, J, rfl, by rw [all_signs a pb]; exact hR H2 hT⟩
end
end MyG

set_option Elab.async false
set_option linter.all false
set_option maxRecDepth 100000
set_option maxHeartbeats 4000000
namespace W
open PySem PySem.Spec PyProof.Rows L2 GxR MyG
/-! ### the text by places -/
def top (i : Nat) : Stmt := PySem.Challenge.pw_waypapers_k08_names.main.body.getD i (.Pass ⟨0, 0, 0, 0⟩)
abbrev sIsName : Stmt := top 20
abbrev sNames : Stmt := top 22
abbrev sDiff : Stmt := top 23
abbrev sRoads : Stmt := top 24
abbrev sRoad : Stmt := top 25
abbrev sHours : Stmt := top 26
abbrev sBars : Stmt := top 27
abbrev sInit : Stmt := inClass (top 28) 0

/-! ### names -/
def zLet : Str := "abcdefghijklmnopqrstuvwxyz"
def zDig : Str := "0123456789"
def goodC (c : Nat) : Bool := decide (c ∈ zLet.cps.toList) || decide (c ∈ zDig.cps.toList)
def isNm (z : Str) : Bool := decide (1 ≤ z.length) && decide (z.length ≤ 12) && (match z.cps.toList with | [] => false | c :: _ => decide (c ∈ zLet.cps.toList)) && z.cps.toList.all goodC
/-- the element of the generator: x in A or x in B -/
theorem elt_two {prog : Program} {w : World} {base : Heap} {mg : Str → Option Value} {scope : Scope} {x A B : Str} {a b : Str} {ta tb : Tok} {p1 p2 p3 p4 p5 p6 p7 : Pos} (hk : scope.kind = .function) (hl : scope.names.lookup x = some .local)
    (hA : scope.names.lookup A = some .globalImplicit) (hB : scope.names.lookup B = some .globalImplicit) (hns : base.Ns mainGlobals mg) (eA : mg A = some (.str a ta)) (eB : mg B = some (.str b tb))
    (hd : (x == ("__debug__" : Str)) = false := by decide) (hdA : (A == ("__debug__" : Str)) = false := by decide) (hdB : (B == ("__debug__" : Str)) = false := by decide) :
    EltB prog w base scope x (.BoolOp .Or [.Compare (.Name x p1) [.In] [.Name A p2] p3, .Compare (.Name x p4) [.In] [.Name B p5] p6] p7) (fun c => decide (c ∈ a.cps.toList) || decide (c ∈ b.cps.toList)) := by
  intro ce B' F c t z m hs hg hh hb hn hm
  have kf : ce.scope.kind = .function := by rw [hs]; exact hk
  have kx : ce.kindOf x = some .local := by show ce.scope.names.lookup x = _; rw [hs]; exact hl
  have nsz : ∀ (z' : Shared), Keeps z z' → z'.heap.Ns ce.globals mg := fun z' k => by
    rw [hg]
    obtain ⟨h', tk, rfl, kk⟩ := k
    exact (hns.keeps hb).keeps kk
  have one : ∀ (G : Str) (g : Str) (tg : Tok) (q1 q2 q3 : Pos) (Q : Value → Shared → Prop), (G == ("__debug__" : Str)) = false → scope.names.lookup G = some .globalImplicit → mg G = some (.str g tg) → Q (.bool (decide (c ∈ g.cps.toList))) z →
      wpAny (model prog w) B' (eval (.Compare (.Name x q1) [.In] [.Name G q2] q3) ce) Q F z := by
    intro G g tg q1 q2 q3 Q hdG hG eG hQ
    refine wpAny_Compare1 ?_
    refine wpAny_Name (wpAny_loadName_local kf kx hn hm ?_) hd
    refine Calls.Name_function_global kf (by show ce.scope.names.lookup G = _; rw [hs]; exact hG) (Calls.loadGlobal_global (nsz z (keeps_refl z)) eG ?_) hdG
    refine PyProof.Rows.in_str ?_
    rw [PySem.StrLaws.found_one g c]
    exact hQ
  refine BoolOp_or (one A a ta _ _ _ _ hdA hA eA ?_)
  refine wpAny_truthy_bool ?_
  by_cases ca : c ∈ a.cps.toList
  · have ea : decide (c ∈ a.cps.toList) = true := decide_eq_true ca
    rw [if_pos ea]
    refine ⟨?_, keeps_refl z⟩
    show Value.bool (decide (c ∈ a.cps.toList)) = Value.bool (decide (c ∈ a.cps.toList) || decide (c ∈ b.cps.toList))
    rw [ea]; rfl
  · have ea : decide (c ∈ a.cps.toList) = false := decide_eq_false ca
    rw [if_neg (by rw [ea]; exact Bool.false_ne_true)]
    refine BoolOp_one (one B b tb _ _ _ _ hdB hB eB ?_)
    refine ⟨?_, keeps_refl z⟩
    show Value.bool (decide (c ∈ b.cps.toList)) = Value.bool (decide (c ∈ a.cps.toList) || decide (c ∈ b.cps.toList))
    rw [ea]; rfl

theorem pe_gI {X : Cx} {x : Str} {i : Int} {t : Tok} {pos : Pos} (hm : X.mg x = some (.int i t)) (hg : Gl X x := by rfl) (hd : (x == ("__debug__" : Str)) = false := by decide) : PE X (.Name x pos) (tC (.int i)) := pe_glob hg hm ⟨_, rfl⟩ hd
theorem pe_gS {X : Cx} {x z : Str} {t : Tok} {pos : Pos} (hm : X.mg x = some (.str z t)) (hg : Gl X x := by rfl) (hd : (x == ("__debug__" : Str)) = false := by decide) : PE X (.Name x pos) (tC (.str z)) := pe_glob hg hm ⟨_, rfl⟩ hd
theorem nofree {names : List (Str × NameKind)} {Q : Str × NameKind → Prop} (h : names.all (fun y => y.2 != .free) = true) : ∀ y ∈ names, y.2 = .free → Q y := fun y hy e => by
  have q := List.all_eq_true.mp h y hy
  rw [e] at q
  exact absurd q (by decide)
theorem if_t {c : Bool} {A B : Prop} (hc : c = true) (h : A) : if c = true then A else B := by
  rw [if_pos hc]
  exact h
theorem if_f {c : Bool} {A B : Prop} (hc : c = false) (h : B) : if c = true then A else B := by
  rw [hc, if_neg Bool.false_ne_true]
  exact h
/-! ### what the top has written -/
structure Txt (K : PySem.W.Frag) (mg : Str → Option Value) (C P : Addr) : Prop where
  let_ : ∃ t, mg "LETTERS" = some (.str zLet t)
  dig : ∃ t, mg "DIGITS" = some (.str zDig t)
  ln : ∃ t, mg "LONGEST_NAME" = some (.int 12 t)
  len : mg "len" = none
  all : mg "all" = none

def spIsName (P : Addr) : Sp := fun vs H Q _ => ∃ z : Str, vs = [.str z] ∧ z.length ≤ sizeLine ∧ TabG H P ∧ ∀ H', Tabbed P H H' → Q (.bl (isNm z)) H'
section
variable {Pg : Program} {w : World} {K : PySem.W.Frag} {mg : Str → Option Value} {base : Heap} {C P : Addr}
theorem scIsName : FnScope ["text"] ["text"] (defScope sIsName) := ⟨rfl, rfl, rfl, by decide +kernel, rfl, by decide +kernel, by decide +kernel⟩
theorem str_len0 {z : Str} (h : ¬ 1 ≤ z.length) : isNm z = false := by
  unfold isNm
  simp [h]
theorem ok_isName {f c : Addr} {fd : FuncData} (F : Fun K "is_name" "is_name" sIsName f fd) (T : Txt K mg C P) (TB : TabB base mg c P) (hfc : fd.code = .ref c) (hns : base.Ns mainGlobals mg) : FnOk Pg w K mg base CX0 2 f fd ["text"] (spIsName P) := by
  obtain ⟨oc, od, kV, doc, pm, an, cdv, ct, osl, efd, lk, hcd⟩ := F.ex
  subst efd
  have ecd : cdv = .ref c := hfc
  subst ecd
  refine fn_of lk hcd scIsName (fun vs H Q E h => ?_) (fun A outer s H vs Q E hr h => ?_)
  · obtain ⟨z, rfl, _⟩ := h
    rfl
  · obtain ⟨z, rfl, hz, hP, k⟩ := h
    obtain ⟨tl, el⟩ := T.let_
    obtain ⟨td, ed⟩ := T.dig
    obtain ⟨tn, en⟩ := T.ln
    refine ⟨_, PSs.nox (pss_cons (ps_if (PW.pt (pw_or (pt_not (pt_chain op_le op_le pe_int (pe_callB call_len_str (by rfl) T.len PySem.boot_len (pa_cons (pv 0) pa_nil)) (pe_gI en)))
        (pw_or1 (pt_cmpR op_notIn_sign (pe_ix ix_str (pv 0) pe_int (fun _ _ => rfl)) (pe_gS el) (by rfl)))))
        (pss_one (ps_ret pe_bl)) pss_nil)
      (pss_one (ps_ret (pe_allB (scope := _) (P := P) hr rfl T.all TB rfl ⟨rfl, rfl, by decide +kernel, by decide +kernel, by decide +kernel, nofree (by decide +kernel)⟩ (pv 0) (elt_two rfl (by decide +kernel) (by decide +kernel) (by decide +kernel) hns el ed) (fun _ => rfl))))), ?_⟩
    have zl : z.length = z.cps.toList.length := by simp [Str.length]
    refine ⟨_, rfl, z, rfl, hz, 1, _, rfl, rfl, _, rfl, ?_⟩
    by_cases h1 : (1 : Int) ≤ (z.length : Int)
    · refine if_t (decide_eq_true h1) ⟨_, _, rfl, rfl, _, rfl, ?_⟩
      by_cases h2 : (z.length : Int) ≤ 12
      · rw [decide_eq_true h2]
        refine iteF ?_
        have hp : 0 < z.cps.toList.length := by omega
        have e0 : atI z.cps.toList 0 = some (z.cps.toList[0]'hp) := atI_nat (j := 0) (List.getElem?_eq_getElem hp)
        refine ⟨_, rfl, z, 0, _, rfl, rfl, hz, e0, _, _, rfl, rfl, _, rfl, ?_⟩
        by_cases h3 : z.cps.toList[0]'hp ∈ zLet.cps.toList
        · rw [decide_eq_true h3]
          refine iteF ⟨_, rfl, z, rfl, hP, fun H2 hH => ?_⟩
          have e := k H2 hH
          have en : isNm z = z.cps.toList.all goodC := by
            unfold isNm
            cases q : z.cps.toList with
            | nil => rw [q] at hp; exact absurd hp (by decide)
            | cons c r =>
              have h3' : c ∈ zLet.cps.toList := by
                have : z.cps.toList[0]'hp = c := by simp [q]
                rw [← this]; exact h3
              have a1 : 1 ≤ z.length := by omega
              have a2 : z.length ≤ 12 := by omega
              simp [a1, a2, h3']
          rw [en] at e
          exact e
        · rw [decide_eq_false h3]
          refine iteT ?_
          have en : isNm z = false := by
            unfold isNm
            cases q : z.cps.toList with
            | nil => simp
            | cons c r =>
              have h3' : c ∉ zLet.cps.toList := by
                have : z.cps.toList[0]'hp = c := by simp [q]
                rw [← this]; exact h3
              simp [h3']
          have e := k H ⟨hP, fun _ _ => rfl⟩
          rw [en] at e
          exact e
      · rw [decide_eq_false h2]
        refine iteT ?_
        have en : isNm z = false := by
          unfold isNm
          have a2 : ¬ z.length ≤ 12 := by omega
          simp [a2]
        have e := k H ⟨hP, fun _ _ => rfl⟩
        rw [en] at e
        exact e
    · refine if_f (decide_eq_false h1) ⟨_, rfl, ?_⟩
      refine iteT ?_
      have en : isNm z = false := by
        unfold isNm
        have a2 : ¬ 1 ≤ z.length := by omega
        simp [a2]
      have e := k H ⟨hP, fun _ _ => rfl⟩
      rw [en] at e
      exact e
end
end W

set_option Elab.async false
set_option linter.all false
set_option maxRecDepth 100000
set_option maxHeartbeats 400000
namespace W
open PySem PySem.Spec PyProof.Rows L2 GxR MyG
/-! ### heaps that have grown: what stood (but the table at P) stands -/
structure Grew (P : Addr) (H H' : Hp) : Prop where
  tab : TabG H' P
  old : ∀ b o, b ≠ P → H b = some o → H' b = some o
section
variable {P : Addr} {H H1 H2 H' : Hp} {K : PySem.W.Frag}
theorem Grew.refl (h : TabG H P) : Grew P H H := ⟨h, fun _ _ _ e => e⟩
theorem Grew.trans (a : Grew P H H1) (b : Grew P H1 H2) : Grew P H H2 := ⟨b.tab, fun c o n e => b.old c o n (a.old c o n e)⟩
theorem Grew.of (t : Tabbed P H H') : Grew P H H' := ⟨t.1, fun b o n e => by rw [t.2 b n]; exact e⟩
theorem tabNe (h : TabG H P) {a : Addr} (n : H a = none) : a ≠ P := fun e => by
  obtain ⟨ps, q, _⟩ := h
  rw [e, q] at n
  cases n
theorem tabNe' (h : TabG H P) {a : Addr} {o : HO} (e : H a = some o) (d : ∀ ps, o ≠ .tbl ps) : a ≠ P := fun z => by
  obtain ⟨ps, q, _⟩ := h
  rw [z, q] at e
  exact d ps (Option.some.inj e).symm
theorem tabUpd (h : TabG H P) {a : Addr} {o : HO} (n : a ≠ P) : TabG (upd H a o) P := by
  obtain ⟨ps, q, t⟩ := h
  exact ⟨ps, by rw [upd_ne (Ne.symm n)]; exact q, t⟩
/-- a new object -/
theorem Grew.new (h : TabG H P) {a : Addr} {o : HO} (n : H a = none) : Grew P H (upd H a o) := ⟨tabUpd h (tabNe h n), fun b u _ e => by rw [upd_ne (ne_of_none e n)]; exact e⟩
theorem Grew.put (g : Grew P H H1) {a : Addr} {o : HO} (n : H1 a = none) : Grew P H (L2.upd H1 a o) := g.trans (Grew.new g.tab n)
theorem Grew.get (g : Grew P H H') (h : TabG H P) {b : Addr} {o : HO} (e : H b = some o) (d : ∀ ps, o ≠ .tbl ps) : H' b = some o := g.old b o (tabNe' h e d) e
theorem Grew.lst (g : Grew P H H') (h : TabG H P) {b : Addr} {xs : List V} (e : H b = some (.lst xs)) : H' b = some (.lst xs) := g.get h e (fun _ z => by cases z)
theorem Grew.tup (g : Grew P H H') (h : TabG H P) {b : Addr} {xs : List V} (e : H b = some (.tup xs)) : H' b = some (.tup xs) := g.get h e (fun _ z => by cases z)
theorem Grew.free (g : Grew P H H') {b : Addr} (n : H' b = none) : H b = none := by
  cases q : H b with
  | none => rfl
  | some o =>
    rw [g.old b o (tabNe g.tab n) q] at n
    cases n
theorem Grew.sqL (g : Grew P H H') (h : TabG H P) {a : Addr} {xs : List V} (q : SqL K H a xs) : SqL K H' a xs := by
  rcases q with (q | ⟨o, q⟩) | q
  · exact .inl (.inl (g.lst h q))
  · exact .inl (.inr ⟨o, g.get h q (fun _ z => by cases z)⟩)
  · exact .inr q
theorem Grew.sqT (g : Grew P H H') (h : TabG H P) {a : Addr} {xs : List V} (q : SqT K H a xs) : SqT K H' a xs := by
  rcases q with (q | ⟨o, q⟩) | q
  · exact .inl (.inl (g.tup h q))
  · exact .inl (.inr ⟨o, g.get h q (fun _ z => by cases z)⟩)
  · exact .inr q
/-- an own object that was not there at H may be written -/
theorem Grew.write (g : Grew P H H1) {a : Addr} {o u : HO} (e : H1 a = some u) (d : ∀ ps, u ≠ .tbl ps) (n : H a = none) : Grew P H (L2.upd H1 a o) :=
  ⟨tabUpd g.tab (tabNe' g.tab e d), fun b v hb q => by rw [upd_ne (ne_of_none q n)]; exact g.old b v hb q⟩
end

theorem perm_le1 {α : Type} {ys ns : List α} (h : ns.length ≤ 1) (p : ys.Perm ns) : ys = ns := by
  cases ns with
  | nil => exact p.eq_nil
  | cons x r =>
    cases r with
    | nil => exact List.perm_singleton.mp p
    | cons y r => simp at h
/-! ### _checked_day, _check_different, _checked_hours -/
structure TxtE (X : Str → Option Value) (K : PySem.W.Frag) (C : Addr) : Prop where
  gC : X "InvalidMap" = some (.ref C)
  xC : PySem.W.excIn K C [.type "ValueError", .type "Exception", .type "BaseException", .type "object"] "ValueError.__new__" = true
  kC : PySem.W.keepIn K (.ref C) = true
  bC : PySem.W.subIn K (.ref C) (.type "BaseException") = some true
  tC : PySem.W.typeIn K (.ref C) = some (.type "type")
abbrev sDay : Stmt := top 21
def spDay : Sp := fun vs H Q _ => ∃ d : Int, vs = [.int d] ∧ 1 ≤ d ∧ d ≤ 1440 ∧ Q (.int d) H
def spDiff (K : PySem.W.Frag) : Sp := fun vs H Q _ => ∃ (a : Addr) (ns : List Str), vs = [.ref a] ∧ SqL K H a (ns.map V.str) ∧ ns.length ≤ 1 ∧ Q .non H
def spHours : Sp := fun vs H Q _ => ∃ d : Int, vs = [.non, .int d] ∧ Q .non H
section
variable {Pg : Program} {w : World} {K : PySem.W.Frag} {mg : Str → Option Value} {base : Heap} {C P : Addr}
theorem scDay : FnScope ["day"] ["day"] (defScope sDay) := ⟨rfl, rfl, rfl, by decide +kernel, rfl, by decide +kernel, by decide +kernel⟩
theorem ok_day {f : Addr} {fd : FuncData} {t : Tok} (F : Fun K "_checked_day" "_checked_day" sDay f fd) (hd : mg "LONGEST_DAY" = some (.int 1440 t)) : FnOk Pg w K mg base CX0 1 f fd ["day"] spDay := by
  refine F.ok scDay (fun vs H Q E h => ?_) (fun cdv A outer s H vs Q E hr h => ?_)
  · obtain ⟨d, rfl, _⟩ := h
    rfl
  · obtain ⟨d, rfl, h1, h2, k⟩ := h
    refine ⟨_, pss_cons (ps_if (pt_not (pt_chain op_le op_le pe_int (pv 0) (pe_gI hd))) (pss_one ps_never) pss_nil) (pss_one (ps_ret (pv 0))), ?_⟩
    refine ⟨_, rfl, _, _, rfl, rfl, _, rfl, if_t (decide_eq_true h1) ⟨_, _, rfl, rfl, _, rfl, ?_⟩⟩
    rw [decide_eq_true h2]
    exact iteF ⟨_, rfl, k⟩
theorem scDiff : FnScope ["parts"] ["parts"] (defScope sDiff) := ⟨rfl, rfl, rfl, by decide +kernel, rfl, by decide +kernel, by decide +kernel⟩
theorem ok_diff {f : Addr} {fd : FuncData} (F : Fun K "_check_different" "_check_different" sDiff f fd) (hl : mg "len" = none) (hs : mg "set" = none) : FnOk Pg w K mg base CX0 1 f fd ["parts"] (spDiff K) := by
  refine F.ok scDiff (fun vs H Q E h => ?_) (fun cdv A outer s H vs Q E hr h => ?_)
  · obtain ⟨a, ns, rfl, _⟩ := h
    rfl
  · obtain ⟨a, ns, rfl, hS, h1, k⟩ := h
    refine ⟨_, pss_one (ps_if (pt_cmpR op_lt (pe_lenSet rfl (by rfl) hl (by rfl) hs (pv 0)) (pe_callB call_len_seq (by rfl) hl PySem.boot_len (pa_cons (pv 0) pa_nil)) (nomark _)) (pss_one ps_never) pss_nil), ?_⟩
    refine ⟨_, rfl, a, ns, rfl, .inl hS, h1, _, rfl, a, _, rfl, .inl hS, _, _, rfl, rfl, _, rfl, ?_⟩
    rw [List.length_map]
    exact if_f (decide_eq_false (by omega)) k
theorem scHours : FnScope ["hours", "day", "closed", "pair"] ["hours", "day"] (defScope sHours) := ⟨rfl, rfl, rfl, by decide +kernel, rfl, by decide +kernel, by decide +kernel⟩
theorem ok_hours {f : Addr} {fd : FuncData} (F : Fun K "_checked_hours" "_checked_hours" sHours f fd) : FnOk Pg w K mg base CX0 1 f fd ["hours", "day"] spHours := by
  refine F.ok scHours (fun vs H Q E h => ?_) (fun cdv A outer s H vs Q E hr h => ?_)
  · obtain ⟨d, rfl, _⟩ := h
    rfl
  · obtain ⟨d, rfl, k⟩ := h
    refine ⟨_, pss_cons (ps_if (pt_cmp (pc_isN (pv 0))) (pss_one (ps_ret pe_non)) pss_nil) pss_never, ?_⟩
    refine ⟨_, rfl, _, rfl, ?_⟩
    exact iteT k

/-! ### _checked_names: a list of at most one name -/
def spNames (K : PySem.W.Frag) (C P : Addr) : Sp := fun vs H Q E => ∃ (a : Addr) (ns : List Str) (lo hi : Int), vs = [.ref a, .int lo, .int hi] ∧ SqL K H a (ns.map V.str) ∧ lo ≤ ns.length ∧ (ns.length : Int) ≤ hi ∧ ns.length ≤ 1 ∧ (∀ z ∈ ns, z.length ≤ 1000) ∧ TabG H P ∧
  (ns.all isNm = false → ∀ H', Grew P H H' → E (.ref C) none H') ∧ (ns.all isNm = true → ∀ H' p, Grew P H H' → H p = none → H' p = some (.tup (ns.map V.str)) → Q (.ref p) H')
theorem scNames : FnScope ["names", "least", "most", "name"] ["names", "least", "most"] (defScope sNames) := ⟨rfl, rfl, rfl, by decide +kernel, rfl, by decide +kernel, by decide +kernel⟩
theorem ok_names {f fN fD : Addr} {fd fdN fdD : FuncData} (F : Fun K "_checked_names" "_checked_names" sNames f fd) (T : TxtE mg K C) (hl : mg "len" = none) (ht : mg "tuple" = none) (hs : mg "sorted" = none)
    (GN : FnOk Pg w K mg base CX0 2 fN fdN ["text"] (spIsName P)) (gN : mg "is_name" = some (.ref fN)) (kN : PySem.W.keepIn K (.ref fN) = true) (bN : Binds K fdN ["text"] [])
    (GD : FnOk Pg w K mg base CX0 1 fD fdD ["parts"] (spDiff K)) (gD : mg "_check_different" = some (.ref fD)) (kD : PySem.W.keepIn K (.ref fD) = true) (bD : Binds K fdD ["parts"] []) :
    FnOk Pg w K mg base (L2.CX Pg w) 3 f fd ["names", "least", "most"] (spNames K C P) := by
  refine F.okX scNames (fun vs H Q E h => ?_) (fun cdv A outer s H vs Q E hr h => ?_)
  · obtain ⟨a, ns, lo, hi, rfl, _⟩ := h
    rfl
  · obtain ⟨a, ns, lo, hi, rfl, hS, hlo, hhi, h1, hz, hP, kE, kQ⟩ := h
    have hr1 : Room 1 _ := hr.mono (by decide)
    refine ⟨_, pss_cons (ps_if (pt_not (pt_chain op_le op_le (pv 1) (pe_callB call_len_seq (by rfl) hl PySem.boot_len (pa_cons (pv 0) pa_nil)) (pv 2))) (pss_one ps_never) pss_nil)
      (pss_cons (ps_for (passes_of rfl) rfl (pi_list (pv 0)) (pg_name (i := 3) scNames.nd rfl (Or.inl rfl))
        (pss_one (ps_if (pt_not (pt_val (pe_call GN hr (by rfl) gN kN bN .nil pass0 (pa_cons (pv 3) pa_nil))))
          (pss_one (ps_raise rfl (takes_of rfl rfl rfl rfl) (SkE.pmk_own1 PySem.F.excBase_ValueError T.xC T.gC T.kC (raises_own T.bC T.tC) (by rfl) (pe_joined (PJ.cons pe_str (PJ.cons (pe_fmt (pv 3)) PJ.nil)))))) pss_nil)))
      (pss_cons (ps_expr (pe_call GD hr1 (by rfl) gD kD bD .nil pass0 (pa_cons (pv 0) pa_nil)))
      (pss_one (ps_ret (pe_callTy call_tuple_of (by rfl) ht (by decide +kernel) (pa_cons (pe_callB cr_sortedS (by rfl) hs (by decide +kernel) (pa_cons (pv 0) pa_nil)) pa_nil)))))), ?_⟩
    refine ⟨_, rfl, _, rfl, a, _, rfl, .inl hS, _, _, rfl, rfl, _, rfl, ?_⟩
    rw [List.length_map]
    refine if_t (decide_eq_true hlo) ⟨_, rfl, _, _, rfl, rfl, _, rfl, ?_⟩
    rw [decide_eq_true hhi]
    refine iteF ⟨_, rfl, a, rfl, ⟨_, hS⟩, for_list (K := K) (a := a) (xs := ns.map V.str) (fun i σ H' => ∃ v, σ = [some (.ref a), some (.int lo), some (.int hi), v] ∧ Grew P H H' ∧ (ns.take i).all isNm = true)
      ⟨none, rfl, Grew.refl hP, rfl⟩ (fun i σ H' _ ⟨_, _, g, _⟩ => g.sqL hP hS) ?_ ?_⟩
    · rintro i y σ H' hi ⟨v, rfl, g, hall⟩
      obtain ⟨z, hzi, rfl⟩ : ∃ z, ns[i]? = some z ∧ y = V.str z := by
        rw [List.getElem?_map] at hi
        cases e : ns[i]? with
        | none => rw [e] at hi; cases hi
        | some z => rw [e] at hi; exact ⟨z, rfl, (Option.some.inj hi).symm⟩
      have hzl := hz z (List.mem_of_getElem? hzi)
      have tk : (ns.take (i + 1)).all isNm = isNm z := by
        rw [List.take_succ, hzi, List.all_append, hall]
        simp
      refine ⟨_, rfl, z, rfl, by rw [sizeLine_eq]; omega, g.tab, fun H2 t2 => ⟨_, rfl, ?_⟩⟩
      have g2 := g.trans (Grew.of t2)
      cases hn : isNm z with
      | true =>
        refine iteF ⟨_, rfl, g2, ?_⟩
        rw [tk]; exact hn
      | false =>
        refine iteT ⟨_, rfl, ?_, _, rfl, .inl ⟨z, rfl, by rw [sizeLine_eq]; omega, z, rfl, ?_, kE ?_ H2 g2⟩⟩
        · decide +kernel
        · show (Str.empty ++ _ ++ z).length ≤ sizeLine
          rw [sizeLine_eq, PySem.Str.length_append]
          have e : (Str.empty ++ (Str.ofString "not a name: ")).length ≤ 100 := by decide +kernel
          omega
        · exact List.all_eq_false.mpr ⟨z, List.mem_of_getElem? hzi, by rw [hn]; decide⟩
    · rintro σ H' ⟨v, rfl, g, hall⟩
      rw [List.length_map, List.take_length] at hall
      refine ⟨_, rfl, a, ns, rfl, g.sqL hP hS, h1, ?_⟩
      refine ⟨_, rfl, a, ns, rfl, g.sqL hP hS, by omega, fun ys l hp hso hl => ⟨l, _, rfl, .inl ⟨SqL.of upd_same, fun p hp2 => ?_⟩⟩⟩
      have hy : ys = ns := perm_le1 h1 hp
      subst hy
      have gl := g.put (o := .lst (ys.map V.str)) hl
      exact kQ hall _ p (gl.put hp2) (gl.free hp2) upd_same
end
end W

set_option Elab.async false
set_option linter.all false
set_option maxRecDepth 100000
set_option maxHeartbeats 400000
namespace W
open PySem PySem.Spec PyProof.Rows L2 GxR MyG
/-! ### sorted(xs) of at most one thing -/
section
variable {X : Cx}
def rSorted1 (K : PySem.W.Frag) : List V → Hp → VK → Prop := fun vs H Q => ∃ (a : Addr) (xs : List V), vs = [V.ref a] ∧ SqL K H a xs ∧ xs.length ≤ 1 ∧ ∀ l, H l = none → Q (.ref l) (upd H l (.lst xs))
theorem cr_sorted1 : CallR X (.builtin "sorted") (rSorted1 X.K) := by
  intro pins s σ H vs us Q I r h
  obtain ⟨a, xs, rfl, hs, h1, q⟩ := h
  obtain ⟨its, rv, hl, hz⟩ := I.list hs
  obtain ⟨u, rfl, ru⟩ := vals1 r
  obtain rfl : u = Value.ref a := ru
  have hlen : its.length ≤ 1 := by rw [← rv.length]; exact h1
  refine SrtO.sorted_ord (ltv := fun _ _ => false) ⟨fun _ _ h => absurd h (by decide), fun _ _ _ h _ => h⟩ hl.isList (by rw [← rv.length]; exact hz) (fun h2 => absurd h2 (by omega)) fun out _ hb => ?_
  have e : out = its := perm_le1 hlen hb.perm
  subst e
  obtain ⟨n, hn⟩ := sortedAll_at s.heap out out.toArray
  exact ⟨.ref _, upd H _ (.lst xs), I.laid (t' := s.toks) (fun b o e => sortedAll_old e) (Nat.le_succ _) ⟨hz, out, n, rv, hn⟩, rfl, q _ (I.hok.fresh (Nat.le_succ _))⟩
end

/-! ### _checked_road -/
def sP : Str := "p"
def sK : Str := "k"
def roadV (nm : Str) (u : Addr) : List V := [.str nm, .str sP, .str sP, .int 1, .ref u, .non]
def spRoad (K : PySem.W.Frag) (P : Addr) : Sp := fun vs H Q _ => ∃ (t u pl ki : Addr) (d : Int) (nm : Str), vs = [.ref t, .int d, .ref pl, .ref ki] ∧ SqT K H t (roadV nm u) ∧ SqL K H u [.str sK] ∧ SqT K H pl [.str sP] ∧ SqT K H ki [.str sK] ∧ TabG H P ∧
  ∀ H' p q, Grew P H H' → H p = none → H q = none → H' p = some (.tup (roadV nm q)) → H' q = some (.tup [.str sK]) → Q (.ref p) H'
section
variable {Pg : Program} {w : World} {K : PySem.W.Frag} {mg : Str → Option Value} {base : Heap} {C P : Addr}
theorem scRoad : FnScope ["road", "day", "places", "kinds", "name", "start", "end", "minutes", "users", "hours", "kind"] ["road", "day", "places", "kinds"] (defScope sRoad) := ⟨rfl, rfl, rfl, by decide +kernel, rfl, by decide +kernel, by decide +kernel⟩
theorem ok_road {f fH fD : Addr} {fd fdH fdD : FuncData} {t1 : Tok} (F : Fun K "_checked_road" "_checked_road" sRoad f fd) (ht : mg "tuple" = none) (hs : mg "sorted" = none) (hm : mg "MOST_MINUTES" = some (.int 1000 t1))
    (GD : FnOk Pg w K mg base CX0 1 fD fdD ["parts"] (spDiff K)) (gD : mg "_check_different" = some (.ref fD)) (kD : PySem.W.keepIn K (.ref fD) = true) (bD : Binds K fdD ["parts"] [])
    (GH : FnOk Pg w K mg base CX0 1 fH fdH ["hours", "day"] spHours) (gH : mg "_checked_hours" = some (.ref fH)) (kH : PySem.W.keepIn K (.ref fH) = true) (bH : Binds K fdH ["hours", "day"] []) :
    FnOk Pg w K mg base CX0 2 f fd ["road", "day", "places", "kinds"] (spRoad K P) := by
  refine F.ok scRoad (fun vs H Q E h => ?_) (fun cdv A outer s H vs Q E hr h => ?_)
  · obtain ⟨t, u, pl, ki, d, nm, rfl, _⟩ := h
    rfl
  · obtain ⟨t, u, pl, ki, d, nm, rfl, hT, hU, hPl, hKi, hP, k⟩ := h
    refine ⟨_, pss_cons (ps_asg (pv 0) (pg_tup (by rfl) (pgs_cons (pg_name (i := 4) scRoad.nd rfl (.inl rfl)) (pgs_cons (pg_name (i := 5) scRoad.nd rfl (.inl rfl)) (pgs_cons (pg_name (i := 6) scRoad.nd rfl (.inl rfl))
        (pgs_cons (pg_name (i := 7) scRoad.nd rfl (.inl rfl)) (pgs_cons (pg_name (i := 8) scRoad.nd rfl (.inl rfl)) (pgs_cons (pg_name (i := 9) scRoad.nd rfl (.inl rfl)) pgs_nil))))))))
      (pss_cons (ps_if (PW.pt (pw_or (pt_cmpR op_notIn_seq (pv 5) (pv 2) (by rfl)) (pw_or1 (pt_cmpR op_notIn_seq (pv 6) (pv 2) (by rfl))))) (pss_one ps_never) pss_nil)
      (pss_cons (ps_if (pt_not (pt_chain op_le op_le pe_int (pv 7) (pe_gI hm))) (pss_one ps_never) pss_nil)
      (pss_cons (ps_for PassesOwn.never rfl (pi_list (pv 8)) (pg_name (i := 10) scRoad.nd rfl (Or.inl rfl)) (pss_one (ps_if (pt_cmpR op_notIn_seq (pv 10) (pv 3) (by rfl)) (pss_one ps_never) pss_nil)))
      (pss_cons (ps_expr (pe_call GD hr (by rfl) gD kD bD .nil pass0 (pa_cons (pv 8) pa_nil)))
      (pss_one (ps_ret (pe_tup (pa_cons (pv 4) (pa_cons (pv 5) (pa_cons (pv 6) (pa_cons (pv 7) (pa_cons (pe_callTy call_tuple_of (by rfl) ht (by decide +kernel) (pa_cons (pe_callB cr_sortedS (by rfl) hs (by decide +kernel) (pa_cons (pv 8) pa_nil)) pa_nil))
        (pa_cons (pe_call GH hr (by rfl) gH kH bH .nil pass0 (pa_cons (pv 9) (pa_cons (pv 1) pa_nil))) pa_nil))))))))))))), ?_⟩
    refine ⟨_, rfl, t, _, rfl, hT, rfl, _, _, rfl, _, _, rfl, _, _, rfl, _, _, rfl, _, _, rfl, _, _, rfl, rfl, ?_⟩
    have i1 : inV (.str sP) [.str sP] = true := by decide +kernel
    have i2 : inV (.str sK) [.str sK] = true := by decide +kernel
    refine ⟨_, rfl, _, rfl, pl, _, rfl, .inr hPl, rfl, rfl, _, rfl, ?_⟩
    refine if_f (by simp [i1]) ?_
    refine ⟨_, rfl, _, rfl, pl, _, rfl, .inr hPl, rfl, rfl, _, rfl, ?_⟩
    refine if_f (by simp [i1]) ?_
    refine ⟨_, rfl, _, _, rfl, rfl, _, rfl, if_t (by decide) ⟨_, _, rfl, rfl, _, rfl, ?_⟩⟩
    refine if_f (by decide) ?_
    refine ⟨_, rfl, u, rfl, ⟨_, hU⟩, for_list (K := K) (a := u) (xs := [.str sK]) (fun i σ H' => H' = H ∧ ∃ v, σ = [some (.ref t), some (.int d), some (.ref pl), some (.ref ki), some (.str nm), some (.str sP), some (.str sP), some (.int 1), some (.ref u), some .non, v])
      ⟨rfl, none, rfl⟩ (fun i σ H' _ ⟨e, _⟩ => by rw [e]; exact hU) ?_ ?_⟩
    · rintro i y σ H' hi ⟨rfl, v, rfl⟩
      have hy : y = .str sK := by
        cases i with
        | zero => simpa using hi.symm
        | succ i => simp at hi
      subst hy
      refine ⟨_, rfl, _, rfl, ki, _, rfl, .inr hKi, rfl, rfl, _, rfl, ?_⟩
      refine if_f (by simp [i2]) ⟨rfl, _, rfl⟩
    · rintro σ H' ⟨rfl, v, rfl⟩
      refine ⟨_, rfl, u, [sK], rfl, hU, by decide, ?_⟩
      refine ⟨_, rfl, _, rfl, _, rfl, _, rfl, _, rfl, u, [sK], rfl, hU, by decide, fun ys l hp hso hl => ⟨l, _, rfl, .inl ⟨SqL.of upd_same, fun q hq => ?_⟩⟩⟩
      have hy : ys = [sK] := perm_le1 (by decide) hp
      subst hy
      refine ⟨_, rfl, _, rfl, d, rfl, by show 6 ≤ sizeLine; decide, fun p hp2 => ?_⟩
      have gl := Grew.new hP (o := .lst ([sK].map V.str)) hl
      have gq := gl.put (o := .tup ([sK].map V.str)) hq
      have gp := gq.put (o := .tup (roadV nm q)) hp2
      exact k _ p q gp (gq.free hp2) (gl.free hq) upd_same (by rw [upd_ne (ne_of_none upd_same hp2)]; exact upd_same)
end
end W

set_option Elab.async false
set_option linter.all false
set_option maxRecDepth 100000
set_option maxHeartbeats 400000
namespace W
open PySem PySem.Spec PyProof.Rows L2 GxR MyG
theorem Paired.snoc {α β : Type} {F : α → β → Prop} {a : α} {b : β} : ∀ {l : List α} {m : List β}, Paired F l m → F a b → Paired F (l ++ [a]) (m ++ [b])
  | _, _, .nil, h => .cons h .nil
  | _, _, .cons r t, h => .cons r (Paired.snoc t h)
theorem Paired.len {α β : Type} {F : α → β → Prop} : ∀ {l : List α} {m : List β}, Paired F l m → l.length = m.length
  | _, _, .nil => rfl
  | _, _, .cons _ t => congrArg Nat.succ (Paired.len t)
/-- a road as the map keeps it, made since H0 -/
def Made (H0 H : Hp) (nm : Str) (v : V) : Prop := ∃ t q, v = .ref t ∧ H0 t = none ∧ H0 q = none ∧ H t = some (.tup (roadV nm q)) ∧ H q = some (.tup [.str sK])
theorem Made.grew {P : Addr} {H0 H H' : Hp} {nm : Str} {v : V} (g : Grew P H H') (h : TabG H P) (m : Made H0 H nm v) : Made H0 H' nm v := by
  obtain ⟨t, q, e, n1, n2, e1, e2⟩ := m
  exact ⟨t, q, e, n1, n2, g.tup h e1, g.tup h e2⟩
/-- a road as it is given: its tuple, its kinds' list, its name -/
def Given (K : PySem.W.Frag) (H : Hp) (nm : Str) (v : V) : Prop := ∃ t u, v = .ref t ∧ SqT K H t (roadV nm u) ∧ SqL K H u [.str sK]
theorem Given.grew {P : Addr} {K : PySem.W.Frag} {H H' : Hp} {nm : Str} {v : V} (g : Grew P H H') (h : TabG H P) (m : Given K H nm v) : Given K H' nm v := by
  obtain ⟨t, u, e, e1, e2⟩ := m
  exact ⟨t, u, e, g.sqT h e1, g.sqL h e2⟩
theorem Paired.at {α β : Type} {F : α → β → Prop} : ∀ {l : List α} {m : List β} {i : Nat} {b : β}, Paired F l m → m[i]? = some b → ∃ a, l[i]? = some a ∧ F a b
  | _, _, _, _, .nil, e => by simp at e
  | _, _, 0, _, .cons r _, e => ⟨_, rfl, by simp at e; subst e; exact r⟩
  | _, _, i + 1, _, .cons _ t, e => by
    obtain ⟨a, h1, h2⟩ := Paired.at (i := i) t (by simpa using e)
    exact ⟨a, by simpa using h1, h2⟩
theorem Paired.map' {α β : Type} {F G : α → β → Prop} : ∀ {l : List α} {m : List β}, Paired F l m → (∀ a b, F a b → G a b) → Paired G l m
  | _, _, .nil, _ => .nil
  | _, _, .cons r t, f => .cons (f _ _ r) (Paired.map' t f)
def spRoads (K : PySem.W.Frag) (C P : Addr) : Sp := fun vs H Q E => ∃ (a pl ki : Addr) (d : Int) (ns : List Str) (xs : List V), vs = [.ref a, .int d, .ref pl, .ref ki] ∧ SqL K H a xs ∧ Paired (Given K H) ns xs ∧ (ns ≠ [] → SqT K H pl [.str sP] ∧ SqT K H ki [.str sK]) ∧ TabG H P ∧
  ns.length ≤ 1 ∧ (∀ z ∈ ns, z.length ≤ 1000) ∧ (ns.all isNm = false → ∀ H', Grew P H H' → E (.ref C) none H') ∧
  (ns.all isNm = true → ∀ H' p ys, Grew P H H' → H p = none → H' p = some (.tup ys) → Paired (Made H H') ns ys → Q (.ref p) H')
section
variable {Pg : Program} {w : World} {K : PySem.W.Frag} {mg : Str → Option Value} {base : Heap} {C P : Addr}
theorem scRoads : FnScope ["roads", "day", "places", "kinds", "road", "kept"] ["roads", "day", "places", "kinds"] (defScope sRoads) := ⟨rfl, rfl, rfl, by decide +kernel, rfl, by decide +kernel, by decide +kernel⟩
theorem ok_roads {f fN fR : Addr} {fd fdN fdR : FuncData} {t1 t2 t3 : Tok} (F : Fun K "_checked_roads" "_checked_roads" sRoads f fd) (hl : mg "len" = none) (ht : mg "tuple" = none) (hs : mg "sorted" = none)
    (hp : mg "PARTS" = some (.int 6 t1)) (hn : mg "NAME" = some (.int 0 t2)) (hm : mg "MOST_ROADS" = some (.int 60 t3))
    (GN : FnOk Pg w K mg base (L2.CX Pg w) 3 fN fdN ["names", "least", "most"] (spNames K C P)) (gN : mg "_checked_names" = some (.ref fN)) (kN : PySem.W.keepIn K (.ref fN) = true) (bN : Binds K fdN ["names", "least", "most"] [])
    (GR : FnOk Pg w K mg base CX0 2 fR fdR ["road", "day", "places", "kinds"] (spRoad K P)) (gR : mg "_checked_road" = some (.ref fR)) (kR : PySem.W.keepIn K (.ref fR) = true) (bR : Binds K fdR ["road", "day", "places", "kinds"] []) :
    FnOk Pg w K mg base (L2.CX Pg w) 4 f fd ["roads", "day", "places", "kinds"] (spRoads K C P) := by
  refine F.okX scRoads (fun vs H Q E h => ?_) (fun cdv A outer s H vs Q E hr h => ?_)
  · obtain ⟨a, pl, ki, d, ns, xs, rfl, _⟩ := h
    rfl
  · obtain ⟨a, pl, ki, d, ns, xs, rfl, hS, hG, hPK, hP, h1, hz, kE, kQ⟩ := h
    have hr2 : Room 2 _ := hr.mono (by decide)
    refine ⟨_, pss_cons (ps_for (passes_of rfl) rfl (pi_list (pv 0)) (pg_name (i := 4) scRoads.nd rfl (Or.inl rfl)) (pss_one (ps_if (pt_cmpR op_ne (pe_callB call_len_seq (by rfl) hl PySem.boot_len (pa_cons (pv 4) pa_nil)) (pe_gI hp) (nomark _)) (pss_one ps_never) pss_nil)))
      (pss_cons (ps_expr (pe_call (E := E) GN hr (by rfl) gN kN bN .nil (passes_call (takes_of rfl rfl rfl rfl) (fun _ _ _ _ h => h)) (pa_cons (pe_lc (own := [("road", 4)]) (g := gName 4) (tt := tYes) rfl scRoads.nd (pi_list (pv 0)) (blkOk_by (N := ["roads", "day", "places", "kinds", "road", "kept"]) (sc := defScope sRoads) (by decide +kernel)) (fun _ _ _ _ _ => pg_name (i := 4) scRoads.nd rfl (Or.inl rfl)) (fun _ _ _ _ _ => pts_nil)
          (fun _ _ _ _ _ => pe_ix (r := rIxT K) ix_tup (pv 4) (pe_gI hn) (fun _ _ => rfl))) (pa_cons pe_int (pa_cons (pe_gI hm) pa_nil)))))
      (pss_cons (ps_setLc (i := 5) (own := [("road", 4)]) (g := gName 4) (tt := tYes) rfl scRoads.nd rfl rfl (sw_true rfl rfl rfl (by decide +kernel)) (pi_list (pv 0)) (blkOk_by (N := ["roads", "day", "places", "kinds", "road", "kept"]) (sc := defScope sRoads) (by decide +kernel)) (fun _ _ _ _ _ => pg_name (i := 4) scRoads.nd rfl (Or.inl rfl)) (fun _ _ _ _ _ => pts_nil)
          (fun _ _ _ _ _ => pe_call GR hr2 (by rfl) gR kR bR .nil pass0 (pa_cons (pv 4) (pa_cons (pv 1) (pa_cons (pv 2) (pa_cons (pv 3) pa_nil))))))
      (pss_one (ps_ret (pe_callTy call_tuple_of (by rfl) ht (by decide +kernel) (pa_cons (pe_callB cr_sorted1 (by rfl) hs (by decide +kernel) (pa_cons (pv 5) pa_nil)) pa_nil)))))), ?_⟩
    refine ⟨_, rfl, a, rfl, ⟨_, hS⟩, for_list (K := K) (a := a) (xs := xs) (fun i σ H' => H' = H ∧ ∃ v, σ = [some (.ref a), some (.int d), some (.ref pl), some (.ref ki), v, none])
      ⟨rfl, none, rfl⟩ (fun i σ H' _ ⟨e, _⟩ => by rw [e]; exact hS) ?_ ?_⟩
    · rintro i y σ H' hi ⟨rfl, v, rfl⟩
      obtain ⟨nm, hnm, t, u, rfl, hT, hU⟩ := Paired.at hG hi
      refine ⟨_, rfl, t, _, rfl, .inr hT, rfl, _, rfl, ?_⟩
      exact if_f (by rfl) ⟨rfl, _, rfl⟩
    · rintro σ H' ⟨rfl, v, rfl⟩
      have hln : ns.length = xs.length := Paired.len hG
      refine ⟨_, rfl, a, rfl, ⟨_, hS⟩, fun D nD => lc_list (K := K) (a := a) (xs := xs) (fun i H1 => Grew P H' H1 ∧ H1 D = some (.lst ((ns.take i).map V.str)))
        ⟨Grew.new hP nD, upd_same⟩ (fun i H1 _ p => p.1.sqL hP hS) (fun i x H1 hx p => ?_) (fun H1 p => ?_)⟩
      · obtain ⟨g, hD⟩ := p
        obtain ⟨nm, hnm, t, u, rfl, hT, hU⟩ := Paired.at hG hx
        refine ⟨rfl, _, rfl, t, _, 0, .str nm, rfl, rfl, g.sqT hP hT, atI_nat (j := 0) rfl, _, hD, ?_, ?_, ?_⟩
        · rw [List.length_map, List.length_take, sizeLine_eq]
          omega
        · exact g.write hD (fun _ z => by cases z) nD
        · rw [upd_same, List.take_succ, hnm, List.map_append]
          rfl
      · obtain ⟨g, hD⟩ := p
        rw [← hln, List.take_length] at hD
        refine ⟨D, ns, 0, 60, rfl, SqL.of hD, by omega, by omega, h1, hz, g.tab, fun hb H2 g2 => kE hb H2 (g.trans g2), fun hb H2 p2 g2 np e2 => ?_⟩
        have g3 := g.trans g2
        refine ⟨_, rfl, a, rfl, ⟨_, g3.sqL hP hS⟩, fun D2 nD2 => lc_list (K := K) (a := a) (xs := xs) (fun i H1 => Grew P H' H1 ∧ ∃ acc, H1 D2 = some (.lst acc) ∧ Paired (Made H' H1) (ns.take i) acc)
          ⟨g3.put nD2, [], upd_same, .nil⟩ (fun i H1 _ p => p.1.sqL hP hS) (fun i x H1 hx p => ?_) (fun H1 p => ?_)⟩
        · obtain ⟨g4, acc, hD4, hm4⟩ := p
          obtain ⟨nm, hnm, t, u, rfl, hT, hU⟩ := Paired.at hG hx
          have nD2' := g3.free nD2
          obtain ⟨hPl, hKi⟩ := hPK (fun e => by rw [e] at hnm; simp at hnm)
          refine ⟨rfl, _, rfl, _, rfl, _, rfl, _, rfl, t, u, pl, ki, d, nm, rfl, g4.sqT hP hT, g4.sqL hP hU, g4.sqT hP hPl, g4.sqT hP hKi, g4.tab, fun H5 p5 q5 g5 n5 m5 e5 f5 => ?_⟩
          have hD5 := g5.lst g4.tab hD4
          have g45 := g4.trans g5
          have ne1 : p5 ≠ D2 := fun z => by rw [z, hD4] at n5; cases n5
          have ne2 : q5 ≠ D2 := fun z => by rw [z, hD4] at m5; cases m5
          refine ⟨acc, hD5, ?_, g45.write hD5 (fun _ z => by cases z) nD2', acc ++ [.ref p5], upd_same, ?_⟩
          · rw [← Paired.len hm4, List.length_take, sizeLine_eq]
            omega
          · rw [List.take_succ, hnm]
            refine Paired.snoc (Paired.map' hm4 fun z v m => ?_) ⟨p5, q5, rfl, g4.free n5, g4.free m5, by rw [upd_ne ne1]; exact e5, by rw [upd_ne ne2]; exact f5⟩
            obtain ⟨t6, q6, e6, n6, m6, r6, s6⟩ := m
            have ne3 : t6 ≠ D2 := fun z => by rw [z, hD4] at r6; cases r6
            have ne4 : q6 ≠ D2 := fun z => by rw [z, hD4] at s6; cases s6
            exact ⟨t6, q6, e6, n6, m6, by rw [upd_ne ne3]; exact g5.tup g4.tab r6, by rw [upd_ne ne4]; exact g5.tup g4.tab s6⟩
        · obtain ⟨g4, acc, hD4, hm4⟩ := p
          rw [← hln, List.take_length] at hm4
          have hla : acc.length ≤ 1 := by rw [← Paired.len hm4]; exact h1
          refine ⟨_, rfl, D2, acc, rfl, SqL.of hD4, hla, fun l nl => ⟨l, acc, rfl, .inl ⟨SqL.of upd_same, fun p nq => ?_⟩⟩⟩
          have g6 := Grew.new g4.tab (o := .lst acc) nl
          have g7 := g6.put (o := .tup acc) nq
          refine kQ hb _ p acc (g4.trans g7) (g4.free (g6.free nq)) upd_same (Paired.map' hm4 fun z v m => m.grew g7 g4.tab)
end
end W

set_option Elab.async false
set_option linter.all false
set_option maxRecDepth 100000
set_option maxHeartbeats 400000
namespace W
open PySem PySem.Spec PyProof.Rows L2 GxR MyG
section
variable {X : Cx}
def rTupOf (K : PySem.W.Frag) : List V → Hp → VK → Prop := fun xs H Q => ∃ p ys, xs = [.ref p] ∧ ((SqL K H p ys ∧ ∀ l, H l = none → Q (.ref l) (upd H l (.tup ys))) ∨ (SqT K H p ys ∧ Q (.ref p) H))
theorem cr_tupOf : CallR X (.type "tuple") (rTupOf X.K) := call_tuple_of
end
def spBars (K : PySem.W.Frag) (P : Addr) : Sp := fun vs H Q _ => ∃ (b : Addr) (r : V), vs = [.ref b, r] ∧ SqT K H b [] ∧ TabG H P ∧ ∀ H' p, Grew P H H' → H p = none → H' p = some (.tup []) → Q (.ref p) H'
section
variable {Pg : Program} {w : World} {K : PySem.W.Frag} {mg : Str → Option Value} {base : Heap} {C P : Addr}
abbrev nBars : List Str := ["bars", "roads_by_name", "bar", "first", "second", "kept"]
theorem scBars : FnScope nBars ["bars", "roads_by_name"] (defScope sBars) := ⟨rfl, rfl, rfl, by decide +kernel, rfl, by decide +kernel, by decide +kernel⟩
theorem ok_bars {f fD : Addr} {fd fdD : FuncData} {t1 : Tok} (F : Fun K "_checked_bars" "_checked_bars" sBars f fd) (hl : mg "len" = none) (ht : mg "tuple" = none) (hs : mg "sorted" = none) (hm : mg "MOST_BARS" = some (.int 40 t1))
    (GD : FnOk Pg w K mg base CX0 1 fD fdD ["parts"] (spDiff K)) (gD : mg "_check_different" = some (.ref fD)) (kD : PySem.W.keepIn K (.ref fD) = true) (bD : Binds K fdD ["parts"] []) :
    FnOk Pg w K mg base CX0 2 f fd ["bars", "roads_by_name"] (spBars K P) := by
  refine F.ok scBars (fun vs H Q E h => ?_) (fun cdv A outer s H vs Q E hr h => ?_)
  · obtain ⟨b, r, rfl, _⟩ := h
    rfl
  · obtain ⟨b, r, rfl, hB, hP, k⟩ := h
    refine ⟨_, pss_cons (ps_if (pt_cmpR op_gt (pe_callB call_len_seq (by rfl) hl PySem.boot_len (pa_cons (pv 0) pa_nil)) (pe_gI hm) (nomark _)) (pss_one ps_never) pss_nil)
      (pss_cons (ps_for PassesOwn.never rfl (pi_tup (pv 0)) (pg_name (i := 2) scBars.nd rfl (Or.inl rfl)) pss_never)
      (pss_cons (ps_setLc (i := 5) (own := [("bar", 2)]) (g := gName 2) (tt := tYes) rfl scBars.nd rfl rfl (sw_true rfl rfl rfl (by decide +kernel)) (pi_tup (pv 0)) (blkOk_by (N := nBars) (sc := defScope sBars) (by decide +kernel)) (fun _ _ _ _ _ => pg_name (i := 2) scBars.nd rfl (Or.inl rfl)) (fun _ _ _ _ _ => pts_nil)
          (fun _ _ _ _ _ => pe_callTy (r := rTupOf K) cr_tupOf (by rfl) ht (by decide +kernel) (pa_cons (pv 2) pa_nil)))
      (pss_cons (ps_expr (pe_call GD hr (by rfl) gD kD bD .nil pass0 (pa_cons (pv 5) pa_nil)))
      (pss_one (ps_ret (pe_callTy call_tuple_of (by rfl) ht (by decide +kernel) (pa_cons (pe_callB cr_sorted1 (by rfl) hs (by decide +kernel) (pa_cons (pv 5) pa_nil)) pa_nil))))))), ?_⟩
    refine ⟨_, rfl, b, _, rfl, .inr hB, _, _, rfl, rfl, _, rfl, ?_⟩
    refine if_f (by decide) ?_
    refine ⟨_, rfl, b, rfl, ⟨_, hB⟩, for_tup (K := K) (a := b) (xs := []) (fun i σ H' => H' = H ∧ σ = [some (.ref b), some r, none, none, none, none])
      ⟨rfl, rfl⟩ (fun i σ H' _ ⟨e, _⟩ => by rw [e]; exact hB) (fun i y σ H' hi _ => by simp at hi) ?_⟩
    rintro σ H' ⟨rfl, rfl⟩
    refine ⟨_, rfl, b, rfl, ⟨_, hB⟩, fun D nD => lc_tup (K := K) (a := b) (xs := []) (fun i H1 => H1 = upd H' D (.lst []))
      rfl (fun i H1 _ e => by rw [e]; exact (Grew.new hP nD).sqT hP hB) (fun i x H1 hx _ => by simp at hx) (fun H1 e => ?_)⟩
    subst e
    have g := Grew.new hP nD (o := .lst [])
    refine ⟨_, rfl, D, [], rfl, SqL.of upd_same, by decide, ?_⟩
    refine ⟨_, rfl, D, [], rfl, SqL.of upd_same, by decide, fun l nl => ⟨l, [], rfl, .inl ⟨SqL.of upd_same, fun p np => ?_⟩⟩⟩
    exact k _ p ((g.put nl).put np) (g.free ((Grew.new g.tab nl).free np)) upd_same

/-! ### Map.__init__ -/
abbrev nInit : List Str := ["self", "day", "kinds", "places", "roads", "bars", "road", "bar"]
abbrev pInit : List Str := ["self", "day", "kinds", "places", "roads", "bars"]
def spInit (K : PySem.W.Frag) (C M P : Addr) : Sp := fun vs H Q E => ∃ (x dx ki pl ro ba : Addr) (d : Int) (ks ps ns : List Str) (xs : List V) (H0 : Hp), vs = [.ref x, .int d, .ref ki, .ref pl, .ref ro, .ref ba] ∧
  Grew P H0 H ∧ TabG H0 P ∧ H0 x = none ∧ H x = some (.ins M dx []) ∧ 1 ≤ d ∧ d ≤ 1440 ∧ SqL K H0 ki (ks.map V.str) ∧ SqL K H0 pl (ps.map V.str) ∧ SqL K H0 ro xs ∧ SqT K H0 ba [] ∧ Paired (Given K H0) ns xs ∧
  ks.length = 1 ∧ ps.length = 1 ∧ ns.length ≤ 1 ∧ (ns ≠ [] → ks = [sK] ∧ ps = [sP]) ∧ (∀ z ∈ ks ++ ps ++ ns, z.length ≤ 1000) ∧
  ((ks ++ ps ++ ns).all isNm = false → ∀ H', Grew P H0 H' → E (.ref C) none H') ∧
  ((ks ++ ps ++ ns).all isNm = true → ∀ H' k' p' r' fs ys, Grew P H0 H' → H' x = some (.ins M dx fs) → fs.lookup ("kinds" : Str) = some (V.ref k') → fs.lookup ("places" : Str) = some (V.ref p') → fs.lookup ("roads" : Str) = some (V.ref r') →
    H' k' = some (.tup (ks.map V.str)) → H' p' = some (.tup (ps.map V.str)) → H' r' = some (.tup ys) → ys.length = ns.length → Q .non H')
structure TxtM (K : PySem.W.Frag) (M : Addr) : Prop where
  cl : Cls K M
  n1 : NoAttr K M "day"
  n2 : NoAttr K M "kinds"
  n3 : NoAttr K M "places"
  n4 : NoAttr K M "roads"
  n5 : NoAttr K M "_roads_by_name"
  n6 : NoAttr K M "bars"
  n7 : NoAttr K M "_barred"
theorem scInit : FnScope nInit pInit (defScope sInit) := ⟨rfl, rfl, rfl, by decide +kernel, rfl, by decide +kernel, by decide +kernel⟩
theorem ok_init {f fY fN fR fB M : Addr} {fd fdY fdN fdR fdB : FuncData} {t1 t2 t3 : Tok} {dvs : List V} {kws : List (Str × V)} (F : FunD K "__init__" "Map.__init__" (defArgs sInit) (defBody sInit) (defScope sInit) dvs kws f fd) (T : TxtM K M)
    (hn : mg "NAME" = some (.int 0 t1)) (hk : mg "MOST_KINDS" = some (.int 4 t2)) (hp : mg "MOST_PLACES" = some (.int 30 t3))
    (GY : FnOk Pg w K mg base CX0 1 fY fdY ["day"] spDay) (gY : mg "_checked_day" = some (.ref fY)) (kY : PySem.W.keepIn K (.ref fY) = true) (bY : Binds K fdY ["day"] [])
    (GN : FnOk Pg w K mg base (L2.CX Pg w) 3 fN fdN ["names", "least", "most"] (spNames K C P)) (gN : mg "_checked_names" = some (.ref fN)) (kN : PySem.W.keepIn K (.ref fN) = true) (bN : Binds K fdN ["names", "least", "most"] [])
    (GR : FnOk Pg w K mg base (L2.CX Pg w) 4 fR fdR ["roads", "day", "places", "kinds"] (spRoads K C P)) (gR : mg "_checked_roads" = some (.ref fR)) (kR : PySem.W.keepIn K (.ref fR) = true) (bR : Binds K fdR ["roads", "day", "places", "kinds"] [])
    (GB : FnOk Pg w K mg base CX0 2 fB fdB ["bars", "roads_by_name"] (spBars K P)) (gB : mg "_checked_bars" = some (.ref fB)) (kB : PySem.W.keepIn K (.ref fB) = true) (bB : Binds K fdB ["bars", "roads_by_name"] []) :
    FnOk Pg w K mg base (L2.CX Pg w) 5 f fd pInit (spInit K C M P) := by
  refine F.ok scInit (fun vs H Q E h => ?_) (fun cdv A outer s H vs Q E hr h => ?_)
  · obtain ⟨x, dx, ki, pl, ro, ba, d, ks, ps, ns, xs, H0, rfl, _⟩ := h
    rfl
  · obtain ⟨x, dx, ki, pl, ro, ba, d, ks, ps, ns, xs, H0, rfl, g0, hP0, nx, hx, hd1, hd2, hKi, hPl, hRo, hBa, hG, lk, lp, ln, hPK, hz, kE, kQ⟩ := h
    have hr1 : Room 1 _ := hr.mono (by decide)
    have hr2 : Room 2 _ := hr.mono (by decide)
    have hr3 : Room 3 _ := hr.mono (by decide)
    refine ⟨_, pss_cons (ps_fld (pv 0) (pe_call GY hr1 (by rfl) gY kY bY .nil pass0 (pa_cons (pv 1) pa_nil)) rfl)
      (pss_cons (ps_fld (pv 0) (pe_call (E := E) GN hr3 (by rfl) gN kN bN .nil (passes_call (takes_of rfl rfl rfl rfl) (fun _ _ _ _ h => h)) (pa_cons (pv 2) (pa_cons pe_int (pa_cons (pe_gI hk) pa_nil)))) rfl)
      (pss_cons (ps_fld (pv 0) (pe_call (E := E) GN hr3 (by rfl) gN kN bN .nil (passes_call (takes_of rfl rfl rfl rfl) (fun _ _ _ _ h => h)) (pa_cons (pv 3) (pa_cons pe_int (pa_cons (pe_gI hp) pa_nil)))) rfl)
      (pss_cons (ps_fld (pv 0) (pe_call (E := E) GR hr (by rfl) gR kR bR .nil (passes_call (takes_of rfl rfl rfl rfl) (fun _ _ _ _ h => h)) (pa_cons (pv 4) (pa_cons (pv 1) (pa_cons (pe_fld (pv 0) rfl) (pa_cons (pe_fld (pv 0) rfl) pa_nil))))) rfl)
      (pss_cons (ps_fld (pv 0) (pe_dc (own := [("road", 6)]) (g := gName 6) (tt := tYes) rfl scInit.nd (pi_tup (pe_fld (pv 0) rfl)) (blkOk_by (N := nInit) (sc := defScope sInit) (by decide +kernel)) (fun _ _ _ _ _ => pg_name (i := 6) scInit.nd rfl (Or.inl rfl)) (fun _ _ _ _ _ => pts_nil)
          (fun _ _ _ _ _ => pe_ix (r := rIxT K) ix_tup (pv 6) (pe_gI hn) (fun _ _ => rfl)) (fun _ _ _ _ _ => pv 6)) rfl)
      (pss_cons (ps_fld (pv 0) (pe_call GB hr2 (by rfl) gB kB bB .nil pass0 (pa_cons (pv 5) (pa_cons (pe_fld (pv 0) rfl) pa_nil))) rfl)
      (pss_one (ps_fld (pv 0) (pe_dc (own := [("bar", 7)]) (g := gName 7) (tt := tYes) rfl scInit.nd (pi_tup (pe_fld (pv 0) rfl)) (blkOk_by (N := nInit) (sc := defScope sInit) (by decide +kernel)) (fun _ _ _ _ _ => pg_name (i := 7) scInit.nd rfl (Or.inl rfl)) (fun _ _ _ _ _ => pts_nil)
          (fun _ _ _ _ _ => pv 7) (fun _ _ _ _ _ => pe_bl)) rfl))))))), ?_⟩
    have nins : ∀ (fs : List (Str × V)) (q : Array Value), (HO.ins M dx fs) ≠ .tbl q := fun _ _ z => by cases z
    have le3 : ∀ {l : List Str} {z : Str}, z ∈ l → (∀ y ∈ ks ++ ps ++ ns, y.length ≤ 1000) → (l = ks ∨ l = ps ∨ l = ns) → z.length ≤ 1000 := fun hm ha e => ha _ (by rcases e with e | e | e <;> subst e <;> simp [hm])
    -- day
    refine ⟨_, rfl, d, rfl, hd1, hd2, _, rfl, x, M, dx, [], rfl, hx, T.cl, T.n1, by decide, ?_⟩
    have ga := g0.write (o := .ins M dx (putF "day" (.int d) [])) hx (nins _) nx
    have la : (putF ("day" : Str) (V.int d) []).length ≤ 1 := length_putF _ _ []
    -- kinds
    refine ⟨_, rfl, ki, ks, 1, 4, rfl, ga.sqL hP0 hKi, by omega, by omega, by omega, fun z hm => le3 hm hz (.inl rfl), ga.tab, fun hb H' g' => kE (by simp [hb]) H' (ga.trans g'), fun hb1 Hb kk gb nk ek => ?_⟩
    have xb := gb.get ga.tab upd_same (nins _)
    refine ⟨_, rfl, x, M, dx, _, rfl, xb, T.cl, T.n2, by omega, ?_⟩
    have gc := (ga.trans gb).write (o := .ins M dx (putF "kinds" (.ref kk) (putF "day" (.int d) []))) xb (nins _) nx
    have lc := length_putF ("kinds" : Str) (V.ref kk) (putF ("day" : Str) (V.int d) [])
    have nkx : kk ≠ x := fun z => by rw [z, xb] at ek; cases ek
    -- places
    refine ⟨_, rfl, pl, ps, 0, 30, rfl, gc.sqL hP0 hPl, by omega, by omega, by omega, fun z hm => le3 hm hz (.inr (.inl rfl)), gc.tab, fun hb H' g' => kE (by simp [hb]) H' (gc.trans g'), fun hb2 Hd pp gd np ep => ?_⟩
    have xd := gd.get gc.tab upd_same (nins _)
    refine ⟨_, rfl, x, M, dx, _, rfl, xd, T.cl, T.n3, by omega, ?_⟩
    have ge := (gc.trans gd).write (o := .ins M dx (putF "places" (.ref pp) (putF "kinds" (.ref kk) (putF "day" (.int d) [])))) xd (nins _) nx
    have le := length_putF ("places" : Str) (V.ref pp) (putF ("kinds" : Str) (V.ref kk) (putF ("day" : Str) (V.int d) []))
    have npx : pp ≠ x := fun z => by rw [z, xd] at ep; cases ep
    generalize hfs : putF ("places" : Str) (V.ref pp) (putF ("kinds" : Str) (V.ref kk) (putF ("day" : Str) (V.int d) [])) = fs at ge le ⊢
    have f1 : fs.lookup ("places" : Str) = some (V.ref pp) := by rw [← hfs, lookup_putF, if_pos rfl]
    have f2 : fs.lookup ("kinds" : Str) = some (V.ref kk) := by rw [← hfs, lookup_putF, if_neg (by decide +kernel), lookup_putF, if_pos rfl]
    have tk : L2.upd Hd x (HO.ins M dx fs) kk = some (.tup (ks.map V.str)) := by
      rw [upd_ne nkx]
      exact gd.tup gc.tab (by rw [upd_ne nkx]; exact ek)
    have tp : L2.upd Hd x (HO.ins M dx fs) pp = some (.tup (ps.map V.str)) := by
      rw [upd_ne npx]; exact ep
    -- roads
    have hG2 : Paired (Given K (L2.upd Hd x (HO.ins M dx fs))) ns xs := Paired.map' hG fun a b m => m.grew ge hP0
    refine ⟨_, rfl, _, rfl, _, rfl, x, M, dx, _, _, rfl, upd_same, T.cl, T.n3, f1, _, rfl, x, M, dx, _, _, rfl, upd_same, T.cl, T.n2, f2,
      ro, pp, kk, d, ns, xs, rfl, ge.sqL hP0 hRo, hG2, fun hne => ?_, ge.tab, ln, fun z hm => le3 hm hz (.inr (.inr rfl)), fun hb H' g' => kE (by simp [hb]) H' (ge.trans g'), fun hb3 Hf rr ys gf nr er hm => ?_⟩
    · obtain ⟨e1, e2⟩ := hPK hne
      rw [e1] at tk
      rw [e2] at tp
      exact ⟨SqT.of tp, SqT.of tk⟩
    have xf := gf.get ge.tab upd_same (nins _)
    refine ⟨_, rfl, x, M, dx, _, rfl, xf, T.cl, T.n4, by omega, ?_⟩
    have gg := (ge.trans gf).write (o := .ins M dx (putF "roads" (.ref rr) fs)) xf (nins _) nx
    have lg := length_putF ("roads" : Str) (V.ref rr) fs
    have nrx : rr ≠ x := fun z => by rw [z, xf] at er; cases er
    have f3 : (putF ("roads" : Str) (V.ref rr) fs).lookup ("roads" : Str) = some (V.ref rr) := by rw [lookup_putF, if_pos rfl]
    have f4 : (putF ("roads" : Str) (V.ref rr) fs).lookup ("places" : Str) = some (V.ref pp) := by rw [lookup_putF, if_neg (by decide +kernel)]; exact f1
    have f5 : (putF ("roads" : Str) (V.ref rr) fs).lookup ("kinds" : Str) = some (V.ref kk) := by rw [lookup_putF, if_neg (by decide +kernel)]; exact f2
    -- _roads_by_name
    generalize hgs : putF ("roads" : Str) (V.ref rr) fs = gs at gg lg f3 f4 f5 ⊢
    have tr : L2.upd Hf x (HO.ins M dx gs) rr = some (.tup ys) := by rw [upd_ne nrx]; exact er
    have tk2 : L2.upd Hf x (HO.ins M dx gs) kk = some (.tup (ks.map V.str)) := by rw [upd_ne nkx]; exact gf.tup ge.tab tk
    have tp2 : L2.upd Hf x (HO.ins M dx gs) pp = some (.tup (ps.map V.str)) := by rw [upd_ne npx]; exact gf.tup ge.tab tp
    have lys : ys.length = ns.length := (Paired.len hm).symm
    have hm2 : ∀ (i : Nat) (y : V), ys[i]? = some y → ∃ t nm q, y = V.ref t ∧ L2.upd Hf x (HO.ins M dx gs) t = some (.tup (roadV nm q)) := fun i y hy => by
      obtain ⟨nm, _, t, q, e, _, _, e1, _⟩ := Paired.at hm hy
      refine ⟨t, nm, q, e, ?_⟩
      rw [upd_ne (fun z => by rw [z, xf] at e1; cases e1)]
      exact e1
    refine ⟨_, rfl, x, M, dx, _, _, rfl, upd_same, T.cl, T.n4, f3, rr, rfl, ⟨_, SqT.of tr⟩, fun D nD => dc_tup (K := K) (a := rr) (xs := ys) (fun i H1 => Grew P (L2.upd Hf x (HO.ins M dx gs)) H1 ∧ ∃ kvs, H1 D = some (.dK kvs) ∧ kvs.length ≤ i)
      ⟨Grew.new gg.tab nD, [], upd_same, Nat.le_refl _⟩ (fun i H1 _ p => SqT.of (p.1.tup gg.tab tr)) (fun i y H1 hy p => ?_) (fun Hh p => ?_)⟩
    · obtain ⟨g, kvs, hD, hl⟩ := p
      obtain ⟨t, nm, q, rfl, et⟩ := hm2 i y hy
      have hi : i < ys.length := (List.getElem?_eq_some_iff.mp hy).1
      refine ⟨rfl, _, rfl, t, _, 0, .str nm, rfl, rfl, SqT.of (g.tup gg.tab et), atI_nat (j := 0) rfl, _, rfl, kvs, .inr nm, rfl, hD, ?_, g.write hD (fun _ z => by cases z) nD, _, upd_same, ?_⟩
      · rw [sizeLine_eq]; omega
      · exact Nat.le_trans (length_putK kvs (.inr nm) _) (by omega)
    · obtain ⟨gh, kvs, hD, hl⟩ := p
      have xh := gh.get gg.tab upd_same (nins _)
      refine ⟨_, rfl, x, M, dx, _, rfl, xh, T.cl, T.n5, by omega, ?_⟩
      have gi := (gg.trans gh).write (o := .ins M dx (putF "_roads_by_name" (.ref D) gs)) xh (nins _) nx
      have li := length_putF ("_roads_by_name" : Str) (V.ref D) gs
      have f6 : (putF ("_roads_by_name" : Str) (V.ref D) gs).lookup ("_roads_by_name" : Str) = some (V.ref D) := by rw [lookup_putF, if_pos rfl]
      have f7 : (putF ("_roads_by_name" : Str) (V.ref D) gs).lookup ("places" : Str) = some (V.ref pp) := by rw [lookup_putF, if_neg (by decide +kernel)]; exact f4
      have f8 : (putF ("_roads_by_name" : Str) (V.ref D) gs).lookup ("kinds" : Str) = some (V.ref kk) := by rw [lookup_putF, if_neg (by decide +kernel)]; exact f5
      have f9 : (putF ("_roads_by_name" : Str) (V.ref D) gs).lookup ("roads" : Str) = some (V.ref rr) := by rw [lookup_putF, if_neg (by decide +kernel)]; exact f3
      generalize his : putF ("_roads_by_name" : Str) (V.ref D) gs = is at gi li f6 f7 f8 f9 ⊢
      have ov : ∀ {a : Addr} {l : List V}, L2.upd Hf x (HO.ins M dx gs) a = some (.tup l) → L2.upd Hh x (HO.ins M dx is) a = some (.tup l) := fun {a l} e => by
        have e2 := gh.tup gg.tab e
        rw [upd_ne (fun z => by rw [z, xh] at e2; cases e2)]
        exact e2
      -- bars
      refine ⟨_, rfl, _, rfl, x, M, dx, _, _, rfl, upd_same, T.cl, T.n5, f6, ba, V.ref D, rfl, gi.sqT hP0 hBa, gi.tab, fun Hj bb gj nb eb => ?_⟩
      have xj := gj.get gi.tab upd_same (nins _)
      refine ⟨_, rfl, x, M, dx, _, rfl, xj, T.cl, T.n6, by omega, ?_⟩
      have gk := (gi.trans gj).write (o := .ins M dx (putF "bars" (.ref bb) is)) xj (nins _) nx
      have lk := length_putF ("bars" : Str) (V.ref bb) is
      have fa : (putF ("bars" : Str) (V.ref bb) is).lookup ("bars" : Str) = some (V.ref bb) := by rw [lookup_putF, if_pos rfl]
      have fb : (putF ("bars" : Str) (V.ref bb) is).lookup ("places" : Str) = some (V.ref pp) := by rw [lookup_putF, if_neg (by decide +kernel)]; exact f7
      have fc : (putF ("bars" : Str) (V.ref bb) is).lookup ("kinds" : Str) = some (V.ref kk) := by rw [lookup_putF, if_neg (by decide +kernel)]; exact f8
      have fd' : (putF ("bars" : Str) (V.ref bb) is).lookup ("roads" : Str) = some (V.ref rr) := by rw [lookup_putF, if_neg (by decide +kernel)]; exact f9
      generalize hjs : putF ("bars" : Str) (V.ref bb) is = js at gk lk fa fb fc fd' ⊢
      have ov2 : ∀ {a : Addr} {l : List V}, L2.upd Hf x (HO.ins M dx gs) a = some (.tup l) → L2.upd Hj x (HO.ins M dx js) a = some (.tup l) := fun {a l} e => by
        have e2 := gj.tup gi.tab (ov e)
        rw [upd_ne (fun z => by rw [z, xj] at e2; cases e2)]
        exact e2
      have tb : L2.upd Hj x (HO.ins M dx js) bb = some (.tup []) := by
        rw [upd_ne (fun z => by rw [z, xj] at eb; cases eb)]
        exact eb
      -- _barred
      refine ⟨_, rfl, x, M, dx, _, _, rfl, upd_same, T.cl, T.n6, fa, bb, rfl, ⟨_, SqT.of tb⟩, fun D2 nD2 => dc_tup (K := K) (a := bb) (xs := []) (fun i H1 => H1 = L2.upd (L2.upd Hj x (HO.ins M dx js)) D2 (.dK []))
        rfl (fun i H1 _ e => by rw [e]; exact SqT.of ((Grew.new gk.tab nD2).tup gk.tab tb)) (fun i y H1 hy _ => by simp at hy) (fun Hl e => ?_)⟩
      subst e
      have gl := Grew.new gk.tab nD2 (o := .dK [])
      have xl := gl.get gk.tab upd_same (nins _)
      refine ⟨_, rfl, x, M, dx, _, rfl, xl, T.cl, T.n7, by omega, ?_⟩
      have gm := (gk.trans gl).write (o := .ins M dx (putF "_barred" (.ref D2) js)) xl (nins _) nx
      have ov3 : ∀ {a : Addr} {l : List V}, L2.upd Hf x (HO.ins M dx gs) a = some (.tup l) → L2.upd (L2.upd (L2.upd Hj x (HO.ins M dx js)) D2 (.dK [])) x (.ins M dx (putF "_barred" (.ref D2) js)) a = some (.tup l) := fun {a l} e => by
        have e2 := gl.tup gk.tab (ov2 e)
        rw [upd_ne (fun z => by rw [z, xl] at e2; cases e2)]
        exact e2
      refine kQ (by simp only [List.all_append, hb1, hb2, hb3]; rfl) _ kk pp rr (putF "_barred" (.ref D2) js) ys gm upd_same ?_ ?_ ?_ (ov3 tk2) (ov3 tp2) (ov3 tr) lys
      · rw [lookup_putF, if_neg (by decide +kernel)]; exact fc
      · rw [lookup_putF, if_neg (by decide +kernel)]; exact fb
      · rw [lookup_putF, if_neg (by decide +kernel)]; exact fd'
end
end W

set_option Elab.async false
set_option linter.all false
set_option maxRecDepth 100000
set_option maxHeartbeats 400000
namespace W
open PySem PySem.Spec PyProof.Rows L2 GxR MyG
abbrev sRow : Stmt := top 30
abbrev sNumbers : Stmt := top 31
/-- the drawn numbers are small -/
def Sm (ns : List Int) : Prop := ∀ n ∈ ns, 0 ≤ n ∧ n < 1009
theorem Sm.snoc {ns : List Int} {n : Int} (h : Sm ns) (h1 : 0 ≤ n) (h2 : n < 1009) : Sm (ns ++ [n]) := fun z hz => by
  rcases List.mem_append.mp hz with hz | hz
  · exact h z hz
  · rw [List.mem_singleton.mp hz]; exact ⟨h1, h2⟩
theorem mod1009 (a : Int) : 0 ≤ a % 1009 ∧ a % 1009 < 1009 := by omega
def spRow (P : Addr) : Sp := fun vs H Q _ => ∃ (c : Int) (m : Nat), vs = [.int c, .int m] ∧ m ≤ 1000 ∧ TabG H P ∧ ∀ H' p ns, Grew P H H' → H p = none → H' p = some (.lst (ns.map V.int)) → ns.length = m → Sm ns → Q (.ref p) H'
def spNumbers (K : PySem.W.Frag) (P : Addr) : Sp := fun vs H Q _ => ∃ (a : Addr) (zs : List Int) (m : Nat), vs = [.ref a, .int m] ∧ SqL K H a (zs.map V.int) ∧ zs.length ≤ 63 ∧ m ≤ 900 ∧ TabG H P ∧
  ∀ H' p ns, Grew P H H' → H p = none → H' p = some (.lst (ns.map V.int)) → ns.length = m → Sm ns → Q (.ref p) H'
section
variable {Pg : Program} {w : World} {K : PySem.W.Frag} {mg : Str → Option Value} {base : Heap} {C P : Addr}
abbrev nRow : List Str := ["cell", "many", "row", "rest", "mixed", "k"]
theorem scRow : FnScope nRow ["cell", "many"] (defScope sRow) := ⟨rfl, rfl, rfl, by decide +kernel, rfl, by decide +kernel, by decide +kernel⟩
theorem ok_row {f : Addr} {fd : FuncData} (F : Fun K "_law_row" "_law_row" sRow f fd) (ha : mg "abs" = none) (hi : mg "int" = none) (hr' : mg "range" = none) : FnOk Pg w K mg base CX0 1 f fd ["cell", "many"] (spRow P) := by
  refine F.ok scRow (fun vs H Q E h => ?_) (fun cdv A outer s H vs Q E hr h => ?_)
  · obtain ⟨c, m, rfl, _⟩ := h
    rfl
  · obtain ⟨c, m, rfl, hm, hP, k⟩ := h
    refine ⟨_, pss_cons (ps_set (i := 2) scRow.nd rfl (Or.inl rfl) (pe_lst pa_nil))
      (pss_cons (ps_set (i := 3) scRow.nd rfl (Or.inl rfl) (pe_callB call_abs (by rfl) ha (by decide +kernel) (pa_cons (pv 0) pa_nil)))
      (pss_cons (ps_set (i := 4) scRow.nd rfl (Or.inl rfl) (pe_op op_mod (pe_callTy call_int1 (by rfl) hi (by decide +kernel) (pa_cons (pe_op op_add (pe_op op_mul (pv 3) pe_int) pe_int) pa_nil)) pe_int))
      (pss_cons (ps_for PassesOwn.never rfl (pi_range1 rfl hr' (pa_cons (pv 1) pa_nil)) (pg_name (i := 5) scRow.nd rfl (Or.inl rfl))
        (pss_cons (ps_set (i := 4) scRow.nd rfl (Or.inl rfl) (pe_op op_mod (pe_callTy call_int1 (by rfl) hi (by decide +kernel) (pa_cons (pe_op op_add (pe_op op_mul (pv 4) pe_int) (pe_op op_mul pe_int (pe_op op_add (pv 5) pe_int))) pa_nil)) pe_int))
        (pss_one (ps_if (pt_cmpR op_ge (pe_callB call_abs (by rfl) ha (by decide +kernel) (pa_cons (pv 0) pa_nil)) (pe_op op_pow pe_int pe_int) (nomark _))
          (pss_cons (ps_expr (pe_bm PySem.F.plainAttrs_list PySem.F.slot_list_append PySem.F.type_list_append mt_append (pv 2) (pa_cons (pe_op op_mod (pe_callTy call_int1 (by rfl) hi (by decide +kernel) (pa_cons (pv 3) pa_nil)) pe_int) pa_nil)))
            (pss_one (ps_set (i := 3) scRow.nd rfl (Or.inl rfl) (pe_op op_fdiv (pv 3) pe_int))))
          (pss_one (ps_expr (pe_bm PySem.F.plainAttrs_list PySem.F.slot_list_append PySem.F.type_list_append mt_append (pv 2) (pa_cons (pe_op op_mod (pe_callTy call_int1 (by rfl) hi (by decide +kernel) (pa_cons (pe_op op_fdiv (pv 4) pe_int) pa_nil)) pe_int) pa_nil))))))))
      (pss_one (ps_ret (pv 2)))))), ?_⟩
    refine ⟨Nat.zero_le _, fun p np => ?_⟩
    refine ⟨_, rfl, _, rfl, ?_⟩
    refine ⟨_, rfl, _, _, rfl, rfl, .inr ⟨by decide, by decide⟩, _, _, rfl, rfl, .inl ⟨_, rfl, _, _, rfl, rfl, (show (0 : Int) < 2147483647 by decide), ?_⟩⟩
    refine ⟨_, rfl, m, rfl, by omega, by omega, for_range (n := m) (fun i σ H' => ∃ r mx kv, ∃ ns : List Int, σ = [some (.int c), some (.int m), some (.ref p), some (.int r), some (.int mx), kv] ∧ Grew P H H' ∧ H' p = some (.lst (ns.map V.int)) ∧ ns.length = i ∧ Sm ns)
      ⟨_, _, none, [], rfl, Grew.new hP np, upd_same, rfl, fun n hn => by cases hn⟩ ?_ ?_⟩
    · rintro i σ H' hi ⟨r, mx, kv, ns, rfl, g, hp, hl, hsm⟩
      refine ⟨_, rfl, _, _, rfl, rfl, .inr ⟨by decide, by decide⟩, _, rfl, _, _, rfl, rfl, _, _, rfl, rfl, .inl ⟨by decide, by decide⟩, _, _, rfl, rfl, .inl ⟨_, rfl, _, _, rfl, rfl, (show (0 : Int) < 2147483629 by decide), ?_⟩⟩
      refine ⟨_, rfl, _, rfl, _, _, rfl, rfl, ⟨by decide, by decide, by decide⟩, _, _, rfl, rfl, _, rfl, ?_⟩
      have hlen : (ns.map V.int).length < sizeLine := by rw [List.length_map, hl, sizeLine_eq]; omega
      refine ite2 (fun _ => ?_) (fun _ => ?_)
      · refine ⟨_, rfl, .inl ⟨rfl, _, SqL.of hp⟩, _, rfl, .inl ⟨_, rfl, _, _, rfl, rfl, (show (0 : Int) < 1009 by decide), p, _, _, rfl, rfl, hp, hlen, ?_⟩⟩
        refine ⟨_, rfl, _, _, rfl, rfl, ⟨by decide, by decide⟩, _, _, _, ns ++ [_], rfl, g.write hp (fun _ z => by cases z) np, by rw [upd_same, List.map_append]; rfl, by rw [List.length_append, hl]; rfl, hsm.snoc (mod1009 _).1 (mod1009 _).2⟩
      · refine ⟨_, rfl, .inl ⟨rfl, _, SqL.of hp⟩, _, rfl, _, _, rfl, rfl, ⟨by decide, by decide⟩, .inl ⟨_, rfl, _, _, rfl, rfl, (show (0 : Int) < 1009 by decide), p, _, _, rfl, rfl, hp, hlen, ?_⟩⟩
        refine ⟨_, _, _, ns ++ [_], rfl, g.write hp (fun _ z => by cases z) np, by rw [upd_same, List.map_append]; rfl, by rw [List.length_append, hl]; rfl, hsm.snoc (mod1009 _).1 (mod1009 _).2⟩
    · rintro σ H' ⟨r, mx, kv, ns, rfl, g, hp, hl, hsm⟩
      exact ⟨_, rfl, k H' p ns g np hp hl hsm⟩
end
end W

set_option Elab.async false
set_option linter.all false
set_option maxRecDepth 100000
set_option maxHeartbeats 400000
namespace W
open PySem PySem.Spec PyProof.Rows L2 GxR MyG
theorem cutV_pre (xs : List V) (n : Nat) : cutV xs none (some (n : Int)) = xs.take n := by
  unfold cutV
  rw [HT.sIx_none, HT.sIx_nat, List.drop_zero, Nat.sub_zero]
  rcases Nat.le_total n xs.length with h | h
  · rw [Nat.min_eq_left h]
  · rw [Nat.min_eq_right h, List.take_length, List.take_of_length_le h]
theorem Sm.take {ns : List Int} (h : Sm ns) (k : Nat) : Sm (ns.take k) := fun z hz => h z (List.mem_of_mem_take hz)
theorem Sm.app {ns ms : List Int} (h : Sm ns) (h2 : Sm ms) : Sm (ns ++ ms) := fun z hz => by
  rcases List.mem_append.mp hz with hz | hz
  · exact h z hz
  · exact h2 z hz
section
variable {Pg : Program} {w : World} {K : PySem.W.Frag} {mg : Str → Option Value} {base : Heap} {C P : Addr}
abbrev nNumbers : List Str := ["script", "many", "cells", "each", "numbers", "cell", "number"]
theorem scNumbers : FnScope nNumbers ["script", "many"] (defScope sNumbers) := ⟨rfl, rfl, rfl, by decide +kernel, rfl, by decide +kernel, by decide +kernel⟩
theorem ok_numbers {f fR : Addr} {fd fdR : FuncData} (F : Fun K "_law_numbers" "_law_numbers" sNumbers f fd) (hl : mg "len" = none) (hx : mg "max" = none)
    (GR : FnOk Pg w K mg base CX0 1 fR fdR ["cell", "many"] (spRow P)) (gR : mg "_law_row" = some (.ref fR)) (kR : PySem.W.keepIn K (.ref fR) = true) (bR : Binds K fdR ["cell", "many"] []) :
    FnOk Pg w K mg base CX0 2 f fd ["script", "many"] (spNumbers K P) := by
  refine F.ok scNumbers (fun vs H Q E h => ?_) (fun cdv A outer s H vs Q E hr h => ?_)
  · obtain ⟨a, zs, m, rfl, _⟩ := h
    rfl
  · obtain ⟨a, zs, m, rfl, hS, hz, hm, hP, k⟩ := h
    refine ⟨_, pss_cons (ps_set (i := 2) scNumbers.nd rfl (Or.inl rfl) (pe_slice sl_list (pv 0) po_none (po_some pe_int)))
      (pss_cons (ps_set (i := 3) scNumbers.nd rfl (Or.inl rfl) (pe_op op_add pe_int (pe_op op_fdiv (pv 1) (pe_callB (call_max2 rfl) (by rfl) hx (by decide +kernel) (pa_cons pe_int (pa_cons (pe_callB call_len_seq (by rfl) hl PySem.boot_len (pa_cons (pv 2) pa_nil)) pa_nil))))))
      (pss_cons (ps_set (i := 4) scNumbers.nd rfl (Or.inl rfl) (pe_lst pa_nil))
      (pss_cons (ps_for PassesOwn.never rfl (pi_list (pv 2)) (pg_name (i := 5) scNumbers.nd rfl (Or.inl rfl))
        (pss_one (ps_for PassesOwn.never rfl (pi_list (pe_call GR hr (by rfl) gR kR bR .nil pass0 (pa_cons (pv 5) (pa_cons (pv 3) pa_nil)))) (pg_name (i := 6) scNumbers.nd rfl (Or.inl rfl))
          (pss_one (ps_expr (pe_bm PySem.F.plainAttrs_list PySem.F.slot_list_append PySem.F.type_list_append mt_append (pv 4) (pa_cons (pv 6) pa_nil)))))))
      (pss_cons (ps_while PassesOwn.never (pt_cmpR op_lt (pe_callB call_len_seq (by rfl) hl PySem.boot_len (pa_cons (pv 4) pa_nil)) (pv 1) (nomark _))
          (pss_one (ps_expr (pe_bm PySem.F.plainAttrs_list PySem.F.slot_list_append PySem.F.type_list_append mt_append (pv 4) (pa_cons pe_int pa_nil)))))
      (pss_one (ps_ret (pe_slice sl_list (pv 4) po_none (po_some (pv 1))))))))), ?_⟩
    -- cells
    refine ⟨_, rfl, _, rfl, a, _, rfl, hS, fun c nc => ?_⟩
    have ec : cutV (zs.map V.int) none (some 63) = zs.map V.int := by
      have q := cutV_pre (zs.map V.int) 63
      rw [List.take_of_length_le (by rw [List.length_map]; exact hz)] at q
      exact q
    rw [ec]
    have g1 := Grew.new hP (o := .lst (zs.map V.int)) nc
    -- each
    refine ⟨_, rfl, _, rfl, c, _, rfl, .inl (SqL.of upd_same), 1, _, rfl, _, _, rfl, rfl, ?_, _, _, rfl, rfl, ?_⟩
    · rw [List.length_map]
      constructor
      · split <;> omega
      · split <;> omega
    rw [List.length_map]
    generalize hdv : (if ((zs.length : Nat) : Int) > 1 then ((zs.length : Nat) : Int) else 1) = dv
    have hdp : 0 < dv := by rw [← hdv]; split <;> omega
    obtain ⟨e, he, he2⟩ : ∃ e : Nat, 1 + (m : Int) / dv = (e : Int) ∧ e ≤ 1000 := by
      have h1 : 0 ≤ (m : Int) / dv := Int.ediv_nonneg (by omega) (by omega)
      have h2 : (m : Int) / dv ≤ m := Int.ediv_le_self _ (by omega)
      exact ⟨(1 + (m : Int) / dv).toNat, by omega, by omega⟩
    refine ⟨Nat.zero_le _, fun p np => ?_⟩
    have g2 := g1.put (o := .lst []) np
    have hc : L2.upd (L2.upd H c (.lst (zs.map V.int))) p (.lst []) c = some (.lst (zs.map V.int)) := (Grew.new g1.tab np).lst g1.tab upd_same
    have ncp : c ≠ p := ne_of_none upd_same np
    refine ⟨_, rfl, c, rfl, ⟨_, SqL.of hc⟩, for_list (K := K) (a := c) (xs := zs.map V.int) (fun i σ H' => ∃ v5 v6, ∃ ns : List Int, σ = [some (.ref a), some (.int m), some (.ref c), some (.int (1 + (m : Int) / dv)), some (.ref p), v5, v6] ∧ Grew P H H' ∧ H' c = some (.lst (zs.map V.int)) ∧ H' p = some (.lst (ns.map V.int)) ∧ ns.length ≤ 1000 * i ∧ Sm ns)
      ⟨none, none, [], rfl, g2, hc, upd_same, Nat.zero_le _, fun n hn => by cases hn⟩ (fun i σ H' _ ⟨_, _, _, _, _, h, _⟩ => SqL.of h) ?_ ?_⟩
    · rintro i y σ H' hi ⟨v5, v6, ns, rfl, g, hcc, hp, hln, hsm⟩
      obtain ⟨z, rfl⟩ : ∃ z, y = V.int z := by
        rw [List.getElem?_map] at hi
        cases q : zs[i]? with
        | none => rw [q] at hi; cases hi
        | some z => rw [q] at hi; exact ⟨z, (Option.some.inj hi).symm⟩
      have hi63 : i < 63 := by
        have q := (List.getElem?_eq_some_iff.mp hi).1
        rw [List.length_map] at q
        omega
      refine ⟨_, rfl, _, rfl, z, e, by rw [he]; rfl, he2, g.tab, fun H2 q rs gr nq eq hrl hrs => ?_⟩
      have np2 : p ≠ q := ne_of_none hp nq
      have np0 : H p = none := (Grew.new hP nc).free np
      refine ⟨q, rfl, ⟨_, SqL.of eq⟩, for_list (K := K) (a := q) (xs := rs.map V.int) (fun j σ H' => ∃ v5 v6, σ = [some (.ref a), some (.int m), some (.ref c), some (.int (1 + (m : Int) / dv)), some (.ref p), v5, v6] ∧ Grew P H H' ∧ H' c = some (.lst (zs.map V.int)) ∧ H' q = some (.lst (rs.map V.int)) ∧ H' p = some (.lst ((ns ++ rs.take j).map V.int)))
        ⟨_, _, rfl, g.trans gr, gr.lst g.tab hcc, eq, by rw [List.take_zero, List.append_nil]; exact gr.lst g.tab hp⟩ (fun j σ H' _ ⟨_, _, _, _, _, h, _⟩ => SqL.of h) ?_ ?_⟩
      · rintro j y σ H3 hj ⟨w5, w6, rfl, g3, hc3, hq3, hp3⟩
        obtain ⟨z2, hz2, rfl⟩ : ∃ z, rs[j]? = some z ∧ y = V.int z := by
          rw [List.getElem?_map] at hj
          cases q : rs[j]? with
          | none => rw [q] at hj; cases hj
          | some z => rw [q] at hj; exact ⟨z, rfl, (Option.some.inj hj).symm⟩
        refine ⟨_, rfl, .inl ⟨rfl, _, SqL.of hp3⟩, _, rfl, p, _, _, rfl, rfl, hp3, ?_, _, _, rfl, g3.write hp3 (fun _ z => by cases z) np0, ?_, ?_, ?_⟩
        · rw [List.length_map, List.length_append, List.length_take, sizeLine_eq]; omega
        · rw [upd_ne ncp]; exact hc3
        · rw [upd_ne np2.symm]; exact hq3
        · rw [upd_same, List.take_succ, hz2]; simp
      · rintro σ H3 ⟨w5, w6, rfl, g3, hc3, hq3, hp3⟩
        rw [List.length_map, List.take_length] at hp3
        exact ⟨_, _, ns ++ rs, rfl, g3, hc3, hp3, by rw [List.length_append]; omega, hsm.app hrs⟩
    · rintro σ H' ⟨v5, v6, ns, rfl, g, hcc, hp, hln, hsm⟩
      rw [List.length_map] at hln
      have np0 : H p = none := (Grew.new hP nc).free np
      refine ⟨fun n σ H' => ∃ ns : List Int, σ = [some (.ref a), some (.int m), some (.ref c), some (.int (1 + (m : Int) / dv)), some (.ref p), v5, v6] ∧ Grew P H H' ∧ H' p = some (.lst (ns.map V.int)) ∧ ns.length ≤ 70000 ∧ Sm ns ∧ n = m - ns.length,
        ⟨_, ns, rfl, g, hp, by omega, hsm, rfl⟩, ?_⟩
      rintro n σ H3 ⟨ms, rfl, g3, hp3, hl3, hs3, rfl⟩
      refine ⟨_, rfl, p, _, rfl, .inl (SqL.of hp3), _, rfl, _, _, rfl, rfl, _, rfl, ?_⟩
      rw [List.length_map]
      refine ite2 (fun hlt => ?_) (fun hge => ?_)
      · have hlt' : (ms.length : Int) < m := of_decide_eq_true hlt
        refine ⟨_, fun _ _ h => h, _, rfl, .inl ⟨rfl, _, SqL.of hp3⟩, p, _, _, rfl, rfl, hp3, ?_, m - (ms.length + 1), by omega, ms ++ [0], rfl, g3.write hp3 (fun _ z => by cases z) np0, ?_, ?_, hs3.snoc (by decide) (by decide), ?_⟩
        · rw [List.length_map, sizeLine_eq]; omega
        · rw [upd_same, List.map_append]; rfl
        · rw [List.length_append, List.length_singleton]; omega
        · rw [List.length_append, List.length_singleton]
      · have hge' : ¬ (ms.length : Int) < m := fun z => hge (decide_eq_true z)
        refine ⟨_, rfl, _, rfl, _, rfl, p, _, rfl, SqL.of hp3, fun r nr => ?_⟩
        have ec2 := cutV_pre (ms.map V.int) m
        rw [ec2, ← List.map_take]
        exact k _ r (ms.take m) (g3.put nr) (g3.free nr) upd_same (by rw [List.length_take]; omega) (hs3.take m)
end
end W

set_option Elab.async false
set_option linter.all false
set_option maxRecDepth 100000
set_option maxHeartbeats 400000
namespace W
open PySem PySem.Spec PyProof.Rows L2 GxR MyG
abbrev sTaken : Stmt := top 32
abbrev kMap : List Str := ["day", "places", "kinds", "roads"]
def gMap {α : Type} (us mv ws : List α) : List α := us ++ ((match ws with | [a, b, c, d] => [a, c, b, d] | _ => []) ++ mv)
theorem dpAll_strs {K : PySem.W.Frag} {H : Hp} : ∀ ns : List Str, DpAll K H (ns.map V.str) (ns.map PyData.str)
  | [] => .nil
  | n :: ns => .cons (.str n) (dpAll_strs ns)
def spTaken (K : PySem.W.Frag) (P : Addr) : Sp := fun vs H Q _ => ∃ (ki pl ro : Addr) (ks ps ns : List Str) (xs : List V), vs = [.ref pl, .ref ki, .ref ro] ∧ SqL K H ki (ks.map V.str) ∧ SqL K H pl (ps.map V.str) ∧ SqL K H ro xs ∧ Paired (Given K H) ns xs ∧
  ks.length = 1 ∧ ps.length = 1 ∧ ns.length ≤ 1 ∧ (ns ≠ [] → ks = [sK] ∧ ps = [sP]) ∧ (∀ z ∈ ks ++ ps ++ ns, z.length ≤ 1000) ∧ TabG H P ∧ ∀ H', Grew P H H' → Q (.bl ((ks ++ ps ++ ns).all isNm)) H'
section
variable {Pg : Program} {w : World} {K : PySem.W.Frag} {mg : Str → Option Value} {base : Heap} {C P : Addr}
theorem map_binds {f : Addr} {fd : FuncData} {T1 T2 T : Addr} (F : FunD K "__init__" "Map.__init__" (defArgs sInit) (defBody sInit) (defScope sInit) [] [("places", V.ref T1), ("roads", V.ref T2), ("bars", V.ref T)] f fd) :
    ∃ mv : List Value, KBn K fd pInit 1 kMap (fun us ws => gMap us mv ws) (fun vs zs => gMap vs ([("bars", V.ref T)].map (·.2)) zs) := by
  refine FunD.kbinds0 F 1 kMap [(("bars" : Str), V.ref T)] gMap (by simp) (by simp) ?_ ?_
  · intro vs mz zs us mv ws r1 r2 r3
    unfold gMap
    refine r1.append (Vals.append ?_ r2)
    cases r3 with
    | nil => exact .nil
    | cons a r3 =>
      cases r3 with
      | nil => exact .nil
      | cons b r3 =>
        cases r3 with
        | nil => exact .nil
        | cons c r3 =>
          cases r3 with
          | nil => exact .nil
          | cons d r3 =>
            cases r3 with
            | nil => exact .cons a (.cons c (.cons b (.cons d .nil)))
            | cons e r3 => exact .nil
  · intro D doc pm an cdv ct us mv ws h1 h2 h3
    match us, mv, ws, h1, h2, h3 with
    | [u], [m], [a, b, c, d], _, _, _ =>
      exact ⟨_, _, _, _, _, _, rfl, rfl, rfl⟩
/-- an error of the class at S is what «except S» names -/
theorem exm_own {S : Addr} (h1 : PySem.W.subIn K (.ref S) (.type "BaseException") = some true) (h2 : PySem.W.isClsIn K S = true) (h3 : PySem.W.typeIn K (.ref S) = some (.type "type")) (h4 : PySem.W.subIn K (.ref S) (.ref S) = some true) :
    PySem.W.exmOne K (.ref S) (.ref S) = some true := by
  have e1 : (PySem.W.subIn K (.ref S) (.type "BaseException") == some true) = true := by rw [h1]; rfl
  have e2 : ((PySem.W.clsIn K S).isSome && PySem.W.typeIn K (.ref S) == some (.type "type")) = true := by
    have q : (PySem.W.clsIn K S).isSome = true := h2
    rw [q, h3]; rfl
  show (if (PySem.W.subIn K (.ref S) (.type "BaseException") == some true) = true then (if ((PySem.W.clsIn K S).isSome && PySem.W.typeIn K (.ref S) == some (.type "type")) = true then PySem.W.subIn K (.ref S) (.ref S) else none) else none) = some true
  rw [if_pos e1, if_pos e2, h4]
theorem nm_ok {z : Str} (h : isNm z = true) : PyData.strOk z = true := by
  unfold isNm at h
  simp only [Bool.and_eq_true] at h
  have h4 := h.2
  unfold PyData.strOk
  rw [← Array.all_toList]
  refine List.all_eq_true.mpr fun c hc => ?_
  have g := List.all_eq_true.mp h4 c hc
  have a1 : ∀ c ∈ zLet.cps.toList, decide (c < 0x110000) = true := by decide +kernel
  have a2 : ∀ c ∈ zDig.cps.toList, decide (c < 0x110000) = true := by decide +kernel
  unfold goodC at g
  rcases Bool.or_eq_true_iff.mp g with g | g
  · exact a1 c (of_decide_eq_true g)
  · exact a2 c (of_decide_eq_true g)
theorem canLay_strs : ∀ ns : List Str, ns.all isNm = true → PyData.canLayAll0 (ns.map PyData.str) = true
  | [], _ => rfl
  | n :: ns, h => by
    rw [List.all_cons, Bool.and_eq_true] at h
    have i := canLay_strs ns h.2
    simp [PyData.canLayAll0, PyData.canLay0, i, nm_ok h.1]
theorem depth_strs : ∀ ns : List Str, PyData.depthAll (ns.map PyData.str) ≤ 1
  | [] => by simp [PyData.depthAll]
  | n :: ns => by
    have i := depth_strs ns
    simp only [List.map_cons, PyData.depthAll, PyData.depth]
    omega
theorem shaped_strs {ns : List Str} (h : ns.all isNm = true) : SeqAt.shaped (PyData.tuple (ns.map PyData.str)) = true := by
  have c := canLay_strs ns h
  have d := depth_strs ns
  unfold SeqAt.shaped
  rw [Bool.and_eq_true]
  refine ⟨by simpa [PyData.canLay0] using c, decide_eq_true ?_⟩
  simp only [PyData.depth]
  omega
abbrev nTaken : List Str := ["places", "kinds", "roads", "chart"]
theorem scTaken : FnScope nTaken ["places", "kinds", "roads"] (defScope sTaken) := ⟨rfl, rfl, rfl, by decide +kernel, rfl, by decide +kernel, by decide +kernel⟩
theorem ok_taken {f fI M T0 : Addr} {fd fdI : FuncData} {mv : List Value} (F : Fun K "_law_taken" "_law_taken" sTaken f fd) (T : TxtE mg K C) (TM : TxtM K M) (eC : PySem.W.exmOne K (.ref C) (.ref C) = some true)
    (hl : mg "len" = none) (ht : mg "tuple" = none) (Mk : L2.Mk K M fI) (gM : mg "Map" = some (.ref M)) (hT0 : ∀ H : Hp, SqT K H T0 [])
    (GI : FnOk Pg w K mg base (L2.CX Pg w) 5 fI fdI pInit (spInit K C M P)) (kb : KBn K fdI pInit 1 kMap (fun us ws => gMap us mv ws) (fun vs zs => gMap vs [V.ref T0] zs)) :
    FnOk Pg w K mg base CX0 7 f fd ["places", "kinds", "roads"] (spTaken K P) := by
  refine F.ok scTaken (fun vs H Q E h => ?_) (fun cdv A outer s H vs Q E hr h => ?_)
  · obtain ⟨ki, pl, ro, ks, ps, ns, xs, rfl, _⟩ := h
    rfl
  · obtain ⟨ki, pl, ro, ks, ps, ns, xs, rfl, hKi, hPl, hRo, hG, lk, lp, ln, hPK, hz, hP, k⟩ := h
    refine ⟨_, pss_cons (ps_try_only (tb := fun W => tAsg (tMakeK M 0 4 (spInit K C M P) (fun vs zs => gMap vs [V.ref T0] zs) (fun cls d H => ∀ σ, W cls d σ H) tNil (tCons (tC (.int 9)) (tCons (tVar 0) (tCons (tVar 1) (tCons (tVar 2) tNil))))) (gName 3)) (ts := fun _ _ _ => tRet (tC (.bl false))) (Wout := fun _ _ _ _ => False) rfl rfl ⟨rfl, by decide, .inl T.gC⟩ takes0
        (fun W pn xe tk _ => pss_one (ps_set (i := 3) scTaken.nd rfl (Or.inl rfl) (pe_makeK0 Mk GI hr (by rfl) gM kb (passes_call tk (fun cls d σ H h => h σ)) (pk_cons pe_int (pk_cons (pv 0) (pk_cons (pv 1) (pk_cons (pv 2) pk_nil)))))))
        (fun a oe cls d pn _ _ => pss_one (ps_ret pe_bl)))
      (pss_one (ps_ret (pe_and (pe_cmpR (op_eqD hr.units) (pe_fld (pv 3) rfl) (pe_callTy call_tuple_of (by rfl) ht (by decide +kernel) (pa_cons (pv 0) pa_nil)) (nomark _))
        (pe_and (pe_cmpR (op_eqD hr.units) (pe_fld (pv 3) rfl) (pe_callTy call_tuple_of (by rfl) ht (by decide +kernel) (pa_cons (pv 1) pa_nil)) (nomark _))
          (pe_one (pe_cmpR op_eq (pe_callB call_len_seq (by rfl) hl PySem.boot_len (pa_cons (pe_fld (pv 3) rfl) pa_nil)) (pe_callB call_len_seq (by rfl) hl PySem.boot_len (pa_cons (pv 2) pa_nil)) (nomark _))))))), ?_⟩
    refine ⟨_, rfl, _, rfl, _, rfl, rfl, rfl, fun x dx nx ndx nex => ?_⟩
    have ng : Grew P H (L2.upd (L2.upd H dx (.own x)) x (.ins M dx [])) := (Grew.new hP ndx).put (by rw [upd_ne nex.symm]; exact nx)
    refine ⟨x, dx, ki, pl, ro, T0, 9, ks, ps, ns, xs, H, rfl, ng, hP, nx, upd_same, by decide, by decide, hKi, hPl, hRo, hT0 H, hG, lk, lp, ln, hPK, hz, fun hb H' g' σ => ?_, fun hb H' k' p' r' fs ys g' hx f1 f2 f3 e1 e2 e3 hly => ⟨rfl, ?_⟩⟩
    · refine ⟨true, eC, fun _ a _ => ?_, fun q => Bool.noConfusion q⟩
      have e := k H' g'
      rw [hb] at e
      exact e
    · have e := k
      rw [hb] at e
      have sh : ∀ l : List Str, l.all isNm = true → SeqAt.shaped (PyData.tuple (l.map PyData.str)) = true := fun l hl => shaped_strs hl
      have rf : ∀ l : List Str, l.all isNm = true → PyData.eqv (PyData.tuple (l.map PyData.str)) (PyData.tuple (l.map PyData.str)) = true := fun l hl => SeqAt.eqv_refl _ (SeqAt.canLay_of_shaped (sh l hl))
      rw [List.all_append, List.all_append, Bool.and_eq_true, Bool.and_eq_true] at hb
      have zk := hb.1.1
      have zp := hb.1.2
      refine ⟨_, rfl, x, M, dx, fs, _, rfl, hx, TM.cl, TM.n3, f2, _, rfl, pl, _, rfl, .inl ⟨g'.sqL hP hPl, fun t nt => ?_⟩⟩
      have gt := Grew.new g'.tab (o := .tup (ps.map V.str)) nt
      refine ⟨_, _, .tup (SqT.of (gt.tup g'.tab e2)) (dpAll_strs ps), .tup (SqT.of upd_same) (dpAll_strs ps), sh ps zp, sh ps zp, _, rfl, ?_⟩
      rw [rf ps zp]
      refine iteT ?_
      have hx2 := gt.get g'.tab hx (fun _ z => by cases z)
      refine ⟨_, rfl, x, M, dx, fs, _, rfl, hx2, TM.cl, TM.n2, f1, _, rfl, ki, _, rfl, .inl ⟨gt.sqL g'.tab (g'.sqL hP hKi), fun u nu => ?_⟩⟩
      have gu := Grew.new gt.tab (o := .tup (ks.map V.str)) nu
      refine ⟨_, _, .tup (SqT.of (gu.tup gt.tab (gt.tup g'.tab e1))) (dpAll_strs ks), .tup (SqT.of upd_same) (dpAll_strs ks), sh ks zk, sh ks zk, _, rfl, ?_⟩
      rw [rf ks zk]
      refine iteT ?_
      refine ⟨_, rfl, x, M, dx, fs, _, rfl, gu.get gt.tab hx2 (fun _ z => by cases z), TM.cl, TM.n4, f3, r', _, rfl, .inr (SqT.of (gu.tup gt.tab (gt.tup g'.tab e3))), _, rfl, ro, _, rfl, .inl (gu.sqL gt.tab (gt.sqL g'.tab (g'.sqL hP hRo))), rfl, ?_⟩
      have el : ys.length = xs.length := by rw [hly, Paired.len hG]
      rw [el]
      have ed : decide (V.int ((xs.length : Nat) : Int) = V.int ((xs.length : Nat) : Int)) = true := decide_eq_true rfl
      rw [ed]
      exact e _ ((g'.trans gt).trans gu)
end
end W

set_option Elab.async false
set_option linter.all false
set_option maxRecDepth 100000
set_option maxHeartbeats 400000
namespace W
open PySem PySem.Spec PyProof.Rows L2 GxR MyG
abbrev sLaw : Stmt := top 33
def zGood : Str := "abcdefghijklmnopqrstuvwxyz0123456789"
def zA1 : Str := " !\"#$&'()*+,-./0123456789:;<=>?@ABCDEFGHIJKLMNOPQRSTUVWXYZ[\\]^_`"
def zA2 : Str := "abcdefghijklmnopqrstuvwxyz{|}~\n\t"
theorem cutS_len (z : Str) (lo hi : Option Int) : (cutS z lo hi).length ≤ z.length := by
  unfold cutS
  show ((z.cps.toList.drop _).take _).toArray.size ≤ z.cps.size
  rw [List.size_toArray, List.length_take, List.length_drop]
  have : z.cps.toList.length = z.cps.size := by simp
  omega
theorem str_len (z : Str) : z.length = z.cps.toList.length := by simp [Str.length]
theorem at_some {α : Type} {l : List α} {i : Int} (h0 : 0 ≤ i) (h1 : i < l.length) : ∃ c, atI l i = some c := by
  obtain ⟨n, rfl⟩ := Int.eq_ofNat_of_zero_le h0
  have hn : n < l.length := by omega
  exact ⟨l[n], atI_nat (List.getElem?_eq_getElem hn)⟩
theorem at_num {ns : List Int} (hs : Sm ns) {i : Int} (h0 : 0 ≤ i) (h1 : i < ns.length) : ∃ n, atI (ns.map V.int) i = some (.int n) ∧ 0 ≤ n ∧ n < 1009 := by
  obtain ⟨k, rfl⟩ := Int.eq_ofNat_of_zero_le h0
  have hn : k < ns.length := by omega
  refine ⟨ns[k], atI_nat (by rw [List.getElem?_map, List.getElem?_eq_getElem hn]; rfl), hs _ (List.getElem_mem hn)⟩
theorem for_str {x : Str} {g : TG} {tb : TS} {D : Ends} {σ : L2.St} {H : Hp} (Pv : Nat → L2.St → Hp → Prop) (h0 : Pv 0 σ H)
    (hs : ∀ i c σ H, x.cps.toList[i]? = some c → Pv i σ H → g (.str ⟨#[c]⟩) σ H fun σ2 H2 => tb { D with nx := Pv (i + 1), ct := Pv (i + 1), bk := D.nx } σ2 H2) (hd : ∀ σ H, Pv x.cps.toList.length σ H → D.nx σ H) :
    ∃ W : Nat → Nat → L2.St → Hp → Prop, (∃ m, W 0 m σ H) ∧ ∀ i m σ H, W i m σ H →
      ((Its x).stop i H ∧ D.nx σ H) ∨ ((Its x).go i H ∧ ∃ N : L2.St → Hp → Prop, (∀ σ' H', N σ' H' → ∃ m', m' < m ∧ W (i + 1) m' σ' H') ∧ ∀ v H', (Its x).yld i H v H' → g v σ H' fun σ2 H2 => tb { D with nx := N, ct := N, bk := D.nx } σ2 H2) := by
  have el : x.cps.toList.length = x.cps.size := by simp
  refine ⟨fun i m σ H => m = x.cps.size - i ∧ i ≤ x.cps.size ∧ Pv i σ H, ⟨x.cps.size, rfl, Nat.zero_le _, h0⟩, ?_⟩
  rintro i m σ H ⟨rfl, hi, p⟩
  by_cases hlt : i < x.cps.size
  · refine .inr ⟨hlt, Pv (i + 1), fun σ' H' p' => ⟨x.cps.size - (i + 1), by omega, rfl, hlt, p'⟩, fun v H' y => ?_⟩
    obtain ⟨rfl, c, hc, rfl⟩ := y
    exact hs i c σ _ (by rw [Array.getElem?_toList]; exact hc) p
  · have e : i = x.cps.size := by omega
    subst e
    exact .inl ⟨Nat.le_refl _, hd σ H (by rw [el]; exact p)⟩
def dueF (z : Str) : Bool := decide (1 ≤ z.length) && decide (z.length ≤ 12) && (match z.cps.toList with | [] => false | c :: _ => !decide (c ∈ zDig.cps.toList))
theorem good_split : zGood.cps.toList = zLet.cps.toList ++ zDig.cps.toList := by decide +kernel
theorem disj_ld : ∀ c ∈ zLet.cps.toList, c ∉ zDig.cps.toList := by decide +kernel
theorem goodC_eq (c : Nat) : goodC c = decide (c ∈ zGood.cps.toList) := by
  unfold goodC
  rw [good_split]
  by_cases a : c ∈ zLet.cps.toList <;> by_cases b : c ∈ zDig.cps.toList <;> simp [a, b]
theorem due_eq (z : Str) : (dueF z && z.cps.toList.all fun c => decide (c ∈ zGood.cps.toList)) = isNm z := by
  have e : (fun c => decide (c ∈ zGood.cps.toList)) = goodC := funext fun c => (goodC_eq c).symm
  rw [e]
  unfold dueF isNm
  cases q : z.cps.toList with
  | nil => simp
  | cons c r =>
    simp only [List.all_cons]
    by_cases a : c ∈ zLet.cps.toList
    · have b := disj_ld c a
      simp [a, b]
    · by_cases b : c ∈ zDig.cps.toList
      · simp [a, b]
      · have g : goodC c = false := by unfold goodC; simp [a, b]
        simp [a, b, g]
theorem cut_one {z : Str} {c : Nat} {r : List Nat} (q : z.cps.toList = c :: r) : cutS z none (some 1) = ⟨#[c]⟩ := by
  unfold cutS
  have l : z.length = r.length + 1 := by rw [str_len, q]; rfl
  rw [HT.sIx_none, show (1 : Int) = ((1 : Nat) : Int) from rfl, HT.sIx_nat, q, l, List.drop_zero, Nat.sub_zero, Nat.min_eq_left (by omega)]
  rfl
def spLaw (K : PySem.W.Frag) (P : Addr) : Sp := fun vs H Q _ => ∃ (a : Addr) (ns : List Int), vs = [.ref a] ∧ SqL K H a (ns.map V.int) ∧ ns.length ≤ 63 ∧ TabG H P ∧ ∀ H', Q (.bl true) H'
section
variable {Pg : Program} {w : World} {K : PySem.W.Frag} {mg : Str → Option Value} {base : Heap} {C P : Addr}
abbrev nLaw : List Str := ["script", "numbers", "good", "all_chars", "text", "k", "place", "due", "char", "told"]
theorem scLaw : FnScope nLaw ["script"] (defScope sLaw) := ⟨rfl, rfl, rfl, by decide +kernel, rfl, by decide +kernel, by decide +kernel⟩
theorem ok_law {f fN fS fT : Addr} {fd fdN fdS fdT : FuncData} (F : Fun K "law" "law" sLaw f fd) (hl : mg "len" = none) (hi : mg "int" = none) (hr' : mg "range" = none) (hs : mg "isinstance" = none) (hb : mg "bool" = none)
    (GN : FnOk Pg w K mg base CX0 2 fN fdN ["script", "many"] (spNumbers K P)) (gN : mg "_law_numbers" = some (.ref fN)) (kN : PySem.W.keepIn K (.ref fN) = true) (bN : Binds K fdN ["script", "many"] [])
    (GS : FnOk Pg w K mg base CX0 2 fS fdS ["text"] (spIsName P)) (gS : mg "is_name" = some (.ref fS)) (kS : PySem.W.keepIn K (.ref fS) = true) (bS : Binds K fdS ["text"] [])
    (GT : FnOk Pg w K mg base CX0 7 fT fdT ["places", "kinds", "roads"] (spTaken K P)) (gT : mg "_law_taken" = some (.ref fT)) (kT : PySem.W.keepIn K (.ref fT) = true) (bT : Binds K fdT ["places", "kinds", "roads"] []) :
    FnOk Pg w K mg base CX0 8 f fd ["script"] (spLaw K P) := by
  refine F.ok scLaw (fun vs H Q E h => ?_) (fun cdv A outer s H vs Q E hr h => ?_)
  · obtain ⟨a, ns, rfl, _⟩ := h
    rfl
  · obtain ⟨a, zs, rfl, hS, hz, hP, k⟩ := h
    have hr2 : Room 2 _ := hr.mono (by decide)
    -- int(numbers[e])
    refine ⟨_, pss_cons (ps_set (i := 1) scLaw.nd rfl (Or.inl rfl) (pe_call GN hr2 (by rfl) gN kN bN .nil pass0 (pa_cons (pv 0) (pa_cons pe_int pa_nil))))
      (pss_cons (ps_set (i := 2) scLaw.nd rfl (Or.inl rfl) pe_str)
      (pss_cons (ps_set (i := 3) scLaw.nd rfl (Or.inl rfl) pe_str)
      (pss_cons (ps_set (i := 3) scLaw.nd rfl (Or.inl rfl) (pe_op op_add_str (pv 3) pe_str))
      (pss_cons (ps_set (i := 4) scLaw.nd rfl (Or.inl rfl) pe_str)
      (pss_cons (ps_for PassesOwn.never rfl (pi_range1 rfl hr' (pa_cons (pe_op op_mod (pe_callTy call_int1 (by rfl) hi (by decide +kernel) (pa_cons (pe_ix ix_list (pv 1) pe_int (fun _ _ => rfl)) pa_nil)) pe_int) pa_nil)) (pg_name (i := 5) scLaw.nd rfl (Or.inl rfl))
        (pss_one (ps_set (i := 4) scLaw.nd rfl (Or.inl rfl) (pe_op op_add_str (pv 4) (pe_ix ix_str (pv 2) (pe_op op_mod (pe_callTy call_int1 (by rfl) hi (by decide +kernel) (pa_cons (pe_ix ix_list (pv 1) (pe_op op_add pe_int (pv 5)) (fun _ _ => rfl)) pa_nil)) pe_int) (fun _ _ => rfl))))))
      (C8.pss_cut (ps_if (PW.pt (pw_and (pt_cmpR op_gt (pe_op op_mod (pe_callTy call_int1 (by rfl) hi (by decide +kernel) (pa_cons (pe_ix ix_list (pv 1) pe_int (fun _ _ => rfl)) pa_nil)) pe_int) pe_int (nomark _)) (pw_and1 (pt_cmpR op_gt (pe_callB call_len_str (by rfl) hl PySem.boot_len (pa_cons (pv 4) pa_nil)) pe_int (nomark _)))))
        (pss_one (ps_set (i := 4) scLaw.nd rfl (Or.inl rfl) (pe_op op_add_str (pe_ix ix_str (pv 2) (pe_op op_mod (pe_callTy call_int1 (by rfl) hi (by decide +kernel) (pa_cons (pe_ix ix_list (pv 1) pe_int (fun _ _ => rfl)) pa_nil)) pe_int) (fun _ _ => rfl)) (pe_slice sl_str (pv 4) (po_some pe_int) po_none)))) pss_nil)
      (C8.pss_cut (ps_if (PW.pt (pw_and (pt_cmpR op_eq (pe_op op_mod (pe_callTy call_int1 (by rfl) hi (by decide +kernel) (pa_cons (pe_ix ix_list (pv 1) pe_int (fun _ _ => rfl)) pa_nil)) pe_int) pe_int (nomark _)) (pw_and1 (pt_cmpR op_gt (pe_callB call_len_str (by rfl) hl PySem.boot_len (pa_cons (pv 4) pa_nil)) pe_int (nomark _)))))
        (pss_cons (ps_set (i := 6) scLaw.nd rfl (Or.inl rfl) (pe_op op_mod (pe_callTy call_int1 (by rfl) hi (by decide +kernel) (pa_cons (pe_ix ix_list (pv 1) pe_int (fun _ _ => rfl)) pa_nil)) (pe_callB call_len_str (by rfl) hl PySem.boot_len (pa_cons (pv 4) pa_nil))))
          (pss_one (ps_set (i := 4) scLaw.nd rfl (Or.inl rfl) (pe_op op_add_str (pe_op op_add_str (pe_slice sl_str (pv 4) po_none (po_some (pv 6)))
            (pe_ix ix_str (pv 3) (pe_op op_mod (pe_callTy call_int1 (by rfl) hi (by decide +kernel) (pa_cons (pe_ix ix_list (pv 1) pe_int (fun _ _ => rfl)) pa_nil)) (pe_callB call_len_str (by rfl) hl PySem.boot_len (pa_cons (pv 3) pa_nil))) (fun _ _ => rfl)))
            (pe_slice sl_str (pv 4) (po_some (pe_op op_add (pv 6) pe_int)) po_none))))) pss_nil)
      (C8.pss_cut (ps_set (i := 7) scLaw.nd rfl (Or.inl rfl) (pe_and (pe_chain op_le op_le pe_int (pe_callB call_len_str (by rfl) hl PySem.boot_len (pa_cons (pv 4) pa_nil)) pe_int) (pe_one (pe_cmpR op_notin_str (pe_slice sl_str (pv 4) po_none (po_some pe_int)) pe_str (by rfl)))))
      (pss_cons (ps_for PassesOwn.never rfl (pi_str (pv 4)) (pg_name (i := 8) scLaw.nd rfl (Or.inl rfl)) (pss_one (ps_if (pt_cmpR op_notIn_sign (pv 8) (pv 2) (by rfl)) (pss_one (ps_set (i := 7) scLaw.nd rfl (Or.inl rfl) pe_bl)) pss_nil)))
      (pss_cons (ps_set (i := 9) scLaw.nd rfl (Or.inl rfl) (pe_call GS hr2 (by rfl) gS kS bS .nil pass0 (pa_cons (pv 4) pa_nil)))
      (pss_cons (ps_if (PW.pt (pw_or (pt_not (pt_val (pe_callB call_isi (by rfl) hs (by decide +kernel) (pa_cons (pv 9) (pa_cons (pe_bltn (v := .ty "bool") (by rfl) hb (by decide +kernel) rfl) pa_nil))))) (pw_or1 (pt_cmpR op_ne (pv 9) (pv 7) (nomark _))))) (pss_one (ps_ret pe_bl)) pss_nil)
      (pss_cons (ps_if (PW.pt (pw_or (pt_cmpR op_ne (pe_call GT hr (by rfl) gT kT bT .nil pass0 (pa_cons (pe_lst (pa_cons (pv 4) pa_nil)) (pa_cons (pe_lst (pa_cons pe_str pa_nil)) (pa_cons (pe_lst pa_nil) pa_nil)))) (pv 7) (nomark _))
          (pw_or1 (pt_cmpR op_ne (pe_call GT hr (by rfl) gT kT bT .nil pass0 (pa_cons (pe_lst (pa_cons pe_str pa_nil)) (pa_cons (pe_lst (pa_cons (pv 4) pa_nil)) (pa_cons (pe_lst pa_nil) pa_nil)))) (pv 7) (nomark _))))) (pss_one (ps_ret pe_bl)) pss_nil)
      (pss_one (ps_ret (pe_cmpR op_eq (pe_call GT hr (by rfl) gT kT bT .nil pass0 (pa_cons (pe_lst (pa_cons pe_str pa_nil)) (pa_cons (pe_lst (pa_cons pe_str pa_nil))
          (pa_cons (pe_lst (pa_cons (pe_tup (pa_cons (pv 4) (pa_cons pe_str (pa_cons pe_str (pa_cons pe_int (pa_cons (pe_lst (pa_cons pe_str pa_nil)) (pa_cons pe_non pa_nil))))))) pa_nil)) pa_nil)))) (pv 7) (nomark _)))))))))))))))), ?_⟩
    refine ⟨_, rfl, a, zs, 24, rfl, hS, hz, by decide, hP, fun H1 p ns g1 np hp hlen hsm => ?_⟩
    have num : ∀ {i : Int}, 0 ≤ i → i < 24 → ∃ n, atI (ns.map V.int) i = some (.int n) ∧ 0 ≤ n ∧ n < 1009 := fun h0 h1 => at_num hsm h0 (by rw [hlen]; exact h1)
    have lG : zGood.cps.toList.length = 36 := by decide +kernel
    have sG : zGood.length ≤ sizeLine := by rw [str_len, lG, sizeLine_eq]; decide
    obtain ⟨n0, e0, l0, u0⟩ := num (i := 0) (by decide) (by decide)
    refine ⟨_, rfl, _, _, rfl, rfl, by decide +kernel, ?_⟩
    refine ⟨_, rfl, p, _, _, _, rfl, rfl, SqL.of hp, e0, .inl ⟨_, rfl, _, _, rfl, rfl, (show (0 : Int) < 15 by decide), _, rfl, by omega, by omega,
      for_range (n := (n0 % 15).toNat) (fun i σ H' => ∃ z v5, σ = [some (.ref a), some (.ref p), some (.str zGood), some (.str (zA1 ++ zA2)), some (.str z), v5, none, none, none, none] ∧ z.length = i ∧ H' = H1)
      ⟨_, none, rfl, rfl, rfl⟩ ?_ ?_⟩⟩
    · rintro i σ H' hi ⟨z, v5, rfl, hz, rfl⟩
      obtain ⟨n, en, ln, un⟩ := num (i := 1 + (0 + (i : Int))) (by omega) (by omega)
      obtain ⟨c, ec⟩ := at_some (l := zGood.cps.toList) (i := n % 36) (by omega) (by rw [lG]; omega)
      refine ⟨_, rfl, _, rfl, _, rfl, _, rfl, _, _, rfl, rfl, p, _, _, _, rfl, rfl, SqL.of hp, en, .inl ⟨_, rfl, _, _, rfl, rfl, (show (0 : Int) < 36 by decide), _, _, c, rfl, rfl, sG, ec, _, _, rfl, rfl, ?_, ?_⟩⟩
      · rw [hz, sizeLine_eq]; show i + 1 ≤ _; omega
      · exact ⟨_, _, rfl, by rw [PySem.Str.length_append, hz]; rfl, rfl⟩
    rintro σ H' ⟨z, v5, rfl, hz, rfl⟩
    have hz' : z.length ≤ 14 := by rw [hz]; omega
    -- the first change
    obtain ⟨n16, e16, l16, u16⟩ := num (i := 16) (by decide) (by decide)
    obtain ⟨n19, e19, l19, u19⟩ := num (i := 19) (by decide) (by decide)
    refine ⟨fun σ2 H2 => ∃ z : Str, σ2 = [some (.ref a), some (.ref p), some (.str zGood), some (.str (zA1 ++ zA2)), some (.str z), v5, none, none, none, none] ∧ z.length ≤ 20 ∧ H2 = H', ?_, ?_⟩
    · refine ⟨_, rfl, p, _, _, _, rfl, rfl, SqL.of hp, e16, .inl ⟨_, rfl, _, _, rfl, rfl, (show (0 : Int) < 3 by decide), _, _, rfl, rfl, _, rfl, ?_⟩⟩
      refine ite2 (fun _ => ?_) (fun _ => ?_)
      · refine ⟨_, rfl, z, rfl, by rw [sizeLine_eq]; omega, _, _, rfl, rfl, _, rfl, ?_⟩
        refine ite2 (fun _ => ?_) (fun _ => ?_)
        · obtain ⟨c, ec⟩ := at_some (l := zGood.cps.toList) (i := n19 % 26) (by omega) (by rw [lG]; omega)
          have hc := cutS_len z (some 1) none
          refine ⟨_, rfl, _, rfl, p, _, _, _, rfl, rfl, SqL.of hp, e19, .inl ⟨_, rfl, _, _, rfl, rfl, (show (0 : Int) < 26 by decide), _, _, c, rfl, rfl, sG, ec, _, rfl, 1, rfl, z, rfl, by rw [sizeLine_eq]; omega, _, _, rfl, rfl, ?_, ?_⟩⟩
          · rw [sizeLine_eq]; show 1 + (cutS z (some 1) none).length ≤ _; omega
          · exact ⟨_, rfl, by rw [PySem.Str.length_append]; show 1 + (cutS z (some 1) none).length ≤ _; omega, rfl⟩
        · exact ⟨_, rfl, by omega, rfl⟩
      · exact ⟨_, rfl, by omega, rfl⟩
    rintro σ2 H2 ⟨z2, rfl, hz2, rfl⟩
    -- the second change
    obtain ⟨n17, e17, l17, u17⟩ := num (i := 17) (by decide) (by decide)
    obtain ⟨n18, e18, l18, u18⟩ := num (i := 18) (by decide) (by decide)
    refine ⟨fun σ2 H3 => ∃ (z : Str) (v6 : Option V), σ2 = [some (.ref a), some (.ref p), some (.str zGood), some (.str (zA1 ++ zA2)), some (.str z), v5, v6, none, none, none] ∧ z.length ≤ 50 ∧ H3 = H2, ?_, ?_⟩
    · refine ⟨_, rfl, p, _, _, _, rfl, rfl, SqL.of hp, e16, .inl ⟨_, rfl, _, _, rfl, rfl, (show (0 : Int) < 6 by decide), rfl, _, rfl, ?_⟩⟩
      refine ite2 (fun _ => ?_) (fun _ => ?_)
      · refine ⟨_, rfl, z2, rfl, by rw [sizeLine_eq]; omega, _, _, rfl, rfl, _, rfl, ?_⟩
        refine ite2 (fun hpos => ?_) (fun _ => ?_)
        · have hpos' : (0 : Int) < z2.length := of_decide_eq_true hpos
          have sA : (zA1 ++ zA2).length ≤ sizeLine := by rw [sizeLine_eq]; decide +kernel
          have pA : (0 : Int) < ((zA1 ++ zA2).length : Nat) := by decide +kernel
          obtain ⟨c, ec⟩ := at_some (l := (zA1 ++ zA2).cps.toList) (i := n18 % ((zA1 ++ zA2).length : Nat)) (Int.emod_nonneg _ (by omega)) (by rw [← str_len]; exact Int.emod_lt_of_pos _ pA)
          have h1 := cutS_len z2 none (some (n17 % (z2.length : Nat)))
          have h2 := cutS_len z2 (some (n17 % (z2.length : Nat) + 1)) none
          refine ⟨_, rfl, p, _, _, _, rfl, rfl, SqL.of hp, e17, .inl ⟨_, rfl, _, rfl, z2, rfl, by rw [sizeLine_eq]; omega, _, _, rfl, rfl, hpos', ?_⟩⟩
          refine ⟨_, rfl, _, rfl, _, rfl, z2, rfl, by rw [sizeLine_eq]; omega, _, rfl, _, rfl, p, _, _, _, rfl, rfl, SqL.of hp, e18, .inl ⟨_, rfl, _, rfl, _, rfl, sA, _, _, rfl, rfl, pA, _, _, c, rfl, rfl, sA, ec, _, _, rfl, rfl, ?_, ?_⟩⟩
          · rw [sizeLine_eq]; show (cutS z2 none (some (n17 % (z2.length : Nat)))).length + 1 ≤ _; omega
          refine ⟨_, rfl, _, rfl, _, _, rfl, rfl, _, rfl, z2, rfl, by rw [sizeLine_eq]; omega, _, _, rfl, rfl, ?_, ?_⟩
          · rw [PySem.Str.length_append, sizeLine_eq]; show (cutS z2 none (some (n17 % (z2.length : Nat)))).length + 1 + (cutS z2 (some (n17 % (z2.length : Nat) + 1)) none).length ≤ _; omega
          · refine ⟨_, _, rfl, ?_, rfl⟩
            rw [PySem.Str.length_append, PySem.Str.length_append]
            show (cutS z2 none (some (n17 % (z2.length : Nat)))).length + 1 + (cutS z2 (some (n17 % (z2.length : Nat) + 1)) none).length ≤ _
            omega
        · exact ⟨_, _, rfl, by omega, rfl⟩
      · exact ⟨_, _, rfl, by omega, rfl⟩
    rintro σ3 H3 ⟨z3, v6, rfl, hz3, rfl⟩
    have zs3 : z3.length ≤ sizeLine := by rw [sizeLine_eq]; omega
    -- due
    refine ⟨fun σ4 H4 => σ4 = [some (.ref a), some (.ref p), some (.str zGood), some (.str (zA1 ++ zA2)), some (.str z3), v5, v6, some (.bl (dueF z3)), none, none] ∧ H4 = H3, ?_, ?_⟩
    · refine ⟨_, rfl, z3, rfl, zs3, _, _, rfl, rfl, _, rfl, ?_⟩
      refine ite2 (fun c1 => ?_) (fun c1 => ?_)
      · have c1' : (1 : Int) ≤ z3.length := of_decide_eq_true c1
        refine ⟨_, _, rfl, rfl, _, rfl, ?_⟩
        refine ite2 (fun c2 => ?_) (fun c2 => ?_)
        · have c2' : (z3.length : Int) ≤ 12 := of_decide_eq_true c2
          have c1n : 1 ≤ z3.length := by omega
          have c2n : z3.length ≤ 12 := by omega
          refine ⟨_, rfl, 1, rfl, z3, rfl, zs3, _, _, rfl, rfl, ?_, rfl⟩
          cases q : z3.cps.toList with
          | nil => rw [str_len, q] at c1n; exact absurd c1n (by decide)
          | cons c r =>
            rw [cut_one q]
            have e := PySem.StrLaws.found_one zDig c
            have ed : dueF z3 = !decide (c ∈ zDig.cps.toList) := by unfold dueF; rw [q]; simp [c1n, c2n]
            rw [ed, ← e]
            rfl
        · have c2' : ¬ (z3.length : Int) ≤ 12 := fun z => c2 (decide_eq_true z)
          have c2n : ¬ z3.length ≤ 12 := by omega
          have ed : dueF z3 = false := by unfold dueF; simp [c2n]
          rw [ed]
          exact ⟨rfl, rfl⟩
      · have c1' : ¬ (1 : Int) ≤ z3.length := fun z => c1 (decide_eq_true z)
        have c1n : ¬ 1 ≤ z3.length := by omega
        have ed : dueF z3 = false := by unfold dueF; simp [c1n]
        rw [ed]
        exact ⟨_, rfl, iteF ⟨rfl, rfl⟩⟩
    rintro σ4 H4 ⟨rfl, rfl⟩
    -- for char in text
    refine ⟨_, rfl, z3, rfl, for_str (x := z3) (fun i σ H' => ∃ v8, σ = [some (.ref a), some (.ref p), some (.str zGood), some (.str (zA1 ++ zA2)), some (.str z3), v5, v6, some (.bl (dueF z3 && (z3.cps.toList.take i).all fun c => decide (c ∈ zGood.cps.toList))), v8, none] ∧ H' = H4)
      ⟨none, by simp, rfl⟩ ?_ ?_⟩
    · rintro i c σ H' hc ⟨v8, rfl, rfl⟩
      refine ⟨_, rfl, _, rfl, c, zGood, rfl, rfl, _, rfl, ?_⟩
      have et : (z3.cps.toList.take (i + 1)).all (fun c => decide (c ∈ zGood.cps.toList)) = ((z3.cps.toList.take i).all (fun c => decide (c ∈ zGood.cps.toList)) && decide (c ∈ zGood.cps.toList)) := by
        rw [List.take_succ, hc, List.all_append]
        simp
      by_cases hg : c ∈ zGood.cps.toList
      · rw [decide_eq_true hg]
        refine iteF ⟨some (.str ⟨#[c]⟩), ?_, rfl⟩
        rw [et, decide_eq_true hg, Bool.and_true]
        rfl
      · rw [decide_eq_false hg]
        refine iteT ⟨some (.str ⟨#[c]⟩), ?_, rfl⟩
        rw [et, decide_eq_false hg, Bool.and_false, Bool.and_false]
        rfl
    rintro σ5 H5 ⟨v8, rfl, rfl⟩
    rw [List.take_length, due_eq]
    -- told = is_name(text)
    refine ⟨_, rfl, z3, rfl, zs3, g1.tab, fun H6 t6 => ?_⟩
    have g6 := g1.trans (Grew.of t6)
    refine ⟨_, rfl, .bl (isNm z3), .ty "bool", .type "bool", .type "bool", true, rfl, .ty "bool", .base (.bl _), kit_ty (by decide +kernel), _, rfl, ?_⟩
    refine iteF ⟨_, rfl, _, rfl, rfl, _, rfl, ?_⟩
    refine if_f (by simp) ?_
    have kt : isNm sK = true := by decide +kernel
    have pt : isNm sP = true := by decide +kernel
    have one : ∀ x : V, [x].length ≤ sizeLine := fun x => by show 1 ≤ sizeLine; decide
    -- a place
    refine ⟨_, rfl, one _, fun l1 n1 => ⟨one _, fun l2 n2 => ⟨Nat.zero_le _, fun l3 n3 => ?_⟩⟩⟩
    have b1 := Grew.new g6.tab (o := .lst [.str z3]) n1
    have b2 := Grew.new b1.tab (o := .lst [.str sK]) n2
    have b3 := Grew.new b2.tab (o := .lst []) n3
    have ln3 : ∀ (x y z : Str), x.length ≤ 1000 → y.length ≤ 1000 → z.length ≤ 1000 → ∀ u ∈ [x] ++ [y] ++ [z], u.length ≤ 1000 := fun x y z hx hy hz u hu => by
      simp only [List.cons_append, List.nil_append, List.mem_cons, List.not_mem_nil, or_false] at hu
      rcases hu with e | e | e <;> rw [e] <;> assumption
    have lK : sK.length ≤ 1000 := by decide +kernel
    have lP : sP.length ≤ 1000 := by decide +kernel
    refine ⟨l2, l1, l3, [sK], [z3], [], [], rfl, SqL.of (b3.lst b2.tab upd_same), SqL.of (b3.lst b2.tab (b2.lst b1.tab upd_same)), SqL.of upd_same, .nil, rfl, rfl, Nat.zero_le _, fun e => absurd rfl e,
      fun u hu => ln3 sK z3 sK lK (by omega) lK u (by simp only [List.append_nil] at hu; exact List.mem_append_left _ hu), b3.tab, fun H7 g7 => ?_⟩
    have r1 : ([sK] ++ [z3] ++ []).all isNm = isNm z3 := by simp [kt]
    rw [r1]
    refine ⟨_, rfl, rfl, _, rfl, ?_⟩
    refine if_f (by simp) ?_
    -- a kind
    refine ⟨one _, fun m1 q1 => ⟨_, rfl, one _, fun m2 q2 => ⟨Nat.zero_le _, fun m3 q3 => ?_⟩⟩⟩
    have c1 := Grew.new g7.tab (o := .lst [.str sP]) q1
    have c2 := Grew.new c1.tab (o := .lst [.str z3]) q2
    have c3 := Grew.new c2.tab (o := .lst []) q3
    refine ⟨m2, m1, m3, [z3], [sP], [], [], rfl, SqL.of (c3.lst c2.tab upd_same), SqL.of (c3.lst c2.tab (c2.lst c1.tab upd_same)), SqL.of upd_same, .nil, rfl, rfl, Nat.zero_le _, fun e => absurd rfl e,
      fun u hu => ln3 z3 sP sP (by omega) lP lP u (by simp only [List.append_nil] at hu; exact List.mem_append_left _ hu), c3.tab, fun H8 g8 => ?_⟩
    have r2 : ([z3] ++ [sP] ++ []).all isNm = isNm z3 := by simp [pt]
    rw [r2]
    refine ⟨_, rfl, rfl, _, rfl, ?_⟩
    refine if_f (by simp) ?_
    -- a road
    refine ⟨one _, fun o1 w1 => ⟨one _, fun o2 w2 => ⟨_, rfl, one _, fun o5 w5 => ⟨by show 6 ≤ sizeLine; decide, fun o4 w4 => ⟨one _, fun o3 w3 => ?_⟩⟩⟩⟩⟩
    have d1 := Grew.new g8.tab (o := .lst [.str sP]) w1
    have d2 := Grew.new d1.tab (o := .lst [.str sK]) w2
    have d5 := Grew.new d2.tab (o := .lst [.str sK]) w5
    have d4 := Grew.new d5.tab (o := .tup (roadV z3 o5)) w4
    have d3 := Grew.new d4.tab (o := .lst [.ref o4]) w3
    have r3 : ([sK] ++ [sP] ++ [z3]).all isNm = isNm z3 := by simp [pt, kt]
    refine ⟨o2, o1, o3, [sK], [sP], [z3], [.ref o4], rfl, SqL.of (d3.lst d4.tab (d4.lst d5.tab (d5.lst d2.tab upd_same))), SqL.of (d3.lst d4.tab (d4.lst d5.tab (d5.lst d2.tab (d2.lst d1.tab upd_same)))), SqL.of upd_same,
      .cons ⟨o4, o5, rfl, SqT.of (d3.tup d4.tab upd_same), SqL.of (d3.lst d4.tab (d4.lst d5.tab upd_same))⟩ .nil, rfl, rfl, Nat.le_refl _, fun _ => ⟨rfl, rfl⟩,
      fun u hu => ln3 sK sP z3 lK lP (by omega) u hu, d3.tab, fun H9 g9 => ?_⟩
    rw [r3]
    refine ⟨_, rfl, rfl, ?_⟩
    have ed : decide (V.bl (isNm z3) = V.bl (isNm z3)) = true := decide_eq_true rfl
    rw [ed]
    exact k H9
end
end W

set_option Elab.async false
set_option linter.all false
set_option maxRecDepth 100000
set_option maxHeartbeats 4000000
namespace W
open PySem PySem.Spec PyProof.Rows L2 GxR MyG
/-! ### the end: the tables of the defs that hold generator expressions -/
theorem walk_ofN {l : PySem.W.OpenLaw} {n k : Nat} {q : Program} {loose : List Str} {XP : (Str → Option Value) → Heap → Prop} {YP : World → Heap → Prop} {d : DefRec} {K : Params → PySem.W.Frag} {CX : World → CXT} {x : Str} (names : List Str)
    (hn : l.most = some n) (hn2 : n ≤ sizeLine) (hdf : d.params.defaults = []) (hr : Room k callerA) (hrec : names.all (fun y => (recsOf q).any fun e => e.name == y) = true) (hY : ∀ (w : World) (h : Heap), YP w h → (K w.params).In h)
    (F : ∀ (w : World) (mg : Str → Option Value) (fa : Addr) (h : Heap), YP w h → (K w.params).In h → h.Ns mainGlobals mg → mg d.name = some (.ref fa) → (∀ y ∈ names, ∀ f, mg y = some (.ref f) → LamX.OwnTab (K w.params) f h) → LamX.LawAtS l w (K w.params) (CX w) k n x mg fa h)
    (hCX : ∀ (w : World) (H : Hp) (s : Shared) (e : Value) (s' : Shared), CX w [] H s (fun _ _ _ => False) e s' → False) :
    PySem.W.WalkO q loose XP YP l.row.toRowW d [] (fun f vs => PySem.call f vs) := by
  refine Att.attach_callB hn hdf fun w s₀ s₁ mg mb fa o pm cd doc a vs ns G Y ho hd hcd hmg hobj hints hlen hbits hg => ?_
  have KX := hY w _ Y
  have own : ∀ y ∈ names, ∀ f, mg y = some (.ref f) → LamX.OwnTab (K w.params) f s₁.heap := fun y hy f hf c P o1 fd1 e dd vs1 sl k1 k2 k3 k4 k5 => by
    obtain ⟨dL, hm, hn1⟩ := List.any_eq_true.mp (List.all_eq_true.mp hrec y hy)
    have hn2 : dL.name = y := beq_iff_eq.mp hn1
    obtain ⟨a', o', fd', c', P', h1, h2, h3, h4, h5, h6⟩ := G.T.tab dL hm
    rw [hn2, hf] at h1
    cases h1
    have g1 := KX _ _ k1
    rw [g1] at h2
    cases h2
    rw [k2] at h3
    cases h3
    rw [k3] at h4
    cases h4
    obtain ⟨⟨oc, vc, e1, _, e3, e4⟩, hP⟩ := h6
    have g2 := KX _ _ k4
    rw [g2] at e1
    cases e1
    cases e3
    rw [k5] at e4
    cases e4
    exact hP
  obtain ⟨fd, cs, sp, hT, nT, C, hb, hsp, hF⟩ := F w mg fa _ Y KX G.T.g hmg own
  exact LamX.law_callTs KX G.T.g G.T.b G.T.builtins G.T.nolimit hg hT nT C G.T.bmain hobj hints (Nat.le_trans hlen hn2) hr hF hb (fun H hH hS => hsp H a ns hlen hbits hH hS) fun H e s' => hCX w H s₁ e s'
theorem all_mk {l : PySem.W.OpenLaw} {w : World} {K : PySem.W.Frag} {h : Heap} {mg : Str → Option Value} {fa fN fY fA fD fR fO fH fB fW fU fT fL fI M C P qN D0 T0 T1 T2 : Addr} (X : K.In h) (G : h.Ns mainGlobals mg) (hfa : mg "law" = some (.ref fa)) (own : ∀ y ∈ ([("is_name" : Str)] : List Str), ∀ f, mg y = some (.ref f) → LamX.OwnTab K f h)
    {odN anN : Option Addr} {slN : Array (Option Value)} {ocN kVN dcN pmN ctN : Value}
    {odY anY : Option Addr} {slY : Array (Option Value)} {ocY kVY dcY pmY cdY ctY : Value}
    {odA anA : Option Addr} {slA : Array (Option Value)} {ocA kVA dcA pmA cdA ctA : Value}
    {odD anD : Option Addr} {slD : Array (Option Value)} {ocD kVD dcD pmD cdD ctD : Value}
    {odR anR : Option Addr} {slR : Array (Option Value)} {ocR kVR dcR pmR cdR ctR : Value}
    {odO anO : Option Addr} {slO : Array (Option Value)} {ocO kVO dcO pmO cdO ctO : Value}
    {odH anH : Option Addr} {slH : Array (Option Value)} {ocH kVH dcH pmH cdH ctH : Value}
    {odB anB : Option Addr} {slB : Array (Option Value)} {ocB kVB dcB pmB cdB ctB : Value}
    {odW anW : Option Addr} {slW : Array (Option Value)} {ocW kVW dcW pmW cdW ctW : Value}
    {odU anU : Option Addr} {slU : Array (Option Value)} {ocU kVU dcU pmU cdU ctU : Value}
    {odT anT : Option Addr} {slT : Array (Option Value)} {ocT kVT dcT pmT cdT ctT : Value}
    {odL anL : Option Addr} {slL : Array (Option Value)} {ocL kVL dcL pmL cdL ctL : Value}
    {eN : Value} {dN : Option Addr} {vsN : Array Value} {slcN : Array (Option Value)}
    {odI anI : Option Addr} {slI : Array (Option Value)} {ocI dcI pmI cdI ctI : Value}
    {odZ : Option Addr} {slZ : Array (Option Value)} {nZ : Nat}
    {t_LONGEST_NAME t_LONGEST_DAY t_MOST_PLACES t_MOST_KINDS t_MOST_ROADS t_MOST_MINUTES t_MOST_BARS t_NAME t_PARTS t_LETTERS t_DIGITS : Tok}
    (aN : PySem.W.nsIn K mainGlobals "is_name" = some (some (.ref fN)))
    (lN : K.lookup fN = some ⟨ocN, odN, .func (PySem.W.fnOf "is_name" "is_name" (defArgs sIsName) (defBody sIsName) (defScope sIsName) .none kVN dcN pmN anN (.ref qN) ctN), slN⟩)
    (cN : PySem.W.codeIn K (.ref qN) "is_name" = true)
    (kN : PySem.W.keepIn K (.ref fN) = true)
    (aY : PySem.W.nsIn K mainGlobals "_checked_day" = some (some (.ref fY)))
    (lY : K.lookup fY = some ⟨ocY, odY, .func (PySem.W.fnOf "_checked_day" "_checked_day" (defArgs sDay) (defBody sDay) (defScope sDay) .none kVY dcY pmY anY (cdY) ctY), slY⟩)
    (cY : PySem.W.codeIn K (cdY) "_checked_day" = true)
    (kY : PySem.W.keepIn K (.ref fY) = true)
    (aA : PySem.W.nsIn K mainGlobals "_checked_names" = some (some (.ref fA)))
    (lA : K.lookup fA = some ⟨ocA, odA, .func (PySem.W.fnOf "_checked_names" "_checked_names" (defArgs sNames) (defBody sNames) (defScope sNames) .none kVA dcA pmA anA (cdA) ctA), slA⟩)
    (cA : PySem.W.codeIn K (cdA) "_checked_names" = true)
    (kA : PySem.W.keepIn K (.ref fA) = true)
    (aD : PySem.W.nsIn K mainGlobals "_check_different" = some (some (.ref fD)))
    (lD : K.lookup fD = some ⟨ocD, odD, .func (PySem.W.fnOf "_check_different" "_check_different" (defArgs sDiff) (defBody sDiff) (defScope sDiff) .none kVD dcD pmD anD (cdD) ctD), slD⟩)
    (cD : PySem.W.codeIn K (cdD) "_check_different" = true)
    (kD : PySem.W.keepIn K (.ref fD) = true)
    (aR : PySem.W.nsIn K mainGlobals "_checked_roads" = some (some (.ref fR)))
    (lR : K.lookup fR = some ⟨ocR, odR, .func (PySem.W.fnOf "_checked_roads" "_checked_roads" (defArgs sRoads) (defBody sRoads) (defScope sRoads) .none kVR dcR pmR anR (cdR) ctR), slR⟩)
    (cR : PySem.W.codeIn K (cdR) "_checked_roads" = true)
    (kR : PySem.W.keepIn K (.ref fR) = true)
    (aO : PySem.W.nsIn K mainGlobals "_checked_road" = some (some (.ref fO)))
    (lO : K.lookup fO = some ⟨ocO, odO, .func (PySem.W.fnOf "_checked_road" "_checked_road" (defArgs sRoad) (defBody sRoad) (defScope sRoad) .none kVO dcO pmO anO (cdO) ctO), slO⟩)
    (cO : PySem.W.codeIn K (cdO) "_checked_road" = true)
    (kO : PySem.W.keepIn K (.ref fO) = true)
    (aH : PySem.W.nsIn K mainGlobals "_checked_hours" = some (some (.ref fH)))
    (lH : K.lookup fH = some ⟨ocH, odH, .func (PySem.W.fnOf "_checked_hours" "_checked_hours" (defArgs sHours) (defBody sHours) (defScope sHours) .none kVH dcH pmH anH (cdH) ctH), slH⟩)
    (cH : PySem.W.codeIn K (cdH) "_checked_hours" = true)
    (kH : PySem.W.keepIn K (.ref fH) = true)
    (aB : PySem.W.nsIn K mainGlobals "_checked_bars" = some (some (.ref fB)))
    (lB : K.lookup fB = some ⟨ocB, odB, .func (PySem.W.fnOf "_checked_bars" "_checked_bars" (defArgs sBars) (defBody sBars) (defScope sBars) .none kVB dcB pmB anB (cdB) ctB), slB⟩)
    (cB : PySem.W.codeIn K (cdB) "_checked_bars" = true)
    (kB : PySem.W.keepIn K (.ref fB) = true)
    (aW : PySem.W.nsIn K mainGlobals "_law_row" = some (some (.ref fW)))
    (lW : K.lookup fW = some ⟨ocW, odW, .func (PySem.W.fnOf "_law_row" "_law_row" (defArgs sRow) (defBody sRow) (defScope sRow) .none kVW dcW pmW anW (cdW) ctW), slW⟩)
    (cW : PySem.W.codeIn K (cdW) "_law_row" = true)
    (kW : PySem.W.keepIn K (.ref fW) = true)
    (aU : PySem.W.nsIn K mainGlobals "_law_numbers" = some (some (.ref fU)))
    (lU : K.lookup fU = some ⟨ocU, odU, .func (PySem.W.fnOf "_law_numbers" "_law_numbers" (defArgs sNumbers) (defBody sNumbers) (defScope sNumbers) .none kVU dcU pmU anU (cdU) ctU), slU⟩)
    (cU : PySem.W.codeIn K (cdU) "_law_numbers" = true)
    (kU : PySem.W.keepIn K (.ref fU) = true)
    (aT : PySem.W.nsIn K mainGlobals "_law_taken" = some (some (.ref fT)))
    (lT : K.lookup fT = some ⟨ocT, odT, .func (PySem.W.fnOf "_law_taken" "_law_taken" (defArgs sTaken) (defBody sTaken) (defScope sTaken) .none kVT dcT pmT anT (cdT) ctT), slT⟩)
    (cT : PySem.W.codeIn K (cdT) "_law_taken" = true)
    (kT : PySem.W.keepIn K (.ref fT) = true)
    (aL : PySem.W.nsIn K mainGlobals "law" = some (some (.ref fL)))
    (lL : K.lookup fL = some ⟨ocL, odL, .func (PySem.W.fnOf "law" "law" (defArgs sLaw) (defBody sLaw) (defScope sLaw) .none kVL dcL pmL anL (cdL) ctL), slL⟩)
    (cL : PySem.W.codeIn K (cdL) "law" = true)
    (kL : PySem.W.keepIn K (.ref fL) = true)
    (lcN : K.lookup qN = some ⟨eN, dN, .fields vsN, slcN⟩)
    (v11 : vsN[11]? = some (.ref P))
    (hcN : PySem.W.codeHdIn K qN P = true)
    (nP : K.lookup P = none)
    (aM : PySem.W.nsIn K mainGlobals "Map" = some (some (.ref M)))
    (aI : PySem.W.findIn K (.ref M) "__init__" = some (some (.ref fI)))
    (iI : PySem.W.isFn K (.ref fI) = true)
    (lI : K.lookup fI = some ⟨ocI, odI, .func (PySem.W.fnOf "__init__" "Map.__init__" (defArgs sInit) (defBody sInit) (defScope sInit) .none (.ref D0) dcI pmI anI cdI ctI), slI⟩)
    (cI : PySem.W.codeIn K cdI "Map.__init__" = true)
    (kI : PySem.W.keepIn K (.ref fI) = true)
    (d_places : PySem.W.nsIn K D0 "places" = some (some (.ref T1)))
    (d_roads : PySem.W.nsIn K D0 "roads" = some (some (.ref T2)))
    (d_bars : PySem.W.nsIn K D0 "bars" = some (some (.ref T0)))
    (lT0 : K.lookup T0 = some ⟨.type "tuple", odZ, .seq #[] nZ, slZ⟩)
    (pg : PySem.W.plainGet K M Str.empty = true)
    (hd : PySem.W.hasDictIn K M = true)
    (po : PySem.W.plainOver K M = true)
    (sa : PySem.W.findIn K (.ref M) "__setattr__" = some (some (.builtin "object.__setattr__")))
    (mk : PySem.W.makesIn K M = true)
    (kM : PySem.W.keepIn K (.ref M) = true)
    (n_day : PySem.W.findIn K (.ref M) "day" = some none)
    (n_kinds : PySem.W.findIn K (.ref M) "kinds" = some none)
    (n_places : PySem.W.findIn K (.ref M) "places" = some none)
    (n_roads : PySem.W.findIn K (.ref M) "roads" = some none)
    (n__roads_by_name : PySem.W.findIn K (.ref M) "_roads_by_name" = some none)
    (n_bars : PySem.W.findIn K (.ref M) "bars" = some none)
    (n__barred : PySem.W.findIn K (.ref M) "_barred" = some none)
    (gC : PySem.W.nsIn K mainGlobals "InvalidMap" = some (some (.ref C)))
    (xC : PySem.W.excIn K C [.type "ValueError", .type "Exception", .type "BaseException", .type "object"] "ValueError.__new__" = true)
    (kC : PySem.W.keepIn K (.ref C) = true)
    (bC : PySem.W.subIn K (.ref C) (.type "BaseException") = some true)
    (tC : PySem.W.typeIn K (.ref C) = some (.type "type"))
    (iC : PySem.W.isClsIn K C = true)
    (sC : PySem.W.subIn K (.ref C) (.ref C) = some true)
    (g_LONGEST_NAME : PySem.W.nsIn K mainGlobals "LONGEST_NAME" = some (some (.int 12 t_LONGEST_NAME)))
    (g_LONGEST_DAY : PySem.W.nsIn K mainGlobals "LONGEST_DAY" = some (some (.int 1440 t_LONGEST_DAY)))
    (g_MOST_PLACES : PySem.W.nsIn K mainGlobals "MOST_PLACES" = some (some (.int 30 t_MOST_PLACES)))
    (g_MOST_KINDS : PySem.W.nsIn K mainGlobals "MOST_KINDS" = some (some (.int 4 t_MOST_KINDS)))
    (g_MOST_ROADS : PySem.W.nsIn K mainGlobals "MOST_ROADS" = some (some (.int 60 t_MOST_ROADS)))
    (g_MOST_MINUTES : PySem.W.nsIn K mainGlobals "MOST_MINUTES" = some (some (.int 1000 t_MOST_MINUTES)))
    (g_MOST_BARS : PySem.W.nsIn K mainGlobals "MOST_BARS" = some (some (.int 40 t_MOST_BARS)))
    (g_NAME : PySem.W.nsIn K mainGlobals "NAME" = some (some (.int 0 t_NAME)))
    (g_PARTS : PySem.W.nsIn K mainGlobals "PARTS" = some (some (.int 6 t_PARTS)))
    (g_LETTERS : PySem.W.nsIn K mainGlobals "LETTERS" = some (some (.str zLet t_LETTERS)))
    (g_DIGITS : PySem.W.nsIn K mainGlobals "DIGITS" = some (some (.str zDig t_DIGITS)))
    (z_len : PySem.W.nsIn K mainGlobals "len" = some none)
    (z_all : PySem.W.nsIn K mainGlobals "all" = some none)
    (z_set : PySem.W.nsIn K mainGlobals "set" = some none)
    (z_tuple : PySem.W.nsIn K mainGlobals "tuple" = some none)
    (z_sorted : PySem.W.nsIn K mainGlobals "sorted" = some none)
    (z_abs : PySem.W.nsIn K mainGlobals "abs" = some none)
    (z_int : PySem.W.nsIn K mainGlobals "int" = some none)
    (z_range : PySem.W.nsIn K mainGlobals "range" = some none)
    (z_max : PySem.W.nsIn K mainGlobals "max" = some none)
    (z_isinstance : PySem.W.nsIn K mainGlobals "isinstance" = some none)
    (z_bool : PySem.W.nsIn K mainGlobals "bool" = some none) :
    LamX.LawAtS l w K CX0 8 63 "script" mg fa h := by
  have e := hfa.symm.trans (PySem.W.mg_of X G aL)
  cases e
  have FN := fun_mk (st := sIsName) lN cN kN
  have bN := FN.binds (ps := ["text"]) fun _ _ _ _ _ _ us hl => match us, hl with | [_], _ => rfl
  have mN := PySem.W.mg_of X G aN
  have FY := fun_mk (st := sDay) lY cY kY
  have bY := FY.binds (ps := ["day"]) fun _ _ _ _ _ _ us hl => match us, hl with | [_], _ => rfl
  have mY := PySem.W.mg_of X G aY
  have FA := fun_mk (st := sNames) lA cA kA
  have bA := FA.binds (ps := ["names", "least", "most"]) fun _ _ _ _ _ _ us hl => match us, hl with | [_, _, _], _ => rfl
  have mA := PySem.W.mg_of X G aA
  have FD := fun_mk (st := sDiff) lD cD kD
  have bD := FD.binds (ps := ["parts"]) fun _ _ _ _ _ _ us hl => match us, hl with | [_], _ => rfl
  have mD := PySem.W.mg_of X G aD
  have FR := fun_mk (st := sRoads) lR cR kR
  have bR := FR.binds (ps := ["roads", "day", "places", "kinds"]) fun _ _ _ _ _ _ us hl => match us, hl with | [_, _, _, _], _ => rfl
  have mR := PySem.W.mg_of X G aR
  have FO := fun_mk (st := sRoad) lO cO kO
  have bO := FO.binds (ps := ["road", "day", "places", "kinds"]) fun _ _ _ _ _ _ us hl => match us, hl with | [_, _, _, _], _ => rfl
  have mO := PySem.W.mg_of X G aO
  have FH := fun_mk (st := sHours) lH cH kH
  have bH := FH.binds (ps := ["hours", "day"]) fun _ _ _ _ _ _ us hl => match us, hl with | [_, _], _ => rfl
  have mH := PySem.W.mg_of X G aH
  have FB := fun_mk (st := sBars) lB cB kB
  have bB := FB.binds (ps := ["bars", "roads_by_name"]) fun _ _ _ _ _ _ us hl => match us, hl with | [_, _], _ => rfl
  have mB := PySem.W.mg_of X G aB
  have FW := fun_mk (st := sRow) lW cW kW
  have bW := FW.binds (ps := ["cell", "many"]) fun _ _ _ _ _ _ us hl => match us, hl with | [_, _], _ => rfl
  have mW := PySem.W.mg_of X G aW
  have FU := fun_mk (st := sNumbers) lU cU kU
  have bU := FU.binds (ps := ["script", "many"]) fun _ _ _ _ _ _ us hl => match us, hl with | [_, _], _ => rfl
  have mU := PySem.W.mg_of X G aU
  have FT := fun_mk (st := sTaken) lT cT kT
  have bT := FT.binds (ps := ["places", "kinds", "roads"]) fun _ _ _ _ _ _ us hl => match us, hl with | [_, _, _], _ => rfl
  have mT := PySem.W.mg_of X G aT
  have FL := fun_mk (st := sLaw) lL cL kL
  have bL := FL.binds (ps := ["script"]) fun _ _ _ _ _ _ us hl => match us, hl with | [_], _ => rfl
  have mL := PySem.W.mg_of X G aL
  have e_len := PySem.W.mg_none_of X G z_len
  have e_all := PySem.W.mg_none_of X G z_all
  have e_set := PySem.W.mg_none_of X G z_set
  have e_tuple := PySem.W.mg_none_of X G z_tuple
  have e_sorted := PySem.W.mg_none_of X G z_sorted
  have e_abs := PySem.W.mg_none_of X G z_abs
  have e_int := PySem.W.mg_none_of X G z_int
  have e_range := PySem.W.mg_none_of X G z_range
  have e_max := PySem.W.mg_none_of X G z_max
  have e_isinstance := PySem.W.mg_none_of X G z_isinstance
  have e_bool := PySem.W.mg_none_of X G z_bool
  have i_LONGEST_NAME := PySem.W.mg_of X G g_LONGEST_NAME
  have i_LONGEST_DAY := PySem.W.mg_of X G g_LONGEST_DAY
  have i_MOST_PLACES := PySem.W.mg_of X G g_MOST_PLACES
  have i_MOST_KINDS := PySem.W.mg_of X G g_MOST_KINDS
  have i_MOST_ROADS := PySem.W.mg_of X G g_MOST_ROADS
  have i_MOST_MINUTES := PySem.W.mg_of X G g_MOST_MINUTES
  have i_MOST_BARS := PySem.W.mg_of X G g_MOST_BARS
  have i_NAME := PySem.W.mg_of X G g_NAME
  have i_PARTS := PySem.W.mg_of X G g_PARTS
  have i_LETTERS := PySem.W.mg_of X G g_LETTERS
  have i_DIGITS := PySem.W.mg_of X G g_DIGITS
  have TM : TxtM K M := ⟨⟨pg, hd, po, sa⟩, n_day, n_kinds, n_places, n_roads, n__roads_by_name, n_bars, n__barred⟩
  have TE : TxtE mg K C := ⟨PySem.W.mg_of X G gC, xC, kC, bC, tC⟩
  have TN : Txt K mg C P := ⟨⟨_, i_LETTERS⟩, ⟨_, i_DIGITS⟩, ⟨_, i_LONGEST_NAME⟩, e_len, e_all⟩
  have FI : FunD K "__init__" "Map.__init__" (defArgs sInit) (defBody sInit) (defScope sInit) [] [("places", V.ref T1), ("roads", V.ref T2), ("bars", V.ref T0)] fI (PySem.W.fnOf "__init__" "Map.__init__" (defArgs sInit) (defBody sInit) (defScope sInit) .none (.ref D0) dcI pmI anI cdI ctI) :=
    ⟨⟨_, _, _, _, _, _, _, _, _, _, rfl, lI, cI, .inl ⟨rfl, rfl⟩, .inr ⟨D0, rfl, fun q hq => by
      simp only [List.mem_cons, List.not_mem_nil, or_false] at hq
      rcases hq with e | e | e <;> rw [e]
      · exact ⟨_, d_places, rfl⟩
      · exact ⟨_, d_roads, rfl⟩
      · exact ⟨_, d_bars, rfl⟩⟩⟩, kI⟩
  obtain ⟨mv, kb⟩ := map_binds FI
  have hT0 : ∀ H : Hp, SqT K H T0 [] := fun H => .inr ⟨_, #[], nZ, lT0, rfl, rfl, Nat.zero_le _, .nil⟩
  have eC := exm_own bC iC tC sC
  have tabP : h.get? P = some { cls := .none, data := .fields #[] } := own _ (List.mem_singleton.mpr rfl) _ mN qN P _ _ _ _ _ _ lN rfl rfl lcN v11
  refine ⟨PySem.W.fnOf "law" "law" (defArgs sLaw) (defBody sLaw) (defScope sLaw) .none kVL dcL pmL anL cdL ctL, [(qN, P)], spLaw K P, ?_, ?_, ?_, fun s v => .of_eq rfl, ?_, ?_⟩
  · intro p hp
    rw [List.mem_singleton.mp hp]
    exact tabP
  · intro p hp
    rw [List.mem_singleton.mp hp]
    exact nP
  · intro p hp
    rw [List.mem_singleton.mp hp]
    exact PySem.W.codeHd_of_K X hcN
  · intro H a ns hl _ hT hS
    exact ⟨a, ns, rfl, hS, hl, ⟨#[], hT (qN, P) (List.mem_singleton.mpr rfl), by first | trivial | exact True.intro | decide⟩, fun _ => rfl⟩
  · intro base KB NB TB
    have TBL := TB (qN, P) (List.mem_singleton.mpr rfl)
    have TBN : TabB base mg qN P := ⟨TBL.code, TBL.bm, TBL.gP⟩
    have GN : FnOk l.prog w K mg base CX0 2 fN _ ["text"] (spIsName P) := ok_isName FN TN TBN rfl NB
    have GY : FnOk l.prog w K mg base CX0 1 fY _ ["day"] spDay := ok_day FY i_LONGEST_DAY
    have GD : FnOk l.prog w K mg base CX0 1 fD _ ["parts"] (spDiff K) := ok_diff FD e_len e_set
    have GH : FnOk l.prog w K mg base CX0 1 fH _ ["hours", "day"] spHours := ok_hours FH
    have GA := ok_names FA TE e_len e_tuple e_sorted GN mN kN bN GD mD kD bD
    have GO : FnOk l.prog w K mg base CX0 2 fO _ ["road", "day", "places", "kinds"] (spRoad K P) := ok_road FO e_tuple e_sorted i_MOST_MINUTES GD mD kD bD GH mH kH bH
    have GR := ok_roads FR e_len e_tuple e_sorted i_PARTS i_NAME i_MOST_ROADS GA mA kA bA GO mO kO bO
    have GB : FnOk l.prog w K mg base CX0 2 fB _ ["bars", "roads_by_name"] (spBars K P) := ok_bars FB e_len e_tuple e_sorted i_MOST_BARS GD mD kD bD
    have GI := ok_init FI TM i_NAME i_MOST_KINDS i_MOST_PLACES GY mY kY bY GA mA kA bA GR mR kR bR GB mB kB bB
    have GT := ok_taken FT TE TM eC e_len e_tuple ⟨mk, aI, iI, kM⟩ (PySem.W.mg_of X G aM) hT0 GI kb
    have GW : FnOk l.prog w K mg base CX0 1 fW _ ["cell", "many"] (spRow P) := ok_row FW e_abs e_int e_range
    have GU := ok_numbers FU e_len e_max GW mW kW bW
    exact ok_law FL e_len e_int e_range e_isinstance e_bool GU mU kU bU GN mN kN bN GT mT kT bT
end W

set_option Elab.async false
open PySem PySem.W PyProof.Rows in
set_option maxRecDepth 100000 in
set_option maxHeartbeats 0 in
theorem PySem.Challenge.cw_waypapers_k08_names_holds : PySem.Challenge.rw_waypapers_k08_names.Holds := by
  w_on; o_law; k_head; (case hw => w_witness2)
  k_fill
  refine W.walk_ofN (l := PySem.Challenge.rw_waypapers_k08_names) (n := 63) (k := 8) (x := "script") (CX := fun _ => L2.CX0) ["is_name"] rfl (by decide) rfl ⟨rfl, by decide, by decide⟩ (by decide +kernel) (fun w h Y => PySem.W.kIn_of Y) ?F (fun _ _ _ _ _ z => z)
  case F =>
    intro w mg fa h Y KX G hmg own
    refine' W.all_mk KX G hmg own ?aN ?lN ?cN ?kN ?aY ?lY ?cY ?kY ?aA ?lA ?cA ?kA ?aD ?lD ?cD ?kD ?aR ?lR ?cR ?kR ?aO ?lO ?cO ?kO ?aH ?lH ?cH ?kH ?aB ?lB ?cB ?kB ?aW ?lW ?cW ?kW ?aU ?lU ?cU ?kU ?aT ?lT ?cT ?kT ?aL ?lL ?cL ?kL ?lcN ?v11 ?hcN ?nP ?aM ?aI ?iI ?lI ?cI ?kI ?d_places ?d_roads ?d_bars ?lT0 ?pg ?hd ?po ?sa ?mk ?kM ?n_day ?n_kinds ?n_places ?n_roads ?n__roads_by_name ?n_bars ?n__barred ?gC ?xC ?kC ?bC ?tC ?iC ?sC ?g_LONGEST_NAME ?g_LONGEST_DAY ?g_MOST_PLACES ?g_MOST_KINDS ?g_MOST_ROADS ?g_MOST_MINUTES ?g_MOST_BARS ?g_NAME ?g_PARTS ?g_LETTERS ?g_DIGITS ?z_len ?z_all ?z_set ?z_tuple ?z_sorted ?z_abs ?z_int ?z_range ?z_max ?z_isinstance ?z_bool
    (case aN => k_is)
    (case lN => k_is)
    (case cN => k_is)
    (case kN => k_is)
    (case aY => k_is)
    (case lY => k_is)
    (case cY => k_is)
    (case kY => k_is)
    (case aA => k_is)
    (case lA => k_is)
    (case cA => k_is)
    (case kA => k_is)
    (case aD => k_is)
    (case lD => k_is)
    (case cD => k_is)
    (case kD => k_is)
    (case aR => k_is)
    (case lR => k_is)
    (case cR => k_is)
    (case kR => k_is)
    (case aO => k_is)
    (case lO => k_is)
    (case cO => k_is)
    (case kO => k_is)
    (case aH => k_is)
    (case lH => k_is)
    (case cH => k_is)
    (case kH => k_is)
    (case aB => k_is)
    (case lB => k_is)
    (case cB => k_is)
    (case kB => k_is)
    (case aW => k_is)
    (case lW => k_is)
    (case cW => k_is)
    (case kW => k_is)
    (case aU => k_is)
    (case lU => k_is)
    (case cU => k_is)
    (case kU => k_is)
    (case aT => k_is)
    (case lT => k_is)
    (case cT => k_is)
    (case kT => k_is)
    (case aL => k_is)
    (case lL => k_is)
    (case cL => k_is)
    (case kL => k_is)
    (case lcN => k_is)
    (case v11 => rfl)
    (case hcN => kernel_rfl)
    (case nP => kernel_rfl)
    (case aM => k_is)
    (case aI => k_is)
    (case iI => k_is)
    (case lI => k_is)
    (case cI => k_is)
    (case kI => k_is)
    (case d_places => k_is)
    (case d_roads => k_is)
    (case d_bars => k_is)
    (case lT0 => k_is)
    (case pg => k_is)
    (case hd => k_is)
    (case po => k_is)
    (case sa => k_is)
    (case mk => k_is)
    (case kM => k_is)
    (case n_day => k_is)
    (case n_kinds => k_is)
    (case n_places => k_is)
    (case n_roads => k_is)
    (case n__roads_by_name => k_is)
    (case n_bars => k_is)
    (case n__barred => k_is)
    (case gC => k_is)
    (case xC => k_exc)
    (case kC => k_is)
    (case bC => k_is)
    (case tC => k_is)
    (case iC => k_is)
    (case sC => first | rfl | k_is)
    (case g_LONGEST_NAME => k_is)
    (case g_LONGEST_DAY => k_is)
    (case g_MOST_PLACES => k_is)
    (case g_MOST_KINDS => k_is)
    (case g_MOST_ROADS => k_is)
    (case g_MOST_MINUTES => k_is)
    (case g_MOST_BARS => k_is)
    (case g_NAME => k_is)
    (case g_PARTS => k_is)
    (case g_LETTERS => k_is)
    (case g_DIGITS => k_is)
    (case z_len => k_is)
    (case z_all => k_is)
    (case z_set => k_is)
    (case z_tuple => k_is)
    (case z_sorted => k_is)
    (case z_abs => k_is)
    (case z_int => k_is)
    (case z_range => k_is)
    (case z_max => k_is)
    (case z_isinstance => k_is)
    (case z_bool => k_is)

