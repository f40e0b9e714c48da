import PyProof.Rows.All
import Wide.All
import OpenK.AllK
import Wide.FinOn
import PyProof.EqAt
import PyProof.EqKinds
import PyProof.TupleCall
import PyProof.FString
import KE.KExcSuper
import KE.KExcIs
import HandS.ExcSuper
import HandS.ExcField
import HandS.ExcIs
import HandS.Words
import HandS.WordsExc
import HandS.Text
import HandS.ForMost
import HandS.Walk
import HandS.Defaults
import HandS.CallSlots
import HandS.ForExc
import PySem.Challenge.RW_farfacts_k01_names_and_uids
set_option Elab.async false
set_option linter.all false
set_option maxRecDepth 100000
set_option maxHeartbeats 4000000
namespace PySem
namespace OorX
open PySem.W PySem.Calls PyProof.Rows PySem.HandSPX
/-! ### the text of OutOfRange.__init__ -/
def top (i : Nat) : Stmt := PySem.Challenge.pw_farfacts_k01_names_and_uids.main.body.getD i (.Pass ⟨0, 0, 0, 0⟩)
abbrev sInit : Stmt := L2.inClass (top 3) 0
def iA : Arguments := L2.defArgs sInit
def iB : List Stmt := L2.defBody sInit
def iS : Scope := L2.defScope sInit
abbrev jsE' : Expr := .JoinedStr [.FormattedValue (.Name "name" ⟨14, 28, 14, 32⟩) (-1) none ⟨14, 27, 14, 33⟩, .Constant (.str " is out of its bounds") 0 ⟨14, 33, 14, 54⟩] ⟨14, 25, 14, 55⟩
def msg (n : Str) : Str := (Str.empty ++ n) ++ (" is out of its bounds" : Str)

structure OorTxt (prog : Program) (K : Frag) (mg : Str → Option Value) (C fI : Addr) : Prop where
  gC : mg "OutOfRange" = some (.ref C)
  cls : ∃ nm q N bs bm sn sub ab col dd k0 k1 k2 k3 k5, K.lookup C = some (excClassObj nm q C N bs bm true sn sub ab col dd k0 k1 k2 k3 k5 "ValueError.__new__") ∧ refsVE bm = true
  sa : findIn K (.ref C) "__setattr__" = some (some (.builtin "object.__setattr__"))
  noN : findIn K (.ref C) "name" = some none
  iC : findIn K (.ref C) "__init__" = some (some (.ref fI))
  tC : typeIn K (.ref fI) = some (.type "function")
  kC : keepIn K (.ref C) = true
  exC : subIn K (.ref C) (.type "BaseException") = some true
  tyC : typeIn K (.ref C) = some (.type "type")
  sup : ks_superIn K C C "__init__" = some (some (.builtin "ValueError.__init__"))
  any : nsIn K cStatics "thirdparty.any" = some none
  veC : subIn K (.ref C) (.type "ValueError") = some true
  own : mroIn K C (.ref C) = some true
  gsup : mg "super" = none
  noTop : (prog.main.scope.names.lookup ("super" : Str)).isSome = false
  fn : ∃ (oc : Value) (od : Option Addr) (doc pm : Value) (an : Option Addr) (ct : Value) (osl : Array (Option Value)) (cc cda : Addr) (ccl : Value) (cdd : Option Addr) (vs : Array Value) (ccs : Array (Option Value)) (file : Str) (tf : Tok) (cl : Value) (cld : Option Addr) (csl : Array (Option Value)),
    K.lookup fI = some ⟨oc, od, .func (ksFn "__init__" "OutOfRange.__init__" iA iB iS .none .none doc pm an (.ref cda) ct cc), osl⟩ ∧ codeIn K (.ref cda) "OutOfRange.__init__" = true ∧
    K.lookup cda = some ⟨ccl, cdd, .fields vs, ccs⟩ ∧ vs[2]? = some (.str file tf) ∧ ((prog.main.file : Str) == file) = true ∧ K.lookup cc = some ⟨cl, cld, .cell (some (.ref C)), csl⟩

/-- what __init__ leaves of the new exception at x -/
structure InitEnd (h h' : Heap) (x C dx t1 : Addr) (v : Value) : Prop where
  keep : ∀ b o, b ≠ x → h.get? b = some o → h'.get? b = some o
  obj : h'.get? x = some { cls := .ref C, dict := some dx, data := .fields #[.ref t1, .none, .none, .none, .bool false, .none] }
  dbig : h.objs.size ≤ dx
  dne : dx ≠ x
  ns : h'.Ns1 dx (fun y => if y = "name" then some v else none)
structure OwnMade (h h' : Heap) (e C d : Addr) (v : Value) : Prop where
  keep : ∀ b o, h.get? b = some o → h'.get? b = some o
  new : h.objs.size ≤ e
  obj : ∃ oe vs, h'.get? e = some oe ∧ oe.cls = .ref C ∧ oe.dict = some d ∧ oe.data = .fields vs ∧ vs[1]? = some .none
  dbig : h.objs.size ≤ d
  dne : d ≠ e
  ns : h'.Ns1 d (fun y => if y = "name" then some v else none)

section
variable {prog : Program} {w : World} {A : Around} {E : Value → Shared → Prop} {s : Shared} {h : Heap} {g : Array GenState} {d : Drawn} {t : Nat} {os : OsState}
/-- the wrapper of ValueError.__init__ called on an instance: its args are laid anew -/
theorem call_wrap {nm q : Str} {C N : Addr} {bs bm : List Value} {hdct : Bool} {sn : List Str} {sub : List Value} {ab : Bool} {col : Option Bool} {dd : Option Addr} {k0 k1 k2 k3 k5 : Option Value}
    {u e t0 : Addr} {rest : List Value} {Q : Value → Shared → Prop}
    (hC : h.get? C = some (excClassObj nm q C N bs bm hdct sn sub ab col dd k0 k1 k2 k3 k5 "ValueError.__new__")) (he : h.get? e = some (excO C t0)) (hu : h.get? u = some (kxs_mw "ValueError.__init__" e)) (hrest : rest.length ≤ sizeLine)
    (hq : ∀ h' t1, (∀ b o, b ≠ e → h.get? b = some o → h'.get? b = some o) → h'.get? e = some (excO C t1) → Q .none ⟨h', g, d, t, os⟩) :
    wpAny (model prog w) A (call (.ref u) rest) Q E ⟨h, g, d, t, os⟩ := by
  have FB := F.excBase_ValueError
  refine wpAny_call (codeAny_of_tree (show wpAny (model prog w) A.in1 (callAny (.ref u) ⟨rest, []⟩) _ _ _ from ?_))
  unfold callAny
  refine wpAny_bind (wpAny_load hu ?_)
  simp only [kxs_mw, show (Value.type "method-wrapper" == Value.type "method" || Value.type "method-wrapper" == Value.type "builtin_function_or_method" || Value.type "method-wrapper" == Value.type "method-wrapper") = true from by decide, if_true]
  refine KFB.if_so (by decide) (wpAny_bind (check_bound_init FB.toExcCallFacts hC he rfl (wpAny_bind (wpAny_pure (wpAny_pure ?_)))))
  exact ⟨plainId_quiet FB.init.plain _, codeAny_builtin FB.initEntry (exc_init_tree (cls := .ref C) (t0 := t0) (dv := none) (c2 := .none) (c3 := .none) (b4 := .bool false) he hrest fun h' k e' _ => hq h' _ k e')⟩

theorem ldV {M : Model} {env : Env} {m : Str → Option Value} {x : Str} {pos : Pos} {v : Value} {Q : Value → Shared → Prop} (hn : s.heap.Ns env.locals m) (hv : m x = some v) (hq : Q v s)
    (hk : env.scope.kind = .function := by rfl) (hl : env.kindOf x = some .local := by rfl) (hd : (x == ("__debug__" : Str)) = false := by decide) : wpAny M A (eval (.Name x pos) env) Q E s := wpAny_Name (wpAny_loadName_local hk hl hn hv hq) hd

theorem one_size (v : Value) : [v].length ≤ sizeLine := by rw [sizeLine_eq]; exact (by decide : 1 ≤ 16777216)
theorem js_eval {env : Env} {m : Str → Option Value} {nm : Str} {tk : Tok} {Q : Value → Shared → Prop} (hn : s.heap.Ns env.locals m) (hv : m "name" = some (.str nm tk)) (hk : env.scope.kind = .function) (hl : env.kindOf "name" = some .local) (hz : nm.length ≤ 1000)
    (hq : ∀ out t t', out.length ≤ 2000 → Q (.str out t) { s with toks := t' }) : wpAny (model prog w) A (eval jsE' env) Q E s := by
  have e0 : (Str.empty ++ nm : Str) = nm := by
    obtain ⟨a⟩ := nm
    show (⟨#[] ++ a⟩ : Str) = ⟨a⟩
    rw [Array.empty_append]
  have l1 : (nm ++ (" is out of its bounds" : Str) : Str).length ≤ 2000 := by
    rw [strLen_append]
    have : (" is out of its bounds" : Str).length = 21 := by decide +kernel
    omega
  have b1 : nm.length ≤ sizeLine := by rw [sizeLine_eq]; omega
  refine wpAny_JoinedStr ?_
  have fin : ∀ (t0 : Tok) (s1 : Shared), (∃ k, s1 = { s with toks := k }) → ∃ y t, Value.str nm t0 = .str y t ∧ (Str.empty ++ y).length ≤ sizeLine ∧ Joins (model prog w) A E (evalEach [.Constant (.str " is out of its bounds") 0 ⟨14, 33, 14, 54⟩] env) (Str.empty ++ y) (fun out s₁ => out.length ≤ sizeLine ∧ Q (.str out s₁.toks) { s₁ with toks := s₁.toks + 1 }) s1 := by
    rintro t0 s1 ⟨k, rfl⟩
    refine ⟨nm, t0, rfl, by rw [e0]; exact b1, ?_⟩
    show wpAny (model prog w) A (eval (.Constant (.str " is out of its bounds") 0 ⟨14, 33, 14, 54⟩) env) _ E _
    refine Calls.Constant_str ⟨_, _, rfl, ?_, ?_⟩
    · rw [e0, sizeLine_eq]; omega
    · refine ⟨?_, ?_⟩
      · rw [e0, sizeLine_eq]; omega
      · rw [e0]; exact hq _ _ _ l1
  show wpAny (model prog w) A (eval (.FormattedValue (.Name "name" ⟨14, 28, 14, 32⟩) (-1) none ⟨14, 27, 14, 33⟩) env) _ E s
  exact wpAny_FormattedValue_plain (ldV hn hv (wpAny_formatField_str (fin _ _ ⟨_, rfl⟩) (fin _ _ ⟨_, rfl⟩) b1) hk hl)

theorem oor_init {R : Result → Shared → Prop} {K : Frag} {mg : Str → Option Value} {C fI : Addr} (T : OorTxt prog K mg C fI) {x t0 : Addr} {nm : Str} {tk0 : Tok} (X : K.In s.heap) (hlim : s.heap.NoLimit) (G : s.heap.Ns mainGlobals mg)
    (Bt : ∃ mb, s.heap.Ns builtinsNs mb ∧ ∀ x : Str, x ≠ "__name__" → mb x = bootBuiltins x) (hx : s.heap.get? x = some (excO C t0)) (hno : ∀ o, K.lookup x ≠ some o) (hroom : A.depth < recursionLimit) (hz : nm.length ≤ 1000)
    (hq : ∀ h' tk dx t1, InitEnd s.heap h' x C dx t1 (.str nm tk0) → R (.ok (.ret .none)) { s with heap := h', toks := tk }) :
    codeAny (model prog w) A (.call (.ref fI) ⟨[.ref x, .str nm tk0], []⟩) R s := by
  obtain ⟨oc, od, doc, pm, an, ct, osl, cc, cda, ccl, cdd, vs, ccs, file, tf, cl, cld, csl, ho, hcd, hcda, hvs, hfile, hcell⟩ := T.fn
  obtain ⟨nmC, q, N, bs, bm, sn, sub, ab, col, dd, k0, k1, k2, k3, k5, hC, hbm⟩ := T.cls
  obtain ⟨mb, hb1, hb2⟩ := Bt
  have hcl : clsIn K C = some { name := nmC, bases := bs, mro := .ref C :: bm, ns := N, qualname := q, hasDict := true, slotNames := sn, subclasses := sub, abstract := ab, collection := col, hasDel := false } := by unfold clsIn; rw [hC] <;> rfl
  refine ks_codeAny_call_defAt (fd := ksFn "__init__" "OutOfRange.__init__" iA iB iS .none .none doc pm an (.ref cda) ct cc) (body := iB) (binds := [("self", .ref x), ("name", .str nm tk0)])
    hroom (X _ _ ho) rfl hlim (codeRec_of X hcd) rfl (BindsTo.of_eq rfl) (show ∀ y ∈ iS.names, y.2 ≠ .cell from by decide) (locs rfl) (fun h₁ hn₁ k₁ => ?_)
  obtain ⟨hp0, g, d, t, os⟩ := s
  have X₁ : K.In h₁ := X.keeps k₁
  have G₁ : h₁.Ns mainGlobals mg := G.keeps k₁
  have B₁ : h₁.Ns builtinsNs mb := hb1.keeps k₁
  have hx₁ := k₁ _ _ hx
  have hv1 : (fun y : Str => [(("self" : Str), Value.ref x), (("name" : Str), Value.str nm tk0)].reverse.lookup y) "self" = some (.ref x) := by rfl
  have hv2 : (fun y : Str => [(("self" : Str), Value.ref x), (("name" : Str), Value.str nm tk0)].reverse.lookup y) "name" = some (.str nm tk0) := by rfl
  have hxC : x ≠ C := fun e => by
    have z := X _ _ hC
    rw [← e, hx] at z
    cases z
  have oC := X₁ _ _ hC
  refine ks_wpAt_execs_cons (ks_wpAt_Expr_any (ks_wpAt_MethodCall ?_))
  refine ks_wpAt_super_base (env := ksEnv "OutOfRange.__init__" iS hp0.objs.size fI (.ref cda) cc) (f := fI) (ar := { arg := "self", annotation := none, pos := ⟨13, 17, 13, 21⟩ }) (file := file) (tf := tf) (vs := vs) rfl rfl rfl rfl (X₁ _ _ ho) rfl rfl rfl (X₁ _ _ hcda) rfl hvs hfile T.noTop ?_
  refine ks_loadName_global (env := ksEnv "OutOfRange.__init__" iS hp0.objs.size fI (.ref cda) cc) rfl rfl (loadGlobal_builtin (env := ksEnv "OutOfRange.__init__" iS hp0.objs.size fI (.ref cda) cc) G₁ T.gsup B₁ ((hb2 _ (by decide +kernel)).trans (by kernel_rfl)) ⟨rfl, ?_⟩)
  refine wpAny_loadName_free (env := ksEnv "OutOfRange.__init__" iS hp0.objs.size fI (.ref cda) cc) (c := cc) rfl rfl rfl ⟨_, X₁ _ _ hcell, rfl⟩ ?_
  refine wpAny_loadName_local (env := ksEnv "OutOfRange.__init__" iS hp0.objs.size fI (.ref cda) cc) rfl rfl hn₁ hv1 ?_
  refine ks_wpAny_isType_cls oC rfl ⟨rfl, ?_⟩
  refine ks_wpAny_call_super oC rfl hx₁ rfl (fun c e => by cases e) (looks_mroIn X₁ T.own) (fun h₂ e₂ k₂ => ?_)
  have X₂ : K.In h₂ := X₁.keeps k₂
  have hx₂ := k₂ _ _ hx₁
  have hI : Looks (model prog w) h₂ (isInstance (.ref x) (.type "ValueError")) true := (show W.InstAt h₂ x (excO C t0) C none from ⟨hx₂, rfl, rfl, trivial⟩).type.andThen (looks_subIn X₂ T.veC)
  have hm := T.sup
  unfold ks_superIn at hm
  rw [hcl] at hm
  refine kxs_getMethod kxs_ValueError e₂ (looks_opaque X₂ T.any) (l₀ := .ref C :: bm) (fun A Q E s k q => wpAny_bind ((looks_clsIn X₂ hcl) A _ E s k (wpAny_pure q))) rfl X₂ hm hI hxC rfl ?_
  have k₃ : ∀ b o, h₂.get? b = some o → (h₂.push (kxs_mw "ValueError.__init__" x)).get? b = some o := fun b o e => Heap.get?_push_of_some _ e
  have hu : (h₂.push (kxs_mw "ValueError.__init__" x)).get? h₂.objs.size = some (kxs_mw "ValueError.__init__" x) := Heap.get?_push_at rfl rfl
  have hx₃ := k₃ _ _ hx₂
  have hn₃ : (h₂.push (kxs_mw "ValueError.__init__" x)).Ns hp0.objs.size (fun y : Str => [(("self" : Str), Value.ref x), (("name" : Str), Value.str nm tk0)].reverse.lookup y) := (hn₁.keeps k₂).keeps k₃
  have oC₃ := k₃ _ _ (k₂ _ _ oC)
  have he : starEach [jsE'] (ksEnv "OutOfRange.__init__" iS hp0.objs.size fI (.ref cda) cc) = (false, eval jsE' (ksEnv "OutOfRange.__init__" iS hp0.objs.size fI (.ref cda) cc)) :: starEach [] (ksEnv "OutOfRange.__init__" iS hp0.objs.size fI (.ref cda) cc) := rfl
  show wpAny (model prog w) _ (callWith _ (.ref h₂.objs.size) [] (backTo _ (starEach [jsE'] (ksEnv "OutOfRange.__init__" iS hp0.objs.size fI (.ref cda) cc))) []) _ _ _
  rw [he]
  refine kxs_callWith (i := "ValueError.__init__") (x := x) (by rfl) (evalArgs_plain (Calls.spliced_cons (js_eval (m := fun y : Str => [(("self" : Str), Value.ref x), (("name" : Str), Value.str nm tk0)].reverse.lookup y) hn₃ hv2 rfl rfl hz fun out t4 t5 hout => ?_)))
  refine Calls.spliced_nil ⟨hu, ?_⟩
  refine call_wrap oC₃ hx₃ hu (one_size _) fun h₄ t1 k₄ hx₄ => ?_
  have hn₄ : h₄.Ns hp0.objs.size (fun y : Str => [(("self" : Str), Value.ref x), (("name" : Str), Value.str nm tk0)].reverse.lookup y) := by
    obtain ⟨o, es, ep, ho', hr'⟩ := hn₃
    exact ⟨o, es, ep, k₄ _ _ (Nat.ne_of_gt (Heap.lt_size hx)) ho', hr'⟩
  have X₄ : K.In h₄ := fun a o e => k₄ a o (fun z => by
    have z1 := X _ _ e
    rw [z, hx] at z1
    exact hno o (by rw [z] at e; exact e)) ((X₂.keeps k₃) a o e)
  have old : ∀ b o, b ≠ x → hp0.get? b = some o → h₄.get? b = some o := fun b o hb e => k₄ b o hb (k₃ _ _ (k₂ _ _ (k₁ _ _ e)))
  have big : hp0.objs.size ≤ h₄.objs.size := Nat.le_of_lt hn₄.lt
  refine wpAt_of_wpAny (wpAny_execs_cons (plainObj_wpAny_Assign_Attribute (ldV (env := ksEnv "OutOfRange.__init__" iS hp0.objs.size fI (.ref cda) cc) hn₄ hv2 (ldV (env := ksEnv "OutOfRange.__init__" iS hp0.objs.size fI (.ref cda) cc) hn₄ hv1 (set_plain X₄ (ox := excO C t1) (od := none) ⟨hx₄, rfl, rfl, trivial⟩ T.sa ?_)))))
  refine exc_osa X₄ hx₄ hcl (show refsVE (.ref C :: bm) = true from hbm) rfl T.noN (fun h₅ tk₅ dx k₅ dn dne hx₅ hn₅ => ?_)
  exact wpAny_execs_nil (hq h₅ tk₅ dx t1 ⟨fun b o hb e => k₅ b o hb (old b o hb e), hx₅, Nat.le_trans big dn, dne, hn₅⟩)

/-- OutOfRange(name), made -/
theorem oor_made {R : Result → Shared → Prop} {K : Frag} {mg : Str → Option Value} {C fI : Addr} (T : OorTxt prog K mg C fI) {nm : Str} {tk0 : Tok} (X : K.In s.heap) (hlim : s.heap.NoLimit) (G : s.heap.Ns mainGlobals mg)
    (Bt : ∃ mb, s.heap.Ns builtinsNs mb ∧ ∀ x : Str, x ≠ "__name__" → mb x = bootBuiltins x) (hroom : A.depth + 1 < recursionLimit) (hz : nm.length ≤ 1000)
    (hq : ∀ h' tk e d, OwnMade s.heap h' e C d (.str nm tk0) → R (.ok (.ret (.ref e))) { s with heap := h', toks := tk }) :
    codeAny (model prog w) A (.call (.ref C) ⟨[.str nm tk0], []⟩) R s := by
  obtain ⟨nmC, q, N, bs, bm, sn, sub, ab, col, dd, k0, k1, k2, k3, k5, hC, hbm⟩ := T.cls
  obtain ⟨mb, hb1, hb2⟩ := Bt
  obtain ⟨hp, g, d, tk, os⟩ := s
  have k : ∀ b o, hp.get? b = some o → ((hp.push (kdv_tup [.str nm tk0])).push (excO C hp.objs.size)).get? b = some o := fun b o e => Heap.get?_push_of_some _ (Heap.get?_push_of_some _ e)
  have hget : ((hp.push (kdv_tup [.str nm tk0])).push (excO C hp.objs.size)).get? (hp.objs.size + 1) = some (excO C hp.objs.size) := by heap_get
  have hno : ∀ o, K.lookup (hp.objs.size + 1) ≠ some o := fun o e => absurd (Nat.lt_of_succ_lt (Heap.lt_size (show hp.get? (hp.objs.size + 1) = some o from X _ _ e))) (Nat.lt_irrefl _)
  refine call_own F.excBase_ValueError (fun Y => refsVE_contains Y bm hbm) (X _ _ hC) (looks_findIn X T.iC) (fun self => bind_fn X self T.tC) (one_size _) ?_
  refine oor_init (s := ⟨(hp.push (kdv_tup [.str nm tk0])).push (excO C hp.objs.size), g, d, tk, os⟩) T (X.keeps k) (hlim.keeps k) (G.keeps k) ⟨mb, hb1.keeps k, hb2⟩ hget hno (show A.depth + 1 < recursionLimit from hroom) hz fun h' tk' dx t1 E1 => ?_
  have z : hp.objs.size + 1 + 1 ≤ dx := by
    have zz := E1.dbig
    rw [Heap.size_push, Heap.size_push] at zz
    exact zz
  refine ⟨rfl, hq h' tk' (hp.objs.size + 1) dx ⟨fun b o e => E1.keep b o (Nat.ne_of_lt (Nat.lt_succ_of_lt (Heap.lt_size e))) (k b o e), Nat.le_succ _, ⟨_, _, E1.obj, rfl, rfl, rfl, rfl⟩, (show hp.objs.size ≤ dx by omega), E1.dne, E1.ns⟩⟩
end
end OorX
end PySem

namespace L2
open PySem PySem.Spec PyProof.Rows
theorem relO_oor {v : V} {v' : Value} (r : RelV v v') (f : Str) : RelO (List.lookup f [(("name" : Str), v)]) (if f = "name" then some v' else none) := by
  by_cases hw : f = "name"
  · subst hw
    rw [if_pos rfl, show List.lookup ("name" : Str) [(("name" : Str), v)] = some v from by simp [List.lookup]]
    exact r
  · have qw : (f == ("name" : Str)) = false := by simpa using hw
    rw [if_neg hw, show List.lookup f [(("name" : Str), v)] = none from by simp [List.lookup, qw]]
    trivial
section
variable {X : Cx} {C fI : Addr}
/-- OutOfRange(e) -/
def tMkOor (C : Addr) (ta : TA) : St → Hp → XK → Prop := fun σ H Q => ta σ H fun vs H1 => ∃ nm : Str, vs = [.str nm] ∧ nm.length ≤ 1000 ∧ ∀ d, H1 d = none → Q (.ref C) (some d) (upd H1 d (.xd [(("name" : Str), .str nm)]))
theorem pmk_oor {a : Expr} {ta : TA} {p pos : Pos} (T : PySem.OorX.OorTxt X.prog X.K X.mg C fI) (hr : Room 1 X.A) (ha : PA X [a] ta) (hg : Gl X "OutOfRange" := by rfl)
    (hs : starEach [a] X.env = (false, eval a X.env) :: starEach [] X.env := by rfl) (hpl : (backTo pos (starEach [] X.env)).any (·.1) = false := by rfl) :
    PMk X (.Call (.Name "OutOfRange" p) [a] [] pos) (tMkOor C ta) := by
  intro pins s σ H Q I h
  refine wpAny_Call_Name_kw (ld_glob I hg T.gC (PySem.W.callWith_K (h₀ := X.base) I.ok.mod.kin T.kC (thn (ha.run pos pins s σ H _ I h) fun us s1 hh => ?_) hs hpl))
  obtain ⟨vs, H1, I1, r1, nm, ev, hz, q1⟩ := hh
  subst ev
  refine ⟨I1.kIn, ?_⟩
  cases r1 with
  | cons rv rn =>
    cases rn
    obtain ⟨tk0, rfl⟩ := rv
    have hlim := I1.nolimit
    obtain ⟨mb, hb1, hb2⟩ := I1.mod.blt
    have G1 := I1.mod.glob.keeps I1.bk
    have B1 := hb1.keeps I1.bk
    have X1 := I1.kIn
    obtain ⟨hp, g, dr, tk, os⟩ := s1
    refine wpAny_call (PySem.OorX.oor_made (s := ⟨hp, g, dr, tk, os⟩) T X1 hlim G1 ⟨mb, B1, hb2⟩ (by have := hr.dp; omega) hz fun h' tk' e d M => ?_)
    show MkP X pins σ Q (.ref e) ⟨h', g, dr, tk', os⟩
    obtain ⟨oe, fv, hoe, hc, hd, hdat, h1⟩ := M.obj
    obtain ⟨G', g1, g2⟩ := restrict h' fun b => decide (b ≠ e)
    have gk : ∀ b, b ≠ e → G'.get? b = h'.get? b := fun b hb => g1 b (decide_eq_true hb)
    have ge : G'.get? e = none := g2 e (by simp)
    have old : ∀ b o, hp.get? b = some o → G'.get? b = some o := fun b o q => (gk b (Nat.ne_of_lt (Nat.lt_of_lt_of_le (Heap.lt_size q) M.new))).trans (M.keep b o q)
    have ob : ObjOk X.prog X.w (upd H1 d (.xd [(("name" : Str), .str nm)])) G' d (.xd [(("name" : Str), .str nm)]) := ⟨_, M.ns.at (fun o q => (gk d M.dne).trans q), fun f => relO_oor (v := .str nm) ⟨tk0, rfl⟩ f⟩
    have J : Inv X pins σ (upd H1 d (.xd [(("name" : Str), .str nm)])) ⟨G', g, dr, tk', os⟩ := I1.laid (t' := tk') old M.dbig ob
    refine ⟨e, oe, fv, ⟨G', g, dr, tk', os⟩, _, .ref C, some d, rfl, J, fun b o q => ?_, ge, hoe, ⟨hc, hd⟩, hdat, h1, ?_, rfl, I1.bare, raises_own T.exC T.tyC, q1 d (I1.hok.fresh M.dbig)⟩
    · by_cases hb : b = e
      · have q' : G'.get? b = some o := q
        rw [hb, ge] at q'
        cases q'
      · exact (gk b hb).symm.trans q
    · rw [upd_ne (Ne.symm M.dne)]
      exact I1.hok.fresh M.new
/-- raise OutOfRange(e) -/
def tRaiseOor (C : Addr) (W : WX) (ta : TA) : TS := fun _ σ H => tMkOor C ta σ H fun cls d H' => W cls d σ H'
theorem ps_raiseOor {a : Expr} {ta : TA} {W : WX} {p pos pos2 : Pos} (hc : X.calm = true) (T : PySem.OorX.OorTxt X.prog X.K X.mg C fI) (hr : Room 1 X.A) (tk : Takes X W) (ha : PA X [a] ta) (hg : Gl X "OutOfRange" := by rfl)
    (hs : starEach [a] X.env = (false, eval a X.env) :: starEach [] X.env := by rfl) (hpl : (backTo pos (starEach [] X.env)).any (·.1) = false := by rfl) :
    PS X (.Raise (some (.Call (.Name "OutOfRange" p) [a] [] pos)) none pos2) (tRaiseOor C W ta) := ps_raise hc tk (pmk_oor T hr ha hg hs hpl)

/-! ### isinstance(e, c) of the held exception, its own dict or none -/
structure ExcCls (K : PySem.W.Frag) (D : Addr) : Prop where
  cl : (PySem.W.clsIn K D).isSome = true
  hg : PySem.W.findIn K (.ref D) "__getattribute__" = some (some (.builtin "BaseException.__getattribute__"))
  hk : PySem.W.findIn K (.ref D) "__getattr__" = some none
  hs : PySem.W.subIn K (.ref D) (.type "BaseException") = some true
  ha : PySem.W.findIn K (.ref D) "__class__" = some (some (.builtin "object.__class__"))
  hn : PySem.W.specialIn K (.builtin "object.__class__") "__get__" = some (some (.builtin "getset_descriptor.__get__"))
  ht : PySem.W.takesIn K (.builtin "object.__class__") = some true
  hm : PySem.W.mroIn K D (.type "object") = some true
def rIsX (K : PySem.W.Frag) (D a : Addr) (cls : Value) (d : Option Addr) : List V → Hp → VK → Prop := fun xs H Q => ∃ (c : V) (cv : Value) (b : Bool), xs = [.ref a, c] ∧ (∀ u, RelV c u → u = cv) ∧ cls = .ref D ∧ (∃ dd fs, d = some dd ∧ H dd = some (.xd fs)) ∧ PySem.W.kitOne K (.ref D) cv = some b ∧ Q (.bl b) H
theorem call_isX {a D : Addr} {oe : Obj} {cls : Value} {d : Option Addr} {pn : List (Addr × Obj)} (T : ExcCls X.K D) (hz : Zc cls d oe) (hf : ∃ vs, oe.data = .fields vs) : CallR (X.suite a ((a, oe) :: pn)) (.builtin "isinstance") (rIsX X.K D a cls d) := by
  intro pins s σ H xs us Q I r h
  obtain ⟨c, cv, b, rfl, hcv, hcls, ⟨dd, fs, hd, hdd⟩, e, q⟩ := h
  cases r with
  | cons rx rr =>
    cases rr with
    | cons rt rr =>
      cases rr
      cases rx
      have ec := hcv _ rt
      subst ec
      obtain ⟨hget, _⟩ := I.pin (a, oe) (List.mem_append.mpr (.inl List.mem_cons_self))
      obtain ⟨vs, hv⟩ := hf
      have hx : ObjOk X.prog X.w H s.heap dd (.xd fs) := I.hok dd _ hdd
      obtain ⟨mA, hns, hr⟩ := hx
      obtain ⟨od, ho, hl⟩ := lookIn_ns hns
      have J : PySem.W.InstAt s.heap a oe D (some od) := by
        refine ⟨hget, by rw [hz.1, hcls], ?_, ?_⟩
        · unfold PySem.W.notCls
          rw [hv] <;> rfl
        · rw [hz.2, hd]
          exact ho
      exact PySem.W.kia_one (PySem.W.kitx_exc T.cl T.hg T.hk T.hs T.ha T.hn T.ht T.hm) I.kIn J e (fun z => nomatch z) fun tk => ⟨.bl b, H, I.kept (t' := tk) fun _ _ z => z, rfl, q⟩
/-! ### repr of a truth, a text times a number -/
theorem call_repr_bl : CallR X (.builtin "repr") (fun xs H Q => ∃ b : Bool, xs = [.bl b] ∧ Q (.str (if b then "True" else "False")) H) := by
  intro pins s σ H xs us Q I r h
  obtain ⟨b, rfl, q⟩ := h
  cases r with
  | cons rx rr =>
    cases rr
    cases rx
    exact PySem.P.repr_of_bool ⟨.str _, H, I.tok _, ⟨_, rfl⟩, q⟩
end
end L2

set_option linter.all false
set_option maxRecDepth 100000
set_option maxHeartbeats 4000000
namespace N01
open PySem PySem.Builtin PySem.Builtin.Str
theorem part_len {x : Str} {cuts : List Nat} {w : Nat} : ∀ y ∈ partsBetween x cuts w, y.length ≤ x.length := by
  intro y hy
  unfold partsBetween at hy
  obtain ⟨p, _, e⟩ := List.mem_map.mp hy
  rw [← e]
  exact le_strSub x _ _
theorem split_len {x z : Str} : ∀ y ∈ Txt.split x z, y.length ≤ x.length := by
  intro y hy
  unfold Txt.split at hy
  split at hy
  · rw [List.mem_singleton.mp hy]; exact Nat.le_refl _
  · split at hy
    · rw [List.mem_singleton.mp hy]; exact Nat.le_refl _
    · exact part_len y hy
theorem parts_count {x : Str} {cuts : List Nat} {w : Nat} : (partsBetween x cuts w).length = cuts.length + 1 := by
  unfold partsBetween
  simp
theorem occ_keep (s sub : Str) (hi limit : Nat) : ∀ (l : List Nat) (st : Array Nat × Nat) (a : Nat), st.fst.toList.head? = some a → (forIn l st (StrLaws.occBody s sub hi limit)).run.fst.toList.head? = some a
  | [], _, _, h => h
  | b :: l, st, a, h => by
    rw [List.forIn_cons]
    unfold StrLaws.occBody
    split
    · refine occ_keep s sub hi limit l _ a ?_
      show (st.fst.push b).toList.head? = some a
      rw [Array.toList_push]
      cases e : st.fst.toList with
      | nil => rw [e] at h; cases h
      | cons c r => rw [e] at h; exact h
    · exact occ_keep s sub hi limit l _ a h
theorem occ_head (s sub : Str) (hi n : Nat) : ∀ (l : List Nat) (f : Nat), (forIn l ((#[] : Array Nat), f) (StrLaws.occBody s sub hi (n + 1))).run.fst.toList.head? = (forIn l ((#[] : Array Nat), f) (StrLaws.occBody s sub hi 1)).run.fst.toList.head?
  | [], _ => rfl
  | b :: l, f => by
    rw [List.forIn_cons, List.forIn_cons]
    have e1 : ∀ k : Nat, 0 < k → StrLaws.occBody s sub hi k b ((#[] : Array Nat), f) = if ((f ≤ b) ∧ b + sub.length ≤ hi) ∧ subAt s sub b = true then pure (ForInStep.yield ((#[] : Array Nat).push b, b + sub.length)) else pure (ForInStep.yield ((#[] : Array Nat), f)) := by
      intro k hk
      unfold StrLaws.occBody
      have : ((((#[] : Array Nat), f).fst.size < k ∧ ((#[] : Array Nat), f).snd ≤ b) ∧ b + sub.length ≤ hi) ∧ subAt s sub b = true ↔ ((f ≤ b) ∧ b + sub.length ≤ hi) ∧ subAt s sub b = true := by
        constructor
        · rintro ⟨⟨⟨_, h2⟩, h3⟩, h4⟩; exact ⟨⟨h2, h3⟩, h4⟩
        · rintro ⟨⟨h2, h3⟩, h4⟩; exact ⟨⟨⟨hk, h2⟩, h3⟩, h4⟩
      by_cases c : ((f ≤ b) ∧ b + sub.length ≤ hi) ∧ subAt s sub b = true
      · rw [if_pos c, if_pos (this.mpr c)]
      · rw [if_neg c, if_neg (fun z => c (this.mp z))]
    rw [e1 (n + 1) (Nat.succ_pos n), e1 1 Nat.one_pos]
    by_cases c : ((f ≤ b) ∧ b + sub.length ≤ hi) ∧ subAt s sub b = true
    · rw [if_pos c]
      exact (occ_keep s sub hi (n + 1) l ((#[] : Array Nat).push b, b + sub.length) b rfl).trans (occ_keep s sub hi 1 l ((#[] : Array Nat).push b, b + sub.length) b rfl).symm
    · rw [if_neg c]
      exact occ_head s sub hi n l f
theorem occurrences_head (s sub : Str) (lo hi n : Nat) : (occurrences s sub lo hi (n + 1)).head? = (occurrences s sub lo hi 1).head? := by
  rw [StrLaws.occ_eq, StrLaws.occ_eq]
  exact occ_head s sub hi n _ lo
theorem part_of_split {x z a b : Str} (h : Txt.split x z = [a, b]) : (Txt.partition x z).1 = a ∧ (Txt.partition x z).2.2 = b := by
  unfold Txt.split at h
  split at h
  · cases h
  · split at h
    · cases h
    · have hc := congrArg List.length h
      rw [parts_count] at hc
      have h1 := occurrences_head x z 0 x.length x.length
      cases e : occurrences x z 0 x.length (x.length + 1) with
      | nil => rw [e] at hc; simp at hc
      | cons i r =>
        cases r with
        | cons j q => rw [e] at hc; simp at hc
        | nil =>
          rw [e] at h h1
          unfold Txt.partition
          cases e2 : occurrences x z 0 x.length 1 with
          | nil => rw [e2] at h1; cases h1
          | cons i' r' =>
            rw [e2] at h1
            have hi : i = i' := Option.some.inj h1
            subst hi
            unfold partsBetween at h
            simp only [List.map_cons, List.map_nil, List.cons_append, List.nil_append, List.zip_cons_cons, List.zip_nil_left] at h
            injection h with ha hb
            injection hb with hb _
            exact ⟨ha, hb⟩
theorem size_reps (c : Array Nat) : ∀ (k : Nat) (a : Array Nat), ((List.replicate k c).foldl (· ++ ·) a).size = a.size + k * c.size
  | 0, a => by simp
  | k + 1, a => by
    rw [List.replicate_succ, List.foldl_cons, size_reps c k, Array.size_append, Nat.succ_mul]
    omega
theorem mul_len (z : Str) (n : Int) : (Txt.mul z n).length = z.length * n.toNat := by
  unfold Txt.mul
  by_cases h : n < 1
  · rw [if_pos h, show n.toNat = 0 by omega, Nat.mul_zero] <;> rfl
  · rw [if_neg h]
    by_cases h2 : (n == 1 || z.length == 0) = true
    · rw [if_pos h2]
      rcases Bool.or_eq_true_iff.mp h2 with h3 | h3
      · rw [show n.toNat = 1 by have := eq_of_beq h3; omega, Nat.mul_one]
      · rw [show z.length = 0 from eq_of_beq h3, Nat.zero_mul]
    · rw [if_neg h2]
      show ((List.replicate n.toNat z.cps).foldl (· ++ ·) #[]).size = z.cps.size * n.toNat
      rw [size_reps, Nat.mul_comm]
      simp
def Asc (t : Str) : Prop := ∀ c ∈ t.cps.toList, c < 128
theorem asc_app {a b : Str} (ha : Asc a) (hb : Asc b) : Asc (a ++ b) := by
  intro c hc
  have e : (a ++ b).cps.toList = a.cps.toList ++ b.cps.toList := Array.toList_append
  rw [e] at hc
  rcases List.mem_append.mp hc with h | h
  · exact ha c h
  · exact hb c h
theorem asc_one {c : Nat} (h : c < 128) : Asc ⟨#[c]⟩ := by
  intro d hd
  have e : d = c := by simpa using hd
  rw [e]
  exact h
theorem mem_reps (a : Array Nat) : ∀ (k : Nat) (b : Array Nat) (c : Nat), c ∈ ((List.replicate k a).foldl (· ++ ·) b).toList → c ∈ b.toList ∨ c ∈ a.toList
  | 0, _, _, h => Or.inl h
  | k + 1, b, c, h => by
    rw [List.replicate_succ, List.foldl_cons] at h
    rcases mem_reps a k (b ++ a) c h with h | h
    · rw [Array.toList_append] at h
      exact List.mem_append.mp h
    · exact Or.inr h
theorem asc_mul {z : Str} (n : Int) (hz : Asc z) : Asc (Txt.mul z n) := by
  intro c hc
  unfold Txt.mul at hc
  split at hc
  · exact absurd hc (by decide +revert)
  · split at hc
    · exact hz c hc
    · rcases mem_reps z.cps n.toNat #[] c hc with h | h
      · cases h
      · exact hz c h
theorem strOk_asc {t : Str} (h : Asc t) : PyData.strOk t = true := by
  unfold PyData.strOk
  rw [Array.all_eq_true]
  intro i hi
  have := h t.cps[i] (by simp)
  exact decide_eq_true (by omega)
theorem mulOk_small {z : Str} {n : Int} (h1 : z.length ≤ 1000) (h2 : n ≤ 1000) (h3 : -1000 ≤ n) : MulOk z n := by
  refine ⟨?_, fun hn hc => ?_, fun hn hc => ?_⟩
  · rw [decide_eq_false (by omega), decide_eq_false (by omega)] <;> rfl
  · have hz : (z.length : Int) ≤ 1000 := by omega
    have : (1000 : Int) ≤ (2 ^ 63 - 1) / n := by
      refine (Int.le_ediv_iff_mul_le (by omega)).mpr ?_
      omega
    omega
  · have hb : z.length * n.toNat ≤ 1000 * 1000 := Nat.mul_le_mul h1 (by omega)
    have hs : sizeLine = 16777216 := sizeLine_eq
    unfold tooLong
    exact decide_eq_false (by omega)
end N01

set_option linter.all false
set_option maxRecDepth 100000
set_option maxHeartbeats 4000000
namespace N01
open PySem PySem.Spec PyProof.Rows L2
abbrev top := PySem.OorX.top
/-! ### what a text is -/
def SG : Str := "abcdefghijklmnopqrstuvwxyz0123456789"
def inS (c : Nat) : Bool := decide (c ∈ SG.cps.toList)
def nameT (t : Str) : Bool := (decide (1 ≤ t.length) && decide (t.length ≤ 12)) && t.cps.toList.all inS
def uidT (t : Str) : Bool := match Txt.split t ":" with
  | [a, b] => nameT a && nameT b
  | _ => false
/-! ### promises -/
def spText (r : Str → V) : Sp := fun vs H Q _ => ∃ t : Str, vs = [.str t] ∧ t.length ≤ 1000 ∧ ∀ H', Same H H' → Q (r t) H'
/-- what the top has written of constants and what it left of built-in names -/
structure TxtN (K : PySem.W.Frag) (mg : Str → Option Value) : Prop where
  len : mg "len" = none
  all : mg "all" = none
  nm : ∃ t, mg "NAME_MOST" = some (.int 12 t)
  sg : ∃ t, mg "SIGNS" = some (.str SG t)
abbrev sIsName : Stmt := top 7
abbrev sIsUid : Stmt := top 8
abbrev sKind : Stmt := top 9
abbrev sId : Stmt := top 10
section
variable {P : Program} {w : World} {K : PySem.W.Frag} {mg : Str → Option Value} {base : Heap}
theorem sizeT {t : Str} (h : t.length ≤ 1000) : t.length ≤ sizeLine := Nat.le_trans h (by decide)
theorem len_list (t : Str) : t.cps.toList.length = t.length := by simp [Str.length]
theorem scN : FnScope ["text", "sign"] ["text"] (defScope sIsName) := ⟨rfl, rfl, rfl, by decide +kernel, rfl, by decide +kernel, by decide +kernel⟩
theorem ok_isName {f : Addr} {fd : FuncData} (F : Fun K "is_name" "is_name" sIsName f fd) (T : TxtN K mg) : FnOk P w K mg base CX0 1 f fd ["text"] (spText fun t => .bl (nameT t)) := by
  refine F.ok scN (fun vs H Q E h => ?_) (fun cdv A outer s H vs Q E hr h => ?_)
  · obtain ⟨t, rfl, _⟩ := h
    rfl
  · obtain ⟨t, rfl, hz, k⟩ := h
    obtain ⟨t1, hn⟩ := T.nm
    obtain ⟨t2, hs⟩ := T.sg
    refine ⟨_, pss_one (ps_ret (pe_and (pe_chain op_le op_le pe_int (pe_callB call_len_str (by rfl) T.len PySem.boot_len (pa_cons (pv 0) pa_nil)) (pe_glob (v := .int 12) rfl hn ⟨_, rfl⟩))
      (pe_one (pe_callB (cr_all rfl) (by rfl) T.all (by decide +kernel) (pa_cons
        (pe_lc (own := [("sign", 1)]) (g := gName 1) (tt := tYes) rfl scN.nd (pi_str (pv 0)) (blkOk_by (N := ["text", "sign"]) (sc := defScope sIsName) (by decide +kernel)) (fun _ _ _ _ _ => pg_name (i := 1) scN.nd rfl (Or.inl rfl)) (fun _ _ _ _ _ => pts_nil)
          (fun _ _ _ _ _ => pe_cmpR op_in_sign (pv 1) (pe_glob (v := .str SG) rfl hs ⟨_, rfl⟩) (by with_unfolding_all rfl))) pa_nil))))), ?_⟩
    refine ⟨_, rfl, _, rfl, sizeT hz, _, _, rfl, rfl, _, rfl, ?_⟩
    by_cases h1 : 1 ≤ t.length
    · rw [decide_eq_true (show (1 : Int) ≤ (t.length : Int) by omega)]
      refine iteT ⟨_, _, rfl, rfl, _, rfl, ?_⟩
      by_cases h2 : t.length ≤ 12
      · rw [decide_eq_true (show (t.length : Int) ≤ 12 by omega)]
        refine iteT ⟨_, rfl, t, rfl, fun D hD => lc_it (walk_str (z := t)) (fun i H' => H' D = some (.lst ((t.cps.toList.take i).map fun c => V.bl (inS c))) ∧ Same H H')
          ⟨upd_same, fun b o e => (upd_ne (ne_of_none e hD)).trans e⟩ (fun _ _ _ _ => trivial) ?_ ?_⟩
        · rintro i x H1 H1' hi ⟨p1, p2⟩ ⟨rfl, c, hc, rfl⟩
          refine ⟨rfl, ?_⟩
          refine ⟨_, rfl, c, SG, rfl, rfl, _, p1, ?_, ?_, fun b o e => (upd_ne (ne_of_none e hD)).trans (p2 b o e)⟩
          · rw [List.length_map, List.length_take]
            have := len_list t
            have : (1000 : Nat) < sizeLine := by decide
            omega
          · have hc' : t.cps.toList[i]? = some c := by simpa using hc
            rw [upd_same, List.take_add_one, hc', List.map_append] <;> rfl
        · rintro H1 ⟨p1, p2⟩
          refine ⟨D, t.cps.toList.map inS, rfl, SqL.of ?_, ?_⟩
          · rw [p1, List.map_map]
            have e : t.cps.toList.take t.cps.size = t.cps.toList := List.take_of_length_le (by simp)
            rw [e] <;> rfl
          · have e : nameT t = (t.cps.toList.map inS).all id := by
              unfold nameT
              rw [decide_eq_true h1, decide_eq_true h2, List.all_map] <;> rfl
            have q : Q (.bl (nameT t)) H1 := k H1 p2
            rw [e] at q
            exact q
      · rw [decide_eq_false (show ¬ (t.length : Int) ≤ 12 by omega)]
        refine iteF ?_
        have e : nameT t = false := by
          unfold nameT
          rw [decide_eq_false h2, Bool.and_false, Bool.false_and]
        have q : Q (.bl (nameT t)) H := k H (Same.refl H)
        rw [e] at q
        exact q
    · rw [decide_eq_false (show ¬ (1 : Int) ≤ (t.length : Int) by omega)]
      refine iteF ⟨_, rfl, iteF ?_⟩
      have e : nameT t = false := by
        unfold nameT
        rw [decide_eq_false h1, Bool.false_and, Bool.false_and]
      have q : Q (.bl (nameT t)) H := k H (Same.refl H)
      rw [e] at q
      exact q
def t_uid (K : PySem.W.Frag) : TS := tSeq (tAsg (tM1 (fun x xs H Q => ∃ a b, x = .str a ∧ xs = [.str b] ∧ (b.length == 0) = false ∧ a.length + 2 ≤ sizeLine ∧ rNewStrs (Txt.split a b) H Q) (tVar 0) (tC (.str ":"))) (gName 1))
  (tRet (tAndV (tOp rEq (tCB (fun xs H Q => ∃ p ys, xs = [.ref p] ∧ (SqL K H p ys ∨ SqT K H p ys) ∧ Q (.int ys.length) H) (tCons (tVar 1) tNil)) (tC (.int 2)))
    (tAndV (tCall (spText fun t => .bl (nameT t)) [] E0 (tCons (tOp (rIxL K) (tVar 1) (tC (.int 0))) tNil)) (tCall (spText fun t => .bl (nameT t)) [] E0 (tCons (tOp (rIxL K) (tVar 1) (tC (.int 1))) tNil)))))
theorem colon_ne : ((":" : Str).length == 0) = false := by decide +kernel
theorem uid_read {K : PySem.W.Frag} {H : Hp} {Q : VK} (t : Str) (hz : t.length ≤ 1000) (k : ∀ H', Same H H' → Q (.bl (uidT t)) H') : t_uid K { nx := fun _ H' => Q .non H', rt := Q } (start ["text", "parts"] [.str t]) H := by
  have sz : (1000 : Nat) + 2 ≤ sizeLine := by decide
  refine ⟨_, rfl, ⟨_, rfl⟩, _, _, rfl, rfl, colon_ne, by omega, fun p hp => ?_⟩
  have sm : ∀ o, Same H (upd H p o) := fun o b u e => (upd_ne (ne_of_none e hp)).trans e
  refine ⟨_, rfl, p, _, rfl, .inl (SqL.of upd_same), rfl, _, rfl, ?_⟩
  have k' : ∀ (H' : Hp) (b : Bool), Same H H' → uidT t = b → Q (.bl b) H' := fun H' b s e => e ▸ k H' s
  unfold uidT at k'
  have hl := split_len (x := t) (z := ":")
  cases e : Txt.split t ":" with
  | nil =>
    refine iteF ?_
    exact k' _ false (sm _) (by rw [e])
  | cons a r =>
    cases r with
    | nil => exact iteF (k' _ false (sm _) (by rw [e]))
    | cons b q =>
      cases q with
      | cons c q2 =>
        rw [decide_eq_false (by simp; omega)]
        exact iteF (k' _ false (sm _) (by rw [e]))
      | nil =>
        rw [e] at k' hl
        have h0 : a.length ≤ 1000 := Nat.le_trans (hl a (by simp)) hz
        have h1 : b.length ≤ 1000 := Nat.le_trans (hl b (by simp)) hz
        refine iteT ⟨_, rfl, p, _, 0, _, rfl, rfl, SqL.of upd_same, atI_nat (j := 0) rfl, a, rfl, h0, fun H1 s1 => ⟨_, rfl, ?_⟩⟩
        have hp1 := s1 p _ upd_same
        cases e2 : nameT a with
        | false => exact iteF (k' _ false ((sm _).trans s1) (by show (nameT a && nameT b) = false; rw [e2] <;> rfl))
        | true =>
          refine iteT ⟨_, rfl, p, _, 1, _, rfl, rfl, SqL.of hp1, atI_nat (j := 1) rfl, b, rfl, h1, fun H2 s2 => ?_⟩
          exact k' _ (nameT b) (((sm _).trans s1).trans s2) (by show (nameT a && nameT b) = nameT b; rw [e2] <;> rfl)
theorem scU : FnScope ["text", "parts"] ["text"] (defScope sIsUid) := ⟨rfl, rfl, rfl, by decide +kernel, rfl, by decide +kernel, by decide +kernel⟩
theorem ok_isUid {f fN : Addr} {fd fdN : FuncData} (F : Fun K "is_uid" "is_uid" sIsUid f fd) (T : TxtN K mg) (GN : FnOk P w K mg base CX0 1 fN fdN ["text"] (spText fun t => .bl (nameT t))) (bN : Binds K fdN ["text"] []) (gN : mg "is_name" = some (.ref fN)) (kN : PySem.W.keepIn K (.ref fN) = true) :
    FnOk P w K mg base CX0 2 f fd ["text"] (spText fun t => .bl (uidT t)) := by
  refine F.ok scU (fun vs H Q E h => ?_) (fun cdv A outer s H vs Q E hr h => ?_)
  · obtain ⟨t, rfl, _⟩ := h
    rfl
  · obtain ⟨t, rfl, hz, k⟩ := h
    refine ⟨_, pss_cons (ps_set (i := 1) scU.nd rfl (Or.inl rfl) (pe_split (pv 0) pe_str))
      (pss_one (ps_ret (pe_and (pe_cmpR op_eq (pe_callB call_len_seq (by rfl) T.len PySem.boot_len (pa_cons (pv 1) pa_nil)) pe_int (nomark _))
        (pe_and (pe_call GN hr (by rfl) gN kN bN .nil pass0 (pa_cons (pe_ix ix_list (pv 1) pe_int (fun _ _ => rfl)) pa_nil))
          (pe_one (pe_call GN hr (by rfl) gN kN bN .nil pass0 (pa_cons (pe_ix ix_list (pv 1) pe_int (fun _ _ => rfl)) pa_nil))))))), ?_⟩
    exact uid_read t hz k
theorem scK : FnScope ["uid"] ["uid"] (defScope sKind) := ⟨rfl, rfl, rfl, by decide +kernel, rfl, by decide +kernel, by decide +kernel⟩
theorem scI : FnScope ["uid"] ["uid"] (defScope sId) := ⟨rfl, rfl, rfl, by decide +kernel, rfl, by decide +kernel, by decide +kernel⟩
theorem ok_kind {f : Addr} {fd : FuncData} (F : Fun K "kind_of" "kind_of" sKind f fd) : FnOk P w K mg base CX0 1 f fd ["uid"] (spText fun t => .str (Txt.partition t ":").1) := by
  refine F.ok scK (fun vs H Q E h => ?_) (fun cdv A outer s H vs Q E hr h => ?_)
  · obtain ⟨t, rfl, _⟩ := h
    rfl
  · obtain ⟨t, rfl, hz, k⟩ := h
    refine ⟨_, pss_one (ps_ret (pe_ix ix_tup (pe_partition (pv 0) pe_str) pe_int (fun _ _ => rfl))), ?_⟩
    exact ⟨_, rfl, ⟨_, rfl⟩, _, _, rfl, rfl, colon_ne, sizeT hz, fun p hp => ⟨p, _, 0, _, rfl, rfl, SqT.of upd_same, atI_nat (j := 0) rfl, k _ fun b u e => (upd_ne (ne_of_none e hp)).trans e⟩⟩
theorem ok_id {f : Addr} {fd : FuncData} (F : Fun K "id_of" "id_of" sId f fd) : FnOk P w K mg base CX0 1 f fd ["uid"] (spText fun t => .str (Txt.partition t ":").2.2) := by
  refine F.ok scI (fun vs H Q E h => ?_) (fun cdv A outer s H vs Q E hr h => ?_)
  · obtain ⟨t, rfl, _⟩ := h
    rfl
  · obtain ⟨t, rfl, hz, k⟩ := h
    refine ⟨_, pss_one (ps_ret (pe_ix ix_tup (pe_partition (pv 0) pe_str) pe_int (fun _ _ => rfl))), ?_⟩
    exact ⟨_, rfl, ⟨_, rfl⟩, _, _, rfl, rfl, colon_ne, sizeT hz, fun p hp => ⟨p, _, 2, _, rfl, rfl, SqT.of upd_same, atI_nat (j := 2) rfl, k _ fun b u e => (upd_ne (ne_of_none e hp)).trans e⟩⟩
end
end N01

set_option linter.all false
set_option maxRecDepth 100000
set_option maxHeartbeats 4000000
namespace L2
open PySem PySem.Spec PyProof.Rows
section
variable {X : Cx} {CX : CXT} {k n : Nat} {f : Addr} {fd : FuncData} {ps ks : List Str} {sp : Sp} {E : St → XK} {x : Str} {p pos : Pos} {e : Expr} {es : List Expr} {kws : List Keyword} {t tk : TA} {g : List Value → List Value → List Value} {gV : List V → List V → List V}
/-- f(e, .., k = v, ..), what is raised wished for at the caller's slots -/
def tCallKS (n m : Nat) (sp : Sp) (gV : List V → List V → List V) (E : St → XK) (t tk : TA) : TE := fun σ H Q => t σ H fun vs H1 => tk σ H1 fun zs H2 => vs.length = n ∧ zs.length = m ∧ sp (gV vs zs) H2 Q (E σ)
theorem pe_callKS (F : FnOk X.prog X.w X.K X.mg X.base CX k f fd ps sp) (hr : Room k X.A) (hg : Gl X x) (hm : X.mg x = some (.ref f)) (hk : PySem.W.keepIn X.K (.ref f) = true) (hb : KBn X.K fd ps n ks g gV) (hx : ∀ σ, PassesAt CX X σ (E σ))
    (ha : PA X (e :: es) t) (hkw : PK X kws tk) (hall : (backToKw pos (keywordEach kws X.env)).all (·.1.isSome) = true := by rfl) (hks : (backToKw pos (keywordEach kws X.env)).filterMap (·.1) = ks := by rfl)
    (hdb : (x == ("__debug__" : Str)) = false := by decide) (he : starEach (e :: es) X.env = (false, eval e X.env) :: starEach es X.env := by rfl)
    (hpl : ((backTo pos (starEach (e :: es) X.env)).any (·.1) || (backToKw pos (keywordEach kws X.env)).any (·.1.isNone)) = false := by rfl) :
    PE X (.Call (.Name x p) (e :: es) kws pos) (tCallKS n ks.length sp gV E t tk) := by
  refine ⟨fun pins s σ H Q I h => wpAny_Call_Name_kw (ld_glob I hg hm (PySem.W.callWith_KW (h₀ := X.base) I.ok.mod.kin hk hall (thn (ha.run pos pins s σ H _ I h) fun us s1 ⟨vs, H1, I1, r, q⟩ => ?_) hpl he) hdb)⟩
  refine thn (hkw.run pos pins s1 σ H1 _ I1 q) fun ws s2 ⟨zs, H2, I2, rz, l1, l2, q2⟩ => ⟨I2.kIn, ?_⟩
  rw [hks]
  refine wpAny_call (codeAny_mono (F.run X.A X.stack s2 H2 ⟨us, ks.zip ws⟩ (g us ws) (gV vs zs) Q (E σ) hr I2.env0 (hb.to s2 us ws I2.kIn (r.length.symm.trans l1) (rz.length.symm.trans l2)) (hb.rel r rz) q2) fun r s' hq => ?_)
  cases r with
  | error u => exact hx σ pins H2 s2 u s' I2 hq
  | ok fl => cases fl <;> first | exact I2.after hq | exact False.elim hq
end
end L2
namespace N01
open PySem PySem.Spec PyProof.Rows L2
/-- None, or OutOfRange with the field name -/
def spCheck (r : Str → Bool) (C : Addr) : Sp := fun vs H Q E => ∃ t w : Str, vs = [.str t, .str w] ∧ t.length ≤ 1000 ∧ w.length ≤ 1000 ∧ (r t = true → ∀ H', Same H H' → Q .non H') ∧
  (r t = false → ∀ H' d, Same H H' → H' d = some (.xd [(("name" : Str), .str w)]) → E (.ref C) (some d) H')
abbrev sCkN : Stmt := top 11
abbrev sCkU : Stmt := top 12
abbrev sRef : Stmt := top 21
section
variable {P : Program} {w : World} {K : PySem.W.Frag} {mg : Str → Option Value} {base : Heap} {C fI : Addr}
theorem scCN : FnScope ["text", "what"] ["text", "what"] (defScope sCkN) := ⟨rfl, rfl, rfl, by decide +kernel, rfl, by decide +kernel, by decide +kernel⟩
theorem scCU : FnScope ["text", "what"] ["text", "what"] (defScope sCkU) := ⟨rfl, rfl, rfl, by decide +kernel, rfl, by decide +kernel, by decide +kernel⟩
def t_check (r : Str → Bool) (C : Addr) (E : XK) : TS := tIfS (tNot (tB (tCall (spText fun t => .bl (r t)) [] E0 (tCons (tVar 0) tNil)))) (tRaiseOor C (fun cls d _ H => E cls d H) (tCons (tVar 1) tNil)) tNext
theorem pure_check (r : Str → Bool) (vs : List V) (H : Hp) (Q : VK) (E : XK) (h : spCheck r C vs H Q E) : t_check r C E { nx := fun _ H' => Q .non H', rt := Q } (start ["text", "what"] vs) H := by
  obtain ⟨t, v, rfl, hz, hw, kt, kf⟩ := h
  refine ⟨_, rfl, t, rfl, hz, fun H1 s1 => ⟨_, rfl, ?_⟩⟩
  cases e : r t with
  | true => exact iteF (kt e H1 s1)
  | false =>
    refine iteT ?_
    exact ⟨_, rfl, v, rfl, hw, fun d hd => kf e _ d (fun b o q => (upd_ne (ne_of_none (s1 b o q) hd)).trans (s1 b o q)) upd_same⟩
theorem ok_ckN {f fN : Addr} {fd fdN : FuncData} (F : FunD K "check_name" "check_name" (defArgs sCkN) (defBody sCkN) (defScope sCkN) [.str "name"] [] f fd) (T : PySem.OorX.OorTxt P K mg C fI) (GN : FnOk P w K mg base CX0 1 fN fdN ["text"] (spText fun t => .bl (nameT t)))
    (bN : Binds K fdN ["text"] []) (gN : mg "is_name" = some (.ref fN)) (kN : PySem.W.keepIn K (.ref fN) = true) : FnOk P w K mg base (L2.CX P w) 2 f fd ["text", "what"] (spCheck nameT C) := by
  refine F.ok (CX := L2.CX P w) scCN (fun vs H Q E h => ?_) (fun cdv A outer s H vs Q E hr h => ⟨t_check nameT C E, ?_, pure_check nameT vs H Q E h⟩)
  · obtain ⟨t, v, rfl, _⟩ := h
    rfl
  · exact pss_one (ps_if (pt_not (pt_val (pe_call GN hr (by rfl) gN kN bN .nil pass0 (pa_cons (pv 0) pa_nil)))) (pss_one (ps_raiseOor rfl T hr (takes_of rfl rfl rfl rfl) (pa_cons (pv 1) pa_nil))) pss_nil)
theorem ok_ckU {f fN : Addr} {fd fdN : FuncData} (F : FunD K "check_uid" "check_uid" (defArgs sCkU) (defBody sCkU) (defScope sCkU) [.str "uid"] [] f fd) (T : PySem.OorX.OorTxt P K mg C fI) (GN : FnOk P w K mg base CX0 2 fN fdN ["text"] (spText fun t => .bl (uidT t)))
    (bN : Binds K fdN ["text"] []) (gN : mg "is_uid" = some (.ref fN)) (kN : PySem.W.keepIn K (.ref fN) = true) : FnOk P w K mg base (L2.CX P w) 3 f fd ["text", "what"] (spCheck uidT C) := by
  refine F.ok (CX := L2.CX P w) scCU (fun vs H Q E h => ?_) (fun cdv A outer s H vs Q E hr h => ⟨t_check uidT C E, ?_, pure_check uidT vs H Q E h⟩)
  · obtain ⟨t, v, rfl, _⟩ := h
    rfl
  · exact pss_one (ps_if (pt_not (pt_val (pe_call GN hr (by rfl) gN kN bN .nil pass0 (pa_cons (pv 0) pa_nil)))) (pss_one (ps_raiseOor rfl T (hr.mono (by decide)) (takes_of rfl rfl rfl rfl) (pa_cons (pv 1) pa_nil))) pss_nil)
/-! ### _law_refused -/
structure TxtR (K : PySem.W.Frag) (mg : Str → Option Value) (C CF CT : Addr) : Prop where
  gO : mg "OutOfRange" = some (.ref C)
  gF : mg "FarError" = some (.ref CF)
  gT : mg "TextFault" = some (.ref CT)
  isi : mg "isinstance" = none
  xf : XfC K C
  ec : ExcCls K C
  noN : PySem.W.findIn K (.ref C) "name" = some none
  exm : PySem.W.exmOne K (.ref C) (.ref CF) = some true
  k1 : PySem.W.kitOne K (.ref C) (.ref C) = some true
  k2 : PySem.W.kitOne K (.ref C) (.ref CT) = some false
def okW (k : Int) (t : Str) : Bool := if k = 0 ∨ k = 1 then nameT t else uidT t
def nmW (k : Int) (w : Str) : Str := if k = 0 then "name" else if k = 2 then "uid" else w
def spRef : Sp := fun vs H Q _ => ∃ (k : Int) (t w : Str), vs = [.int k, .str t, .str w] ∧ t.length ≤ 1000 ∧ w.length ≤ 1000 ∧ (okW k t = true → ∀ H', Same H H' → Q .non H') ∧
  (okW k t = false → ∀ H' p, Same H H' → H' p = some (.tup [.str "refused", .str (nmW k w)]) → Q (.ref p) H')
theorem scR : FnScope ["which", "text", "what", "told", "e"] ["which", "text", "what"] (defScope sRef) := ⟨rfl, rfl, rfl, by decide +kernel, rfl, by decide +kernel, by decide +kernel⟩
def gKw (α : Type) : List α → List α → List α := fun us ws => us ++ ws
def t_body (C : Addr) : WX → TS := fun W =>
  tIfS (tTest (tOp rEq (tVar 0) (tC (.int 0)))) (tAsg (tCallSD (spCheck nameT C) [.str "name"] (WE W) (tCons (tVar 1) tNil)) (gName 3))
    (tIfS (tTest (tOp rEq (tVar 0) (tC (.int 1)))) (tAsg (tCallSD (spCheck nameT C) [] (WE W) (tCons (tVar 1) (tCons (tVar 2) tNil))) (gName 3))
      (tIfS (tTest (tOp rEq (tVar 0) (tC (.int 2)))) (tAsg (tCallSD (spCheck uidT C) [.str "uid"] (WE W) (tCons (tVar 1) tNil)) (gName 3))
        (tAsg (tCallKS 1 1 (spCheck uidT C) (gKw V) (WE W) (tCons (tVar 1) tNil) (tCons (tVar 2) tNil)) (gName 3))))
def t_suite (K : PySem.W.Frag) (C CT : Addr) : Addr → Value → Option Addr → TS := fun a cls d =>
  tSeq (tIfS (tAnd (tB (tCB (rIsX K C a cls d) (tCons (tVar 4) (tCons (tC (.ref C)) tNil)))) (tNot (tB (tCB (rIsX K C a cls d) (tCons (tVar 4) (tCons (tC (.ref CT)) tNil))))))
    (tRet (tTup (tCons (tC (.str "refused")) (tCons (tXf a cls d C "name" (tVar 4)) tNil)))) tNext)
    (tRet (tTup (tCons (tC (.str "refused")) (tCons (tC (.int 0)) tNil))))
def t_ref (K : PySem.W.Frag) (C CF CT : Addr) : TS := tSeq (fun D σ H => t_body C (wAs K (.ref CF) 4 (t_suite K C CT) (fun _ _ _ _ => False) D) D σ H) (tRet (tVar 3))
theorem pure_ref {CF CT : Addr} (T : TxtR K mg C CF CT) (vs : List V) (H : Hp) (Q : VK) (E : XK) (h : spRef vs H Q E) : t_ref K C CF CT { nx := fun _ H' => Q .non H', rt := Q } (start ["which", "text", "what", "told", "e"] vs) H := by
  obtain ⟨k, t, v, rfl, hz, hw, kt, kf⟩ := h
  -- how the clause ends
  have ends : ∀ (n : Str) (H' : Hp) (d : Addr), okW k t = false → nmW k v = n → Same H H' → H' d = some (.xd [(("name" : Str), .str n)]) →
      wAs K (.ref CF) 4 (t_suite K C CT) (fun _ _ _ _ => False) { nx := tRet (tVar 3) { nx := fun _ H' => Q .non H', rt := Q }, rt := Q } (.ref C) (some d) [some (.int k), some (.str t), some (.str v), none, none] H' := by
    intro n H' d ho hn sm hd
    refine ⟨true, T.exm, fun _ a na => ?_, fun q => Bool.noConfusion q⟩
    refine ⟨_, rfl, _, .ref C, true, rfl, fun u r => r, rfl, ⟨d, _, rfl, hd⟩, T.k1, _, rfl, ?_⟩
    refine iteT ⟨_, rfl, _, .ref CT, false, rfl, fun u r => r, rfl, ⟨d, _, rfl, hd⟩, T.k2, _, rfl, ?_⟩
    refine iteT ⟨_, rfl, rfl, rfl, d, _, _, rfl, hd, rfl, (by show 2 ≤ sizeLine; decide), fun p hp => ?_⟩
    refine kf ho _ p (fun b o q => (upd_ne (ne_of_none (sm b o q) hp)).trans (sm b o q)) ?_
    rw [upd_same, hn]
  refine ⟨_, rfl, rfl, _, rfl, ite2 (fun c0 => ?_) (fun c0 => ?_)⟩
  · have c : k = 0 := V.int.inj (of_decide_eq_true c0)
    have ew : okW k t = nameT t := by unfold okW; rw [if_pos (Or.inl c)]
    exact ⟨_, rfl, t, _, rfl, hz, by decide +kernel, fun ho H1 s1 => ⟨_, rfl, kt (ew.trans ho) H1 s1⟩, fun ho H1 d s1 hd => ends _ H1 d (ew.trans ho) (by unfold nmW; rw [if_pos c]) s1 hd⟩
  · refine ⟨_, rfl, rfl, _, rfl, ite2 (fun c1 => ?_) (fun c1 => ?_)⟩
    · have c : k = 1 := V.int.inj (of_decide_eq_true c1)
      have ew : okW k t = nameT t := by unfold okW; rw [if_pos (Or.inr c)]
      exact ⟨_, rfl, _, rfl, t, v, rfl, hz, hw, fun ho H1 s1 => ⟨_, rfl, kt (ew.trans ho) H1 s1⟩, fun ho H1 d s1 hd => ends _ H1 d (ew.trans ho) (by unfold nmW; rw [if_neg (by omega), if_neg (by omega)]) s1 hd⟩
    · have n0 : ¬ k = 0 := fun e => c0 (by rw [e] <;> rfl)
      have n1 : ¬ k = 1 := fun e => c1 (by rw [e] <;> rfl)
      have ew : okW k t = uidT t := by unfold okW; rw [if_neg (by omega)]
      refine ⟨_, rfl, rfl, _, rfl, ite2 (fun c2 => ?_) (fun c2 => ?_)⟩
      · have c : k = 2 := V.int.inj (of_decide_eq_true c2)
        exact ⟨_, rfl, t, _, rfl, hz, by decide +kernel, fun ho H1 s1 => ⟨_, rfl, kt (ew.trans ho) H1 s1⟩, fun ho H1 d s1 hd => ends _ H1 d (ew.trans ho) (by unfold nmW; rw [if_neg n0, if_pos c]) s1 hd⟩
      · have n2 : ¬ k = 2 := fun e => c2 (by rw [e] <;> rfl)
        exact ⟨_, rfl, _, rfl, rfl, rfl, t, v, rfl, hz, hw, fun ho H1 s1 => ⟨_, rfl, kt (ew.trans ho) H1 s1⟩, fun ho H1 d s1 hd => ends _ H1 d (ew.trans ho) (by unfold nmW; rw [if_neg n0, if_neg n2]) s1 hd⟩
theorem ok_ref {CF CT f fA fB : Addr} {fd fdA fdB : FuncData} {dsA dsB : List Value} {gB : List Value → List Value → List Value} (F : Fun K "_law_refused" "_law_refused" sRef f fd) (T : TxtR K mg C CF CT)
    (GA : FnOk P w K mg base (L2.CX P w) 2 fA fdA ["text", "what"] (spCheck nameT C)) (GB : FnOk P w K mg base (L2.CX P w) 3 fB fdB ["text", "what"] (spCheck uidT C))
    (vA : Vals [.str "name"] dsA) (bA : Binds K fdA ["text", "what"] dsA) (bA2 : Binds K fdA ["text", "what"] []) (vB : Vals [.str "uid"] dsB) (bB : Binds K fdB ["text", "what"] dsB) (kB : KBn K fdB ["text", "what"] 1 ["what"] gB (gKw V))
    (gA : mg "check_name" = some (.ref fA)) (kA : PySem.W.keepIn K (.ref fA) = true) (gU : mg "check_uid" = some (.ref fB)) (kU : PySem.W.keepIn K (.ref fB) = true) : FnOk P w K mg base CX0 4 f fd ["which", "text", "what"] spRef := by
  refine F.ok scR (fun vs H Q E h => ?_) (fun cdv A outer s H vs Q E hr h => ⟨t_ref K C CF CT, ?_, pure_ref T vs H Q E h⟩)
  · obtain ⟨k, t, v, rfl, _⟩ := h
    rfl
  · have hr2 : Room 2 _ := hr.mono (by decide)
    refine pss_cons ?_ (pss_one (ps_ret (pv 3)))
    refine ps_try_as (i := 4) (tb := t_body C) (ts := t_suite K C CT) (Wout := fun _ _ _ _ => False) rfl rfl scR.nd rfl rfl ⟨rfl, by decide, Or.inl T.gF⟩ takes0 (fun W pn xe tk _ => ?_) (fun a oe cls d pn hz hf => ?_)
    · exact pss_one (ps_if (pt_cmpR op_eq (pv 0) pe_int (nomark _)) (pss_one (ps_set (i := 3) scR.nd rfl (Or.inl rfl) (pe_callSD GA hr2 rfl gA kA bA vA (fun σ => passAt tk σ) (pa_cons (pv 1) pa_nil))))
        (pss_one (ps_if (pt_cmpR op_eq (pv 0) pe_int (nomark _)) (pss_one (ps_set (i := 3) scR.nd rfl (Or.inl rfl) (pe_callSD GA hr2 rfl gA kA bA2 .nil (fun σ => passAt tk σ) (pa_cons (pv 1) (pa_cons (pv 2) pa_nil)))))
          (pss_one (ps_if (pt_cmpR op_eq (pv 0) pe_int (nomark _)) (pss_one (ps_set (i := 3) scR.nd rfl (Or.inl rfl) (pe_callSD GB hr rfl gU kU bB vB (fun σ => passAt tk σ) (pa_cons (pv 1) pa_nil))))
            (pss_one (ps_set (i := 3) scR.nd rfl (Or.inl rfl) (pe_callKS GB hr (by rfl) gU kU kB (fun σ => passAt tk σ) (pa_cons (pv 1) pa_nil) (pk_cons (pv 2) pk_nil)))))))))
    · exact pss_cons (ps_if (PW.pt (pw_and (pt_val (pe_callB (call_isX T.ec hz hf) (by rfl) T.isi (by decide +kernel) (pa_cons (pv 4) (pa_cons (pe_glob (v := .ref C) (by rfl) T.gO rfl) pa_nil))))
        (pw_and1 (pt_not (pt_val (pe_callB (call_isX T.ec hz hf) (by rfl) T.isi (by decide +kernel) (pa_cons (pv 4) (pa_cons (pe_glob (v := .ref CT) (by rfl) T.gT rfl) pa_nil))))))))
        (pss_one (ps_ret (pe_tup (pa_cons pe_str (pa_cons (pe_xf T.xf T.noN hz hf (pv 4)) pa_nil))))) pss_nil)
        (pss_one (ps_ret (pe_tup (pa_cons pe_str (pa_cons pe_int pa_nil)))))
end
end N01

set_option linter.all false
set_option maxRecDepth 100000
set_option maxHeartbeats 4000000
namespace L2
open PySem PySem.Spec PyProof.Rows
theorem op_mul_str {X : Cx} : OpR X (binaryOp .Mult) (fun x y H Q => ∃ z n, x = .str z ∧ y = .int n ∧ z.length ≤ 1000 ∧ n ≤ 1000 ∧ -1000 ≤ n ∧ Q (.str (Txt.mul z n)) H) := by
  intro pins s σ H x y v u Q I rx ry h
  obtain ⟨z, n, rfl, rfl, h1, h2, h3, q⟩ := h
  obtain ⟨t, rfl⟩ := rx
  obtain ⟨t', rfl⟩ := ry
  exact SB.mul (N01.mulOk_small h1 h2 h3) fun t' k => ⟨.str _, H, I.tok _, ⟨_, rfl⟩, q⟩
end L2
namespace N01
open PySem PySem.Spec PyProof.Rows L2
structure TxtL (K : PySem.W.Frag) (mg : Str → Option Value) : Prop where
  len : mg "len" = none
  int : mg "int" = none
  range : mg "range" = none
abbrev sCell : Stmt := top 14
abbrev sDig : Stmt := top 15
abbrev sDraw : Stmt := top 16
/-- some int -/
def spCell (K : PySem.W.Frag) : Sp := fun vs H Q _ => ∃ (l : Addr) (ns : List Int) (j : Nat), vs = [.ref l, .int j] ∧ SqL K H l (ns.map V.int) ∧ ∀ n, Q (.int n) H
/-- a new list of ints, none of the old objects touched -/
def spDig (K : PySem.W.Frag) : Sp := fun vs H Q _ => ∃ (l : Addr) (ns : List Int), vs = [.ref l, .int 0, .int 63] ∧ SqL K H l (ns.map V.int) ∧ ∀ (H' : Hp) (p : Addr) (ms : List Int), Same H H' → H p = none → H' p = some (.lst (ms.map V.int)) → ms.length ≤ 4000 → Q (.ref p) H'
/-- the box: its digits, how many were drawn -/
def BoxAt (H : Hp) (b : Addr) : Prop := ∃ (d : Addr) (ns : List Int) (k : Nat), H b = some (.lst [.ref d, .int k]) ∧ H d = some (.lst (ns.map V.int)) ∧ ns.length ≤ 4000
def Kept (b : Addr) (H H' : Hp) : Prop := ∀ c o, H c = some o → c ≠ b → H' c = some o
theorem Kept.refl {b : Addr} (H : Hp) : Kept b H H := fun _ _ e _ => e
theorem Kept.trans {b : Addr} {H H1 H2 : Hp} (a : Kept b H H1) (c : Kept b H1 H2) : Kept b H H2 := fun x o e n => c x o (a x o e n) n
theorem Kept.new {b p : Addr} {H H1 : Hp} {o : HO} (a : Kept b H H1) (n : H1 p = none) : Kept b H (upd H1 p o) := fun c u e m => (upd_ne (ne_of_none (a c u e m) n)).trans (a c u e m)
theorem BoxAt.same {b : Addr} {H H' : Hp} (B : BoxAt H b) (s : Same H H') : BoxAt H' b := by
  obtain ⟨d, ns, k, h1, h2, h3⟩ := B
  exact ⟨d, ns, k, s _ _ h1, s _ _ h2, h3⟩
theorem BoxAt.new {b p : Addr} {H : Hp} {o : HO} (B : BoxAt H b) (n : H p = none) : BoxAt (upd H p o) b := B.same fun c u e => (upd_ne (ne_of_none e n)).trans e
def spDraw : Sp := fun vs H Q _ => ∃ (b : Addr) (m : Int), vs = [.ref b, .int m] ∧ 0 < m ∧ BoxAt H b ∧ ∀ (n : Int) (H' : Hp), 0 ≤ n → n < m → BoxAt H' b → Kept b H H' → Q (.int n) H'
section
variable {P : Program} {w : World} {K : PySem.W.Frag} {mg : Str → Option Value} {base : Heap}
theorem scC : FnScope ["script", "k"] ["script", "k"] (defScope sCell) := ⟨rfl, rfl, rfl, by decide +kernel, rfl, by decide +kernel, by decide +kernel⟩
theorem ok_cell {f : Addr} {fd : FuncData} (F : Fun K "_law_cell" "_law_cell" sCell f fd) (T : TxtL K mg) : FnOk P w K mg base CX0 1 f fd ["script", "k"] (spCell K) := by
  refine F.ok scC (fun vs H Q E h => ?_) (fun cdv A outer s H vs Q E hr h => ?_)
  · obtain ⟨l, ns, j, rfl, _⟩ := h
    rfl
  · obtain ⟨l, ns, j, rfl, hs, k⟩ := h
    refine ⟨_, pss_cons (ps_if (pt_cmpR op_lt (pv 1) (pe_callB call_len_seq (by rfl) T.len PySem.boot_len (pa_cons (pv 0) pa_nil)) (nomark _)) (pss_one (ps_ret (pe_ix ix_list (pv 0) (pv 1) (fun _ _ => rfl)))) pss_nil) (pss_one (ps_ret pe_int)), ?_⟩
    refine ⟨_, rfl, _, rfl, l, _, rfl, .inl hs, _, _, rfl, rfl, _, rfl, ite2 (fun c => ?_) (fun c => ?_)⟩
    · have hj : j < ns.length := by
        have := of_decide_eq_true c
        rw [List.length_map] at this
        omega
      refine ⟨_, rfl, _, rfl, l, _, _, .int ns[j], rfl, rfl, hs, atI_nat ?_, k _⟩
      rw [List.getElem?_map, List.getElem?_eq_getElem hj] <;> rfl
    · exact k 0
theorem scD : FnScope ["script", "first", "last", "digits", "k", "cell", "turn", "seed"] ["script", "first", "last"] (defScope sDig) := ⟨rfl, rfl, rfl, by decide +kernel, rfl, by decide +kernel, by decide +kernel⟩
theorem ok_dig {f fC : Addr} {fd fdC : FuncData} (F : Fun K "_law_digits" "_law_digits" sDig f fd) (T : TxtL K mg) (GC : FnOk P w K mg base CX0 1 fC fdC ["script", "k"] (spCell K)) (bC : Binds K fdC ["script", "k"] []) (gC : mg "_law_cell" = some (.ref fC)) (kC : PySem.W.keepIn K (.ref fC) = true) :
    FnOk P w K mg base CX0 2 f fd ["script", "first", "last"] (spDig K) := by
  refine F.ok scD (fun vs H Q E h => ?_) (fun cdv A outer s H vs Q E hr h => ?_)
  · obtain ⟨l, ns, rfl, _⟩ := h
    rfl
  · obtain ⟨l, ns, rfl, hs, k⟩ := h
    refine ⟨_, pss_cons (ps_set (i := 3) scD.nd rfl (Or.inl rfl) (pe_lst pa_nil)) (pss_cons (ps_for PassesOwn.never rfl (pi_range2 (by rfl) T.range (pa_cons (pv 1) (pa_cons (pv 2) pa_nil))) (pg_name (i := 4) scD.nd rfl (Or.inl rfl))
      (pss_cons (ps_set (i := 5) scD.nd rfl (Or.inl rfl) (pe_call GC hr (by rfl) gC kC bC .nil pass0 (pa_cons (pv 0) (pa_cons (pv 4) pa_nil))))
      (pss_cons (ps_if (pt_cmpR op_lt (pv 5) pe_int (nomark _)) (pss_one (ps_set (i := 5) scD.nd rfl (Or.inl rfl) (pe_op op_sub pe_int (pe_op op_mul pe_int (pv 5))))) pss_nil)
      (pss_one (ps_if (pt_cmpR op_ge (pv 5) pe_int (nomark _))
        (pss_one (ps_for PassesOwn.never rfl (pi_range1 (by rfl) T.range (pa_cons pe_int pa_nil)) (pg_name (i := 6) scD.nd rfl (Or.inl rfl))
          (pss_one (ps_if (pt_cmpR op_gt (pv 5) pe_int (nomark _))
            (pss_cons (ps_expr (pe_bm PySem.F.plainAttrs_list PySem.F.slot_list_append PySem.F.type_list_append mt_append (pv 3) (pa_cons (pe_op op_mod (pe_callTy call_int1 (by rfl) T.int (by decide +kernel) (pa_cons (pv 5) pa_nil)) pe_int) pa_nil)))
              (pss_one (ps_set (i := 5) scD.nd rfl (Or.inl rfl) (pe_op op_fdiv (pv 5) pe_int)))) pss_nil))))
        (pss_cons (ps_set (i := 7) scD.nd rfl (Or.inl rfl) (pe_op op_mod (pe_callTy call_int1 (by rfl) T.int (by decide +kernel) (pa_cons (pe_op op_add (pe_op op_add (pe_op op_mul (pv 5) pe_int) (pe_op op_mul (pv 4) pe_int)) pe_int) pa_nil)) pe_int))
          (pss_one (ps_for PassesOwn.never rfl (pi_range1 (by rfl) T.range (pa_cons pe_int pa_nil)) (pg_name (i := 6) scD.nd rfl (Or.inl rfl))
            (pss_cons (ps_set (i := 7) scD.nd rfl (Or.inl rfl) (pe_op op_mod (pe_callTy call_int1 (by rfl) T.int (by decide +kernel) (pa_cons (pe_op op_add (pe_op op_add (pe_op op_mul (pv 7) pe_int) (pe_op op_mul pe_int (pv 6))) pe_int) pa_nil)) pe_int))
              (pss_one (ps_expr (pe_bm PySem.F.plainAttrs_list PySem.F.slot_list_append PySem.F.type_list_append mt_append (pv 3) (pa_cons (pe_op op_mod (pe_callTy call_int1 (by rfl) T.int (by decide +kernel) (pa_cons (pe_op op_fdiv (pv 7) pe_int) pa_nil)) pe_int) pa_nil))))))))))))) (pss_one (ps_ret (pv 3)))), ?_⟩
    refine ⟨Nat.zero_le _, fun p hp => ?_⟩
    have big : (4000 : Nat) < sizeLine := by decide
    have grow : ∀ {H2 : Hp} {o : HO}, Same H H2 → Same H (upd H2 p o) := fun s b u e => (upd_ne (ne_of_none e hp)).trans (s b u e)
    have more : ∀ {H2 : Hp} {m : List Int} (z : Int), (upd H2 p (.lst (m.map V.int ++ [V.int z]))) p = some (.lst ((m ++ [z]).map V.int)) := fun z => by rw [upd_same, List.map_append] <;> rfl
    refine ⟨_, rfl, _, rfl, 0, 63, rfl, ⟨by decide, by decide, by decide, by decide⟩, for_range (lo := 0) (n := 63) (fun i σ H' => ∃ (ms : List Int) (v4 v5 v6 v7 : Option V), σ = [some (.ref l), some (.int 0), some (.int 63), some (.ref p), v4, v5, v6, v7] ∧
      H' p = some (.lst (ms.map V.int)) ∧ ms.length ≤ 60 * i ∧ Same H H') ⟨[], none, none, none, none, rfl, upd_same, Nat.le_refl _, grow (Same.refl H)⟩ ?_ ?_⟩
    · rintro i σ H1 hi ⟨ms, v4, v5, v6, v7, rfl, p1, p2, p3⟩
      refine ⟨_, rfl, _, rfl, l, ns, i, by rw [Int.zero_add] <;> rfl, p3.seq hs, fun c0 => ?_⟩
      refine ⟨_, rfl, _, _, rfl, rfl, _, rfl, ite2 (fun _ => ⟨_, rfl, _, _, rfl, rfl, Or.inl ⟨by decide, by decide⟩, _, _, rfl, rfl, ?_⟩) (fun _ => ?_)⟩
      all_goals
        refine ⟨_, rfl, _, _, rfl, rfl, _, rfl, ite2 (fun _ => ?_) (fun cc => ?_)⟩
        · refine ⟨60, rfl, by decide, by decide, for_range (lo := 0) (n := 60) (fun j σ H' => ∃ (m2 : List Int) (c : Int) (v6 : Option V), σ = [some (.ref l), some (.int 0), some (.int 63), some (.ref p), some (.int (0 + i)), some (.int c), v6, v7] ∧
            H' p = some (.lst (m2.map V.int)) ∧ m2.length ≤ 60 * i + j ∧ Same H H') ⟨ms, _, v6, rfl, p1, p2, p3⟩ ?_ ?_⟩
          · rintro j σ H2 hj ⟨m2, c, v, rfl, q1, q2, q3⟩
            refine ⟨_, rfl, _, _, rfl, rfl, _, rfl, ite2 (fun _ => ?_) (fun _ => ?_)⟩
            · refine ⟨_, rfl, Or.inl ⟨rfl, _, Or.inl (Or.inl q1)⟩, _, rfl, Or.inl ⟨_, rfl, _, _, rfl, rfl, (by show (0 : Int) < 1000; decide), p, _, _, rfl, rfl, q1, ?_, ?_⟩⟩
              · rw [List.length_map]; omega
              · exact ⟨_, rfl, _, _, rfl, rfl, ⟨by decide, by decide⟩, m2 ++ [_], _, _, rfl, more _, by rw [List.length_append, List.length_singleton]; omega, grow q3⟩
            · exact ⟨m2, c, _, rfl, q1, by omega, q3⟩
          · rintro σ H2 ⟨m2, c, v, rfl, q1, q2, q3⟩
            exact ⟨m2, _, _, _, _, rfl, q1, by omega, q3⟩
        · refine ⟨_, rfl, _, _, rfl, rfl, Or.inr ⟨by decide, by decide⟩, _, rfl, _, _, rfl, rfl, Or.inr ⟨by decide, by decide⟩, _, _, rfl, rfl, _, _, rfl, rfl, Or.inl ⟨_, rfl, _, _, rfl, rfl, (by show (0 : Int) < _; decide), ?_⟩⟩
          refine ⟨12, rfl, by decide, by decide, for_range (lo := 0) (n := 12) (fun j σ H' => ∃ (m2 : List Int) (c z : Int) (v6 : Option V), σ = [some (.ref l), some (.int 0), some (.int 63), some (.ref p), some (.int (0 + i)), some (.int c), v6, some (.int z)] ∧
            H' p = some (.lst (m2.map V.int)) ∧ m2.length ≤ 60 * i + j ∧ Same H H') ⟨ms, _, _, v6, rfl, p1, p2, p3⟩ ?_ ?_⟩
          · rintro j σ H2 hj ⟨m2, c, z, v, rfl, q1, q2, q3⟩
            refine ⟨_, rfl, _, _, rfl, rfl, Or.inr ⟨by decide, by decide⟩, _, rfl, _, _, rfl, rfl, Or.inl ⟨by decide, by decide⟩, _, _, rfl, rfl, _, _, rfl, rfl, Or.inl ⟨_, rfl, _, _, rfl, rfl, (by show (0 : Int) < _; decide), ?_⟩⟩
            refine ⟨_, rfl, Or.inl ⟨rfl, _, Or.inl (Or.inl q1)⟩, _, rfl, _, _, rfl, rfl, ⟨by decide, by decide⟩, Or.inl ⟨_, rfl, _, _, rfl, rfl, (by show (0 : Int) < 1000; decide), p, _, _, rfl, rfl, q1, ?_, ?_⟩⟩
            · rw [List.length_map]; omega
            · exact ⟨m2 ++ [_], _, _, _, rfl, more _, by rw [List.length_append, List.length_singleton]; omega, grow q3⟩
          · rintro σ H2 ⟨m2, c, z, v, rfl, q1, q2, q3⟩
            exact ⟨m2, _, _, _, _, rfl, q1, by omega, q3⟩
    · rintro σ H1 ⟨ms, v4, v5, v6, v7, rfl, p1, p2, p3⟩
      exact ⟨_, rfl, k H1 p ms p3 hp p1 (by omega)⟩
theorem scW : FnScope ["box", "many", "at"] ["box", "many"] (defScope sDraw) := ⟨rfl, rfl, rfl, by decide +kernel, rfl, by decide +kernel, by decide +kernel⟩
theorem ok_draw {f : Addr} {fd : FuncData} (F : Fun K "_law_draw" "_law_draw" sDraw f fd) (T : TxtL K mg) : FnOk P w K mg base CX0 1 f fd ["box", "many"] spDraw := by
  refine F.ok scW (fun vs H Q E h => ?_) (fun cdv A outer s H vs Q E hr h => ?_)
  · obtain ⟨b, m, rfl, _⟩ := h
    rfl
  · obtain ⟨b, m, rfl, hm, ⟨d, ns, k, h1, h2, h3⟩, kk⟩ := h
    refine ⟨_, pss_cons (ps_set (i := 2) scW.nd rfl (Or.inl rfl) (pe_ix ix_list (pv 0) pe_int (fun _ _ => rfl)))
      (pss_cons (ps_asg (pe_op op_add (pv 2) pe_int) (pg_sub (pv 0) pe_int set_list))
      (pss_cons (ps_if (pt_cmpR op_lt (pv 2) (pe_callB call_len_seq (by rfl) T.len PySem.boot_len (pa_cons (pe_ix ix_list (pv 0) pe_int (fun _ _ => rfl)) pa_nil)) (nomark _))
        (pss_one (ps_ret (pe_op op_mod (pe_callTy call_int1 (by rfl) T.int (by decide +kernel) (pa_cons (pe_ix ix_list (pe_ix ix_list (pv 0) pe_int (fun _ _ => rfl)) (pv 2) (fun _ _ => rfl)) pa_nil)) (pv 1)))) pss_nil)
      (pss_one (ps_ret (pe_op op_mod (pe_callTy call_int1 (by rfl) T.int (by decide +kernel) (pa_cons (pe_op op_add (pe_op op_mul (pv 2) pe_int) pe_int) pa_nil)) (pv 1)))))), ?_⟩
    refine ⟨_, rfl, b, _, 1, _, rfl, rfl, SqL.of h1, atI_nat (j := 1) rfl, ?_⟩
    refine ⟨_, rfl, _, _, rfl, rfl, ?_⟩
    refine ⟨_, rfl, b, _, 1, 1, rfl, rfl, h1, rfl, ?_⟩
    have ndb : d ≠ b := fun e => by
      rw [e, h1] at h2
      injection h2 with h2
      injection h2 with h2
      cases ns with
      | nil => cases h2
      | cons a r => cases h2
    have hb : (upd H b (.lst ([V.ref d, V.int k].set 1 (V.int ((k : Int) + 1))))) b = some (.lst [V.ref d, V.int ((k : Int) + 1)]) := upd_same
    have hd : (upd H b (.lst ([V.ref d, V.int k].set 1 (V.int ((k : Int) + 1))))) d = some (.lst (ns.map V.int)) := (upd_ne ndb).trans h2
    have fin : ∀ z : Int, Q (.int (z % m)) (upd H b (.lst ([V.ref d, V.int k].set 1 (V.int ((k : Int) + 1))))) := fun z =>
      kk _ _ (Int.emod_nonneg _ (by omega)) (Int.emod_lt_of_pos _ hm) ⟨d, ns, k + 1, hb, hd, h3⟩ (fun c o e n => (upd_ne n).trans e)
    refine ⟨_, rfl, _, rfl, b, _, 0, _, rfl, rfl, SqL.of hb, atI_nat (j := 0) rfl, d, _, rfl, .inl (SqL.of hd), _, _, rfl, rfl, _, rfl, ite2 (fun c => ?_) (fun c => ?_)⟩
    · have hk : k < ns.length := by
        have := of_decide_eq_true c
        rw [List.length_map] at this
        omega
      refine ⟨_, rfl, b, _, 0, _, rfl, rfl, SqL.of hb, atI_nat (j := 0) rfl, _, rfl, d, _, _, .int ns[k], rfl, rfl, SqL.of hd, atI_nat ?_, Or.inl ⟨_, rfl, _, rfl, _, _, rfl, rfl, hm, fin _⟩⟩
      rw [List.getElem?_map, List.getElem?_eq_getElem hk] <;> rfl
    · exact ⟨_, rfl, _, _, rfl, rfl, Or.inr ⟨by decide, by decide⟩, _, _, rfl, rfl, Or.inl ⟨_, rfl, _, rfl, _, _, rfl, rfl, hm, fin _⟩⟩
end
end N01

set_option linter.all false
set_option maxRecDepth 100000
set_option maxHeartbeats 4000000
namespace N01
open PySem PySem.Spec PyProof.Rows L2
abbrev sName : Stmt := top 17
abbrev sNear : Stmt := top 18
abbrev sLawN : Stmt := top 19
abbrev sLawU : Stmt := top 20
/-- a text of 1 to 12 signs -/
def spName (lo hi : Nat) (R : Str → Prop) : Sp := fun vs H Q _ => ∃ b : Addr, vs = [.ref b] ∧ BoxAt H b ∧ ∀ (t : Str) (H' : Hp), lo ≤ t.length → t.length ≤ hi → R t → BoxAt H' b → Kept b H H' → Q (.str t) H'
theorem atI_in {xs : List Nat} {n : Int} (h0 : 0 ≤ n) (h1 : n < xs.length) : ∃ c, atI xs n = some c := by
  obtain ⟨m, rfl⟩ : ∃ m : Nat, n = m := ⟨n.toNat, by omega⟩
  have hm : m < xs.length := by omega
  exact ⟨xs[m], atI_nat (List.getElem?_eq_getElem hm)⟩
theorem SG_len : SG.cps.toList.length = 36 := by decide +kernel
theorem sg_asc {n : Int} {c : Nat} (h : atI SG.cps.toList n = some c) : c < 128 := by
  obtain ⟨j, _, h2, _⟩ := atI_get h
  have hm := List.mem_of_getElem? h2
  have all : ∀ c ∈ SG.cps.toList, c < 128 := by decide +kernel
  exact all c hm
theorem k_asc : Asc "k" := by unfold Asc; decide +kernel
theorem e_asc : Asc (Str.ofString "") := by unfold Asc; decide +kernel
theorem one_len (c : Nat) : (⟨#[c]⟩ : Str).length = 1 := rfl
theorem app_len (a b : Str) : (a ++ b).length = a.length + b.length := strLen_append a b
section
variable {P : Program} {w : World} {K : PySem.W.Frag} {mg : Str → Option Value} {base : Heap}
theorem scNa : FnScope ["box", "signs", "kind", "at", "text", "turn"] ["box"] (defScope sName) := ⟨rfl, rfl, rfl, by decide +kernel, rfl, by decide +kernel, by decide +kernel⟩
theorem ok_name {f fW : Addr} {fd fdW : FuncData} (F : Fun K "_law_name" "_law_name" sName f fd) (T : TxtL K mg) (GW : FnOk P w K mg base CX0 1 fW fdW ["box", "many"] spDraw) (bW : Binds K fdW ["box", "many"] []) (gW : mg "_law_draw" = some (.ref fW)) (kW : PySem.W.keepIn K (.ref fW) = true) :
    FnOk P w K mg base CX0 2 f fd ["box"] (spName 1 12 Asc) := by
  refine F.ok scNa (fun vs H Q E h => ?_) (fun cdv A outer s H vs Q E hr h => ?_)
  · obtain ⟨b, rfl, _⟩ := h
    rfl
  · obtain ⟨b, rfl, B, k⟩ := h
    refine ⟨_, pss_cons (ps_set (i := 1) scNa.nd rfl (Or.inl rfl) pe_str)
      (pss_cons (ps_set (i := 2) scNa.nd rfl (Or.inl rfl) (pe_call GW hr (by rfl) gW kW bW .nil pass0 (pa_cons (pv 0) (pa_cons pe_int pa_nil))))
      (pss_cons (ps_if (pt_cmpR op_eq (pv 2) pe_int (nomark _)) (pss_one (ps_ret (pe_ix ix_str (pv 1) (pe_call GW hr (by rfl) gW kW bW .nil pass0 (pa_cons (pv 0) (pa_cons pe_int pa_nil))) (fun _ _ => rfl)))) pss_nil)
      (pss_cons (ps_if (pt_cmpR op_eq (pv 2) pe_int (nomark _))
        (pss_cons (ps_set (i := 3) scNa.nd rfl (Or.inl rfl) (pe_call GW hr (by rfl) gW kW bW .nil pass0 (pa_cons (pv 0) (pa_cons pe_int pa_nil))))
          (pss_one (ps_ret (pe_op op_add_str (pe_op op_add_str (pe_op op_mul_str pe_str (pv 3)) (pe_ix ix_str (pv 1) (pe_call GW hr (by rfl) gW kW bW .nil pass0 (pa_cons (pv 0) (pa_cons pe_int pa_nil))) (fun _ _ => rfl)))
            (pe_op op_mul_str pe_str (pe_op op_sub pe_int (pv 3))))))) pss_nil)
      (pss_cons (ps_set (i := 4) scNa.nd rfl (Or.inl rfl) pe_str)
      (pss_cons (ps_for PassesOwn.never rfl (pi_range1 (by rfl) T.range (pa_cons (pe_op op_add pe_int (pe_call GW hr (by rfl) gW kW bW .nil pass0 (pa_cons (pv 0) (pa_cons pe_int pa_nil)))) pa_nil)) (pg_name (i := 5) scNa.nd rfl (Or.inl rfl))
        (pss_one (ps_set (i := 4) scNa.nd rfl (Or.inl rfl) (pe_op op_add_str (pv 4) (pe_ix ix_str (pv 1) (pe_call GW hr (by rfl) gW kW bW .nil pass0 (pa_cons (pv 0) (pa_cons pe_int pa_nil))) (fun _ _ => rfl))))))
      (pss_one (ps_ret (pv 4)))))))), ?_⟩
    have sgz : SG.length ≤ sizeLine := by decide +kernel
    refine ⟨_, rfl, b, 3, rfl, by decide, B, fun n H1 n0 n1 B1 k1 => ?_⟩
    refine ⟨_, rfl, rfl, _, rfl, ite2 (fun _ => ?_) (fun _ => ?_)⟩
    · refine ⟨_, rfl, _, rfl, b, 36, rfl, by decide, B1, fun z H2 z0 z1 B2 k2 => ?_⟩
      obtain ⟨c, hc⟩ := atI_in (xs := SG.cps.toList) z0 (by rw [SG_len]; exact z1)
      exact ⟨SG, _, c, rfl, rfl, sgz, hc, k _ _ (by rw [one_len]; omega) (by rw [one_len]; omega) (asc_one (sg_asc hc)) B2 (k1.trans k2)⟩
    · refine ⟨_, rfl, rfl, _, rfl, ite2 (fun _ => ?_) (fun _ => ?_)⟩
      · refine ⟨_, rfl, b, 12, rfl, by decide, B1, fun z H2 z0 z1 B2 k2 => ?_⟩
        have kl : ("k" : Str).length = 1 := by decide +kernel
        refine ⟨_, rfl, "k", z, rfl, rfl, by decide +kernel, by omega, by omega, _, rfl, _, rfl, b, 36, rfl, by decide, B2, fun y H3 y0 y1 B3 k3 => ?_⟩
        obtain ⟨c, hc⟩ := atI_in (xs := SG.cps.toList) y0 (by rw [SG_len]; exact y1)
        have l1 : (Txt.mul "k" z).length = z.toNat := by rw [mul_len, kl, Nat.one_mul]
        have l2 : (Txt.mul "k" (11 - z)).length = (11 - z).toNat := by rw [mul_len, kl, Nat.one_mul]
        have l3 : (Txt.mul "k" z ++ (⟨#[c]⟩ : Str) ++ Txt.mul "k" (11 - z)).length = 12 := by rw [app_len, app_len, l1, l2, one_len]; omega
        have b16 : sizeLine = 16777216 := sizeLine_eq
        refine ⟨SG, _, c, rfl, rfl, sgz, hc, _, _, rfl, rfl, by rw [l1, one_len]; omega, ?_⟩
        exact ⟨_, rfl, _, _, rfl, rfl, "k", 11 - z, rfl, rfl, by decide +kernel, by omega, by omega, _, _, rfl, rfl, by rw [app_len, l1, l2, one_len]; omega, k _ _ (by rw [l3]; decide) (by rw [l3]; decide) (asc_app (asc_app (asc_mul _ k_asc) (asc_one (sg_asc hc))) (asc_mul _ k_asc)) B3 ((k1.trans k2).trans k3)⟩
      · refine ⟨_, rfl, b, 12, rfl, by decide, B1, fun z H2 z0 z1 B2 k2 => ?_⟩
        refine ⟨_, _, rfl, rfl, 1 + z, rfl, by omega, by omega, for_range (lo := 0) (n := (1 + z).toNat) (fun i σ H' => ∃ (t : Str) (v3 v5 : Option V), σ = [some (.ref b), some (.str SG), some (.int n), v3, some (.str t), v5] ∧ t.length = i ∧ Asc t ∧ BoxAt H' b ∧ Kept b H H')
          ⟨Str.ofString "", none, none, rfl, by decide +kernel, e_asc, B2, k1.trans k2⟩ ?_ ?_⟩
        · rintro i σ H3 hi ⟨t, v3, v5, rfl, ht, ta, B3, k3⟩
          refine ⟨_, rfl, _, rfl, _, rfl, b, 36, rfl, by decide, B3, fun y H4 y0 y1 B4 k4 => ?_⟩
          obtain ⟨c, hc⟩ := atI_in (xs := SG.cps.toList) y0 (by rw [SG_len]; exact y1)
          have b16 : sizeLine = 16777216 := sizeLine_eq
          exact ⟨SG, _, c, rfl, rfl, sgz, hc, _, _, rfl, rfl, by rw [one_len]; omega, t ++ ⟨#[c]⟩, _, _, rfl, by rw [app_len, one_len, ht], asc_app ta (asc_one (sg_asc hc)), B4, k3.trans k4⟩
        · rintro σ H3 ⟨t, v3, v5, rfl, ht, ta, B3, k3⟩
          exact ⟨_, rfl, k _ _ (by omega) (by omega) ta B3 k3⟩
theorem scNe : FnScope ["box", "kind", "name", "at", "part"] ["box"] (defScope sNear) := ⟨rfl, rfl, rfl, by decide +kernel, rfl, by decide +kernel, by decide +kernel⟩
theorem ok_near {f fW fN : Addr} {fd fdW fdN : FuncData} (F : Fun K "_law_near" "_law_near" sNear f fd) (T : TxtL K mg) (GW : FnOk P w K mg base CX0 1 fW fdW ["box", "many"] spDraw) (bW : Binds K fdW ["box", "many"] []) (gW : mg "_law_draw" = some (.ref fW)) (kW : PySem.W.keepIn K (.ref fW) = true)
    (GN : FnOk P w K mg base CX0 2 fN fdN ["box"] (spName 1 12 Asc)) (bN : Binds K fdN ["box"] []) (gN : mg "_law_name" = some (.ref fN)) (kN : PySem.W.keepIn K (.ref fN) = true) :
    FnOk P w K mg base CX0 3 f fd ["box"] (spName 0 100 fun _ => True) := by
  refine F.ok scNe (fun vs H Q E h => ?_) (fun cdv A outer s H vs Q E hr h => ?_)
  · obtain ⟨b, rfl, _⟩ := h
    rfl
  · obtain ⟨b, rfl, B, k⟩ := h
    have hr1 : Room 1 _ := hr.mono (by decide)
    refine ⟨_, pss_cons (ps_set (i := 1) scNe.nd rfl (Or.inl rfl) (pe_call GW hr1 (by rfl) gW kW bW .nil pass0 (pa_cons (pv 0) (pa_cons pe_int pa_nil))))
      (pss_cons (ps_set (i := 2) scNe.nd rfl (Or.inl rfl) (pe_call GN hr (by rfl) gN kN bN .nil pass0 (pa_cons (pv 0) pa_nil)))
      (pss_cons (ps_if (pt_cmpR op_eq (pv 1) pe_int (nomark _)) (pss_one (ps_ret (pv 2))) pss_nil)
      (pss_cons (ps_if (pt_cmpR op_eq (pv 1) pe_int (nomark _))
        (pss_cons (ps_set (i := 3) scNe.nd rfl (Or.inl rfl) (pe_call GW hr1 (by rfl) gW kW bW .nil pass0 (pa_cons (pv 0) (pa_cons (pe_callB call_len_str (by rfl) T.len PySem.boot_len (pa_cons (pv 2) pa_nil)) pa_nil))))
        (pss_cons (ps_set (i := 4) scNe.nd rfl (Or.inl rfl) (pe_op op_add_str (pe_op op_add_str (pe_slice sl_str (pv 2) po_none (po_some (pv 3))) (pe_ix ix_str pe_str (pe_call GW hr1 (by rfl) gW kW bW .nil pass0 (pa_cons (pv 0) (pa_cons pe_int pa_nil))) (fun _ _ => rfl))) (pe_slice sl_str (pv 2) (po_some (pe_op op_add (pv 3) pe_int)) po_none)))
        (pss_one (ps_ret (pe_ix ix_list (pe_lst (pa_cons (pe_op op_add_str (pe_op op_add_str (pv 4) pe_str) (pe_call GN hr (by rfl) gN kN bN .nil pass0 (pa_cons (pv 0) pa_nil)))
          (pa_cons (pe_op op_add_str (pe_op op_add_str (pe_call GN hr (by rfl) gN kN bN .nil pass0 (pa_cons (pv 0) pa_nil)) pe_str) (pv 4)) pa_nil))) (pe_call GW hr1 (by rfl) gW kW bW .nil pass0 (pa_cons (pv 0) (pa_cons pe_int pa_nil))) (fun _ _ => rfl)))))) pss_nil)
      (pss_cons (ps_if (pt_cmpR op_le (pv 1) pe_int (nomark _)) (pss_one (ps_ret (pe_op op_add_str (pe_op op_add_str (pv 2) pe_str) (pe_call GN hr (by rfl) gN kN bN .nil pass0 (pa_cons (pv 0) pa_nil))))) pss_nil)
      (pss_cons (ps_if (pt_cmpR op_eq (pv 1) pe_int (nomark _))
        (pss_cons (ps_set (i := 3) scNe.nd rfl (Or.inl rfl) (pe_call GW hr1 (by rfl) gW kW bW .nil pass0 (pa_cons (pv 0) (pa_cons (pe_callB call_len_str (by rfl) T.len PySem.boot_len (pa_cons (pv 2) pa_nil)) pa_nil))))
        (pss_one (ps_ret (pe_op op_add_str (pe_op op_add_str (pe_slice sl_str (pv 2) po_none (po_some (pv 3))) (pe_ix ix_str pe_str (pe_call GW hr1 (by rfl) gW kW bW .nil pass0 (pa_cons (pv 0) (pa_cons pe_int pa_nil))) (fun _ _ => rfl))) (pe_slice sl_str (pv 2) (po_some (pe_op op_add (pv 3) pe_int)) po_none))))) pss_nil)
      (pss_cons (ps_if (pt_cmpR op_eq (pv 1) pe_int (nomark _)) (pss_one (ps_ret (pe_slice sl_str (pe_op op_mul_str (pv 2) pe_int) po_none (po_some pe_int)))) pss_nil)
      (pss_cons (ps_if (pt_cmpR op_eq (pv 1) pe_int (nomark _)) (pss_one (ps_ret pe_str)) pss_nil)
      (pss_cons (ps_if (pt_cmpR op_eq (pv 1) pe_int (nomark _))
        (pss_one (ps_ret (pe_op op_add_str (pe_op op_add_str (pe_op op_add_str (pe_op op_add_str (pv 2) pe_str) (pe_call GN hr (by rfl) gN kN bN .nil pass0 (pa_cons (pv 0) pa_nil))) (pe_op op_mul_str pe_str (pe_call GW hr1 (by rfl) gW kW bW .nil pass0 (pa_cons (pv 0) (pa_cons pe_int pa_nil)))))
          (pe_call GN hr (by rfl) gN kN bN .nil pass0 (pa_cons (pv 0) pa_nil))))) pss_nil)
      (pss_cons (ps_if (pt_cmpR op_eq (pv 1) pe_int (nomark _))
        (pss_one (ps_ret (pe_ix ix_list (pe_lst (pa_cons (pe_op op_add_str pe_str (pv 2)) (pa_cons (pe_op op_add_str (pv 2) pe_str) (pa_cons pe_str pa_nil)))) (pe_call GW hr1 (by rfl) gW kW bW .nil pass0 (pa_cons (pv 0) (pa_cons pe_int pa_nil))) (fun _ _ => rfl)))) pss_nil)
      (pss_one (ps_ret (pe_ix ix_list (pe_lst (pa_cons (pe_op op_add_str (pe_op op_add_str (pe_slice sl_str (pe_op op_mul_str (pv 2) pe_int) po_none (po_some pe_int)) pe_str) (pv 2))
        (pa_cons (pe_op op_add_str (pe_op op_add_str (pv 2) pe_str) (pe_slice sl_str (pe_op op_mul_str (pv 2) pe_int) po_none (po_some pe_int))) pa_nil))) (pe_call GW hr1 (by rfl) gW kW bW .nil pass0 (pa_cons (pv 0) (pa_cons pe_int pa_nil))) (fun _ _ => rfl))))))))))))), ?_⟩
    have cl : (":" : Str).length = 1 := by decide +kernel
    have b16 : sizeLine = 16777216 := sizeLine_eq
    have pick : ∀ {H6 H7 : Hp} {p : Addr} {xs : List V}, H6 p = none → BoxAt H6 b → Kept b (upd H6 p (.lst xs)) H7 → H7 p = some (.lst xs) := fun {H6 H7 p xs} hp B6 k7 => k7 p _ upd_same (fun e => by
      obtain ⟨d, ns, j, h1, _⟩ := B6
      rw [← e, hp] at h1
      cases h1)
    refine ⟨_, rfl, b, 10, rfl, by decide, B, fun kd H1 n0 n1 B1 k1 => ?_⟩
    refine ⟨_, rfl, b, rfl, B1, fun nm H2 l0 l1 _ B2 k2 => ?_⟩
    have k12 := k1.trans k2
    have nz : nm.length ≤ sizeLine := by omega
    refine ⟨_, rfl, rfl, _, rfl, ite2 (fun _ => ⟨_, rfl, k nm H2 (Nat.zero_le _) (by omega) trivial B2 k12⟩) (fun _ => ?_)⟩
    refine ⟨_, rfl, rfl, _, rfl, ite2 (fun _ => ?_) (fun _ => ?_)⟩
    · -- a strange sign in one part of a uid
      refine ⟨_, rfl, _, rfl, nm, rfl, nz, b, _, rfl, by omega, B2, fun a H3 a0 a1 B3 k3 => ?_⟩
      refine ⟨_, rfl, _, rfl, a, rfl, nm, rfl, nz, _, rfl, b, 8, rfl, by decide, B3, fun z H4 z0 z1 B4 k4 => ?_⟩
      obtain ⟨c, hc⟩ := atI_in (xs := ("AZ_{`- ~" : Str).cps.toList) z0 (show z < 8 from z1)
      have c1 := cutS_length nm none (some a)
      have c2 := cutS_length nm (some (a + 1)) none
      refine ⟨_, _, c, rfl, rfl, by decide +kernel, hc, _, _, rfl, rfl, by simp only [one_len]; omega, _, rfl, _, rfl, _, _, rfl, rfl, _, rfl, nm, rfl, nz, _, _, rfl, rfl, by simp only [app_len, one_len]; omega, ?_⟩
      have pz : (cutS nm none (some a) ++ (⟨#[c]⟩ : Str) ++ cutS nm (some (a + 1)) none).length ≤ 25 := by simp only [app_len, one_len]; omega
      generalize cutS nm none (some a) ++ (⟨#[c]⟩ : Str) ++ cutS nm (some (a + 1)) none = part at pz ⊢
      refine ⟨_, rfl, _, _, rfl, rfl, by rw [cl]; omega, _, rfl, b, rfl, B4, fun m1 H5 u0 u1 _ B5 k5 => ?_⟩
      refine ⟨_, _, rfl, rfl, by simp only [app_len, cl]; omega, _, rfl, b, rfl, B5, fun m2 H6 w0 w1 _ B6 k6 => ?_⟩
      refine ⟨_, _, rfl, rfl, by rw [cl]; omega, _, rfl, _, _, rfl, rfl, by simp only [app_len, cl]; omega, by rw [b16]; exact Nat.le_of_lt_succ (by simp), fun p hp => ?_⟩
      refine ⟨_, rfl, b, 2, rfl, by decide, B6.new hp, fun y H7 y0 y1 B7 k7 => ?_⟩
      have kk := (((((k12.trans k3).trans k4).trans k5).trans k6).new hp).trans k7
      have hp7 := pick hp B6 k7
      by_cases hy : y = 0
      · subst hy
        exact ⟨p, _, 0, _, rfl, rfl, SqL.of hp7, atI_nat (j := 0) rfl, k _ _ (Nat.zero_le _) (by simp only [app_len, cl]; omega) trivial B7 kk⟩
      · have hy1 : y = 1 := by omega
        subst hy1
        exact ⟨p, _, 1, _, rfl, rfl, SqL.of hp7, atI_nat (j := 1) rfl, k _ _ (Nat.zero_le _) (by simp only [app_len, cl]; omega) trivial B7 kk⟩
    refine ⟨_, rfl, _, _, rfl, rfl, _, rfl, ite2 (fun _ => ?_) (fun _ => ?_)⟩
    · refine ⟨_, rfl, _, _, rfl, rfl, by rw [cl]; omega, _, rfl, b, rfl, B2, fun m1 H5 u0 u1 _ B5 k5 => ?_⟩
      exact ⟨_, _, rfl, rfl, by simp only [app_len, cl]; omega, k _ _ (Nat.zero_le _) (by simp only [app_len, cl]; omega) trivial B5 (k12.trans k5)⟩
    refine ⟨_, rfl, rfl, _, rfl, ite2 (fun _ => ?_) (fun _ => ?_)⟩
    · refine ⟨_, rfl, _, rfl, nm, rfl, nz, b, _, rfl, by omega, B2, fun a H3 a0 a1 B3 k3 => ?_⟩
      refine ⟨_, rfl, _, rfl, a, rfl, nm, rfl, nz, _, rfl, b, 9, rfl, by decide, B3, fun z H4 z0 z1 B4 k4 => ?_⟩
      obtain ⟨c, hc⟩ := atI_in (xs := ("AZ_:- .@/" : Str).cps.toList) z0 (show z < 9 from z1)
      have c1 := cutS_length nm none (some a)
      have c2 := cutS_length nm (some (a + 1)) none
      refine ⟨_, _, c, rfl, rfl, by decide +kernel, hc, _, _, rfl, rfl, by simp only [one_len]; omega, _, rfl, _, rfl, _, _, rfl, rfl, _, rfl, nm, rfl, nz, _, _, rfl, rfl, by simp only [app_len, one_len]; omega, ?_⟩
      exact k _ _ (Nat.zero_le _) (by simp only [app_len, one_len]; omega) trivial B4 ((k12.trans k3).trans k4)
    have mz : (Txt.mul nm 13).length ≤ 156 := by rw [mul_len, show (13 : Int).toNat = 13 from rfl]; omega
    have cz := cutS_length (Txt.mul nm 13) none (some 13)
    have cz2 : (cutS (Txt.mul nm 13) none (some 13)).length ≤ 13 := by
      unfold cutS
      show (List.toArray _).size ≤ 13
      rw [List.size_toArray, List.length_take]
      have : HT.sIx (Txt.mul nm 13).length (Txt.mul nm 13).length (some 13) ≤ 13 := by
        unfold HT.sIx
        dsimp only
        rw [if_neg (by decide), show (13 : Int).toNat = 13 from rfl]
        omega
      omega
    refine ⟨_, rfl, rfl, _, rfl, ite2 (fun _ => ?_) (fun _ => ?_)⟩
    · exact ⟨_, rfl, nm, 13, rfl, rfl, by omega, by decide, by decide, 13, rfl, _, rfl, by omega, k _ _ (Nat.zero_le _) (by omega) trivial B2 k12⟩
    refine ⟨_, rfl, rfl, _, rfl, ite2 (fun _ => ?_) (fun _ => ?_)⟩
    · exact k _ _ (Nat.zero_le _) (by decide +kernel) trivial B2 k12
    refine ⟨_, rfl, rfl, _, rfl, ite2 (fun _ => ?_) (fun _ => ?_)⟩
    · refine ⟨_, rfl, _, _, rfl, rfl, by rw [cl]; omega, _, rfl, b, rfl, B2, fun m1 H5 u0 u1 _ B5 k5 => ?_⟩
      refine ⟨_, _, rfl, rfl, by simp only [app_len, cl]; omega, _, rfl, b, 2, rfl, by decide, B5, fun z H6 z0 z1 B6 k6 => ?_⟩
      have zl : (Txt.mul ":" z).length ≤ 1 := by rw [mul_len, cl]; omega
      refine ⟨_, z, rfl, rfl, by rw [cl]; omega, by omega, by omega, _, _, rfl, rfl, by simp only [app_len, cl]; omega, _, rfl, b, rfl, B6, fun m2 H7 w0 w1 _ B7 k7 => ?_⟩
      exact ⟨_, _, rfl, rfl, by simp only [app_len, cl]; omega, k _ _ (Nat.zero_le _) (by simp only [app_len, cl]; omega) trivial B7 (((k12.trans k5).trans k6).trans k7)⟩
    refine ⟨_, rfl, rfl, _, rfl, ite2 (fun _ => ?_) (fun _ => ?_)⟩
    · refine ⟨_, rfl, _, _, rfl, rfl, by rw [cl]; omega, _, rfl, _, _, rfl, rfl, by rw [cl]; omega, by rw [b16]; exact Nat.le_of_lt_succ (by simp), fun p hp => ?_⟩
      refine ⟨_, rfl, b, 3, rfl, by decide, B2.new hp, fun y H7 y0 y1 B7 k7 => ?_⟩
      have kk := (k12.new hp).trans k7
      have hp7 := pick hp B2 k7
      by_cases hy : y = 0
      · subst hy
        exact ⟨p, _, 0, _, rfl, rfl, SqL.of hp7, atI_nat (j := 0) rfl, k _ _ (Nat.zero_le _) (by simp only [app_len, cl]; omega) trivial B7 kk⟩
      · by_cases hy1 : y = 1
        · subst hy1
          exact ⟨p, _, 1, _, rfl, rfl, SqL.of hp7, atI_nat (j := 1) rfl, k _ _ (Nat.zero_le _) (by simp only [app_len, cl]; omega) trivial B7 kk⟩
        · have hy2 : y = 2 := by omega
          subst hy2
          exact ⟨p, _, 2, _, rfl, rfl, SqL.of hp7, atI_nat (j := 2) rfl, k _ _ (Nat.zero_le _) (by rw [cl]; omega) trivial B7 kk⟩
    · refine ⟨_, rfl, nm, 13, rfl, rfl, by omega, by decide, by decide, 13, rfl, _, rfl, by omega, _, _, rfl, rfl, by rw [cl]; omega, _, rfl, _, _, rfl, rfl, by simp only [app_len, cl]; omega, ?_⟩
      refine ⟨_, rfl, _, _, rfl, rfl, by rw [cl]; omega, _, rfl, nm, 13, rfl, rfl, by omega, by decide, by decide, 13, rfl, _, rfl, by omega, _, _, rfl, rfl, by simp only [app_len, cl]; omega, by rw [b16]; exact Nat.le_of_lt_succ (by simp), fun p hp => ?_⟩
      refine ⟨_, rfl, b, 2, rfl, by decide, B2.new hp, fun y H7 y0 y1 B7 k7 => ?_⟩
      have kk := (k12.new hp).trans k7
      have hp7 := pick hp B2 k7
      by_cases hy : y = 0
      · subst hy
        exact ⟨p, _, 0, _, rfl, rfl, SqL.of hp7, atI_nat (j := 0) rfl, k _ _ (Nat.zero_le _) (by simp only [app_len, cl]; omega) trivial B7 kk⟩
      · have hy1 : y = 1 := by omega
        subst hy1
        exact ⟨p, _, 1, _, rfl, rfl, SqL.of hp7, atI_nat (j := 1) rfl, k _ _ (Nat.zero_le _) (by simp only [app_len, cl]; omega) trivial B7 kk⟩
end
end N01

set_option linter.all false
set_option maxRecDepth 100000
set_option maxHeartbeats 4000000
namespace N01
open PySem PySem.Spec PyProof.Rows L2
section
variable {P : Program} {w : World} {K : PySem.W.Frag} {mg : Str → Option Value} {base : Heap}
theorem scLN : FnScope ["text", "sign"] ["text"] (defScope sLawN) := ⟨rfl, rfl, rfl, by decide +kernel, rfl, by decide +kernel, by decide +kernel⟩
theorem ok_lawN {f : Addr} {fd : FuncData} (F : Fun K "_law_is_name" "_law_is_name" sLawN f fd) (len : mg "len" = none) : FnOk P w K mg base CX0 1 f fd ["text"] (spText fun t => .bl (nameT t)) := by
  refine F.ok scLN (fun vs H Q E h => ?_) (fun cdv A outer s H vs Q E hr h => ?_)
  · obtain ⟨t, rfl, _⟩ := h
    rfl
  · obtain ⟨t, rfl, hz, k⟩ := h
    refine ⟨_, pss_cons (ps_for PassesOwn.never rfl (pi_str (pv 0)) (pg_name (i := 1) scLN.nd rfl (Or.inl rfl)) (pss_one (ps_if (pt_cmpR op_notIn_sign (pv 1) pe_str (by with_unfolding_all rfl)) (pss_one (ps_ret pe_bl)) pss_nil)))
      (pss_one (ps_ret (pe_chain op_le op_le pe_int (pe_callB call_len_str (by rfl) len PySem.boot_len (pa_cons (pv 0) pa_nil)) pe_int))), ?_⟩
    have k' : ∀ b, nameT t = b → Q (.bl b) H := fun b e => e ▸ k H (Same.refl H)
    refine ⟨_, rfl, t, rfl, for_it (walk_str (z := t)) (fun i σ H' => ∃ v, σ = [some (.str t), v] ∧ H' = H ∧ (t.cps.toList.take i).all inS = true) ⟨none, rfl, rfl, rfl⟩ (fun _ _ _ _ _ => trivial) ?_ ?_⟩
    · rintro i x σ H1 H1' hi ⟨v, rfl, rfl, p2⟩ ⟨rfl, c, hc, rfl⟩
      have hc' : t.cps.toList[i]? = some c := by simpa using hc
      refine ⟨_, rfl, c, SG, rfl, rfl, _, rfl, ?_⟩
      cases e : inS c with
      | true =>
        have e' : decide (c ∈ SG.cps.toList) = true := e
        rw [e']
        refine iteF ⟨_, rfl, rfl, ?_⟩
        rw [List.take_add_one, hc', List.all_append, p2]
        show (true && ([c].all inS)) = true
        simp [e]
      | false =>
        have e' : decide (c ∈ SG.cps.toList) = false := e
        rw [e']
        refine iteT (k' false ?_)
        unfold nameT
        rw [Bool.and_eq_false_iff]
        refine Or.inr ?_
        refine Bool.eq_false_iff.mpr fun q => ?_
        have z := List.all_eq_true.mp q c (List.mem_of_getElem? hc')
        rw [e] at z
        cases z
    · rintro σ H1 ⟨v, rfl, rfl, p2⟩
      have e0 : t.cps.toList.take t.cps.size = t.cps.toList := List.take_of_length_le (by simp)
      rw [e0] at p2
      refine ⟨_, rfl, _, rfl, sizeT hz, _, _, rfl, rfl, _, rfl, ?_⟩
      by_cases h1 : 1 ≤ t.length
      · rw [decide_eq_true (show (1 : Int) ≤ (t.length : Int) by omega)]
        refine iteT ⟨_, _, rfl, rfl, k' _ ?_⟩
        unfold nameT
        rw [p2, Bool.and_true, decide_eq_true h1, Bool.true_and]
        by_cases h2 : t.length ≤ 12
        · rw [decide_eq_true h2, decide_eq_true (show (t.length : Int) ≤ 12 by omega)]
        · rw [decide_eq_false h2, decide_eq_false (show ¬ (t.length : Int) ≤ 12 by omega)]
      · rw [decide_eq_false (show ¬ (1 : Int) ≤ (t.length : Int) by omega)]
        refine iteF (k' _ ?_)
        unfold nameT
        rw [decide_eq_false h1, Bool.false_and, Bool.false_and]
theorem scLU : FnScope ["text", "parts"] ["text"] (defScope sLawU) := ⟨rfl, rfl, rfl, by decide +kernel, rfl, by decide +kernel, by decide +kernel⟩
theorem ok_lawU {f fN : Addr} {fd fdN : FuncData} (F : Fun K "_law_is_uid" "_law_is_uid" sLawU f fd) (len : mg "len" = none) (GN : FnOk P w K mg base CX0 1 fN fdN ["text"] (spText fun t => .bl (nameT t))) (bN : Binds K fdN ["text"] []) (gN : mg "_law_is_name" = some (.ref fN)) (kN : PySem.W.keepIn K (.ref fN) = true) :
    FnOk P w K mg base CX0 2 f fd ["text"] (spText fun t => .bl (uidT t)) := by
  refine F.ok scLU (fun vs H Q E h => ?_) (fun cdv A outer s H vs Q E hr h => ?_)
  · obtain ⟨t, rfl, _⟩ := h
    rfl
  · obtain ⟨t, rfl, hz, k⟩ := h
    refine ⟨_, pss_cons (ps_set (i := 1) scLU.nd rfl (Or.inl rfl) (pe_split (pv 0) pe_str))
      (pss_one (ps_ret (pe_and (pe_cmpR op_eq (pe_callB call_len_seq (by rfl) len PySem.boot_len (pa_cons (pv 1) pa_nil)) pe_int (nomark _))
        (pe_and (pe_call GN hr (by rfl) gN kN bN .nil pass0 (pa_cons (pe_ix ix_list (pv 1) pe_int (fun _ _ => rfl)) pa_nil))
          (pe_one (pe_call GN hr (by rfl) gN kN bN .nil pass0 (pa_cons (pe_ix ix_list (pv 1) pe_int (fun _ _ => rfl)) pa_nil))))))), ?_⟩
    exact uid_read t hz k
end
end N01

set_option linter.all false
set_option maxRecDepth 100000
set_option maxHeartbeats 8000000
namespace N01
open PySem PySem.Spec PyProof.Rows L2
abbrev sLaw : Stmt := top 22
def spLaw (K : PySem.W.Frag) : Sp := fun vs H Q _ => ∃ (a : Addr) (ns : List Int), vs = [.ref a] ∧ SqL K H a (ns.map V.int) ∧ ns.length ≤ 63 ∧ ∀ H', Q (.bl true) H'
structure TxtW (K : PySem.W.Frag) (mg : Str → Option Value) : Prop where
  nm : ∃ t, mg "NAME_MOST" = some (.int 12 t)
  range : mg "range" = none
  repr : mg "repr" = none
/-- what is due: none, or the tuple that tells the name -/
def Due (H : Hp) (k : Int) (t w : Str) (v : V) : Prop := (okW k t = true → v = .non) ∧ (okW k t = false → ∃ q, v = .ref q ∧ H q = some (.tup [.str "refused", .str (nmW k w)]))
theorem Due.same {H H' : Hp} {k : Int} {t w : Str} {v : V} (d : Due H k t w v) (s : Same H H') : Due H' k t w v := ⟨d.1, fun e => by
  obtain ⟨q, h1, h2⟩ := d.2 e
  exact ⟨q, h1, s _ _ h2⟩⟩
section
variable {P : Program} {w : World} {K : PySem.W.Frag} {mg : Str → Option Value} {base : Heap}
theorem scLaw : FnScope ["script", "box", "turn", "text", "name", "uid", "what", "due", "which"] ["script"] (defScope sLaw) := ⟨rfl, rfl, rfl, by decide +kernel, rfl, by decide +kernel, by decide +kernel⟩
/-- a def that is called: its promise and where it stands -/
structure Cal (P : Program) (w : World) (K : PySem.W.Frag) (mg : Str → Option Value) (base : Heap) (k : Nat) (x : Str) (ps : List Str) (sp : Sp) : Prop where
  ex : ∃ f fd, FnOk P w K mg base CX0 k f fd ps sp ∧ Binds K fd ps [] ∧ mg x = some (.ref f) ∧ PySem.W.keepIn K (.ref f) = true
theorem pe_cal {X : Cx} {x : Str} {k j : Nat} {ps : List Str} {sp : Sp} {p pos : Pos} {e : Expr} {es : List Expr} {t : TA} (C : Cal X.prog X.w X.K X.mg X.base k x ps sp) (hr : Room j X.A) (hj : k ≤ j) (hg : Gl X x) (ha : PA X (e :: es) t) (hdb : (x == ("__debug__" : Str)) = false := by decide)
    (he : starEach (e :: es) X.env = (false, eval e X.env) :: starEach es X.env := by rfl) (hpl : (backTo pos (starEach es X.env)).any (·.1) = false := by rfl) :
    PE X (.Call (.Name x p) (e :: es) [] pos) (tCall sp [] E0 t) := by
  obtain ⟨f, fd, F, b, m, kp⟩ := C.ex
  exact pe_call F (hr.mono hj) hg m kp b .nil pass0 ha hdb he hpl
theorem two_dues {D : Ends} {σ : L2.St} {H : Hp} {vi j0 j1 : Nat} {n0 wt : Str} {r : Bool} {p : Addr} {xs : List V} (put : V → V → List V) (hxs : xs = put .non .non) (hput : ∀ u v, (xs.set j0 u).set j1 v = put u v) (hj0 : ixN xs.length (j0 : Int) = some j0)
    (hj1 : ∀ u, ixN (xs.set j0 u).length (j1 : Int) = some j1) (e1 : σ[vi]? = some (some (.bl r))) (e6 : σ[6]? = some (some (.str wt))) (e7 : σ[7]? = some (some (.ref p))) (hp : H p = some (.lst xs))
    (hD : ∀ H' u v, H' p = some (.lst (put u v)) → (r = true → u = .non ∧ v = .non) → (r = false → ∃ q0 q1, u = .ref q0 ∧ v = .ref q1 ∧ H' q0 = some (.tup [.str "refused", .str n0]) ∧ H' q1 = some (.tup [.str "refused", .str wt])) → Kept p H H' → D.nx σ H') :
    tIfS (tNot (tB (tVar vi))) (tSeq (tAsg (tTup (tCons (tC (.str "refused")) (tCons (tC (.str n0)) tNil))) (gSub (tVar 7) (tC (.int (j0 : Int))) rSetL)) (tAsg (tTup (tCons (tC (.str "refused")) (tCons (tVar 6) tNil))) (gSub (tVar 7) (tC (.int (j1 : Int))) rSetL))) tNext D σ H := by
  refine ⟨_, e1, _, rfl, ?_⟩
  cases r with
  | true => exact iteF (hD H .non .non (by rw [hp, hxs]) (fun _ => ⟨rfl, rfl⟩) (fun z => Bool.noConfusion z) (Kept.refl H))
  | false =>
    refine iteT ⟨(by show 2 ≤ sizeLine; decide), fun q0 h0 => ?_⟩
    have np0 : p ≠ q0 := ne_of_none hp h0
    refine ⟨_, e7, p, xs, _, j0, rfl, rfl, (upd_ne np0).trans hp, hj0, ?_⟩
    refine ⟨_, e6, (by show 2 ≤ sizeLine; decide), fun q1 h1 => ?_⟩
    have hp1 : (upd (upd H q0 (.tup [.str "refused", .str n0])) p (.lst (xs.set j0 (.ref q0)))) p = some (.lst (xs.set j0 (.ref q0))) := upd_same
    have np1 : p ≠ q1 := ne_of_none hp1 h1
    have hq0 : (upd (upd H q0 (.tup [.str "refused", .str n0])) p (.lst (xs.set j0 (.ref q0)))) q0 = some (.tup [.str "refused", .str n0]) := (upd_ne (Ne.symm np0)).trans upd_same
    have nq : q0 ≠ q1 := ne_of_none hq0 h1
    refine ⟨_, e7, p, _, _, j1, rfl, rfl, (upd_ne np1).trans hp1, hj1 _, ?_⟩
    refine hD _ (.ref q0) (.ref q1) ?_ (fun z => Bool.noConfusion z) (fun _ => ⟨q0, q1, rfl, rfl, ?_, ?_⟩) ?_
    · rw [upd_same, hput]
    · exact (upd_ne (Ne.symm np0)).trans ((upd_ne nq).trans hq0)
    · exact (upd_ne (Ne.symm np1)).trans upd_same
    · intro c o e n
      have h2 : (upd (upd H q0 (.tup [.str "refused", .str n0])) p (.lst (xs.set j0 (.ref q0)))) c = some o := (upd_ne n).trans ((upd_ne (ne_of_none e h0)).trans e)
      exact (upd_ne n).trans ((upd_ne (ne_of_none h2 h1)).trans h2)
theorem uid_parts {t : Str} (h : uidT t = true) : ∃ x y, Txt.split t ":" = [x, y] := by
  unfold uidT at h
  split at h
  · rename_i x y e
    exact ⟨x, y, e⟩
  · cases h
theorem ok_law {f : Addr} {fd : FuncData} (F : Fun K "law" "law" sLaw f fd) (T : TxtW K mg)
    (cD : Cal P w K mg base 2 "_law_digits" ["script", "first", "last"] (spDig K)) (cNe : Cal P w K mg base 3 "_law_near" ["box"] (spName 0 100 fun _ => True)) (cNa : Cal P w K mg base 2 "_law_name" ["box"] (spName 1 12 Asc))
    (cLN : Cal P w K mg base 1 "_law_is_name" ["text"] (spText fun t => .bl (nameT t))) (cLU : Cal P w K mg base 2 "_law_is_uid" ["text"] (spText fun t => .bl (uidT t)))
    (cN : Cal P w K mg base 1 "is_name" ["text"] (spText fun t => .bl (nameT t))) (cU : Cal P w K mg base 2 "is_uid" ["text"] (spText fun t => .bl (uidT t)))
    (cK : Cal P w K mg base 1 "kind_of" ["uid"] (spText fun t => .str (Txt.partition t ":").1)) (cI : Cal P w K mg base 1 "id_of" ["uid"] (spText fun t => .str (Txt.partition t ":").2.2))
    (cR : Cal P w K mg base 4 "_law_refused" ["which", "text", "what"] spRef) : FnOk P w K mg base CX0 5 f fd ["script"] (spLaw K) := by
  refine F.ok scLaw (fun vs H Q E h => ?_) (fun cdv A outer s H vs Q E hr h => ?_)
  · obtain ⟨a, ns, rfl, _⟩ := h
    rfl
  · obtain ⟨a, ns, rfl, hs, hlen, k⟩ := h
    obtain ⟨t1, hn⟩ := T.nm
    refine ⟨_, pss_cons (ps_set (i := 1) scLaw.nd rfl (Or.inl rfl) (pe_lst (pa_cons (pe_cal cD hr (by decide) (by rfl) (pa_cons (pv 0) (pa_cons pe_int (pa_cons pe_int pa_nil)))) (pa_cons pe_int pa_nil))))
      (pss_cons (ps_if (pt_cmpR op_ne (pe_glob (v := .int 12) rfl hn ⟨_, rfl⟩) pe_int (nomark _)) (pss_one (ps_ret pe_bl)) pss_nil)
      (pss_cons (ps_for PassesOwn.never rfl (pi_range1 (by rfl) T.range (pa_cons pe_int pa_nil)) (pg_name (i := 2) scLaw.nd rfl (Or.inl rfl))
        (pss_cons (ps_set (i := 3) scLaw.nd rfl (Or.inl rfl) (pe_cal cNe hr (by decide) (by rfl) (pa_cons (pv 1) pa_nil)))
        (pss_cons (ps_set (i := 4) scLaw.nd rfl (Or.inl rfl) (pe_cal cLN hr (by decide) (by rfl) (pa_cons (pv 3) pa_nil)))
        (pss_cons (ps_set (i := 5) scLaw.nd rfl (Or.inl rfl) (pe_cal cLU hr (by decide) (by rfl) (pa_cons (pv 3) pa_nil)))
        (pss_cons (ps_if (PW.pt (pw_or (pt_cmpR op_ne (pe_callB call_repr_bl (by rfl) T.repr (by decide +kernel) (pa_cons (pe_cal cN hr (by decide) (by rfl) (pa_cons (pv 3) pa_nil)) pa_nil)) (pe_callB call_repr_bl (by rfl) T.repr (by decide +kernel) (pa_cons (pv 4) pa_nil)) (nomark _))
            (pw_or1 (pt_cmpR op_ne (pe_callB call_repr_bl (by rfl) T.repr (by decide +kernel) (pa_cons (pe_cal cU hr (by decide) (by rfl) (pa_cons (pv 3) pa_nil)) pa_nil)) (pe_callB call_repr_bl (by rfl) T.repr (by decide +kernel) (pa_cons (pv 5) pa_nil)) (nomark _)))))
          (pss_one (ps_ret pe_bl)) pss_nil)
        (pss_cons (ps_set (i := 6) scLaw.nd rfl (Or.inl rfl) (pe_cal cNa hr (by decide) (by rfl) (pa_cons (pv 1) pa_nil)))
        (pss_cons (ps_set (i := 7) scLaw.nd rfl (Or.inl rfl) (pe_lst (pa_cons pe_non (pa_cons pe_non (pa_cons pe_non (pa_cons pe_non pa_nil))))))
        (pss_cons (ps_if (pt_not (pt_val (pv 4))) (pss_cons (ps_asg (pe_tup (pa_cons pe_str (pa_cons pe_str pa_nil))) (pg_sub (pv 7) pe_int set_list)) (pss_one (ps_asg (pe_tup (pa_cons pe_str (pa_cons (pv 6) pa_nil))) (pg_sub (pv 7) pe_int set_list)))) pss_nil)
        (pss_cons (ps_if (pt_not (pt_val (pv 5))) (pss_cons (ps_asg (pe_tup (pa_cons pe_str (pa_cons pe_str pa_nil))) (pg_sub (pv 7) pe_int set_list)) (pss_one (ps_asg (pe_tup (pa_cons pe_str (pa_cons (pv 6) pa_nil))) (pg_sub (pv 7) pe_int set_list)))) pss_nil)
        (pss_cons (ps_for PassesOwn.never rfl (pi_range1 (by rfl) T.range (pa_cons pe_int pa_nil)) (pg_name (i := 8) scLaw.nd rfl (Or.inl rfl))
          (pss_one (ps_if (pt_cmpR (op_neD hr.units) (pe_cal cR hr (by decide) (by rfl) (pa_cons (pv 8) (pa_cons (pv 3) (pa_cons (pv 6) pa_nil)))) (pe_ix ix_list (pv 7) (pv 8) (fun _ _ => rfl)) (nomark _)) (pss_one (ps_ret pe_bl)) pss_nil)))
        (pss_one (ps_if (PW.pt (pw_and (pt_val (pv 5)) (pw_and1 (PW.pt (pw_or (pt_cmpR op_ne (pe_cal cK hr (by decide) (by rfl) (pa_cons (pv 3) pa_nil)) (pe_ix ix_list (pe_split (pv 3) pe_str) pe_int (fun _ _ => rfl)) (nomark _))
          (pw_or1 (pt_cmpR op_ne (pe_cal cI hr (by decide) (by rfl) (pa_cons (pv 3) pa_nil)) (pe_ix ix_list (pe_split (pv 3) pe_str) pe_int (fun _ _ => rfl)) (nomark _)))))))) (pss_one (ps_ret pe_bl)) pss_nil))))))))))))
      (pss_one (ps_ret pe_bl)))), ?_⟩
    refine ⟨_, rfl, a, ns, rfl, hs, fun H1 pd ms s1 np p1 lp => ⟨(by show 2 ≤ sizeLine; decide), fun b nb => ?_⟩⟩
    refine ⟨rfl, _, rfl, iteNS rfl ?_⟩
    refine ⟨12, rfl, by decide, by decide, for_range (lo := 0) (n := 12) (fun i σ H' => ∃ v2 v3 v4 v5 v6 v7 v8 : Option V, σ = [some (.ref a), some (.ref b), v2, v3, v4, v5, v6, v7, v8] ∧ BoxAt H' b)
      ⟨none, none, none, none, none, none, none, rfl, pd, ms, 0, upd_same, (upd_ne (ne_of_none p1 nb)).trans p1, lp⟩ ?_ (fun σ H' _ => k H')⟩
    rintro i σ H2 hi ⟨v2, v3, v4, v5, v6, v7, v8, rfl, B2⟩
    refine ⟨_, rfl, b, rfl, B2, fun t H3 _ lt _ B3 k3 => ?_⟩
    have tz : t.length ≤ 1000 := by omega
    refine ⟨_, rfl, t, rfl, tz, fun H4 s4 => ?_⟩
    refine ⟨_, rfl, t, rfl, tz, fun H5 s5 => ?_⟩
    refine ⟨_, rfl, t, rfl, tz, fun H6 s6 => ⟨_, rfl, _, rfl, _, rfl, rfl, _, rfl, iteNS rfl ?_⟩⟩
    refine ⟨_, rfl, t, rfl, tz, fun H7 s7 => ⟨_, rfl, _, rfl, _, rfl, rfl, _, rfl, iteNS rfl ?_⟩⟩
    refine ⟨_, rfl, b, rfl, (((B3.same s4).same s5).same s6).same s7, fun wt H8 w0 w1 wa B8 k8 => ?_⟩
    have wz : wt.length ≤ 1000 := by omega
    refine ⟨by decide, fun p hp => ?_⟩
    have B9 := B8.new (o := .lst [.non, .non, .non, .non]) hp
    have npb : b ≠ p := by
      obtain ⟨d, ns, j, h1, _⟩ := B8
      exact ne_of_none h1 hp
    refine two_dues (fun u v => [u, v, .non, .non]) rfl (fun _ _ => rfl) rfl (fun _ => rfl) rfl rfl rfl upd_same fun H10 u0 u1 q10 r10 f10 k10 => ?_
    refine two_dues (fun u v => [u0, u1, u, v]) rfl (fun _ _ => rfl) rfl (fun _ => rfl) rfl rfl rfl q10 fun H11 u2 u3 q11 r11 f11 k11 => ?_
    have B11 : BoxAt H11 b := by
      obtain ⟨d, ns', j, g1, g2, g3⟩ := B8
      have nd : d ≠ p := ne_of_none g2 hp
      exact ⟨d, ns', j, k11 _ _ (k10 _ _ ((upd_ne npb).trans g1) npb) npb, k11 _ _ (k10 _ _ ((upd_ne nd).trans g2) nd) nd, g3⟩
    have up : ∀ {q : Addr} {x y : Str}, H10 q = some (.tup [.str x, .str y]) → H11 q = some (.tup [.str x, .str y]) := fun {q x y} e => k11 _ _ e (ne_of e q10 (by intro z; cases z))
    have dues : ∀ m : Nat, m < 4 → ∃ v, [u0, u1, u2, u3][m]? = some v ∧ Due H11 (m : Int) t wt v := by
      intro m hm
      have m4 : m = 0 ∨ m = 1 ∨ m = 2 ∨ m = 3 := by omega
      rcases m4 with rfl | rfl | rfl | rfl
      · refine ⟨u0, rfl, fun ho => (r10 ho).1, fun ho => ?_⟩
        obtain ⟨q0, q1, e0, e1, g0, g1⟩ := f10 ho
        exact ⟨q0, e0, up g0⟩
      · refine ⟨u1, rfl, fun ho => (r10 ho).2, fun ho => ?_⟩
        obtain ⟨q0, q1, e0, e1, g0, g1⟩ := f10 ho
        exact ⟨q1, e1, up g1⟩
      · refine ⟨u2, rfl, fun ho => (r11 ho).1, fun ho => ?_⟩
        obtain ⟨q0, q1, e0, e1, g0, g1⟩ := f11 ho
        exact ⟨q0, e0, g0⟩
      · refine ⟨u3, rfl, fun ho => (r11 ho).2, fun ho => ?_⟩
        obtain ⟨q0, q1, e0, e1, g0, g1⟩ := f11 ho
        exact ⟨q1, e1, g1⟩
    refine ⟨4, rfl, by decide, by decide, for_range (lo := 0) (n := 4) (fun j σ H' => ∃ v8 : Option V, σ = [some (.ref a), some (.ref b), some (.int (0 + i)), some (.str t), some (.bl (nameT t)), some (.bl (uidT t)), some (.str wt), some (.ref p), v8] ∧ Same H11 H')
      ⟨_, rfl, Same.refl _⟩ ?_ ?_⟩
    · rintro j σ H12 hj ⟨z8, rfl, s12⟩
      obtain ⟨v, ev, dv⟩ := dues j hj
      have e0 : (0 : Int) + (j : Int) = (j : Int) := Int.zero_add _
      rw [← e0] at dv
      have ha : atI [u0, u1, u2, u3] (0 + (j : Int)) = some v := by rw [e0]; exact atI_nat ev
      refine ⟨_, rfl, _, rfl, _, rfl, 0 + (j : Int), t, wt, rfl, tz, wz, fun ho H13 s13 => ?_, fun ho H13 q s13 hq => ?_⟩
      · have hp13 := s13 _ _ (s12 _ _ q11)
        have ez := dv.1 ho
        subst ez
        refine ⟨_, rfl, _, rfl, p, _, _, _, rfl, rfl, SqL.of hp13, ha, .none, .none, Dp.non, Dp.non, rfl, rfl, _, rfl, iteF ?_⟩
        exact ⟨_, rfl, s12.trans s13⟩
      · have hp13 := s13 _ _ (s12 _ _ q11)
        obtain ⟨q0, ez, g0⟩ := dv.2 ho
        subst ez
        have d1 : ∀ {q : Addr}, H13 q = some (.tup [.str "refused", .str (nmW (0 + (j : Int)) wt)]) → Dp K H13 (.ref q) (.tuple [.str "refused", .str (nmW (0 + (j : Int)) wt)]) := fun e => Dp.tup (SqT.of e) (.cons (.str _) (.cons (.str _) .nil))
        have ok : (PyData.tuple [PyData.str "refused", PyData.str (nmW (0 + (j : Int)) wt)]).canLay0 = true := by
          have o1 : PyData.strOk (nmW (0 + (j : Int)) wt) = true := by
            unfold nmW
            split
            · decide +kernel
            · split
              · decide +kernel
              · exact strOk_asc wa
          have o2 : PyData.strOk ("refused" : Str) = true := by decide +kernel
          show (PyData.strOk ("refused" : Str) && (PyData.strOk (nmW (0 + (j : Int)) wt) && true)) = true
          rw [o1, o2] <;> rfl
        have sh : SeqAt.shaped (PyData.tuple [PyData.str "refused", PyData.str (nmW (0 + (j : Int)) wt)]) = true := by
          unfold SeqAt.shaped
          rw [ok] <;> rfl
        refine ⟨_, rfl, _, rfl, p, _, _, _, rfl, rfl, SqL.of hp13, ha, _, _, d1 hq, d1 (s13 _ _ (s12 _ _ g0)), sh, sh, _, rfl, ?_⟩
        rw [SeqAt.eqv_refl _ ok]
        exact iteF ⟨_, rfl, s12.trans s13⟩
    · rintro σ H12 ⟨z8, rfl, s12⟩
      have fin : ∀ (c : Bool) H', Same H12 H' → ∃ v2 v3 v4 v5 v6 v7 v8 : Option V, [some (V.ref a), some (V.ref b), some (V.int (0 + i)), some (V.str t), some (V.bl (nameT t)), some (V.bl c), some (V.str wt), some (V.ref p), z8] = [some (V.ref a), some (V.ref b), v2, v3, v4, v5, v6, v7, v8] ∧ BoxAt H' b :=
        fun c H' s => ⟨_, _, _, _, _, _, _, rfl, B11.same (s12.trans s)⟩
      refine ⟨_, rfl, _, rfl, ?_⟩
      cases e : uidT t with
      | false => exact iteF (iteF (fin _ H12 (Same.refl _)))
      | true =>
        obtain ⟨x, y, e2⟩ := uid_parts e
        obtain ⟨g1, g2⟩ := part_of_split e2
        have tz2 : t.length + 2 ≤ sizeLine := by have : sizeLine = 16777216 := sizeLine_eq; omega
        refine iteT ⟨_, rfl, t, rfl, tz, fun H13 s13 => ?_⟩
        refine ⟨_, rfl, ⟨_, rfl⟩, _, _, rfl, rfl, colon_ne, tz2, fun r1 n1 => ⟨r1, _, 0, .str x, rfl, rfl, SqL.of upd_same, atI_nat (j := 0) (by rw [e2] <;> rfl), rfl, _, rfl, iteNS (congrArg V.str g1) ?_⟩⟩
        have s14 : ∀ o, Same H13 (upd H13 r1 o) := fun o c u z => (upd_ne (ne_of_none z n1)).trans z
        refine ⟨_, rfl, t, rfl, tz, fun H15 s15 => ?_⟩
        refine ⟨_, rfl, ⟨_, rfl⟩, _, _, rfl, rfl, colon_ne, tz2, fun r2 n2 => ⟨r2, _, 1, .str y, rfl, rfl, SqL.of upd_same, atI_nat (j := 1) (by rw [e2] <;> rfl), rfl, _, rfl, iteNS (congrArg V.str g2) ?_⟩⟩
        exact fin _ _ (((s13.trans (s14 _)).trans s15).trans fun c u z => (upd_ne (ne_of_none z n2)).trans z)
end
end N01

set_option linter.all false
set_option maxRecDepth 100000
set_option maxHeartbeats 8000000
namespace N01
open PySem PySem.Spec PyProof.Rows L2
/-- check_uid(text, what = ..): one value by place, one by keyword -/
theorem kw_binds {K : PySem.W.Frag} {x qual : Str} {params : Arguments} {body : List Stmt} {scope : Scope} {d : V} {f : Addr} {fd : FuncData} (F : FunD K x qual params body scope [d] [] f fd)
    (h : ∀ (T : Addr) (kV doc pm : Value) (an : Option Addr) (cdv ct : Value) (us ws its : List Value), us.length = 1 → ws.length = 1 → its.length = 1 →
      ∃ k, bindArgs (PySem.W.fnOf x qual params body scope (.ref T) kV doc pm an cdv ct) ⟨us, [("what" : Str)].zip ws⟩ = seqItems? (.ref T) >>= k ∧ k (some its.toArray) = pure ([("text" : Str), "what"].zip (us ++ ws))) :
    KBn K fd ["text", "what"] 1 ["what"] (fun us ws => us ++ ws) (gKw V) := by
  obtain ⟨oc, od, dV, kV, doc, pm, an, cdv, ct, osl, rfl, lk, hcd, hD, hK⟩ := F.ex
  rcases hD with ⟨e, _⟩ | ⟨_, T, o, its, m, rfl, lT, oT, rT⟩
  · cases e
  · refine ⟨fun s us ws Y h1 h2 => ?_, fun r1 r2 => r1.append r2⟩
    obtain ⟨k, e1, e2⟩ := h T kV doc pm an cdv ct us ws its h1 h2 rT.length.symm
    refine BindsTo.of_looks fun M => ?_
    rw [e1]
    exact looks_items Y lT oT (.of_pure e2)
theorem all_mk {l : PySem.W.OpenLaw} {w : World} {K : PySem.W.Frag} {h : Heap} {mg : Str → Option Value} {fa CO CF CT fI : Addr} {fN fU fKd fId fC fD fW fNa fNe fLn fLu fR fL fA fB : Addr} {odN anN odU anU odKd anKd odId anId odC anC odD anD odW anW odNa anNa odNe anNe odLn anLn odLu anLu odR anR odL anL odA anA odB anB : Option Addr} {slN slU slKd slId slC slD slW slNa slNe slLn slLu slR slL slA slB : Array (Option Value)} {ocN kVN dcN pmN cdN ctN ocU kVU dcU pmU cdU ctU ocKd kVKd dcKd pmKd cdKd ctKd ocId kVId dcId pmId cdId ctId ocC kVC dcC pmC cdC ctC ocD kVD dcD pmD cdD ctD ocW kVW dcW pmW cdW ctW ocNa kVNa dcNa pmNa cdNa ctNa ocNe kVNe dcNe pmNe cdNe ctNe ocLn kVLn dcLn pmLn cdLn ctLn ocLu kVLu dcLu pmLu cdLu ctLu ocR kVR dcR pmR cdR ctR ocL kVL dcL pmL cdL ctL ocA kVA dcA pmA cdA ctA ocB kVB dcB pmB cdB ctB : Value} {TA TB : Addr} {ocTA ocTB : Value} {odTA odTB : Option Addr} {nTA nTB : Nat} {slTA slTB : Array (Option Value)} {tkA tkB tk12 tkS : Tok} {nmC qC : Str} {NC : Addr} {bsC bmC : List Value} {snC : List Str} {subC : List Value} {abC : Bool} {colC : Option Bool} {ddC : Option Addr} {m0 m1 m2 m3 m5 : Option Value} {ocI : Value} {odI : Option Addr} {dcI pmI : Value} {anI : Option Addr} {ctI : Value} {slI : Array (Option Value)} {cc cda : Addr} {ccl : Value} {cdd : Option Addr} {cvs : Array Value} {ccs : Array (Option Value)} {file : Str} {tf : Tok} {cl : Value} {cld : Option Addr} {csl : Array (Option Value)} (X : K.In h) (G : h.Ns mainGlobals mg) (hfa : mg "law" = some (.ref fa))
    (aO : PySem.W.nsIn K mainGlobals "OutOfRange" = some (some (.ref CO)))
    (aF : PySem.W.nsIn K mainGlobals "FarError" = some (some (.ref CF)))
    (aT : PySem.W.nsIn K mainGlobals "TextFault" = some (some (.ref CT)))
    (xL : K.lookup CO = some (excClassObj nmC qC CO NC bsC bmC true snC subC abC colC ddC m0 m1 m2 m3 m5 "ValueError.__new__"))
    (sa : PySem.W.findIn K (.ref CO) "__setattr__" = some (some (.builtin "object.__setattr__")))
    (ga : PySem.W.findIn K (.ref CO) "__getattribute__" = some (some (.builtin "BaseException.__getattribute__")))
    (gg : PySem.W.findIn K (.ref CO) "__getattr__" = some none)
    (nN : PySem.W.findIn K (.ref CO) "name" = some none)
    (iC : PySem.W.findIn K (.ref CO) "__init__" = some (some (.ref fI)))
    (tI : PySem.W.typeIn K (.ref fI) = some (.type "function"))
    (kO : PySem.W.keepIn K (.ref CO) = true)
    (exC : PySem.W.subIn K (.ref CO) (.type "BaseException") = some true)
    (tyC : PySem.W.typeIn K (.ref CO) = some (.type "type"))
    (veC : PySem.W.subIn K (.ref CO) (.type "ValueError") = some true)
    (ownC : PySem.W.mroIn K CO (.ref CO) = some true)
    (objC : PySem.W.mroIn K CO (.type "object") = some true)
    (hdC : PySem.W.hasDictIn K CO = true)
    (anyT : PySem.W.nsIn K cStatics "thirdparty.any" = some none)
    (clA : PySem.W.findIn K (.ref CO) "__class__" = some (some (.builtin "object.__class__")))
    (clG : PySem.W.specialIn K (.builtin "object.__class__") "__get__" = some (some (.builtin "getset_descriptor.__get__")))
    (clT : PySem.W.takesIn K (.builtin "object.__class__") = some true)
    (isC : PySem.W.isClsIn K CO = true)
    (exF : PySem.W.subIn K (.ref CF) (.type "BaseException") = some true)
    (isF : PySem.W.isClsIn K CF = true)
    (tyF : PySem.W.typeIn K (.ref CF) = some (.type "type"))
    (sCF : PySem.W.subIn K (.ref CO) (.ref CF) = some true)
    (tyT : PySem.W.typeIn K (.ref CT) = some (.type "type"))
    (isT : PySem.W.isClsIn K CT = true)
    (sCT : PySem.W.subIn K (.ref CO) (.ref CT) = some false)
    (lI : K.lookup fI = some ⟨ocI, odI, .func (PySem.W.ksFn "__init__" "OutOfRange.__init__" (defArgs PySem.OorX.sInit) (defBody PySem.OorX.sInit) (defScope PySem.OorX.sInit) .none .none dcI pmI anI (.ref cda) ctI cc), slI⟩)
    (cI : PySem.W.codeIn K (.ref cda) "OutOfRange.__init__" = true)
    (ld : K.lookup cda = some ⟨ccl, cdd, .fields cvs, ccs⟩)
    (lv : cvs[2]? = some (.str file tf))
    (lf : ((l.prog.main.file : Str) == file) = true)
    (ltop : (l.prog.main.scope.names.lookup ("super" : Str)).isSome = false)
    (lc : K.lookup cc = some ⟨cl, cld, .cell (some (.ref CO)), csl⟩)
    (aN : PySem.W.nsIn K mainGlobals "is_name" = some (some (.ref fN)))
    (lN : K.lookup fN = some ⟨ocN, odN, .func (PySem.W.fnOf "is_name" "is_name" (defArgs sIsName) (defBody sIsName) (defScope sIsName) .none kVN dcN pmN anN cdN ctN), slN⟩)
    (cN : PySem.W.codeIn K cdN "is_name" = true)
    (kN : PySem.W.keepIn K (.ref fN) = true)
    (aU : PySem.W.nsIn K mainGlobals "is_uid" = some (some (.ref fU)))
    (lU : K.lookup fU = some ⟨ocU, odU, .func (PySem.W.fnOf "is_uid" "is_uid" (defArgs sIsUid) (defBody sIsUid) (defScope sIsUid) .none kVU dcU pmU anU cdU ctU), slU⟩)
    (cU : PySem.W.codeIn K cdU "is_uid" = true)
    (kU : PySem.W.keepIn K (.ref fU) = true)
    (aKd : PySem.W.nsIn K mainGlobals "kind_of" = some (some (.ref fKd)))
    (lKd : K.lookup fKd = some ⟨ocKd, odKd, .func (PySem.W.fnOf "kind_of" "kind_of" (defArgs sKind) (defBody sKind) (defScope sKind) .none kVKd dcKd pmKd anKd cdKd ctKd), slKd⟩)
    (cKd : PySem.W.codeIn K cdKd "kind_of" = true)
    (kKd : PySem.W.keepIn K (.ref fKd) = true)
    (aId : PySem.W.nsIn K mainGlobals "id_of" = some (some (.ref fId)))
    (lId : K.lookup fId = some ⟨ocId, odId, .func (PySem.W.fnOf "id_of" "id_of" (defArgs sId) (defBody sId) (defScope sId) .none kVId dcId pmId anId cdId ctId), slId⟩)
    (cId : PySem.W.codeIn K cdId "id_of" = true)
    (kId : PySem.W.keepIn K (.ref fId) = true)
    (aC : PySem.W.nsIn K mainGlobals "_law_cell" = some (some (.ref fC)))
    (lC : K.lookup fC = some ⟨ocC, odC, .func (PySem.W.fnOf "_law_cell" "_law_cell" (defArgs sCell) (defBody sCell) (defScope sCell) .none kVC dcC pmC anC cdC ctC), slC⟩)
    (cC : PySem.W.codeIn K cdC "_law_cell" = true)
    (kC : PySem.W.keepIn K (.ref fC) = true)
    (aD : PySem.W.nsIn K mainGlobals "_law_digits" = some (some (.ref fD)))
    (lD : K.lookup fD = some ⟨ocD, odD, .func (PySem.W.fnOf "_law_digits" "_law_digits" (defArgs sDig) (defBody sDig) (defScope sDig) .none kVD dcD pmD anD cdD ctD), slD⟩)
    (cD : PySem.W.codeIn K cdD "_law_digits" = true)
    (kD : PySem.W.keepIn K (.ref fD) = true)
    (aW : PySem.W.nsIn K mainGlobals "_law_draw" = some (some (.ref fW)))
    (lW : K.lookup fW = some ⟨ocW, odW, .func (PySem.W.fnOf "_law_draw" "_law_draw" (defArgs sDraw) (defBody sDraw) (defScope sDraw) .none kVW dcW pmW anW cdW ctW), slW⟩)
    (cW : PySem.W.codeIn K cdW "_law_draw" = true)
    (kW : PySem.W.keepIn K (.ref fW) = true)
    (aNa : PySem.W.nsIn K mainGlobals "_law_name" = some (some (.ref fNa)))
    (lNa : K.lookup fNa = some ⟨ocNa, odNa, .func (PySem.W.fnOf "_law_name" "_law_name" (defArgs sName) (defBody sName) (defScope sName) .none kVNa dcNa pmNa anNa cdNa ctNa), slNa⟩)
    (cNa : PySem.W.codeIn K cdNa "_law_name" = true)
    (kNa : PySem.W.keepIn K (.ref fNa) = true)
    (aNe : PySem.W.nsIn K mainGlobals "_law_near" = some (some (.ref fNe)))
    (lNe : K.lookup fNe = some ⟨ocNe, odNe, .func (PySem.W.fnOf "_law_near" "_law_near" (defArgs sNear) (defBody sNear) (defScope sNear) .none kVNe dcNe pmNe anNe cdNe ctNe), slNe⟩)
    (cNe : PySem.W.codeIn K cdNe "_law_near" = true)
    (kNe : PySem.W.keepIn K (.ref fNe) = true)
    (aLn : PySem.W.nsIn K mainGlobals "_law_is_name" = some (some (.ref fLn)))
    (lLn : K.lookup fLn = some ⟨ocLn, odLn, .func (PySem.W.fnOf "_law_is_name" "_law_is_name" (defArgs sLawN) (defBody sLawN) (defScope sLawN) .none kVLn dcLn pmLn anLn cdLn ctLn), slLn⟩)
    (cLn : PySem.W.codeIn K cdLn "_law_is_name" = true)
    (kLn : PySem.W.keepIn K (.ref fLn) = true)
    (aLu : PySem.W.nsIn K mainGlobals "_law_is_uid" = some (some (.ref fLu)))
    (lLu : K.lookup fLu = some ⟨ocLu, odLu, .func (PySem.W.fnOf "_law_is_uid" "_law_is_uid" (defArgs sLawU) (defBody sLawU) (defScope sLawU) .none kVLu dcLu pmLu anLu cdLu ctLu), slLu⟩)
    (cLu : PySem.W.codeIn K cdLu "_law_is_uid" = true)
    (kLu : PySem.W.keepIn K (.ref fLu) = true)
    (aR : PySem.W.nsIn K mainGlobals "_law_refused" = some (some (.ref fR)))
    (lR : K.lookup fR = some ⟨ocR, odR, .func (PySem.W.fnOf "_law_refused" "_law_refused" (defArgs sRef) (defBody sRef) (defScope sRef) .none kVR dcR pmR anR cdR ctR), slR⟩)
    (cR : PySem.W.codeIn K cdR "_law_refused" = true)
    (kR : PySem.W.keepIn K (.ref fR) = true)
    (aL : PySem.W.nsIn K mainGlobals "law" = some (some (.ref fL)))
    (lL : K.lookup fL = some ⟨ocL, odL, .func (PySem.W.fnOf "law" "law" (defArgs sLaw) (defBody sLaw) (defScope sLaw) .none kVL dcL pmL anL cdL ctL), slL⟩)
    (cL : PySem.W.codeIn K cdL "law" = true)
    (kL : PySem.W.keepIn K (.ref fL) = true)
    (aA : PySem.W.nsIn K mainGlobals "check_name" = some (some (.ref fA)))
    (lA : K.lookup fA = some ⟨ocA, odA, .func (PySem.W.fnOf "check_name" "check_name" (defArgs sCkN) (defBody sCkN) (defScope sCkN) (.ref TA) kVA dcA pmA anA cdA ctA), slA⟩)
    (cA : PySem.W.codeIn K cdA "check_name" = true)
    (kA : PySem.W.keepIn K (.ref fA) = true)
    (tA : K.lookup TA = some ⟨ocTA, odTA, .seq #[.str "name" tkA] nTA, slTA⟩)
    (aB : PySem.W.nsIn K mainGlobals "check_uid" = some (some (.ref fB)))
    (lB : K.lookup fB = some ⟨ocB, odB, .func (PySem.W.fnOf "check_uid" "check_uid" (defArgs sCkU) (defBody sCkU) (defScope sCkU) (.ref TB) kVB dcB pmB anB cdB ctB), slB⟩)
    (cB : PySem.W.codeIn K cdB "check_uid" = true)
    (kB : PySem.W.keepIn K (.ref fB) = true)
    (tB : K.lookup TB = some ⟨ocTB, odTB, .seq #[.str "uid" tkB] nTB, slTB⟩)
    (gNM : PySem.W.nsIn K mainGlobals "NAME_MOST" = some (some (.int 12 tk12)))
    (gSG : PySem.W.nsIn K mainGlobals "SIGNS" = some (some (.str SG tkS)))
    (z_len : PySem.W.nsIn K mainGlobals "len" = some none)
    (z_all : PySem.W.nsIn K mainGlobals "all" = some none)
    (z_int : PySem.W.nsIn K mainGlobals "int" = some none)
    (z_range : PySem.W.nsIn K mainGlobals "range" = some none)
    (z_repr : PySem.W.nsIn K mainGlobals "repr" = some none)
    (z_isinstance : PySem.W.nsIn K mainGlobals "isinstance" = some none)
    (z_super : PySem.W.nsIn K mainGlobals "super" = some none)
    (hbm : PySem.HandSPX.refsVE bmC = true)
    (sup : PySem.W.ks_superIn K CO CO "__init__" = some (some (.builtin "ValueError.__init__")))
    (exm : PySem.W.exmOne K (.ref CO) (.ref CF) = some true)
    (kit2 : PySem.W.kitOne K (.ref CO) (.ref CT) = some false)
    : ∃ fd : FuncData, (∀ (s : Shared) (v : Value), BindsTo s fd ⟨[v], []⟩ [("script", v)]) ∧ ∀ base : Heap, K.In base → base.Ns mainGlobals mg → FnOk l.prog w K mg base CX0 5 fa fd ["script"] (spLaw K) := by
  have e := hfa.symm.trans (PySem.W.mg_of X G aL)
  cases e
  have FN := fun_mk (st := sIsName) lN cN kN
  have bN := FN.binds (ps := ["text"]) fun _ _ _ _ _ _ us hl => match us, hl with | [_], _ => rfl
  have FU := fun_mk (st := sIsUid) lU cU kU
  have bU := FU.binds (ps := ["text"]) fun _ _ _ _ _ _ us hl => match us, hl with | [_], _ => rfl
  have FKd := fun_mk (st := sKind) lKd cKd kKd
  have bKd := FKd.binds (ps := ["uid"]) fun _ _ _ _ _ _ us hl => match us, hl with | [_], _ => rfl
  have FId := fun_mk (st := sId) lId cId kId
  have bId := FId.binds (ps := ["uid"]) fun _ _ _ _ _ _ us hl => match us, hl with | [_], _ => rfl
  have FC := fun_mk (st := sCell) lC cC kC
  have bC := FC.binds (ps := ["script", "k"]) fun _ _ _ _ _ _ us hl => match us, hl with | [_, _], _ => rfl
  have FD := fun_mk (st := sDig) lD cD kD
  have bD := FD.binds (ps := ["script", "first", "last"]) fun _ _ _ _ _ _ us hl => match us, hl with | [_, _, _], _ => rfl
  have FW := fun_mk (st := sDraw) lW cW kW
  have bW := FW.binds (ps := ["box", "many"]) fun _ _ _ _ _ _ us hl => match us, hl with | [_, _], _ => rfl
  have FNa := fun_mk (st := sName) lNa cNa kNa
  have bNa := FNa.binds (ps := ["box"]) fun _ _ _ _ _ _ us hl => match us, hl with | [_], _ => rfl
  have FNe := fun_mk (st := sNear) lNe cNe kNe
  have bNe := FNe.binds (ps := ["box"]) fun _ _ _ _ _ _ us hl => match us, hl with | [_], _ => rfl
  have FLn := fun_mk (st := sLawN) lLn cLn kLn
  have bLn := FLn.binds (ps := ["text"]) fun _ _ _ _ _ _ us hl => match us, hl with | [_], _ => rfl
  have FLu := fun_mk (st := sLawU) lLu cLu kLu
  have bLu := FLu.binds (ps := ["text"]) fun _ _ _ _ _ _ us hl => match us, hl with | [_], _ => rfl
  have FR := fun_mk (st := sRef) lR cR kR
  have bR := FR.binds (ps := ["which", "text", "what"]) fun _ _ _ _ _ _ us hl => match us, hl with | [_, _, _], _ => rfl
  have FL := fun_mk (st := sLaw) lL cL kL
  have FA : FunD K "check_name" "check_name" (defArgs sCkN) (defBody sCkN) (defScope sCkN) [.str "name"] [] fA _ := ⟨⟨_, _, _, _, _, _, _, _, _, _, rfl, lA, cA, Or.inr ⟨by simp, TA, _, _, _, rfl, tA, rfl, .cons ⟨tkA, rfl⟩ .nil⟩, Or.inl rfl⟩, kA⟩
  have FB : FunD K "check_uid" "check_uid" (defArgs sCkU) (defBody sCkU) (defScope sCkU) [.str "uid"] [] fB _ := ⟨⟨_, _, _, _, _, _, _, _, _, _, rfl, lB, cB, Or.inr ⟨by simp, TB, _, _, _, rfl, tB, rfl, .cons ⟨tkB, rfl⟩ .nil⟩, Or.inl rfl⟩, kB⟩
  have g := fun {x : Str} {v : Value} (q : PySem.W.nsIn K mainGlobals x = some (some v)) => PySem.W.mg_of X G q
  have gn := fun {x : Str} (q : PySem.W.nsIn K mainGlobals x = some none) => PySem.W.mg_none_of X G q
  have O : PySem.OorX.OorTxt l.prog K mg CO fI :=
    { gC := g aO, cls := ⟨nmC, qC, NC, bsC, bmC, snC, subC, abC, colC, ddC, m0, m1, m2, m3, m5, xL, hbm⟩, sa := sa, noN := nN, iC := iC, tC := tI, kC := kO, exC := exC, tyC := tyC, sup := sup, any := anyT, veC := veC, own := ownC, gsup := gn z_super, noTop := ltop,
      fn := ⟨_, _, _, _, _, _, _, cc, cda, _, _, cvs, _, file, tf, _, _, _, lI, cI, ld, lv, lf, lc⟩ }
  have TN : TxtN K mg := ⟨gn z_len, gn z_all, ⟨_, g gNM⟩, ⟨_, g gSG⟩⟩
  have TL : TxtL K mg := ⟨gn z_len, gn z_int, gn z_range⟩
  have TW : TxtW K mg := ⟨⟨_, g gNM⟩, gn z_range, gn z_repr⟩
  have TR : TxtR K mg CO CF CT := { gO := g aO, gF := g aF, gT := g aT, isi := gn z_isinstance, xf := ⟨ga, gg, exC, hdC⟩, ec := ⟨isC, ga, gg, exC, clA, clG, clT, objC⟩, noN := nN, exm := exm, k1 := by unfold PySem.W.kitOne; rw [if_pos (beq_self_eq_true _)], k2 := kit2 }
  obtain ⟨dsA, vA, bA⟩ := FA.binds1 (ps := ["text", "what"]) 1 0 (by simp) rfl fun T kV doc pm an cdv ct us its h1 h2 => match us, its, h1, h2 with | [_], [_], _, _ => ⟨_, rfl, rfl⟩
  obtain ⟨dsA2, vA2, bA2⟩ := FA.binds1 (ps := ["text", "what"]) 2 1 (by simp) rfl fun T kV doc pm an cdv ct us its h1 h2 => match us, its, h1, h2 with | [_, _], [_], _, _ => ⟨_, rfl, rfl⟩
  obtain ⟨dsB, vB, bB⟩ := FB.binds1 (ps := ["text", "what"]) 1 0 (by simp) rfl fun T kV doc pm an cdv ct us its h1 h2 => match us, its, h1, h2 with | [_], [_], _, _ => ⟨_, rfl, rfl⟩
  have eA2 : dsA2 = [] := by cases vA2; rfl
  subst eA2
  have kB2 : KBn K _ ["text", "what"] 1 ["what"] (fun us ws => us ++ ws) (gKw V) := kw_binds FB (fun T kV doc pm an cdv ct us ws its h1 h2 h3 => match us, ws, its, h1, h2, h3 with | [_], [_], [_], _, _, _ => ⟨_, rfl, rfl⟩)
  refine ⟨PySem.W.fnOf "law" "law" (defArgs sLaw) (defBody sLaw) (defScope sLaw) .none kVL dcL pmL anL cdL ctL, fun s v => .of_eq rfl, fun base _ _ => ?_⟩
  have gN' := ok_isName (P := l.prog) (w := w) (base := base) FN TN
  have gU' := ok_isUid (P := l.prog) (w := w) (base := base) FU TN gN' bN (g aN) kN
  have gW' := ok_draw (P := l.prog) (w := w) (base := base) FW TL
  have gC' := ok_cell (P := l.prog) (w := w) (base := base) FC TL
  have gD' := ok_dig FD TL gC' bC (g aC) kC
  have gNa' := ok_name FNa TL gW' bW (g aW) kW
  have gNe' := ok_near FNe TL gW' bW (g aW) kW gNa' bNa (g aNa) kNa
  have gLn' := ok_lawN (P := l.prog) (w := w) (base := base) FLn (gn z_len)
  have gLu' := ok_lawU FLu (gn z_len) gLn' bLn (g aLn) kLn
  have gA' := ok_ckN FA O gN' bN (g aN) kN
  have gB' := ok_ckU FB O gU' bU (g aU) kU
  have gR' := ok_ref FR TR gA' gB' vA bA bA2 vB bB kB2 (g aA) kA (g aB) kB
  exact ok_law FL TW ⟨_, _, gD', bD, g aD, kD⟩ ⟨_, _, gNe', bNe, g aNe, kNe⟩ ⟨_, _, gNa', bNa, g aNa, kNa⟩ ⟨_, _, gLn', bLn, g aLn, kLn⟩ ⟨_, _, gLu', bLu, g aLu, kLu⟩ ⟨_, _, gN', bN, g aN, kN⟩ ⟨_, _, gU', bU, g aU, kU⟩
    ⟨_, _, ok_kind FKd, bKd, g aKd, kKd⟩ ⟨_, _, ok_id FId, bId, g aId, kId⟩ ⟨_, _, gR', bR, g aR, kR⟩
theorem walk {l : PySem.W.OpenLaw} {q : Program} {loose : List Str} {XP : (Str → Option Value) → Heap → Prop} {YP : World → Heap → Prop} {d : DefRec} {K : Params → PySem.W.Frag} (hn : l.most = some 63) (hdf : d.params.defaults = [])
    (hY : ∀ (w : World) (h : Heap), YP w h → (K w.params).In h)
    (F : ∀ (w : World) (mg : Str → Option Value) (fa : Addr) (h : Heap), (K w.params).In h → h.Ns mainGlobals mg → mg d.name = some (.ref fa) →
      ∃ fd : FuncData, (∀ (s : Shared) (u : Value), BindsTo s fd ⟨[u], []⟩ [("script", u)]) ∧ ∀ base : Heap, (K w.params).In base → base.Ns mainGlobals mg → FnOk l.prog w (K w.params) mg base CX0 5 fa fd ["script"] (spLaw (K w.params))) :
    PySem.W.WalkO q loose XP YP l.row.toRowW d [] (fun f vs => PySem.call f vs) :=
  L2.walk_of (n := 63) (k := 5) (x := "script") (CX := fun _ => CX0) (sp := fun w => spLaw (K w.params)) hn (by decide) hdf ⟨rfl, by decide, by decide⟩ hY F (fun _ _ a ns hl _ hS => ⟨a, ns, rfl, hS, hl, fun _ => rfl⟩) fun _ _ _ _ _ z => z
end N01

set_option maxRecDepth 100000
open PySem PySem.W PyProof.Rows
set_option maxRecDepth 100000 in
set_option maxHeartbeats 0 in
theorem PySem.Challenge.cw_farfacts_k01_names_and_uids_holds : PySem.Challenge.rw_farfacts_k01_names_and_uids.Holds := by
  w_on; o_law; k_head; (case hw => w_witness2)
  k_fill
  refine N01.walk (l := PySem.Challenge.rw_farfacts_k01_names_and_uids) rfl rfl (fun w h Y => PySem.W.kIn_of Y) ?F
  case F =>
    intro w mg fa h KX G hmg
    refine' N01.all_mk KX G hmg ?aO ?aF ?aT ?xL ?sa ?ga ?gg ?nN ?iC ?tI ?kO ?exC ?tyC ?veC ?ownC ?objC ?hdC ?anyT ?clA ?clG ?clT ?isC ?exF ?isF ?tyF ?sCF ?tyT ?isT ?sCT ?lI ?cI ?ld ?lv ?lf ?ltop ?lc ?aN ?lN ?cN ?kN ?aU ?lU ?cU ?kU ?aKd ?lKd ?cKd ?kKd ?aId ?lId ?cId ?kId ?aC ?lC ?cC ?kC ?aD ?lD ?cD ?kD ?aW ?lW ?cW ?kW ?aNa ?lNa ?cNa ?kNa ?aNe ?lNe ?cNe ?kNe ?aLn ?lLn ?cLn ?kLn ?aLu ?lLu ?cLu ?kLu ?aR ?lR ?cR ?kR ?aL ?lL ?cL ?kL ?aA ?lA ?cA ?kA ?tA ?aB ?lB ?cB ?kB ?tB ?gNM ?gSG ?z_len ?z_all ?z_int ?z_range ?z_repr ?z_isinstance ?z_super ?hbm ?sup ?exm ?kit2
    (case aO => k_is)
    (case aF => k_is)
    (case aT => k_is)
    (case xL => k_is)
    (case sa => k_is)
    (case ga => k_is)
    (case gg => k_is)
    (case nN => k_is)
    (case iC => k_is)
    (case tI => k_is)
    (case kO => k_is)
    (case exC => k_is)
    (case tyC => k_is)
    (case veC => k_is)
    (case ownC => k_is)
    (case objC => k_is)
    (case hdC => k_is)
    (case anyT => k_is)
    (case clA => k_is)
    (case clG => k_is)
    (case clT => k_is)
    (case isC => k_is)
    (case exF => k_is)
    (case isF => k_is)
    (case tyF => k_is)
    (case sCF => k_is)
    (case tyT => k_is)
    (case isT => k_is)
    (case sCT => k_is)
    (case lI => k_is)
    (case cI => k_is)
    (case ld => k_is)
    (case lv => rfl)
    (case lf => first | rfl | decide +kernel)
    (case ltop => first | rfl | decide +kernel)
    (case lc => k_is)
    (case aN => k_is)
    (case lN => k_is)
    (case cN => k_is)
    (case kN => k_is)
    (case aU => k_is)
    (case lU => k_is)
    (case cU => k_is)
    (case kU => k_is)
    (case aKd => k_is)
    (case lKd => k_is)
    (case cKd => k_is)
    (case kKd => k_is)
    (case aId => k_is)
    (case lId => k_is)
    (case cId => k_is)
    (case kId => k_is)
    (case aC => k_is)
    (case lC => k_is)
    (case cC => k_is)
    (case kC => k_is)
    (case aD => k_is)
    (case lD => k_is)
    (case cD => k_is)
    (case kD => k_is)
    (case aW => k_is)
    (case lW => k_is)
    (case cW => k_is)
    (case kW => k_is)
    (case aNa => k_is)
    (case lNa => k_is)
    (case cNa => k_is)
    (case kNa => k_is)
    (case aNe => k_is)
    (case lNe => k_is)
    (case cNe => k_is)
    (case kNe => k_is)
    (case aLn => k_is)
    (case lLn => k_is)
    (case cLn => k_is)
    (case kLn => k_is)
    (case aLu => k_is)
    (case lLu => k_is)
    (case cLu => k_is)
    (case kLu => k_is)
    (case aR => k_is)
    (case lR => k_is)
    (case cR => k_is)
    (case kR => k_is)
    (case aL => k_is)
    (case lL => k_is)
    (case cL => k_is)
    (case kL => k_is)
    (case aA => k_is)
    (case lA => k_is)
    (case cA => k_is)
    (case kA => k_is)
    (case tA => k_is)
    (case aB => k_is)
    (case lB => k_is)
    (case cB => k_is)
    (case kB => k_is)
    (case tB => k_is)
    (case gNM => k_is)
    (case gSG => k_is)
    (case z_len => k_is)
    (case z_all => k_is)
    (case z_int => k_is)
    (case z_range => k_is)
    (case z_repr => k_is)
    (case z_isinstance => k_is)
    (case z_super => k_is)
    (case hbm => first | rfl | decide +kernel)
    (case sup => first | ks_is | rfl | decide +kernel)
    (case exm => first | k_is | rfl | decide +kernel)
    (case kit2 => first | k_is | rfl | decide +kernel)
