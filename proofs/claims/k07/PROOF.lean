import PyProof.Rows.All
import Wide.All
import OpenK.AllK
import Wide.FinOn
import PyProof.EqAt
import PyProof.EqKinds
import PyProof.TupleCall
import PyProof.FString
import KE.KExcSuper
import KE.KExcIs
import HandS.ExcSuper
import HandS.ExcField
import HandS.ExcIs
import HandS.Words
import HandS.WordsExc
import HandS.Text
import HandS.ForMost
import HandS.Walk
import HandS.Defaults
import HandS.Codes
import HandS.Strs
import HandS.Deep
import HandS.ForExc
import HandS.ExcInit
import HandS.StrMore
import PyProof.StrLawsFrom
import HandS.CallSlots
import HandS.ExcOwn
import HandS.Iter
import PySem.Challenge.RW_farfacts_k07_tokens_and_their_places
set_option Elab.async false
set_option linter.all false
set_option maxRecDepth 100000
set_option maxHeartbeats 4000000
namespace PySem
namespace OorX
open PySem.W PySem.Calls PyProof.Rows PySem.HandSPX
/-! ### the text of OutOfRange.__init__ -/
def top (i : Nat) : Stmt := PySem.Challenge.pw_farfacts_k07_tokens_and_their_places.main.body.getD i (.Pass ⟨0, 0, 0, 0⟩)
abbrev sInit : Stmt := L2.inClass (top 3) 0
def iA : Arguments := L2.defArgs sInit
def iB : List Stmt := L2.defBody sInit
def iS : Scope := L2.defScope sInit
abbrev jsE' : Expr := .JoinedStr [.FormattedValue (.Name "name" ⟨14, 28, 14, 32⟩) (-1) none ⟨14, 27, 14, 33⟩, .Constant (.str " is out of its bounds") 0 ⟨14, 33, 14, 54⟩] ⟨14, 25, 14, 55⟩
def msg (n : Str) : Str := (Str.empty ++ n) ++ (" is out of its bounds" : Str)

structure OorTxt (prog : Program) (K : Frag) (mg : Str → Option Value) (C fI : Addr) : Prop where
  gC : mg "OutOfRange" = some (.ref C)
  cls : ∃ nm q N bs bm sn sub ab col dd k0 k1 k2 k3 k5, K.lookup C = some (excClassObj nm q C N bs bm true sn sub ab col dd k0 k1 k2 k3 k5 "ValueError.__new__") ∧ refsVE bm = true
  sa : findIn K (.ref C) "__setattr__" = some (some (.builtin "object.__setattr__"))
  noN : findIn K (.ref C) "name" = some none
  iC : findIn K (.ref C) "__init__" = some (some (.ref fI))
  tC : typeIn K (.ref fI) = some (.type "function")
  kC : keepIn K (.ref C) = true
  exC : subIn K (.ref C) (.type "BaseException") = some true
  tyC : typeIn K (.ref C) = some (.type "type")
  sup : ks_superIn K C C "__init__" = some (some (.builtin "ValueError.__init__"))
  any : nsIn K cStatics "thirdparty.any" = some none
  veC : subIn K (.ref C) (.type "ValueError") = some true
  own : mroIn K C (.ref C) = some true
  gsup : mg "super" = none
  noTop : (prog.main.scope.names.lookup ("super" : Str)).isSome = false
  fn : ∃ (oc : Value) (od : Option Addr) (doc pm : Value) (an : Option Addr) (ct : Value) (osl : Array (Option Value)) (cc cda : Addr) (ccl : Value) (cdd : Option Addr) (vs : Array Value) (ccs : Array (Option Value)) (file : Str) (tf : Tok) (cl : Value) (cld : Option Addr) (csl : Array (Option Value)),
    K.lookup fI = some ⟨oc, od, .func (ksFn "__init__" "OutOfRange.__init__" iA iB iS .none .none doc pm an (.ref cda) ct cc), osl⟩ ∧ codeIn K (.ref cda) "OutOfRange.__init__" = true ∧
    K.lookup cda = some ⟨ccl, cdd, .fields vs, ccs⟩ ∧ vs[2]? = some (.str file tf) ∧ ((prog.main.file : Str) == file) = true ∧ K.lookup cc = some ⟨cl, cld, .cell (some (.ref C)), csl⟩

/-- what __init__ leaves of the new exception at x -/
structure InitEnd (h h' : Heap) (x C dx t1 : Addr) (v : Value) : Prop where
  keep : ∀ b o, b ≠ x → h.get? b = some o → h'.get? b = some o
  obj : h'.get? x = some { cls := .ref C, dict := some dx, data := .fields #[.ref t1, .none, .none, .none, .bool false, .none] }
  dbig : h.objs.size ≤ dx
  dne : dx ≠ x
  ns : h'.Ns1 dx (fun y => if y = "name" then some v else none)
structure OwnMade (h h' : Heap) (e C d : Addr) (v : Value) : Prop where
  keep : ∀ b o, h.get? b = some o → h'.get? b = some o
  new : h.objs.size ≤ e
  obj : ∃ oe vs, h'.get? e = some oe ∧ oe.cls = .ref C ∧ oe.dict = some d ∧ oe.data = .fields vs ∧ vs[1]? = some .none
  dbig : h.objs.size ≤ d
  dne : d ≠ e
  ns : h'.Ns1 d (fun y => if y = "name" then some v else none)

section
variable {prog : Program} {w : World} {A : Around} {E : Value → Shared → Prop} {s : Shared} {h : Heap} {g : Array GenState} {d : Drawn} {t : Nat} {os : OsState}
/-- the wrapper of ValueError.__init__ called on an instance: its args are laid anew -/
theorem call_wrap {nm q : Str} {C N : Addr} {bs bm : List Value} {hdct : Bool} {sn : List Str} {sub : List Value} {ab : Bool} {col : Option Bool} {dd : Option Addr} {k0 k1 k2 k3 k5 : Option Value}
    {u e t0 : Addr} {rest : List Value} {Q : Value → Shared → Prop}
    (hC : h.get? C = some (excClassObj nm q C N bs bm hdct sn sub ab col dd k0 k1 k2 k3 k5 "ValueError.__new__")) (he : h.get? e = some (excO C t0)) (hu : h.get? u = some (kxs_mw "ValueError.__init__" e)) (hrest : rest.length ≤ sizeLine)
    (hq : ∀ h' t1, (∀ b o, b ≠ e → h.get? b = some o → h'.get? b = some o) → h'.get? e = some (excO C t1) → Q .none ⟨h', g, d, t, os⟩) :
    wpAny (model prog w) A (call (.ref u) rest) Q E ⟨h, g, d, t, os⟩ := by
  have FB := F.excBase_ValueError
  refine wpAny_call (codeAny_of_tree (show wpAny (model prog w) A.in1 (callAny (.ref u) ⟨rest, []⟩) _ _ _ from ?_))
  unfold callAny
  refine wpAny_bind (wpAny_load hu ?_)
  simp only [kxs_mw, show (Value.type "method-wrapper" == Value.type "method" || Value.type "method-wrapper" == Value.type "builtin_function_or_method" || Value.type "method-wrapper" == Value.type "method-wrapper") = true from by decide, if_true]
  refine KFB.if_so (by decide) (wpAny_bind (check_bound_init FB.toExcCallFacts hC he rfl (wpAny_bind (wpAny_pure (wpAny_pure ?_)))))
  exact ⟨plainId_quiet FB.init.plain _, codeAny_builtin FB.initEntry (exc_init_tree (cls := .ref C) (t0 := t0) (dv := none) (c2 := .none) (c3 := .none) (b4 := .bool false) he hrest fun h' k e' _ => hq h' _ k e')⟩

theorem ldV {M : Model} {env : Env} {m : Str → Option Value} {x : Str} {pos : Pos} {v : Value} {Q : Value → Shared → Prop} (hn : s.heap.Ns env.locals m) (hv : m x = some v) (hq : Q v s)
    (hk : env.scope.kind = .function := by rfl) (hl : env.kindOf x = some .local := by rfl) (hd : (x == ("__debug__" : Str)) = false := by decide) : wpAny M A (eval (.Name x pos) env) Q E s := wpAny_Name (wpAny_loadName_local hk hl hn hv hq) hd

theorem one_size (v : Value) : [v].length ≤ sizeLine := by rw [sizeLine_eq]; exact (by decide : 1 ≤ 16777216)
theorem js_eval {env : Env} {m : Str → Option Value} {nm : Str} {tk : Tok} {Q : Value → Shared → Prop} (hn : s.heap.Ns env.locals m) (hv : m "name" = some (.str nm tk)) (hk : env.scope.kind = .function) (hl : env.kindOf "name" = some .local) (hz : nm.length ≤ 1000)
    (hq : ∀ out t t', out.length ≤ 2000 → Q (.str out t) { s with toks := t' }) : wpAny (model prog w) A (eval jsE' env) Q E s := by
  have e0 : (Str.empty ++ nm : Str) = nm := by
    obtain ⟨a⟩ := nm
    show (⟨#[] ++ a⟩ : Str) = ⟨a⟩
    rw [Array.empty_append]
  have l1 : (nm ++ (" is out of its bounds" : Str) : Str).length ≤ 2000 := by
    rw [strLen_append]
    have : (" is out of its bounds" : Str).length = 21 := by decide +kernel
    omega
  have b1 : nm.length ≤ sizeLine := by rw [sizeLine_eq]; omega
  refine wpAny_JoinedStr ?_
  have fin : ∀ (t0 : Tok) (s1 : Shared), (∃ k, s1 = { s with toks := k }) → ∃ y t, Value.str nm t0 = .str y t ∧ (Str.empty ++ y).length ≤ sizeLine ∧ Joins (model prog w) A E (evalEach [.Constant (.str " is out of its bounds") 0 ⟨14, 33, 14, 54⟩] env) (Str.empty ++ y) (fun out s₁ => out.length ≤ sizeLine ∧ Q (.str out s₁.toks) { s₁ with toks := s₁.toks + 1 }) s1 := by
    rintro t0 s1 ⟨k, rfl⟩
    refine ⟨nm, t0, rfl, by rw [e0]; exact b1, ?_⟩
    show wpAny (model prog w) A (eval (.Constant (.str " is out of its bounds") 0 ⟨14, 33, 14, 54⟩) env) _ E _
    refine Calls.Constant_str ⟨_, _, rfl, ?_, ?_⟩
    · rw [e0, sizeLine_eq]; omega
    · refine ⟨?_, ?_⟩
      · rw [e0, sizeLine_eq]; omega
      · rw [e0]; exact hq _ _ _ l1
  show wpAny (model prog w) A (eval (.FormattedValue (.Name "name" ⟨14, 28, 14, 32⟩) (-1) none ⟨14, 27, 14, 33⟩) env) _ E s
  exact wpAny_FormattedValue_plain (ldV hn hv (wpAny_formatField_str (fin _ _ ⟨_, rfl⟩) (fin _ _ ⟨_, rfl⟩) b1) hk hl)

theorem oor_init {R : Result → Shared → Prop} {K : Frag} {mg : Str → Option Value} {C fI : Addr} (T : OorTxt prog K mg C fI) {x t0 : Addr} {nm : Str} {tk0 : Tok} (X : K.In s.heap) (hlim : s.heap.NoLimit) (G : s.heap.Ns mainGlobals mg)
    (Bt : ∃ mb, s.heap.Ns builtinsNs mb ∧ ∀ x : Str, x ≠ "__name__" → mb x = bootBuiltins x) (hx : s.heap.get? x = some (excO C t0)) (hno : ∀ o, K.lookup x ≠ some o) (hroom : A.depth < recursionLimit) (hz : nm.length ≤ 1000)
    (hq : ∀ h' tk dx t1, InitEnd s.heap h' x C dx t1 (.str nm tk0) → R (.ok (.ret .none)) { s with heap := h', toks := tk }) :
    codeAny (model prog w) A (.call (.ref fI) ⟨[.ref x, .str nm tk0], []⟩) R s := by
  obtain ⟨oc, od, doc, pm, an, ct, osl, cc, cda, ccl, cdd, vs, ccs, file, tf, cl, cld, csl, ho, hcd, hcda, hvs, hfile, hcell⟩ := T.fn
  obtain ⟨nmC, q, N, bs, bm, sn, sub, ab, col, dd, k0, k1, k2, k3, k5, hC, hbm⟩ := T.cls
  obtain ⟨mb, hb1, hb2⟩ := Bt
  have hcl : clsIn K C = some { name := nmC, bases := bs, mro := .ref C :: bm, ns := N, qualname := q, hasDict := true, slotNames := sn, subclasses := sub, abstract := ab, collection := col, hasDel := false } := by unfold clsIn; rw [hC] <;> rfl
  refine ks_codeAny_call_defAt (fd := ksFn "__init__" "OutOfRange.__init__" iA iB iS .none .none doc pm an (.ref cda) ct cc) (body := iB) (binds := [("self", .ref x), ("name", .str nm tk0)])
    hroom (X _ _ ho) rfl hlim (codeRec_of X hcd) rfl (BindsTo.of_eq rfl) (show ∀ y ∈ iS.names, y.2 ≠ .cell from by decide) (locs rfl) (fun h₁ hn₁ k₁ => ?_)
  obtain ⟨hp0, g, d, t, os⟩ := s
  have X₁ : K.In h₁ := X.keeps k₁
  have G₁ : h₁.Ns mainGlobals mg := G.keeps k₁
  have B₁ : h₁.Ns builtinsNs mb := hb1.keeps k₁
  have hx₁ := k₁ _ _ hx
  have hv1 : (fun y : Str => [(("self" : Str), Value.ref x), (("name" : Str), Value.str nm tk0)].reverse.lookup y) "self" = some (.ref x) := by rfl
  have hv2 : (fun y : Str => [(("self" : Str), Value.ref x), (("name" : Str), Value.str nm tk0)].reverse.lookup y) "name" = some (.str nm tk0) := by rfl
  have hxC : x ≠ C := fun e => by
    have z := X _ _ hC
    rw [← e, hx] at z
    cases z
  have oC := X₁ _ _ hC
  refine ks_wpAt_execs_cons (ks_wpAt_Expr_any (ks_wpAt_MethodCall ?_))
  refine ks_wpAt_super_base (env := ksEnv "OutOfRange.__init__" iS hp0.objs.size fI (.ref cda) cc) (f := fI) (ar := { arg := "self", annotation := none, pos := ⟨13, 17, 13, 21⟩ }) (file := file) (tf := tf) (vs := vs) rfl rfl rfl rfl (X₁ _ _ ho) rfl rfl rfl (X₁ _ _ hcda) rfl hvs hfile T.noTop ?_
  refine ks_loadName_global (env := ksEnv "OutOfRange.__init__" iS hp0.objs.size fI (.ref cda) cc) rfl rfl (loadGlobal_builtin (env := ksEnv "OutOfRange.__init__" iS hp0.objs.size fI (.ref cda) cc) G₁ T.gsup B₁ ((hb2 _ (by decide +kernel)).trans (by kernel_rfl)) ⟨rfl, ?_⟩)
  refine wpAny_loadName_free (env := ksEnv "OutOfRange.__init__" iS hp0.objs.size fI (.ref cda) cc) (c := cc) rfl rfl rfl ⟨_, X₁ _ _ hcell, rfl⟩ ?_
  refine wpAny_loadName_local (env := ksEnv "OutOfRange.__init__" iS hp0.objs.size fI (.ref cda) cc) rfl rfl hn₁ hv1 ?_
  refine ks_wpAny_isType_cls oC rfl ⟨rfl, ?_⟩
  refine ks_wpAny_call_super oC rfl hx₁ rfl (fun c e => by cases e) (looks_mroIn X₁ T.own) (fun h₂ e₂ k₂ => ?_)
  have X₂ : K.In h₂ := X₁.keeps k₂
  have hx₂ := k₂ _ _ hx₁
  have hI : Looks (model prog w) h₂ (isInstance (.ref x) (.type "ValueError")) true := (show W.InstAt h₂ x (excO C t0) C none from ⟨hx₂, rfl, rfl, trivial⟩).type.andThen (looks_subIn X₂ T.veC)
  have hm := T.sup
  unfold ks_superIn at hm
  rw [hcl] at hm
  refine kxs_getMethod kxs_ValueError e₂ (looks_opaque X₂ T.any) (l₀ := .ref C :: bm) (fun A Q E s k q => wpAny_bind ((looks_clsIn X₂ hcl) A _ E s k (wpAny_pure q))) rfl X₂ hm hI hxC rfl ?_
  have k₃ : ∀ b o, h₂.get? b = some o → (h₂.push (kxs_mw "ValueError.__init__" x)).get? b = some o := fun b o e => Heap.get?_push_of_some _ e
  have hu : (h₂.push (kxs_mw "ValueError.__init__" x)).get? h₂.objs.size = some (kxs_mw "ValueError.__init__" x) := Heap.get?_push_at rfl rfl
  have hx₃ := k₃ _ _ hx₂
  have hn₃ : (h₂.push (kxs_mw "ValueError.__init__" x)).Ns hp0.objs.size (fun y : Str => [(("self" : Str), Value.ref x), (("name" : Str), Value.str nm tk0)].reverse.lookup y) := (hn₁.keeps k₂).keeps k₃
  have oC₃ := k₃ _ _ (k₂ _ _ oC)
  have he : starEach [jsE'] (ksEnv "OutOfRange.__init__" iS hp0.objs.size fI (.ref cda) cc) = (false, eval jsE' (ksEnv "OutOfRange.__init__" iS hp0.objs.size fI (.ref cda) cc)) :: starEach [] (ksEnv "OutOfRange.__init__" iS hp0.objs.size fI (.ref cda) cc) := rfl
  show wpAny (model prog w) _ (callWith _ (.ref h₂.objs.size) [] (backTo _ (starEach [jsE'] (ksEnv "OutOfRange.__init__" iS hp0.objs.size fI (.ref cda) cc))) []) _ _ _
  rw [he]
  refine kxs_callWith (i := "ValueError.__init__") (x := x) (by rfl) (evalArgs_plain (Calls.spliced_cons (js_eval (m := fun y : Str => [(("self" : Str), Value.ref x), (("name" : Str), Value.str nm tk0)].reverse.lookup y) hn₃ hv2 rfl rfl hz fun out t4 t5 hout => ?_)))
  refine Calls.spliced_nil ⟨hu, ?_⟩
  refine call_wrap oC₃ hx₃ hu (one_size _) fun h₄ t1 k₄ hx₄ => ?_
  have hn₄ : h₄.Ns hp0.objs.size (fun y : Str => [(("self" : Str), Value.ref x), (("name" : Str), Value.str nm tk0)].reverse.lookup y) := by
    obtain ⟨o, es, ep, ho', hr'⟩ := hn₃
    exact ⟨o, es, ep, k₄ _ _ (Nat.ne_of_gt (Heap.lt_size hx)) ho', hr'⟩
  have X₄ : K.In h₄ := fun a o e => k₄ a o (fun z => by
    have z1 := X _ _ e
    rw [z, hx] at z1
    exact hno o (by rw [z] at e; exact e)) ((X₂.keeps k₃) a o e)
  have old : ∀ b o, b ≠ x → hp0.get? b = some o → h₄.get? b = some o := fun b o hb e => k₄ b o hb (k₃ _ _ (k₂ _ _ (k₁ _ _ e)))
  have big : hp0.objs.size ≤ h₄.objs.size := Nat.le_of_lt hn₄.lt
  refine wpAt_of_wpAny (wpAny_execs_cons (plainObj_wpAny_Assign_Attribute (ldV (env := ksEnv "OutOfRange.__init__" iS hp0.objs.size fI (.ref cda) cc) hn₄ hv2 (ldV (env := ksEnv "OutOfRange.__init__" iS hp0.objs.size fI (.ref cda) cc) hn₄ hv1 (set_plain X₄ (ox := excO C t1) (od := none) ⟨hx₄, rfl, rfl, trivial⟩ T.sa ?_)))))
  refine exc_osa X₄ hx₄ hcl (show refsVE (.ref C :: bm) = true from hbm) rfl T.noN (fun h₅ tk₅ dx k₅ dn dne hx₅ hn₅ => ?_)
  exact wpAny_execs_nil (hq h₅ tk₅ dx t1 ⟨fun b o hb e => k₅ b o hb (old b o hb e), hx₅, Nat.le_trans big dn, dne, hn₅⟩)

/-- OutOfRange(name), made -/
theorem oor_made {R : Result → Shared → Prop} {K : Frag} {mg : Str → Option Value} {C fI : Addr} (T : OorTxt prog K mg C fI) {nm : Str} {tk0 : Tok} (X : K.In s.heap) (hlim : s.heap.NoLimit) (G : s.heap.Ns mainGlobals mg)
    (Bt : ∃ mb, s.heap.Ns builtinsNs mb ∧ ∀ x : Str, x ≠ "__name__" → mb x = bootBuiltins x) (hroom : A.depth + 1 < recursionLimit) (hz : nm.length ≤ 1000)
    (hq : ∀ h' tk e d, OwnMade s.heap h' e C d (.str nm tk0) → R (.ok (.ret (.ref e))) { s with heap := h', toks := tk }) :
    codeAny (model prog w) A (.call (.ref C) ⟨[.str nm tk0], []⟩) R s := by
  obtain ⟨nmC, q, N, bs, bm, sn, sub, ab, col, dd, k0, k1, k2, k3, k5, hC, hbm⟩ := T.cls
  obtain ⟨mb, hb1, hb2⟩ := Bt
  obtain ⟨hp, g, d, tk, os⟩ := s
  have k : ∀ b o, hp.get? b = some o → ((hp.push (kdv_tup [.str nm tk0])).push (excO C hp.objs.size)).get? b = some o := fun b o e => Heap.get?_push_of_some _ (Heap.get?_push_of_some _ e)
  have hget : ((hp.push (kdv_tup [.str nm tk0])).push (excO C hp.objs.size)).get? (hp.objs.size + 1) = some (excO C hp.objs.size) := by heap_get
  have hno : ∀ o, K.lookup (hp.objs.size + 1) ≠ some o := fun o e => absurd (Nat.lt_of_succ_lt (Heap.lt_size (show hp.get? (hp.objs.size + 1) = some o from X _ _ e))) (Nat.lt_irrefl _)
  refine call_own F.excBase_ValueError (fun Y => refsVE_contains Y bm hbm) (X _ _ hC) (looks_findIn X T.iC) (fun self => bind_fn X self T.tC) (one_size _) ?_
  refine oor_init (s := ⟨(hp.push (kdv_tup [.str nm tk0])).push (excO C hp.objs.size), g, d, tk, os⟩) T (X.keeps k) (hlim.keeps k) (G.keeps k) ⟨mb, hb1.keeps k, hb2⟩ hget hno (show A.depth + 1 < recursionLimit from hroom) hz fun h' tk' dx t1 E1 => ?_
  have z : hp.objs.size + 1 + 1 ≤ dx := by
    have zz := E1.dbig
    rw [Heap.size_push, Heap.size_push] at zz
    exact zz
  refine ⟨rfl, hq h' tk' (hp.objs.size + 1) dx ⟨fun b o e => E1.keep b o (Nat.ne_of_lt (Nat.lt_succ_of_lt (Heap.lt_size e))) (k b o e), Nat.le_succ _, ⟨_, _, E1.obj, rfl, rfl, rfl, rfl⟩, (show hp.objs.size ≤ dx by omega), E1.dne, E1.ns⟩⟩
end
end OorX
end PySem

namespace L2
open PySem PySem.Spec PyProof.Rows
theorem relO_oor {v : V} {v' : Value} (r : RelV v v') (f : Str) : RelO (List.lookup f [(("name" : Str), v)]) (if f = "name" then some v' else none) := by
  by_cases hw : f = "name"
  · subst hw
    rw [if_pos rfl, show List.lookup ("name" : Str) [(("name" : Str), v)] = some v from by simp [List.lookup]]
    exact r
  · have qw : (f == ("name" : Str)) = false := by simpa using hw
    rw [if_neg hw, show List.lookup f [(("name" : Str), v)] = none from by simp [List.lookup, qw]]
    trivial
section
variable {X : Cx} {C fI : Addr}
/-- OutOfRange(e) -/
def tMkOor (C : Addr) (ta : TA) : St → Hp → XK → Prop := fun σ H Q => ta σ H fun vs H1 => ∃ nm : Str, vs = [.str nm] ∧ nm.length ≤ 1000 ∧ ∀ d, H1 d = none → Q (.ref C) (some d) (upd H1 d (.xd [(("name" : Str), .str nm)]))
theorem pmk_oor {a : Expr} {ta : TA} {p pos : Pos} (T : PySem.OorX.OorTxt X.prog X.K X.mg C fI) (hr : Room 1 X.A) (ha : PA X [a] ta) (hg : Gl X "OutOfRange" := by rfl)
    (hs : starEach [a] X.env = (false, eval a X.env) :: starEach [] X.env := by rfl) (hpl : (backTo pos (starEach [] X.env)).any (·.1) = false := by rfl) :
    PMk X (.Call (.Name "OutOfRange" p) [a] [] pos) (tMkOor C ta) := by
  intro pins s σ H Q I h
  refine wpAny_Call_Name_kw (ld_glob I hg T.gC (PySem.W.callWith_K (h₀ := X.base) I.ok.mod.kin T.kC (thn (ha.run pos pins s σ H _ I h) fun us s1 hh => ?_) hs hpl))
  obtain ⟨vs, H1, I1, r1, nm, ev, hz, q1⟩ := hh
  subst ev
  refine ⟨I1.kIn, ?_⟩
  cases r1 with
  | cons rv rn =>
    cases rn
    obtain ⟨tk0, rfl⟩ := rv
    have hlim := I1.nolimit
    obtain ⟨mb, hb1, hb2⟩ := I1.mod.blt
    have G1 := I1.mod.glob.keeps I1.bk
    have B1 := hb1.keeps I1.bk
    have X1 := I1.kIn
    obtain ⟨hp, g, dr, tk, os⟩ := s1
    refine wpAny_call (PySem.OorX.oor_made (s := ⟨hp, g, dr, tk, os⟩) T X1 hlim G1 ⟨mb, B1, hb2⟩ (by have := hr.dp; omega) hz fun h' tk' e d M => ?_)
    show MkP X pins σ Q (.ref e) ⟨h', g, dr, tk', os⟩
    obtain ⟨oe, fv, hoe, hc, hd, hdat, h1⟩ := M.obj
    obtain ⟨G', g1, g2⟩ := restrict h' fun b => decide (b ≠ e)
    have gk : ∀ b, b ≠ e → G'.get? b = h'.get? b := fun b hb => g1 b (decide_eq_true hb)
    have ge : G'.get? e = none := g2 e (by simp)
    have old : ∀ b o, hp.get? b = some o → G'.get? b = some o := fun b o q => (gk b (Nat.ne_of_lt (Nat.lt_of_lt_of_le (Heap.lt_size q) M.new))).trans (M.keep b o q)
    have ob : ObjOk X.prog X.w (upd H1 d (.xd [(("name" : Str), .str nm)])) G' d (.xd [(("name" : Str), .str nm)]) := ⟨_, M.ns.at (fun o q => (gk d M.dne).trans q), fun f => relO_oor (v := .str nm) ⟨tk0, rfl⟩ f⟩
    have J : Inv X pins σ (upd H1 d (.xd [(("name" : Str), .str nm)])) ⟨G', g, dr, tk', os⟩ := I1.laid (t' := tk') old M.dbig ob
    refine ⟨e, oe, fv, ⟨G', g, dr, tk', os⟩, _, .ref C, some d, rfl, J, fun b o q => ?_, ge, hoe, ⟨hc, hd⟩, hdat, h1, ?_, rfl, I1.bare, raises_own T.exC T.tyC, q1 d (I1.hok.fresh M.dbig)⟩
    · by_cases hb : b = e
      · have q' : G'.get? b = some o := q
        rw [hb, ge] at q'
        cases q'
      · exact (gk b hb).symm.trans q
    · rw [upd_ne (Ne.symm M.dne)]
      exact I1.hok.fresh M.new
/-- raise OutOfRange(e) -/
def tRaiseOor (C : Addr) (W : WX) (ta : TA) : TS := fun _ σ H => tMkOor C ta σ H fun cls d H' => W cls d σ H'
theorem ps_raiseOor {a : Expr} {ta : TA} {W : WX} {p pos pos2 : Pos} (hc : X.calm = true) (T : PySem.OorX.OorTxt X.prog X.K X.mg C fI) (hr : Room 1 X.A) (tk : Takes X W) (ha : PA X [a] ta) (hg : Gl X "OutOfRange" := by rfl)
    (hs : starEach [a] X.env = (false, eval a X.env) :: starEach [] X.env := by rfl) (hpl : (backTo pos (starEach [] X.env)).any (·.1) = false := by rfl) :
    PS X (.Raise (some (.Call (.Name "OutOfRange" p) [a] [] pos)) none pos2) (tRaiseOor C W ta) := ps_raise hc tk (pmk_oor T hr ha hg hs hpl)

/-! ### isinstance(e, c) of the held exception, its own dict or none -/
structure ExcCls (K : PySem.W.Frag) (D : Addr) : Prop where
  cl : (PySem.W.clsIn K D).isSome = true
  hg : PySem.W.findIn K (.ref D) "__getattribute__" = some (some (.builtin "BaseException.__getattribute__"))
  hk : PySem.W.findIn K (.ref D) "__getattr__" = some none
  hs : PySem.W.subIn K (.ref D) (.type "BaseException") = some true
  ha : PySem.W.findIn K (.ref D) "__class__" = some (some (.builtin "object.__class__"))
  hn : PySem.W.specialIn K (.builtin "object.__class__") "__get__" = some (some (.builtin "getset_descriptor.__get__"))
  ht : PySem.W.takesIn K (.builtin "object.__class__") = some true
  hm : PySem.W.mroIn K D (.type "object") = some true
def rIsX (K : PySem.W.Frag) (D a : Addr) (cls : Value) (d : Option Addr) : List V → Hp → VK → Prop := fun xs H Q => ∃ (c : V) (cv : Value) (b : Bool), xs = [.ref a, c] ∧ (∀ u, RelV c u → u = cv) ∧ cls = .ref D ∧ (∃ dd fs, d = some dd ∧ H dd = some (.xd fs)) ∧ PySem.W.kitOne K (.ref D) cv = some b ∧ Q (.bl b) H
theorem call_isX {a D : Addr} {oe : Obj} {cls : Value} {d : Option Addr} {pn : List (Addr × Obj)} (T : ExcCls X.K D) (hz : Zc cls d oe) (hf : ∃ vs, oe.data = .fields vs) : CallR (X.suite a ((a, oe) :: pn)) (.builtin "isinstance") (rIsX X.K D a cls d) := by
  intro pins s σ H xs us Q I r h
  obtain ⟨c, cv, b, rfl, hcv, hcls, ⟨dd, fs, hd, hdd⟩, e, q⟩ := h
  cases r with
  | cons rx rr =>
    cases rr with
    | cons rt rr =>
      cases rr
      cases rx
      have ec := hcv _ rt
      subst ec
      obtain ⟨hget, _⟩ := I.pin (a, oe) (List.mem_append.mpr (.inl List.mem_cons_self))
      obtain ⟨vs, hv⟩ := hf
      have hx : ObjOk X.prog X.w H s.heap dd (.xd fs) := I.hok dd _ hdd
      obtain ⟨mA, hns, hr⟩ := hx
      obtain ⟨od, ho, hl⟩ := lookIn_ns hns
      have J : PySem.W.InstAt s.heap a oe D (some od) := by
        refine ⟨hget, by rw [hz.1, hcls], ?_, ?_⟩
        · unfold PySem.W.notCls
          rw [hv] <;> rfl
        · rw [hz.2, hd]
          exact ho
      exact PySem.W.kia_one (PySem.W.kitx_exc T.cl T.hg T.hk T.hs T.ha T.hn T.ht T.hm) I.kIn J e (fun z => nomatch z) fun tk => ⟨.bl b, H, I.kept (t' := tk) fun _ _ z => z, rfl, q⟩
/-! ### repr of a truth, a text times a number -/
theorem call_repr_bl : CallR X (.builtin "repr") (fun xs H Q => ∃ b : Bool, xs = [.bl b] ∧ Q (.str (if b then "True" else "False")) H) := by
  intro pins s σ H xs us Q I r h
  obtain ⟨b, rfl, q⟩ := h
  cases r with
  | cons rx rr =>
    cases rr
    cases rx
    exact PySem.P.repr_of_bool ⟨.str _, H, I.tok _, ⟨_, rfl⟩, q⟩
end
end L2

set_option linter.all false
set_option maxRecDepth 100000
set_option maxHeartbeats 4000000
namespace N01
open PySem PySem.Builtin PySem.Builtin.Str
theorem part_len {x : Str} {cuts : List Nat} {w : Nat} : ∀ y ∈ partsBetween x cuts w, y.length ≤ x.length := by
  intro y hy
  unfold partsBetween at hy
  obtain ⟨p, _, e⟩ := List.mem_map.mp hy
  rw [← e]
  exact le_strSub x _ _
theorem split_len {x z : Str} : ∀ y ∈ Txt.split x z, y.length ≤ x.length := by
  intro y hy
  unfold Txt.split at hy
  split at hy
  · rw [List.mem_singleton.mp hy]; exact Nat.le_refl _
  · split at hy
    · rw [List.mem_singleton.mp hy]; exact Nat.le_refl _
    · exact part_len y hy
theorem parts_count {x : Str} {cuts : List Nat} {w : Nat} : (partsBetween x cuts w).length = cuts.length + 1 := by
  unfold partsBetween
  simp
theorem occ_keep (s sub : Str) (hi limit : Nat) : ∀ (l : List Nat) (st : Array Nat × Nat) (a : Nat), st.fst.toList.head? = some a → (forIn l st (StrLaws.occBody s sub hi limit)).run.fst.toList.head? = some a
  | [], _, _, h => h
  | b :: l, st, a, h => by
    rw [List.forIn_cons]
    unfold StrLaws.occBody
    split
    · refine occ_keep s sub hi limit l _ a ?_
      show (st.fst.push b).toList.head? = some a
      rw [Array.toList_push]
      cases e : st.fst.toList with
      | nil => rw [e] at h; cases h
      | cons c r => rw [e] at h; exact h
    · exact occ_keep s sub hi limit l _ a h
theorem occ_head (s sub : Str) (hi n : Nat) : ∀ (l : List Nat) (f : Nat), (forIn l ((#[] : Array Nat), f) (StrLaws.occBody s sub hi (n + 1))).run.fst.toList.head? = (forIn l ((#[] : Array Nat), f) (StrLaws.occBody s sub hi 1)).run.fst.toList.head?
  | [], _ => rfl
  | b :: l, f => by
    rw [List.forIn_cons, List.forIn_cons]
    have e1 : ∀ k : Nat, 0 < k → StrLaws.occBody s sub hi k b ((#[] : Array Nat), f) = if ((f ≤ b) ∧ b + sub.length ≤ hi) ∧ subAt s sub b = true then pure (ForInStep.yield ((#[] : Array Nat).push b, b + sub.length)) else pure (ForInStep.yield ((#[] : Array Nat), f)) := by
      intro k hk
      unfold StrLaws.occBody
      have : ((((#[] : Array Nat), f).fst.size < k ∧ ((#[] : Array Nat), f).snd ≤ b) ∧ b + sub.length ≤ hi) ∧ subAt s sub b = true ↔ ((f ≤ b) ∧ b + sub.length ≤ hi) ∧ subAt s sub b = true := by
        constructor
        · rintro ⟨⟨⟨_, h2⟩, h3⟩, h4⟩; exact ⟨⟨h2, h3⟩, h4⟩
        · rintro ⟨⟨h2, h3⟩, h4⟩; exact ⟨⟨⟨hk, h2⟩, h3⟩, h4⟩
      by_cases c : ((f ≤ b) ∧ b + sub.length ≤ hi) ∧ subAt s sub b = true
      · rw [if_pos c, if_pos (this.mpr c)]
      · rw [if_neg c, if_neg (fun z => c (this.mp z))]
    rw [e1 (n + 1) (Nat.succ_pos n), e1 1 Nat.one_pos]
    by_cases c : ((f ≤ b) ∧ b + sub.length ≤ hi) ∧ subAt s sub b = true
    · rw [if_pos c]
      exact (occ_keep s sub hi (n + 1) l ((#[] : Array Nat).push b, b + sub.length) b rfl).trans (occ_keep s sub hi 1 l ((#[] : Array Nat).push b, b + sub.length) b rfl).symm
    · rw [if_neg c]
      exact occ_head s sub hi n l f
theorem occurrences_head (s sub : Str) (lo hi n : Nat) : (occurrences s sub lo hi (n + 1)).head? = (occurrences s sub lo hi 1).head? := by
  rw [StrLaws.occ_eq, StrLaws.occ_eq]
  exact occ_head s sub hi n _ lo
theorem part_of_split {x z a b : Str} (h : Txt.split x z = [a, b]) : (Txt.partition x z).1 = a ∧ (Txt.partition x z).2.2 = b := by
  unfold Txt.split at h
  split at h
  · cases h
  · split at h
    · cases h
    · have hc := congrArg List.length h
      rw [parts_count] at hc
      have h1 := occurrences_head x z 0 x.length x.length
      cases e : occurrences x z 0 x.length (x.length + 1) with
      | nil => rw [e] at hc; simp at hc
      | cons i r =>
        cases r with
        | cons j q => rw [e] at hc; simp at hc
        | nil =>
          rw [e] at h h1
          unfold Txt.partition
          cases e2 : occurrences x z 0 x.length 1 with
          | nil => rw [e2] at h1; cases h1
          | cons i' r' =>
            rw [e2] at h1
            have hi : i = i' := Option.some.inj h1
            subst hi
            unfold partsBetween at h
            simp only [List.map_cons, List.map_nil, List.cons_append, List.nil_append, List.zip_cons_cons, List.zip_nil_left] at h
            injection h with ha hb
            injection hb with hb _
            exact ⟨ha, hb⟩
theorem size_reps (c : Array Nat) : ∀ (k : Nat) (a : Array Nat), ((List.replicate k c).foldl (· ++ ·) a).size = a.size + k * c.size
  | 0, a => by simp
  | k + 1, a => by
    rw [List.replicate_succ, List.foldl_cons, size_reps c k, Array.size_append, Nat.succ_mul]
    omega
theorem mul_len (z : Str) (n : Int) : (Txt.mul z n).length = z.length * n.toNat := by
  unfold Txt.mul
  by_cases h : n < 1
  · rw [if_pos h, show n.toNat = 0 by omega, Nat.mul_zero] <;> rfl
  · rw [if_neg h]
    by_cases h2 : (n == 1 || z.length == 0) = true
    · rw [if_pos h2]
      rcases Bool.or_eq_true_iff.mp h2 with h3 | h3
      · rw [show n.toNat = 1 by have := eq_of_beq h3; omega, Nat.mul_one]
      · rw [show z.length = 0 from eq_of_beq h3, Nat.zero_mul]
    · rw [if_neg h2]
      show ((List.replicate n.toNat z.cps).foldl (· ++ ·) #[]).size = z.cps.size * n.toNat
      rw [size_reps, Nat.mul_comm]
      simp
def Asc (t : Str) : Prop := ∀ c ∈ t.cps.toList, c < 128
theorem asc_app {a b : Str} (ha : Asc a) (hb : Asc b) : Asc (a ++ b) := by
  intro c hc
  have e : (a ++ b).cps.toList = a.cps.toList ++ b.cps.toList := Array.toList_append
  rw [e] at hc
  rcases List.mem_append.mp hc with h | h
  · exact ha c h
  · exact hb c h
theorem asc_one {c : Nat} (h : c < 128) : Asc ⟨#[c]⟩ := by
  intro d hd
  have e : d = c := by simpa using hd
  rw [e]
  exact h
theorem mem_reps (a : Array Nat) : ∀ (k : Nat) (b : Array Nat) (c : Nat), c ∈ ((List.replicate k a).foldl (· ++ ·) b).toList → c ∈ b.toList ∨ c ∈ a.toList
  | 0, _, _, h => Or.inl h
  | k + 1, b, c, h => by
    rw [List.replicate_succ, List.foldl_cons] at h
    rcases mem_reps a k (b ++ a) c h with h | h
    · rw [Array.toList_append] at h
      exact List.mem_append.mp h
    · exact Or.inr h
theorem asc_mul {z : Str} (n : Int) (hz : Asc z) : Asc (Txt.mul z n) := by
  intro c hc
  unfold Txt.mul at hc
  split at hc
  · exact absurd hc (by decide +revert)
  · split at hc
    · exact hz c hc
    · rcases mem_reps z.cps n.toNat #[] c hc with h | h
      · cases h
      · exact hz c h
theorem strOk_asc {t : Str} (h : Asc t) : PyData.strOk t = true := by
  unfold PyData.strOk
  rw [Array.all_eq_true]
  intro i hi
  have := h t.cps[i] (by simp)
  exact decide_eq_true (by omega)
theorem mulOk_small {z : Str} {n : Int} (h1 : z.length ≤ 1000) (h2 : n ≤ 1000) (h3 : -1000 ≤ n) : MulOk z n := by
  refine ⟨?_, fun hn hc => ?_, fun hn hc => ?_⟩
  · rw [decide_eq_false (by omega), decide_eq_false (by omega)] <;> rfl
  · have hz : (z.length : Int) ≤ 1000 := by omega
    have : (1000 : Int) ≤ (2 ^ 63 - 1) / n := by
      refine (Int.le_ediv_iff_mul_le (by omega)).mpr ?_
      omega
    omega
  · have hb : z.length * n.toNat ≤ 1000 * 1000 := Nat.mul_le_mul h1 (by omega)
    have hs : sizeLine = 16777216 := sizeLine_eq
    unfold tooLong
    exact decide_eq_false (by omega)
end N01

set_option linter.all false
namespace N07
/-! ### what a text's tokens are: a scan from a place -/
structure Row where
  kind : List Nat
  txt : List Nat
  ln : Nat
  col : Nat
abbrev Res := Except (Nat × Nat) (List Row)
def csE (a : Row) : Res → Res
  | .ok l => .ok (a :: l)
  | .error e => .error e
def apE (a : List Row) : Res → Res
  | .ok l => .ok (a ++ l)
  | .error e => .error e
/-- one line's tokens, then the rest's -/
def sqE : Res → Res → Res
  | .ok l, x => apE l x
  | .error e, _ => .error e
theorem ap_nil (x : Res) : apE [] x = x := by cases x <;> rfl
theorem ap_ap (a b : List Row) (x : Res) : apE a (apE b x) = apE (a ++ b) x := by
  cases x with
  | error e => rfl
  | ok l => show Except.ok (a ++ (b ++ l)) = Except.ok ((a ++ b) ++ l); rw [List.append_assoc]
theorem ap_cs (a : List Row) (r : Row) (x : Res) : apE a (csE r x) = apE (a ++ [r]) x := by
  cases x with
  | error e => rfl
  | ok l => show Except.ok (a ++ (r :: l)) = Except.ok ((a ++ [r]) ++ l); rw [List.append_assoc]; rfl
theorem sq_cs (r : Row) (x y : Res) : sqE (csE r x) y = csE r (sqE x y) := by
  cases x with
  | error e => rfl
  | ok l => cases y <;> rfl
def nn (c : Nat) : Bool := !decide (c = 10)
def qn (c : Nat) : Bool := !(decide (c = 34) || decide (c = 10))
def pn (c : Nat) : Bool := !(decide (c = 32) || decide (c = 40) || decide (c = 41) || decide (c = 34) || decide (c = 35) || decide (c = 10))
def kT : List Nat := [116, 101, 120, 116]
def kW : List Nat := [119, 111, 114, 100]
theorem drop_le (p : Nat → Bool) (r : List Nat) : (r.dropWhile p).length ≤ r.length := (List.dropWhile_sublist p).length_le
def tokA (s : List Nat) (ln col : Nat) : Res :=
  match s with
  | [] => .ok []
  | c :: r =>
    if c = 10 then tokA r (ln + 1) 1
    else if c = 35 then tokA (r.dropWhile nn) ln col
    else if c = 32 then tokA r ln (col + 1)
    else if c = 40 ∨ c = 41 then csE ⟨[c], [c], ln, col⟩ (tokA r ln (col + 1))
    else if c = 34 then
      if (r.dropWhile qn).head? = some 34 then csE ⟨kT, r.takeWhile qn, ln, col⟩ (tokA (r.dropWhile qn).tail ln (col + (r.takeWhile qn).length + 2))
      else .error (ln, col + 1 + (r.takeWhile qn).length)
    else csE ⟨kW, c :: r.takeWhile pn, ln, col⟩ (tokA (r.dropWhile pn) ln (col + 1 + (r.takeWhile pn).length))
termination_by s.length
decreasing_by
  all_goals simp only [List.length_cons, List.length_tail]
  all_goals first
    | omega
    | exact Nat.lt_succ_of_le (drop_le _ _)
    | exact Nat.lt_succ_of_le (Nat.le_trans (Nat.sub_le _ _) (drop_le _ _))
/-! ### one step of the scan -/
theorem tok_nil (ln col : Nat) : tokA [] ln col = .ok [] := by rw [tokA]
theorem tok_nl (r : List Nat) (ln col : Nat) : tokA (10 :: r) ln col = tokA r (ln + 1) 1 := by rw [tokA, if_pos rfl]
theorem tok_hash (r : List Nat) (ln col : Nat) : tokA (35 :: r) ln col = tokA (r.dropWhile nn) ln col := by rw [tokA, if_neg (by decide), if_pos rfl]
theorem tok_sp (r : List Nat) (ln col : Nat) : tokA (32 :: r) ln col = tokA r ln (col + 1) := by rw [tokA, if_neg (by decide), if_neg (by decide), if_pos rfl]
theorem tok_par {c : Nat} (h : c = 40 ∨ c = 41) (r : List Nat) (ln col : Nat) : tokA (c :: r) ln col = csE ⟨[c], [c], ln, col⟩ (tokA r ln (col + 1)) := by
  rw [tokA, if_neg (by omega), if_neg (by omega), if_neg (by omega), if_pos h]
theorem tok_qt (r : List Nat) (ln col : Nat) : tokA (34 :: r) ln col = if (r.dropWhile qn).head? = some 34 then csE ⟨kT, r.takeWhile qn, ln, col⟩ (tokA (r.dropWhile qn).tail ln (col + (r.takeWhile qn).length + 2)) else .error (ln, col + 1 + (r.takeWhile qn).length) := by
  rw [tokA, if_neg (by decide), if_neg (by decide), if_neg (by decide), if_neg (by decide), if_pos rfl]
theorem tok_word {c : Nat} (h : pn c = true) (r : List Nat) (ln col : Nat) : tokA (c :: r) ln col = csE ⟨kW, c :: r.takeWhile pn, ln, col⟩ (tokA (r.dropWhile pn) ln (col + 1 + (r.takeWhile pn).length)) := by
  have h1 : ¬ (c = 32 ∨ c = 40 ∨ c = 41 ∨ c = 34 ∨ c = 35 ∨ c = 10) := by
    intro z
    unfold pn at h
    rcases z with rfl | rfl | rfl | rfl | rfl | rfl <;> revert h <;> decide
  rw [tokA, if_neg (by omega), if_neg (by omega), if_neg (by omega), if_neg (by omega), if_neg (by omega)]
/-! ### takeWhile and dropWhile where the stop is known -/
theorem tw_stop {p : Nat → Bool} {x : Nat} (h : p x = false) (t : List Nat) : ∀ r : List Nat, (r ++ x :: t).takeWhile p = r.takeWhile p
  | [] => by rw [List.nil_append, List.takeWhile_cons, h]; rfl
  | c :: r => by
    rw [List.cons_append, List.takeWhile_cons, List.takeWhile_cons, tw_stop h t r]
theorem dw_stop {p : Nat → Bool} {x : Nat} (h : p x = false) (t : List Nat) : ∀ r : List Nat, (r ++ x :: t).dropWhile p = r.dropWhile p ++ x :: t
  | [] => by rw [List.nil_append, List.dropWhile_cons, h]; rfl
  | c :: r => by
    rw [List.cons_append, List.dropWhile_cons, List.dropWhile_cons, dw_stop h t r]
    split <;> rfl
theorem tw_all {p : Nat → Bool} : ∀ {r : List Nat}, (∀ c ∈ r, p c = true) → r.takeWhile p = r
  | [], _ => rfl
  | c :: r, h => by rw [List.takeWhile_cons, h c List.mem_cons_self, if_pos rfl, tw_all fun d hd => h d (List.mem_cons_of_mem _ hd)]
theorem dw_all {p : Nat → Bool} : ∀ {r : List Nat}, (∀ c ∈ r, p c = true) → r.dropWhile p = []
  | [], _ => rfl
  | c :: r, h => by rw [List.dropWhile_cons, h c List.mem_cons_self, if_pos rfl, dw_all fun d hd => h d (List.mem_cons_of_mem _ hd)]
theorem dw_mem {p : Nat → Bool} : ∀ {r : List Nat} {c : Nat}, c ∈ r.dropWhile p → c ∈ r
  | r, c, h => (List.dropWhile_sublist p).subset h
/-- the first sign behind -/
theorem dw_head {p : Nat → Bool} : ∀ {r : List Nat} {c : Nat} {t : List Nat}, r.dropWhile p = c :: t → p c = false
  | [], _, _, h => by cases h
  | d :: r, c, t, h => by
    rw [List.dropWhile_cons] at h
    cases e : p d with
    | true => rw [e, if_pos rfl] at h; exact dw_head h
    | false =>
      rw [e, if_neg (by decide)] at h
      cases h
      exact e
/-! ### a line, then the rest -/
theorem tok_line (t : List Nat) : ∀ (n : Nat) (l : List Nat) (ln col : Nat), l.length ≤ n → (∀ c ∈ l, c ≠ 10) → tokA (l ++ 10 :: t) ln col = sqE (tokA l ln col) (tokA t (ln + 1) 1)
  | n, [], ln, col, _, _ => by
    rw [List.nil_append, tok_nl, tok_nil]
    exact (ap_nil _).symm
  | 0, c :: r, ln, col, hn, _ => absurd hn (by simp)
  | n + 1, c :: r, ln, col, hn, h => by
    have hc : c ≠ 10 := h c List.mem_cons_self
    have hr : ∀ d ∈ r, d ≠ 10 := fun d hd => h d (List.mem_cons_of_mem _ hd)
    have hl : r.length ≤ n := by rw [List.length_cons] at hn; omega
    have go : ∀ (p : Nat → Bool) (ln col : Nat), tokA (r.dropWhile p ++ 10 :: t) ln col = sqE (tokA (r.dropWhile p) ln col) (tokA t (ln + 1) 1) := fun p ln col =>
      tok_line t n _ ln col (Nat.le_trans (drop_le p r) hl) fun d hd => hr d (dw_mem hd)
    rw [List.cons_append]
    by_cases h1 : c = 35
    · subst h1
      rw [tok_hash, tok_hash, dw_stop (by decide)]
      exact go nn ln col
    by_cases h2 : c = 32
    · subst h2
      rw [tok_sp, tok_sp]
      exact tok_line t n r ln (col + 1) hl hr
    by_cases h3 : c = 40 ∨ c = 41
    · rw [tok_par h3, tok_par h3, tok_line t n r ln (col + 1) hl hr, sq_cs]
    by_cases h4 : c = 34
    · subst h4
      rw [tok_qt, tok_qt, dw_stop (by decide), tw_stop (by decide)]
      cases e : r.dropWhile qn with
      | nil =>
        rw [List.nil_append, if_neg (by rw [List.head?_cons]; decide), if_neg (by decide)]
        rfl
      | cons x u =>
        have hx : qn x = false := dw_head e
        have hx10 : x ≠ 10 := hr x (dw_mem (p := qn) (by rw [e]; exact List.mem_cons_self))
        have hx34 : x = 34 := by
          unfold qn at hx
          by_cases z : x = 34
          · exact z
          · simp [z, hx10] at hx
        subst hx34
        have hu : u.length ≤ n := by
          have := drop_le qn r
          rw [e, List.length_cons] at this
          omega
        have hu10 : ∀ d ∈ u, d ≠ 10 := fun d hd => hr d (dw_mem (p := qn) (by rw [e]; exact List.mem_cons_of_mem _ hd))
        rw [List.cons_append, List.head?_cons, List.head?_cons, if_pos rfl, if_pos rfl, List.tail_cons, List.tail_cons, tok_line t n u _ _ hu hu10, sq_cs]
    · have hp : pn c = true := by
        unfold pn
        simp [h1, h2, h4, hc]
        omega
      rw [tok_word hp, tok_word hp, dw_stop (by decide), tw_stop (by decide), go pn, sq_cs]
/-- lines from this number on -/
def tokL : List (List Nat) → Nat → Res
  | [], _ => .ok []
  | l :: ls, ln => sqE (tokA l ln 1) (tokL ls (ln + 1))
end N07

set_option linter.all false
namespace N07
/-! ### texts that the law builds -/
def mv1 (p : Nat × Nat) (c : Nat) : Nat × Nat := if c = 10 then (p.1 + 1, 1) else (p.1, p.2 + 1)
def mv (p : Nat × Nat) (s : List Nat) : Nat × Nat := s.foldl mv1 p
theorem mv_nil (p : Nat × Nat) : mv p [] = p := rfl
theorem mv_cons (p : Nat × Nat) (c : Nat) (s : List Nat) : mv p (c :: s) = mv (mv1 p c) s := rfl
theorem mv_app (p : Nat × Nat) (a b : List Nat) : mv p (a ++ b) = mv (mv p a) b := List.foldl_append
theorem mv_flat : ∀ {s : List Nat} (p : Nat × Nat), (∀ c ∈ s, c ≠ 10) → mv p s = (p.1, p.2 + s.length)
  | [], p, _ => rfl
  | c :: s, p, h => by
    rw [mv_cons, mv_flat _ fun d hd => h d (List.mem_cons_of_mem _ hd), List.length_cons]
    unfold mv1
    rw [if_neg (h c List.mem_cons_self)]
    show (p.1, p.2 + 1 + s.length) = (p.1, p.2 + (s.length + 1))
    rw [Nat.add_assoc, Nat.add_comm 1]
/-- nothing that goes on with a word -/
def np (s : List Nat) : Prop := ∀ c, s.head? = some c → pn c = false
inductive Gap : List Nat → Prop
  | nil : Gap []
  | sp {g : List Nat} : Gap g → Gap (32 :: g)
  | nl {g : List Nat} : Gap g → Gap (10 :: g)
  | cm {g a : List Nat} : (∀ c ∈ a, c ≠ 10) → Gap g → Gap (35 :: (a ++ 10 :: g))
theorem nn_all {a : List Nat} (h : ∀ c ∈ a, c ≠ 10) : ∀ c ∈ a, nn c = true := fun c hc => by
  unfold nn
  rw [decide_eq_false (h c hc)]
  rfl
theorem Gap.skip {g : List Nat} (h : Gap g) (s : List Nat) : ∀ p : Nat × Nat, tokA (g ++ s) p.1 p.2 = tokA s (mv p g).1 (mv p g).2 := by
  induction h with
  | nil => intro p; rfl
  | sp _ ih =>
    intro p
    rw [List.cons_append, tok_sp, mv_cons]
    exact ih (p.1, p.2 + 1)
  | nl _ ih =>
    intro p
    rw [List.cons_append, tok_nl, mv_cons]
    exact ih (p.1 + 1, 1)
  | @cm g a ha _ ih =>
    intro p
    rw [List.cons_append, List.append_assoc, List.cons_append, tok_hash, dw_stop (by decide), dw_all (nn_all ha), List.nil_append, tok_nl, mv_cons, mv_app, mv_cons, mv_flat _ ha]
    exact ih (p.1 + 1, 1)
theorem Gap.head {g : List Nat} (h : Gap g) (e : g ≠ []) (s : List Nat) : np (g ++ s) := by
  intro c hc
  cases h with
  | nil => exact absurd rfl e
  | sp _ => cases hc; decide
  | nl _ => cases hc; decide
  | cm _ _ => cases hc; decide
inductive Tk
  | par (c : Nat)
  | quo (a : List Nat)
  | wrd (w : List Nat)
def Tk.ok : Tk → Prop
  | .par c => c = 40 ∨ c = 41
  | .quo a => ∀ c ∈ a, c ≠ 34 ∧ c ≠ 10
  | .wrd w => w ≠ [] ∧ ∀ c ∈ w, pn c = true
def Tk.text : Tk → List Nat
  | .par c => [c]
  | .quo a => 34 :: (a ++ [34])
  | .wrd w => w
def Tk.plain : Tk → Bool
  | .par _ => false
  | .quo _ => false
  | .wrd _ => true
def Tk.row : Tk → Nat → Nat → Row
  | .par c, ln, col => ⟨[c], [c], ln, col⟩
  | .quo a, ln, col => ⟨kT, a, ln, col⟩
  | .wrd w, ln, col => ⟨kW, w, ln, col⟩
theorem qn_all {a : List Nat} (h : ∀ c ∈ a, c ≠ 34 ∧ c ≠ 10) : ∀ c ∈ a, qn c = true := fun c hc => by
  unfold qn
  rw [decide_eq_false (h c hc).1, decide_eq_false (h c hc).2]
  rfl
theorem pn_ten {c : Nat} (h : pn c = true) : c ≠ 10 := by
  rintro rfl
  revert h
  decide
/-- where all go on and what follows doesn't -/
theorem tw_np : ∀ {w s : List Nat}, (∀ c ∈ w, pn c = true) → np s → (w ++ s).takeWhile pn = w ∧ (w ++ s).dropWhile pn = s
  | [], s, _, hs => by
    rw [List.nil_append]
    cases s with
    | nil => exact ⟨rfl, rfl⟩
    | cons c s =>
      have z := hs c rfl
      rw [List.takeWhile_cons, List.dropWhile_cons, z]
      exact ⟨rfl, rfl⟩
  | c :: w, s, h, hs => by
    obtain ⟨h1, h2⟩ := tw_np (w := w) (fun d hd => h d (List.mem_cons_of_mem _ hd)) hs
    have hc := h c List.mem_cons_self
    rw [List.cons_append, List.takeWhile_cons, List.dropWhile_cons, hc, if_pos rfl, if_pos rfl, h1, h2]
    exact ⟨rfl, rfl⟩
theorem Tk.step {t : Tk} (h : t.ok) {s : List Nat} (hs : t.plain = true → np s) (ln col : Nat) : tokA (t.text ++ s) ln col = csE (t.row ln col) (tokA s ln (col + t.text.length)) := by
  cases t with
  | par c => exact tok_par h s ln col
  | quo a =>
    show tokA (34 :: ((a ++ [34]) ++ s)) ln col = _
    rw [tok_qt, List.append_assoc, List.cons_append, List.nil_append, dw_stop (by decide), tw_stop (by decide), dw_all (qn_all h), tw_all (qn_all h), List.nil_append, List.head?_cons, if_pos rfl, List.tail_cons]
    show csE _ (tokA s ln (col + a.length + 2)) = csE _ (tokA s ln (col + (a ++ [34]).length.succ))
    rw [List.length_append]
    rfl
  | wrd w =>
    obtain ⟨hw, ha⟩ := h
    cases w with
    | nil => exact absurd rfl hw
    | cons c w =>
      obtain ⟨h1, h2⟩ := tw_np (w := w) (fun d hd => ha d (List.mem_cons_of_mem _ hd)) (hs rfl)
      show tokA (c :: (w ++ s)) ln col = _
      rw [tok_word (ha c List.mem_cons_self), h1, h2]
      show csE _ (tokA s ln (col + 1 + w.length)) = csE _ (tokA s ln (col + (w.length + 1)))
      rw [Nat.add_assoc, Nat.add_comm 1]
      rfl
theorem Tk.flat {t : Tk} (h : t.ok) : ∀ c ∈ t.text, c ≠ 10 := by
  cases t with
  | par c =>
    intro d hd
    have z : c = 40 ∨ c = 41 := h
    rw [List.mem_singleton.mp hd]
    omega
  | quo a =>
    intro d hd
    rcases List.mem_cons.mp hd with rfl | z
    · decide
    · rcases List.mem_append.mp z with z | z
      · exact (h d z).2
      · rw [List.mem_singleton.mp z]; decide
  | wrd w => exact fun c hc => pn_ten (h.2 c hc)
theorem Tk.head {t : Tk} (h : t.ok) (hp : t.plain = false) (s : List Nat) : np (t.text ++ s) := by
  intro c hc
  cases t with
  | par d =>
    have e : d = c := Option.some.inj hc
    have z : d = 40 ∨ d = 41 := h
    subst e
    rcases z with rfl | rfl <;> decide
  | quo a => cases hc; decide
  | wrd w => cases hp
/-- the text so far: these rows, and on from this place -/
def Run (T : List Nat) (ds : List Row) (p : Nat × Nat) (pl : Bool) : Prop := ∀ s, (pl = true → np s) → tokA (T ++ s) 1 1 = apE ds (tokA s p.1 p.2)
theorem Run.start {g : List Nat} (h : Gap g) : Run g [] (mv (1, 1) g) false := fun s _ => by
  rw [ap_nil]
  exact h.skip s (1, 1)
theorem Run.next {T g : List Nat} {ds : List Row} {p : Nat × Nat} {pl : Bool} {t : Tk} (h : Run T ds p pl) (hg : Gap g) (ht : t.ok) (hpl : g = [] → pl = true → t.plain = false) :
    Run (T ++ g ++ t.text) (ds ++ [t.row (mv p g).1 (mv p g).2]) (mv (mv p g) t.text) t.plain := fun s hs => by
  rw [List.append_assoc, List.append_assoc, h _ (fun hp => ?_), hg.skip, t.step ht hs, mv_flat _ (Tk.flat ht), ap_cs]
  by_cases e : g = []
  · subst e
    exact Tk.head ht (hpl rfl hp) s
  · exact hg.head e _
/-- nothing more -/
theorem Run.done {T s : List Nat} {ds : List Row} {p : Nat × Nat} {pl : Bool} (h : Run T ds p pl) (hs : np s) (e : ∀ p : Nat × Nat, tokA s p.1 p.2 = .ok []) : tokA (T ++ s) 1 1 = .ok ds := by
  rw [h s fun _ => hs, e]
  show Except.ok (ds ++ []) = _
  rw [List.append_nil]
/-- a text that is not closed -/
theorem Run.open {T a s : List Nat} {ds : List Row} {p : Nat × Nat} {pl : Bool} (h : Run T ds p pl) (ha : ∀ c ∈ a, c ≠ 34 ∧ c ≠ 10) (hs : s = [] ∨ ∃ u, s = 10 :: u) : tokA (T ++ (32 :: 34 :: a ++ s)) 1 1 = .error (mv p (32 :: 34 :: a)) := by
  have e : tokA (34 :: (a ++ s)) p.1 (p.2 + 1) = .error (p.1, p.2 + 1 + 1 + a.length) := by
    rw [tok_qt]
    rcases hs with rfl | ⟨u, rfl⟩
    · rw [List.append_nil, dw_all (qn_all ha), tw_all (qn_all ha), if_neg (by decide)]
    · rw [dw_stop (by decide), tw_stop (by decide), dw_all (qn_all ha), tw_all (qn_all ha), List.nil_append, if_neg (by rw [List.head?_cons]; decide)]
  rw [h _ (fun _ => fun c hc => by cases hc; decide)]
  show apE ds (tokA (32 :: (34 :: (a ++ s))) p.1 p.2) = _
  rw [tok_sp, e, mv_flat _ (fun c hc => ?_)]
  · show Except.error (p.1, p.2 + 1 + 1 + a.length) = Except.error (p.1, p.2 + (a.length + 1 + 1))
    rw [show p.2 + 1 + 1 + a.length = p.2 + (a.length + 1 + 1) from by omega]
  · rcases List.mem_cons.mp hc with rfl | hc
    · decide
    · rcases List.mem_cons.mp hc with rfl | hc
      · decide
      · exact (ha c hc).2
end N07

set_option linter.all false
set_option maxRecDepth 100000
set_option maxHeartbeats 4000000
namespace L2
open PySem PySem.Spec PyProof.Rows
theorem op_mul_str {X : Cx} : OpR X (binaryOp .Mult) (fun x y H Q => ∃ z n, x = .str z ∧ y = .int n ∧ z.length ≤ 1000 ∧ n ≤ 1000 ∧ -1000 ≤ n ∧ Q (.str (Txt.mul z n)) H) := by
  intro pins s σ H x y v u Q I rx ry h
  obtain ⟨z, n, rfl, rfl, h1, h2, h3, q⟩ := h
  obtain ⟨t, rfl⟩ := rx
  obtain ⟨t', rfl⟩ := ry
  exact SB.mul (N01.mulOk_small h1 h2 h3) fun t' k => ⟨.str _, H, I.tok _, ⟨_, rfl⟩, q⟩
end L2
namespace N07
open PySem PySem.Spec PyProof.Rows L2 N01
abbrev top := PySem.OorX.top
def spText (r : Str → V) : Sp := fun vs H Q _ => ∃ t : Str, vs = [.str t] ∧ t.length ≤ 1000 ∧ ∀ H', Same H H' → Q (r t) H'
theorem sizeT {t : Str} (h : t.length ≤ 1000) : t.length ≤ sizeLine := Nat.le_trans h (by decide)
theorem len_list (t : Str) : t.cps.toList.length = t.length := by simp [Str.length]
def AllC (p : Nat → Bool) (t : Str) : Prop := ∀ c ∈ t.cps.toList, p c = true
theorem allc_app {p : Nat → Bool} {a b : Str} (ha : AllC p a) (hb : AllC p b) : AllC p (a ++ b) := by
  intro c hc
  have e : (a ++ b).cps.toList = a.cps.toList ++ b.cps.toList := Array.toList_append
  rw [e] at hc
  exact (List.mem_append.mp hc).elim (ha c) (hb c)
theorem allc_one {p : Nat → Bool} {c : Nat} (h : p c = true) : AllC p ⟨#[c]⟩ := by
  intro d hd
  obtain rfl : d = c := by simpa using hd
  exact h
theorem allc_mul {p : Nat → Bool} {z : Str} (n : Int) (hz : AllC p z) : AllC p (Txt.mul z n) := by
  intro c hc
  unfold Txt.mul at hc
  split at hc
  · exact absurd hc (by decide +revert)
  · split at hc
    · exact hz c hc
    · exact (mem_reps z.cps n.toNat #[] c hc).elim (fun h => nomatch h) (hz c)
theorem allc_asc {p : Nat → Bool} {t : Str} (hp : ∀ c, p c = true → c < 128) (h : AllC p t) : Asc t := fun c hc => hp c (h c hc)
/-- a sign of the program's own texts -/
def sgnC (c : Nat) : Bool := (decide (32 ≤ c) && decide (c ≤ 126)) && !decide (c = 37)
def txtC (c : Nat) : Bool := sgnC c && !decide (c = 34)
def textT (t : Str) : Bool := decide (t.length ≤ 40) && t.cps.toList.all txtC
theorem txtC_lt {c : Nat} (h : txtC c = true) : c < 128 := by
  unfold txtC sgnC at h
  simp only [Bool.and_eq_true, decide_eq_true_eq] at h
  omega
structure TxtL (K : PySem.W.Frag) (mg : Str → Option Value) : Prop where
  len : mg "len" = none
  int : mg "int" = none
  range : mg "range" = none
abbrev sCell : Stmt := top 13
abbrev sDig : Stmt := top 14
abbrev sDraw : Stmt := top 15
/-- some int -/
def spCell (K : PySem.W.Frag) : Sp := fun vs H Q _ => ∃ (l : Addr) (ns : List Int) (j : Nat), vs = [.ref l, .int j] ∧ SqL K H l (ns.map V.int) ∧ ∀ n, Q (.int n) H
/-- a new list of ints, none of the old objects touched -/
def spDig (K : PySem.W.Frag) : Sp := fun vs H Q _ => ∃ (l : Addr) (ns : List Int), vs = [.ref l, .int 0, .int 63] ∧ SqL K H l (ns.map V.int) ∧ ∀ (H' : Hp) (p : Addr) (ms : List Int), Same H H' → H p = none → H' p = some (.lst (ms.map V.int)) → ms.length ≤ 4000 → Q (.ref p) H'
/-- the box: its digits, how many were drawn -/
def BoxAt (H : Hp) (b : Addr) : Prop := ∃ (d : Addr) (ns : List Int) (k : Nat), H b = some (.lst [.ref d, .int k]) ∧ H d = some (.lst (ns.map V.int)) ∧ ns.length ≤ 4000
def Kp (b : Addr) (H H' : Hp) : Prop := ∀ c o, H c = some o → c ≠ b → H' c = some o
theorem Kp.refl {b : Addr} (H : Hp) : Kp b H H := fun _ _ e _ => e
/-- all but the box as it was, the box with the same digits -/
structure Kept (b : Addr) (H H' : Hp) : Prop where
  all : ∀ c o, H c = some o → c ≠ b → H' c = some o
  box : ∀ (d : Addr) (j : Nat), H b = some (.lst [.ref d, .int j]) → ∃ j' : Nat, H' b = some (.lst [.ref d, .int j'])
theorem Kept.refl {b : Addr} (H : Hp) : Kept b H H := ⟨fun _ _ e _ => e, fun _ j e => ⟨j, e⟩⟩
theorem Kept.trans {b : Addr} {H H1 H2 : Hp} (a : Kept b H H1) (c : Kept b H1 H2) : Kept b H H2 := ⟨fun x o e n => c.all x o (a.all x o e n) n, fun d j e => by
  obtain ⟨j1, e1⟩ := a.box d j e
  exact c.box d j1 e1⟩
theorem Kept.same {b : Addr} {H H1 : Hp} (s : Same H H1) : Kept b H H1 := ⟨fun c o e _ => s c o e, fun d j e => ⟨j, s _ _ e⟩⟩
theorem Kept.upd {b p : Addr} {H H1 : Hp} {o : HO} (a : Kept b H H1) (n : H p = none) (nb : b ≠ p) : Kept b H (upd H1 p o) := ⟨fun c u e m => (upd_ne (ne_of_none e n)).trans (a.all c u e m), fun d j e => by
  obtain ⟨j1, e1⟩ := a.box d j e
  exact ⟨j1, (upd_ne nb).trans e1⟩⟩
theorem Kept.new {b p : Addr} {H H1 : Hp} {o : HO} (a : Kept b H H1) (n : H1 p = none) : Kept b H (L2.upd H1 p o) := a.trans (Kept.same fun _ _ e => (upd_ne (ne_of_none e n)).trans e)
theorem BoxAt.kept {b : Addr} {H H' : Hp} (B : BoxAt H b) (k : Kept b H H') : BoxAt H' b := by
  obtain ⟨d, ns, j, h1, h2, h3⟩ := B
  obtain ⟨j', e⟩ := k.box d j h1
  refine ⟨d, ns, j', e, k.all _ _ h2 (fun z => ?_), h3⟩
  rw [z, h1] at h2
  cases ns with
  | nil => cases h2
  | cons x r => cases h2
theorem BoxAt.ne {b p : Addr} {H : Hp} (B : BoxAt H b) (n : H p = none) : b ≠ p := by
  obtain ⟨d, ns, j, h1, _⟩ := B
  exact ne_of_none h1 n
theorem BoxAt.same {b : Addr} {H H' : Hp} (B : BoxAt H b) (s : Same H H') : BoxAt H' b := by
  obtain ⟨d, ns, k, h1, h2, h3⟩ := B
  exact ⟨d, ns, k, s _ _ h1, s _ _ h2, h3⟩
theorem BoxAt.new {b p : Addr} {H : Hp} {o : HO} (B : BoxAt H b) (n : H p = none) : BoxAt (upd H p o) b := B.same fun c u e => (upd_ne (ne_of_none e n)).trans e
def spDraw : Sp := fun vs H Q _ => ∃ (b : Addr) (m : Int), vs = [.ref b, .int m] ∧ 0 < m ∧ BoxAt H b ∧ ∀ (n : Int) (H' : Hp), 0 ≤ n → n < m → BoxAt H' b → Kept b H H' → Q (.int n) H'
section
variable {P : Program} {w : World} {K : PySem.W.Frag} {mg : Str → Option Value} {base : Heap}
theorem scC : FnScope ["script", "k"] ["script", "k"] (defScope sCell) := ⟨rfl, rfl, rfl, by decide +kernel, rfl, by decide +kernel, by decide +kernel⟩
theorem ok_cell {f : Addr} {fd : FuncData} (F : Fun K "_law_cell" "_law_cell" sCell f fd) (T : TxtL K mg) : FnOk P w K mg base CX0 1 f fd ["script", "k"] (spCell K) := by
  refine F.ok scC (fun vs H Q E h => ?_) (fun cdv A outer s H vs Q E hr h => ?_)
  · obtain ⟨l, ns, j, rfl, _⟩ := h
    rfl
  · obtain ⟨l, ns, j, rfl, hs, k⟩ := h
    refine ⟨_, pss_cons (ps_if (pt_cmpR op_lt (pv 1) (pe_callB call_len_seq (by rfl) T.len PySem.boot_len (pa_cons (pv 0) pa_nil)) (nomark _)) (pss_one (ps_ret (pe_ix ix_list (pv 0) (pv 1) (fun _ _ => rfl)))) pss_nil) (pss_one (ps_ret pe_int)), ?_⟩
    refine ⟨_, rfl, _, rfl, l, _, rfl, .inl hs, _, _, rfl, rfl, _, rfl, ite2 (fun c => ?_) (fun c => ?_)⟩
    · have hj : j < ns.length := by
        have := of_decide_eq_true c
        rw [List.length_map] at this
        omega
      refine ⟨_, rfl, _, rfl, l, _, _, .int ns[j], rfl, rfl, hs, atI_nat ?_, k _⟩
      rw [List.getElem?_map, List.getElem?_eq_getElem hj] <;> rfl
    · exact k 0
theorem scD : FnScope ["script", "first", "last", "digits", "k", "cell", "turn", "seed"] ["script", "first", "last"] (defScope sDig) := ⟨rfl, rfl, rfl, by decide +kernel, rfl, by decide +kernel, by decide +kernel⟩
theorem ok_dig {f fC : Addr} {fd fdC : FuncData} (F : Fun K "_law_digits" "_law_digits" sDig f fd) (T : TxtL K mg) (GC : FnOk P w K mg base CX0 1 fC fdC ["script", "k"] (spCell K)) (bC : Binds K fdC ["script", "k"] []) (gC : mg "_law_cell" = some (.ref fC)) (kC : PySem.W.keepIn K (.ref fC) = true) :
    FnOk P w K mg base CX0 2 f fd ["script", "first", "last"] (spDig K) := by
  refine F.ok scD (fun vs H Q E h => ?_) (fun cdv A outer s H vs Q E hr h => ?_)
  · obtain ⟨l, ns, rfl, _⟩ := h
    rfl
  · obtain ⟨l, ns, rfl, hs, k⟩ := h
    refine ⟨_, pss_cons (ps_set (i := 3) scD.nd rfl (Or.inl rfl) (pe_lst pa_nil)) (pss_cons (ps_for PassesOwn.never rfl (pi_range2 (by rfl) T.range (pa_cons (pv 1) (pa_cons (pv 2) pa_nil))) (pg_name (i := 4) scD.nd rfl (Or.inl rfl))
      (pss_cons (ps_set (i := 5) scD.nd rfl (Or.inl rfl) (pe_call GC hr (by rfl) gC kC bC .nil pass0 (pa_cons (pv 0) (pa_cons (pv 4) pa_nil))))
      (pss_cons (ps_if (pt_cmpR op_lt (pv 5) pe_int (nomark _)) (pss_one (ps_set (i := 5) scD.nd rfl (Or.inl rfl) (pe_op op_sub pe_int (pe_op op_mul pe_int (pv 5))))) pss_nil)
      (pss_one (ps_if (pt_cmpR op_ge (pv 5) pe_int (nomark _))
        (pss_one (ps_for PassesOwn.never rfl (pi_range1 (by rfl) T.range (pa_cons pe_int pa_nil)) (pg_name (i := 6) scD.nd rfl (Or.inl rfl))
          (pss_one (ps_if (pt_cmpR op_gt (pv 5) pe_int (nomark _))
            (pss_cons (ps_expr (pe_bm PySem.F.plainAttrs_list PySem.F.slot_list_append PySem.F.type_list_append mt_append (pv 3) (pa_cons (pe_op op_mod (pe_callTy call_int1 (by rfl) T.int (by decide +kernel) (pa_cons (pv 5) pa_nil)) pe_int) pa_nil)))
              (pss_one (ps_set (i := 5) scD.nd rfl (Or.inl rfl) (pe_op op_fdiv (pv 5) pe_int)))) pss_nil))))
        (pss_cons (ps_set (i := 7) scD.nd rfl (Or.inl rfl) (pe_op op_mod (pe_callTy call_int1 (by rfl) T.int (by decide +kernel) (pa_cons (pe_op op_add (pe_op op_add (pe_op op_mul (pv 5) pe_int) (pe_op op_mul (pv 4) pe_int)) pe_int) pa_nil)) pe_int))
          (pss_one (ps_for PassesOwn.never rfl (pi_range1 (by rfl) T.range (pa_cons pe_int pa_nil)) (pg_name (i := 6) scD.nd rfl (Or.inl rfl))
            (pss_cons (ps_set (i := 7) scD.nd rfl (Or.inl rfl) (pe_op op_mod (pe_callTy call_int1 (by rfl) T.int (by decide +kernel) (pa_cons (pe_op op_add (pe_op op_add (pe_op op_mul (pv 7) pe_int) (pe_op op_mul pe_int (pv 6))) pe_int) pa_nil)) pe_int))
              (pss_one (ps_expr (pe_bm PySem.F.plainAttrs_list PySem.F.slot_list_append PySem.F.type_list_append mt_append (pv 3) (pa_cons (pe_op op_mod (pe_callTy call_int1 (by rfl) T.int (by decide +kernel) (pa_cons (pe_op op_fdiv (pv 7) pe_int) pa_nil)) pe_int) pa_nil))))))))))))) (pss_one (ps_ret (pv 3)))), ?_⟩
    refine ⟨Nat.zero_le _, fun p hp => ?_⟩
    have big : (4000 : Nat) < sizeLine := by decide
    have grow : ∀ {H2 : Hp} {o : HO}, Same H H2 → Same H (upd H2 p o) := fun s b u e => (upd_ne (ne_of_none e hp)).trans (s b u e)
    have more : ∀ {H2 : Hp} {m : List Int} (z : Int), (upd H2 p (.lst (m.map V.int ++ [V.int z]))) p = some (.lst ((m ++ [z]).map V.int)) := fun z => by rw [upd_same, List.map_append] <;> rfl
    refine ⟨_, rfl, _, rfl, 0, 63, rfl, ⟨by decide, by decide, by decide, by decide⟩, for_range (lo := 0) (n := 63) (fun i σ H' => ∃ (ms : List Int) (v4 v5 v6 v7 : Option V), σ = [some (.ref l), some (.int 0), some (.int 63), some (.ref p), v4, v5, v6, v7] ∧
      H' p = some (.lst (ms.map V.int)) ∧ ms.length ≤ 60 * i ∧ Same H H') ⟨[], none, none, none, none, rfl, upd_same, Nat.le_refl _, grow (Same.refl H)⟩ ?_ ?_⟩
    · rintro i σ H1 hi ⟨ms, v4, v5, v6, v7, rfl, p1, p2, p3⟩
      refine ⟨_, rfl, _, rfl, l, ns, i, by rw [Int.zero_add] <;> rfl, p3.seq hs, fun c0 => ?_⟩
      refine ⟨_, rfl, _, _, rfl, rfl, _, rfl, ite2 (fun _ => ⟨_, rfl, _, _, rfl, rfl, Or.inl ⟨by decide, by decide⟩, _, _, rfl, rfl, ?_⟩) (fun _ => ?_)⟩
      all_goals
        refine ⟨_, rfl, _, _, rfl, rfl, _, rfl, ite2 (fun _ => ?_) (fun cc => ?_)⟩
        · refine ⟨60, rfl, by decide, by decide, for_range (lo := 0) (n := 60) (fun j σ H' => ∃ (m2 : List Int) (c : Int) (v6 : Option V), σ = [some (.ref l), some (.int 0), some (.int 63), some (.ref p), some (.int (0 + i)), some (.int c), v6, v7] ∧
            H' p = some (.lst (m2.map V.int)) ∧ m2.length ≤ 60 * i + j ∧ Same H H') ⟨ms, _, v6, rfl, p1, p2, p3⟩ ?_ ?_⟩
          · rintro j σ H2 hj ⟨m2, c, v, rfl, q1, q2, q3⟩
            refine ⟨_, rfl, _, _, rfl, rfl, _, rfl, ite2 (fun _ => ?_) (fun _ => ?_)⟩
            · refine ⟨_, rfl, Or.inl ⟨rfl, _, Or.inl (Or.inl q1)⟩, _, rfl, Or.inl ⟨_, rfl, _, _, rfl, rfl, (by show (0 : Int) < 1000; decide), p, _, _, rfl, rfl, q1, ?_, ?_⟩⟩
              · rw [List.length_map]; omega
              · exact ⟨_, rfl, _, _, rfl, rfl, ⟨by decide, by decide⟩, m2 ++ [_], _, _, rfl, more _, by rw [List.length_append, List.length_singleton]; omega, grow q3⟩
            · exact ⟨m2, c, _, rfl, q1, by omega, q3⟩
          · rintro σ H2 ⟨m2, c, v, rfl, q1, q2, q3⟩
            exact ⟨m2, _, _, _, _, rfl, q1, by omega, q3⟩
        · refine ⟨_, rfl, _, _, rfl, rfl, Or.inr ⟨by decide, by decide⟩, _, rfl, _, _, rfl, rfl, Or.inr ⟨by decide, by decide⟩, _, _, rfl, rfl, _, _, rfl, rfl, Or.inl ⟨_, rfl, _, _, rfl, rfl, (by show (0 : Int) < _; decide), ?_⟩⟩
          refine ⟨12, rfl, by decide, by decide, for_range (lo := 0) (n := 12) (fun j σ H' => ∃ (m2 : List Int) (c z : Int) (v6 : Option V), σ = [some (.ref l), some (.int 0), some (.int 63), some (.ref p), some (.int (0 + i)), some (.int c), v6, some (.int z)] ∧
            H' p = some (.lst (m2.map V.int)) ∧ m2.length ≤ 60 * i + j ∧ Same H H') ⟨ms, _, _, v6, rfl, p1, p2, p3⟩ ?_ ?_⟩
          · rintro j σ H2 hj ⟨m2, c, z, v, rfl, q1, q2, q3⟩
            refine ⟨_, rfl, _, _, rfl, rfl, Or.inr ⟨by decide, by decide⟩, _, rfl, _, _, rfl, rfl, Or.inl ⟨by decide, by decide⟩, _, _, rfl, rfl, _, _, rfl, rfl, Or.inl ⟨_, rfl, _, _, rfl, rfl, (by show (0 : Int) < _; decide), ?_⟩⟩
            refine ⟨_, rfl, Or.inl ⟨rfl, _, Or.inl (Or.inl q1)⟩, _, rfl, _, _, rfl, rfl, ⟨by decide, by decide⟩, Or.inl ⟨_, rfl, _, _, rfl, rfl, (by show (0 : Int) < 1000; decide), p, _, _, rfl, rfl, q1, ?_, ?_⟩⟩
            · rw [List.length_map]; omega
            · exact ⟨m2 ++ [_], _, _, _, rfl, more _, by rw [List.length_append, List.length_singleton]; omega, grow q3⟩
          · rintro σ H2 ⟨m2, c, z, v, rfl, q1, q2, q3⟩
            exact ⟨m2, _, _, _, _, rfl, q1, by omega, q3⟩
    · rintro σ H1 ⟨ms, v4, v5, v6, v7, rfl, p1, p2, p3⟩
      exact ⟨_, rfl, k H1 p ms p3 hp p1 (by omega)⟩
theorem scW : FnScope ["box", "many", "at"] ["box", "many"] (defScope sDraw) := ⟨rfl, rfl, rfl, by decide +kernel, rfl, by decide +kernel, by decide +kernel⟩
theorem ok_draw {f : Addr} {fd : FuncData} (F : Fun K "_law_draw" "_law_draw" sDraw f fd) (T : TxtL K mg) : FnOk P w K mg base CX0 1 f fd ["box", "many"] spDraw := by
  refine F.ok scW (fun vs H Q E h => ?_) (fun cdv A outer s H vs Q E hr h => ?_)
  · obtain ⟨b, m, rfl, _⟩ := h
    rfl
  · obtain ⟨b, m, rfl, hm, ⟨d, ns, k, h1, h2, h3⟩, kk⟩ := h
    refine ⟨_, pss_cons (ps_set (i := 2) scW.nd rfl (Or.inl rfl) (pe_ix ix_list (pv 0) pe_int (fun _ _ => rfl)))
      (pss_cons (ps_asg (pe_op op_add (pv 2) pe_int) (pg_sub (pv 0) pe_int set_list))
      (pss_cons (ps_if (pt_cmpR op_lt (pv 2) (pe_callB call_len_seq (by rfl) T.len PySem.boot_len (pa_cons (pe_ix ix_list (pv 0) pe_int (fun _ _ => rfl)) pa_nil)) (nomark _))
        (pss_one (ps_ret (pe_op op_mod (pe_callTy call_int1 (by rfl) T.int (by decide +kernel) (pa_cons (pe_ix ix_list (pe_ix ix_list (pv 0) pe_int (fun _ _ => rfl)) (pv 2) (fun _ _ => rfl)) pa_nil)) (pv 1)))) pss_nil)
      (pss_one (ps_ret (pe_op op_mod (pe_callTy call_int1 (by rfl) T.int (by decide +kernel) (pa_cons (pe_op op_add (pe_op op_mul (pv 2) pe_int) pe_int) pa_nil)) (pv 1)))))), ?_⟩
    refine ⟨_, rfl, b, _, 1, _, rfl, rfl, SqL.of h1, atI_nat (j := 1) rfl, ?_⟩
    refine ⟨_, rfl, _, _, rfl, rfl, ?_⟩
    refine ⟨_, rfl, b, _, 1, 1, rfl, rfl, h1, rfl, ?_⟩
    have ndb : d ≠ b := fun e => by
      rw [e, h1] at h2
      injection h2 with h2
      injection h2 with h2
      cases ns with
      | nil => cases h2
      | cons a r => cases h2
    have hb : (upd H b (.lst ([V.ref d, V.int k].set 1 (V.int ((k : Int) + 1))))) b = some (.lst [V.ref d, V.int ((k : Int) + 1)]) := upd_same
    have hd : (upd H b (.lst ([V.ref d, V.int k].set 1 (V.int ((k : Int) + 1))))) d = some (.lst (ns.map V.int)) := (upd_ne ndb).trans h2
    have fin : ∀ z : Int, Q (.int (z % m)) (upd H b (.lst ([V.ref d, V.int k].set 1 (V.int ((k : Int) + 1))))) := fun z =>
      kk _ _ (Int.emod_nonneg _ (by omega)) (Int.emod_lt_of_pos _ hm) ⟨d, ns, k + 1, hb, hd, h3⟩ ⟨fun c o e n => (upd_ne n).trans e, fun d' j e => by
        rw [h1] at e
        cases e
        exact ⟨k + 1, hb⟩⟩
    refine ⟨_, rfl, _, rfl, b, _, 0, _, rfl, rfl, SqL.of hb, atI_nat (j := 0) rfl, d, _, rfl, .inl (SqL.of hd), _, _, rfl, rfl, _, rfl, ite2 (fun c => ?_) (fun c => ?_)⟩
    · have hk : k < ns.length := by
        have := of_decide_eq_true c
        rw [List.length_map] at this
        omega
      refine ⟨_, rfl, b, _, 0, _, rfl, rfl, SqL.of hb, atI_nat (j := 0) rfl, _, rfl, d, _, _, .int ns[k], rfl, rfl, SqL.of hd, atI_nat ?_, Or.inl ⟨_, rfl, _, rfl, _, _, rfl, rfl, hm, fin _⟩⟩
      rw [List.getElem?_map, List.getElem?_eq_getElem hk] <;> rfl
    · exact ⟨_, rfl, _, _, rfl, rfl, Or.inr ⟨by decide, by decide⟩, _, _, rfl, rfl, Or.inl ⟨_, rfl, _, rfl, _, _, rfl, rfl, hm, fin _⟩⟩
end
/-- a def that is called: its promise and where it stands -/
structure Cal (P : Program) (w : World) (K : PySem.W.Frag) (mg : Str → Option Value) (base : Heap) (k : Nat) (x : Str) (ps : List Str) (sp : Sp) : Prop where
  ex : ∃ f fd, FnOk P w K mg base CX0 k f fd ps sp ∧ Binds K fd ps [] ∧ mg x = some (.ref f) ∧ PySem.W.keepIn K (.ref f) = true
theorem pe_cal {X : Cx} {x : Str} {k j : Nat} {ps : List Str} {sp : Sp} {p pos : Pos} {e : Expr} {es : List Expr} {t : TA} (C : Cal X.prog X.w X.K X.mg X.base k x ps sp) (hr : Room j X.A) (hj : k ≤ j) (hg : Gl X x) (ha : PA X (e :: es) t) (hdb : (x == ("__debug__" : Str)) = false := by decide)
    (he : starEach (e :: es) X.env = (false, eval e X.env) :: starEach es X.env := by rfl) (hpl : (backTo pos (starEach es X.env)).any (·.1) = false := by rfl) :
    PE X (.Call (.Name x p) (e :: es) [] pos) (tCall sp [] E0 t) := by
  obtain ⟨f, fd, F, b, m, kp⟩ := C.ex
  exact pe_call F (hr.mono hj) hg m kp b .nil pass0 ha hdb he hpl
abbrev sSign : Stmt := top 6
structure TxtV (mg : Str → Option Value) : Prop where
  ord : mg "ord" = none
  pc : ∃ t, mg "PERCENT" = some (.int 37 t)
def spSign : Sp := fun vs H Q _ => ∃ c : Nat, vs = [.str ⟨#[c]⟩] ∧ Q (.bl (sgnC c)) H
section
variable {P : Program} {w : World} {K : PySem.W.Frag} {mg : Str → Option Value} {base : Heap}
theorem one_lt (c d : Nat) : decide ((⟨#[c]⟩ : Str).cps.toList < (⟨#[d]⟩ : Str).cps.toList) = decide (c < d) := by
  refine decide_eq_decide.mpr ?_
  show ([c] : List Nat) < [d] ↔ c < d
  rw [List.cons_lt_cons_iff]
  simp
theorem scS : FnScope ["sign"] ["sign"] (defScope sSign) := ⟨rfl, rfl, rfl, by decide +kernel, rfl, by decide +kernel, by decide +kernel⟩
theorem ok_sign {f : Addr} {fd : FuncData} (F : Fun K "is_sign" "is_sign" sSign f fd) (T : TxtV mg) : FnOk P w K mg base CX0 1 f fd ["sign"] spSign := by
  refine F.ok scS (fun vs H Q E h => ?_) (fun cdv A outer s H vs Q E hr h => ?_)
  · obtain ⟨c, rfl, _⟩ := h
    rfl
  · obtain ⟨c, rfl, k⟩ := h
    obtain ⟨t, hp⟩ := T.pc
    refine ⟨_, pss_one (ps_ret (pe_and (pe_chain op_le_str op_le_str pe_str (pv 0) pe_str) (pe_one (pe_cmpR op_ne (pe_callB call_ord (by rfl) T.ord (by decide +kernel) (pa_cons (pv 0) pa_nil)) (pe_glob (v := .int 37) rfl hp ⟨_, rfl⟩) (nomark _))))), ?_⟩
    have e1 : ∀ _ : Nat, (Str.ofString " ") = (⟨#[32]⟩ : Str) ∧ (Str.ofString "~") = (⟨#[126]⟩ : Str) := fun _ => by decide +kernel
    have k' : ∀ b, sgnC c = b → Q (.bl b) H := fun b e => e ▸ k
    refine ⟨_, rfl, _, _, rfl, rfl, _, rfl, ?_⟩
    rw [(e1 0).1, one_lt]
    by_cases h1 : 32 ≤ c
    · rw [decide_eq_false (show ¬ c < 32 by omega)]
      refine iteT ⟨_, _, rfl, rfl, ?_⟩
      rw [(e1 0).2, one_lt]
      refine ⟨_, rfl, ?_⟩
      by_cases h2 : c ≤ 126
      · rw [decide_eq_false (show ¬ 126 < c by omega)]
        refine iteT ⟨_, rfl, _, rfl, rfl, rfl, k' _ ?_⟩
        unfold sgnC
        rw [decide_eq_true h1, decide_eq_true h2]
        show (true && !decide (c = 37)) = !decide (V.int ((#[c].getD 0 0 : Nat) : Int) = V.int 37)
        have e : (V.int ((#[c].getD 0 0 : Nat) : Int) = V.int 37) ↔ c = 37 := by
          constructor
          · intro z
            have := V.int.inj z
            simp at this
            omega
          · rintro rfl
            rfl
        rw [decide_eq_decide.mpr e, Bool.true_and]
      · rw [decide_eq_true (show 126 < c by omega)]
        refine iteF (k' _ ?_)
        unfold sgnC
        rw [decide_eq_false h2, Bool.and_false, Bool.false_and]
    · rw [decide_eq_true (show c < 32 by omega)]
      refine iteF ⟨_, rfl, iteF (k' _ ?_)⟩
      unfold sgnC
      rw [decide_eq_false h1, Bool.false_and, Bool.false_and]
end
end N07

set_option linter.all false
set_option maxRecDepth 100000
set_option maxHeartbeats 4000000
namespace N07
open PySem PySem.Spec PyProof.Rows L2 N01
abbrev sTxt : Stmt := top 16
theorem atI_in {xs : List Nat} {n : Int} (h0 : 0 ≤ n) (h1 : n < xs.length) : ∃ c, atI xs n = some c := by
  obtain ⟨m, rfl⟩ : ∃ m : Nat, n = m := ⟨n.toNat, by omega⟩
  have hm : m < xs.length := by omega
  exact ⟨xs[m], atI_nat (List.getElem?_eq_getElem hm)⟩
theorem one_len (c : Nat) : (⟨#[c]⟩ : Str).length = 1 := rfl
theorem app_len (a b : Str) : (a ++ b).length = a.length + b.length := strLen_append a b
def spTxt : Sp := fun vs H Q _ => ∃ b : Addr, vs = [.ref b] ∧ BoxAt H b ∧ ∀ (t : Str) (H' : Hp), t.length ≤ 40 → AllC txtC t → Kept b H H' → Q (.str t) H'
structure TxtQ (mg : Str → Option Value) : Prop where
  len : mg "len" = none
  range : mg "range" = none
section
variable {P : Program} {w : World} {K : PySem.W.Frag} {mg : Str → Option Value} {base : Heap}
def SIG : Str := " !#$&'()*+,-./0123456789:;<=>?@ABCDEFGHIJKLMNOPQRSTUVWXYZ[\\]^_`abcdefghijklmnopqrstuvwxyz{|}~"
theorem SIG_len : SIG.cps.toList.length = 93 := by decide +kernel
theorem sig_in {n : Int} {c : Nat} (h : atI SIG.cps.toList n = some c) : txtC c = true := by
  obtain ⟨j, _, h2, _⟩ := atI_get h
  have all : ∀ c ∈ SIG.cps.toList, txtC c = true := by decide +kernel
  exact all c (List.mem_of_getElem? h2)
theorem cut_in {p : Nat → Bool} {t : Str} {lo hi : Option Int} (h : AllC p t) : AllC p (cutS t lo hi) := by
  intro c hc
  refine h c ?_
  unfold cutS at hc
  have hc' : c ∈ (t.cps.toList.drop (HT.sIx t.length 0 lo)).take (HT.sIx t.length t.length hi - HT.sIx t.length 0 lo) := by simpa using hc
  exact List.mem_of_mem_drop (List.mem_of_mem_take hc')
theorem scTx : FnScope ["box", "signs", "kind", "size", "at", "text", "turn"] ["box"] (defScope sTxt) := ⟨rfl, rfl, rfl, by decide +kernel, rfl, by decide +kernel, by decide +kernel⟩
theorem ok_txt {f : Addr} {fd : FuncData} (F : Fun K "_law_text" "_law_text" sTxt f fd) (T : TxtQ mg) (cW : Cal P w K mg base 1 "_law_draw" ["box", "many"] spDraw) : FnOk P w K mg base CX0 2 f fd ["box"] spTxt := by
  refine F.ok scTx (fun vs H Q E h => ?_) (fun cdv A outer s H vs Q E hr h => ?_)
  · obtain ⟨b, rfl, _⟩ := h
    rfl
  · obtain ⟨b, rfl, B, k⟩ := h
    have b16 : sizeLine = 16777216 := sizeLine_eq
    have sgz : SIG.length ≤ sizeLine := by decide +kernel
    refine ⟨_, pss_cons (ps_set (i := 1) scTx.nd rfl (Or.inl rfl) pe_str)
      (pss_cons (ps_set (i := 2) scTx.nd rfl (Or.inl rfl) (pe_cal cW hr (by decide) (by rfl) (pa_cons (pv 0) (pa_cons pe_int pa_nil))))
      (pss_cons (ps_if (pt_cmpR op_eq (pv 2) pe_int (nomark _)) (pss_one (ps_ret (pe_slice sl_str pe_str po_none (po_some (pe_cal cW hr (by decide) (by rfl) (pa_cons (pv 0) (pa_cons pe_int pa_nil))))))) pss_nil)
      (pss_cons (ps_set (i := 3) scTx.nd rfl (Or.inl rfl) (pe_op op_add pe_int (pe_cal cW hr (by decide) (by rfl) (pa_cons (pv 0) (pa_cons pe_int pa_nil)))))
      (pss_cons (ps_if (pt_cmpR op_eq (pv 2) pe_int (nomark _))
        (pss_cons (ps_set (i := 4) scTx.nd rfl (Or.inl rfl) (pe_cal cW hr (by decide) (by rfl) (pa_cons (pv 0) (pa_cons (pv 3) pa_nil))))
          (pss_one (ps_ret (pe_op op_add_str (pe_op op_add_str (pe_op op_mul_str pe_str (pv 4)) (pe_ix ix_str (pv 1) (pe_cal cW hr (by decide) (by rfl) (pa_cons (pv 0) (pa_cons (pe_callB call_len_str (by rfl) T.len PySem.boot_len (pa_cons (pv 1) pa_nil)) pa_nil))) (fun _ _ => rfl)))
            (pe_op op_mul_str pe_str (pe_op op_sub (pe_op op_sub (pv 3) (pv 4)) pe_int)))))) pss_nil)
      (pss_cons (ps_set (i := 5) scTx.nd rfl (Or.inl rfl) pe_str)
      (pss_cons (ps_for PassesOwn.never rfl (pi_range1 (by rfl) T.range (pa_cons (pv 3) pa_nil)) (pg_name (i := 6) scTx.nd rfl (Or.inl rfl))
        (pss_one (ps_set (i := 5) scTx.nd rfl (Or.inl rfl) (pe_op op_add_str (pv 5) (pe_ix ix_str (pv 1) (pe_cal cW hr (by decide) (by rfl) (pa_cons (pv 0) (pa_cons (pe_callB call_len_str (by rfl) T.len PySem.boot_len (pa_cons (pv 1) pa_nil)) pa_nil))) (fun _ _ => rfl))))))
      (pss_one (ps_ret (pv 5))))))))), ?_⟩
    have dl : (SIG.length : Int) = 93 := by have := SIG_len; rw [len_list] at this; omega
    have sat : ∀ {y : Int}, 0 ≤ y → y < (SIG.length : Int) → ∃ c, atI SIG.cps.toList y = some c := fun y0 y1 => atI_in y0 (by rw [len_list]; exact y1)
    refine ⟨_, rfl, b, 3, rfl, by decide, B, fun kd H1 n0 n1 B1 k1 => ?_⟩
    refine ⟨_, rfl, rfl, _, rfl, ite2 (fun _ => ?_) (fun _ => ?_)⟩
    · refine ⟨_, rfl, b, 4, rfl, by decide, B1, fun z H2 z0 z1 B2 k2 => ?_⟩
      have al : (Str.ofString "ab ").length = 3 ∧ AllC txtC (Str.ofString "ab ") := ⟨by decide +kernel, by unfold AllC; decide +kernel⟩
      have cl := cutS_length (Str.ofString "ab ") none (some z)
      exact ⟨_, rfl, _, rfl, by rw [al.1]; omega, k _ _ (by omega) (cut_in al.2) (k1.trans k2)⟩
    · refine ⟨_, rfl, b, 40, rfl, by decide, B1, fun z H2 z0 z1 B2 k2 => ?_⟩
      refine ⟨_, _, rfl, rfl, _, rfl, rfl, _, rfl, ite2 (fun _ => ?_) (fun _ => ?_)⟩
      · refine ⟨_, rfl, _, rfl, b, 1 + z, rfl, by omega, B2, fun a H3 a0 a1 B3 k3 => ?_⟩
        have kl : ("x" : Str).length = 1 := by decide +kernel
        have kx : AllC txtC "x" := by unfold AllC; decide +kernel
        have l1 : (Txt.mul "x" a).length = a.toNat := by rw [mul_len, kl, Nat.one_mul]
        have l2 : (Txt.mul "x" (1 + z - a - 1)).length = (1 + z - a - 1).toNat := by rw [mul_len, kl, Nat.one_mul]
        refine ⟨_, rfl, "x", a, rfl, rfl, by rw [kl]; decide, by omega, by omega, _, rfl, _, rfl, _, rfl, _, rfl, sgz, b, _, rfl, (by show (0 : Int) < (SIG.length : Int); rw [dl]; decide), B3, fun y H4 y0 y1 B4 k4 => ?_⟩
        obtain ⟨c, hc⟩ := sat y0 y1
        refine ⟨SIG, _, c, rfl, rfl, sgz, hc, _, _, rfl, rfl, by rw [l1, one_len]; omega, ?_⟩
        refine ⟨_, rfl, _, rfl, _, _, rfl, rfl, _, _, rfl, rfl, "x", 1 + z - a - 1, rfl, rfl, by rw [kl]; decide, by omega, by omega, _, _, rfl, rfl, by rw [app_len, l1, l2, one_len]; omega, ?_⟩
        exact k _ _ (by rw [app_len, app_len, l1, l2, one_len]; omega) (allc_app (allc_app (allc_mul _ kx) (allc_one (sig_in hc))) (allc_mul _ kx)) (((k1.trans k2).trans k3).trans k4)
      · refine ⟨_, rfl, _, rfl, by omega, by omega, for_range (lo := 0) (n := (1 + z).toNat) (fun i σ H' => ∃ (t : Str) (v4 v6 : Option V), σ = [some (.ref b), some (.str SIG), some (.int kd), some (.int (1 + z)), v4, some (.str t), v6] ∧ t.length = i ∧ AllC txtC t ∧ Kept b H H')
          ⟨Str.ofString "", none, none, rfl, by decide +kernel, (by unfold AllC; decide +kernel), k1.trans k2⟩ ?_ ?_⟩
        · rintro i σ H3 hi ⟨t, v4, v6, rfl, ht, ta, k3⟩
          refine ⟨_, rfl, _, rfl, _, rfl, _, rfl, _, rfl, sgz, b, _, rfl, (by show (0 : Int) < (SIG.length : Int); rw [dl]; decide), B.kept k3, fun y H4 y0 y1 B4 k4 => ?_⟩
          obtain ⟨c, hc⟩ := sat y0 y1
          exact ⟨SIG, _, c, rfl, rfl, sgz, hc, _, _, rfl, rfl, by rw [one_len]; omega, t ++ ⟨#[c]⟩, _, _, rfl, by rw [app_len, one_len, ht], allc_app ta (allc_one (sig_in hc)), k3.trans k4⟩
        · rintro σ H3 ⟨t, v4, v6, rfl, ht, ta, k3⟩
          exact ⟨_, rfl, k _ _ (by omega) ta k3⟩
end
end N07

set_option linter.all false
set_option maxRecDepth 100000
set_option maxHeartbeats 4000000
namespace N07
open PySem PySem.Spec PyProof.Rows L2 N01
abbrev sWord : Stmt := top 17
abbrev sTok : Stmt := top 18
abbrev sMove : Stmt := top 20
def wdC (c : Nat) : Bool := pn c && sgnC c
def spWord : Sp := fun vs H Q _ => ∃ b : Addr, vs = [.ref b] ∧ BoxAt H b ∧ ∀ (t : Str) (H' : Hp), 1 ≤ t.length → t.length ≤ 9 → AllC wdC t → Kept b H H' → Q (.str t) H'
/-- a text that is a token's -/
structure TkAt (t : Str) (k : Tk) : Prop where
  ok : k.ok
  eq : t.cps.toList = k.text
  len : t.length ≤ 42
  sgn : AllC sgnC t
def spTok : Sp := fun vs H Q _ => ∃ b : Addr, vs = [.ref b] ∧ BoxAt H b ∧ ∀ (t : Str) (k : Tk) (H' : Hp), TkAt t k → Kept b H H' → Q (.str t) H'
/-- the place moves over the text -/
def spMove : Sp := fun vs H Q _ => ∃ (p : Addr) (t : Str) (q : Nat × Nat), vs = [.ref p, .str t] ∧ t.length ≤ 1000 ∧ H p = some (.lst [.int (q.1 : Nat), .int (q.2 : Nat)]) ∧
  ∀ H', Kp p H H' → H' p = some (.lst [.int ((mv q t.cps.toList).1 : Nat), .int ((mv q t.cps.toList).2 : Nat)]) → Q .non H'
section
variable {P : Program} {w : World} {K : PySem.W.Frag} {mg : Str → Option Value} {base : Heap}
def WIG : Str := "abcxyz0189@:=<>?-_.,;+*/'&!$[]{}|~"
theorem WIG_len : WIG.length = 34 := by decide +kernel
theorem wig_in {n : Int} {c : Nat} (h : atI WIG.cps.toList n = some c) : wdC c = true := by
  obtain ⟨j, _, h2, _⟩ := atI_get h
  have all : ∀ c ∈ WIG.cps.toList, wdC c = true := by decide +kernel
  exact all c (List.mem_of_getElem? h2)
theorem scWd : FnScope ["box", "signs", "word", "turn"] ["box"] (defScope sWord) := ⟨rfl, rfl, rfl, by decide +kernel, rfl, by decide +kernel, by decide +kernel⟩
theorem ok_word {f : Addr} {fd : FuncData} (F : Fun K "_law_word" "_law_word" sWord f fd) (T : TxtQ mg) (cW : Cal P w K mg base 1 "_law_draw" ["box", "many"] spDraw) : FnOk P w K mg base CX0 2 f fd ["box"] spWord := by
  refine F.ok scWd (fun vs H Q E h => ?_) (fun cdv A outer s H vs Q E hr h => ?_)
  · obtain ⟨b, rfl, _⟩ := h
    rfl
  · obtain ⟨b, rfl, B, k⟩ := h
    have b16 : sizeLine = 16777216 := sizeLine_eq
    have sgz : WIG.length ≤ sizeLine := by rw [WIG_len]; decide
    refine ⟨_, pss_cons (ps_set (i := 1) scWd.nd rfl (Or.inl rfl) pe_str) (pss_cons (ps_set (i := 2) scWd.nd rfl (Or.inl rfl) pe_str)
      (pss_cons (ps_for PassesOwn.never rfl (pi_range1 (by rfl) T.range (pa_cons (pe_op op_add pe_int (pe_cal cW hr (by decide) (by rfl) (pa_cons (pv 0) (pa_cons pe_int pa_nil)))) pa_nil)) (pg_name (i := 3) scWd.nd rfl (Or.inl rfl))
        (pss_one (ps_set (i := 2) scWd.nd rfl (Or.inl rfl) (pe_op op_add_str (pv 2) (pe_ix ix_str (pv 1) (pe_cal cW hr (by decide) (by rfl) (pa_cons (pv 0) (pa_cons (pe_callB call_len_str (by rfl) T.len PySem.boot_len (pa_cons (pv 1) pa_nil)) pa_nil))) (fun _ _ => rfl))))))
      (pss_one (ps_ret (pv 2))))), ?_⟩
    refine ⟨_, rfl, b, 9, rfl, by decide, B, fun z H2 z0 z1 B2 k2 => ⟨_, _, rfl, rfl, _, rfl, by omega, by omega, for_range (lo := 0) (n := (1 + z).toNat) (fun i σ H' => ∃ (t : Str) (v3 : Option V), σ = [some (.ref b), some (.str WIG), some (.str t), v3] ∧ t.length = i ∧ AllC wdC t ∧ Kept b H H')
      ⟨Str.ofString "", none, rfl, by decide +kernel, (by unfold AllC; decide +kernel), k2⟩ ?_ ?_⟩⟩
    · rintro i σ H3 hi ⟨t, v3, rfl, ht, ta, k3⟩
      refine ⟨_, rfl, _, rfl, _, rfl, _, rfl, _, rfl, sgz, b, _, rfl, (by show (0 : Int) < (WIG.length : Int); rw [WIG_len]; decide), B.kept k3, fun y H4 y0 y1 B4 k4 => ?_⟩
      obtain ⟨c, hc⟩ := atI_in y0 (show y < (WIG.cps.toList.length : Int) by rw [len_list]; exact y1)
      exact ⟨WIG, _, c, rfl, rfl, sgz, hc, _, _, rfl, rfl, by rw [one_len]; omega, t ++ ⟨#[c]⟩, _, rfl, by rw [app_len, one_len, ht], allc_app ta (allc_one (wig_in hc)), k3.trans k4⟩
    · rintro σ H3 ⟨t, v3, rfl, ht, ta, k3⟩
      exact ⟨_, rfl, k _ _ (by omega) (by omega) ta k3⟩
theorem txt_sgn {c : Nat} (h : txtC c = true) : sgnC c = true ∧ c ≠ 34 ∧ c ≠ 10 := by
  unfold txtC at h
  rw [Bool.and_eq_true] at h
  refine ⟨h.1, fun z => ?_, fun z => ?_⟩
  · rw [z] at h; exact absurd h.2 (by decide)
  · rw [z] at h; exact absurd h.1 (by decide)
theorem app_list (a b : Str) : (a ++ b).cps.toList = a.cps.toList ++ b.cps.toList := by
  obtain ⟨a⟩ := a
  obtain ⟨b⟩ := b
  show (a ++ b).toList = _
  simp
theorem qt_list : (Str.ofString "\"").cps.toList = [34] := by decide +kernel
theorem tk_quo {t : Str} (h : t.length ≤ 40) (a : AllC txtC t) : TkAt ((Str.ofString "\"" ++ t) ++ Str.ofString "\"") (.quo t.cps.toList) where
  ok := fun c hc => (txt_sgn (a c hc)).2
  eq := by
    rw [app_list, app_list, qt_list]
    rfl
  len := by
    have q : (Str.ofString "\"").length = 1 := by decide +kernel
    rw [app_len, app_len, q]
    omega
  sgn := by
    have q : AllC sgnC (Str.ofString "\"") := by unfold AllC; decide +kernel
    exact allc_app (allc_app q fun c hc => (txt_sgn (a c hc)).1) q
theorem tk_wrd {t : Str} (h1 : 1 ≤ t.length) (h : t.length ≤ 9) (a : AllC wdC t) : TkAt t (.wrd t.cps.toList) where
  ok := ⟨fun z => by
    have := len_list t
    rw [z, List.length_nil] at this
    omega, fun c hc => by
    have := a c hc
    unfold wdC at this
    rw [Bool.and_eq_true] at this
    exact this.1⟩
  eq := rfl
  len := by omega
  sgn := fun c hc => by
    have := a c hc
    unfold wdC at this
    rw [Bool.and_eq_true] at this
    exact this.2
theorem tk_par {c : Nat} (h : c = 40 ∨ c = 41) : TkAt ⟨#[c]⟩ (.par c) where
  ok := h
  eq := rfl
  len := by show 1 ≤ 42; decide
  sgn := allc_one (by rcases h with rfl | rfl <;> decide)
theorem scTk : FnScope ["box", "kind"] ["box"] (defScope sTok) := ⟨rfl, rfl, rfl, by decide +kernel, rfl, by decide +kernel, by decide +kernel⟩
theorem ok_tok {f : Addr} {fd : FuncData} (F : Fun K "_law_token" "_law_token" sTok f fd) (cW : Cal P w K mg base 1 "_law_draw" ["box", "many"] spDraw) (cT : Cal P w K mg base 2 "_law_text" ["box"] spTxt) (cD : Cal P w K mg base 2 "_law_word" ["box"] spWord) : FnOk P w K mg base CX0 3 f fd ["box"] spTok := by
  refine F.ok scTk (fun vs H Q E h => ?_) (fun cdv A outer s H vs Q E hr h => ?_)
  · obtain ⟨b, rfl, _⟩ := h
    rfl
  · obtain ⟨b, rfl, B, k⟩ := h
    have b16 : sizeLine = 16777216 := sizeLine_eq
    refine ⟨_, pss_cons (ps_set (i := 1) scTk.nd rfl (Or.inl rfl) (pe_cal cW hr (by decide) (by rfl) (pa_cons (pv 0) (pa_cons pe_int pa_nil))))
      (pss_cons (ps_if (pt_cmpR op_le (pv 1) pe_int (nomark _)) (pss_one (ps_ret (pe_ix ix_list (pe_lst (pa_cons pe_str (pa_cons pe_str pa_nil))) (pv 1) (fun _ _ => rfl)))) pss_nil)
      (pss_cons (ps_if (pt_cmpR op_eq (pv 1) pe_int (nomark _)) (pss_one (ps_ret (pe_op op_add_str (pe_op op_add_str pe_str (pe_cal cT hr (by decide) (by rfl) (pa_cons (pv 0) pa_nil))) pe_str))) pss_nil)
      (pss_one (ps_ret (pe_cal cD hr (by decide) (by rfl) (pa_cons (pv 0) pa_nil)))))), ?_⟩
    refine ⟨_, rfl, b, 5, rfl, by decide, B, fun kd H1 n0 n1 B1 k1 => ?_⟩
    refine ⟨_, rfl, _, _, rfl, rfl, _, rfl, ite2 (fun c => ?_) (fun _ => ?_)⟩
    · have hk := of_decide_eq_true c
      refine ⟨(by show 2 ≤ sizeLine; decide), fun l hl => ⟨_, rfl, l, _, kd, .str ⟨#[40 + kd.toNat]⟩, rfl, rfl, SqL.of upd_same, ?_, k _ (.par (40 + kd.toNat)) _ (tk_par (by omega)) (k1.new hl)⟩⟩
      rcases (show kd = 0 ∨ kd = 1 by omega) with rfl | rfl
      · exact atI_nat (j := 0) (by decide +kernel)
      · exact atI_nat (j := 1) (by decide +kernel)
    · refine ⟨_, rfl, rfl, _, rfl, ite2 (fun _ => ?_) (fun _ => ?_)⟩
      · refine ⟨_, rfl, b, rfl, B1, fun t H2 ht ta k2 => ⟨_, _, rfl, rfl, ?_, _, _, rfl, rfl, ?_, k _ _ _ (tk_quo ht ta) (k1.trans k2)⟩⟩
        · have q : (Str.ofString "\"").length = 1 := by decide +kernel
          rw [q]; omega
        · have q : (Str.ofString "\"").length = 1 := by decide +kernel
          rw [app_len, q]; omega
      · exact ⟨_, rfl, b, rfl, B1, fun t H2 h1 h9 ta k2 => k _ _ _ (tk_wrd h1 h9 ta) (k1.trans k2)⟩
end
end N07

set_option linter.all false
set_option maxRecDepth 100000
set_option maxHeartbeats 4000000
namespace N07
open PySem PySem.Spec PyProof.Rows L2 N01
abbrev sRow : Stmt := top 19
abbrev sPlain : Stmt := top 21
theorem one_eq (c d : Nat) : decide (V.str ⟨#[c]⟩ = V.str ⟨#[d]⟩) = decide (c = d) := by
  refine decide_eq_decide.mpr ⟨fun h => ?_, fun h => by rw [h]⟩
  have := V.str.inj h
  simpa using this
theorem mv_snoc (q : Nat × Nat) (l : List Nat) (i c : Nat) (h : l[i]? = some c) : mv q (l.take (i + 1)) = mv1 (mv q (l.take i)) c := by
  rw [List.take_add_one, h, mv_app]
  rfl
section
variable {P : Program} {w : World} {K : PySem.W.Frag} {mg : Str → Option Value} {base : Heap}
theorem scMv : FnScope ["place", "text", "sign"] ["place", "text"] (defScope sMove) := ⟨rfl, rfl, rfl, by decide +kernel, rfl, by decide +kernel, by decide +kernel⟩
theorem ok_move {f : Addr} {fd : FuncData} (F : Fun K "_law_move" "_law_move" sMove f fd) : FnOk P w K mg base CX0 1 f fd ["place", "text"] spMove := by
  refine F.ok scMv (fun vs H Q E h => ?_) (fun cdv A outer s H vs Q E hr h => ?_)
  · obtain ⟨p, t, q, rfl, _⟩ := h
    rfl
  · obtain ⟨p, t, q, rfl, hz, hp, k⟩ := h
    refine ⟨_, pss_one (ps_for PassesOwn.never rfl (pi_str (pv 1)) (pg_name (i := 2) scMv.nd rfl (Or.inl rfl))
      (pss_one (ps_if (pt_cmpR op_eq (pv 2) pe_str (nomark _))
        (pss_cons (ps_asg (pe_op op_add (pe_ix ix_list (pv 0) pe_int (fun _ _ => rfl)) pe_int) (pg_sub (pv 0) pe_int set_list)) (pss_one (ps_asg pe_int (pg_sub (pv 0) pe_int set_list))))
        (pss_one (ps_asg (pe_op op_add (pe_ix ix_list (pv 0) pe_int (fun _ _ => rfl)) pe_int) (pg_sub (pv 0) pe_int set_list)))))), ?_⟩
    have nl : (Str.ofString "\n") = (⟨#[10]⟩ : Str) := by decide +kernel
    refine ⟨_, rfl, t, rfl, for_it (walk_str (z := t)) (fun i σ H' => ∃ v, σ = [some (.ref p), some (.str t), v] ∧ Kp p H H' ∧ H' p = some (.lst [.int ((mv q (t.cps.toList.take i)).1 : Nat), .int ((mv q (t.cps.toList.take i)).2 : Nat)]))
      ⟨none, rfl, Kp.refl H, hp⟩ (fun _ _ _ _ _ => trivial) ?_ ?_⟩
    · rintro i x σ H1 H1' hi ⟨v, rfl, p1, p2⟩ ⟨rfl, c, hc, rfl⟩
      have hc' : t.cps.toList[i]? = some c := by simpa using hc
      have ms := mv_snoc q _ i c hc'
      refine ⟨_, rfl, rfl, _, rfl, ?_⟩
      rw [nl, one_eq]
      refine ite2 (fun e => ?_) (fun e => ?_)
      · have ec : c = 10 := of_decide_eq_true e
        refine ⟨_, rfl, p, _, 0, _, rfl, rfl, SqL.of p2, atI_nat (j := 0) rfl, _, _, rfl, rfl, _, rfl, p, _, 0, 0, rfl, rfl, p2, rfl, ?_⟩
        refine ⟨_, rfl, p, _, 1, 1, rfl, rfl, upd_same, rfl, _, rfl, fun b o z n => (upd_ne n).trans ((upd_ne n).trans (p1 b o z n)), ?_⟩
        rw [upd_same, ms]
        unfold mv1
        rw [if_pos ec]
        rfl
      · have ec : ¬ c = 10 := of_decide_eq_false (by simpa using e)
        refine ⟨_, rfl, p, _, 1, _, rfl, rfl, SqL.of p2, atI_nat (j := 1) rfl, _, _, rfl, rfl, _, rfl, p, _, 1, 1, rfl, rfl, p2, rfl, _, rfl, fun b o z n => (upd_ne n).trans (p1 b o z n), ?_⟩
        rw [upd_same, ms]
        unfold mv1
        rw [if_neg ec]
        rfl
    · rintro σ H1 ⟨v, rfl, p1, p2⟩
      have e0 : t.cps.toList.take t.cps.size = t.cps.toList := List.take_of_length_le (by simp)
      rw [e0] at p2
      exact k H1 p1 p2
end
end N07

set_option linter.all false
set_option maxRecDepth 100000
set_option maxHeartbeats 4000000
namespace N07
open PySem PySem.Spec PyProof.Rows L2 N01
def S (l : List Nat) : Str := ⟨l.toArray⟩
theorem S_of (t : Str) : S t.cps.toList = t := by
  obtain ⟨a⟩ := t
  show (⟨a.toList.toArray⟩ : Str) = ⟨a⟩
  rw [Array.toArray_toList]
def Row.items (r : Row) : List V := [.str (S r.kind), .str (S r.txt), .int (r.ln : Nat), .int (r.col : Nat)]
def RowAt (H : Hp) (v : V) (r : Row) : Prop := ∃ p, v = .ref p ∧ H p = some (.tup r.items)
def spRow : Sp := fun vs H Q _ => ∃ (t : Str) (k : Tk) (ln col : Nat), vs = [.str t, .int ln, .int col] ∧ TkAt t k ∧ ∀ H' v, Same H H' → RowAt H' v (k.row ln col) → Q v H'
def spPlain : Sp := fun vs H Q _ => ∃ (t : Str) (k : Tk), vs = [.str t] ∧ TkAt t k ∧ ∀ H', Same H H' → Q (.bl k.plain) H'
section
variable {P : Program} {w : World} {K : PySem.W.Frag} {mg : Str → Option Value} {base : Heap}
def isPar (t : Str) : Bool := inV (V.str t) [V.str "(", V.str ")"]
/-- what the law asks of a token's text -/
theorem par_of {t : Str} {k : Tk} (h : TkAt t k) : isPar t = (match k with | .par _ => true | _ => false) := by
  have e := h.eq
  have p1 : (Str.ofString "(").cps.toList = [40] := by decide +kernel
  have p2 : (Str.ofString ")").cps.toList = [41] := by decide +kernel
  have ext : ∀ {a b : Str}, a.cps.toList = b.cps.toList → a = b := fun {a b} z => by rw [← S_of a, ← S_of b, z]
  have ip : isPar t = (decide (t = "(") || decide (t = ")")) := by
    unfold isPar inV
    rw [List.any_cons, List.any_cons, List.any_nil, Bool.or_false]
    have q : ∀ a b : Str, eqV (V.str a) (V.str b) = decide (b = a) := fun a b => by
      show (a == b) = decide (b = a)
      by_cases z : a = b
      · rw [z, decide_eq_true rfl]; exact beq_self_eq_true _
      · rw [decide_eq_false (Ne.symm z)]; exact beq_eq_false_iff_ne.mpr z
    rw [q, q]
  rw [ip]
  cases k with
  | par c =>
    rcases (show c = 40 ∨ c = 41 from h.ok) with rfl | rfl
    · rw [decide_eq_true (show t = "(" from ext (e.trans p1.symm))]; rfl
    · rw [decide_eq_true (show t = ")" from ext (e.trans p2.symm)), Bool.or_true]
  | quo a =>
    rw [decide_eq_false (fun z => by rw [z, p1] at e; exact absurd (List.cons.inj e).1 (by decide)), decide_eq_false (fun z => by rw [z, p2] at e; exact absurd (List.cons.inj e).1 (by decide))]
    rfl
  | wrd l =>
    have e' : t.cps.toList = l := e
    rw [decide_eq_false (fun z => by rw [z, p1] at e'; exact absurd (h.ok.2 40 (by rw [← e']; exact List.mem_cons_self)) (by decide)), decide_eq_false (fun z => by rw [z, p2] at e'; exact absurd (h.ok.2 41 (by rw [← e']; exact List.mem_cons_self)) (by decide))]
    rfl
/-- its first sign -/
theorem first_of {t : Str} {k : Tk} (h : TkAt t k) (hp : isPar t = false) : ∃ c, atI t.cps.toList 0 = some c ∧ decide (V.str ⟨#[c]⟩ = V.str ⟨#[34]⟩) = !k.plain := by
  have e := h.eq
  rw [par_of h] at hp
  cases k with
  | par c => cases hp
  | quo a =>
    refine ⟨34, ?_, by rw [one_eq]; rfl⟩
    rw [e]
    exact atI_nat (j := 0) rfl
  | wrd l =>
    have e' : t.cps.toList = l := e
    obtain ⟨hn, ha⟩ := h.ok
    cases l with
    | nil => exact absurd rfl hn
    | cons c l =>
      refine ⟨c, by rw [e']; exact atI_nat (j := 0) rfl, ?_⟩
      rw [one_eq]
      have z := ha c List.mem_cons_self
      have : c ≠ 34 := by rintro rfl; revert z; decide
      rw [decide_eq_false this]
      rfl
theorem quo_cut {t : Str} {a : List Nat} (h : t.cps.toList = 34 :: (a ++ [34])) : cutS t (some 1) (some (-1)) = S a := by
  have l : t.length = a.length + 2 := by
    rw [← len_list, h, List.length_cons, List.length_append]
    rfl
  unfold cutS S
  have s1 : HT.sIx t.length 0 (some 1) = 1 := by
    rw [show (1 : Int) = ((1 : Nat) : Int) from rfl, HT.sIx_nat, l]
    omega
  have s2 : HT.sIx t.length t.length (some (-1)) = a.length + 1 := by
    show (if (-1 : Int) < 0 then (-1 + (t.length : Int)).toNat else min (-1 : Int).toNat t.length) = a.length + 1
    rw [if_pos (by decide), l]
    omega
  rw [s1, s2, h, List.drop_succ_cons, List.drop_zero, Nat.add_sub_cancel, List.take_left']
  rfl
theorem scRw : FnScope ["token", "line", "column"] ["token", "line", "column"] (defScope sRow) := ⟨rfl, rfl, rfl, by decide +kernel, rfl, by decide +kernel, by decide +kernel⟩
theorem ok_row {f : Addr} {fd : FuncData} (F : Fun K "_law_row" "_law_row" sRow f fd) : FnOk P w K mg base CX0 1 f fd ["token", "line", "column"] spRow := by
  refine F.ok scRw (fun vs H Q E h => ?_) (fun cdv A outer s H vs Q E hr h => ?_)
  · obtain ⟨t, k, ln, col, rfl, _⟩ := h
    rfl
  · obtain ⟨t, k, ln, col, rfl, ht, kk⟩ := h
    have b16 : sizeLine = 16777216 := sizeLine_eq
    refine ⟨_, pss_cons (ps_if (pt_cmpR op_in_seq (pv 0) (pe_tup (pa_cons pe_str (pa_cons pe_str pa_nil))) (by with_unfolding_all rfl)) (pss_one (ps_ret (pe_tup (pa_cons (pv 0) (pa_cons (pv 0) (pa_cons (pv 1) (pa_cons (pv 2) pa_nil))))))) pss_nil)
      (pss_cons (ps_if (pt_cmpR op_eq (pe_ix ix_str (pv 0) pe_int (fun _ _ => rfl)) pe_str (nomark _)) (pss_one (ps_ret (pe_tup (pa_cons pe_str (pa_cons (pe_slice sl_str (pv 0) (po_some pe_int) (po_some (pe_un un_neg pe_int))) (pa_cons (pv 1) (pa_cons (pv 2) pa_nil))))))) pss_nil)
      (pss_one (ps_ret (pe_tup (pa_cons pe_str (pa_cons (pv 0) (pa_cons (pv 1) (pa_cons (pv 2) pa_nil)))))))), ?_⟩
    have hl := ht.len
    have q34 : (Str.ofString "\"") = (⟨#[34]⟩ : Str) := by decide +kernel
    refine ⟨_, rfl, (by show 2 ≤ sizeLine; decide), fun l hl' => ?_⟩
    have s1 : Same H (upd H l (.tup [.str "(", .str ")"])) := fun b o z => (upd_ne (ne_of_none z hl')).trans z
    have fin : ∀ r : Row, k.row ln col = r → ∀ xs : List V, xs = r.items → xs.length ≤ sizeLine ∧ ∀ p, (upd H l (.tup [.str "(", .str ")"])) p = none → Q (.ref p) (upd (upd H l (.tup [.str "(", .str ")"])) p (.tup xs)) := by
      rintro r e xs rfl
      exact ⟨(by show 4 ≤ sizeLine; decide), fun p hp => kk _ _ (s1.trans fun b o z => (upd_ne (ne_of_none z hp)).trans z) ⟨p, rfl, by rw [upd_same, e]⟩⟩
    refine ⟨l, _, rfl, .inr (SqT.of upd_same), rfl, rfl, _, rfl, ?_⟩
    show if isPar t = true then _ else _
    cases e : isPar t with
    | true =>
      have pk := par_of ht
      rw [e] at pk
      cases k with
      | par c =>
        refine iteT ⟨_, rfl, _, rfl, _, rfl, _, rfl, fin _ rfl _ ?_⟩
        have et : t = S [c] := by rw [← S_of t, ht.eq]; rfl
        show _ = [V.str (S [c]), V.str (S [c]), V.int ln, V.int col]
        rw [← et]
      | quo a => cases pk
      | wrd x => cases pk
    | false =>
      obtain ⟨c, hc, hd⟩ := first_of ht e
      refine iteF ⟨_, rfl, t, 0, c, rfl, rfl, by omega, hc, rfl, _, rfl, ?_⟩
      rw [q34, hd]
      cases k with
      | par c => rw [par_of ht] at e; cases e
      | quo a =>
        have cu := quo_cut ht.eq
        refine iteT ⟨_, rfl, _, rfl, _, rfl, _, rfl, _, rfl, by omega, ?_⟩
        rw [cu]
        refine ⟨_, rfl, _, rfl, fin _ rfl _ ?_⟩
        show _ = [V.str (S kT), V.str (S a), V.int ln, V.int col]
        have : S kT = (Str.ofString "text") := by decide +kernel
        rw [this]
      | wrd x =>
        refine iteF ⟨_, rfl, _, rfl, _, rfl, fin _ rfl _ ?_⟩
        have et : t = S x := by rw [← S_of t, ht.eq]; rfl
        show _ = [V.str (S kW), V.str (S x), V.int ln, V.int col]
        rw [← et]
        have : S kW = (Str.ofString "word") := by decide +kernel
        rw [this]
theorem scPl : FnScope ["token"] ["token"] (defScope sPlain) := ⟨rfl, rfl, rfl, by decide +kernel, rfl, by decide +kernel, by decide +kernel⟩
theorem ok_plain {f : Addr} {fd : FuncData} (F : Fun K "_law_plain" "_law_plain" sPlain f fd) : FnOk P w K mg base CX0 1 f fd ["token"] spPlain := by
  refine F.ok scPl (fun vs H Q E h => ?_) (fun cdv A outer s H vs Q E hr h => ?_)
  · obtain ⟨t, k, rfl, _⟩ := h
    rfl
  · obtain ⟨t, k, rfl, ht, kk⟩ := h
    have b16 : sizeLine = 16777216 := sizeLine_eq
    refine ⟨_, pss_one (ps_ret (pe_and (pe_cmpR op_notIn_seq (pv 0) (pe_tup (pa_cons pe_str (pa_cons pe_str pa_nil))) (by with_unfolding_all rfl)) (pe_one (pe_cmpR op_ne (pe_ix ix_str (pv 0) pe_int (fun _ _ => rfl)) pe_str (nomark _))))), ?_⟩
    have hl := ht.len
    have q34 : (Str.ofString "\"") = (⟨#[34]⟩ : Str) := by decide +kernel
    refine ⟨_, rfl, (by show 2 ≤ sizeLine; decide), fun l hl' => ?_⟩
    have s1 : Same H (upd H l (.tup [.str "(", .str ")"])) := fun b o z => (upd_ne (ne_of_none z hl')).trans z
    refine ⟨l, _, rfl, .inr (SqT.of upd_same), rfl, rfl, _, rfl, ?_⟩
    show if (!isPar t) = true then _ else _
    cases e : isPar t with
    | true =>
      have pk := par_of ht
      rw [e] at pk
      cases k with
      | par c => exact iteF (kk _ s1)
      | quo a => cases pk
      | wrd x => cases pk
    | false =>
      obtain ⟨c, hc, hd⟩ := first_of ht e
      refine iteT ⟨_, rfl, t, 0, c, rfl, rfl, by omega, hc, rfl, ?_⟩
      rw [q34, hd, Bool.not_not]
      exact kk _ s1
end
end N07

set_option linter.all false
set_option maxRecDepth 100000
set_option maxHeartbeats 4000000
namespace PySem
namespace OorX
open PySem.W PySem.Calls PyProof.Rows PySem.HandSPX
/-! ### the text of TextFault.__init__ -/
abbrev sTf : Stmt := L2.inClass (top 2) 0
abbrev tfE : Expr := .JoinedStr [.Constant (.str "line ") 0 ⟨7, 27, 7, 32⟩, .FormattedValue (.Name "line" ⟨7, 33, 7, 37⟩) (-1) none ⟨7, 32, 7, 38⟩, .Constant (.str ", column ") 0 ⟨7, 38, 7, 47⟩, .FormattedValue (.Name "column" ⟨7, 48, 7, 54⟩) (-1) none ⟨7, 47, 7, 55⟩,
  .Constant (.str ": ") 0 ⟨7, 55, 7, 57⟩, .FormattedValue (.Name "words" ⟨7, 58, 7, 63⟩) (-1) none ⟨7, 57, 7, 64⟩] ⟨7, 25, 7, 65⟩
def tfA : Arguments := L2.defArgs sTf
def tfB : List Stmt := L2.defBody sTf
def tfS : Scope := L2.defScope sTf
structure TfTxt (prog : Program) (K : Frag) (mg : Str → Option Value) (C fI : Addr) : Prop where
  gC : mg "TextFault" = some (.ref C)
  cls : ∃ nm q N bs bm sn sub ab col dd k0 k1 k2 k3 k5, K.lookup C = some (excClassObj nm q C N bs bm true sn sub ab col dd k0 k1 k2 k3 k5 "ValueError.__new__") ∧ refsVE bm = true
  sa : findIn K (.ref C) "__setattr__" = some (some (.builtin "object.__setattr__"))
  no1 : findIn K (.ref C) "line" = some none
  no2 : findIn K (.ref C) "column" = some none
  no3 : findIn K (.ref C) "words" = some none
  iC : findIn K (.ref C) "__init__" = some (some (.ref fI))
  tC : typeIn K (.ref fI) = some (.type "function")
  kC : keepIn K (.ref C) = true
  exC : subIn K (.ref C) (.type "BaseException") = some true
  tyC : typeIn K (.ref C) = some (.type "type")
  sup : ks_superIn K C C "__init__" = some (some (.builtin "ValueError.__init__"))
  any : nsIn K cStatics "thirdparty.any" = some none
  veC : subIn K (.ref C) (.type "ValueError") = some true
  own : mroIn K C (.ref C) = some true
  gsup : mg "super" = none
  noTop : (prog.main.scope.names.lookup ("super" : Str)).isSome = false
  fn : ∃ (oc : Value) (od : Option Addr) (doc pm : Value) (an : Option Addr) (ct : Value) (osl : Array (Option Value)) (cc cda : Addr) (ccl : Value) (cdd : Option Addr) (vs : Array Value) (ccs : Array (Option Value)) (file : Str) (tf : Tok) (cl : Value) (cld : Option Addr) (csl : Array (Option Value)),
    K.lookup fI = some ⟨oc, od, .func (ksFn "__init__" "TextFault.__init__" tfA tfB tfS .none .none doc pm an (.ref cda) ct cc), osl⟩ ∧ codeIn K (.ref cda) "TextFault.__init__" = true ∧
    K.lookup cda = some ⟨ccl, cdd, .fields vs, ccs⟩ ∧ vs[2]? = some (.str file tf) ∧ ((prog.main.file : Str) == file) = true ∧ K.lookup cc = some ⟨cl, cld, .cell (some (.ref C)), csl⟩

def tfM (v1 v2 v3 : Value) : Str → Option Value := fun y => if y = "words" then some v3 else if y = "column" then some v2 else if y = "line" then some v1 else none
/-- what __init__ leaves of the new exception at x -/
structure TfEnd (h h' : Heap) (x C dx t1 : Addr) (v1 v2 v3 : Value) : Prop where
  keep : ∀ b o, b ≠ x → h.get? b = some o → h'.get? b = some o
  obj : h'.get? x = some { cls := .ref C, dict := some dx, data := .fields #[.ref t1, .none, .none, .none, .bool false, .none] }
  dbig : h.objs.size ≤ dx
  dne : dx ≠ x
  ns : h'.Ns1 dx (tfM v1 v2 v3)
structure TfMade (h h' : Heap) (e C d : Addr) (v1 v2 v3 : Value) : Prop where
  keep : ∀ b o, h.get? b = some o → h'.get? b = some o
  new : h.objs.size ≤ e
  obj : ∃ oe vs, h'.get? e = some oe ∧ oe.cls = .ref C ∧ oe.dict = some d ∧ oe.data = .fields vs ∧ vs[1]? = some .none
  dbig : h.objs.size ≤ d
  dne : d ≠ e
  ns : h'.Ns1 d (tfM v1 v2 v3)

section
variable {prog : Program} {w : World} {A : Around} {E : Value → Shared → Prop} {s : Shared}
theorem tf_num {n : Nat} (h : n ≤ 100000) : (Str.ofString (toString (n : Int))).length ≤ 13 := by
  have z := PyData.shown_int_le (i := (n : Int)) (by rw [Int.natAbs_natCast]; exact Nat.lt_of_le_of_lt h (by decide))
  exact z
theorem tf_js {env : Env} {m : Str → Option Value} {ln col : Nat} {wd : Str} {t1 t2 t3 : Tok} {Q : Value → Shared → Prop} (hn : s.heap.Ns env.locals m) (h1 : m "line" = some (.int ln t1)) (h2 : m "column" = some (.int col t2)) (h3 : m "words" = some (.str wd t3)) (hk : env.scope.kind = .function)
    (l1 : env.kindOf "line" = some .local) (l2 : env.kindOf "column" = some .local) (l3 : env.kindOf "words" = some .local) (z1 : ln ≤ 100000) (z2 : col ≤ 100000) (hz : wd.length ≤ 1000)
    (hq : ∀ out t t', out.length ≤ 2000 → Q (.str out t) { s with toks := t' }) : wpAny (model prog w) A (eval tfE env) Q E s := by
  have n0 : ∀ x : Str, (Str.empty ++ x).length = x.length := fun x => by
    obtain ⟨a⟩ := x
    show ((⟨#[] ++ a⟩ : Str)).length = _
    rw [Array.empty_append]
  have c1 : ("line " : Str).length = 5 := by decide +kernel
  have c2 : (", column " : Str).length = 9 := by decide +kernel
  have c3 : (": " : Str).length = 2 := by decide +kernel
  have i1 := tf_num z1
  have i2 := tf_num z2
  have b16 : sizeLine = 16777216 := sizeLine_eq
  have lg : ∀ {n : Nat}, n ≤ 100000 → ((n : Int)).natAbs.log2 < 1920 := fun {n} h => by
    rcases Nat.eq_zero_or_pos n with z | z
    · subst z; decide
    · rw [Int.natAbs_natCast, Nat.log2_lt (by omega)]
      exact Nat.lt_of_le_of_lt h (by decide +kernel)
  refine wpAny_JoinedStr ?_
  show wpAny (model prog w) A (eval (.Constant (.str "line ") 0 ⟨7, 27, 7, 32⟩) env) _ E _
  refine Calls.Constant_str ⟨_, _, rfl, ?_, ?_⟩
  · rw [n0]; omega
  show wpAny (model prog w) A (eval (.FormattedValue (.Name "line" ⟨7, 33, 7, 37⟩) (-1) none ⟨7, 32, 7, 38⟩) env) _ E _
  refine wpAny_FormattedValue_plain (ldV hn h1 (wpAny_formatField_int (lg z1) ?_) hk l1)
  refine ⟨_, _, rfl, ?_, ?_⟩
  · rw [strLen_append, n0]; omega
  show wpAny (model prog w) A (eval (.Constant (.str ", column ") 0 ⟨7, 38, 7, 47⟩) env) _ E _
  refine Calls.Constant_str ⟨_, _, rfl, ?_, ?_⟩
  · rw [strLen_append, strLen_append, n0]; omega
  show wpAny (model prog w) A (eval (.FormattedValue (.Name "column" ⟨7, 48, 7, 54⟩) (-1) none ⟨7, 47, 7, 55⟩) env) _ E _
  refine wpAny_FormattedValue_plain (ldV hn h2 (wpAny_formatField_int (lg z2) ?_) hk l2)
  refine ⟨_, _, rfl, ?_, ?_⟩
  · rw [strLen_append, strLen_append, strLen_append, n0]; omega
  show wpAny (model prog w) A (eval (.Constant (.str ": ") 0 ⟨7, 55, 7, 57⟩) env) _ E _
  refine Calls.Constant_str ⟨_, _, rfl, ?_, ?_⟩
  · rw [strLen_append, strLen_append, strLen_append, strLen_append, n0]; omega
  show wpAny (model prog w) A (eval (.FormattedValue (.Name "words" ⟨7, 58, 7, 63⟩) (-1) none ⟨7, 57, 7, 64⟩) env) _ E _
  have fin : ∀ (t0 : Tok) (s1 : Shared), (∃ k, s1 = { s with toks := k }) → ∃ y t, Value.str wd t0 = .str y t ∧ (Str.empty ++ "line " ++ Str.ofString (toString (ln : Int)) ++ ", column " ++ Str.ofString (toString (col : Int)) ++ ": " ++ y).length ≤ sizeLine ∧
      Joins (model prog w) A E [] (Str.empty ++ "line " ++ Str.ofString (toString (ln : Int)) ++ ", column " ++ Str.ofString (toString (col : Int)) ++ ": " ++ y) (fun out s₁ => out.length ≤ sizeLine ∧ Q (.str out s₁.toks) { s₁ with toks := s₁.toks + 1 }) s1 := by
    rintro t0 s1 ⟨k, rfl⟩
    have L : (Str.empty ++ "line " ++ Str.ofString (toString (ln : Int)) ++ ", column " ++ Str.ofString (toString (col : Int)) ++ ": " ++ wd).length ≤ 2000 := by
      rw [strLen_append, strLen_append, strLen_append, strLen_append, strLen_append, n0]; omega
    exact ⟨wd, t0, rfl, by omega, by omega, hq _ _ _ L⟩
  exact wpAny_FormattedValue_plain (ldV hn h3 (wpAny_formatField_str (fin _ _ ⟨_, rfl⟩) (fin _ _ ⟨_, rfl⟩) (by omega)) hk l3)
theorem tf_init {R : Result → Shared → Prop} {K : Frag} {mg : Str → Option Value} {C fI : Addr} (T : TfTxt prog K mg C fI) {x t0 : Addr} {ln col : Nat} {wd : Str} {k1 k2 k3 : Tok} (X : K.In s.heap) (hlim : s.heap.NoLimit) (G : s.heap.Ns mainGlobals mg)
    (Bt : ∃ mb, s.heap.Ns builtinsNs mb ∧ ∀ x : Str, x ≠ "__name__" → mb x = bootBuiltins x) (hx : s.heap.get? x = some (excO C t0)) (hno : ∀ o, K.lookup x ≠ some o) (hroom : A.depth < recursionLimit) (z1 : ln ≤ 100000) (z2 : col ≤ 100000) (hz : wd.length ≤ 1000)
    (hq : ∀ h' tk dx t1, TfEnd s.heap h' x C dx t1 (.int ln k1) (.int col k2) (.str wd k3) → R (.ok (.ret .none)) { s with heap := h', toks := tk }) :
    codeAny (model prog w) A (.call (.ref fI) ⟨[.ref x, .int ln k1, .int col k2, .str wd k3], []⟩) R s := by
  obtain ⟨oc, od, doc, pm, an, ct, osl, cc, cda, ccl, cdd, vs, ccs, file, tf, cl, cld, csl, ho, hcd, hcda, hvs, hfile, hcell⟩ := T.fn
  obtain ⟨nmC, q, N, bs, bm, sn, sub, ab, cO, dd, c0, c1, c2, c3, c5, hC, hbm⟩ := T.cls
  obtain ⟨mb, hb1, hb2⟩ := Bt
  have hcl : clsIn K C = some { name := nmC, bases := bs, mro := .ref C :: bm, ns := N, qualname := q, hasDict := true, slotNames := sn, subclasses := sub, abstract := ab, collection := cO, hasDel := false } := by unfold clsIn; rw [hC] <;> rfl
  refine ks_codeAny_call_defAt (fd := ksFn "__init__" "TextFault.__init__" tfA tfB tfS .none .none doc pm an (.ref cda) ct cc) (body := tfB) (binds := [("self", .ref x), ("line", .int ln k1), ("column", .int col k2), ("words", .str wd k3)])
    hroom (X _ _ ho) rfl hlim (codeRec_of X hcd) rfl (BindsTo.of_eq rfl) (show ∀ y ∈ tfS.names, y.2 ≠ .cell from by decide) (locs rfl) (fun h₁ hn₁ k₁ => ?_)
  obtain ⟨hp0, g, d, t, os⟩ := s
  have X₁ : K.In h₁ := X.keeps k₁
  have G₁ : h₁.Ns mainGlobals mg := G.keeps k₁
  have B₁ : h₁.Ns builtinsNs mb := hb1.keeps k₁
  have hx₁ := k₁ _ _ hx
  have hv1 : (fun y : Str => [(("self" : Str), Value.ref x), (("line" : Str), Value.int ln k1), (("column" : Str), Value.int col k2), (("words" : Str), Value.str wd k3)].reverse.lookup y) "self" = some (.ref x) := by rfl
  have hv2 : (fun y : Str => [(("self" : Str), Value.ref x), (("line" : Str), Value.int ln k1), (("column" : Str), Value.int col k2), (("words" : Str), Value.str wd k3)].reverse.lookup y) "line" = some (.int ln k1) := by rfl
  have hv3 : (fun y : Str => [(("self" : Str), Value.ref x), (("line" : Str), Value.int ln k1), (("column" : Str), Value.int col k2), (("words" : Str), Value.str wd k3)].reverse.lookup y) "column" = some (.int col k2) := by rfl
  have hv4 : (fun y : Str => [(("self" : Str), Value.ref x), (("line" : Str), Value.int ln k1), (("column" : Str), Value.int col k2), (("words" : Str), Value.str wd k3)].reverse.lookup y) "words" = some (.str wd k3) := by rfl
  have hxC : x ≠ C := fun e => by
    have z := X _ _ hC
    rw [← e, hx] at z
    cases z
  have oC := X₁ _ _ hC
  refine ks_wpAt_execs_cons (ks_wpAt_Expr_any (ks_wpAt_MethodCall ?_))
  refine ks_wpAt_super_base (env := ksEnv "TextFault.__init__" tfS hp0.objs.size fI (.ref cda) cc) (f := fI) (ar := { arg := "self", annotation := none, pos := ⟨6, 17, 6, 21⟩ }) (file := file) (tf := tf) (vs := vs) rfl rfl rfl rfl (X₁ _ _ ho) rfl rfl rfl (X₁ _ _ hcda) rfl hvs hfile T.noTop ?_
  refine ks_loadName_global (env := ksEnv "TextFault.__init__" tfS hp0.objs.size fI (.ref cda) cc) rfl rfl (loadGlobal_builtin (env := ksEnv "TextFault.__init__" tfS hp0.objs.size fI (.ref cda) cc) G₁ T.gsup B₁ ((hb2 _ (by decide +kernel)).trans (by kernel_rfl)) ⟨rfl, ?_⟩)
  refine wpAny_loadName_free (env := ksEnv "TextFault.__init__" tfS hp0.objs.size fI (.ref cda) cc) (c := cc) rfl rfl rfl ⟨_, X₁ _ _ hcell, rfl⟩ ?_
  refine wpAny_loadName_local (env := ksEnv "TextFault.__init__" tfS hp0.objs.size fI (.ref cda) cc) rfl rfl hn₁ hv1 ?_
  refine ks_wpAny_isType_cls oC rfl ⟨rfl, ?_⟩
  refine ks_wpAny_call_super oC rfl hx₁ rfl (fun c e => by cases e) (looks_mroIn X₁ T.own) (fun h₂ e₂ k₂ => ?_)
  have X₂ : K.In h₂ := X₁.keeps k₂
  have hx₂ := k₂ _ _ hx₁
  have hI : Looks (model prog w) h₂ (isInstance (.ref x) (.type "ValueError")) true := (show W.InstAt h₂ x (excO C t0) C none from ⟨hx₂, rfl, rfl, trivial⟩).type.andThen (looks_subIn X₂ T.veC)
  have hm := T.sup
  unfold ks_superIn at hm
  rw [hcl] at hm
  refine kxs_getMethod kxs_ValueError e₂ (looks_opaque X₂ T.any) (l₀ := .ref C :: bm) (fun A Q E s k q => wpAny_bind ((looks_clsIn X₂ hcl) A _ E s k (wpAny_pure q))) rfl X₂ hm hI hxC rfl ?_
  have k₃ : ∀ b o, h₂.get? b = some o → (h₂.push (kxs_mw "ValueError.__init__" x)).get? b = some o := fun b o e => Heap.get?_push_of_some _ e
  have hu : (h₂.push (kxs_mw "ValueError.__init__" x)).get? h₂.objs.size = some (kxs_mw "ValueError.__init__" x) := Heap.get?_push_at rfl rfl
  have hx₃ := k₃ _ _ hx₂
  have hn₃ : (h₂.push (kxs_mw "ValueError.__init__" x)).Ns hp0.objs.size (fun y : Str => [(("self" : Str), Value.ref x), (("line" : Str), Value.int ln k1), (("column" : Str), Value.int col k2), (("words" : Str), Value.str wd k3)].reverse.lookup y) := (hn₁.keeps k₂).keeps k₃
  have oC₃ := k₃ _ _ (k₂ _ _ oC)
  have he : starEach [tfE] (ksEnv "TextFault.__init__" tfS hp0.objs.size fI (.ref cda) cc) = (false, eval tfE (ksEnv "TextFault.__init__" tfS hp0.objs.size fI (.ref cda) cc)) :: starEach [] (ksEnv "TextFault.__init__" tfS hp0.objs.size fI (.ref cda) cc) := rfl
  show wpAny (model prog w) _ (callWith _ (.ref h₂.objs.size) [] (backTo _ (starEach [tfE] (ksEnv "TextFault.__init__" tfS hp0.objs.size fI (.ref cda) cc))) []) _ _ _
  rw [he]
  refine kxs_callWith (i := "ValueError.__init__") (x := x) (by rfl) (evalArgs_plain (Calls.spliced_cons (tf_js (m := fun y : Str => [(("self" : Str), Value.ref x), (("line" : Str), Value.int ln k1), (("column" : Str), Value.int col k2), (("words" : Str), Value.str wd k3)].reverse.lookup y) hn₃ hv2 hv3 hv4 rfl rfl rfl rfl z1 z2 hz fun out t4 t5 hout => ?_)))
  refine Calls.spliced_nil ⟨hu, ?_⟩
  refine call_wrap oC₃ hx₃ hu (one_size _) fun h₄ t1 k₄ hx₄ => ?_
  have hn₄ : h₄.Ns hp0.objs.size (fun y : Str => [(("self" : Str), Value.ref x), (("line" : Str), Value.int ln k1), (("column" : Str), Value.int col k2), (("words" : Str), Value.str wd k3)].reverse.lookup y) := by
    obtain ⟨o, es, ep, ho', hr'⟩ := hn₃
    exact ⟨o, es, ep, k₄ _ _ (Nat.ne_of_gt (Heap.lt_size hx)) ho', hr'⟩
  have X₄ : K.In h₄ := fun a o e => k₄ a o (fun z => by
    have z1 := X _ _ e
    rw [z, hx] at z1
    exact hno o (by rw [z] at e; exact e)) ((X₂.keeps k₃) a o e)
  have old : ∀ b o, b ≠ x → hp0.get? b = some o → h₄.get? b = some o := fun b o hb e => k₄ b o hb (k₃ _ _ (k₂ _ _ (k₁ _ _ e)))
  have big : hp0.objs.size ≤ h₄.objs.size := Nat.le_of_lt hn₄.lt
  refine wpAt_of_wpAny (wpAny_execs_cons (plainObj_wpAny_Assign_Attribute (ldV (env := ksEnv "TextFault.__init__" tfS hp0.objs.size fI (.ref cda) cc) hn₄ hv2 (ldV (env := ksEnv "TextFault.__init__" tfS hp0.objs.size fI (.ref cda) cc) hn₄ hv1 (set_plain X₄ (ox := excO C t1) (od := none) ⟨hx₄, rfl, rfl, trivial⟩ T.sa ?_)))))
  refine exc_osa X₄ hx₄ hcl (show refsVE (.ref C :: bm) = true from hbm) rfl T.no1 (fun h₅ tk₅ dx k₅ dn dne hx₅ hn₅ => ?_)
  have lt4 : hp0.objs.size < h₄.objs.size := hn₄.lt
  have hx4l : x < h₄.objs.size := Heap.lt_size hx₄
  have X₅ : K.In h₅ := fun a o e => k₅ a o (fun z => by
    rw [z] at e
    exact hno o e) (X₄ a o e)
  have nx : ∀ {a : Addr} {o : Obj}, h₄.get? a = some o → a ≠ dx := fun {a o} q => Nat.ne_of_lt (Nat.lt_of_lt_of_le (Heap.lt_size q) dn)
  have hn5 : h₅.Ns hp0.objs.size (fun y : Str => [(("self" : Str), Value.ref x), (("line" : Str), Value.int ln k1), (("column" : Str), Value.int col k2), (("words" : Str), Value.str wd k3)].reverse.lookup y) := by
    obtain ⟨o, es, ep, ho', hr'⟩ := hn₄
    exact ⟨o, es, ep, k₅ _ _ (Nat.ne_of_gt (Heap.lt_size hx)) ho', hr'⟩
  have w1 : Within (fun y => if y = "line" then some (Value.int ln k1) else none) ["line"] := fun y hy => by
    by_cases e : y = "line"
    · rw [e]; exact List.mem_cons_self
    · exact absurd (if_neg e) hy
  obtain ⟨oD, esD, epD, hoD, hdD, _⟩ := hn₅.count w1
  refine wpAny_execs_cons (plainObj_wpAny_Assign_Attribute (ldV (env := ksEnv "TextFault.__init__" tfS hp0.objs.size fI (.ref cda) cc) hn5 hv3 (ldV (env := ksEnv "TextFault.__init__" tfS hp0.objs.size fI (.ref cda) cc) hn5 hv1 (set_plain X₅ (od := some oD) ⟨hx₅, rfl, rfl, hoD⟩ T.sa ?_))))
  refine PySem.OEX.osa_old X₅ hx₅ hn₅ w1 (by decide) hcl (show refsVE (.ref C :: bm) = true from hbm) rfl T.no2 (fun h₆ tk₆ k₆ hn₆ => ?_)
  have ldx : hp0.objs.size ≠ dx := Nat.ne_of_lt (Nat.lt_of_lt_of_le lt4 dn)
  have X₆ : K.In h₆ := fun a o e => k₆ a o (nx (X₄ a o e)) (X₅ a o e)
  have hn6 : h₆.Ns hp0.objs.size (fun y : Str => [(("self" : Str), Value.ref x), (("line" : Str), Value.int ln k1), (("column" : Str), Value.int col k2), (("words" : Str), Value.str wd k3)].reverse.lookup y) := by
    obtain ⟨o, es, ep, ho', hr'⟩ := hn5
    exact ⟨o, es, ep, k₆ _ _ ldx ho', hr'⟩
  have hx₆ := k₆ _ _ (Ne.symm dne) hx₅
  have w2 : Within (fun y => if y = "column" then some (Value.int col k2) else if y = "line" then some (Value.int ln k1) else none) ["column", "line"] := Within.cons "column" (.int col k2) w1
  obtain ⟨oD6, _, _, hoD6, _, _⟩ := hn₆.count w2
  refine wpAny_execs_cons (plainObj_wpAny_Assign_Attribute (ldV (env := ksEnv "TextFault.__init__" tfS hp0.objs.size fI (.ref cda) cc) hn6 hv4 (ldV (env := ksEnv "TextFault.__init__" tfS hp0.objs.size fI (.ref cda) cc) hn6 hv1 (set_plain X₆ (od := some oD6) ⟨hx₆, rfl, rfl, hoD6⟩ T.sa ?_))))
  refine PySem.OEX.osa_old X₆ hx₆ hn₆ w2 (by decide) hcl (show refsVE (.ref C :: bm) = true from hbm) rfl T.no3 (fun h₇ tk₇ k₇ hn₇ => ?_)
  have od : ∀ {b : Addr} {o : Obj}, hp0.get? b = some o → b ≠ dx := fun {b o} e => Nat.ne_of_lt (Nat.lt_of_lt_of_le (Heap.lt_size e) (Nat.le_trans big dn))
  exact wpAny_execs_nil (hq h₇ tk₇ dx t1 ⟨fun b o hb e => k₇ b o (od e) (k₆ b o (od e) (k₅ b o hb (old b o hb e))), k₇ _ _ (Ne.symm dne) hx₆, Nat.le_trans big dn, dne, hn₇⟩)
/-- TextFault(line, column, words), made -/
theorem tf_made {R : Result → Shared → Prop} {K : Frag} {mg : Str → Option Value} {C fI : Addr} (T : TfTxt prog K mg C fI) {ln col : Nat} {wd : Str} {k1 k2 k3 : Tok} (X : K.In s.heap) (hlim : s.heap.NoLimit) (G : s.heap.Ns mainGlobals mg)
    (Bt : ∃ mb, s.heap.Ns builtinsNs mb ∧ ∀ x : Str, x ≠ "__name__" → mb x = bootBuiltins x) (hroom : A.depth + 1 < recursionLimit) (z1 : ln ≤ 100000) (z2 : col ≤ 100000) (hz : wd.length ≤ 1000)
    (hq : ∀ h' tk e d, TfMade s.heap h' e C d (.int ln k1) (.int col k2) (.str wd k3) → R (.ok (.ret (.ref e))) { s with heap := h', toks := tk }) :
    codeAny (model prog w) A (.call (.ref C) ⟨[.int ln k1, .int col k2, .str wd k3], []⟩) R s := by
  obtain ⟨nmC, q, N, bs, bm, sn, sub, ab, cO, dd, c0, c1, c2, c3, c5, hC, hbm⟩ := T.cls
  obtain ⟨mb, hb1, hb2⟩ := Bt
  obtain ⟨hp, g, d, tk, os⟩ := s
  have k : ∀ b o, hp.get? b = some o → ((hp.push (kdv_tup [.int ln k1, .int col k2, .str wd k3])).push (excO C hp.objs.size)).get? b = some o := fun b o e => Heap.get?_push_of_some _ (Heap.get?_push_of_some _ e)
  have hget : ((hp.push (kdv_tup [.int ln k1, .int col k2, .str wd k3])).push (excO C hp.objs.size)).get? (hp.objs.size + 1) = some (excO C hp.objs.size) := by heap_get
  have hno : ∀ o, K.lookup (hp.objs.size + 1) ≠ some o := fun o e => absurd (Nat.lt_of_succ_lt (Heap.lt_size (show hp.get? (hp.objs.size + 1) = some o from X _ _ e))) (Nat.lt_irrefl _)
  refine call_own F.excBase_ValueError (fun Y => refsVE_contains Y bm hbm) (X _ _ hC) (looks_findIn X T.iC) (fun self => bind_fn X self T.tC) (by show 3 ≤ sizeLine; decide) ?_
  refine tf_init (s := ⟨(hp.push (kdv_tup [.int ln k1, .int col k2, .str wd k3])).push (excO C hp.objs.size), g, d, tk, os⟩) T (X.keeps k) (hlim.keeps k) (G.keeps k) ⟨mb, hb1.keeps k, hb2⟩ hget hno (show A.depth + 1 < recursionLimit from hroom) z1 z2 hz fun h' tk' dx t1 E1 => ?_
  have z : hp.objs.size + 1 + 1 ≤ dx := by
    have zz := E1.dbig
    rw [Heap.size_push, Heap.size_push] at zz
    exact zz
  refine ⟨rfl, hq h' tk' (hp.objs.size + 1) dx ⟨fun b o e => E1.keep b o (Nat.ne_of_lt (Nat.lt_succ_of_lt (Heap.lt_size e))) (k b o e), Nat.le_succ _, ⟨_, _, E1.obj, rfl, rfl, rfl, rfl⟩, (show hp.objs.size ≤ dx by omega), E1.dne, E1.ns⟩⟩
end
end OorX
end PySem

set_option linter.all false
set_option maxRecDepth 100000
set_option maxHeartbeats 4000000
namespace L2
open PySem PySem.Spec PyProof.Rows
def tfF (ln col : Nat) (wd : Str) : List (Str × V) := [(("words" : Str), .str wd), (("column" : Str), .int col), (("line" : Str), .int ln)]
theorem relO_tf {ln col : Nat} {wd : Str} {k1 k2 k3 : Tok} (f : Str) : RelO (List.lookup f (tfF ln col wd)) (PySem.OorX.tfM (.int ln k1) (.int col k2) (.str wd k3) f) := by
  unfold tfF PySem.OorX.tfM
  exact relO_put (f := "words") (y := .str wd) ⟨k3, rfl⟩ (relO_put (f := "column") (y := .int col) ⟨k2, rfl⟩ (relO_put (f := "line") (y := .int ln) (fs := []) (mA := fun _ => none) ⟨k1, rfl⟩ fun g => True.intro)) f
section
variable {X : Cx} {C fI : Addr}
/-- OutOfRange(e) -/
def tMkTf (C : Addr) (ta : TA) : St → Hp → XK → Prop := fun σ H Q => ta σ H fun vs H1 => ∃ (ln col : Nat) (wd : Str), vs = [.int ln, .int col, .str wd] ∧ ln ≤ 100000 ∧ col ≤ 100000 ∧ wd.length ≤ 1000 ∧ ∀ d, H1 d = none → Q (.ref C) (some d) (upd H1 d (.xd (tfF ln col wd)))
theorem pmk_tf {a : Expr} {es : List Expr} {ta : TA} {p pos : Pos} (T : PySem.OorX.TfTxt X.prog X.K X.mg C fI) (hr : Room 1 X.A) (ha : PA X (a :: es) ta) (hg : Gl X "TextFault" := by rfl)
    (hs : starEach (a :: es) X.env = (false, eval a X.env) :: starEach es X.env := by rfl) (hpl : (backTo pos (starEach es X.env)).any (·.1) = false := by rfl) :
    PMk X (.Call (.Name "TextFault" p) (a :: es) [] pos) (tMkTf C ta) := by
  intro pins s σ H Q I h
  refine wpAny_Call_Name_kw (ld_glob I hg T.gC (PySem.W.callWith_K (h₀ := X.base) I.ok.mod.kin T.kC (thn (ha.run pos pins s σ H _ I h) fun us s1 hh => ?_) hs hpl))
  obtain ⟨vs, H1, I1, r1, ln, col, wd, ev, z1, z2, hz, q1⟩ := hh
  subst ev
  refine ⟨I1.kIn, ?_⟩
  obtain ⟨k1, k2, k3, rfl⟩ : ∃ k1 k2 k3, us = [.int ln k1, .int col k2, .str wd k3] := by
    cases r1 with
    | cons ra r1 =>
      cases r1 with
      | cons rb r1 =>
        cases r1 with
        | cons rc r1 =>
          cases r1
          obtain ⟨k1, rfl⟩ := ra
          obtain ⟨k2, rfl⟩ := rb
          obtain ⟨k3, rfl⟩ := rc
          exact ⟨k1, k2, k3, rfl⟩
  · skip
    have hlim := I1.nolimit
    obtain ⟨mb, hb1, hb2⟩ := I1.mod.blt
    have G1 := I1.mod.glob.keeps I1.bk
    have B1 := hb1.keeps I1.bk
    have X1 := I1.kIn
    obtain ⟨hp, g, dr, tk, os⟩ := s1
    refine wpAny_call (PySem.OorX.tf_made (s := ⟨hp, g, dr, tk, os⟩) T X1 hlim G1 ⟨mb, B1, hb2⟩ (by have := hr.dp; omega) z1 z2 hz fun h' tk' e d M => ?_)
    show MkP X pins σ Q (.ref e) ⟨h', g, dr, tk', os⟩
    obtain ⟨oe, fv, hoe, hc, hd, hdat, h1⟩ := M.obj
    obtain ⟨G', g1, g2⟩ := restrict h' fun b => decide (b ≠ e)
    have gk : ∀ b, b ≠ e → G'.get? b = h'.get? b := fun b hb => g1 b (decide_eq_true hb)
    have ge : G'.get? e = none := g2 e (by simp)
    have old : ∀ b o, hp.get? b = some o → G'.get? b = some o := fun b o q => (gk b (Nat.ne_of_lt (Nat.lt_of_lt_of_le (Heap.lt_size q) M.new))).trans (M.keep b o q)
    have ob : ObjOk X.prog X.w (upd H1 d (.xd (tfF ln col wd))) G' d (.xd (tfF ln col wd)) := ⟨_, M.ns.at (fun o q => (gk d M.dne).trans q), fun f => relO_tf f⟩
    have J : Inv X pins σ (upd H1 d (.xd (tfF ln col wd))) ⟨G', g, dr, tk', os⟩ := I1.laid (t' := tk') old M.dbig ob
    refine ⟨e, oe, fv, ⟨G', g, dr, tk', os⟩, _, .ref C, some d, rfl, J, fun b o q => ?_, ge, hoe, ⟨hc, hd⟩, hdat, h1, ?_, rfl, I1.bare, raises_own T.exC T.tyC, q1 d (I1.hok.fresh M.dbig)⟩
    · by_cases hb : b = e
      · have q' : G'.get? b = some o := q
        rw [hb, ge] at q'
        cases q'
      · exact (gk b hb).symm.trans q
    · rw [upd_ne (Ne.symm M.dne)]
      exact I1.hok.fresh M.new
/-- raise OutOfRange(e) -/
def tRaiseTf (C : Addr) (W : WX) (ta : TA) : TS := fun _ σ H => tMkTf C ta σ H fun cls d H' => W cls d σ H'
theorem ps_raiseTf {a : Expr} {es : List Expr} {ta : TA} {W : WX} {p pos pos2 : Pos} (hc : X.calm = true) (T : PySem.OorX.TfTxt X.prog X.K X.mg C fI) (hr : Room 1 X.A) (tk : Takes X W) (ha : PA X (a :: es) ta) (hg : Gl X "TextFault" := by rfl)
    (hs : starEach (a :: es) X.env = (false, eval a X.env) :: starEach es X.env := by rfl) (hpl : (backTo pos (starEach es X.env)).any (·.1) = false := by rfl) :
    PS X (.Raise (some (.Call (.Name "TextFault" p) (a :: es) [] pos)) none pos2) (tRaiseTf C W ta) := ps_raise hc tk (pmk_tf T hr ha hg hs hpl)

end
end L2

set_option linter.all false
namespace N07
open PySem PySem.Spec PyProof.Rows L2
/-! ### the lines of a text -/
def lns : List Nat → List (List Nat)
  | [] => [[]]
  | c :: r => if c = 10 then [] :: lns r else match lns r with
    | [] => [[c]]
    | l :: ls => (c :: l) :: ls
theorem lns_ne : ∀ s : List Nat, ∃ l ls, lns s = l :: ls
  | [] => ⟨[], [], rfl⟩
  | c :: r => by
    rw [lns]
    by_cases h : c = 10
    · rw [if_pos h]; exact ⟨_, _, rfl⟩
    · rw [if_neg h]
      obtain ⟨l, ls, e⟩ := lns_ne r
      rw [e]
      exact ⟨_, _, rfl⟩
theorem lns_flat : ∀ (s l : List Nat), l ∈ lns s → (10 : Nat) ∉ l
  | [], l, h => by
    rw [lns, List.mem_singleton] at h
    rw [h]; exact List.not_mem_nil
  | c :: r, l, h => by
    rw [lns] at h
    by_cases hc : c = 10
    · rw [if_pos hc] at h
      rcases List.mem_cons.mp h with rfl | h
      · exact List.not_mem_nil
      · exact lns_flat r l h
    · rw [if_neg hc] at h
      obtain ⟨l0, ls, e⟩ := lns_ne r
      rw [e] at h
      rcases List.mem_cons.mp h with rfl | h
      · intro z
        rcases List.mem_cons.mp z with z | z
        · exact hc z.symm
        · exact lns_flat r l0 (by rw [e]; exact List.mem_cons_self) z
      · exact lns_flat r l (by rw [e]; exact List.mem_cons_of_mem _ h)
theorem lns_join : ∀ s : List Nat, TL.joinL [10] (lns s) = s
  | [] => rfl
  | c :: r => by
    have ih := lns_join r
    obtain ⟨l, ls, e⟩ := lns_ne r
    rw [e] at ih
    rw [lns]
    by_cases hc : c = 10
    · rw [if_pos hc, e]
      show [] ++ ([10] ++ TL.joinL [10] (l :: ls)) = c :: r
      rw [ih, hc]
      rfl
    · rw [if_neg hc, e]
      cases ls with
      | nil =>
        have : l = r := ih
        rw [← this]
        rfl
      | cons q t =>
        have : l ++ ([10] ++ TL.joinL [10] (q :: t)) = r := ih
        show (c :: l) ++ ([10] ++ TL.joinL [10] (q :: t)) = c :: r
        rw [← this]
        rfl
theorem spl_lns (s : List Nat) : TL.spl [10] 0 [] s = lns s := by
  have z := TL.spl_join (s := 10) (S := []) (parts := lns s) (by obtain ⟨l, ls, e⟩ := lns_ne s; rw [e]; simp) (fun p hp => lns_flat s p hp)
  rw [lns_join] at z
  exact z
theorem lns_cases (s : List Nat) : (lns s = [s] ∧ ∀ c ∈ s, c ≠ 10) ∨ ∃ l t, s = l ++ 10 :: t ∧ lns s = l :: lns t ∧ ∀ c ∈ l, c ≠ 10 := by
  induction s with
  | nil => exact .inl ⟨rfl, fun _ h => absurd h List.not_mem_nil⟩
  | cons c r ih =>
    by_cases hc : c = 10
    · subst hc
      exact .inr ⟨[], r, rfl, by rw [lns, if_pos rfl], fun _ h => absurd h List.not_mem_nil⟩
    · rcases ih with ⟨e, f⟩ | ⟨l, t, e1, e2, f⟩
      · refine .inl ⟨by rw [lns, if_neg hc, e], fun d hd => ?_⟩
        rcases List.mem_cons.mp hd with rfl | z
        · exact hc
        · exact f d z
      · refine .inr ⟨c :: l, t, by rw [e1]; rfl, by rw [lns, if_neg hc, e2], fun d hd => ?_⟩
        rcases List.mem_cons.mp hd with rfl | z
        · exact hc
        · exact f d z
theorem sq_ok (x : Res) : sqE x (.ok []) = x := by
  cases x with
  | error e => rfl
  | ok l => show Except.ok (l ++ []) = _; rw [List.append_nil]
/-- the program's way, line by line, is the scan -/
theorem tok_lines : ∀ (n : Nat) (s : List Nat) (ln : Nat), s.length ≤ n → tokL (lns s) ln = tokA s ln 1
  | n, s, ln, hn => by
    rcases lns_cases s with ⟨e, _⟩ | ⟨l, t, e1, e2, f⟩
    · rw [e, tokL, tokL, sq_ok]
    · have hl : t.length < s.length := by rw [e1, List.length_append, List.length_cons]; omega
      match n, hn with
      | 0, hn => omega
      | n + 1, hn =>
        rw [e2, tokL, tok_lines n t (ln + 1) (by omega), e1, tok_line t l.length l ln 1 (Nat.le_refl _) f]
end N07

set_option linter.all false
set_option maxRecDepth 100000
set_option maxHeartbeats 4000000
namespace N07
open PySem PySem.Spec PyProof.Rows L2 N01
theorem S_list (l : List Nat) : (S l).cps.toList = l := by unfold S; simp
theorem S_len (l : List Nat) : (S l).length = l.length := by rw [← len_list, S_list]
/-! ### where the text ends -/
theorem first_q : ∀ {r : List Nat} {j : Nat}, r[j]? = some 34 → (∀ v, v < j → r[v]? ≠ some 34) → (∀ c ∈ r, c ≠ 10) → (r.takeWhile qn).length = j ∧ (r.dropWhile qn).head? = some 34
  | [], j, h, _, _ => by simp at h
  | c :: r, 0, h, _, _ => by
    have hc : c = 34 := by simpa using h
    subst hc
    exact ⟨rfl, rfl⟩
  | c :: r, j + 1, h, hn, h10 => by
    have hc : c ≠ 34 := fun z => hn 0 (Nat.zero_lt_succ j) (by rw [z]; rfl)
    have hq : qn c = true := by
      unfold qn
      rw [decide_eq_false hc, decide_eq_false (h10 c List.mem_cons_self)]
      rfl
    obtain ⟨h1, h2⟩ := first_q (r := r) (j := j) (by simpa using h) (fun v hv z => hn (v + 1) (by omega) (by simpa using z)) (fun d hd => h10 d (List.mem_cons_of_mem _ hd))
    rw [List.takeWhile_cons, List.dropWhile_cons, hq, if_pos rfl, if_pos rfl, List.length_cons, h1]
    exact ⟨rfl, h2⟩
theorem find_q {l : List Nat} {k : Nat} (h10 : ∀ c ∈ l, c ≠ 10) :
    (Txt.find3 (S l) ⟨#[34]⟩ (k : Int) = -1 ∧ ((l.drop k).dropWhile qn).head? ≠ some 34) ∨
    (Txt.find3 (S l) ⟨#[34]⟩ (k : Int) = ((k + ((l.drop k).takeWhile qn).length : Nat) : Int) ∧ ((l.drop k).dropWhile qn).head? = some 34) := by
  have fk : fromIndex (S l).length (k : Int) = k := by
    unfold fromIndex
    rw [if_neg (by omega)]
    omega
  have d10 : ∀ c ∈ l.drop k, c ≠ 10 := fun c hc => h10 c (List.mem_of_mem_drop hc)
  rcases StrLaws.find3_spec (S l) 34 k with ⟨e, hn⟩ | ⟨m, e, h1, h2, h3, hn⟩
  · rw [fk] at hn
    refine .inl ⟨e, fun z => ?_⟩
    obtain ⟨c, u, eu⟩ : ∃ c u, (l.drop k).dropWhile qn = c :: u := by
      cases x : (l.drop k).dropWhile qn with
      | nil => rw [x] at z; cases z
      | cons c u => exact ⟨c, u, rfl⟩
    rw [eu] at z
    cases z
    have hm : (34 : Nat) ∈ l.drop k := dw_mem (p := qn) (by rw [eu]; exact List.mem_cons_self)
    obtain ⟨i, hi⟩ := List.getElem?_of_mem hm
    rw [List.getElem?_drop] at hi
    have hlt : k + i < (S l).length := by
      rw [S_len]
      exact (List.getElem?_eq_some_iff.mp hi).1
    exact hn (k + i) (by omega) hlt (StrLaws.getD_of_getElem? (by rw [S_list]; exact hi))
  · rw [fk] at hn h1
    have hm := StrLaws.getElem?_of_getD h2 h3
    rw [S_list] at hm
    have z := first_q (r := l.drop k) (j := m - k) (by rw [List.getElem?_drop, show k + (m - k) = m by omega]; exact hm) (fun v hv y => by
      rw [List.getElem?_drop] at y
      exact hn (k + v) (by omega) (by omega) (StrLaws.getD_of_getElem? (by rw [S_list]; exact y))) d10
    refine .inr ⟨?_, z.2⟩
    rw [e, z.1, show k + (m - k) = m by omega]
theorem tw_at : ∀ (D : List Nat) (j : Nat), j ≤ (D.takeWhile pn).length → (∀ d, D[j]? = some d → pn d = true → j + 1 ≤ (D.takeWhile pn).length) ∧ (∀ d, D[j]? = some d → pn d = false → j = (D.takeWhile pn).length) ∧ (D[j]? = none → j = (D.takeWhile pn).length)
  | [], j, h => ⟨fun d e => by simp at e, fun d e => by simp at e, fun _ => by simpa using h⟩
  | c :: r, j, h => by
    rw [List.takeWhile_cons] at h ⊢
    cases e : pn c with
    | true =>
      rw [e, if_pos rfl, List.length_cons] at h
      rw [if_pos rfl, List.length_cons]
      cases j with
      | zero => exact ⟨fun d _ _ => by omega, fun d g f => (by rw [show d = c by simpa using g.symm, e] at f; cases f), fun g => by simp at g⟩
      | succ j =>
        obtain ⟨a, b, c'⟩ := tw_at r j (by omega)
        exact ⟨fun d g f => Nat.succ_le_succ (a d (by simpa using g) f), fun d g f => congrArg Nat.succ (b d (by simpa using g) f), fun g => congrArg Nat.succ (c' (by simpa using g))⟩
    | false =>
      rw [e, if_neg (by decide), List.length_nil] at h
      rw [if_neg (by decide), List.length_nil]
      have : j = 0 := by omega
      subst this
      exact ⟨fun d g f => (by rw [show d = c by simpa using g.symm, e] at f; cases f), fun _ _ _ => rfl, fun _ => rfl⟩
theorem pn_mem {d : Nat} (h : d ≠ 10) : decide (d ∈ ([32, 40, 41, 34, 35] : List Nat)) = !pn d := by
  unfold pn
  by_cases h1 : d = 32 <;> by_cases h2 : d = 40 <;> by_cases h3 : d = 41 <;> by_cases h4 : d = 34 <;> by_cases h5 : d = 35 <;> simp [h1, h2, h3, h4, h5, h]
abbrev sEnd : Stmt := top 11
/-- the index behind the token, or the fault -/
def spEnd (C : Addr) : Sp := fun vs H Q E => ∃ (l : List Nat) (k n c : Nat) (r : List Nat), vs = [.str (S l), .int k, .int n] ∧ l.length ≤ 12000 ∧ n ≤ 20000 ∧ (∀ c ∈ l, c ≠ 10) ∧ l.drop k = c :: r ∧ c ≠ 32 ∧ c ≠ 35 ∧
  (c = 40 ∨ c = 41 → Q (.int ((k + 1 : Nat) : Int)) H) ∧
  (c = 34 → (r.dropWhile qn).head? = some 34 → Q (.int ((k + 1 + (r.takeWhile qn).length + 1 : Nat) : Int)) H) ∧
  (c = 34 → (r.dropWhile qn).head? ≠ some 34 → ∀ H' d, Same H H' → H' d = some (.xd (tfF n (l.length + 1) "text is not closed")) → E (.ref C) (some d) H') ∧
  (pn c = true → Q (.int ((k + 1 + (r.takeWhile pn).length : Nat) : Int)) H)
section
variable {P : Program} {w : World} {K : PySem.W.Frag} {mg : Str → Option Value} {base : Heap} {C fI : Addr}
theorem scEn : FnScope ["line", "at", "number", "quote", "after"] ["line", "at", "number"] (defScope sEnd) := ⟨rfl, rfl, rfl, by decide +kernel, rfl, by decide +kernel, by decide +kernel⟩
theorem ok_end {f : Addr} {fd : FuncData} (F : FunD K "token_end" "token_end" (defArgs sEnd) (defBody sEnd) (defScope sEnd) [] [] f fd) (O : PySem.OorX.TfTxt P K mg C fI) (len : mg "len" = none) : FnOk P w K mg base (L2.CX P w) 2 f fd ["line", "at", "number"] (spEnd C) := by
  refine F.ok (CX := L2.CX P w) scEn (fun vs H Q E h => ?_) (fun cdv A outer s H vs Q E hr h => ?_)
  · obtain ⟨l, k, n, c, r, rfl, _⟩ := h
    rfl
  · obtain ⟨l, k, n, c, r, rfl, hl, hn, h10, hd, n32, n35, kp, kq, kf, kw⟩ := h
    have b16 : sizeLine = 16777216 := sizeLine_eq
    refine ⟨_, pss_cons (ps_if (pt_cmpR op_in_sign (pe_ix ix_str (pv 0) (pv 1) (fun _ _ => rfl)) pe_str (by with_unfolding_all rfl)) (pss_one (ps_ret (pe_op op_add (pv 1) pe_int))) pss_nil)
      (pss_cons (ps_if (pt_cmpR op_eq (pe_ix ix_str (pv 0) (pv 1) (fun _ _ => rfl)) pe_str (nomark _))
        (pss_cons (ps_set (i := 3) scEn.nd rfl (Or.inl rfl) (pe_bm PySem.F.plainAttrs_str PySem.F.slot_str_find PySem.F.type_str_find mt_find3 (pv 0) (pa_cons pe_str (pa_cons (pe_op op_add (pv 1) pe_int) pa_nil))))
        (pss_cons (ps_if (pt_cmpR op_lt (pv 3) pe_int (nomark _)) (pss_one (ps_raiseTf rfl O (hr.mono (by decide)) (W := fun cls d _ H => E cls d H) (takes_of rfl rfl rfl rfl) (pa_cons (pv 2) (pa_cons (pe_op op_add (pe_callB call_len_str (by rfl) len PySem.boot_len (pa_cons (pv 0) pa_nil)) pe_int) (pa_cons pe_str pa_nil))))) pss_nil)
        (pss_one (ps_ret (pe_op op_add (pv 3) pe_int))))) pss_nil)
      (pss_cons (ps_set (i := 4) scEn.nd rfl (Or.inl rfl) (pv 1))
      (pss_cons (ps_while (passes_of rfl) (PW.pt (pw_and (pt_cmpR op_lt (pv 4) (pe_callB call_len_str (by rfl) len PySem.boot_len (pa_cons (pv 0) pa_nil)) (nomark _)) (pw_and1 (pt_cmpR op_notIn_sign (pe_ix ix_str (pv 0) (pv 4) (fun _ _ => rfl)) pe_str (by with_unfolding_all rfl)))))
        (pss_one (ps_aug (i := 4) scEn.nd rfl (Or.inl rfl) pe_int ip_add)))
      (pss_one (ps_ret (pv 4)))))), ?_⟩
    have h0 : l[k]? = some c := by
      have z : (l.drop k)[0]? = some c := by rw [hd]; rfl
      rw [List.getElem?_drop] at z
      exact z
    have hk : k < l.length := (List.getElem?_eq_some_iff.mp h0).1
    have hd1 : l.drop (k + 1) = r := by
      rw [← List.drop_drop, hd]
      rfl
    have sz : (S l).length ≤ sizeLine := by rw [S_len]; omega
    have hat : atI (S l).cps.toList (k : Int) = some c := by rw [S_list]; exact atI_nat h0
    have pl : (Str.ofString "()").cps.toList = [40, 41] := by decide +kernel
    have bl : (Str.ofString " ()\"#").cps.toList = [32, 40, 41, 34, 35] := by decide +kernel
    have q34 : (Str.ofString "\"") = (⟨#[34]⟩ : Str) := by decide +kernel
    have c10 : c ≠ 10 := h10 c (List.mem_of_getElem? h0)
    refine ⟨_, rfl, _, rfl, S l, k, c, rfl, rfl, sz, hat, c, _, rfl, rfl, _, rfl, ?_⟩
    rw [pl]
    refine ite2 (fun e => ?_) (fun e => ?_)
    · exact ⟨_, rfl, _, _, rfl, rfl, kp (by simpa using of_decide_eq_true e)⟩
    have np' : ¬ (c = 40 ∨ c = 41) := fun z => e (decide_eq_true (by simpa using z))
    refine ⟨_, rfl, _, rfl, S l, k, c, rfl, rfl, sz, hat, rfl, _, rfl, ?_⟩
    rw [q34, one_eq]
    refine ite2 (fun e4 => ?_) (fun e4 => ?_)
    · have ec : c = 34 := of_decide_eq_true e4
      have fq := find_q (k := k + 1) h10
      rw [hd1, show (((k + 1 : Nat)) : Int) = (k : Int) + 1 from rfl] at fq
      refine ⟨_, rfl, rfl, _, rfl, _, _, rfl, rfl, S l, ⟨#[34]⟩, _, rfl, rfl, ?_⟩
      rcases fq with ⟨f1, f2⟩ | ⟨f1, f2⟩
      · rw [f1]
        refine ⟨_, rfl, _, _, rfl, rfl, _, rfl, iteT ⟨_, rfl, _, rfl, _, rfl, sz, _, _, rfl, rfl, n, l.length + 1, "text is not closed", ?_, by omega, by omega, by decide +kernel, fun d hd => ?_⟩⟩
        · rw [S_len]
          rfl
        · exact kf ec f2 _ d (fun b o z => (upd_ne (ne_of_none z hd)).trans z) upd_same
      · rw [f1]
        refine ⟨_, rfl, _, _, rfl, rfl, _, rfl, ?_⟩
        rw [decide_eq_false (show ¬ (((k + 1 + (r.takeWhile qn).length : Nat) : Int) < 0) by omega)]
        exact iteF ⟨_, rfl, _, _, rfl, rfl, kq ec f2⟩
    · have pc : pn c = true := by
        have z := pn_mem c10
        rw [decide_eq_false (fun w => by
          have : ¬ c = 34 := fun y => e4 (decide_eq_true y)
          simp only [List.mem_cons, List.not_mem_nil, or_false] at w
          omega)] at z
        cases x : pn c with
        | true => rfl
        | false => rw [x] at z; cases z
      have hw := kw pc
      refine ⟨_, rfl, ⟨fun q σ H' => ∃ (j : Nat), j + q = ((l.drop k).takeWhile pn).length ∧ σ = [some (.str (S l)), some (.int k), some (.int n), none, some (.int ((k : Int) + j))] ∧ H' = H, ⟨((l.drop k).takeWhile pn).length, 0, Nat.zero_add _, rfl, rfl⟩, ?_⟩⟩
      rintro q σ H' ⟨j, hj, rfl, rfl⟩
      obtain ⟨ta, tb, tc⟩ := tw_at (l.drop k) j (by omega)
      have tl1 : ((l.drop k).takeWhile pn).length = 1 + (r.takeWhile pn).length := by
        rw [hd, List.takeWhile_cons, pc, if_pos rfl, List.length_cons, Nat.add_comm]
      have fin : j = ((l.drop k).takeWhile pn).length → Q (.int ((k : Int) + j)) H' := fun z => by
        rw [show (k : Int) + (j : Int) = ((k + 1 + (r.takeWhile pn).length : Nat) : Int) by omega]
        exact hw
      refine ⟨_, rfl, _, rfl, _, rfl, sz, _, _, rfl, rfl, _, rfl, ?_⟩
      by_cases hj2 : k + j < l.length
      · rw [decide_eq_true (show (k : Int) + (j : Int) < ((S l).length : Int) by rw [S_len]; omega)]
        have gd : l[k + j]? = some l[k + j] := List.getElem?_eq_getElem hj2
        have gD : (l.drop k)[j]? = some l[k + j] := by rw [List.getElem?_drop]; exact gd
        refine iteT ⟨_, rfl, _, rfl, S l, (k : Int) + j, l[k + j], rfl, rfl, sz, ?_, l[k + j], _, rfl, rfl, _, rfl, ?_⟩
        · rw [S_list]
          exact atI_nat (j := k + j) gd
        · rw [bl, pn_mem (h10 _ (List.mem_of_getElem? gd)), Bool.not_not]
          cases e : pn l[k + j] with
          | true =>
            rw [if_pos rfl]
            refine ⟨_, fun _ _ z => ⟨q - 1, by have := ta _ gD e; omega, z⟩, ?_⟩
            refine ⟨_, rfl, _, _, rfl, rfl, j + 1, by have := ta _ gD e; omega, ?_, rfl⟩
            rw [show (((j + 1 : Nat)) : Int) = (j : Int) + 1 from rfl, ← Int.add_assoc]
            rfl
          | false =>
            rw [if_neg (by decide)]
            exact ⟨_, rfl, fin (tb _ gD e)⟩
      · rw [decide_eq_false (show ¬ (k : Int) + (j : Int) < ((S l).length : Int) by rw [S_len]; omega)]
        refine iteF ?_
        have gD : (l.drop k)[j]? = none := by rw [List.getElem?_drop]; exact List.getElem?_eq_none (by omega)
        exact ⟨_, rfl, fin (tc gD)⟩
end
end N07

set_option linter.all false
set_option maxRecDepth 100000
set_option maxHeartbeats 4000000
namespace N07
open PySem PySem.Spec PyProof.Rows L2 N01
abbrev sLine : Stmt := top 10
def spLine (C : Addr) : Sp := fun vs H Q E => ∃ (l : List Nat) (n : Nat), vs = [.str (S l), .int n] ∧ l.length ≤ 12000 ∧ n ≤ 20000 ∧ (∀ c ∈ l, c ≠ 10) ∧
  (∀ rows, tokA l n 1 = .ok rows → ∀ H' p xs, Same H H' → H p = none → H' p = some (.lst xs) → Paired (RowAt H') xs rows → xs.length ≤ l.length → Q (.ref p) H') ∧
  (∀ ln col, tokA l n 1 = .error (ln, col) → ∀ H' d, Same H H' → H' d = some (.xd (tfF ln col "text is not closed")) → E (.ref C) (some d) H')
theorem cut_S {l : List Nat} {i j : Nat} (hi : i ≤ l.length) (hj : j ≤ l.length) : cutS (S l) (some (i : Int)) (some (j : Int)) = S ((l.drop i).take (j - i)) := by
  unfold cutS
  rw [HT.sIx_nat, HT.sIx_nat, S_len, S_list, Nat.min_eq_left hi, Nat.min_eq_left hj]
  rfl
theorem dw_drop (p : Nat → Bool) : ∀ r : List Nat, r.drop (r.takeWhile p).length = r.dropWhile p
  | [] => rfl
  | c :: r => by
    rw [List.takeWhile_cons, List.dropWhile_cons]
    cases e : p c with
    | true => rw [if_pos rfl, if_pos rfl, List.length_cons, List.drop_succ_cons]; exact dw_drop p r
    | false => rw [if_neg (by decide), if_neg (by decide)]; rfl
theorem tw_take (p : Nat → Bool) : ∀ r : List Nat, r.take (r.takeWhile p).length = r.takeWhile p
  | [] => rfl
  | c :: r => by
    rw [List.takeWhile_cons]
    cases e : p c with
    | true => rw [if_pos rfl, List.length_cons, List.take_succ_cons, tw_take p r]
    | false => rw [if_neg (by decide)]; rfl
theorem ap_ok {a : List Row} {x : Res} {rows : List Row} (h : apE a x = .ok rows) : ∃ b, x = .ok b ∧ rows = a ++ b := by
  cases x with
  | error e => cases h
  | ok b => exact ⟨b, rfl, by cases h; rfl⟩
theorem RowAt.same {H H' : Hp} {v : V} {r : Row} (h : RowAt H v r) (s : Same H H') : RowAt H' v r := let ⟨p, e, q⟩ := h; ⟨p, e, s _ _ q⟩
theorem RowAt.put {l : Addr} {H : Hp} {xs ys : List V} {v : V} {r : Row} (h : RowAt H v r) (hl : H l = some (.lst xs)) : RowAt (upd H l (.lst ys)) v r := by
  obtain ⟨p, e, q⟩ := h
  exact ⟨p, e, (upd_ne (fun z => by rw [z, hl] at q; cases q)).trans q⟩
theorem Paired.imp2 {α β : Type} {F G : α → β → Prop} (h : ∀ x y, F x y → G x y) : ∀ {xs : List α} {ys : List β}, Paired F xs ys → Paired G xs ys
  | _, _, .nil => .nil
  | _, _, .cons q t => .cons (h _ _ q) (Paired.imp2 h t)
theorem snoc2 {α β : Type} {F : α → β → Prop} {x : α} {y : β} (h : F x y) : ∀ {xs : List α} {ys : List β}, Paired F xs ys → Paired F (xs ++ [x]) (ys ++ [y])
  | _, _, .nil => .cons h .nil
  | _, _, .cons a t => .cons a (snoc2 h t)
section
variable {P : Program} {w : World} {K : PySem.W.Frag} {mg : Str → Option Value} {base : Heap} {C fI : Addr}
theorem scLn : FnScope ["line", "number", "tokens", "at", "sign", "after"] ["line", "number"] (defScope sLine) := ⟨rfl, rfl, rfl, by decide +kernel, rfl, by decide +kernel, by decide +kernel⟩
theorem ok_line {f fA : Addr} {fd fdA : FuncData} (F : FunD K "split_line" "split_line" (defArgs sLine) (defBody sLine) (defScope sLine) [] [] f fd) (len : mg "len" = none)
    (GA : FnOk P w K mg base (L2.CX P w) 2 fA fdA ["line", "at", "number"] (spEnd C)) (bA : Binds K fdA ["line", "at", "number"] []) (gA : mg "token_end" = some (.ref fA)) (kA : PySem.W.keepIn K (.ref fA) = true) : FnOk P w K mg base (L2.CX P w) 3 f fd ["line", "number"] (spLine C) := by
  refine F.ok (CX := L2.CX P w) scLn (fun vs H Q E h => ?_) (fun cdv A outer s H vs Q E hr h => ?_)
  · obtain ⟨l, n, rfl, _⟩ := h
    rfl
  · obtain ⟨l, n, rfl, hl, hn, h10, kt, kf⟩ := h
    have b16 : sizeLine = 16777216 := sizeLine_eq
    refine ⟨_, pss_cons (ps_set (i := 2) scLn.nd rfl (Or.inl rfl) (pe_lst pa_nil)) (pss_cons (ps_set (i := 3) scLn.nd rfl (Or.inl rfl) pe_int)
      (pss_cons (ps_while (passes_of rfl) (PW.pt (pw_and (pt_cmpR op_lt (pv 3) (pe_callB call_len_str (by rfl) len PySem.boot_len (pa_cons (pv 0) pa_nil)) (nomark _)) (pw_and1 (pt_cmpR op_ne (pe_ix ix_str (pv 0) (pv 3) (fun _ _ => rfl)) pe_str (nomark _)))))
        (pss_cons (ps_set (i := 4) scLn.nd rfl (Or.inl rfl) (pe_ix ix_str (pv 0) (pv 3) (fun _ _ => rfl)))
        (pss_cons (ps_if (pt_cmpR op_eq (pv 4) pe_str (nomark _)) (pss_cons (ps_aug (i := 3) scLn.nd rfl (Or.inl rfl) pe_int ip_add) (pss_one ps_continue)) pss_nil)
        (pss_cons (ps_set (i := 5) scLn.nd rfl (Or.inl rfl) (pe_callSD GA (hr.mono (by decide)) (by rfl) gA kA bA .nil (fun σ => passAt (W := fun cls d _ H => E cls d H) (takes_of rfl rfl rfl rfl) σ) (pa_cons (pv 0) (pa_cons (pv 3) (pa_cons (pv 1) pa_nil)))))
        (pss_cons (ps_if (pt_cmpR op_eq (pv 4) pe_str (nomark _))
          (pss_one (ps_expr (pe_bm PySem.F.plainAttrs_list PySem.F.slot_list_append PySem.F.type_list_append mt_append (pv 2) (pa_cons (pe_tup (pa_cons pe_str (pa_cons (pe_slice sl_str (pv 0) (po_some (pe_op op_add (pv 3) pe_int)) (po_some (pe_op op_sub (pv 5) pe_int))) (pa_cons (pv 1) (pa_cons (pe_op op_add (pv 3) pe_int) pa_nil))))) pa_nil))))
          (pss_one (ps_if (pt_cmpR op_in_sign (pv 4) pe_str (by with_unfolding_all rfl))
            (pss_one (ps_expr (pe_bm PySem.F.plainAttrs_list PySem.F.slot_list_append PySem.F.type_list_append mt_append (pv 2) (pa_cons (pe_tup (pa_cons (pv 4) (pa_cons (pv 4) (pa_cons (pv 1) (pa_cons (pe_op op_add (pv 3) pe_int) pa_nil))))) pa_nil))))
            (pss_one (ps_expr (pe_bm PySem.F.plainAttrs_list PySem.F.slot_list_append PySem.F.type_list_append mt_append (pv 2) (pa_cons (pe_tup (pa_cons pe_str (pa_cons (pe_slice sl_str (pv 0) (po_some (pv 3)) (po_some (pv 5))) (pa_cons (pv 1) (pa_cons (pe_op op_add (pv 3) pe_int) pa_nil))))) pa_nil)))))))
        (pss_one (ps_set (i := 3) scLn.nd rfl (Or.inl rfl) (pv 5))))))))
      (pss_one (ps_ret (pv 2))))), ?_⟩
    have sz : (S l).length ≤ sizeLine := by rw [S_len]; omega
    have sh : (Str.ofString "#") = (⟨#[35]⟩ : Str) := by decide +kernel
    have sp : (Str.ofString " ") = (⟨#[32]⟩ : Str) := by decide +kernel
    have q34 : (Str.ofString "\"") = (⟨#[34]⟩ : Str) := by decide +kernel
    have pl : (Str.ofString "()").cps.toList = [40, 41] := by decide +kernel
    have kt' : (Str.ofString "text") = S kT := by decide +kernel
    have kw' : (Str.ofString "word") = S kW := by decide +kernel
    refine ⟨Nat.zero_le _, fun p hp => ?_⟩
    have s1 : Same H (upd H p (.lst [])) := fun b o z => (upd_ne (ne_of_none z hp)).trans z
    refine ⟨fun q σ H' => ∃ k : Nat, k + q = l.length ∧ ∃ (xs : List V) (ds : List Row) (v4 v5 : Option V), σ = [some (.str (S l)), some (.int n), some (.ref p), some (.int k), v4, v5] ∧ H' p = some (.lst xs) ∧ Paired (RowAt H') xs ds ∧ Same H H' ∧ xs.length ≤ k ∧ tokA l n 1 = apE ds (tokA (l.drop k) n (k + 1)),
      ⟨l.length, 0, Nat.zero_add _, [], [], none, none, rfl, upd_same, .nil, s1, Nat.le_refl _, (ap_nil _).symm⟩, ?_⟩
    rintro q σ H1 ⟨k, hk, xs, ds, v4, v5, rfl, p1, p2, p3, p4, p5⟩
    have dn : tokA (l.drop k) n (k + 1) = .ok [] → Q (.ref p) H1 := fun e => kt ds (by rw [p5, e]; show Except.ok (ds ++ []) = _; rw [List.append_nil]) H1 p xs p3 hp p1 p2 (by omega)
    refine ⟨_, rfl, _, rfl, _, rfl, sz, _, _, rfl, rfl, _, rfl, ?_⟩
    by_cases hkl : k < l.length
    · rw [decide_eq_true (show (k : Int) < ((S l).length : Int) by rw [S_len]; omega)]
      obtain ⟨c, r, hd⟩ : ∃ c r, l.drop k = c :: r := by
        cases x : l.drop k with
        | nil =>
          have := congrArg List.length x
          rw [List.length_drop, List.length_nil] at this
          omega
        | cons c r => exact ⟨c, r, rfl⟩
      have h0 : l[k]? = some c := by
        have z : (l.drop k)[0]? = some c := by rw [hd]; rfl
        rw [List.getElem?_drop] at z
        exact z
      have hd1 : l.drop (k + 1) = r := by
        rw [← List.drop_drop, hd]
        rfl
      have hat : atI (S l).cps.toList (k : Int) = some c := by rw [S_list]; exact atI_nat h0
      have c10 : c ≠ 10 := h10 c (List.mem_of_getElem? h0)
      have r10 : ∀ d ∈ r, d ≠ 10 := fun d hd' => h10 d (List.mem_of_mem_drop (by rw [hd]; exact List.mem_cons_of_mem _ hd'))
      have rl : k + 1 + r.length = l.length := by
        have := congrArg List.length hd
        rw [List.length_drop, List.length_cons] at this
        omega
      rw [hd] at p5 dn
      refine iteT ⟨_, rfl, _, rfl, S l, k, c, rfl, rfl, sz, hat, rfl, _, rfl, ?_⟩
      rw [sh, one_eq]
      by_cases c35 : c = 35
      · rw [decide_eq_true c35]
        refine iteF ⟨_, rfl, dn ?_⟩
        rw [c35, tok_hash, dw_all (nn_all r10), tok_nil]
      rw [decide_eq_false c35]
      refine iteT ⟨fun σ' H' => ∃ k' : Nat, k < k' ∧ k' ≤ l.length ∧ ∃ (xs : List V) (ds : List Row) (v4 v5 : Option V), σ' = [some (.str (S l)), some (.int n), some (.ref p), some (.int k'), v4, v5] ∧ H' p = some (.lst xs) ∧ Paired (RowAt H') xs ds ∧ Same H H' ∧ xs.length ≤ k' ∧ tokA l n 1 = apE ds (tokA (l.drop k') n (k' + 1)),
        fun σ' H' ⟨k', a, b, z⟩ => ⟨l.length - k', by omega, k', by omega, z⟩, ?_⟩
      refine ⟨_, rfl, _, rfl, S l, k, c, rfl, rfl, sz, hat, _, rfl, rfl, _, rfl, ?_⟩
      rw [sp, one_eq]
      refine ite2 (fun e => ?_) (fun e => ?_)
      · have ec : c = 32 := of_decide_eq_true e
        refine ⟨_, rfl, _, _, rfl, rfl, k + 1, by omega, by omega, xs, ds, _, _, rfl, p1, p2, p3, by omega, ?_⟩
        rw [p5, ec, tok_sp, hd1]
      have n32 : c ≠ 32 := fun z => e (decide_eq_true z)
      -- one more row
      have more : ∀ (k' : Nat) (row : Row) (t : Addr) (v5 : Option V), k < k' → k' ≤ l.length → H1 t = none → tokA (c :: r) n (k + 1) = csE row (tokA (l.drop k') n (k' + 1)) →
          ∃ k'' : Nat, k < k'' ∧ k'' ≤ l.length ∧ ∃ (xs' : List V) (ds' : List Row) (v4 v5' : Option V), [some (V.str (S l)), some (.int n), some (.ref p), some (.int (k' : Nat)), some (.str ⟨#[c]⟩), v5] = [some (V.str (S l)), some (.int n), some (.ref p), some (.int k''), v4, v5'] ∧
            (upd (upd H1 t (.tup row.items)) p (.lst (xs ++ [.ref t]))) p = some (.lst xs') ∧ Paired (RowAt (upd (upd H1 t (.tup row.items)) p (.lst (xs ++ [.ref t])))) xs' ds' ∧ Same H (upd (upd H1 t (.tup row.items)) p (.lst (xs ++ [.ref t]))) ∧ xs'.length ≤ k'' ∧ tokA l n 1 = apE ds' (tokA (l.drop k'') n (k'' + 1)) := by
        intro k' row t v5 h1 h2 ht e1
        have tp : p ≠ t := ne_of_none p1 ht
        have a1 : Same H1 (upd H1 t (.tup row.items)) := fun b o z => (upd_ne (ne_of_none z ht)).trans z
        refine ⟨k', h1, h2, xs ++ [.ref t], ds ++ [row], _, _, rfl, upd_same, ?_, fun b o z => (upd_ne (ne_of_none z hp)).trans (a1 _ _ (p3 _ _ z)), by rw [List.length_append, List.length_singleton]; omega, ?_⟩
        · exact snoc2 (RowAt.put ⟨t, rfl, upd_same⟩ (a1 _ _ p1)) (Paired.imp2 (fun _ _ z => (RowAt.same z a1).put (a1 _ _ p1)) p2)
        · rw [p5, e1, ap_cs]
      refine ⟨_, rfl, _, rfl, _, rfl, l, k, n, c, r, rfl, hl, hn, h10, hd, n32, c35, fun hpar => ?_, fun h34 hq => ?_, fun h34 hq H' d s' hx => ?_, fun hpn => ?_⟩
      · refine ⟨_, rfl, rfl, _, rfl, ?_⟩
        rw [q34, one_eq, decide_eq_false (show ¬ c = 34 by omega)]
        refine iteF ⟨_, rfl, c, _, rfl, rfl, _, rfl, ?_⟩
        rw [pl, decide_eq_true (show c ∈ [40, 41] by simpa using hpar)]
        refine iteT ⟨_, rfl, Or.inl ⟨rfl, _, SqL.of p1⟩, _, rfl, _, rfl, _, rfl, _, rfl, _, _, rfl, rfl, (by show 4 ≤ sizeLine; decide), fun t ht => ⟨p, xs, .ref t, rfl, rfl, (upd_ne (ne_of_none p1 ht)).trans p1, by omega, _, rfl, ?_⟩⟩
        exact more (k + 1) ⟨[c], [c], n, k + 1⟩ t _ (by omega) (by omega) ht (by rw [tok_par hpar, hd1])
      · have rd := dw_drop qn r
        have rt := tw_take qn r
        have ne : (r.dropWhile qn) ≠ [] := fun z => by rw [z] at hq; cases hq
        have lt1 : (r.takeWhile qn).length < r.length := by
          have z := congrArg List.length (List.takeWhile_append_dropWhile (p := qn) (l := r))
          rw [List.length_append] at z
          have := List.length_pos_iff.mpr ne
          omega
        refine ⟨_, rfl, rfl, _, rfl, ?_⟩
        rw [q34, one_eq, decide_eq_true h34]
        have cu : cutS (S l) (some ((k : Int) + 1)) (some (((k + 1 + (r.takeWhile qn).length + 1 : Nat) : Int) - 1)) = S (r.takeWhile qn) := by
          have z := cut_S (l := l) (i := k + 1) (j := k + 1 + (r.takeWhile qn).length) (by omega) (by omega)
          rw [hd1, show k + 1 + (r.takeWhile qn).length - (k + 1) = (r.takeWhile qn).length by omega, rt] at z
          rw [show (((k + 1 + (r.takeWhile qn).length + 1 : Nat) : Int) - 1) = ((k + 1 + (r.takeWhile qn).length : Nat) : Int) by omega]
          exact z
        refine iteT ⟨_, rfl, Or.inl ⟨rfl, _, SqL.of p1⟩, _, rfl, _, rfl, _, _, rfl, rfl, _, rfl, _, rfl, _, _, rfl, rfl, _, rfl, _, rfl, sz, ?_⟩
        rw [cu, kt']
        refine ⟨_, rfl, _, rfl, _, _, rfl, rfl, (by show 4 ≤ sizeLine; decide), fun t ht => ⟨p, xs, .ref t, rfl, rfl, (upd_ne (ne_of_none p1 ht)).trans p1, by omega, _, rfl, ?_⟩⟩
        refine more (k + 1 + (r.takeWhile qn).length + 1) ⟨kT, r.takeWhile qn, n, k + 1⟩ t _ (by omega) (by omega) ht ?_
        have dl : l.drop (k + 1 + (r.takeWhile qn).length + 1) = (r.dropWhile qn).tail := by
          rw [← rd, List.tail_drop, ← hd1, List.drop_drop]
          rfl
        rw [h34, tok_qt, if_pos hq, dl]
      · refine kf n (l.length + 1) ?_ H' d (p3.trans s') hx
        have dn0 : r.dropWhile qn = [] := by
          cases x : r.dropWhile qn with
          | nil => rfl
          | cons a u =>
            have z := dw_head x
            have a10 : a ≠ 10 := r10 a (dw_mem (p := qn) (by rw [x]; exact List.mem_cons_self))
            rw [x] at hq
            have a34 : a ≠ 34 := fun y => hq (by rw [y]; rfl)
            unfold qn at z
            rw [decide_eq_false a34, decide_eq_false a10] at z
            cases z
        have tn : r.takeWhile qn = r := by
          have z := List.takeWhile_append_dropWhile (p := qn) (l := r)
          rw [dn0, List.append_nil] at z
          exact z
        rw [p5, h34, tok_qt, if_neg hq, tn]
        show Except.error _ = Except.error _
        rw [show k + 1 + 1 + r.length = l.length + 1 by omega]
      · have rd := dw_drop pn r
        have rt := tw_take pn r
        have le1 : (r.takeWhile pn).length ≤ r.length := by
          have z := congrArg List.length (List.takeWhile_append_dropWhile (p := pn) (l := r))
          rw [List.length_append] at z
          omega
        have n34 : ¬ c = 34 := by rintro rfl; revert hpn; decide
        have npar : ¬ c ∈ ([40, 41] : List Nat) := by
          intro z
          simp only [List.mem_cons, List.not_mem_nil, or_false] at z
          rcases z with rfl | rfl <;> revert hpn <;> decide
        refine ⟨_, rfl, rfl, _, rfl, ?_⟩
        rw [q34, one_eq, decide_eq_false n34]
        refine iteF ⟨_, rfl, c, _, rfl, rfl, _, rfl, ?_⟩
        rw [pl, decide_eq_false npar]
        have cu : cutS (S l) (some (k : Int)) (some ((k + 1 + (r.takeWhile pn).length : Nat) : Int)) = S (c :: r.takeWhile pn) := by
          have z := cut_S (l := l) (i := k) (j := k + 1 + (r.takeWhile pn).length) (by omega) (by omega)
          rw [hd, show k + 1 + (r.takeWhile pn).length - k = (r.takeWhile pn).length + 1 by omega, List.take_succ_cons, rt] at z
          exact z
        refine iteF ⟨_, rfl, Or.inl ⟨rfl, _, SqL.of p1⟩, _, rfl, _, rfl, _, rfl, _, rfl, _, rfl, _, rfl, sz, ?_⟩
        rw [cu, kw']
        refine ⟨_, rfl, _, rfl, _, _, rfl, rfl, (by show 4 ≤ sizeLine; decide), fun t ht => ⟨p, xs, .ref t, rfl, rfl, (upd_ne (ne_of_none p1 ht)).trans p1, by omega, _, rfl, ?_⟩⟩
        refine more (k + 1 + (r.takeWhile pn).length) ⟨kW, c :: r.takeWhile pn, n, k + 1⟩ t _ (by omega) (by omega) ht ?_
        have dl : l.drop (k + 1 + (r.takeWhile pn).length) = r.dropWhile pn := by
          rw [← rd, ← hd1, List.drop_drop]
        rw [tok_word hpn, dl]
        rw [show k + 1 + 1 + (r.takeWhile pn).length = k + 1 + (r.takeWhile pn).length + 1 by omega]
    · rw [decide_eq_false (show ¬ (k : Int) < ((S l).length : Int) by rw [S_len]; omega)]
      refine iteF ?_
      exact ⟨_, rfl, dn (by rw [List.drop_eq_nil_of_le (by omega), tok_nil])⟩
end
end N07

set_option linter.all false
set_option maxRecDepth 100000
set_option maxHeartbeats 4000000
namespace N07
open PySem PySem.Spec PyProof.Rows L2 N01
abbrev sSplit : Stmt := top 9
def okC (c : Nat) : Bool := decide (c = 10) || sgnC c
def spSplit (CO C : Addr) : Sp := fun vs H Q E => ∃ l : List Nat, vs = [.str (S l)] ∧ l.length ≤ 12500 ∧ (∀ c ∈ l, okC c = true) ∧
  (l.length ≤ 12000 → ∀ rows, tokA l 1 1 = .ok rows → ∀ H' p xs, Same H H' → H' p = some (.lst xs) → Paired (RowAt H') xs rows → xs.length ≤ l.length + 1 → Q (.ref p) H') ∧
  (l.length ≤ 12000 → ∀ ln col, tokA l 1 1 = .error (ln, col) → ∀ H' d, Same H H' → H' d = some (.xd (tfF ln col "text is not closed")) → E (.ref C) (some d) H') ∧
  (12000 < l.length → ∀ H' d, Same H H' → H' d = some (.xd [(("name" : Str), .str "text")]) → E (.ref CO) (some d) H')
theorem split_lns (l : List Nat) : Txt.split (S l) "\n" = (lns l).map S := by
  have e : ("\n" : Str) = S [10] := by decide +kernel
  rw [e, ← spl_lns]
  exact SX.split_S (a := l) (b := [10]) (by simp) (by decide)
theorem lns_sum : ∀ s : List Nat, ((lns s).map List.length).sum ≤ s.length
  | [] => Nat.le_refl _
  | c :: r => by
    have ih := lns_sum r
    obtain ⟨l, ls, e⟩ := lns_ne r
    rw [e, List.map_cons, List.sum_cons] at ih
    rw [lns]
    by_cases hc : c = 10
    · rw [if_pos hc, e, List.map_cons, List.map_cons, List.sum_cons, List.sum_cons, List.length_nil, List.length_cons]
      omega
    · rw [if_neg hc, e]
      show (((c :: l) :: ls).map List.length).sum ≤ _
      rw [List.map_cons, List.sum_cons, List.length_cons, List.length_cons]
      omega
theorem lns_count : ∀ s : List Nat, (lns s).length ≤ s.length + 1
  | [] => Nat.le_refl _
  | c :: r => by
    have ih := lns_count r
    obtain ⟨l, ls, e⟩ := lns_ne r
    rw [e, List.length_cons] at ih
    rw [lns]
    by_cases hc : c = 10
    · rw [if_pos hc, e, List.length_cons, List.length_cons, List.length_cons]
      omega
    · rw [if_neg hc, e]
      show ((c :: l) :: ls).length ≤ _
      rw [List.length_cons, List.length_cons]
      omega
theorem ap_err {a : List Row} {e : Nat × Nat} : apE a (.error e) = .error e := rfl
theorem paired_app' {α β : Type} {F : α → β → Prop} : ∀ {xs zs : List α} {ys ws : List β}, Paired F xs ys → Paired F zs ws → Paired F (xs ++ zs) (ys ++ ws)
  | _, _, _, _, .nil, h => h
  | _, _, _, _, .cons a t, h => .cons a (paired_app' t h)
structure TxtS (mg : Str → Option Value) : Prop where
  len : mg "len" = none
  all : mg "all" = none
  enum : mg "enumerate" = none
  bm : ∃ t, mg "BOOK_MOST" = some (.int 12000 t)
section
variable {P : Program} {w : World} {K : PySem.W.Frag} {mg : Str → Option Value} {base : Heap} {C CO fI fO : Addr}
theorem scSp : FnScope ["text", "sign", "tokens", "at", "line"] ["text"] (defScope sSplit) := ⟨rfl, rfl, rfl, by decide +kernel, rfl, by decide +kernel, by decide +kernel⟩
theorem ok_split {f fL : Addr} {fd fdL : FuncData} (F : FunD K "split_text" "split_text" (defArgs sSplit) (defBody sSplit) (defScope sSplit) [] [] f fd) (T : TxtS mg) (O : PySem.OorX.OorTxt P K mg CO fO) (cS : Cal P w K mg base 1 "is_sign" ["sign"] spSign)
    (GL : FnOk P w K mg base (L2.CX P w) 3 fL fdL ["line", "number"] (spLine C)) (bL : Binds K fdL ["line", "number"] []) (gL : mg "split_line" = some (.ref fL)) (kL : PySem.W.keepIn K (.ref fL) = true) : FnOk P w K mg base (L2.CX P w) 4 f fd ["text"] (spSplit CO C) := by
  refine F.ok (CX := L2.CX P w) scSp (fun vs H Q E h => ?_) (fun cdv A outer s H vs Q E hr h => ?_)
  · obtain ⟨l, rfl, _⟩ := h
    rfl
  · obtain ⟨l, rfl, hl, hs, kt, kf, ko⟩ := h
    obtain ⟨tb, hb⟩ := T.bm
    have b16 : sizeLine = 16777216 := sizeLine_eq
    refine ⟨_, pss_cons (ps_if (PW.pt (pw_or (pt_cmpR op_gt (pe_callB call_len_str (by rfl) T.len PySem.boot_len (pa_cons (pv 0) pa_nil)) (pe_glob (v := .int 12000) rfl hb ⟨_, rfl⟩) (nomark _)) (pw_or1 (pt_not (pt_val (pe_callB (cr_all rfl) (by rfl) T.all (by decide +kernel) (pa_cons
        (pe_lc (own := [("sign", 1)]) (g := gName 1) (tt := tYes) rfl scSp.nd (pi_str (pv 0)) (blkOk_by (N := ["text", "sign", "tokens", "at", "line"]) (sc := defScope sSplit) (by decide +kernel)) (fun _ _ _ _ _ => pg_name (i := 1) scSp.nd rfl (Or.inl rfl)) (fun _ _ _ _ _ => pts_nil)
          (fun _ _ _ _ _ => pe_or (pe_cmpR op_eq (pv 1) pe_str (nomark _)) (pe_one (pe_cal cS hr (by decide) (by rfl) (pa_cons (pv 1) pa_nil))))) pa_nil)))))))
        (pss_one (ps_raiseOor rfl O (hr.mono (by decide)) (W := fun cls d _ H => E cls d H) (takes_of rfl rfl rfl rfl) (pa_cons pe_str pa_nil))) pss_nil)
      (pss_cons (ps_set (i := 2) scSp.nd rfl (Or.inl rfl) (pe_lst pa_nil))
      (pss_cons (ps_for (passes_of rfl) rfl (pi_enum (by rfl) T.enum (pa_cons (pe_split (pv 0) pe_str) pa_nil)) (pg_tup rfl (pgs_cons (pg_name (i := 3) scSp.nd rfl (Or.inl rfl)) (pgs_cons (pg_name (i := 4) scSp.nd rfl (Or.inl rfl)) pgs_nil)))
        (pss_one (ps_expr (pe_bm PySem.F.plainAttrs_list PySem.F.slot_list_extend PySem.F.type_list_extend mt_extend (pv 2) (pa_cons (pe_callSD GL (hr.mono (by decide)) (by rfl) gL kL bL .nil (fun σ => passAt (W := fun cls d _ H => E cls d H) (takes_of rfl rfl rfl rfl) σ) (pa_cons (pv 4) (pa_cons (pe_op op_add (pv 3) pe_int) pa_nil))) pa_nil)))))
      (pss_one (ps_ret (pv 2))))), ?_⟩
    have sz : (S l).length ≤ sizeLine := by rw [S_len]; omega
    have nl : (Str.ofString "\n") = (⟨#[10]⟩ : Str) := by decide +kernel
    refine ⟨_, rfl, _, rfl, sz, _, _, rfl, rfl, _, rfl, ?_⟩
    have ap : ∀ d, ∀ H', Same H H' → H' d = some (.xd [(("name" : Str), .str "text")]) → 12000 < l.length → E (.ref CO) (some d) H' := fun d H' a b c => ko c H' d a b
    by_cases h2 : 12000 < l.length
    · rw [decide_eq_true (show (12000 : Int) < ((S l).length : Int) by rw [S_len]; omega)]
      exact iteT (iteT ⟨"text", rfl, by decide +kernel, fun d hd => ko h2 _ d (fun b o z => (upd_ne (ne_of_none z hd)).trans z) upd_same⟩)
    rw [decide_eq_false (show ¬ (12000 : Int) < ((S l).length : Int) by rw [S_len]; omega)]
    have len0 : (S l).cps.size = l.length := S_len l
    refine iteF ⟨_, rfl, S l, rfl, fun D hD => lc_it (walk_str (z := S l)) (fun i H' => H' D = some (.lst ((l.take i).map fun c => V.bl (okC c))) ∧ Same H H')
          ⟨upd_same, fun b o e => (upd_ne (ne_of_none e hD)).trans e⟩ (fun _ _ _ _ => trivial) ?_ ?_⟩
    · rintro i x H1 H1' hi ⟨p1, p2⟩ ⟨rfl, c, hc, rfl⟩
      refine ⟨rfl, ?_⟩
      have hc' : l[i]? = some c := by
        have z : (S l).cps.toList[i]? = some c := by simpa using hc
        rw [S_list] at z
        exact z
      have fin : ∀ b : Bool, okC c = b → ∃ acc, H1' D = some (.lst acc) ∧ acc.length < sizeLine ∧ ((upd H1' D (.lst (acc ++ [V.bl b]))) D = some (.lst ((l.take (i + 1)).map fun c => V.bl (okC c))) ∧ Same H (upd H1' D (.lst (acc ++ [V.bl b])))) := fun b e => by
        refine ⟨_, p1, ?_, ?_, fun b o z => (upd_ne (ne_of_none z hD)).trans (p2 b o z)⟩
        · rw [List.length_map, List.length_take]
          omega
        · rw [upd_same, List.take_add_one, hc', List.map_append, ← e] <;> rfl
      refine ⟨_, rfl, rfl, _, rfl, ?_⟩
      rw [nl, one_eq]
      refine ite2 (fun e => ?_) (fun e => ?_)
      · exact fin true (by unfold okC; rw [e]; rfl)
      · exact ⟨_, rfl, c, rfl, fin _ (by unfold okC; rw [Bool.eq_false_iff.mpr e]; rfl)⟩
    · rintro H1 ⟨p1, p2⟩
      refine ⟨D, l.map okC, rfl, SqL.of ?_, _, rfl, ?_⟩
      · rw [p1, List.map_map]
        have e : l.take (S l).cps.size = l := List.take_of_length_le (by omega)
        rw [e] <;> rfl
      · rw [List.all_map, show (l.all (id ∘ okC)) = true from List.all_eq_true.mpr hs]
        refine iteF ⟨Nat.zero_le _, fun p hp => ?_⟩
        have hpH : ∀ {b : Addr} {o : HO}, H b = some o → b ≠ p := fun {b o} z => ne_of_none (p2 _ _ z) hp
        have s2 : Same H (upd H1 p (.lst [])) := fun b o z => (upd_ne (hpH z)).trans (p2 b o z)
        refine ⟨_, rfl, ⟨_, rfl⟩, S l, _, rfl, rfl, by decide +kernel, by rw [S_len]; omega, fun q hq => ?_⟩
        have qp : p ≠ q := ne_of_none upd_same hq
        have s3 : Same (upd H1 p (.lst [])) (upd (upd H1 p (.lst [])) q (.lst ((Txt.split (S l) "\n").map V.str))) := fun b o z => (upd_ne (ne_of_none z hq)).trans z
        have spl := split_lns l
        have cnt := lns_count l
        have sm := lns_sum l
        refine ⟨q, _, rfl, SqL.of upd_same, ?_⟩
        rw [spl]
        have n1 : (((lns l).map S).map V.str).length = (lns l).length := by rw [List.length_map, List.length_map]
        refine for_it (walk_enum (xs := ((lns l).map S).map V.str)) (fun i σ H' => ∃ (xs : List V) (ds : List Row) (v1 v3 v4 : Option V), σ = [some (.str (S l)), v1, some (.ref p), v3, v4] ∧ H' p = some (.lst xs) ∧ Paired (RowAt H') xs ds ∧ Same H H' ∧ H' q = some (.lst (((lns l).map S).map V.str)) ∧
          xs.length + (((lns l).drop i).map List.length).sum ≤ l.length ∧ tokA l 1 1 = apE ds (tokL ((lns l).drop i) (1 + i))) ⟨[], [], _, _, _, rfl, ?_, .nil, s2.trans (spl ▸ s3), upd_same, by rw [List.length_nil, Nat.zero_add]; exact sm, ?_⟩ (fun i σ H' _ ⟨_, _, _, _, _, _, _, _, _, z, _⟩ => SqL.of z) ?_ ?_
        · exact (upd_ne qp).trans upd_same
        · rw [ap_nil, List.drop_zero]
          exact (tok_lines l.length l 1 (Nat.le_refl _)).symm
        · rintro i x σ H2 H2' hi ⟨xs, ds, v1, v3, v4, rfl, q1, q2, q3, q4, q5, q6⟩ ⟨t, y1, y2, rfl, ht, rfl, e1, e2⟩
          cases e1
          have hil : i < (lns l).length := by omega
          have gm : (lns l)[i]? = some (lns l)[i] := List.getElem?_eq_getElem hil
          have gd : (lns l).drop i = (lns l)[i] :: (lns l).drop (i + 1) := List.drop_eq_getElem_cons hil
          generalize (lns l)[i] = m at gm gd
          have e2' : y2 = .str (S m) := by
            have z : (List.map V.str (List.map S (lns l)))[i]? = some y2 := e2
            rw [List.getElem?_map, List.getElem?_map, gm] at z
            cases z
            rfl
          subst e2'
          have m10 : ∀ c ∈ m, c ≠ 10 := fun c hc z => lns_flat l m (List.mem_of_getElem? gm) (z ▸ hc)
          rw [gd, List.map_cons, List.sum_cons] at q5
          rw [gd, tokL] at q6
          have tp : p ≠ t := ne_of_none q1 ht
          have a1 : Same H2 (upd H2 t (.tup [.int (i : Nat), .str (S m)])) := fun b o z => (upd_ne (ne_of_none z ht)).trans z
          have q1' := a1 _ _ q1
          refine ⟨t, _, rfl, SqT.of upd_same, rfl, _, _, rfl, _, _, rfl, rfl, ?_⟩
          refine ⟨_, rfl, Or.inl ⟨rfl, _, SqL.of q1'⟩, _, rfl, _, rfl, _, _, rfl, rfl, m, i + 1, rfl, by omega, by omega, m10, ?_, ?_⟩
          · intro rows e H3 r zs s3' hr' hr3 pz lz
            have rp : r ≠ p := fun z => by rw [z, q1'] at hr'; cases hr'
            refine ⟨p, r, xs, zs, rfl, rfl, s3' _ _ q1', hr3, by omega, xs ++ zs, ds ++ rows, _, _, _, rfl, upd_same, ?_, ?_, ?_, ?_, ?_⟩
            · exact paired_app' (Paired.imp2 (fun _ _ z => ((RowAt.same z a1).same s3').put (s3' _ _ q1')) q2) (Paired.imp2 (fun _ _ z => RowAt.put z (s3' _ _ q1')) pz)
            · exact fun b o z => (upd_ne (hpH z)).trans (s3' _ _ (a1 _ _ (q3 _ _ z)))
            · exact (upd_ne (Ne.symm qp)).trans (s3' _ _ (a1 _ _ q4))
            · rw [List.length_append]; omega
            · rw [q6, show 1 + i = i + 1 by omega, e]
              show apE ds (apE rows _) = _
              rw [ap_ap, show i + 1 + 1 = 1 + (i + 1) by omega]
          · intro ln col e H3 d s3' hx
            refine kf (by omega) ln col ?_ H3 d (fun b o z => s3' _ _ (a1 _ _ (q3 _ _ z))) hx
            rw [q6, show 1 + i = i + 1 by omega, e]
            rfl
        · rintro σ H2 ⟨xs, ds, v1, v3, v4, rfl, q1, q2, q3, q4, q5, q6⟩
          rw [List.drop_eq_nil_of_le (by omega)] at q6
          refine ⟨_, rfl, kt (by omega) ds ?_ H2 p xs q3 q1 q2 (by omega)⟩
          rw [q6, tokL]
          show Except.ok (ds ++ []) = _
          rw [List.append_nil]
end
end N07

set_option linter.all false
set_option maxRecDepth 100000
set_option maxHeartbeats 4000000
namespace N07
open PySem PySem.Spec PyProof.Rows L2 N01
abbrev sTold : Stmt := top 22
abbrev sLong : Stmt := top 23
def tCl : Str := "text is not closed"
def spTold : Sp := fun vs H Q _ => ∃ l : List Nat, vs = [.str (S l)] ∧ l.length ≤ 12000 ∧ (∀ c ∈ l, okC c = true) ∧
  (∀ rows, tokA l 1 1 = .ok rows → ∀ H' p xs, Same H H' → H' p = some (.lst xs) → Paired (RowAt H') xs rows → xs.length ≤ l.length + 1 → Q (.ref p) H') ∧
  (∀ ln col, tokA l 1 1 = .error (ln, col) → ∀ H' p, Same H H' → H' p = some (.tup [.str "refused", .int ln, .int col, .str tCl]) → Q (.ref p) H')
theorem tf_line {ln col : Nat} {wd : Str} : List.lookup ("line" : Str) (tfF ln col wd) = some (V.int ln) := by
  unfold tfF
  rw [lookup_put, if_neg (by decide +kernel), lookup_put, if_neg (by decide +kernel), lookup_put, if_pos rfl]
theorem tf_col {ln col : Nat} {wd : Str} : List.lookup ("column" : Str) (tfF ln col wd) = some (V.int col) := by
  unfold tfF
  rw [lookup_put, if_neg (by decide +kernel), lookup_put, if_pos rfl]
theorem tf_words {ln col : Nat} {wd : Str} : List.lookup ("words" : Str) (tfF ln col wd) = some (V.str wd) := by
  unfold tfF
  rw [lookup_put, if_pos rfl]
structure TxtR (K : PySem.W.Frag) (mg : Str → Option Value) (CO CF CT : Addr) : Prop where
  gO : mg "OutOfRange" = some (.ref CO)
  gF : mg "FarError" = some (.ref CF)
  gT : mg "TextFault" = some (.ref CT)
  isi : mg "isinstance" = none
  xf : XfC K CT
  ec : ExcCls K CT
  no1 : PySem.W.findIn K (.ref CT) "line" = some none
  no2 : PySem.W.findIn K (.ref CT) "column" = some none
  no3 : PySem.W.findIn K (.ref CT) "words" = some none
  exm : PySem.W.exmOne K (.ref CT) (.ref CF) = some true
  k1 : PySem.W.kitOne K (.ref CT) (.ref CT) = some true
  k2 : PySem.W.kitOne K (.ref CT) (.ref CO) = some false
section
variable {P : Program} {w : World} {K : PySem.W.Frag} {mg : Str → Option Value} {base : Heap} {CO CF CT fI : Addr}
theorem scTd : FnScope ["text", "told", "e"] ["text"] (defScope sTold) := ⟨rfl, rfl, rfl, by decide +kernel, rfl, by decide +kernel, by decide +kernel⟩
theorem ok_told {f fA : Addr} {fd fdA : FuncData} (F : Fun K "_law_told" "_law_told" sTold f fd) (T : TxtR K mg CO CF CT) (GA : FnOk P w K mg base (L2.CX P w) 4 fA fdA ["text"] (spSplit CO CT)) (bA : Binds K fdA ["text"] []) (gA : mg "split_text" = some (.ref fA)) (kA : PySem.W.keepIn K (.ref fA) = true) :
    FnOk P w K mg base CX0 5 f fd ["text"] spTold := by
  refine F.ok scTd (fun vs H Q E h => ?_) (fun cdv A outer s H vs Q E hr h => ?_)
  · obtain ⟨l, rfl, _⟩ := h
    rfl
  · obtain ⟨l, rfl, hl, hs, kt, kf⟩ := h
    refine ⟨_, pss_cons (ps_try_as (i := 2) (tb := fun W => tAsg (tCallSD (spSplit CO CT) [] (WE W) (tCons (tVar 0) tNil)) (gName 1))
      (ts := fun a cls d => tSeq (tIfS (tAnd (tB (tCB (rIsX K CT a cls d) (tCons (tVar 2) (tCons (tC (.ref CT)) tNil)))) (tNot (tB (tCB (rIsX K CT a cls d) (tCons (tVar 2) (tCons (tC (.ref CO)) tNil))))))
        (tRet (tTup (tCons (tC (.str "refused")) (tCons (tXf a cls d CT "line" (tVar 2)) (tCons (tXf a cls d CT "column" (tVar 2)) (tCons (tXf a cls d CT "words" (tVar 2)) tNil)))))) tNext) (tRet (tC (.str "wrong"))))
      (Wout := fun _ _ _ _ => False) rfl rfl scTd.nd rfl rfl ⟨rfl, by decide, Or.inl T.gF⟩ takes0
      (fun W pn xe tk _ => pss_one (ps_set (i := 1) scTd.nd rfl (Or.inl rfl) (pe_callSD GA hr (by rfl) gA kA bA .nil (fun σ => passAt tk σ) (pa_cons (pv 0) pa_nil))))
      (fun a oe cls d pn hz hf => pss_cons (ps_if (PW.pt (pw_and (pt_val (pe_callB (call_isX T.ec hz hf) (by rfl) T.isi (by decide +kernel) (pa_cons (pv 2) (pa_cons (pe_glob (v := .ref CT) (by rfl) T.gT rfl) pa_nil))))
        (pw_and1 (pt_not (pt_val (pe_callB (call_isX T.ec hz hf) (by rfl) T.isi (by decide +kernel) (pa_cons (pv 2) (pa_cons (pe_glob (v := .ref CO) (by rfl) T.gO rfl) pa_nil))))))))
        (pss_one (ps_ret (pe_tup (pa_cons pe_str (pa_cons (pe_xf T.xf T.no1 hz hf (pv 2)) (pa_cons (pe_xf T.xf T.no2 hz hf (pv 2)) (pa_cons (pe_xf T.xf T.no3 hz hf (pv 2)) pa_nil))))))) pss_nil)
        (pss_one (ps_ret pe_str))))
      (pss_one (ps_ret (pv 1))), ?_⟩
    refine ⟨_, rfl, l, rfl, by omega, hs, fun _ rows e H1 p xs s1 h1 h2 h3 => ⟨_, rfl, kt rows e H1 p xs s1 h1 h2 h3⟩, fun _ ln col e H1 d s1 hx => ?_, fun z => absurd z (by omega)⟩
    refine ⟨true, T.exm, fun _ a na => ?_, fun q => Bool.noConfusion q⟩
    refine ⟨_, rfl, _, .ref CT, true, rfl, fun u r => r, rfl, ⟨d, _, rfl, hx⟩, T.k1, _, rfl, ?_⟩
    refine iteT ⟨_, rfl, _, .ref CO, false, rfl, fun u r => r, rfl, ⟨d, _, rfl, hx⟩, T.k2, _, rfl, ?_⟩
    refine iteT ⟨_, rfl, rfl, rfl, d, _, .int ln, rfl, hx, tf_line, _, rfl, rfl, rfl, d, _, .int col, rfl, hx, tf_col, _, rfl, rfl, rfl, d, _, .str tCl, rfl, hx, tf_words, (by show 4 ≤ sizeLine; decide), fun p hp => ?_⟩
    exact kf ln col e _ p (fun b o z => (upd_ne (ne_of_none (s1 b o z) hp)).trans (s1 b o z)) upd_same
end
end N07

set_option linter.all false
set_option maxRecDepth 100000
set_option maxHeartbeats 4000000
namespace N07
open PySem PySem.Spec PyProof.Rows L2 N01
theorem mulOk_mid {z : Str} {n : Int} (h1 : z.length ≤ 10) (h2 : n ≤ 20000) (h3 : -1000 ≤ n) : MulOk z n := by
  refine ⟨?_, fun hn hc => ?_, fun hn hc => ?_⟩
  · rw [decide_eq_false (by omega), decide_eq_false (by omega)] <;> rfl
  · have hz : (z.length : Int) ≤ 10 := by omega
    have : (10 : Int) ≤ (2 ^ 63 - 1) / n := by
      refine (Int.le_ediv_iff_mul_le (by omega)).mpr ?_
      omega
    omega
  · have hb : z.length * n.toNat ≤ 10 * 20000 := Nat.mul_le_mul h1 (by omega)
    have hs : sizeLine = 16777216 := sizeLine_eq
    exact decide_eq_false (show ¬ (z.length * n.toNat > sizeLine) by omega)
theorem op_mul_mid {X : Cx} : OpR X (binaryOp .Mult) (fun x y H Q => ∃ z n, x = .str z ∧ y = .int n ∧ z.length ≤ 10 ∧ n ≤ 20000 ∧ -1000 ≤ n ∧ Q (.str (Txt.mul z n)) H) := by
  intro pins s σ H x y v u Q I rx ry h
  obtain ⟨z, n, rfl, rfl, h1, h2, h3, q⟩ := h
  obtain ⟨t, rfl⟩ := rx
  obtain ⟨t', rfl⟩ := ry
  exact SB.mul (mulOk_mid h1 h2 h3) fun t' k => ⟨.str _, H, I.tok _, ⟨_, rfl⟩, q⟩
theorem tok_blanks : ∀ (a : List Nat) (col : Nat), (∀ c ∈ a, c = 32) → tokA (a ++ [40]) 1 col = .ok [⟨[40], [40], 1, col + a.length⟩]
  | [], col, _ => by
    rw [List.nil_append, tok_par (.inl rfl), tok_nil]
    rfl
  | c :: a, col, h => by
    have hc := h c List.mem_cons_self
    subst hc
    rw [List.cons_append, tok_sp, tok_blanks a (col + 1) (fun d hd => h d (List.mem_cons_of_mem _ hd)), List.length_cons, show col + 1 + a.length = col + (a.length + 1) by omega]
def spLong : Sp := fun vs H Q _ => ∃ m : Int, vs = [.int m] ∧ (m = 12000 ∨ m = 12001) ∧ ∀ H', Same H H' → Q (if m = 12000 then .int 1 else .str "text") H'
structure TxtO (K : PySem.W.Frag) (mg : Str → Option Value) (CO : Addr) : Prop where
  gO : mg "OutOfRange" = some (.ref CO)
  len : mg "len" = none
  xf : XfC K CO
  noN : PySem.W.findIn K (.ref CO) "name" = some none
  exm : PySem.W.exmOne K (.ref CO) (.ref CO) = some true
section
variable {P : Program} {w : World} {K : PySem.W.Frag} {mg : Str → Option Value} {base : Heap} {CO CF CT fI : Addr}
theorem scLg : FnScope ["many", "e"] ["many"] (defScope sLong) := ⟨rfl, rfl, rfl, by decide +kernel, rfl, by decide +kernel, by decide +kernel⟩
theorem ok_long {f fA : Addr} {fd fdA : FuncData} (F : Fun K "_law_long" "_law_long" sLong f fd) (T : TxtO K mg CO) (GA : FnOk P w K mg base (L2.CX P w) 4 fA fdA ["text"] (spSplit CO CT)) (bA : Binds K fdA ["text"] []) (gA : mg "split_text" = some (.ref fA)) (kA : PySem.W.keepIn K (.ref fA) = true) :
    FnOk P w K mg base CX0 5 f fd ["many"] spLong := by
  refine F.ok scLg (fun vs H Q E h => ?_) (fun cdv A outer s H vs Q E hr h => ?_)
  · obtain ⟨m, rfl, _⟩ := h
    rfl
  · obtain ⟨m, rfl, hm, k⟩ := h
    have b16 : sizeLine = 16777216 := sizeLine_eq
    refine ⟨_, pss_one (ps_try_as (i := 1) (tb := fun W => tRet (tCB (fun xs H Q => ∃ p ys, xs = [.ref p] ∧ (SqL K H p ys ∨ SqT K H p ys) ∧ Q (.int ys.length) H) (tCons (tCallSD (spSplit CO CT) [] (WE W) (tCons (tOp (fun x y H Q => ∃ i j, x = .str i ∧ y = .str j ∧ i.length + j.length ≤ sizeLine ∧ Q (.str (i ++ j)) H)
        (tOp (fun x y H Q => ∃ z n, x = .str z ∧ y = .int n ∧ z.length ≤ 10 ∧ n ≤ 20000 ∧ -1000 ≤ n ∧ Q (.str (Txt.mul z n)) H) (tC (.str " ")) (tOp (rI0 fun i j => V.int (i - j)) (tVar 0) (tC (.int 1)))) (tC (.str "("))) tNil)) tNil)))
      (ts := fun a cls d => tRet (tXf a cls d CO "name" (tVar 1))) (Wout := fun _ _ _ _ => False) rfl rfl scLg.nd rfl rfl ⟨rfl, by decide, Or.inl T.gO⟩ takes0
      (fun W pn xe tk _ => pss_one (ps_ret (pe_callB call_len_seq (by rfl) T.len PySem.boot_len (pa_cons (pe_callSD GA hr (by rfl) gA kA bA .nil (fun σ => passAt tk σ) (pa_cons (pe_op op_add_str (pe_op op_mul_mid pe_str (pe_op op_sub (pv 0) pe_int)) pe_str) pa_nil)) pa_nil))))
      (fun a oe cls d pn hz hf => pss_one (ps_ret (pe_xf T.xf T.noN hz hf (pv 1))))), ?_⟩
    have sl : (Str.ofString " ").length = 1 := by decide +kernel
    have ol : (Str.ofString "(").length = 1 := by decide +kernel
    have ml : (Txt.mul (Str.ofString " ") (m - 1)).length = (m - 1).toNat := by rw [mul_len, sl, Nat.one_mul]
    have ma : ∀ c ∈ (Txt.mul (Str.ofString " ") (m - 1)).cps.toList, c = 32 := fun c hc => by
      have z := allc_mul (p := fun c => decide (c = 32)) (z := Str.ofString " ") (m - 1) (by unfold AllC; decide +kernel)
      exact of_decide_eq_true (z c hc)
    have pl : (Str.ofString "(").cps.toList = [40] := by decide +kernel
    have el : Txt.mul (Str.ofString " ") (m - 1) ++ Str.ofString "(" = S ((Txt.mul (Str.ofString " ") (m - 1)).cps.toList ++ [40]) := by
      rw [← pl, ← app_list, S_of]
    have ll : ((Txt.mul (Str.ofString " ") (m - 1)).cps.toList ++ [40]).length = (m - 1).toNat + 1 := by
      rw [List.length_append, len_list, ml]
      rfl
    refine ⟨_, rfl, _, _, rfl, rfl, _, _, rfl, rfl, by rw [sl]; decide, by omega, by omega, _, _, rfl, rfl, by rw [ml, ol]; omega, ?_⟩
    rw [el]
    refine ⟨_, rfl, by omega, fun c hc => ?_, fun hle rows e H1 p xs s1 h1 h2 h3 => ?_, fun hle ln col e => ?_, fun hgt H1 d s1 hx => ?_⟩
    · rcases List.mem_append.mp hc with z | z
      · rw [ma c z]; decide
      · rw [List.mem_singleton.mp z]; decide
    · rw [tok_blanks _ 1 ma] at e
      cases e
      have hx := h2.length
      refine ⟨p, xs, rfl, .inl (SqL.of h1), ?_⟩
      have z := k H1 s1
      rw [if_pos (by omega)] at z
      rw [hx]
      exact z
    · rw [tok_blanks _ 1 ma] at e
      cases e
    · refine ⟨true, T.exm, fun _ a na => ?_, fun q => Bool.noConfusion q⟩
      refine ⟨_, rfl, rfl, rfl, d, _, _, rfl, hx, rfl, ?_⟩
      have z := k H1 s1
      rw [if_neg (by omega)] at z
      exact z
end
end N07

set_option linter.all false
set_option maxRecDepth 100000
set_option maxHeartbeats 8000000
namespace N07
open PySem PySem.Spec PyProof.Rows L2 N01
abbrev sLaw : Stmt := top 24
def spLaw (K : PySem.W.Frag) : Sp := fun vs H Q _ => ∃ (a : Addr) (ns : List Int), vs = [.ref a] ∧ SqL K H a (ns.map V.int) ∧ ns.length ≤ 63 ∧ ∀ H', Q (.bl true) H'
structure TxtW (mg : Str → Option Value) : Prop where
  range : mg "range" = none
  bm : ∃ t, mg "BOOK_MOST" = some (.int 12000 t)
structure JN (b pd gL pl dl : Addr) : Prop where
  n1 : b ≠ pd
  n2 : b ≠ gL
  n3 : b ≠ pl
  n4 : b ≠ dl
  n5 : pd ≠ pl
  n6 : pd ≠ dl
  n7 : gL ≠ pl
  n8 : gL ≠ dl
  n9 : pl ≠ dl
def GAPS : List Str := [" ", "  ", "\n", "\n \n", " # ( \" no\n", "#)\n"]
structure JJ (b pd gL pl dl : Addr) (ms : List Int) (H : Hp) (q : Nat × Nat) (xs : List V) (ds : List Row) : Prop where
  hb : ∃ k : Nat, H b = some (.lst [.ref pd, .int k])
  hd : H pd = some (.lst (ms.map V.int))
  lp : ms.length ≤ 4000
  hg : H gL = some (.lst (GAPS.map V.str))
  hp : H pl = some (.lst [.int (q.1 : Nat), .int (q.2 : Nat)])
  hx : H dl = some (.lst xs)
  hr : Paired (RowAt H) xs ds
section
variable {b pd gL pl dl : Addr} {ms : List Int} {H H' : Hp} {q q' : Nat × Nat} {xs : List V} {ds : List Row}
theorem JJ.box (J : JJ b pd gL pl dl ms H q xs ds) : BoxAt H b := by
  obtain ⟨k, e⟩ := J.hb
  exact ⟨pd, ms, k, e, J.hd, J.lp⟩
theorem JJ.kept (N : JN b pd gL pl dl) (J : JJ b pd gL pl dl ms H q xs ds) (k : Kept b H H') : JJ b pd gL pl dl ms H' q xs ds := by
  obtain ⟨j, e⟩ := J.hb
  refine ⟨k.box _ _ e, k.all _ _ J.hd N.n1.symm, J.lp, k.all _ _ J.hg N.n2.symm, k.all _ _ J.hp N.n3.symm, k.all _ _ J.hx N.n4.symm, Paired.imp2 (fun v r ⟨p, e1, e2⟩ => ⟨p, e1, k.all _ _ e2 fun z => ?_⟩) J.hr⟩
  rw [z, e] at e2
  cases e2
theorem JJ.same (J : JJ b pd gL pl dl ms H q xs ds) (s : Same H H') : JJ b pd gL pl dl ms H' q xs ds := by
  obtain ⟨j, e⟩ := J.hb
  exact ⟨⟨j, s _ _ e⟩, s _ _ J.hd, J.lp, s _ _ J.hg, s _ _ J.hp, s _ _ J.hx, Paired.imp2 (fun v r h => h.same s) J.hr⟩
theorem JJ.kp (N : JN b pd gL pl dl) (J : JJ b pd gL pl dl ms H q xs ds) (k : Kp pl H H') (h : H' pl = some (.lst [.int (q'.1 : Nat), .int (q'.2 : Nat)])) : JJ b pd gL pl dl ms H' q' xs ds := by
  obtain ⟨j, e⟩ := J.hb
  refine ⟨⟨j, k _ _ e N.n3⟩, k _ _ J.hd N.n5, J.lp, k _ _ J.hg N.n7, h, k _ _ J.hx N.n9.symm, Paired.imp2 (fun v r ⟨p, e1, e2⟩ => ⟨p, e1, k _ _ e2 fun z => ?_⟩) J.hr⟩
  have := J.hp
  rw [← z, e2] at this
  cases this
theorem JJ.app (N : JN b pd gL pl dl) (J : JJ b pd gL pl dl ms H q xs ds) {v : V} {r : Row} (h : RowAt H v r) : JJ b pd gL pl dl ms (upd H dl (.lst (xs ++ [v]))) q (xs ++ [v]) (ds ++ [r]) := by
  obtain ⟨j, e⟩ := J.hb
  exact ⟨⟨j, (upd_ne N.n4).trans e⟩, (upd_ne N.n6).trans J.hd, J.lp, (upd_ne N.n8).trans J.hg, (upd_ne N.n9).trans J.hp, upd_same, snoc2 (h.put J.hx) (Paired.imp2 (fun v r h => h.put J.hx) J.hr)⟩
end
/-! rows as data -/
def Row.dat (r : Row) : PyData := .tuple [.str (S r.kind), .str (S r.txt), .int (r.ln : Nat), .int (r.col : Nat)]
def Row.fine (r : Row) : Prop := (∀ c ∈ r.kind, c < 1114112) ∧ ∀ c ∈ r.txt, c < 1114112
theorem strOk_S {l : List Nat} (h : ∀ c ∈ l, c < 1114112) : PyData.strOk (S l) = true := by
  unfold PyData.strOk S
  rw [List.all_toArray]
  exact List.all_eq_true.mpr fun c hc => decide_eq_true (h c hc)
theorem rows_lay : ∀ {ds : List Row}, (∀ r ∈ ds, r.fine) → PyData.canLayAll0 (ds.map Row.dat) = true ∧ PyData.depthAll (ds.map Row.dat) ≤ 1
  | [], _ => ⟨rfl, Nat.zero_le _⟩
  | r :: ds, h => by
    obtain ⟨h1, h2⟩ := rows_lay fun d hd => h d (List.mem_cons_of_mem _ hd)
    obtain ⟨f1, f2⟩ := h r List.mem_cons_self
    refine ⟨?_, ?_⟩
    · rw [List.map_cons, PyData.canLayAll0, h1, Bool.and_true]
      show PyData.canLay0 (.tuple _) = true
      rw [PyData.canLay0, PyData.canLayAll0, PyData.canLayAll0, PyData.canLayAll0, PyData.canLayAll0, PyData.canLayAll0, PyData.canLay0, PyData.canLay0, PyData.canLay0, PyData.canLay0, strOk_S f1, strOk_S f2]
      rfl
    · rw [List.map_cons, PyData.depthAll]
      refine Nat.max_le.mpr ⟨?_, h2⟩
      exact Nat.le_refl 1
theorem rows_shaped {ds : List Row} (h : ∀ r ∈ ds, r.fine) : SeqAt.shaped (.list (ds.map Row.dat)) = true := by
  obtain ⟨h1, h2⟩ := rows_lay h
  unfold SeqAt.shaped
  rw [PyData.canLay0, h1, PyData.depth, decide_eq_true (by omega)]
  rfl
theorem rows_dp {K : PySem.W.Frag} {H : Hp} : ∀ {xs : List V} {ds : List Row}, Paired (RowAt H) xs ds → DpAll K H xs (ds.map Row.dat)
  | [], [], _ => .nil
  | _ :: _, _ :: _, .cons ⟨p, e, h⟩ t => .cons (e ▸ .tup (SqT.of h) (.cons (.str _) (.cons (.str _) (.cons (.int _) (.cons (.int _) .nil))))) (rows_dp t)
theorem TkAt.fine {t : Str} {k : Tk} (h : TkAt t k) (ln col : Nat) : (k.row ln col).fine := by
  have z : ∀ c ∈ k.text, c < 1114112 := fun c hc => by
    have y := h.sgn c (h.eq ▸ hc)
    unfold sgnC at y
    rw [Bool.and_eq_true, Bool.and_eq_true] at y
    have := of_decide_eq_true y.1.2
    omega
  cases k with
  | par c => exact ⟨z, z⟩
  | quo a => exact ⟨(by decide : ∀ c ∈ kT, c < 1114112), fun c hc => z c (List.mem_cons_of_mem _ (List.mem_append_left _ hc))⟩
  | wrd w => exact ⟨(by decide : ∀ c ∈ kW, c < 1114112), z⟩
structure GapAt (t : Str) : Prop where
  gap : Gap t.cps.toList
  len : t.length ≤ 10
  ok : AllC okC t
theorem okC_of {t : Str} (h : t.cps.toList.all okC = true) : AllC okC t := fun c hc => List.all_eq_true.mp h c hc
theorem gap_all : ∀ t ∈ GAPS, GapAt t ∧ t.cps.toList ≠ [] := by
  have e1 : (Str.ofString " ").cps.toList = [32] := by decide +kernel
  have e2 : (Str.ofString "  ").cps.toList = [32, 32] := by decide +kernel
  have e3 : (Str.ofString "\n").cps.toList = [10] := by decide +kernel
  have e4 : (Str.ofString "\n \n").cps.toList = [10, 32, 10] := by decide +kernel
  have e5 : (Str.ofString " # ( \" no\n").cps.toList = 32 :: 35 :: ([32, 40, 32, 34, 32, 110, 111] ++ 10 :: []) := by decide +kernel
  have e6 : (Str.ofString "#)\n").cps.toList = 35 :: ([41] ++ 10 :: []) := by decide +kernel
  intro t ht
  unfold GAPS at ht
  simp only [List.mem_cons, List.not_mem_nil, or_false] at ht
  rcases ht with rfl | rfl | rfl | rfl | rfl | rfl
  · exact ⟨⟨e1 ▸ .sp .nil, by decide +kernel, okC_of (by decide +kernel)⟩, by rw [e1]; simp⟩
  · exact ⟨⟨e2 ▸ .sp (.sp .nil), by decide +kernel, okC_of (by decide +kernel)⟩, by rw [e2]; simp⟩
  · exact ⟨⟨e3 ▸ .nl .nil, by decide +kernel, okC_of (by decide +kernel)⟩, by rw [e3]; simp⟩
  · exact ⟨⟨e4 ▸ .nl (.sp (.nl .nil)), by decide +kernel, okC_of (by decide +kernel)⟩, by rw [e4]; simp⟩
  · exact ⟨⟨e5 ▸ .sp (.cm (by decide) .nil), by decide +kernel, okC_of (by decide +kernel)⟩, by rw [e5]; simp⟩
  · exact ⟨⟨e6 ▸ .cm (by decide) .nil, by decide +kernel, okC_of (by decide +kernel)⟩, by rw [e6]; simp⟩
def STARTS : List Str := ["", " ", "\n", "# first\n"]
theorem nil_list : (Str.ofString "").cps.toList = [] := by decide +kernel
theorem start_all : ∀ t ∈ STARTS, GapAt t := by
  have e2 : (Str.ofString "# first\n").cps.toList = 35 :: ([32, 102, 105, 114, 115, 116] ++ 10 :: []) := by decide +kernel
  have e1 : (Str.ofString " ").cps.toList = [32] := by decide +kernel
  have e3 : (Str.ofString "\n").cps.toList = [10] := by decide +kernel
  intro t ht
  unfold STARTS at ht
  simp only [List.mem_cons, List.not_mem_nil, or_false] at ht
  rcases ht with rfl | rfl | rfl | rfl
  · exact ⟨nil_list ▸ .nil, by decide +kernel, okC_of (by decide +kernel)⟩
  · exact ⟨e1 ▸ .sp .nil, by decide +kernel, okC_of (by decide +kernel)⟩
  · exact ⟨e3 ▸ .nl .nil, by decide +kernel, okC_of (by decide +kernel)⟩
  · exact ⟨e2 ▸ .cm (by decide) .nil, by decide +kernel, okC_of (by decide +kernel)⟩
def MORES : List Str := ["", "\n", "\n\"more\""]
theorem more_all : ∀ t ∈ MORES, (t.cps.toList = [] ∨ ∃ u, t.cps.toList = 10 :: u) ∧ t.length ≤ 10 ∧ AllC okC t := by
  have e3 : (Str.ofString "\n").cps.toList = [10] := by decide +kernel
  have e4 : (Str.ofString "\n\"more\"").cps.toList = 10 :: [34, 109, 111, 114, 101, 34] := by decide +kernel
  intro t ht
  unfold MORES at ht
  simp only [List.mem_cons, List.not_mem_nil, or_false] at ht
  rcases ht with rfl | rfl | rfl
  · exact ⟨.inl nil_list, by decide +kernel, okC_of (by decide +kernel)⟩
  · exact ⟨.inr ⟨_, e3⟩, by decide +kernel, okC_of (by decide +kernel)⟩
  · exact ⟨.inr ⟨_, e4⟩, by decide +kernel, okC_of (by decide +kernel)⟩
def LASTS : List Str := ["", "\n", " # end"]
theorem last_all : ∀ t ∈ LASTS, np t.cps.toList ∧ (∀ p : Nat × Nat, tokA t.cps.toList p.1 p.2 = .ok []) ∧ t.length ≤ 10 ∧ AllC okC t := by
  have e3 : (Str.ofString "\n").cps.toList = [10] := by decide +kernel
  have e4 : (Str.ofString " # end").cps.toList = 32 :: 35 :: [32, 101, 110, 100] := by decide +kernel
  intro t ht
  unfold LASTS at ht
  simp only [List.mem_cons, List.not_mem_nil, or_false] at ht
  rcases ht with rfl | rfl | rfl
  · exact ⟨(by rw [nil_list]; exact fun c hc => nomatch hc), fun p => by rw [nil_list, tok_nil], by decide +kernel, okC_of (by decide +kernel)⟩
  · exact ⟨(by rw [e3]; exact fun c hc => by cases hc; decide), fun p => by rw [e3, tok_nl, tok_nil], by decide +kernel, okC_of (by decide +kernel)⟩
  · exact ⟨(by rw [e4]; exact fun c hc => by cases hc; decide), fun p => by rw [e4, tok_sp, tok_hash, dw_all (by decide), tok_nil], by decide +kernel, okC_of (by decide +kernel)⟩
section
variable {P : Program} {w : World} {K : PySem.W.Frag} {mg : Str → Option Value} {base : Heap}
theorem set_join {i : Nat} {x : V} {σ : L2.St} {H : Hp} {N : L2.St → Hp → Prop} (h : N (σ.set i (some x)) H) : gName i x σ H N := h
theorem seq_join {t u : TS} {D : Ends} {σ : L2.St} {H : Hp} (R : L2.St → Hp → Prop) (h1 : ∀ N : L2.St → Hp → Prop, (∀ σ' H', R σ' H' → N σ' H') → t { D with nx := N } σ H) (h2 : ∀ σ' H', R σ' H' → u D σ' H') : tSeq t u D σ H := h1 _ h2
theorem scLaw : FnScope ["script", "box", "gaps", "text", "place", "due", "last", "turn", "token", "gap", "rest"] ["script"] (defScope sLaw) := ⟨rfl, rfl, rfl, by decide +kernel, rfl, by decide +kernel, by decide +kernel⟩
theorem law_term {f : Addr} {fd : FuncData} (F : Fun K "law" "law" sLaw f fd) (T : TxtW mg)
    (cD : Cal P w K mg base 2 "_law_digits" ["script", "first", "last"] (spDig K)) (cW : Cal P w K mg base 1 "_law_draw" ["box", "many"] spDraw) (cM : Cal P w K mg base 1 "_law_move" ["place", "text"] spMove) (cK : Cal P w K mg base 3 "_law_token" ["box"] spTok)
    (cR : Cal P w K mg base 1 "_law_row" ["token", "line", "column"] spRow) (cP : Cal P w K mg base 1 "_law_plain" ["token"] spPlain) (cT : Cal P w K mg base 5 "_law_told" ["text"] spTold) (cL : Cal P w K mg base 5 "_law_long" ["many"] spLong) :
    FnOk P w K mg base CX0 6 f fd ["script"] (spLaw K) := by
  refine F.ok scLaw (fun vs H Q E h => ?_) (fun cdv A outer s H vs Q E hr h => ?_)
  · obtain ⟨a, ns, rfl, _⟩ := h
    rfl
  · obtain ⟨a, ns, rfl, hs, hlen, k⟩ := h
    obtain ⟨tb, hb⟩ := T.bm
    have hu : (A.deeper (envOfC "law" (defScope sLaw) s.heap.objs.size f cdv)).units + 64 < cLine := hr.units
    refine ⟨_, pss_cons (ps_set (i := 1) scLaw.nd rfl (Or.inl rfl) (pe_lst (pa_cons (pe_cal cD hr (by decide) (by rfl) (pa_cons (pv 0) (pa_cons pe_int (pa_cons pe_int pa_nil)))) (pa_cons pe_int pa_nil))))
      (pss_cons (ps_set (i := 2) scLaw.nd rfl (Or.inl rfl) (pe_lst (pa_cons pe_str (pa_cons pe_str (pa_cons pe_str (pa_cons pe_str (pa_cons pe_str (pa_cons pe_str pa_nil))))))))
      (pss_cons (ps_set (i := 3) scLaw.nd rfl (Or.inl rfl) (pe_ix ix_list (pe_lst (pa_cons pe_str (pa_cons pe_str (pa_cons pe_str (pa_cons pe_str pa_nil))))) (pe_cal cW hr (by decide) (by rfl) (pa_cons (pv 1) (pa_cons pe_int pa_nil))) (fun _ _ => rfl)))
      (pss_cons (ps_set (i := 4) scLaw.nd rfl (Or.inl rfl) (pe_lst (pa_cons pe_int (pa_cons pe_int pa_nil))))
      (pss_cons (ps_expr (pe_cal cM hr (by decide) (by rfl) (pa_cons (pv 4) (pa_cons (pv 3) pa_nil))))
      (pss_cons (ps_set (i := 5) scLaw.nd rfl (Or.inl rfl) (pe_lst pa_nil))
      (pss_cons (ps_set (i := 6) scLaw.nd rfl (Or.inl rfl) pe_str)
      (pss_cons (ps_for PassesOwn.never rfl (pi_range1 (by rfl) T.range (pa_cons (pe_cal cW hr (by decide) (by rfl) (pa_cons (pv 1) (pa_cons pe_int pa_nil))) pa_nil)) (pg_name (i := 7) scLaw.nd rfl (Or.inl rfl))
        (pss_cons (ps_set (i := 8) scLaw.nd rfl (Or.inl rfl) (pe_cal cK hr (by decide) (by rfl) (pa_cons (pv 1) pa_nil)))
        (pss_cons (ps_set (i := 9) scLaw.nd rfl (Or.inl rfl) (pe_ix ix_list (pv 2) (pe_cal cW hr (by decide) (by rfl) (pa_cons (pv 1) (pa_cons pe_int pa_nil))) (fun _ _ => rfl)))
        (pss_cons (ps_if (PW.pt (pw_and (pt_cmpR op_eq (pe_cal cW hr (by decide) (by rfl) (pa_cons (pv 1) (pa_cons pe_int pa_nil))) pe_int (nomark _)) (pw_and1 (pt_not (PW.pt (pw_and (pt_val (pe_cal cP hr (by decide) (by rfl) (pa_cons (pv 8) pa_nil))) (pw_and (pt_cmpR op_ne (pv 6) pe_str (nomark _)) (pw_and1 (pt_val (pe_cal cP hr (by decide) (by rfl) (pa_cons (pv 6) pa_nil)))))))))))
          (pss_one (ps_set (i := 9) scLaw.nd rfl (Or.inl rfl) pe_str)) pss_nil)
        (pss_cons (ps_expr (pe_cal cM hr (by decide) (by rfl) (pa_cons (pv 4) (pa_cons (pv 9) pa_nil))))
        (pss_cons (ps_expr (pe_bm PySem.F.plainAttrs_list PySem.F.slot_list_append PySem.F.type_list_append mt_append (pv 5) (pa_cons (pe_cal cR hr (by decide) (by rfl) (pa_cons (pv 8) (pa_cons (pe_ix ix_list (pv 4) pe_int (fun _ _ => rfl)) (pa_cons (pe_ix ix_list (pv 4) pe_int (fun _ _ => rfl)) pa_nil)))) pa_nil)))
        (pss_cons (ps_expr (pe_cal cM hr (by decide) (by rfl) (pa_cons (pv 4) (pa_cons (pv 8) pa_nil))))
        (pss_cons (ps_set (i := 3) scLaw.nd rfl (Or.inl rfl) (pe_op op_add_str (pe_op op_add_str (pv 3) (pv 9)) (pv 8)))
        (pss_one (ps_set (i := 6) scLaw.nd rfl (Or.inl rfl) (pv 8)))))))))))
      (pss_cons (ps_if (pt_cmpR op_eq (pe_cal cW hr (by decide) (by rfl) (pa_cons (pv 1) (pa_cons pe_int pa_nil))) pe_int (nomark _))
        (pss_cons (ps_set (i := 10) scLaw.nd rfl (Or.inl rfl) (pe_op op_add_str pe_str (pe_op op_mul_str pe_str (pe_cal cW hr (by decide) (by rfl) (pa_cons (pv 1) (pa_cons pe_int pa_nil))))))
        (pss_cons (ps_expr (pe_cal cM hr (by decide) (by rfl) (pa_cons (pv 4) (pa_cons (pv 10) pa_nil))))
        (pss_cons (ps_set (i := 5) scLaw.nd rfl (Or.inl rfl) (pe_tup (pa_cons pe_str (pa_cons (pe_ix ix_list (pv 4) pe_int (fun _ _ => rfl)) (pa_cons (pe_ix ix_list (pv 4) pe_int (fun _ _ => rfl)) (pa_cons pe_str pa_nil))))))
        (pss_one (ps_set (i := 3) scLaw.nd rfl (Or.inl rfl) (pe_op op_add_str (pe_op op_add_str (pv 3) (pv 10)) (pe_ix ix_list (pe_lst (pa_cons pe_str (pa_cons pe_str (pa_cons pe_str pa_nil)))) (pe_cal cW hr (by decide) (by rfl) (pa_cons (pv 1) (pa_cons pe_int pa_nil))) (fun _ _ => rfl))))))))
        (pss_one (ps_set (i := 3) scLaw.nd rfl (Or.inl rfl) (pe_op op_add_str (pv 3) (pe_ix ix_list (pe_lst (pa_cons pe_str (pa_cons pe_str (pa_cons pe_str pa_nil)))) (pe_cal cW hr (by decide) (by rfl) (pa_cons (pv 1) (pa_cons pe_int pa_nil))) (fun _ _ => rfl))))))
      (pss_cons (ps_if (PW.pt (pw_or (pt_cmpR op_ne (pe_glob (v := .int 12000) rfl hb ⟨_, rfl⟩) pe_int (nomark _)) (pw_or1 (pt_cmpR (op_neD hu) (pe_cal cT hr (by decide) (by rfl) (pa_cons (pv 3) pa_nil)) (pv 5) (nomark _))))) (pss_one (ps_ret pe_bl)) pss_nil)
      (pss_one (ps_ret (pe_and (pe_cmpR op_eq (pe_cal cL hr (by decide) (by rfl) (pa_cons pe_int pa_nil)) pe_int (nomark _)) (pe_one (pe_cmpR op_eq (pe_cal cL hr (by decide) (by rfl) (pa_cons pe_int pa_nil)) pe_str (nomark _))))))))))))))), ?_⟩
    have b16 : sizeLine = 16777216 := sizeLine_eq
    have fin : ∀ (σ' : L2.St) (H' : Hp), tAndV (tOp rEq (tCall spLong [] E0 (tCons (tC (V.int 12000)) tNil)) (tC (V.int 1))) (tOp rEq (tCall spLong [] E0 (tCons (tC (V.int 12001)) tNil)) (tC (V.str (Str.ofString "text")))) σ' H' Q := by
      intro σ' H'
      refine ⟨12000, rfl, .inl rfl, fun H18 s18 => ⟨rfl, _, rfl, ?_⟩⟩
      rw [if_pos (by decide +kernel)]
      refine ⟨12001, rfl, .inr rfl, fun H19 s19 => ⟨rfl, ?_⟩⟩
      rw [decide_eq_true (by decide +kernel)]
      exact k _
    refine ⟨_, rfl, a, ns, rfl, hs, fun H1 pd ms s1 np1 p1 lp => ⟨(by show 2 ≤ sizeLine; decide), fun b nb => ?_⟩⟩
    have n_pd : b ≠ pd := (ne_of_none p1 nb).symm
    have B0 : BoxAt (upd H1 b (.lst [.ref pd, .int 0])) b := ⟨pd, ms, 0, upd_same, (upd_ne n_pd.symm).trans p1, lp⟩
    refine ⟨(by show 6 ≤ sizeLine; decide), fun gL ng => ?_⟩
    have n_g := B0.ne ng
    refine ⟨(by show 4 ≤ sizeLine; decide), fun sL nsL => ?_⟩
    have s3 : Same (upd H1 b (.lst [.ref pd, .int 0])) (upd (upd (upd H1 b (.lst [.ref pd, .int 0])) gL (.lst (GAPS.map V.str))) sL (.lst (STARTS.map V.str))) := fun c o z => (upd_ne (ne_of_none ((upd_ne (ne_of_none z ng)).trans z) nsL)).trans ((upd_ne (ne_of_none z ng)).trans z)
    have n_s : b ≠ sL := (B0.new ng).ne nsL
    refine ⟨_, rfl, b, 4, rfl, by decide, B0.same s3, fun z H4 z0 z1 B4 k4 => ?_⟩
    have hs4 := k4.all _ _ upd_same n_s.symm
    have hg4 := k4.all _ _ ((upd_ne (ne_of_none upd_same nsL)).trans upd_same) n_g.symm
    have hd4 : H4 pd = some (.lst (ms.map V.int)) := k4.all _ _ (s3 _ _ ((upd_ne n_pd.symm).trans p1)) n_pd.symm
    obtain ⟨t0, ht0⟩ : ∃ t, STARTS[z.toNat]? = some t := ⟨_, List.getElem?_eq_getElem (by show z.toNat < 4; omega)⟩
    have g0 := start_all t0 (List.mem_of_getElem? ht0)
    obtain ⟨m, rfl⟩ : ∃ m : Nat, z = m := ⟨z.toNat, by omega⟩
    have ht0' : (STARTS.map V.str)[m]? = some (.str t0) := by
      rw [List.getElem?_map]
      rw [Int.toNat_natCast] at ht0
      rw [ht0]
      rfl
    refine ⟨sL, _, m, _, rfl, rfl, SqL.of hs4, atI_nat ht0', ?_⟩
    refine ⟨(by show 2 ≤ sizeLine; decide), fun pl npl => ?_⟩
    have n_pl := B4.ne npl
    have s5 := fun o => (fun c u z => (upd_ne (ne_of_none z npl)).trans z : Same H4 (upd H4 pl o))
    refine ⟨_, rfl, _, rfl, pl, t0, (1, 1), rfl, Nat.le_trans g0.len (by decide), upd_same, fun H6 k6 p6 => ?_⟩
    have sv6 : ∀ c o, H4 c = some o → H6 c = some o := fun c o z => k6 _ _ (s5 _ _ _ z) (ne_of_none z npl)
    refine ⟨Nat.zero_le _, fun dl ndl => ?_⟩
    have s7 : Same H6 (upd H6 dl (.lst [])) := fun c u z => (upd_ne (ne_of_none z ndl)).trans z
    obtain ⟨_, _, j4, hb4, _, _⟩ := B4
    have N : JN b pd gL pl dl := ⟨n_pd, n_g, n_pl, ne_of_none (sv6 _ _ hb4) ndl, ne_of_none hd4 npl, ne_of_none (sv6 _ _ hd4) ndl, ne_of_none hg4 npl, ne_of_none (sv6 _ _ hg4) ndl, ne_of_none p6 ndl⟩
    have hb4' : ∃ k : Nat, H4 b = some (.lst [.ref pd, .int k]) := k4.box pd 0 (s3 _ _ upd_same)
    obtain ⟨j4', hb4'⟩ := hb4'
    have J7 : JJ b pd gL pl dl ms (upd H6 dl (.lst [])) (mv (1, 1) t0.cps.toList) [] [] := ⟨⟨j4', s7 _ _ (sv6 _ _ hb4')⟩, s7 _ _ (sv6 _ _ hd4), lp, s7 _ _ (sv6 _ _ hg4), s7 _ _ p6, upd_same, .nil⟩
    refine ⟨_, rfl, b, 41, rfl, by decide, J7.box, fun tz H8 w0 w1 B8 k8 => ⟨_, rfl, by omega, by omega, for_range (lo := 0) (n := tz.toNat) (fun i σ H' => ∃ (v7 v8 v9 : Option V) (T L : Str) (q : Nat × Nat) (xs : List V) (ds : List Row) (pf : Bool), σ = [some (.ref a), some (.ref b), some (.ref gL), some (.str T), some (.ref pl), some (.ref dl), some (.str L), v7, v8, v9, none] ∧
        JJ b pd gL pl dl ms H' q xs ds ∧ Run T.cps.toList ds q pf ∧ T.length ≤ 10 + 60 * i ∧ AllC okC T ∧ xs.length ≤ i ∧ (∀ r ∈ ds, r.fine) ∧ ((L = "" ∧ pf = false) ∨ ∃ k, TkAt L k ∧ k.plain = pf))
      ⟨none, none, none, t0, "", _, [], [], false, rfl, J7.kept N k8, Run.start g0.gap, by have := g0.len; omega, g0.ok, Nat.zero_le _, (fun r hr => nomatch hr), .inl ⟨rfl, rfl⟩⟩ ?_ ?_⟩⟩
    · rintro i σ H9 hi ⟨v7, v8, v9, T, L, q, xs, ds, pf, rfl, J9, R9, hT, oT, hx, hf, hL⟩
      refine ⟨_, rfl, b, rfl, J9.box, fun t k H10 tk k10 => ?_⟩
      have J10 := J9.kept N k10
      refine ⟨_, rfl, _, rfl, b, 6, rfl, by decide, J10.box, fun gz H11 y0 y1 B11 k11 => ?_⟩
      have J11 := J10.kept N k11
      obtain ⟨g, hg⟩ : ∃ t, GAPS[gz.toNat]? = some t := ⟨_, List.getElem?_eq_getElem (by show gz.toNat < 6; omega)⟩
      obtain ⟨ga, gne⟩ := gap_all g (List.mem_of_getElem? hg)
      obtain ⟨gm, rfl⟩ : ∃ m : Nat, gz = m := ⟨gz.toNat, by omega⟩
      have hg' : (GAPS.map V.str)[gm]? = some (.str g) := by
        rw [List.getElem?_map]
        rw [Int.toNat_natCast] at hg
        rw [hg]
        rfl
      refine ⟨gL, _, gm, _, rfl, rfl, SqL.of J11.hg, atI_nat hg', ?_⟩
      dsimp only [List.set]
      refine seq_join (t := tIfS _ _ _) (fun σ' H' => ∃ G : Str, σ' = [some (.ref a), some (.ref b), some (.ref gL), some (.str T), some (.ref pl), some (.ref dl), some (.str L), some (.int (0 + i)), some (.str t), some (.str G), none] ∧ JJ b pd gL pl dl ms H' q xs ds ∧ GapAt G ∧ (G.cps.toList = [] → pf = true → k.plain = false)) ?_ ?_
      · intro M hM
        refine ⟨_, rfl, b, 2, rfl, by decide, J11.box, fun z H12 d0 d1 B12 k12 => ⟨rfl, _, rfl, ?_⟩⟩
        have J12 := J11.kept N k12
        refine ite2 (fun _ => ?_) (fun _ => hM _ _ ⟨g, rfl, J12, ga, fun z => absurd z gne⟩)
        refine ⟨_, rfl, t, k, rfl, tk, fun H13 s13 => ⟨_, rfl, ?_⟩⟩
        have J13 := J12.same s13
        have ge : GapAt "" := start_all "" (by unfold STARTS; exact List.mem_cons_self)
        cases e : k.plain with
        | false => exact iteF (iteT (hM _ _ ⟨"", rfl, J13, ge, fun _ _ => e⟩))
        | true =>
          refine iteT ⟨_, rfl, rfl, _, rfl, ?_⟩
          rcases hL with ⟨rfl, hpf⟩ | ⟨k', tk', hp⟩
          · rw [decide_eq_true rfl]
            exact iteF (iteT (hM _ _ ⟨"", rfl, J13, ge, fun _ y => by rw [hpf] at y; cases y⟩))
          · have ne : V.str L ≠ V.str "" := fun y => by
              have y' : L = "" := V.str.inj y
              have z := tk'.eq
              rw [y', nil_list] at z
              cases k' with
              | par c => cases z
              | quo a => cases z
              | wrd w => exact tk'.ok.1 z.symm
            rw [decide_eq_false ne]
            refine iteT ⟨_, rfl, L, k', rfl, tk', fun H14 s14 => ⟨_, rfl, ?_⟩⟩
            cases e' : k'.plain with
            | false => exact iteT (hM _ _ ⟨"", rfl, J13.same s14, ge, fun _ y => by rw [← hp, e'] at y; cases y⟩)
            | true => exact iteF (hM _ _ ⟨g, rfl, J13.same s14, ga, fun z => absurd z gne⟩)
      · rintro σ' H12 ⟨G, rfl, J12, gG, hG⟩
        refine ⟨_, rfl, _, rfl, pl, G, q, rfl, Nat.le_trans gG.len (by decide), J12.hp, fun H13 k13 p13 => ?_⟩
        have J13 := J12.kp N k13 p13
        refine ⟨_, rfl, .inl ⟨rfl, _, SqL.of J13.hx⟩, _, rfl, _, rfl, pl, _, _, _, rfl, rfl, SqL.of J13.hp, atI_nat (j := 0) rfl, _, rfl, pl, _, _, _, rfl, rfl, SqL.of J13.hp, atI_nat (j := 1) rfl, t, k, _, _, rfl, tk, fun H14 v s14 hv => ?_⟩
        have J14 := J13.same s14
        refine ⟨dl, xs, v, rfl, rfl, J14.hx, by omega, ?_⟩
        have J15 := J14.app N hv
        refine ⟨_, rfl, _, rfl, pl, t, _, rfl, Nat.le_trans tk.len (by decide), J15.hp, fun H16 k16 p16 => ?_⟩
        have J16 := J15.kp N k16 p16
        have lG := gG.len
        have lt := tk.len
        refine ⟨_, rfl, _, rfl, _, _, rfl, rfl, by omega, _, rfl, _, _, rfl, rfl, by rw [app_len]; omega, _, rfl, ?_⟩
        refine ⟨_, _, _, T ++ G ++ t, t, _, _, _, k.plain, rfl, J16, ?_, by rw [app_len, app_len]; omega, allc_app (allc_app oT gG.ok) (fun c hc => ?_), by rw [List.length_append, List.length_singleton]; omega, fun r hr => ?_, .inr ⟨k, tk, rfl⟩⟩
        · rw [app_list, app_list, tk.eq]
          exact R9.next gG.gap tk.ok hG
        · unfold okC
          rw [tk.sgn c hc, Bool.or_true]
        · rcases List.mem_append.mp hr with z | z
          · exact hf r z
          · rw [List.mem_singleton.mp z]
            exact tk.fine _ _
    · rintro σ H9 ⟨v7, v8, v9, T, L, q, xs, ds, pf, rfl, J9, R9, hT, oT, hx, hf, hL⟩
      dsimp only
      refine seq_join (t := tIfS _ _ _) (fun σ' H' => ∃ (T : Str) (dv : V) (w10 : Option V), σ' = [some (.ref a), some (.ref b), some (.ref gL), some (.str T), some (.ref pl), some dv, some (.str L), v7, v8, v9, w10] ∧ AllC okC T ∧ T.length ≤ 12000 ∧
          ((∃ (p : Addr) (xs : List V) (ds : List Row), dv = .ref p ∧ H' p = some (.lst xs) ∧ Paired (RowAt H') xs ds ∧ (∀ r ∈ ds, r.fine) ∧ tokA T.cps.toList 1 1 = .ok ds) ∨
           (∃ (p : Addr) (ln col : Nat), dv = .ref p ∧ H' p = some (.tup [.str "refused", .int ln, .int col, .str tCl]) ∧ tokA T.cps.toList 1 1 = .error (ln, col)))) ?_ ?_
      · intro M hM
        refine ⟨_, rfl, b, 3, rfl, by decide, J9.box, fun z H10 d0 d1 B10 k10 => ⟨rfl, _, rfl, ?_⟩⟩
        have J10 := J9.kept N k10
        clear d0 d1
        refine ite2 (fun _ => ?_) (fun _ => ?_)
        · refine ⟨_, rfl, b, 5, rfl, by decide, J10.box, fun z' H11 d0 d1 B11 k11 => ⟨_, _, rfl, rfl, by decide +kernel, by omega, by omega, ?_⟩⟩
          have J11 := J10.kept N k11
          have xl : (Str.ofString "x").length = 1 := by decide +kernel
          have ml : (Txt.mul (Str.ofString "x") z').length = z'.toNat := by rw [mul_len, xl, Nat.one_mul]
          have ol : (Str.ofString " \"open").length = 6 := by decide +kernel
          have ma : AllC txtC (Txt.mul (Str.ofString "x") z') := allc_mul _ (by unfold AllC; decide +kernel)
          have oe : (Str.ofString " \"open").cps.toList = [32, 34, 111, 112, 101, 110] := by decide +kernel
          refine ⟨_, _, rfl, rfl, by rw [ol, ml]; omega, ?_⟩
          obtain ⟨R, hR⟩ : ∃ R, R = Str.ofString " \"open" ++ Txt.mul (Str.ofString "x") z' := ⟨_, rfl⟩
          have Rl : R.length ≤ 11 := by rw [hR, app_len, ol, ml]; omega
          have Re : R.cps.toList = 32 :: 34 :: ([111, 112, 101, 110] ++ (Txt.mul (Str.ofString "x") z').cps.toList) := by rw [hR, app_list, oe]; rfl
          have Ro : AllC okC R := by
            rw [hR]
            refine allc_app (okC_of (by decide +kernel)) fun c hc => ?_
            unfold okC
            rw [(txt_sgn (ma c hc)).1, Bool.or_true]
          rw [← hR]
          refine ⟨_, rfl, _, rfl, pl, R, q, rfl, by omega, J11.hp, fun H12 k12 p12 => ?_⟩
          have J12 := J11.kp N k12 p12
          refine ⟨_, rfl, pl, _, _, _, rfl, rfl, SqL.of J12.hp, atI_nat (j := 0) rfl, _, rfl, pl, _, _, _, rfl, rfl, SqL.of J12.hp, atI_nat (j := 1) rfl, (by show 4 ≤ sizeLine; decide), fun tp ntp => ?_⟩
          have s13 := fun o => (fun c u z => (upd_ne (ne_of_none z ntp)).trans z : Same H12 (upd H12 tp o))
          refine ⟨_, rfl, _, rfl, _, _, rfl, rfl, by omega, (by show 3 ≤ sizeLine; decide), fun mL nmL => ?_⟩
          have J14 := (J12.same (s13 (.tup [.str "refused", .int (mv q R.cps.toList).1, .int (mv q R.cps.toList).2, .str tCl]))).same (fun c u z => (upd_ne (ne_of_none z nmL)).trans z : Same _ (upd _ mL (.lst (MORES.map V.str))))
          refine ⟨_, rfl, b, 3, rfl, by decide, J14.box, fun y H15 y0 y1 B15 k15 => ?_⟩
          obtain ⟨mt, hmt⟩ : ∃ t, MORES[y.toNat]? = some t := ⟨_, List.getElem?_eq_getElem (by show y.toNat < 3; omega)⟩
          obtain ⟨m1, m2, m3⟩ := more_all mt (List.mem_of_getElem? hmt)
          obtain ⟨ym, rfl⟩ : ∃ m : Nat, y = m := ⟨y.toNat, by omega⟩
          have hm' : (MORES.map V.str)[ym]? = some (.str mt) := by
            rw [List.getElem?_map]
            rw [Int.toNat_natCast] at hmt
            rw [hmt]
            rfl
          refine ⟨mL, _, ym, _, rfl, rfl, SqL.of (k15.all _ _ upd_same (fun z => by
            have := J14.box
            obtain ⟨_, _, _, e, _⟩ := (J12.same (s13 (.tup [.str "refused", .int (mv q R.cps.toList).1, .int (mv q R.cps.toList).2, .str tCl]))).box
            exact ne_of_none e nmL z.symm)), atI_nat hm', _, _, rfl, rfl, by rw [app_len]; omega, ?_⟩
          refine hM _ _ ⟨_, _, _, rfl, allc_app (allc_app oT Ro) m3, by rw [app_len, app_len]; omega, .inr ⟨tp, _, _, rfl, k15.all _ _ ((upd_ne (ne_of_none upd_same nmL)).trans upd_same) (fun z => ?_), ?_⟩⟩
          · obtain ⟨_, _, _, e, _⟩ := J12.box
            exact ne_of_none e ntp z.symm
          · rw [app_list, app_list, List.append_assoc, Re]
            refine R9.open (a := [111, 112, 101, 110] ++ (Txt.mul (Str.ofString "x") z').cps.toList) (fun c hc => ?_) m1
            rcases List.mem_append.mp hc with y | y
            · exact (by decide : ∀ c ∈ ([111, 112, 101, 110] : List Nat), c ≠ 34 ∧ c ≠ 10) c y
            · exact (txt_sgn (ma c y)).2
        · refine ⟨_, rfl, (by show 3 ≤ sizeLine; decide), fun mL nmL => ?_⟩
          have J14 := J10.same (fun c u z => (upd_ne (ne_of_none z nmL)).trans z : Same _ (upd _ mL (.lst (LASTS.map V.str))))
          refine ⟨_, rfl, b, 3, rfl, by decide, J14.box, fun y H15 y0 y1 B15 k15 => ?_⟩
          have J15 := J14.kept N k15
          obtain ⟨mt, hmt⟩ : ∃ t, LASTS[y.toNat]? = some t := ⟨_, List.getElem?_eq_getElem (by show y.toNat < 3; omega)⟩
          obtain ⟨m1, m2, m3, m4⟩ := last_all mt (List.mem_of_getElem? hmt)
          obtain ⟨ym, rfl⟩ : ∃ m : Nat, y = m := ⟨y.toNat, by omega⟩
          have hm' : (LASTS.map V.str)[ym]? = some (.str mt) := by
            rw [List.getElem?_map]
            rw [Int.toNat_natCast] at hmt
            rw [hmt]
            rfl
          refine ⟨mL, _, ym, _, rfl, rfl, SqL.of (k15.all _ _ upd_same (fun z => by
            obtain ⟨_, _, _, e, _⟩ := J10.box
            exact ne_of_none e nmL z.symm)), atI_nat hm', _, _, rfl, rfl, by omega, ?_⟩
          refine hM _ _ ⟨_, _, _, rfl, allc_app oT m4, by rw [app_len]; omega, .inl ⟨dl, xs, ds, rfl, J15.hx, J15.hr, hf, ?_⟩⟩
          rw [app_list]
          exact R9.done m1 m2
      · rintro σ' H16 ⟨T', dv, w10, rfl, oT', lT', hdv⟩
        refine ⟨rfl, _, rfl, iteNS rfl ?_⟩
        refine ⟨_, rfl, T'.cps.toList, by rw [S_of]; rfl, by rw [len_list]; exact lT', oT', fun rows e H17 p xs' s17 hp hr hl => ?_, fun ln col e H17 p s17 hp => ?_⟩
        · rcases hdv with ⟨p', ys, ds', rfl, hp', hr', hf', e'⟩ | ⟨_, _, _, _, _, e'⟩
          · rw [e'] at e
            cases e
            refine ⟨_, rfl, .list (rows.map Row.dat), .list (rows.map Row.dat), .lst (SqL.of hp) (rows_dp hr), .lst (SqL.of (s17 _ _ hp')) (rows_dp (Paired.imp2 (fun v r h => h.same s17) hr')), rows_shaped hf', rows_shaped hf', _, rfl, ?_⟩
            rw [SeqAt.eqv_refl _ (SeqAt.canLay_of_shaped (rows_shaped hf'))]
            exact iteF (fin _ _)
          · rw [e'] at e
            cases e
        · rcases hdv with ⟨_, _, _, _, _, _, _, e'⟩ | ⟨p', ln', col', rfl, hp', e'⟩
          · rw [e'] at e
            cases e
          · rw [e'] at e
            cases e
            have sh : SeqAt.shaped (.tuple [.str "refused", .int (ln : Nat), .int (col : Nat), .str tCl]) = true := by
              have o1 : PyData.strOk (Str.ofString "refused") = true := by decide +kernel
              have o2 : PyData.strOk tCl = true := by decide +kernel
              unfold SeqAt.shaped
              rw [PyData.canLay0, PyData.canLayAll0, PyData.canLayAll0, PyData.canLayAll0, PyData.canLayAll0, PyData.canLayAll0, PyData.canLay0, PyData.canLay0, PyData.canLay0, PyData.canLay0, o1, o2]
              rfl
            refine ⟨_, rfl, .tuple [.str "refused", .int (ln : Nat), .int (col : Nat), .str tCl], .tuple [.str "refused", .int (ln : Nat), .int (col : Nat), .str tCl], .tup (SqT.of hp) (.cons (.str _) (.cons (.int _) (.cons (.int _) (.cons (.str _) .nil)))), .tup (SqT.of (s17 _ _ hp')) (.cons (.str _) (.cons (.int _) (.cons (.int _) (.cons (.str _) .nil)))), sh, sh, _, rfl, ?_⟩
            rw [SeqAt.eqv_refl _ (SeqAt.canLay_of_shaped sh)]
            exact iteF (fin _ _)
end
end N07

set_option linter.all false
set_option maxRecDepth 100000
set_option maxHeartbeats 8000000
namespace N07
open PySem PySem.Spec PyProof.Rows L2 N01
section
variable {K : PySem.W.Frag}
theorem fund_of {x qual : Str} {st : Stmt} {f : Addr} {oc : Value} {od an : Option Addr} {osl : Array (Option Value)} {kV doc pm cdv ct : Value} (l : K.lookup f = some ⟨oc, od, .func (PySem.W.fnOf x qual (defArgs st) (defBody st) (defScope st) .none kV doc pm an cdv ct), osl⟩)
    (c : PySem.W.codeIn K cdv qual = true) (k : PySem.W.keepIn K (.ref f) = true) : FunD K x qual (defArgs st) (defBody st) (defScope st) [] [] f (PySem.W.fnOf x qual (defArgs st) (defBody st) (defScope st) .none kV doc pm an cdv ct) := ⟨⟨oc, od, .none, kV, doc, pm, an, cdv, ct, osl, rfl, l, c, Or.inl ⟨rfl, rfl⟩, Or.inl rfl⟩, k⟩
end
theorem all_mk {l : PySem.W.OpenLaw} {w : World} {K : PySem.W.Frag} {h : Heap} {mg : Str → Option Value} {fa : Addr} {CO iO ccO cdaO : Addr} {nmO qO : Str} {NCO : Addr} {bsO bmO : List Value} {snO : List Str} {subO : List Value} {abO : Bool} {colO : Option Bool} {ddO : Option Addr} {m0O m1O m2O m3O m5O : Option Value} {oiO diO piO tiO : Value} {odiO aniO : Option Addr} {sliO : Array (Option Value)} {cclO clO : Value} {cddO cldO : Option Addr} {cvsO : Array Value} {ccsO cslO : Array (Option Value)} {fileO : Str} {tfO : Tok} {CT iT ccT cdaT : Addr} {nmT qT : Str} {NCT : Addr} {bsT bmT : List Value} {snT : List Str} {subT : List Value} {abT : Bool} {colT : Option Bool} {ddT : Option Addr} {m0T m1T m2T m3T m5T : Option Value} {oiT diT piT tiT : Value} {odiT aniT : Option Addr} {sliT : Array (Option Value)} {cclT clT : Value} {cddT cldT : Option Addr} {cvsT : Array Value} {ccsT cslT : Array (Option Value)} {fileT : Str} {tfT : Tok} {CF : Addr} {fSg : Addr} {odSg anSg : Option Addr} {slSg : Array (Option Value)} {ocSg kVSg dcSg pmSg cdSg ctSg : Value} {fSp : Addr} {odSp anSp : Option Addr} {slSp : Array (Option Value)} {ocSp kVSp dcSp pmSp cdSp ctSp : Value} {fLn : Addr} {odLn anLn : Option Addr} {slLn : Array (Option Value)} {ocLn kVLn dcLn pmLn cdLn ctLn : Value} {fEn : Addr} {odEn anEn : Option Addr} {slEn : Array (Option Value)} {ocEn kVEn dcEn pmEn cdEn ctEn : Value} {fC : Addr} {odC anC : Option Addr} {slC : Array (Option Value)} {ocC kVC dcC pmC cdC ctC : Value} {fD : Addr} {odD anD : Option Addr} {slD : Array (Option Value)} {ocD kVD dcD pmD cdD ctD : Value} {fW : Addr} {odW anW : Option Addr} {slW : Array (Option Value)} {ocW kVW dcW pmW cdW ctW : Value} {fLt : Addr} {odLt anLt : Option Addr} {slLt : Array (Option Value)} {ocLt kVLt dcLt pmLt cdLt ctLt : Value} {fWd : Addr} {odWd anWd : Option Addr} {slWd : Array (Option Value)} {ocWd kVWd dcWd pmWd cdWd ctWd : Value} {fTk : Addr} {odTk anTk : Option Addr} {slTk : Array (Option Value)} {ocTk kVTk dcTk pmTk cdTk ctTk : Value} {fRw : Addr} {odRw anRw : Option Addr} {slRw : Array (Option Value)} {ocRw kVRw dcRw pmRw cdRw ctRw : Value} {fMv : Addr} {odMv anMv : Option Addr} {slMv : Array (Option Value)} {ocMv kVMv dcMv pmMv cdMv ctMv : Value} {fPl : Addr} {odPl anPl : Option Addr} {slPl : Array (Option Value)} {ocPl kVPl dcPl pmPl cdPl ctPl : Value} {fTd : Addr} {odTd anTd : Option Addr} {slTd : Array (Option Value)} {ocTd kVTd dcTd pmTd cdTd ctTd : Value} {fLg : Addr} {odLg anLg : Option Addr} {slLg : Array (Option Value)} {ocLg kVLg dcLg pmLg cdLg ctLg : Value} {fL : Addr} {odL anL : Option Addr} {slL : Array (Option Value)} {ocL kVL dcL pmL cdL ctL : Value} {tk_PERCENT : Tok} {tk_BOOK_MOST : Tok} (X : K.In h) (G : h.Ns mainGlobals mg) (hfa : mg "law" = some (.ref fa))
    (anyT : PySem.W.nsIn K cStatics "thirdparty.any" = some none)
    (ltop : (l.prog.main.scope.names.lookup ("super" : Str)).isSome = false)
    (z_super : PySem.W.nsIn K mainGlobals "super" = some none)
    (z_len : PySem.W.nsIn K mainGlobals "len" = some none)
    (z_all : PySem.W.nsIn K mainGlobals "all" = some none)
    (z_enumerate : PySem.W.nsIn K mainGlobals "enumerate" = some none)
    (z_isinstance : PySem.W.nsIn K mainGlobals "isinstance" = some none)
    (z_int : PySem.W.nsIn K mainGlobals "int" = some none)
    (z_range : PySem.W.nsIn K mainGlobals "range" = some none)
    (z_ord : PySem.W.nsIn K mainGlobals "ord" = some none)
    (aCO : PySem.W.nsIn K mainGlobals "OutOfRange" = some (some (.ref CO)))
    (xO : K.lookup CO = some (excClassObj nmO qO CO NCO bsO bmO true snO subO abO colO ddO m0O m1O m2O m3O m5O "ValueError.__new__"))
    (saO : PySem.W.findIn K (.ref CO) "__setattr__" = some (some (.builtin "object.__setattr__")))
    (gaO : PySem.W.findIn K (.ref CO) "__getattribute__" = some (some (.builtin "BaseException.__getattribute__")))
    (ggO : PySem.W.findIn K (.ref CO) "__getattr__" = some none)
    (noO0 : PySem.W.findIn K (.ref CO) "name" = some none)
    (icO : PySem.W.findIn K (.ref CO) "__init__" = some (some (.ref iO)))
    (tyiO : PySem.W.typeIn K (.ref iO) = some (.type "function"))
    (koO : PySem.W.keepIn K (.ref CO) = true)
    (exO : PySem.W.subIn K (.ref CO) (.type "BaseException") = some true)
    (tyO : PySem.W.typeIn K (.ref CO) = some (.type "type"))
    (veO : PySem.W.subIn K (.ref CO) (.type "ValueError") = some true)
    (owO : PySem.W.mroIn K CO (.ref CO) = some true)
    (hdO : PySem.W.hasDictIn K CO = true)
    (liO : K.lookup iO = some ⟨oiO, odiO, .func (PySem.W.ksFn "__init__" "OutOfRange.__init__" (defArgs PySem.OorX.sInit) (defBody PySem.OorX.sInit) (defScope PySem.OorX.sInit) .none .none diO piO aniO (.ref cdaO) tiO ccO), sliO⟩)
    (ciO : PySem.W.codeIn K (.ref cdaO) "OutOfRange.__init__" = true)
    (ldO : K.lookup cdaO = some ⟨cclO, cddO, .fields cvsO, ccsO⟩)
    (lvO : cvsO[2]? = some (.str fileO tfO))
    (lfO : ((l.prog.main.file : Str) == fileO) = true)
    (lcO : K.lookup ccO = some ⟨clO, cldO, .cell (some (.ref CO)), cslO⟩)
    (aCT : PySem.W.nsIn K mainGlobals "TextFault" = some (some (.ref CT)))
    (xT : K.lookup CT = some (excClassObj nmT qT CT NCT bsT bmT true snT subT abT colT ddT m0T m1T m2T m3T m5T "ValueError.__new__"))
    (saT : PySem.W.findIn K (.ref CT) "__setattr__" = some (some (.builtin "object.__setattr__")))
    (gaT : PySem.W.findIn K (.ref CT) "__getattribute__" = some (some (.builtin "BaseException.__getattribute__")))
    (ggT : PySem.W.findIn K (.ref CT) "__getattr__" = some none)
    (noT0 : PySem.W.findIn K (.ref CT) "line" = some none)
    (noT1 : PySem.W.findIn K (.ref CT) "column" = some none)
    (noT2 : PySem.W.findIn K (.ref CT) "words" = some none)
    (icT : PySem.W.findIn K (.ref CT) "__init__" = some (some (.ref iT)))
    (tyiT : PySem.W.typeIn K (.ref iT) = some (.type "function"))
    (koT : PySem.W.keepIn K (.ref CT) = true)
    (exT : PySem.W.subIn K (.ref CT) (.type "BaseException") = some true)
    (tyT : PySem.W.typeIn K (.ref CT) = some (.type "type"))
    (veT : PySem.W.subIn K (.ref CT) (.type "ValueError") = some true)
    (owT : PySem.W.mroIn K CT (.ref CT) = some true)
    (hdT : PySem.W.hasDictIn K CT = true)
    (liT : K.lookup iT = some ⟨oiT, odiT, .func (PySem.W.ksFn "__init__" "TextFault.__init__" (defArgs PySem.OorX.sTf) (defBody PySem.OorX.sTf) (defScope PySem.OorX.sTf) .none .none diT piT aniT (.ref cdaT) tiT ccT), sliT⟩)
    (ciT : PySem.W.codeIn K (.ref cdaT) "TextFault.__init__" = true)
    (ldT : K.lookup cdaT = some ⟨cclT, cddT, .fields cvsT, ccsT⟩)
    (lvT : cvsT[2]? = some (.str fileT tfT))
    (lfT : ((l.prog.main.file : Str) == fileT) = true)
    (lcT : K.lookup ccT = some ⟨clT, cldT, .cell (some (.ref CT)), cslT⟩)
    (aCF : PySem.W.nsIn K mainGlobals "FarError" = some (some (.ref CF)))
    (aSg : PySem.W.nsIn K mainGlobals "is_sign" = some (some (.ref fSg)))
    (lSg : K.lookup fSg = some ⟨ocSg, odSg, .func (PySem.W.fnOf "is_sign" "is_sign" (defArgs sSign) (defBody sSign) (defScope sSign) .none kVSg dcSg pmSg anSg cdSg ctSg), slSg⟩)
    (cSg : PySem.W.codeIn K cdSg "is_sign" = true)
    (kSg : PySem.W.keepIn K (.ref fSg) = true)
    (aSp : PySem.W.nsIn K mainGlobals "split_text" = some (some (.ref fSp)))
    (lSp : K.lookup fSp = some ⟨ocSp, odSp, .func (PySem.W.fnOf "split_text" "split_text" (defArgs sSplit) (defBody sSplit) (defScope sSplit) .none kVSp dcSp pmSp anSp cdSp ctSp), slSp⟩)
    (cSp : PySem.W.codeIn K cdSp "split_text" = true)
    (kSp : PySem.W.keepIn K (.ref fSp) = true)
    (aLn : PySem.W.nsIn K mainGlobals "split_line" = some (some (.ref fLn)))
    (lLn : K.lookup fLn = some ⟨ocLn, odLn, .func (PySem.W.fnOf "split_line" "split_line" (defArgs sLine) (defBody sLine) (defScope sLine) .none kVLn dcLn pmLn anLn cdLn ctLn), slLn⟩)
    (cLn : PySem.W.codeIn K cdLn "split_line" = true)
    (kLn : PySem.W.keepIn K (.ref fLn) = true)
    (aEn : PySem.W.nsIn K mainGlobals "token_end" = some (some (.ref fEn)))
    (lEn : K.lookup fEn = some ⟨ocEn, odEn, .func (PySem.W.fnOf "token_end" "token_end" (defArgs sEnd) (defBody sEnd) (defScope sEnd) .none kVEn dcEn pmEn anEn cdEn ctEn), slEn⟩)
    (cEn : PySem.W.codeIn K cdEn "token_end" = true)
    (kEn : PySem.W.keepIn K (.ref fEn) = true)
    (aC : PySem.W.nsIn K mainGlobals "_law_cell" = some (some (.ref fC)))
    (lC : K.lookup fC = some ⟨ocC, odC, .func (PySem.W.fnOf "_law_cell" "_law_cell" (defArgs sCell) (defBody sCell) (defScope sCell) .none kVC dcC pmC anC cdC ctC), slC⟩)
    (cC : PySem.W.codeIn K cdC "_law_cell" = true)
    (kC : PySem.W.keepIn K (.ref fC) = true)
    (aD : PySem.W.nsIn K mainGlobals "_law_digits" = some (some (.ref fD)))
    (lD : K.lookup fD = some ⟨ocD, odD, .func (PySem.W.fnOf "_law_digits" "_law_digits" (defArgs sDig) (defBody sDig) (defScope sDig) .none kVD dcD pmD anD cdD ctD), slD⟩)
    (cD : PySem.W.codeIn K cdD "_law_digits" = true)
    (kD : PySem.W.keepIn K (.ref fD) = true)
    (aW : PySem.W.nsIn K mainGlobals "_law_draw" = some (some (.ref fW)))
    (lW : K.lookup fW = some ⟨ocW, odW, .func (PySem.W.fnOf "_law_draw" "_law_draw" (defArgs sDraw) (defBody sDraw) (defScope sDraw) .none kVW dcW pmW anW cdW ctW), slW⟩)
    (cW : PySem.W.codeIn K cdW "_law_draw" = true)
    (kW : PySem.W.keepIn K (.ref fW) = true)
    (aLt : PySem.W.nsIn K mainGlobals "_law_text" = some (some (.ref fLt)))
    (lLt : K.lookup fLt = some ⟨ocLt, odLt, .func (PySem.W.fnOf "_law_text" "_law_text" (defArgs sTxt) (defBody sTxt) (defScope sTxt) .none kVLt dcLt pmLt anLt cdLt ctLt), slLt⟩)
    (cLt : PySem.W.codeIn K cdLt "_law_text" = true)
    (kLt : PySem.W.keepIn K (.ref fLt) = true)
    (aWd : PySem.W.nsIn K mainGlobals "_law_word" = some (some (.ref fWd)))
    (lWd : K.lookup fWd = some ⟨ocWd, odWd, .func (PySem.W.fnOf "_law_word" "_law_word" (defArgs sWord) (defBody sWord) (defScope sWord) .none kVWd dcWd pmWd anWd cdWd ctWd), slWd⟩)
    (cWd : PySem.W.codeIn K cdWd "_law_word" = true)
    (kWd : PySem.W.keepIn K (.ref fWd) = true)
    (aTk : PySem.W.nsIn K mainGlobals "_law_token" = some (some (.ref fTk)))
    (lTk : K.lookup fTk = some ⟨ocTk, odTk, .func (PySem.W.fnOf "_law_token" "_law_token" (defArgs sTok) (defBody sTok) (defScope sTok) .none kVTk dcTk pmTk anTk cdTk ctTk), slTk⟩)
    (cTk : PySem.W.codeIn K cdTk "_law_token" = true)
    (kTk : PySem.W.keepIn K (.ref fTk) = true)
    (aRw : PySem.W.nsIn K mainGlobals "_law_row" = some (some (.ref fRw)))
    (lRw : K.lookup fRw = some ⟨ocRw, odRw, .func (PySem.W.fnOf "_law_row" "_law_row" (defArgs sRow) (defBody sRow) (defScope sRow) .none kVRw dcRw pmRw anRw cdRw ctRw), slRw⟩)
    (cRw : PySem.W.codeIn K cdRw "_law_row" = true)
    (kRw : PySem.W.keepIn K (.ref fRw) = true)
    (aMv : PySem.W.nsIn K mainGlobals "_law_move" = some (some (.ref fMv)))
    (lMv : K.lookup fMv = some ⟨ocMv, odMv, .func (PySem.W.fnOf "_law_move" "_law_move" (defArgs sMove) (defBody sMove) (defScope sMove) .none kVMv dcMv pmMv anMv cdMv ctMv), slMv⟩)
    (cMv : PySem.W.codeIn K cdMv "_law_move" = true)
    (kMv : PySem.W.keepIn K (.ref fMv) = true)
    (aPl : PySem.W.nsIn K mainGlobals "_law_plain" = some (some (.ref fPl)))
    (lPl : K.lookup fPl = some ⟨ocPl, odPl, .func (PySem.W.fnOf "_law_plain" "_law_plain" (defArgs sPlain) (defBody sPlain) (defScope sPlain) .none kVPl dcPl pmPl anPl cdPl ctPl), slPl⟩)
    (cPl : PySem.W.codeIn K cdPl "_law_plain" = true)
    (kPl : PySem.W.keepIn K (.ref fPl) = true)
    (aTd : PySem.W.nsIn K mainGlobals "_law_told" = some (some (.ref fTd)))
    (lTd : K.lookup fTd = some ⟨ocTd, odTd, .func (PySem.W.fnOf "_law_told" "_law_told" (defArgs sTold) (defBody sTold) (defScope sTold) .none kVTd dcTd pmTd anTd cdTd ctTd), slTd⟩)
    (cTd : PySem.W.codeIn K cdTd "_law_told" = true)
    (kTd : PySem.W.keepIn K (.ref fTd) = true)
    (aLg : PySem.W.nsIn K mainGlobals "_law_long" = some (some (.ref fLg)))
    (lLg : K.lookup fLg = some ⟨ocLg, odLg, .func (PySem.W.fnOf "_law_long" "_law_long" (defArgs sLong) (defBody sLong) (defScope sLong) .none kVLg dcLg pmLg anLg cdLg ctLg), slLg⟩)
    (cLg : PySem.W.codeIn K cdLg "_law_long" = true)
    (kLg : PySem.W.keepIn K (.ref fLg) = true)
    (aL : PySem.W.nsIn K mainGlobals "law" = some (some (.ref fL)))
    (lL : K.lookup fL = some ⟨ocL, odL, .func (PySem.W.fnOf "law" "law" (defArgs sLaw) (defBody sLaw) (defScope sLaw) .none kVL dcL pmL anL cdL ctL), slL⟩)
    (cL : PySem.W.codeIn K cdL "law" = true)
    (kL : PySem.W.keepIn K (.ref fL) = true)
    (g_PERCENT : PySem.W.nsIn K mainGlobals "PERCENT" = some (some (.int 37 tk_PERCENT)))
    (g_BOOK_MOST : PySem.W.nsIn K mainGlobals "BOOK_MOST" = some (some (.int 12000 tk_BOOK_MOST)))
    (clA : PySem.W.findIn K (.ref CT) "__class__" = some (some (.builtin "object.__class__")))
    (clG : PySem.W.specialIn K (.builtin "object.__class__") "__get__" = some (some (.builtin "getset_descriptor.__get__")))
    (clT : PySem.W.takesIn K (.builtin "object.__class__") = some true)
    (isC : PySem.W.isClsIn K CT = true)
    (objC : PySem.W.mroIn K CT (.type "object") = some true)
    (hbO : PySem.HandSPX.refsVE bmO = true)
    (supO : PySem.W.ks_superIn K CO CO "__init__" = some (some (.builtin "ValueError.__init__")))
    (hbT : PySem.HandSPX.refsVE bmT = true)
    (supT : PySem.W.ks_superIn K CT CT "__init__" = some (some (.builtin "ValueError.__init__")))
    (exTF : PySem.W.exmOne K (.ref CT) (.ref CF) = some true)
    (exmO : PySem.W.exmOne K (.ref CO) (.ref CO) = some true)
    (kit2 : PySem.W.kitOne K (.ref CT) (.ref CO) = some false)
    : ∃ fd : FuncData, (∀ (s : Shared) (v : Value), BindsTo s fd ⟨[v], []⟩ [("script", v)]) ∧ ∀ base : Heap, K.In base → base.Ns mainGlobals mg → FnOk l.prog w K mg base CX0 6 fa fd ["script"] (spLaw K) := by
  have e := hfa.symm.trans (PySem.W.mg_of X G aL)
  cases e
  have g := fun {x : Str} {v : Value} (q : PySem.W.nsIn K mainGlobals x = some (some v)) => PySem.W.mg_of X G q
  have gn := fun {x : Str} (q : PySem.W.nsIn K mainGlobals x = some none) => PySem.W.mg_none_of X G q
  have OO : PySem.OorX.OorTxt l.prog K mg CO iO :=
    ⟨g aCO, ⟨nmO, qO, NCO, bsO, bmO, snO, subO, abO, colO, ddO, m0O, m1O, m2O, m3O, m5O, xO, hbO⟩, saO, noO0, icO, tyiO, koO, exO, tyO, supO, anyT, veO, owO, gn z_super, ltop,
      ⟨_, _, _, _, _, _, _, ccO, cdaO, _, _, cvsO, _, fileO, tfO, _, _, _, liO, ciO, ldO, lvO, lfO, lcO⟩⟩
  have xfO : XfC K CO := ⟨gaO, ggO, exO, hdO⟩
  have OT : PySem.OorX.TfTxt l.prog K mg CT iT :=
    ⟨g aCT, ⟨nmT, qT, NCT, bsT, bmT, snT, subT, abT, colT, ddT, m0T, m1T, m2T, m3T, m5T, xT, hbT⟩, saT, noT0, noT1, noT2, icT, tyiT, koT, exT, tyT, supT, anyT, veT, owT, gn z_super, ltop,
      ⟨_, _, _, _, _, _, _, ccT, cdaT, _, _, cvsT, _, fileT, tfT, _, _, _, liT, ciT, ldT, lvT, lfT, lcT⟩⟩
  have xfT : XfC K CT := ⟨gaT, ggT, exT, hdT⟩
  have FSg := fun_mk (st := sSign) lSg cSg kSg
  have DSg := fund_of (st := sSign) lSg cSg kSg
  have bSg := FSg.binds (ps := ["sign"]) fun _ _ _ _ _ _ us hl => match us, hl with | [_], _ => rfl
  have FSp := fun_mk (st := sSplit) lSp cSp kSp
  have DSp := fund_of (st := sSplit) lSp cSp kSp
  have bSp := FSp.binds (ps := ["text"]) fun _ _ _ _ _ _ us hl => match us, hl with | [_], _ => rfl
  have FLn := fun_mk (st := sLine) lLn cLn kLn
  have DLn := fund_of (st := sLine) lLn cLn kLn
  have bLn := FLn.binds (ps := ["line", "number"]) fun _ _ _ _ _ _ us hl => match us, hl with | [_, _], _ => rfl
  have FEn := fun_mk (st := sEnd) lEn cEn kEn
  have DEn := fund_of (st := sEnd) lEn cEn kEn
  have bEn := FEn.binds (ps := ["line", "at", "number"]) fun _ _ _ _ _ _ us hl => match us, hl with | [_, _, _], _ => rfl
  have FC := fun_mk (st := sCell) lC cC kC
  have DC := fund_of (st := sCell) lC cC kC
  have bC := FC.binds (ps := ["script", "k"]) fun _ _ _ _ _ _ us hl => match us, hl with | [_, _], _ => rfl
  have FD := fun_mk (st := sDig) lD cD kD
  have DD := fund_of (st := sDig) lD cD kD
  have bD := FD.binds (ps := ["script", "first", "last"]) fun _ _ _ _ _ _ us hl => match us, hl with | [_, _, _], _ => rfl
  have FW := fun_mk (st := sDraw) lW cW kW
  have DW := fund_of (st := sDraw) lW cW kW
  have bW := FW.binds (ps := ["box", "many"]) fun _ _ _ _ _ _ us hl => match us, hl with | [_, _], _ => rfl
  have FLt := fun_mk (st := sTxt) lLt cLt kLt
  have DLt := fund_of (st := sTxt) lLt cLt kLt
  have bLt := FLt.binds (ps := ["box"]) fun _ _ _ _ _ _ us hl => match us, hl with | [_], _ => rfl
  have FWd := fun_mk (st := sWord) lWd cWd kWd
  have DWd := fund_of (st := sWord) lWd cWd kWd
  have bWd := FWd.binds (ps := ["box"]) fun _ _ _ _ _ _ us hl => match us, hl with | [_], _ => rfl
  have FTk := fun_mk (st := sTok) lTk cTk kTk
  have DTk := fund_of (st := sTok) lTk cTk kTk
  have bTk := FTk.binds (ps := ["box"]) fun _ _ _ _ _ _ us hl => match us, hl with | [_], _ => rfl
  have FRw := fun_mk (st := sRow) lRw cRw kRw
  have DRw := fund_of (st := sRow) lRw cRw kRw
  have bRw := FRw.binds (ps := ["token", "line", "column"]) fun _ _ _ _ _ _ us hl => match us, hl with | [_, _, _], _ => rfl
  have FMv := fun_mk (st := sMove) lMv cMv kMv
  have DMv := fund_of (st := sMove) lMv cMv kMv
  have bMv := FMv.binds (ps := ["place", "text"]) fun _ _ _ _ _ _ us hl => match us, hl with | [_, _], _ => rfl
  have FPl := fun_mk (st := sPlain) lPl cPl kPl
  have DPl := fund_of (st := sPlain) lPl cPl kPl
  have bPl := FPl.binds (ps := ["token"]) fun _ _ _ _ _ _ us hl => match us, hl with | [_], _ => rfl
  have FTd := fun_mk (st := sTold) lTd cTd kTd
  have DTd := fund_of (st := sTold) lTd cTd kTd
  have bTd := FTd.binds (ps := ["text"]) fun _ _ _ _ _ _ us hl => match us, hl with | [_], _ => rfl
  have FLg := fun_mk (st := sLong) lLg cLg kLg
  have DLg := fund_of (st := sLong) lLg cLg kLg
  have bLg := FLg.binds (ps := ["many"]) fun _ _ _ _ _ _ us hl => match us, hl with | [_], _ => rfl
  have FL := fun_mk (st := sLaw) lL cL kL
  have DL := fund_of (st := sLaw) lL cL kL
  refine ⟨PySem.W.fnOf "law" "law" (defArgs sLaw) (defBody sLaw) (defScope sLaw) .none kVL dcL pmL anL cdL ctL, fun s v => .of_eq rfl, fun base _ _ => ?_⟩
  have TL : TxtL K mg := ⟨gn z_len, gn z_int, gn z_range⟩
  have TQ : TxtQ mg := { len := gn z_len, range := gn z_range }
  have TV : TxtV mg := { ord := gn z_ord, pc := ⟨_, g g_PERCENT⟩ }
  have TS : TxtS mg := ⟨gn z_len, gn z_all, gn z_enumerate, ⟨_, g g_BOOK_MOST⟩⟩
  have TO : TxtO K mg CO := ⟨g aCO, gn z_len, xfO, noO0, exmO⟩
  have TR : TxtR K mg CO CF CT := { gO := g aCO, gF := g aCF, gT := g aCT, isi := gn z_isinstance, xf := xfT, ec := ⟨isC, gaT, ggT, exT, clA, clG, clT, objC⟩, no1 := noT0, no2 := noT1, no3 := noT2, exm := exTF, k1 := by unfold PySem.W.kitOne; rw [if_pos (beq_self_eq_true _)], k2 := kit2 }
  have TW : TxtW mg := { range := gn z_range, bm := ⟨_, g g_BOOK_MOST⟩ }
  have gC' := ok_cell (P := l.prog) (w := w) (base := base) FC TL
  have gD' := ok_dig FD TL gC' bC (g aC) kC
  have cD' : Cal l.prog w K mg base 2 "_law_digits" ["script", "first", "last"] (spDig K) := ⟨_, _, gD', bD, g aD, kD⟩
  have cW' : Cal l.prog w K mg base 1 "_law_draw" ["box", "many"] spDraw := ⟨_, _, ok_draw FW TL, bW, g aW, kW⟩
  have cSg' : Cal l.prog w K mg base 1 "is_sign" ["sign"] spSign := ⟨_, _, ok_sign FSg TV, bSg, g aSg, kSg⟩
  have cLt' : Cal l.prog w K mg base 2 "_law_text" ["box"] spTxt := ⟨_, _, ok_txt FLt TQ cW', bLt, g aLt, kLt⟩
  have cWd' : Cal l.prog w K mg base 2 "_law_word" ["box"] spWord := ⟨_, _, ok_word FWd TQ cW', bWd, g aWd, kWd⟩
  have cTk' : Cal l.prog w K mg base 3 "_law_token" ["box"] spTok := ⟨_, _, ok_tok FTk cW' cLt' cWd', bTk, g aTk, kTk⟩
  have cRw' : Cal l.prog w K mg base 1 "_law_row" ["token", "line", "column"] spRow := ⟨_, _, ok_row FRw, bRw, g aRw, kRw⟩
  have cMv' : Cal l.prog w K mg base 1 "_law_move" ["place", "text"] spMove := ⟨_, _, ok_move FMv, bMv, g aMv, kMv⟩
  have cPl' : Cal l.prog w K mg base 1 "_law_plain" ["token"] spPlain := ⟨_, _, ok_plain FPl, bPl, g aPl, kPl⟩
  have gEn := ok_end (P := l.prog) (w := w) (base := base) DEn OT (gn z_len)
  have gLn := ok_line DLn (gn z_len) gEn bEn (g aEn) kEn
  have gSp := ok_split DSp TS OO cSg' gLn bLn (g aLn) kLn
  have cTd' : Cal l.prog w K mg base 5 "_law_told" ["text"] spTold := ⟨_, _, ok_told FTd TR gSp bSp (g aSp) kSp, bTd, g aTd, kTd⟩
  have cLg' : Cal l.prog w K mg base 5 "_law_long" ["many"] spLong := ⟨_, _, ok_long FLg TO gSp bSp (g aSp) kSp, bLg, g aLg, kLg⟩
  exact law_term FL TW cD' cW' cMv' cTk' cRw' cPl' cTd' cLg'
theorem walk {l : PySem.W.OpenLaw} {q : Program} {loose : List Str} {XP : (Str → Option Value) → Heap → Prop} {YP : World → Heap → Prop} {d : DefRec} {K : Params → PySem.W.Frag} (hn : l.most = some 63) (hdf : d.params.defaults = [])
    (hY : ∀ (w : World) (h : Heap), YP w h → (K w.params).In h)
    (F : ∀ (w : World) (mg : Str → Option Value) (fa : Addr) (h : Heap), (K w.params).In h → h.Ns mainGlobals mg → mg d.name = some (.ref fa) →
      ∃ fd : FuncData, (∀ (s : Shared) (u : Value), BindsTo s fd ⟨[u], []⟩ [("script", u)]) ∧ ∀ base : Heap, (K w.params).In base → base.Ns mainGlobals mg → FnOk l.prog w (K w.params) mg base CX0 6 fa fd ["script"] (spLaw (K w.params))) :
    PySem.W.WalkO q loose XP YP l.row.toRowW d [] (fun f vs => PySem.call f vs) :=
  L2.walk_of (n := 63) (k := 6) (x := "script") (CX := fun _ => CX0) (sp := fun w => spLaw (K w.params)) hn (by decide) hdf ⟨rfl, by decide, by decide⟩ hY F (fun _ _ a ns hl _ hS => ⟨a, ns, rfl, hS, hl, fun _ => rfl⟩) fun _ _ _ _ _ z => z
end N07

set_option maxRecDepth 100000
open PySem PySem.W PyProof.Rows
set_option maxRecDepth 100000 in
set_option maxHeartbeats 0 in
theorem PySem.Challenge.cw_farfacts_k07_tokens_and_their_places_holds : PySem.Challenge.rw_farfacts_k07_tokens_and_their_places.Holds := by
  w_on; o_law; k_head; (case hw => w_witness2)
  k_fill
  refine N07.walk (l := PySem.Challenge.rw_farfacts_k07_tokens_and_their_places) rfl rfl (fun w h Y => PySem.W.kIn_of Y) ?F
  case F =>
    intro w mg fa h KX G hmg
    refine' N07.all_mk KX G hmg ?anyT ?ltop ?z_super ?z_len ?z_all ?z_enumerate ?z_isinstance ?z_int ?z_range ?z_ord ?aCO ?xO ?saO ?gaO ?ggO ?noO0 ?icO ?tyiO ?koO ?exO ?tyO ?veO ?owO ?hdO ?liO ?ciO ?ldO ?lvO ?lfO ?lcO ?aCT ?xT ?saT ?gaT ?ggT ?noT0 ?noT1 ?noT2 ?icT ?tyiT ?koT ?exT ?tyT ?veT ?owT ?hdT ?liT ?ciT ?ldT ?lvT ?lfT ?lcT ?aCF ?aSg ?lSg ?cSg ?kSg ?aSp ?lSp ?cSp ?kSp ?aLn ?lLn ?cLn ?kLn ?aEn ?lEn ?cEn ?kEn ?aC ?lC ?cC ?kC ?aD ?lD ?cD ?kD ?aW ?lW ?cW ?kW ?aLt ?lLt ?cLt ?kLt ?aWd ?lWd ?cWd ?kWd ?aTk ?lTk ?cTk ?kTk ?aRw ?lRw ?cRw ?kRw ?aMv ?lMv ?cMv ?kMv ?aPl ?lPl ?cPl ?kPl ?aTd ?lTd ?cTd ?kTd ?aLg ?lLg ?cLg ?kLg ?aL ?lL ?cL ?kL ?g_PERCENT ?g_BOOK_MOST ?clA ?clG ?clT ?isC ?objC ?hbO ?supO ?hbT ?supT ?exTF ?exmO ?kit2
    (case anyT => k_is)
    (case ltop => first | rfl | decide +kernel)
    (case z_super => k_is)
    (case z_len => k_is)
    (case z_all => k_is)
    (case z_enumerate => k_is)
    (case z_isinstance => k_is)
    (case z_int => k_is)
    (case z_range => k_is)
    (case z_ord => k_is)
    (case aCO => k_is)
    (case xO => k_is)
    (case saO => k_is)
    (case gaO => k_is)
    (case ggO => k_is)
    (case noO0 => k_is)
    (case icO => k_is)
    (case tyiO => k_is)
    (case koO => k_is)
    (case exO => k_is)
    (case tyO => k_is)
    (case veO => k_is)
    (case owO => k_is)
    (case hdO => k_is)
    (case liO => k_is)
    (case ciO => k_is)
    (case ldO => k_is)
    (case lvO => rfl)
    (case lfO => first | rfl | decide +kernel)
    (case lcO => k_is)
    (case aCT => k_is)
    (case xT => k_is)
    (case saT => k_is)
    (case gaT => k_is)
    (case ggT => k_is)
    (case noT0 => k_is)
    (case noT1 => k_is)
    (case noT2 => k_is)
    (case icT => k_is)
    (case tyiT => k_is)
    (case koT => k_is)
    (case exT => k_is)
    (case tyT => k_is)
    (case veT => k_is)
    (case owT => k_is)
    (case hdT => k_is)
    (case liT => k_is)
    (case ciT => k_is)
    (case ldT => k_is)
    (case lvT => rfl)
    (case lfT => first | rfl | decide +kernel)
    (case lcT => k_is)
    (case aCF => k_is)
    (case aSg => k_is)
    (case lSg => k_is)
    (case cSg => k_is)
    (case kSg => k_is)
    (case aSp => k_is)
    (case lSp => k_is)
    (case cSp => k_is)
    (case kSp => k_is)
    (case aLn => k_is)
    (case lLn => k_is)
    (case cLn => k_is)
    (case kLn => k_is)
    (case aEn => k_is)
    (case lEn => k_is)
    (case cEn => k_is)
    (case kEn => k_is)
    (case aC => k_is)
    (case lC => k_is)
    (case cC => k_is)
    (case kC => k_is)
    (case aD => k_is)
    (case lD => k_is)
    (case cD => k_is)
    (case kD => k_is)
    (case aW => k_is)
    (case lW => k_is)
    (case cW => k_is)
    (case kW => k_is)
    (case aLt => k_is)
    (case lLt => k_is)
    (case cLt => k_is)
    (case kLt => k_is)
    (case aWd => k_is)
    (case lWd => k_is)
    (case cWd => k_is)
    (case kWd => k_is)
    (case aTk => k_is)
    (case lTk => k_is)
    (case cTk => k_is)
    (case kTk => k_is)
    (case aRw => k_is)
    (case lRw => k_is)
    (case cRw => k_is)
    (case kRw => k_is)
    (case aMv => k_is)
    (case lMv => k_is)
    (case cMv => k_is)
    (case kMv => k_is)
    (case aPl => k_is)
    (case lPl => k_is)
    (case cPl => k_is)
    (case kPl => k_is)
    (case aTd => k_is)
    (case lTd => k_is)
    (case cTd => k_is)
    (case kTd => k_is)
    (case aLg => k_is)
    (case lLg => k_is)
    (case cLg => k_is)
    (case kLg => k_is)
    (case aL => k_is)
    (case lL => k_is)
    (case cL => k_is)
    (case kL => k_is)
    (case g_PERCENT => k_is)
    (case g_BOOK_MOST => k_is)
    (case clA => k_is)
    (case clG => k_is)
    (case clT => k_is)
    (case isC => k_is)
    (case objC => k_is)
    (case hbO => first | rfl | decide +kernel)
    (case supO => first | ks_is | rfl | decide +kernel)
    (case hbT => first | rfl | decide +kernel)
    (case supT => first | ks_is | rfl | decide +kernel)
    (case exTF => first | k_is | rfl | decide +kernel)
    (case exmO => first | k_is | rfl | decide +kernel)
    (case kit2 => first | k_is | rfl | decide +kernel)
