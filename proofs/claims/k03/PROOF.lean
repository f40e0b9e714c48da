import PyProof.Rows.All
import HandS.SortKw
import HandS.FromBytesMap
import HandS.Words
import KE.SortKeyHeap
import KE.SortData
import KE.LtSeq
import Wide.All
import OpenK.AllK
import Wide.FinOn
import PyProof.EqAt
import PyProof.EqKinds
import PyProof.TupleCall
import PyProof.FString
import KE.KExcSuper
import KE.KExcIs
import HandS.ExcSuper
import HandS.ExcField
import HandS.ExcIs
import HandS.WordsExc
import HandS.Text
import HandS.ForMost
import HandS.Walk
import HandS.Defaults
import HandS.Codes
import HandS.Strs
import HandS.Deep
import HandS.CallSlots
import HandS.ForExc
import HandS.Zip
import HandS.TupAny
import PySem.Challenge.RW_farfacts_k03_bounds_of_values
set_option Elab.async false
set_option linter.all false
set_option maxRecDepth 100000
set_option maxHeartbeats 4000000
/-! sorted(rows, key=f), f a def of the program that makes objects: over the hand layer -/
namespace SK
open PySem PySem.Spec PyProof.Rows PySem.W L2 FbM
/-- the keys are data that can be sorted in any state where they read so -/
def Srtb (prog : Program) (w : World) (A : Around) (ds : List PyData) : Prop := ∀ (s : Shared) (keys : List Value), EachIs (fun v d => ∃ as, Reads s.heap v d as) keys ds →
  ∃ f : Value → Option (List (Int ⊕ List Nat)), SortsAt prog w A s { toKeyOrd := listOrd itemOrd, keyOf := f, dflt := [] } keys ∧ EachIs (fun v d => f v = some (keyToks d)) keys ds
theorem Srtb.data {prog : Program} {w : World} {A : Around} {ds : List PyData} (hal : AllAlike ds) (hk : Sortable ds) (hu : ∀ d, d ∈ ds → A.units + d.depth < cLine) : Srtb prog w A ds := fun s keys e =>
  ⟨(dataKind s.heap ds).keyOf, SortsAt.data e hal hk hu, each_keys hal e⟩
/-- flat keys in the abstract heap: a plain value or a tuple of such -/
inductive Fl : V → PyData → Prop where
  | bl (b : Bool) : Fl (.bl b) (.bool b)
  | int (i : Int) : Fl (.int i) (.int i)
  | str (x : Str) : Fl (.str x) (.str x)
def KeyAt (H : Hp) (v : V) (d : PyData) : Prop := Fl v d ∨ ∃ p xs es, v = .ref p ∧ d = .tuple es ∧ H p = some (.tup xs) ∧ Paired Fl xs es
theorem Fl.dp {K : PySem.W.Frag} {H : Hp} {v : V} {d : PyData} (h : Fl v d) : Dp K H v d := by
  cases h with
  | bl b => exact .bl b
  | int i => exact .int i
  | str x => exact .str x
theorem fl_all {K : PySem.W.Frag} {H : Hp} : ∀ {xs : List V} {es : List PyData}, Paired Fl xs es → DpAll K H xs es
  | _, _, .nil => .nil
  | _, _, .cons h t => .cons h.dp (fl_all t)
theorem KeyAt.dp {K : PySem.W.Frag} {H : Hp} {v : V} {d : PyData} (h : KeyAt H v d) : Dp K H v d := by
  rcases h with h | ⟨p, xs, es, rfl, rfl, e, f⟩
  · exact h.dp
  · exact .tup (SqT.of e) (fl_all f)
theorem KeyAt.un {fs ex : List Addr} {H H' : Hp} {h h' : Heap} {v : V} {d : PyData} (q : KeyAt H v d) (u : Un fs ex H H' h h') : KeyAt H' v d := by
  rcases q with q | ⟨p, xs, es, e1, e2, e, f⟩
  · exact .inl q
  · exact .inr ⟨p, xs, es, e1, e2, u.tups _ _ e, f⟩
section
variable {X : Cx} {pins : List (Addr × Obj)} {σ : L2.St} {H H' : Hp} {s : Shared}
theorem list_cell {xs : Array Value} {n : Nat} : ∀ v, (seqObj "list" xs n).data ≠ .cell v := fun v z => by cases z
/-- a pinned list of ours is written -/
theorem pin_put {kS : Addr} {o o' : Obj} {h' : Heap} {t' : Nat} (r : Rec X pins kS) (I : Inv X ((kS, o) :: pins) σ H s) (k : ∀ c u, c ≠ kS → s.heap.get? c = some u → h'.get? c = some u) (e : h'.get? kS = some o') (nc : ∀ v, o'.data ≠ .cell v) :
    Inv X ((kS, o') :: pins) σ H { s with heap := h', toks := t' } := by
  obtain ⟨_, n, nl, nf, _⟩ := I.pin (kS, o) (List.mem_append_right _ List.mem_cons_self)
  have I0 : Inv X pins σ H s := ClX.unpin I
  have I1 : Inv X pins σ H { s with heap := h', toks := t' } := r.turn I0 n k
  refine I1.pins_of fun p hp => ?_
  rcases List.mem_cons.mp hp with z | z
  · subst z
    exact ⟨e, n, nl, nf, nc⟩
  · exact I1.pin p (List.mem_append_right _ z)
/-- a record of ours becomes a tracked list -/
theorem track {a : Addr} {out : List V} {its : List Value} {c : Nat} (r : Rec X pins a) (I : Inv X pins σ H s) (n : H a = none) (e : s.heap.get? a = some (seqObj "list" its.toArray c)) (rv : Vals out its) (hz : out.length ≤ sizeLine) : Inv X pins σ (upd H a (.lst out)) s := by
  have ne : ∀ {b : Addr} {o : HO}, H b = some o → b ≠ a := fun {b o} q z => by rw [z, n] at q; cases q
  have key := I.step (h' := s.heap) (H' := upd H a (.lst out)) (g' := s.gens) (t' := s.toks) (d' := s.drawn) (ch := [a])
    (fun b hb => by
      obtain rfl : b = a := by simpa using hb
      exact ⟨.inr r.ge, r.nl, r.ce, r.pn⟩)
    (fun b o _ _ _ q _ => q) (fun b o _ _ _ q _ => ⟨o.slots, q⟩)
    (fun b o hb q m => (upd_ne (fun z => hb (by simp [z]))).trans m) (fun b o _ q => ⟨o, q⟩)
    (fun b xs q => (upd_ne (ne q)).trans q) (fun b o u q => (upd_ne (ne q)).trans q) (fun b ps q => ⟨#[], by rw [upd_ne (ne q), q]; simp⟩) (fun m hm => hm)
    (fun b u q => ?_) I.bare
  · exact key
  · by_cases hb : b = a
    · subst hb
      rw [upd_same] at q
      cases q
      exact ⟨hz, its, c, rv, e⟩
    · rw [upd_ne hb] at q
      exact (I.hok b u q).stay (fun _ _ _ z => z) (fun c z => (upd_ne (ne z)).trans z) fun c xs z => (upd_ne (ne z)).trans z
theorem each_vals {xs : List V} {vs : List Value} (r : Vals xs vs) (ds : List PyData) (hl : ds.length = xs.length) : EachIs (fun v (b : V × PyData) => RelV b.1 v) vs (xs.zip ds) := by
  induction r generalizing ds with
  | nil => exact .nil
  | cons h t ih =>
    cases ds with
    | nil => cases hl
    | cons d ds => exact .cons h (ih ds (Nat.succ.inj hl))
theorem vals_each : ∀ {out : List Value} {bs : List (V × PyData)}, EachIs (fun v (b : V × PyData) => RelV b.1 v) out bs → Vals (bs.map (·.1)) out
  | _, _, .nil => .nil
  | _, _, .cons h t => .cons h (vals_each t)
/-- THE sorted list -/
def sortK (b : Bool) (xs : List V) (ds : List PyData) : List V := ((xs.zip ds).mergeSort (dataLe b (·.2))).map (·.1)
theorem keys_each {kvs : List V} {ds : List PyData} {us : List Value} (I : Inv X pins σ H s) (r : Vals kvs us) (k : Paired (KeyAt H) kvs ds) : EachIs (fun v d => ∃ as, Reads s.heap v d as) us ds := by
  induction k generalizing us with
  | nil =>
    cases r
    exact .nil
  | cons h t ih =>
    cases r with
    | cons r1 r2 => exact .cons (Dp.reads I _ _ _ h.dp r1) (ih r2)
theorem snoc_vals {α β : Type} {F : α → β → Prop} {x : α} {y : β} (h : F x y) : ∀ {xs : List α} {ys : List β}, Paired F xs ys → Paired F (xs ++ [x]) (ys ++ [y])
  | _, _, .nil => .cons h .nil
  | _, _, .cons q t => .cons q (snoc_vals h t)
theorem paired_imp {α β : Type} {F G : α → β → Prop} (h : ∀ x y, F x y → G x y) : ∀ {xs : List α} {ys : List β}, Paired F xs ys → Paired G xs ys
  | _, _, .nil => .nil
  | _, _, .cons q t => .cons (h _ _ q) (paired_imp h t)
end
section
variable {X : Cx} {pins : List (Addr × Obj)} {σ : L2.St} {H : Hp} {CX : CXT} {k : Nat} {q : Addr} {sp : Sp} {A : Around} {a kS : Addr} {xs : List V} {vs : List Value} {ds : List PyData} {b : Bool} {e1 : Nat} {P : PySem.Fin → Shared → Prop} {E : Value → Shared → Prop}
theorem rest_run {s : Shared} (F : FnR X.prog X.w X.K X.mg X.base CX k q sp) (hno : ∀ o H s E e s', ¬ CX o H s E e s') (hr : Room k A) (hA : A.frames = some X.stack)
    (I : Inv X ((kS, seqObj "list" #[] 0) :: (a, seqObj "list" #[] e1) :: pins) σ H s) (rk : Rec X ((a, seqObj "list" #[] e1) :: pins) kS) (ra : Rec X pins a)
    (rv : Vals xs vs) (hl : ds.length = xs.length) (hZ : vs.length ≤ sizeLine) (S : Srtb X.prog X.w A ds)
    (turn : ∀ (i : Nat) (x : V) (d : PyData), xs[i]? = some x → ds[i]? = some d → ∀ H', Same H H' → ∃ E, sp [x] H' (fun v H'' => Same H' H'' ∧ KeyAt H'' v d) E)
    (h : ∀ s' H', Same H H' → Inv X pins σ (upd H' a (.lst (sortK b xs ds))) s' → H' a = none → P (.done (.ret .none)) s') :
    wpAny (model X.prog X.w) A (ksk_rest a (.ref q) b vs.toArray e1 (.ref kS)) P E s := by
  have hvl := rv.length
  have hka : kS ≠ a := fun z => rk.pn (a, seqObj "list" #[] e1) (List.mem_append_right _ List.mem_cons_self) z.symm
  unfold ksk_rest
  refine wpAny_bind (wpAny_rule ?_)
  first
    | rw [List.forIn_toArray]
    | (rw [← Array.forIn_toList]; simp only [List.toList_toArray])
    | rw [← Array.forIn_toList]
  refine wpAny_bind (ksk_fold (fun i s' => ∃ kA e H' kvs, Inv X ((kS, seqObj "list" kA e) :: (a, seqObj "list" #[] e1) :: pins) σ H' s' ∧ Same H H' ∧ Vals kvs kA.toList ∧ Paired (KeyAt H') kvs (ds.take i)) vs 0 s
    ⟨#[], 0, H, [], I, Same.refl H, .nil, by rw [List.take_zero]; exact .nil⟩ ?step ?done)
  case step =>
    rintro j u s' hu ⟨kA, e, H', kvs, I', sm, rk', hk⟩
    simp only [Nat.zero_add] at hk ⊢
    have hj : j < vs.length := (List.getElem?_eq_some_iff.mp hu).1
    obtain ⟨x, hx⟩ : ∃ x, xs[j]? = some x := ⟨_, List.getElem?_eq_getElem (by omega)⟩
    obtain ⟨d, hd⟩ : ∃ d, ds[j]? = some d := ⟨_, List.getElem?_eq_getElem (by omega)⟩
    obtain ⟨u', hu', rx⟩ := rv.get hx
    rw [hu] at hu'
    cases hu'
    obtain ⟨E1, D⟩ := turn j x d hx hd H' sm
    have hz : kA.size ≤ vs.length := by
      have h1 := rk'.length
      have h2 := hk.length
      have h3 : kA.toList.length = kA.size := by simp
      rw [List.length_take] at h2
      rw [h3] at h1
      omega
    have e0 := I'.env0
    have e1' : Env0 X.prog X.w X.K X.mg X.base A X.stack s' H' := ⟨hA, e0.mod, e0.bs, e0.bsz, e0.funs, e0.frf, e0.hok, e0.bare⟩
    refine wpAny_bind (wpAny_attempt (wpAny_call (codeAny_mono (F A X.stack s' H' [u] [x] _ E1 hr e1' (.cons rx .nil) D) fun rr s2 hrr => ?_)))
    cases rr with
    | error e => exact (hno _ _ _ _ _ _ hrr).elim
    | ok fl =>
      cases fl with
      | next => exact False.elim hrr
      | brk => exact False.elim hrr
      | cont => exact False.elim hrr
      | ret v =>
        obtain ⟨v', H'', os, bare, un, hok, rv', sm', ky⟩ := (show CE X.stack X.prog X.w H' _ _ v s2 from hrr)
        have I2 : Inv X ((kS, seqObj "list" kA e) :: (a, seqObj "list" #[] e1) :: pins) σ H'' s2 := I'.call' os un hok bare (fun b y => absurd y List.not_mem_nil)
        have nk : s2.heap.get? kS = some (seqObj "list" kA e) := ClX.pin_at I2
        obtain ⟨c2, hc2⟩ : ∃ c2, (s2.heap.update kS (Obj.mapSeq (·.push v))).get? kS = some (seqObj "list" (kA.push v) c2) := ⟨_, get?_update_seq nk (·.push v)⟩
        have s1 := Heap.SameBut.update s2.heap kS (Obj.mapSeq (·.push v))
        try dsimp only
        refine wpAny_bind (listUpdate_at nk rfl ?_ (Nat.le_trans hz hZ) (Nat.le_trans (Nat.le_of_eq (Array.size_push ..)) (Nat.succ_le_succ (Nat.le_trans hz hZ))))
        refine wpAny_pure ⟨rfl, kA.push v, c2, H'', kvs ++ [v'], ?_, sm.trans sm', ?_, ?_⟩
        · exact pin_put (t' := s2.toks) rk I2 (fun c o hc z => (s1.2 c hc).trans z) hc2 list_cell
        · have ea : (kA.push v).toList = kA.toList ++ [v] := by simp
          rw [ea]
          exact snoc_vals rv' rk'
        · have ek : ds.take (j + 1) = ds.take j ++ [d] := by rw [List.take_add_one, hd]; rfl
          rw [ek]
          exact snoc_vals ky (paired_imp (fun _ _ z => z.un un) hk)
  case done =>
    rintro s' ⟨kA, e, H', kvs, I', sm, rk', hk⟩
    have hk' : Paired (KeyAt H') kvs ds := by
      have e3 : ds.take (0 + vs.length) = ds := List.take_of_length_le (by omega)
      rw [e3] at hk
      exact hk
    have hsz : kA.size = vs.length := by
      have h1 := rk'.length
      have h2 := hk'.length
      have h3 : kA.toList.length = kA.size := by simp
      rw [h3] at h1
      omega
    have nk : s'.heap.get? kS = some (seqObj "list" kA e) := ClX.pin_at I'
    have na : s'.heap.get? a = some (seqObj "list" #[] e1) := ClX.pin_at (ClX.unpin I')
    have uk : H' kS = none := ClX.pin_un I'
    have ua : H' a = none := ClX.pin_un (ClX.unpin I')
    obtain ⟨f, SA, ef⟩ := S s' kA.toList (keys_each I' rk' hk')
    try dsimp only
    refine wpAny_bind (listItems_at nk rfl ?_)
    refine keyH_end (κ := { toKeyOrd := listOrd itemOrd, keyOf := f, dflt := [] }) (h₁ := hideAll s'.heap [kS]) (fun c o _ z => of_hideAll _ z) (hideAll_none _ (by simp)) nk na hka SA hsz hZ fun h' tk c kp n3 => ?_
    have I1 : Inv X pins σ H' s' := ClX.unpin (ClX.unpin I')
    have I3 : Inv X pins σ H' { s' with heap := h', toks := tk } := by
      have keep : ∀ b o, b ∉ [kS, a] → s'.heap.get? b = some o → h'.get? b = some o := fun b o hb z => kp b o (fun y => hb (by simp [y])) (hideAll_get _ z (fun y => hb (by simp at y; simp [y])))
      have nit : ∀ b u, H' b = some u → b ∉ [kS, a] := fun b u e z => by
        rcases List.mem_cons.mp z with y | y
        · rw [y, uk] at e; cases e
        · obtain rfl : b = a := by simpa using y
          rw [ua] at e; cases e
      refine I1.step (g' := s'.gens) (d' := s'.drawn) (ch := [kS, a]) (fun b hb => ?_) (fun b o _ _ hc e _ => keep b o hc e) (fun b o _ _ hc e _ => ⟨o.slots, keep b o hc e⟩) (fun _ _ _ _ n => n)
        (fun b o hc e => ⟨o, keep b o hc e⟩) (fun _ _ e => e) (fun _ _ _ e => e) (fun b ps e => ⟨#[], by rw [e]; simp⟩) (fun m hm => ?_) (fun b u e => ?_) I1.bare
      · rcases List.mem_cons.mp hb with y | y
        · rw [y]
          exact ⟨.inr rk.ge, rk.nl, rk.ce, fun p hp => rk.pn p (by
            rcases List.mem_append.mp hp with z | z
            · exact List.mem_append_left _ z
            · exact List.mem_append_right _ (List.mem_cons_of_mem _ z))⟩
        · obtain rfl : b = a := by simpa using y
          exact ⟨.inr ra.ge, ra.nl, ra.ce, ra.pn⟩
      · obtain ⟨o, es, ep, ho, r⟩ := hm
        refine ⟨o, es, ep, keep _ o (fun z => ?_) ho, r⟩
        rcases List.mem_cons.mp z with y | y
        · exact rk.nl y.symm
        · have y' : X.env.locals = a := by simpa using y
          exact ra.nl y'.symm
      · refine (I1.hok b u e).stay (fun c v hc z => keep c v ?_ z) (fun _ z => z) fun _ _ z => z
        rcases hc with z | z
        · rw [z]; exact nit b u e
        · exact nit c _ z
    have eo : EachIs (fun v (b : V × PyData) => RelV b.1 v) (sortVals { toKeyOrd := listOrd itemOrd, keyOf := f, dflt := [] } b kA.toList vs) ((xs.zip ds).mergeSort (dataLe b (·.2))) := by
      refine sortVals_each (κ := { toKeyOrd := listOrd itemOrd, keyOf := f, dflt := [] }) (rev := b) (fun p : V × PyData => keyToks p.2) (each_vals rv ds hl) ?_
      have e5 : ds = (xs.zip ds).map (·.2) := by rw [List.map_snd_zip (by omega)]
      have ef' : EachIs (fun v d => f v = some (keyToks d)) kA.toList ((xs.zip ds).map fun p : V × PyData => p.2) := by rw [← e5]; exact ef
      exact each_of_map (R := fun (v : Value) (d : PyData) => f v = some (keyToks d)) (fun p : V × PyData => p.2) ef'
    refine h _ H' sm (track (c := c) (its := sortVals { toKeyOrd := listOrd itemOrd, keyOf := f, dflt := [] } b kA.toList vs) ra I3 ua n3 (vals_each eo) ?_) ua
    unfold sortK
    rw [List.length_map, List.length_mergeSort, List.length_zip]
    omega
end
end SK

set_option linter.all false
set_option maxRecDepth 100000
set_option maxHeartbeats 4000000
namespace SK
open PySem PySem.Spec PyProof.Rows PySem.W L2 FbM
theorem pin_two {X : Cx} {pins : List (Addr × Obj)} {σ : L2.St} {H : Hp} {s : Shared} {p : Addr × Obj} (I : Inv X pins σ H s) (e : s.heap.get? p.1 = some p.2) (n : H p.1 = none) (nl : p.1 ≠ X.env.locals) (nf : p.1 ∉ X.fs) (nc : ∀ v, p.2.data ≠ .cell v) : Inv X (p :: pins) σ H s :=
  I.pins_of fun r hr => by
    rcases List.mem_cons.mp hr with z | z
    · subst z
      exact ⟨e, n, nl, nf, nc⟩
    · exact I.pin r (List.mem_append_right _ z)
section
variable {X : Cx} {pins : List (Addr × Obj)} {σ : L2.St} {H : Hp} {CX : CXT} {k : Nat} {q : Addr} {sp : Sp} {a : Addr} {xs : List V} {ds : List PyData} {b : Bool}
/-- the key of each item: the def's promise there -/
def Keys (sp : Sp) (H : Hp) (xs : List V) (ds : List PyData) : Prop := ds.length = xs.length ∧ ∀ (i : Nat) (x : V) (d : PyData), xs[i]? = some x → ds[i]? = some d → ∀ H', Same H H' → ∃ E, sp [x] H' (fun v H'' => Same H' H'' ∧ KeyAt H'' v d) E
theorem sorted_runK {s : Shared} {Q : VK} {kw : List (Str × Value)} (F : FnR X.prog X.w X.K X.mg X.base CX k q sp) (hno : ∀ o H s E e s', ¬ CX o H s E e s') (hr : Room (k + 2) X.A) (hA : X.A.frames = some X.stack)
    (I : Inv X pins σ H s) (hs : SqL X.K H a xs) (K : Keys sp H xs ds) (S : Srtb X.prog X.w X.A.in1.in1 ds)
    (ha1 : ∀ l, argsOk "sorted" ⟨[.ref l], kw⟩) (ha2 : ∀ x, argsOk "list.sort" ⟨[.ref x], kw⟩) (ht : ∀ x, Builtin.«list.sort» ⟨[.ref x], kw⟩ = ksk_tree x (.ref q) b)
    (h : ∀ p H', Same H H' → H' p = none → Q (.ref p) (upd H' p (.lst (sortK b xs ds)))) :
    wpAny (model X.prog X.w) X.A (call (.builtin "sorted") [.ref a] kw) (EP X pins σ Q) X.xe s := by
  obtain ⟨its, rv, pl, hz⟩ := I.list hs
  have hvl := rv.length
  have hL : its.length ≤ sizeLine := by omega
  refine sorted_of_sort pl.isList hL (ha1 _) ha2 fun E' => ?_
  rw [ht]
  have keep : ∀ c u, s.heap.get? c = some u → (sortingHeap (copyHeap s.heap its) (s.heap.objs.size + 1) its).get? c = some u := fun c u z => sorting_copy_old z
  have ge1 : s.heap.objs.size ≤ s.heap.objs.size + 1 := Nat.le_succ _
  have ho : ({ s with heap := copyHeap s.heap its } : Shared).heap.get? (s.heap.objs.size + 1) = some (seqObj "list" its.toArray 0) := copyHeap_at s.heap its
  have ha : s.heap.objs.size + 1 < (copyHeap s.heap its).objs.size := Heap.lt_size ho
  obtain ⟨e1, ho1⟩ : ∃ e1, ((copyHeap s.heap its).update (s.heap.objs.size + 1) (Obj.mapSeq fun _ => (#[] : Array Value))).get? (s.heap.objs.size + 1) = some (seqObj "list" #[] e1) := ⟨_, get?_update_seq ho fun _ => #[]⟩
  have hkS : (((copyHeap s.heap its).update (s.heap.objs.size + 1) (Obj.mapSeq fun _ => (#[] : Array Value))).push (seqObj "tuple" its.toArray 0)).objs.size = (copyHeap s.heap its).objs.size + 1 := by rw [size_push', Heap.size_update]
  unfold ksk_tree
  refine wpAny_bind (listItems_at ho rfl ?_)
  refine wpAny_bind (listUpdate_at ho rfl ?_ (by rw [List.size_toArray]; exact hL) (Nat.zero_le _))
  refine wpAny_bind (seqEpoch_at ho1 rfl ?_)
  refine wpAny_bind (wpAny_newTuple ?_ (by show its.length ≤ _; exact hL))
  refine wpAny_bind (wpAny_newList ?_ (Nat.zero_le _))
  refine wpAny_holding ?_
  have ge2 : s.heap.objs.size ≤ (((copyHeap s.heap its).update (s.heap.objs.size + 1) (Obj.mapSeq fun _ => (#[] : Array Value))).push (seqObj "tuple" its.toArray 0)).objs.size := by rw [hkS]; omega
  have nka : (((copyHeap s.heap its).update (s.heap.objs.size + 1) (Obj.mapSeq fun _ => (#[] : Array Value))).push (seqObj "tuple" its.toArray 0)).objs.size ≠ s.heap.objs.size + 1 := by rw [hkS]; omega
  have I0 : Inv X pins σ H { s with heap := ((((copyHeap s.heap its).update (s.heap.objs.size + 1) (Obj.mapSeq fun _ => (#[] : Array Value))).push (seqObj "tuple" its.toArray 0)).push (seqObj "list" #[] 0)) } := I.kept (t' := s.toks) keep
  have I1 := pin_two (p := (s.heap.objs.size + 1, seqObj "list" #[] e1)) I0 (Heap.get?_push_of_some _ (Heap.get?_push_of_some _ ho1)) (I.hok.fresh ge1) (Nat.ne_of_gt (Nat.lt_of_lt_of_le I.lt ge1)) (I.nofs ge1) list_cell
  have I2 := pin_two (p := ((((copyHeap s.heap its).update (s.heap.objs.size + 1) (Obj.mapSeq fun _ => (#[] : Array Value))).push (seqObj "tuple" its.toArray 0)).objs.size, seqObj "list" #[] 0)) I1 (Heap.get?_push_size _ rfl) (I.hok.fresh ge2) (Nat.ne_of_gt (Nat.lt_of_lt_of_le I.lt ge2)) (I.nofs ge2) list_cell
  have ra := rec_new I ge1
  have rk0 := rec_new I ge2
  refine rest_run (A := X.A.in1.in1) (xs := xs) (ds := ds) F hno hr.in1.in1 hA I2 ⟨rk0.nl, rk0.ge, rk0.ce, fun p hp => ?_, rk0.fr⟩ ra rv K.1 hL S K.2 fun s' H' sm I' n => ⟨rfl, ?_⟩
  · rcases List.mem_append.mp hp with z | z
    · exact rk0.pn p (List.mem_append_left _ z)
    · rcases List.mem_cons.mp z with y | y
      · subst y
        exact nka.symm
      · exact rk0.pn p (List.mem_append_right _ y)
  · exact ⟨.ref _, _, I', rfl, h _ H' sm n⟩
end
/-- sorted(xs, key=f) -/
def rSortF (K : PySem.W.Frag) (Sb : List PyData → Prop) (q : Addr) (sp : Sp) : List V → List V → Hp → VK → Prop := fun vs zs H Q => ∃ (a : Addr) (xs : List V) (ds : List PyData), vs = [V.ref a] ∧ zs = [.ref q] ∧ SqL K H a xs ∧ Keys sp H xs ds ∧ Sb ds ∧
  ∀ p H', Same H H' → H' p = none → Q (.ref p) (upd H' p (.lst (sortK false xs ds)))
theorem cr_sortF {X : Cx} {CX : CXT} {k : Nat} {q : Addr} {sp : Sp} {Sb : List PyData → Prop} (F : FnR X.prog X.w X.K X.mg X.base CX k q sp) (hno : ∀ o H s E e s', ¬ CX o H s E e s') (hr : Room (k + 2) X.A)
    (S : ∀ ds, Sb ds → Srtb X.prog X.w X.A.in1.in1 ds) : CallRK X (.builtin "sorted") [Str.ofString "key"] (rSortF X.K Sb q sp) := by
  intro pins s σ H vs zs us ws Q I r rz h
  obtain ⟨a, xs, ds, rfl, rfl, hs, K, sb, h⟩ := h
  obtain rfl := Vals.ref1 r
  obtain ⟨w1, rfl, e1⟩ := vals1 rz
  obtain rfl : w1 = Value.ref q := e1
  exact sorted_runK F hno hr I.ok.frames I hs K (S ds sb) (fun _ => ksk_s1 _ _) (fun _ => ksk_l1 _ _) (fun _ => ksk_t1 _ _) h
end SK

set_option linter.all false
set_option maxRecDepth 100000
set_option maxHeartbeats 4000000
namespace SK
open PySem PySem.Spec PyProof.Rows PySem.W L2 FbM SeqAt
/-- a kind's number and a plain value: (number, value) -/
inductive Pl : PyData → Prop where
  | bl (b : Bool) : Pl (.bool b)
  | int (i : Int) : Pl (.int i)
  | str (x : Str) : Pl (.str x)
def kyd (r : Int) (x : PyData) : PyData := .tuple [.int r, x]
/-- equal numbers go with values of one kind -/
def Coh (ds : List PyData) : Prop := (∀ d ∈ ds, ∃ r x, d = kyd r x ∧ Pl x) ∧ ∀ r x y, kyd r x ∈ ds → kyd r y ∈ ds → alike x y = true
theorem pl_unique {h : Heap} {v : Value} {d d' : PyData} {as as' : List Addr} (r : Reads h v d as) (r' : Reads h v d' as') (p : Pl d) (p' : Pl d') : d = d' := by
  cases p <;> cases p' <;> cases r <;> cases r' <;> rfl
theorem kyd_unique {h : Heap} {v : Value} {r r' : Int} {x x' : PyData} {as as' : List Addr} (q : Reads h v (kyd r x) as) (q' : Reads h v (kyd r' x') as') (p : Pl x) (p' : Pl x') : kyd r x = kyd r' x' := by
  cases q with
  | tuple h1 h2 h3 h4 =>
    cases q' with
    | tuple k1 k2 k3 k4 =>
      rw [h1] at k1; cases k1
      rw [h3] at k3; cases k3
      generalize eL : Array.toList _ = L at h4
      rw [eL] at k4
      cases h4 with
      | cons a1 a2 =>
        cases k4 with
        | cons b1 b2 =>
          cases a2 with
          | cons a3 a4 =>
            cases b2 with
            | cons b3 b4 =>
              have e1 := pl_unique a1 b1 (.int _) (.int _)
              have e2 := pl_unique a3 b3 p p'
              rw [e2]
              cases e1
              rfl
open Classical in
noncomputable def kfn (h : Heap) (ds : List PyData) (v : Value) : Option (List (Int ⊕ List Nat)) := if q : ∃ d, d ∈ ds ∧ ∃ as, Reads h v d as then some (keyToks q.choose) else none
theorem kfn_some {h : Heap} {ds : List PyData} (C : Coh ds) {v : Value} {d : PyData} {as : List Addr} (hd : d ∈ ds) (r : Reads h v d as) : kfn h ds v = some (keyToks d) := by
  have q : ∃ d, d ∈ ds ∧ ∃ as, Reads h v d as := ⟨d, hd, as, r⟩
  have e : kfn h ds v = some (keyToks q.choose) := by unfold kfn; rw [dif_pos q]
  obtain ⟨h1, as', h2⟩ := q.choose_spec
  rw [e]
  obtain ⟨r0, x0, e0, p0⟩ := C.1 _ h1
  obtain ⟨r1, x1, e1, p1⟩ := C.1 _ hd
  subst e1
  rw [e0] at h2 ⊢
  rw [kyd_unique h2 r p0 p1]
theorem kfn_inv {h : Heap} {ds : List PyData} {v : Value} {k : List (Int ⊕ List Nat)} (e : kfn h ds v = some k) : ∃ d as, d ∈ ds ∧ Reads h v d as ∧ k = keyToks d := by
  by_cases q : ∃ d, d ∈ ds ∧ ∃ as, Reads h v d as
  · have e' : kfn h ds v = some (keyToks q.choose) := by unfold kfn; rw [dif_pos q]
    obtain ⟨h1, as', h2⟩ := q.choose_spec
    rw [e'] at e
    exact ⟨_, as', h1, h2, (Option.some.inj e).symm⟩
  · have e' : kfn h ds v = none := by unfold kfn; rw [dif_neg q]
    rw [e'] at e
    exact absurd e (by simp)
section
variable {prog : Program} {w : World} {A : Around} {s : Shared}
theorem pl_lt {f : Bool} {x y : PyData} {u v : Value} {as bs : List Addr} {Q : Bool → Shared → Prop} {E : Value → Shared → Prop} (p : Pl x) (ru : Reads s.heap u x as) (rv : Reads s.heap v y bs) (h : alike x y = true) (hu : A.units + 2 < cLine) (hq : Q (dataLt x y) s) : wpAny (model prog w) A (oneLt' f u v) Q E s :=
  oneLt_alike (fun _ xs z => by cases p <;> cases z) ru rv h (fun z => by cases p <;> cases z) (by
    have : x.depth = 0 := by cases p <;> rfl
    rw [this, Nat.zero_min]
    omega) hq
theorem pl_eq {x y : PyData} {u v : Value} {as bs : List Addr} (p : Pl x) (ru : Reads s.heap u x as) (rv : Reads s.heap v y bs) (h : alike x y = true) (hu : A.units + 2 < cLine) : EqAt A s u v (PyData.eqv x y) :=
  eqAt_alike x y A s u v as bs ru rv h (by
    have : x.depth = 0 := by cases p <;> rfl
    rw [this, Nat.zero_min]
    omega)
/-- what the rows of signs say of two keys -/
theorem kyd_lt {r r' : Int} {x y : PyData} (h : r = r' → alike x y = true) : dataLt (kyd r x) (kyd r' y) = if r = r' then (if PyData.eqv x y = true then false else dataLt x y) else decide (r < r') := by
  have hi : alike (.int r) (.int r') = true := by rfl
  show PyProof.Rows.lexLt itemOrd (keyToksAll [.int r, x]) (keyToksAll [.int r', y]) = _
  by_cases e : r = r'
  · rw [if_pos e, dataLt_all_yes hi (by subst e; simp [PyData.eqv])]
    cases q : PyData.eqv x y with
    | true => rw [if_pos rfl, dataLt_all_yes (h e) q]; exact lex_irrefl _
    | false => rw [if_neg (by simp), dataLt_all_no (h e) q]
  · rw [if_neg e, dataLt_all_no hi (by simp [PyData.eqv, e])]
    unfold dataLt
    simp only [keyToks]
    rw [lex_diff (O := itemOrd) (by intro z; exact e (Sum.inl.inj z))]
    rfl
theorem kyd_at {b : Bool} {r r' : Int} {x y : PyData} {u v : Value} {as bs : List Addr} {Q : Bool → Shared → Prop} {E : Value → Shared → Prop} (p : Pl x) (ru : Reads s.heap u (kyd r x) as) (rv : Reads s.heap v (kyd r' y) bs) (h : r = r' → alike x y = true) (hu : A.units + 2 < cLine) (hq : Q (dataLt (kyd r x) (kyd r' y)) s) :
    wpAny (model prog w) A (keyLt' (tuples' b) u v) Q E s := by
  rw [kyd_lt h] at hq
  cases ru with
  | @tuple l o xs n _ _ h1 h2 h3 h4 =>
    cases rv with
    | @tuple l' o' xs' n' _ _ k1 k2 k3 k4 =>
      have n1 : xs.size = 2 := by simpa using SeqAt.ReadsAll.length _ _ _ h4
      have n2 : xs'.size = 2 := by simpa using SeqAt.ReadsAll.length _ _ _ k4
      refine kat_lt h1 h3 k1 k3 ?_
      rw [n1, n2]
      generalize eL : xs.toList = L at h4 ⊢
      generalize eL' : xs'.toList = L' at k4 ⊢
      cases h4 with
      | cons a1 a2 =>
        cases k4 with
        | cons b1 b2 =>
          cases a2 with
          | cons a3 a4 =>
            cases b2 with
            | cons b3 b4 =>
              cases a4
              cases b4
              refine kat_cons (pl_eq (.int r) a1 b1 rfl hu _ _ _ _ (kat_go (fun e => ?_) fun e => ?_))
              · have er : r = r' := by simpa [PyData.eqv] using e
                rw [if_pos er] at hq
                refine kat_yes (kat_cons (pl_eq p a3 b3 (h er) hu _ _ _ _ (kat_go (fun e2 => ?_) fun e2 => ?_)))
                · rw [if_pos e2] at hq
                  exact kat_yes (kat_nil hq)
                · rw [if_neg (by rw [e2]; simp)] at hq
                  exact kat_no (pl_lt p a3 b3 (h er) hu hq)
              · have er : r ≠ r' := fun z => by subst z; simp [PyData.eqv] at e
                rw [if_neg er] at hq
                refine kat_no (pl_lt (.int r) a1 b1 rfl hu ?_)
                have e9 : dataLt (.int r) (.int r') = decide (r < r') := by
                  unfold dataLt
                  simp only [keyToks]
                  rw [lex_diff (O := itemOrd) (by intro z; exact er (Sum.inl.inj z))]
                  rfl
                rw [e9]
                exact hq
theorem Srtb.coh {ds : List PyData} (C : Coh ds) (hu : A.units + 2 < cLine) : Srtb prog w A ds := fun s keys e => by
  refine ⟨kfn s.heap ds, ⟨fun v hv => ?_, tuples' (Value.type "int" != Value.type "tuple"), ?_, fun h2 E Q hq => ?_⟩, ?_⟩
  · obtain ⟨d, hd, as, r⟩ := e.left v hv
    exact ⟨_, kfn_some C hd r⟩
  · intro E x y a b Q ha hb hq
    obtain ⟨d, as, hd, ra, rfl⟩ := kfn_inv ha
    obtain ⟨d', as', hd', rb, rfl⟩ := kfn_inv hb
    obtain ⟨r1, x1, rfl, p1⟩ := C.1 d hd
    obtain ⟨r2, x2, rfl, p2⟩ := C.1 d' hd'
    exact kyd_at p1 ra rb (fun z => by subst z; exact C.2 _ _ _ hd hd') hu hq
  · obtain ⟨fs, t1, t2, t3⟩ := each_katTups e fun d hd => by
      obtain ⟨r1, x1, rfl, p1⟩ := C.1 d hd
      exact ⟨_, _, rfl⟩
    refine kat_kind (T := Value.type "int") t1 (by omega) (fun f hf => ?_) (beq_self_eq_true _) hq
    obtain ⟨x, r, as, m1, m2⟩ := t3 f hf
    obtain ⟨r1, x1, e1, p1⟩ := C.1 _ m1
    unfold kyd at e1
    injection e1 with e1
    injection e1 with e1 _
    subst e1
    exact looks_reads m2
  · exact (each_mem e).mono fun v d ⟨⟨as, r⟩, hd⟩ => kfn_some C hd r
end
end SK

set_option linter.all false
set_option maxRecDepth 100000
set_option maxHeartbeats 4000000
namespace PySem.SeqAt
open AutoSeq1 (wpAny_loadPart')
open MeetsSeq3 MeetsSeq2 MeetsSeq SeqRoads2
/-- two pairs: the second places are looked at only behind equal first ones -/
def PairLt (A : Around) (s : Shared) (u1 u2 v1 v2 : Value) (k : Bool) : Prop :=
  ∃ e1, EqAt A s u1 v1 e1 ∧ (e1 = false → RcLt A s u1 v1 k) ∧ (e1 = true → ∃ e2, EqAt A s u2 v2 e2 ∧ (e2 = false → RcLt A s u2 v2 k) ∧ (e2 = true → k = false))
def pairO (d : Option Addr) (n : Nat) (sl : Array (Option Value)) (u v : Value) : Obj := { cls := .type "tuple", dict := d, data := .seq #[u, v] n, slots := sl }
theorem pair_lt_meets (p q : Addr) (u1 u2 v1 v2 : Value) (n m : Nat) (da db : Option Addr) (sa sb : Array (Option Value)) (k : Bool) :
    Meets (Builtin.«tuple.__lt__» ⟨[.ref p, .ref q], []⟩)
      (fun A R s => s.heap.get? p = some (pairO da n sa u1 u2) ∧ s.heap.get? q = some (pairO db m sb v1 v2) ∧ PairLt A.in1 s u1 u2 v1 v2 k ∧ R (.ok (.ret (.bool k))) s) :=
  .of_wp fun prog w A R s h => by
    obtain ⟨hh, gg, dd, tt, oo⟩ := s
    obtain ⟨hp, hq, ⟨e1, w1, w2, w3⟩, hR⟩ := h
    have sub := AutoSeq1.sub_tuple_tuple
    unfold pairO at hp hq
    wp_walk using wpAny_loadPart' hp, wpAny_loadPart' hq, wpAny_forIn_list _ (fun todo acc st => acc.1 = none ∧ st = ⟨hh, gg, dd, tt, oo⟩ ∧ (todo = [(u1, v1), (u2, v2)] ∨ (todo = [(u2, v2)] ∧ e1 = true) ∨ (todo = [] ∧ k = false))) _
    case turn =>
      rintro ⟨y, x⟩ todo acc st ⟨ha, rfl, h1 | ⟨h1, e1t⟩ | ⟨h1, _⟩⟩
      · injection h1 with h2 h3
        injection h2 with h4 h5
        subst h4 h5 h3
        refine wpAny_bind (w1 prog w _ _ ?_)
        cases he : e1 with
        | true =>
          wp_walk
          exact ⟨rfl, rfl, .inr (.inl ⟨rfl, rfl⟩)⟩
        | false =>
          generalize hrc : PySem.richCompare CmpOp.Lt y x = rc
          wp_walk
          subst hrc
          refine w2 he prog w _ _ ?_
          wp_walk
          exact ⟨_, rfl, hR⟩
      · injection h1 with h2 h3
        injection h2 with h4 h5
        subst h4 h5 h3
        obtain ⟨e2, x1, x2, x3⟩ := w3 e1t
        refine wpAny_bind (x1 prog w _ _ ?_)
        cases he : e2 with
        | true =>
          wp_walk
          exact ⟨rfl, rfl, .inr (.inr ⟨rfl, x3 he⟩)⟩
        | false =>
          generalize hrc : PySem.richCompare CmpOp.Lt y x = rc
          wp_walk
          subst hrc
          refine x2 he prog w _ _ ?_
          wp_walk
          exact ⟨_, rfl, hR⟩
      · cases h1
    case fin =>
      rintro ⟨b1, b2⟩ st ⟨ha, rfl, h1 | ⟨h1, _⟩ | ⟨_, hk⟩⟩
      · cases h1
      · cases h1
      · simp only at ha
        subst ha
        subst hk
        wp_walk
        exact ⟨_, rfl, by simpa [Builtin.Tuple.tupleCompareSizes] using hR⟩
    case h =>
      exact ⟨rfl, rfl, .inl rfl⟩
theorem rc_pair {A : Around} {s : Shared} {p q : Addr} {u1 u2 v1 v2 : Value} {k : Bool} (hp : s.heap.IsTuple p #[u1, u2]) (hq : s.heap.IsTuple q #[v1, v2]) (hu : A.units < cLine) (h : PairLt A.in1 s u1 u2 v1 v2 k) : RcLt A s (.ref p) (.ref q) k := fun prog w E Q hQ => by
  obtain ⟨⟨c, d, x, sl⟩, o1, o2, n, o3⟩ := id hp
  obtain ⟨⟨c', d', x', sl'⟩, q1, q2, n', q3⟩ := id hq
  simp only at o2 o3 q2 q3
  subst o2 o3 q2 q3
  exact richCompare_meets_room (op := .Lt) ⟨_, o1, rfl⟩ ⟨_, q1, rfl⟩ F.slot_tuple_lt F.entry_tuple_lt (F.args_tuple_lt_2 _ _) (pair_lt_meets p q u1 u2 v1 v2 n n' d d' sl sl' k) ⟨o1, q1, h, show Value.bool k ≠ Value.notImplemented ∧ Q (.bool k) s from ⟨(fun z => nomatch z), hQ⟩⟩ hu
end PySem.SeqAt
namespace SK
open PySem PySem.Spec PyProof.Rows PySem.W L2 FbM SeqAt
theorem arr_of {xs : Array Value} {u v : Value} (e : xs.toList = [u, v]) : xs = #[u, v] := by rw [← Array.toList_inj, e]
theorem pl_rc {A : Around} {s : Shared} {x y : PyData} {u v : Value} {as bs : List Addr} (p : Pl x) (ru : Reads s.heap u x as) (rv : Reads s.heap v y bs) (h : alike x y = true) (hu : A.units + 2 < cLine) : RcLt A s u v (dataLt x y) :=
  rcLt_alike x y A s u v as bs ru rv h (fun z => by cases p <;> cases z) (by
    have : x.depth = 0 := by cases p <;> rfl
    rw [this, Nat.zero_min]
    omega)
theorem kyd_rc {A : Around} {s : Shared} {r r' : Int} {x y : PyData} {u v : Value} {as bs : List Addr} (p : Pl x) (ru : Reads s.heap u (kyd r x) as) (rv : Reads s.heap v (kyd r' y) bs) (h : r = r' → alike x y = true) (hu : A.units + 3 < cLine) : RcLt A s u v (dataLt (kyd r x) (kyd r' y)) := by
  rw [kyd_lt h]
  have hu1 : A.in1.units + 2 < cLine := by show A.units + 1 + 2 < cLine; omega
  cases ru with
  | @tuple l o xs n _ _ h1 h2 h3 h4 =>
    cases rv with
    | @tuple l' o' xs' n' _ _ k1 k2 k3 k4 =>
      have hl : s.heap.IsTuple l xs := ⟨_, h1, h2, _, h3⟩
      have hl' : s.heap.IsTuple l' xs' := ⟨_, k1, k2, _, k3⟩
      generalize eL : xs.toList = L at h4
      generalize eL' : xs'.toList = L' at k4
      cases h4 with
      | cons a1 a2 =>
        cases k4 with
        | cons b1 b2 =>
          cases a2 with
          | cons a3 a4 =>
            cases b2 with
            | cons b3 b4 =>
              cases a4
              cases b4
              have ex := arr_of eL
              have ex' := arr_of eL'
              subst ex ex'
              refine rc_pair hl hl' (by omega) ⟨_, pl_eq (.int r) a1 b1 rfl hu1, fun e => ?_, fun e => ?_⟩
              · have er : r ≠ r' := fun z => by subst z; simp [PyData.eqv] at e
                rw [if_neg er]
                have e9 : dataLt (.int r) (.int r') = decide (r < r') := by
                  unfold dataLt
                  simp only [keyToks]
                  rw [lex_diff (O := itemOrd) (by intro z; exact er (Sum.inl.inj z))]
                  rfl
                rw [← e9]
                exact pl_rc (.int r) a1 b1 rfl hu1
              · have er : r = r' := by simpa [PyData.eqv] using e
                rw [if_pos er]
                refine ⟨_, pl_eq p a3 b3 (h er) hu1, fun e2 => ?_, fun e2 => ?_⟩
                · rw [if_neg (by rw [e2]; simp)]
                  exact pl_rc p a3 b3 (h er) hu1
                · rw [if_pos e2]
/-- t < u of two keys -/
def rLtK : R2 := fun x y H Q => ∃ r r' d d', KeyAt H x (kyd r d) ∧ KeyAt H y (kyd r' d') ∧ Pl d ∧ (r = r' → alike d d' = true) ∧ Q (.bl (dataLt (kyd r d) (kyd r' d'))) H
theorem op_ltK {X : Cx} (hu : X.A.units + 3 < cLine) : OpR X (compareOp .Lt) rLtK := by
  intro pins s σ H x y v u Q I rx ry h
  obtain ⟨r, r', d, d', ka, kb, p, al, q⟩ := h
  obtain ⟨as, ra⟩ := Dp.reads I _ _ _ ka.dp rx
  obtain ⟨bs, rb⟩ := Dp.reads I _ _ _ kb.dp ry
  exact kyd_rc p ra rb al hu X.prog X.w _ _ ⟨.bl _, H, I, rfl, q⟩
end SK

set_option linter.all false
set_option maxRecDepth 100000
set_option maxHeartbeats 4000000
namespace PySem
namespace OorX
open PySem.W PySem.Calls PyProof.Rows PySem.HandSPX
/-! ### the text of OutOfRange.__init__ -/
def top (i : Nat) : Stmt := PySem.Challenge.pw_farfacts_k03_bounds_of_values.main.body.getD i (.Pass ⟨0, 0, 0, 0⟩)
abbrev sInit : Stmt := L2.inClass (top 2) 0
def iA : Arguments := L2.defArgs sInit
def iB : List Stmt := L2.defBody sInit
def iS : Scope := L2.defScope sInit
abbrev jsE' : Expr := .JoinedStr [.FormattedValue (.Name "name" ⟨7, 28, 7, 32⟩) (-1) none ⟨7, 27, 7, 33⟩, .Constant (.str " is out of its bounds") 0 ⟨7, 33, 7, 54⟩] ⟨7, 25, 7, 55⟩
def msg (n : Str) : Str := (Str.empty ++ n) ++ (" is out of its bounds" : Str)

structure OorTxt (prog : Program) (K : Frag) (mg : Str → Option Value) (C fI : Addr) : Prop where
  gC : mg "OutOfRange" = some (.ref C)
  cls : ∃ nm q N bs bm sn sub ab col dd k0 k1 k2 k3 k5, K.lookup C = some (excClassObj nm q C N bs bm true sn sub ab col dd k0 k1 k2 k3 k5 "ValueError.__new__") ∧ refsVE bm = true
  sa : findIn K (.ref C) "__setattr__" = some (some (.builtin "object.__setattr__"))
  noN : findIn K (.ref C) "name" = some none
  iC : findIn K (.ref C) "__init__" = some (some (.ref fI))
  tC : typeIn K (.ref fI) = some (.type "function")
  kC : keepIn K (.ref C) = true
  exC : subIn K (.ref C) (.type "BaseException") = some true
  tyC : typeIn K (.ref C) = some (.type "type")
  sup : ks_superIn K C C "__init__" = some (some (.builtin "ValueError.__init__"))
  any : nsIn K cStatics "thirdparty.any" = some none
  veC : subIn K (.ref C) (.type "ValueError") = some true
  own : mroIn K C (.ref C) = some true
  gsup : mg "super" = none
  noTop : (prog.main.scope.names.lookup ("super" : Str)).isSome = false
  fn : ∃ (oc : Value) (od : Option Addr) (doc pm : Value) (an : Option Addr) (ct : Value) (osl : Array (Option Value)) (cc cda : Addr) (ccl : Value) (cdd : Option Addr) (vs : Array Value) (ccs : Array (Option Value)) (file : Str) (tf : Tok) (cl : Value) (cld : Option Addr) (csl : Array (Option Value)),
    K.lookup fI = some ⟨oc, od, .func (ksFn "__init__" "OutOfRange.__init__" iA iB iS .none .none doc pm an (.ref cda) ct cc), osl⟩ ∧ codeIn K (.ref cda) "OutOfRange.__init__" = true ∧
    K.lookup cda = some ⟨ccl, cdd, .fields vs, ccs⟩ ∧ vs[2]? = some (.str file tf) ∧ ((prog.main.file : Str) == file) = true ∧ K.lookup cc = some ⟨cl, cld, .cell (some (.ref C)), csl⟩

/-- what __init__ leaves of the new exception at x -/
structure InitEnd (h h' : Heap) (x C dx t1 : Addr) (v : Value) : Prop where
  keep : ∀ b o, b ≠ x → h.get? b = some o → h'.get? b = some o
  obj : h'.get? x = some { cls := .ref C, dict := some dx, data := .fields #[.ref t1, .none, .none, .none, .bool false, .none] }
  dbig : h.objs.size ≤ dx
  dne : dx ≠ x
  ns : h'.Ns1 dx (fun y => if y = "name" then some v else none)
structure OwnMade (h h' : Heap) (e C d : Addr) (v : Value) : Prop where
  keep : ∀ b o, h.get? b = some o → h'.get? b = some o
  new : h.objs.size ≤ e
  obj : ∃ oe vs, h'.get? e = some oe ∧ oe.cls = .ref C ∧ oe.dict = some d ∧ oe.data = .fields vs ∧ vs[1]? = some .none
  dbig : h.objs.size ≤ d
  dne : d ≠ e
  ns : h'.Ns1 d (fun y => if y = "name" then some v else none)

section
variable {prog : Program} {w : World} {A : Around} {E : Value → Shared → Prop} {s : Shared} {h : Heap} {g : Array GenState} {d : Drawn} {t : Nat} {os : OsState}
/-- the wrapper of ValueError.__init__ called on an instance: its args are laid anew -/
theorem call_wrap {nm q : Str} {C N : Addr} {bs bm : List Value} {hdct : Bool} {sn : List Str} {sub : List Value} {ab : Bool} {col : Option Bool} {dd : Option Addr} {k0 k1 k2 k3 k5 : Option Value}
    {u e t0 : Addr} {rest : List Value} {Q : Value → Shared → Prop}
    (hC : h.get? C = some (excClassObj nm q C N bs bm hdct sn sub ab col dd k0 k1 k2 k3 k5 "ValueError.__new__")) (he : h.get? e = some (excO C t0)) (hu : h.get? u = some (kxs_mw "ValueError.__init__" e)) (hrest : rest.length ≤ sizeLine)
    (hq : ∀ h' t1, (∀ b o, b ≠ e → h.get? b = some o → h'.get? b = some o) → h'.get? e = some (excO C t1) → Q .none ⟨h', g, d, t, os⟩) :
    wpAny (model prog w) A (call (.ref u) rest) Q E ⟨h, g, d, t, os⟩ := by
  have FB := F.excBase_ValueError
  refine wpAny_call (codeAny_of_tree (show wpAny (model prog w) A.in1 (callAny (.ref u) ⟨rest, []⟩) _ _ _ from ?_))
  unfold callAny
  refine wpAny_bind (wpAny_load hu ?_)
  simp only [kxs_mw, show (Value.type "method-wrapper" == Value.type "method" || Value.type "method-wrapper" == Value.type "builtin_function_or_method" || Value.type "method-wrapper" == Value.type "method-wrapper") = true from by decide, if_true]
  refine KFB.if_so (by decide) (wpAny_bind (check_bound_init FB.toExcCallFacts hC he rfl (wpAny_bind (wpAny_pure (wpAny_pure ?_)))))
  exact ⟨plainId_quiet FB.init.plain _, codeAny_builtin FB.initEntry (exc_init_tree (cls := .ref C) (t0 := t0) (dv := none) (c2 := .none) (c3 := .none) (b4 := .bool false) he hrest fun h' k e' _ => hq h' _ k e')⟩

theorem ldV {M : Model} {env : Env} {m : Str → Option Value} {x : Str} {pos : Pos} {v : Value} {Q : Value → Shared → Prop} (hn : s.heap.Ns env.locals m) (hv : m x = some v) (hq : Q v s)
    (hk : env.scope.kind = .function := by rfl) (hl : env.kindOf x = some .local := by rfl) (hd : (x == ("__debug__" : Str)) = false := by decide) : wpAny M A (eval (.Name x pos) env) Q E s := wpAny_Name (wpAny_loadName_local hk hl hn hv hq) hd

theorem one_size (v : Value) : [v].length ≤ sizeLine := by rw [sizeLine_eq]; exact (by decide : 1 ≤ 16777216)
theorem js_eval {env : Env} {m : Str → Option Value} {nm : Str} {tk : Tok} {Q : Value → Shared → Prop} (hn : s.heap.Ns env.locals m) (hv : m "name" = some (.str nm tk)) (hk : env.scope.kind = .function) (hl : env.kindOf "name" = some .local) (hz : nm.length ≤ 1000)
    (hq : ∀ out t t', out.length ≤ 2000 → Q (.str out t) { s with toks := t' }) : wpAny (model prog w) A (eval jsE' env) Q E s := by
  have e0 : (Str.empty ++ nm : Str) = nm := by
    obtain ⟨a⟩ := nm
    show (⟨#[] ++ a⟩ : Str) = ⟨a⟩
    rw [Array.empty_append]
  have l1 : (nm ++ (" is out of its bounds" : Str) : Str).length ≤ 2000 := by
    rw [strLen_append]
    have : (" is out of its bounds" : Str).length = 21 := by decide +kernel
    omega
  have b1 : nm.length ≤ sizeLine := by rw [sizeLine_eq]; omega
  refine wpAny_JoinedStr ?_
  have fin : ∀ (t0 : Tok) (s1 : Shared), (∃ k, s1 = { s with toks := k }) → ∃ y t, Value.str nm t0 = .str y t ∧ (Str.empty ++ y).length ≤ sizeLine ∧ Joins (model prog w) A E (evalEach [.Constant (.str " is out of its bounds") 0 ⟨7, 33, 7, 54⟩] env) (Str.empty ++ y) (fun out s₁ => out.length ≤ sizeLine ∧ Q (.str out s₁.toks) { s₁ with toks := s₁.toks + 1 }) s1 := by
    rintro t0 s1 ⟨k, rfl⟩
    refine ⟨nm, t0, rfl, by rw [e0]; exact b1, ?_⟩
    show wpAny (model prog w) A (eval (.Constant (.str " is out of its bounds") 0 ⟨7, 33, 7, 54⟩) env) _ E _
    refine Calls.Constant_str ⟨_, _, rfl, ?_, ?_⟩
    · rw [e0, sizeLine_eq]; omega
    · refine ⟨?_, ?_⟩
      · rw [e0, sizeLine_eq]; omega
      · rw [e0]; exact hq _ _ _ l1
  show wpAny (model prog w) A (eval (.FormattedValue (.Name "name" ⟨7, 28, 7, 32⟩) (-1) none ⟨7, 27, 7, 33⟩) env) _ E s
  exact wpAny_FormattedValue_plain (ldV hn hv (wpAny_formatField_str (fin _ _ ⟨_, rfl⟩) (fin _ _ ⟨_, rfl⟩) b1) hk hl)

theorem oor_init {R : Result → Shared → Prop} {K : Frag} {mg : Str → Option Value} {C fI : Addr} (T : OorTxt prog K mg C fI) {x t0 : Addr} {nm : Str} {tk0 : Tok} (X : K.In s.heap) (hlim : s.heap.NoLimit) (G : s.heap.Ns mainGlobals mg)
    (Bt : ∃ mb, s.heap.Ns builtinsNs mb ∧ ∀ x : Str, x ≠ "__name__" → mb x = bootBuiltins x) (hx : s.heap.get? x = some (excO C t0)) (hno : ∀ o, K.lookup x ≠ some o) (hroom : A.depth < recursionLimit) (hz : nm.length ≤ 1000)
    (hq : ∀ h' tk dx t1, InitEnd s.heap h' x C dx t1 (.str nm tk0) → R (.ok (.ret .none)) { s with heap := h', toks := tk }) :
    codeAny (model prog w) A (.call (.ref fI) ⟨[.ref x, .str nm tk0], []⟩) R s := by
  obtain ⟨oc, od, doc, pm, an, ct, osl, cc, cda, ccl, cdd, vs, ccs, file, tf, cl, cld, csl, ho, hcd, hcda, hvs, hfile, hcell⟩ := T.fn
  obtain ⟨nmC, q, N, bs, bm, sn, sub, ab, col, dd, k0, k1, k2, k3, k5, hC, hbm⟩ := T.cls
  obtain ⟨mb, hb1, hb2⟩ := Bt
  have hcl : clsIn K C = some { name := nmC, bases := bs, mro := .ref C :: bm, ns := N, qualname := q, hasDict := true, slotNames := sn, subclasses := sub, abstract := ab, collection := col, hasDel := false } := by unfold clsIn; rw [hC] <;> rfl
  refine ks_codeAny_call_defAt (fd := ksFn "__init__" "OutOfRange.__init__" iA iB iS .none .none doc pm an (.ref cda) ct cc) (body := iB) (binds := [("self", .ref x), ("name", .str nm tk0)])
    hroom (X _ _ ho) rfl hlim (codeRec_of X hcd) rfl (BindsTo.of_eq rfl) (show ∀ y ∈ iS.names, y.2 ≠ .cell from by decide) (locs rfl) (fun h₁ hn₁ k₁ => ?_)
  obtain ⟨hp0, g, d, t, os⟩ := s
  have X₁ : K.In h₁ := X.keeps k₁
  have G₁ : h₁.Ns mainGlobals mg := G.keeps k₁
  have B₁ : h₁.Ns builtinsNs mb := hb1.keeps k₁
  have hx₁ := k₁ _ _ hx
  have hv1 : (fun y : Str => [(("self" : Str), Value.ref x), (("name" : Str), Value.str nm tk0)].reverse.lookup y) "self" = some (.ref x) := by rfl
  have hv2 : (fun y : Str => [(("self" : Str), Value.ref x), (("name" : Str), Value.str nm tk0)].reverse.lookup y) "name" = some (.str nm tk0) := by rfl
  have hxC : x ≠ C := fun e => by
    have z := X _ _ hC
    rw [← e, hx] at z
    cases z
  have oC := X₁ _ _ hC
  refine ks_wpAt_execs_cons (ks_wpAt_Expr_any (ks_wpAt_MethodCall ?_))
  refine ks_wpAt_super_base (env := ksEnv "OutOfRange.__init__" iS hp0.objs.size fI (.ref cda) cc) (f := fI) (ar := { arg := "self", annotation := none, pos := ⟨6, 17, 6, 21⟩ }) (file := file) (tf := tf) (vs := vs) rfl rfl rfl rfl (X₁ _ _ ho) rfl rfl rfl (X₁ _ _ hcda) rfl hvs hfile T.noTop ?_
  refine ks_loadName_global (env := ksEnv "OutOfRange.__init__" iS hp0.objs.size fI (.ref cda) cc) rfl rfl (loadGlobal_builtin (env := ksEnv "OutOfRange.__init__" iS hp0.objs.size fI (.ref cda) cc) G₁ T.gsup B₁ ((hb2 _ (by decide +kernel)).trans (by kernel_rfl)) ⟨rfl, ?_⟩)
  refine wpAny_loadName_free (env := ksEnv "OutOfRange.__init__" iS hp0.objs.size fI (.ref cda) cc) (c := cc) rfl rfl rfl ⟨_, X₁ _ _ hcell, rfl⟩ ?_
  refine wpAny_loadName_local (env := ksEnv "OutOfRange.__init__" iS hp0.objs.size fI (.ref cda) cc) rfl rfl hn₁ hv1 ?_
  refine ks_wpAny_isType_cls oC rfl ⟨rfl, ?_⟩
  refine ks_wpAny_call_super oC rfl hx₁ rfl (fun c e => by cases e) (looks_mroIn X₁ T.own) (fun h₂ e₂ k₂ => ?_)
  have X₂ : K.In h₂ := X₁.keeps k₂
  have hx₂ := k₂ _ _ hx₁
  have hI : Looks (model prog w) h₂ (isInstance (.ref x) (.type "ValueError")) true := (show W.InstAt h₂ x (excO C t0) C none from ⟨hx₂, rfl, rfl, trivial⟩).type.andThen (looks_subIn X₂ T.veC)
  have hm := T.sup
  unfold ks_superIn at hm
  rw [hcl] at hm
  refine kxs_getMethod kxs_ValueError e₂ (looks_opaque X₂ T.any) (l₀ := .ref C :: bm) (fun A Q E s k q => wpAny_bind ((looks_clsIn X₂ hcl) A _ E s k (wpAny_pure q))) rfl X₂ hm hI hxC rfl ?_
  have k₃ : ∀ b o, h₂.get? b = some o → (h₂.push (kxs_mw "ValueError.__init__" x)).get? b = some o := fun b o e => Heap.get?_push_of_some _ e
  have hu : (h₂.push (kxs_mw "ValueError.__init__" x)).get? h₂.objs.size = some (kxs_mw "ValueError.__init__" x) := Heap.get?_push_at rfl rfl
  have hx₃ := k₃ _ _ hx₂
  have hn₃ : (h₂.push (kxs_mw "ValueError.__init__" x)).Ns hp0.objs.size (fun y : Str => [(("self" : Str), Value.ref x), (("name" : Str), Value.str nm tk0)].reverse.lookup y) := (hn₁.keeps k₂).keeps k₃
  have oC₃ := k₃ _ _ (k₂ _ _ oC)
  have he : starEach [jsE'] (ksEnv "OutOfRange.__init__" iS hp0.objs.size fI (.ref cda) cc) = (false, eval jsE' (ksEnv "OutOfRange.__init__" iS hp0.objs.size fI (.ref cda) cc)) :: starEach [] (ksEnv "OutOfRange.__init__" iS hp0.objs.size fI (.ref cda) cc) := rfl
  show wpAny (model prog w) _ (callWith _ (.ref h₂.objs.size) [] (backTo _ (starEach [jsE'] (ksEnv "OutOfRange.__init__" iS hp0.objs.size fI (.ref cda) cc))) []) _ _ _
  rw [he]
  refine kxs_callWith (i := "ValueError.__init__") (x := x) (by rfl) (evalArgs_plain (Calls.spliced_cons (js_eval (m := fun y : Str => [(("self" : Str), Value.ref x), (("name" : Str), Value.str nm tk0)].reverse.lookup y) hn₃ hv2 rfl rfl hz fun out t4 t5 hout => ?_)))
  refine Calls.spliced_nil ⟨hu, ?_⟩
  refine call_wrap oC₃ hx₃ hu (one_size _) fun h₄ t1 k₄ hx₄ => ?_
  have hn₄ : h₄.Ns hp0.objs.size (fun y : Str => [(("self" : Str), Value.ref x), (("name" : Str), Value.str nm tk0)].reverse.lookup y) := by
    obtain ⟨o, es, ep, ho', hr'⟩ := hn₃
    exact ⟨o, es, ep, k₄ _ _ (Nat.ne_of_gt (Heap.lt_size hx)) ho', hr'⟩
  have X₄ : K.In h₄ := fun a o e => k₄ a o (fun z => by
    have z1 := X _ _ e
    rw [z, hx] at z1
    exact hno o (by rw [z] at e; exact e)) ((X₂.keeps k₃) a o e)
  have old : ∀ b o, b ≠ x → hp0.get? b = some o → h₄.get? b = some o := fun b o hb e => k₄ b o hb (k₃ _ _ (k₂ _ _ (k₁ _ _ e)))
  have big : hp0.objs.size ≤ h₄.objs.size := Nat.le_of_lt hn₄.lt
  refine wpAt_of_wpAny (wpAny_execs_cons (plainObj_wpAny_Assign_Attribute (ldV (env := ksEnv "OutOfRange.__init__" iS hp0.objs.size fI (.ref cda) cc) hn₄ hv2 (ldV (env := ksEnv "OutOfRange.__init__" iS hp0.objs.size fI (.ref cda) cc) hn₄ hv1 (set_plain X₄ (ox := excO C t1) (od := none) ⟨hx₄, rfl, rfl, trivial⟩ T.sa ?_)))))
  refine exc_osa X₄ hx₄ hcl (show refsVE (.ref C :: bm) = true from hbm) rfl T.noN (fun h₅ tk₅ dx k₅ dn dne hx₅ hn₅ => ?_)
  exact wpAny_execs_nil (hq h₅ tk₅ dx t1 ⟨fun b o hb e => k₅ b o hb (old b o hb e), hx₅, Nat.le_trans big dn, dne, hn₅⟩)

/-- OutOfRange(name), made -/
theorem oor_made {R : Result → Shared → Prop} {K : Frag} {mg : Str → Option Value} {C fI : Addr} (T : OorTxt prog K mg C fI) {nm : Str} {tk0 : Tok} (X : K.In s.heap) (hlim : s.heap.NoLimit) (G : s.heap.Ns mainGlobals mg)
    (Bt : ∃ mb, s.heap.Ns builtinsNs mb ∧ ∀ x : Str, x ≠ "__name__" → mb x = bootBuiltins x) (hroom : A.depth + 1 < recursionLimit) (hz : nm.length ≤ 1000)
    (hq : ∀ h' tk e d, OwnMade s.heap h' e C d (.str nm tk0) → R (.ok (.ret (.ref e))) { s with heap := h', toks := tk }) :
    codeAny (model prog w) A (.call (.ref C) ⟨[.str nm tk0], []⟩) R s := by
  obtain ⟨nmC, q, N, bs, bm, sn, sub, ab, col, dd, k0, k1, k2, k3, k5, hC, hbm⟩ := T.cls
  obtain ⟨mb, hb1, hb2⟩ := Bt
  obtain ⟨hp, g, d, tk, os⟩ := s
  have k : ∀ b o, hp.get? b = some o → ((hp.push (kdv_tup [.str nm tk0])).push (excO C hp.objs.size)).get? b = some o := fun b o e => Heap.get?_push_of_some _ (Heap.get?_push_of_some _ e)
  have hget : ((hp.push (kdv_tup [.str nm tk0])).push (excO C hp.objs.size)).get? (hp.objs.size + 1) = some (excO C hp.objs.size) := by heap_get
  have hno : ∀ o, K.lookup (hp.objs.size + 1) ≠ some o := fun o e => absurd (Nat.lt_of_succ_lt (Heap.lt_size (show hp.get? (hp.objs.size + 1) = some o from X _ _ e))) (Nat.lt_irrefl _)
  refine call_own F.excBase_ValueError (fun Y => refsVE_contains Y bm hbm) (X _ _ hC) (looks_findIn X T.iC) (fun self => bind_fn X self T.tC) (one_size _) ?_
  refine oor_init (s := ⟨(hp.push (kdv_tup [.str nm tk0])).push (excO C hp.objs.size), g, d, tk, os⟩) T (X.keeps k) (hlim.keeps k) (G.keeps k) ⟨mb, hb1.keeps k, hb2⟩ hget hno (show A.depth + 1 < recursionLimit from hroom) hz fun h' tk' dx t1 E1 => ?_
  have z : hp.objs.size + 1 + 1 ≤ dx := by
    have zz := E1.dbig
    rw [Heap.size_push, Heap.size_push] at zz
    exact zz
  refine ⟨rfl, hq h' tk' (hp.objs.size + 1) dx ⟨fun b o e => E1.keep b o (Nat.ne_of_lt (Nat.lt_succ_of_lt (Heap.lt_size e))) (k b o e), Nat.le_succ _, ⟨_, _, E1.obj, rfl, rfl, rfl, rfl⟩, (show hp.objs.size ≤ dx by omega), E1.dne, E1.ns⟩⟩
end
end OorX
end PySem

namespace L2
open PySem PySem.Spec PyProof.Rows
theorem relO_oor {v : V} {v' : Value} (r : RelV v v') (f : Str) : RelO (List.lookup f [(("name" : Str), v)]) (if f = "name" then some v' else none) := by
  by_cases hw : f = "name"
  · subst hw
    rw [if_pos rfl, show List.lookup ("name" : Str) [(("name" : Str), v)] = some v from by simp [List.lookup]]
    exact r
  · have qw : (f == ("name" : Str)) = false := by simpa using hw
    rw [if_neg hw, show List.lookup f [(("name" : Str), v)] = none from by simp [List.lookup, qw]]
    trivial
section
variable {X : Cx} {C fI : Addr}
/-- OutOfRange(e) -/
def tMkOor (C : Addr) (ta : TA) : St → Hp → XK → Prop := fun σ H Q => ta σ H fun vs H1 => ∃ nm : Str, vs = [.str nm] ∧ nm.length ≤ 1000 ∧ ∀ d, H1 d = none → Q (.ref C) (some d) (upd H1 d (.xd [(("name" : Str), .str nm)]))
theorem pmk_oor {a : Expr} {ta : TA} {p pos : Pos} (T : PySem.OorX.OorTxt X.prog X.K X.mg C fI) (hr : Room 1 X.A) (ha : PA X [a] ta) (hg : Gl X "OutOfRange" := by rfl)
    (hs : starEach [a] X.env = (false, eval a X.env) :: starEach [] X.env := by rfl) (hpl : (backTo pos (starEach [] X.env)).any (·.1) = false := by rfl) :
    PMk X (.Call (.Name "OutOfRange" p) [a] [] pos) (tMkOor C ta) := by
  intro pins s σ H Q I h
  refine wpAny_Call_Name_kw (ld_glob I hg T.gC (PySem.W.callWith_K (h₀ := X.base) I.ok.mod.kin T.kC (thn (ha.run pos pins s σ H _ I h) fun us s1 hh => ?_) hs hpl))
  obtain ⟨vs, H1, I1, r1, nm, ev, hz, q1⟩ := hh
  subst ev
  refine ⟨I1.kIn, ?_⟩
  cases r1 with
  | cons rv rn =>
    cases rn
    obtain ⟨tk0, rfl⟩ := rv
    have hlim := I1.nolimit
    obtain ⟨mb, hb1, hb2⟩ := I1.mod.blt
    have G1 := I1.mod.glob.keeps I1.bk
    have B1 := hb1.keeps I1.bk
    have X1 := I1.kIn
    obtain ⟨hp, g, dr, tk, os⟩ := s1
    refine wpAny_call (PySem.OorX.oor_made (s := ⟨hp, g, dr, tk, os⟩) T X1 hlim G1 ⟨mb, B1, hb2⟩ (by have := hr.dp; omega) hz fun h' tk' e d M => ?_)
    show MkP X pins σ Q (.ref e) ⟨h', g, dr, tk', os⟩
    obtain ⟨oe, fv, hoe, hc, hd, hdat, h1⟩ := M.obj
    obtain ⟨G', g1, g2⟩ := restrict h' fun b => decide (b ≠ e)
    have gk : ∀ b, b ≠ e → G'.get? b = h'.get? b := fun b hb => g1 b (decide_eq_true hb)
    have ge : G'.get? e = none := g2 e (by simp)
    have old : ∀ b o, hp.get? b = some o → G'.get? b = some o := fun b o q => (gk b (Nat.ne_of_lt (Nat.lt_of_lt_of_le (Heap.lt_size q) M.new))).trans (M.keep b o q)
    have ob : ObjOk X.prog X.w (upd H1 d (.xd [(("name" : Str), .str nm)])) G' d (.xd [(("name" : Str), .str nm)]) := ⟨_, M.ns.at (fun o q => (gk d M.dne).trans q), fun f => relO_oor (v := .str nm) ⟨tk0, rfl⟩ f⟩
    have J : Inv X pins σ (upd H1 d (.xd [(("name" : Str), .str nm)])) ⟨G', g, dr, tk', os⟩ := I1.laid (t' := tk') old M.dbig ob
    refine ⟨e, oe, fv, ⟨G', g, dr, tk', os⟩, _, .ref C, some d, rfl, J, fun b o q => ?_, ge, hoe, ⟨hc, hd⟩, hdat, h1, ?_, rfl, I1.bare, raises_own T.exC T.tyC, q1 d (I1.hok.fresh M.dbig)⟩
    · by_cases hb : b = e
      · have q' : G'.get? b = some o := q
        rw [hb, ge] at q'
        cases q'
      · exact (gk b hb).symm.trans q
    · rw [upd_ne (Ne.symm M.dne)]
      exact I1.hok.fresh M.new
/-- raise OutOfRange(e) -/
def tRaiseOor (C : Addr) (W : WX) (ta : TA) : TS := fun _ σ H => tMkOor C ta σ H fun cls d H' => W cls d σ H'
theorem ps_raiseOor {a : Expr} {ta : TA} {W : WX} {p pos pos2 : Pos} (hc : X.calm = true) (T : PySem.OorX.OorTxt X.prog X.K X.mg C fI) (hr : Room 1 X.A) (tk : Takes X W) (ha : PA X [a] ta) (hg : Gl X "OutOfRange" := by rfl)
    (hs : starEach [a] X.env = (false, eval a X.env) :: starEach [] X.env := by rfl) (hpl : (backTo pos (starEach [] X.env)).any (·.1) = false := by rfl) :
    PS X (.Raise (some (.Call (.Name "OutOfRange" p) [a] [] pos)) none pos2) (tRaiseOor C W ta) := ps_raise hc tk (pmk_oor T hr ha hg hs hpl)

/-! ### isinstance(e, c) of the held exception, its own dict or none -/
structure ExcCls (K : PySem.W.Frag) (D : Addr) : Prop where
  cl : (PySem.W.clsIn K D).isSome = true
  hg : PySem.W.findIn K (.ref D) "__getattribute__" = some (some (.builtin "BaseException.__getattribute__"))
  hk : PySem.W.findIn K (.ref D) "__getattr__" = some none
  hs : PySem.W.subIn K (.ref D) (.type "BaseException") = some true
  ha : PySem.W.findIn K (.ref D) "__class__" = some (some (.builtin "object.__class__"))
  hn : PySem.W.specialIn K (.builtin "object.__class__") "__get__" = some (some (.builtin "getset_descriptor.__get__"))
  ht : PySem.W.takesIn K (.builtin "object.__class__") = some true
  hm : PySem.W.mroIn K D (.type "object") = some true
def rIsX (K : PySem.W.Frag) (D a : Addr) (cls : Value) (d : Option Addr) : List V → Hp → VK → Prop := fun xs H Q => ∃ (c : V) (cv : Value) (b : Bool), xs = [.ref a, c] ∧ (∀ u, RelV c u → u = cv) ∧ cls = .ref D ∧ (∃ dd fs, d = some dd ∧ H dd = some (.xd fs)) ∧ PySem.W.kitOne K (.ref D) cv = some b ∧ Q (.bl b) H
theorem call_isX {a D : Addr} {oe : Obj} {cls : Value} {d : Option Addr} {pn : List (Addr × Obj)} (T : ExcCls X.K D) (hz : Zc cls d oe) (hf : ∃ vs, oe.data = .fields vs) : CallR (X.suite a ((a, oe) :: pn)) (.builtin "isinstance") (rIsX X.K D a cls d) := by
  intro pins s σ H xs us Q I r h
  obtain ⟨c, cv, b, rfl, hcv, hcls, ⟨dd, fs, hd, hdd⟩, e, q⟩ := h
  cases r with
  | cons rx rr =>
    cases rr with
    | cons rt rr =>
      cases rr
      cases rx
      have ec := hcv _ rt
      subst ec
      obtain ⟨hget, _⟩ := I.pin (a, oe) (List.mem_append.mpr (.inl List.mem_cons_self))
      obtain ⟨vs, hv⟩ := hf
      have hx : ObjOk X.prog X.w H s.heap dd (.xd fs) := I.hok dd _ hdd
      obtain ⟨mA, hns, hr⟩ := hx
      obtain ⟨od, ho, hl⟩ := lookIn_ns hns
      have J : PySem.W.InstAt s.heap a oe D (some od) := by
        refine ⟨hget, by rw [hz.1, hcls], ?_, ?_⟩
        · unfold PySem.W.notCls
          rw [hv] <;> rfl
        · rw [hz.2, hd]
          exact ho
      exact PySem.W.kia_one (PySem.W.kitx_exc T.cl T.hg T.hk T.hs T.ha T.hn T.ht T.hm) I.kIn J e (fun z => nomatch z) fun tk => ⟨.bl b, H, I.kept (t' := tk) fun _ _ z => z, rfl, q⟩
/-! ### repr of a truth, a text times a number -/
theorem call_repr_bl : CallR X (.builtin "repr") (fun xs H Q => ∃ b : Bool, xs = [.bl b] ∧ Q (.str (if b then "True" else "False")) H) := by
  intro pins s σ H xs us Q I r h
  obtain ⟨b, rfl, q⟩ := h
  cases r with
  | cons rx rr =>
    cases rr
    cases rx
    exact PySem.P.repr_of_bool ⟨.str _, H, I.tok _, ⟨_, rfl⟩, q⟩
end
end L2

set_option linter.all false
set_option maxRecDepth 100000
set_option maxHeartbeats 4000000
namespace N01
open PySem PySem.Builtin PySem.Builtin.Str
theorem part_len {x : Str} {cuts : List Nat} {w : Nat} : ∀ y ∈ partsBetween x cuts w, y.length ≤ x.length := by
  intro y hy
  unfold partsBetween at hy
  obtain ⟨p, _, e⟩ := List.mem_map.mp hy
  rw [← e]
  exact le_strSub x _ _
theorem split_len {x z : Str} : ∀ y ∈ Txt.split x z, y.length ≤ x.length := by
  intro y hy
  unfold Txt.split at hy
  split at hy
  · rw [List.mem_singleton.mp hy]; exact Nat.le_refl _
  · split at hy
    · rw [List.mem_singleton.mp hy]; exact Nat.le_refl _
    · exact part_len y hy
theorem parts_count {x : Str} {cuts : List Nat} {w : Nat} : (partsBetween x cuts w).length = cuts.length + 1 := by
  unfold partsBetween
  simp
theorem occ_keep (s sub : Str) (hi limit : Nat) : ∀ (l : List Nat) (st : Array Nat × Nat) (a : Nat), st.fst.toList.head? = some a → (forIn l st (StrLaws.occBody s sub hi limit)).run.fst.toList.head? = some a
  | [], _, _, h => h
  | b :: l, st, a, h => by
    rw [List.forIn_cons]
    unfold StrLaws.occBody
    split
    · refine occ_keep s sub hi limit l _ a ?_
      show (st.fst.push b).toList.head? = some a
      rw [Array.toList_push]
      cases e : st.fst.toList with
      | nil => rw [e] at h; cases h
      | cons c r => rw [e] at h; exact h
    · exact occ_keep s sub hi limit l _ a h
theorem occ_head (s sub : Str) (hi n : Nat) : ∀ (l : List Nat) (f : Nat), (forIn l ((#[] : Array Nat), f) (StrLaws.occBody s sub hi (n + 1))).run.fst.toList.head? = (forIn l ((#[] : Array Nat), f) (StrLaws.occBody s sub hi 1)).run.fst.toList.head?
  | [], _ => rfl
  | b :: l, f => by
    rw [List.forIn_cons, List.forIn_cons]
    have e1 : ∀ k : Nat, 0 < k → StrLaws.occBody s sub hi k b ((#[] : Array Nat), f) = if ((f ≤ b) ∧ b + sub.length ≤ hi) ∧ subAt s sub b = true then pure (ForInStep.yield ((#[] : Array Nat).push b, b + sub.length)) else pure (ForInStep.yield ((#[] : Array Nat), f)) := by
      intro k hk
      unfold StrLaws.occBody
      have : ((((#[] : Array Nat), f).fst.size < k ∧ ((#[] : Array Nat), f).snd ≤ b) ∧ b + sub.length ≤ hi) ∧ subAt s sub b = true ↔ ((f ≤ b) ∧ b + sub.length ≤ hi) ∧ subAt s sub b = true := by
        constructor
        · rintro ⟨⟨⟨_, h2⟩, h3⟩, h4⟩; exact ⟨⟨h2, h3⟩, h4⟩
        · rintro ⟨⟨h2, h3⟩, h4⟩; exact ⟨⟨⟨hk, h2⟩, h3⟩, h4⟩
      by_cases c : ((f ≤ b) ∧ b + sub.length ≤ hi) ∧ subAt s sub b = true
      · rw [if_pos c, if_pos (this.mpr c)]
      · rw [if_neg c, if_neg (fun z => c (this.mp z))]
    rw [e1 (n + 1) (Nat.succ_pos n), e1 1 Nat.one_pos]
    by_cases c : ((f ≤ b) ∧ b + sub.length ≤ hi) ∧ subAt s sub b = true
    · rw [if_pos c]
      exact (occ_keep s sub hi (n + 1) l ((#[] : Array Nat).push b, b + sub.length) b rfl).trans (occ_keep s sub hi 1 l ((#[] : Array Nat).push b, b + sub.length) b rfl).symm
    · rw [if_neg c]
      exact occ_head s sub hi n l f
theorem occurrences_head (s sub : Str) (lo hi n : Nat) : (occurrences s sub lo hi (n + 1)).head? = (occurrences s sub lo hi 1).head? := by
  rw [StrLaws.occ_eq, StrLaws.occ_eq]
  exact occ_head s sub hi n _ lo
theorem part_of_split {x z a b : Str} (h : Txt.split x z = [a, b]) : (Txt.partition x z).1 = a ∧ (Txt.partition x z).2.2 = b := by
  unfold Txt.split at h
  split at h
  · cases h
  · split at h
    · cases h
    · have hc := congrArg List.length h
      rw [parts_count] at hc
      have h1 := occurrences_head x z 0 x.length x.length
      cases e : occurrences x z 0 x.length (x.length + 1) with
      | nil => rw [e] at hc; simp at hc
      | cons i r =>
        cases r with
        | cons j q => rw [e] at hc; simp at hc
        | nil =>
          rw [e] at h h1
          unfold Txt.partition
          cases e2 : occurrences x z 0 x.length 1 with
          | nil => rw [e2] at h1; cases h1
          | cons i' r' =>
            rw [e2] at h1
            have hi : i = i' := Option.some.inj h1
            subst hi
            unfold partsBetween at h
            simp only [List.map_cons, List.map_nil, List.cons_append, List.nil_append, List.zip_cons_cons, List.zip_nil_left] at h
            injection h with ha hb
            injection hb with hb _
            exact ⟨ha, hb⟩
theorem size_reps (c : Array Nat) : ∀ (k : Nat) (a : Array Nat), ((List.replicate k c).foldl (· ++ ·) a).size = a.size + k * c.size
  | 0, a => by simp
  | k + 1, a => by
    rw [List.replicate_succ, List.foldl_cons, size_reps c k, Array.size_append, Nat.succ_mul]
    omega
theorem mul_len (z : Str) (n : Int) : (Txt.mul z n).length = z.length * n.toNat := by
  unfold Txt.mul
  by_cases h : n < 1
  · rw [if_pos h, show n.toNat = 0 by omega, Nat.mul_zero] <;> rfl
  · rw [if_neg h]
    by_cases h2 : (n == 1 || z.length == 0) = true
    · rw [if_pos h2]
      rcases Bool.or_eq_true_iff.mp h2 with h3 | h3
      · rw [show n.toNat = 1 by have := eq_of_beq h3; omega, Nat.mul_one]
      · rw [show z.length = 0 from eq_of_beq h3, Nat.zero_mul]
    · rw [if_neg h2]
      show ((List.replicate n.toNat z.cps).foldl (· ++ ·) #[]).size = z.cps.size * n.toNat
      rw [size_reps, Nat.mul_comm]
      simp
def Asc (t : Str) : Prop := ∀ c ∈ t.cps.toList, c < 128
theorem asc_app {a b : Str} (ha : Asc a) (hb : Asc b) : Asc (a ++ b) := by
  intro c hc
  have e : (a ++ b).cps.toList = a.cps.toList ++ b.cps.toList := Array.toList_append
  rw [e] at hc
  rcases List.mem_append.mp hc with h | h
  · exact ha c h
  · exact hb c h
theorem asc_one {c : Nat} (h : c < 128) : Asc ⟨#[c]⟩ := by
  intro d hd
  have e : d = c := by simpa using hd
  rw [e]
  exact h
theorem mem_reps (a : Array Nat) : ∀ (k : Nat) (b : Array Nat) (c : Nat), c ∈ ((List.replicate k a).foldl (· ++ ·) b).toList → c ∈ b.toList ∨ c ∈ a.toList
  | 0, _, _, h => Or.inl h
  | k + 1, b, c, h => by
    rw [List.replicate_succ, List.foldl_cons] at h
    rcases mem_reps a k (b ++ a) c h with h | h
    · rw [Array.toList_append] at h
      exact List.mem_append.mp h
    · exact Or.inr h
theorem asc_mul {z : Str} (n : Int) (hz : Asc z) : Asc (Txt.mul z n) := by
  intro c hc
  unfold Txt.mul at hc
  split at hc
  · exact absurd hc (by decide +revert)
  · split at hc
    · exact hz c hc
    · rcases mem_reps z.cps n.toNat #[] c hc with h | h
      · cases h
      · exact hz c h
theorem strOk_asc {t : Str} (h : Asc t) : PyData.strOk t = true := by
  unfold PyData.strOk
  rw [Array.all_eq_true]
  intro i hi
  have := h t.cps[i] (by simp)
  exact decide_eq_true (by omega)
theorem mulOk_small {z : Str} {n : Int} (h1 : z.length ≤ 1000) (h2 : n ≤ 1000) (h3 : -1000 ≤ n) : MulOk z n := by
  refine ⟨?_, fun hn hc => ?_, fun hn hc => ?_⟩
  · rw [decide_eq_false (by omega), decide_eq_false (by omega)] <;> rfl
  · have hz : (z.length : Int) ≤ 1000 := by omega
    have : (1000 : Int) ≤ (2 ^ 63 - 1) / n := by
      refine (Int.le_ediv_iff_mul_le (by omega)).mpr ?_
      omega
    omega
  · have hb : z.length * n.toNat ≤ 1000 * 1000 := Nat.mul_le_mul h1 (by omega)
    have hs : sizeLine = 16777216 := sizeLine_eq
    unfold tooLong
    exact decide_eq_false (by omega)
end N01

set_option linter.all false
set_option maxRecDepth 100000
set_option maxHeartbeats 4000000
namespace N03
open PySem PySem.Spec PyProof.Rows L2 N01
abbrev top := PySem.OorX.top
/-! ### what a text is -/
def SG : Str := "abcdefghijklmnopqrstuvwxyz0123456789"
def inS (c : Nat) : Bool := decide (c ∈ SG.cps.toList)
def nameT (t : Str) : Bool := (decide (1 ≤ t.length) && decide (t.length ≤ 12)) && t.cps.toList.all inS
def uidT (t : Str) : Bool := match Txt.split t ":" with
  | [a, b] => nameT a && nameT b
  | _ => false
/-! ### promises -/
def spText (r : Str → V) : Sp := fun vs H Q _ => ∃ t : Str, vs = [.str t] ∧ t.length ≤ 1000 ∧ ∀ H', Same H H' → Q (r t) H'
/-- what the top has written of constants and what it left of built-in names -/
structure TxtN (K : PySem.W.Frag) (mg : Str → Option Value) : Prop where
  len : mg "len" = none
  all : mg "all" = none
  nm : ∃ t, mg "NAME_MOST" = some (.int 12 t)
  sg : ∃ t, mg "SIGNS" = some (.str SG t)
abbrev sIsName : Stmt := top 6
abbrev sIsUid : Stmt := top 7
section
variable {P : Program} {w : World} {K : PySem.W.Frag} {mg : Str → Option Value} {base : Heap}
theorem sizeT {t : Str} (h : t.length ≤ 1000) : t.length ≤ sizeLine := Nat.le_trans h (by decide)
theorem len_list (t : Str) : t.cps.toList.length = t.length := by simp [Str.length]
theorem scN : FnScope ["text", "sign"] ["text"] (defScope sIsName) := ⟨rfl, rfl, rfl, by decide +kernel, rfl, by decide +kernel, by decide +kernel⟩
theorem ok_isName {f : Addr} {fd : FuncData} (F : Fun K "is_name" "is_name" sIsName f fd) (T : TxtN K mg) : FnOk P w K mg base CX0 1 f fd ["text"] (spText fun t => .bl (nameT t)) := by
  refine F.ok scN (fun vs H Q E h => ?_) (fun cdv A outer s H vs Q E hr h => ?_)
  · obtain ⟨t, rfl, _⟩ := h
    rfl
  · obtain ⟨t, rfl, hz, k⟩ := h
    obtain ⟨t1, hn⟩ := T.nm
    obtain ⟨t2, hs⟩ := T.sg
    refine ⟨_, pss_one (ps_ret (pe_and (pe_chain op_le op_le pe_int (pe_callB call_len_str (by rfl) T.len PySem.boot_len (pa_cons (pv 0) pa_nil)) (pe_glob (v := .int 12) rfl hn ⟨_, rfl⟩))
      (pe_one (pe_callB (cr_all rfl) (by rfl) T.all (by decide +kernel) (pa_cons
        (pe_lc (own := [("sign", 1)]) (g := gName 1) (tt := tYes) rfl scN.nd (pi_str (pv 0)) (blkOk_by (N := ["text", "sign"]) (sc := defScope sIsName) (by decide +kernel)) (fun _ _ _ _ _ => pg_name (i := 1) scN.nd rfl (Or.inl rfl)) (fun _ _ _ _ _ => pts_nil)
          (fun _ _ _ _ _ => pe_cmpR op_in_sign (pv 1) (pe_glob (v := .str SG) rfl hs ⟨_, rfl⟩) (by with_unfolding_all rfl))) pa_nil))))), ?_⟩
    refine ⟨_, rfl, _, rfl, sizeT hz, _, _, rfl, rfl, _, rfl, ?_⟩
    by_cases h1 : 1 ≤ t.length
    · rw [decide_eq_true (show (1 : Int) ≤ (t.length : Int) by omega)]
      refine iteT ⟨_, _, rfl, rfl, _, rfl, ?_⟩
      by_cases h2 : t.length ≤ 12
      · rw [decide_eq_true (show (t.length : Int) ≤ 12 by omega)]
        refine iteT ⟨_, rfl, t, rfl, fun D hD => lc_it (walk_str (z := t)) (fun i H' => H' D = some (.lst ((t.cps.toList.take i).map fun c => V.bl (inS c))) ∧ Same H H')
          ⟨upd_same, fun b o e => (upd_ne (ne_of_none e hD)).trans e⟩ (fun _ _ _ _ => trivial) ?_ ?_⟩
        · rintro i x H1 H1' hi ⟨p1, p2⟩ ⟨rfl, c, hc, rfl⟩
          refine ⟨rfl, ?_⟩
          refine ⟨_, rfl, c, SG, rfl, rfl, _, p1, ?_, ?_, fun b o e => (upd_ne (ne_of_none e hD)).trans (p2 b o e)⟩
          · rw [List.length_map, List.length_take]
            have := len_list t
            have : (1000 : Nat) < sizeLine := by decide
            omega
          · have hc' : t.cps.toList[i]? = some c := by simpa using hc
            rw [upd_same, List.take_add_one, hc', List.map_append] <;> rfl
        · rintro H1 ⟨p1, p2⟩
          refine ⟨D, t.cps.toList.map inS, rfl, SqL.of ?_, ?_⟩
          · rw [p1, List.map_map]
            have e : t.cps.toList.take t.cps.size = t.cps.toList := List.take_of_length_le (by simp)
            rw [e] <;> rfl
          · have e : nameT t = (t.cps.toList.map inS).all id := by
              unfold nameT
              rw [decide_eq_true h1, decide_eq_true h2, List.all_map] <;> rfl
            have q : Q (.bl (nameT t)) H1 := k H1 p2
            rw [e] at q
            exact q
      · rw [decide_eq_false (show ¬ (t.length : Int) ≤ 12 by omega)]
        refine iteF ?_
        have e : nameT t = false := by
          unfold nameT
          rw [decide_eq_false h2, Bool.and_false, Bool.false_and]
        have q : Q (.bl (nameT t)) H := k H (Same.refl H)
        rw [e] at q
        exact q
    · rw [decide_eq_false (show ¬ (1 : Int) ≤ (t.length : Int) by omega)]
      refine iteF ⟨_, rfl, iteF ?_⟩
      have e : nameT t = false := by
        unfold nameT
        rw [decide_eq_false h1, Bool.false_and, Bool.false_and]
      have q : Q (.bl (nameT t)) H := k H (Same.refl H)
      rw [e] at q
      exact q
def t_uid (K : PySem.W.Frag) : TS := tSeq (tAsg (tM1 (fun x xs H Q => ∃ a b, x = .str a ∧ xs = [.str b] ∧ (b.length == 0) = false ∧ a.length + 2 ≤ sizeLine ∧ rNewStrs (Txt.split a b) H Q) (tVar 0) (tC (.str ":"))) (gName 1))
  (tRet (tAndV (tOp rEq (tCB (fun xs H Q => ∃ p ys, xs = [.ref p] ∧ (SqL K H p ys ∨ SqT K H p ys) ∧ Q (.int ys.length) H) (tCons (tVar 1) tNil)) (tC (.int 2)))
    (tAndV (tCall (spText fun t => .bl (nameT t)) [] E0 (tCons (tOp (rIxL K) (tVar 1) (tC (.int 0))) tNil)) (tCall (spText fun t => .bl (nameT t)) [] E0 (tCons (tOp (rIxL K) (tVar 1) (tC (.int 1))) tNil)))))
theorem colon_ne : ((":" : Str).length == 0) = false := by decide +kernel
theorem uid_read {K : PySem.W.Frag} {H : Hp} {Q : VK} (t : Str) (hz : t.length ≤ 1000) (k : ∀ H', Same H H' → Q (.bl (uidT t)) H') : t_uid K { nx := fun _ H' => Q .non H', rt := Q } (start ["text", "parts"] [.str t]) H := by
  have sz : (1000 : Nat) + 2 ≤ sizeLine := by decide
  refine ⟨_, rfl, ⟨_, rfl⟩, _, _, rfl, rfl, colon_ne, by omega, fun p hp => ?_⟩
  have sm : ∀ o, Same H (upd H p o) := fun o b u e => (upd_ne (ne_of_none e hp)).trans e
  refine ⟨_, rfl, p, _, rfl, .inl (SqL.of upd_same), rfl, _, rfl, ?_⟩
  have k' : ∀ (H' : Hp) (b : Bool), Same H H' → uidT t = b → Q (.bl b) H' := fun H' b s e => e ▸ k H' s
  unfold uidT at k'
  have hl := split_len (x := t) (z := ":")
  cases e : Txt.split t ":" with
  | nil =>
    refine iteF ?_
    exact k' _ false (sm _) (by rw [e])
  | cons a r =>
    cases r with
    | nil => exact iteF (k' _ false (sm _) (by rw [e]))
    | cons b q =>
      cases q with
      | cons c q2 =>
        rw [decide_eq_false (by simp; omega)]
        exact iteF (k' _ false (sm _) (by rw [e]))
      | nil =>
        rw [e] at k' hl
        have h0 : a.length ≤ 1000 := Nat.le_trans (hl a (by simp)) hz
        have h1 : b.length ≤ 1000 := Nat.le_trans (hl b (by simp)) hz
        refine iteT ⟨_, rfl, p, _, 0, _, rfl, rfl, SqL.of upd_same, atI_nat (j := 0) rfl, a, rfl, h0, fun H1 s1 => ⟨_, rfl, ?_⟩⟩
        have hp1 := s1 p _ upd_same
        cases e2 : nameT a with
        | false => exact iteF (k' _ false ((sm _).trans s1) (by show (nameT a && nameT b) = false; rw [e2] <;> rfl))
        | true =>
          refine iteT ⟨_, rfl, p, _, 1, _, rfl, rfl, SqL.of hp1, atI_nat (j := 1) rfl, b, rfl, h1, fun H2 s2 => ?_⟩
          exact k' _ (nameT b) (((sm _).trans s1).trans s2) (by show (nameT a && nameT b) = nameT b; rw [e2] <;> rfl)
theorem scU : FnScope ["text", "parts"] ["text"] (defScope sIsUid) := ⟨rfl, rfl, rfl, by decide +kernel, rfl, by decide +kernel, by decide +kernel⟩
theorem ok_isUid {f fN : Addr} {fd fdN : FuncData} (F : Fun K "is_uid" "is_uid" sIsUid f fd) (T : TxtN K mg) (GN : FnOk P w K mg base CX0 1 fN fdN ["text"] (spText fun t => .bl (nameT t))) (bN : Binds K fdN ["text"] []) (gN : mg "is_name" = some (.ref fN)) (kN : PySem.W.keepIn K (.ref fN) = true) :
    FnOk P w K mg base CX0 2 f fd ["text"] (spText fun t => .bl (uidT t)) := by
  refine F.ok scU (fun vs H Q E h => ?_) (fun cdv A outer s H vs Q E hr h => ?_)
  · obtain ⟨t, rfl, _⟩ := h
    rfl
  · obtain ⟨t, rfl, hz, k⟩ := h
    refine ⟨_, pss_cons (ps_set (i := 1) scU.nd rfl (Or.inl rfl) (pe_split (pv 0) pe_str))
      (pss_one (ps_ret (pe_and (pe_cmpR op_eq (pe_callB call_len_seq (by rfl) T.len PySem.boot_len (pa_cons (pv 1) pa_nil)) pe_int (nomark _))
        (pe_and (pe_call GN hr (by rfl) gN kN bN .nil pass0 (pa_cons (pe_ix ix_list (pv 1) pe_int (fun _ _ => rfl)) pa_nil))
          (pe_one (pe_call GN hr (by rfl) gN kN bN .nil pass0 (pa_cons (pe_ix ix_list (pv 1) pe_int (fun _ _ => rfl)) pa_nil))))))), ?_⟩
    exact uid_read t hz k
end
end N03

set_option linter.all false
set_option maxRecDepth 100000
set_option maxHeartbeats 4000000
namespace L2
open PySem PySem.Spec PyProof.Rows
theorem op_mul_str {X : Cx} : OpR X (binaryOp .Mult) (fun x y H Q => ∃ z n, x = .str z ∧ y = .int n ∧ z.length ≤ 1000 ∧ n ≤ 1000 ∧ -1000 ≤ n ∧ Q (.str (Txt.mul z n)) H) := by
  intro pins s σ H x y v u Q I rx ry h
  obtain ⟨z, n, rfl, rfl, h1, h2, h3, q⟩ := h
  obtain ⟨t, rfl⟩ := rx
  obtain ⟨t', rfl⟩ := ry
  exact SB.mul (N01.mulOk_small h1 h2 h3) fun t' k => ⟨.str _, H, I.tok _, ⟨_, rfl⟩, q⟩
end L2
namespace N03
open PySem PySem.Spec PyProof.Rows L2 N01
structure TxtL (K : PySem.W.Frag) (mg : Str → Option Value) : Prop where
  len : mg "len" = none
  int : mg "int" = none
  range : mg "range" = none
abbrev sCell : Stmt := top 24
abbrev sDig : Stmt := top 25
abbrev sDraw : Stmt := top 26
/-- some int -/
def spCell (K : PySem.W.Frag) : Sp := fun vs H Q _ => ∃ (l : Addr) (ns : List Int) (j : Nat), vs = [.ref l, .int j] ∧ SqL K H l (ns.map V.int) ∧ ∀ n, Q (.int n) H
/-- a new list of ints, none of the old objects touched -/
def spDig (K : PySem.W.Frag) : Sp := fun vs H Q _ => ∃ (l : Addr) (ns : List Int), vs = [.ref l, .int 0, .int 63] ∧ SqL K H l (ns.map V.int) ∧ ∀ (H' : Hp) (p : Addr) (ms : List Int), Same H H' → H p = none → H' p = some (.lst (ms.map V.int)) → ms.length ≤ 4000 → Q (.ref p) H'
/-- the box: its digits, how many were drawn -/
def BoxAt (H : Hp) (b : Addr) : Prop := ∃ (d : Addr) (ns : List Int) (k : Nat), H b = some (.lst [.ref d, .int k]) ∧ H d = some (.lst (ns.map V.int)) ∧ ns.length ≤ 4000
def Kp (b : Addr) (H H' : Hp) : Prop := ∀ c o, H c = some o → c ≠ b → H' c = some o
theorem Kp.refl {b : Addr} (H : Hp) : Kp b H H := fun _ _ e _ => e
/-- all but the box as it was, the box with the same digits -/
structure Kept (b : Addr) (H H' : Hp) : Prop where
  all : ∀ c o, H c = some o → c ≠ b → H' c = some o
  box : ∀ (d : Addr) (j : Nat), H b = some (.lst [.ref d, .int j]) → ∃ j' : Nat, H' b = some (.lst [.ref d, .int j'])
theorem Kept.refl {b : Addr} (H : Hp) : Kept b H H := ⟨fun _ _ e _ => e, fun _ j e => ⟨j, e⟩⟩
theorem Kept.trans {b : Addr} {H H1 H2 : Hp} (a : Kept b H H1) (c : Kept b H1 H2) : Kept b H H2 := ⟨fun x o e n => c.all x o (a.all x o e n) n, fun d j e => by
  obtain ⟨j1, e1⟩ := a.box d j e
  exact c.box d j1 e1⟩
theorem Kept.same {b : Addr} {H H1 : Hp} (s : Same H H1) : Kept b H H1 := ⟨fun c o e _ => s c o e, fun d j e => ⟨j, s _ _ e⟩⟩
theorem Kept.upd {b p : Addr} {H H1 : Hp} {o : HO} (a : Kept b H H1) (n : H p = none) (nb : b ≠ p) : Kept b H (upd H1 p o) := ⟨fun c u e m => (upd_ne (ne_of_none e n)).trans (a.all c u e m), fun d j e => by
  obtain ⟨j1, e1⟩ := a.box d j e
  exact ⟨j1, (upd_ne nb).trans e1⟩⟩
theorem Kept.new {b p : Addr} {H H1 : Hp} {o : HO} (a : Kept b H H1) (n : H1 p = none) : Kept b H (L2.upd H1 p o) := a.trans (Kept.same fun _ _ e => (upd_ne (ne_of_none e n)).trans e)
theorem BoxAt.kept {b : Addr} {H H' : Hp} (B : BoxAt H b) (k : Kept b H H') : BoxAt H' b := by
  obtain ⟨d, ns, j, h1, h2, h3⟩ := B
  obtain ⟨j', e⟩ := k.box d j h1
  refine ⟨d, ns, j', e, k.all _ _ h2 (fun z => ?_), h3⟩
  rw [z, h1] at h2
  cases ns with
  | nil => cases h2
  | cons x r => cases h2
theorem BoxAt.ne {b p : Addr} {H : Hp} (B : BoxAt H b) (n : H p = none) : b ≠ p := by
  obtain ⟨d, ns, j, h1, _⟩ := B
  exact ne_of_none h1 n
theorem BoxAt.same {b : Addr} {H H' : Hp} (B : BoxAt H b) (s : Same H H') : BoxAt H' b := by
  obtain ⟨d, ns, k, h1, h2, h3⟩ := B
  exact ⟨d, ns, k, s _ _ h1, s _ _ h2, h3⟩
theorem BoxAt.new {b p : Addr} {H : Hp} {o : HO} (B : BoxAt H b) (n : H p = none) : BoxAt (upd H p o) b := B.same fun c u e => (upd_ne (ne_of_none e n)).trans e
def spDraw : Sp := fun vs H Q _ => ∃ (b : Addr) (m : Int), vs = [.ref b, .int m] ∧ 0 < m ∧ BoxAt H b ∧ ∀ (n : Int) (H' : Hp), 0 ≤ n → n < m → BoxAt H' b → Kept b H H' → Q (.int n) H'
section
variable {P : Program} {w : World} {K : PySem.W.Frag} {mg : Str → Option Value} {base : Heap}
theorem scC : FnScope ["script", "k"] ["script", "k"] (defScope sCell) := ⟨rfl, rfl, rfl, by decide +kernel, rfl, by decide +kernel, by decide +kernel⟩
theorem ok_cell {f : Addr} {fd : FuncData} (F : Fun K "_law_cell" "_law_cell" sCell f fd) (T : TxtL K mg) : FnOk P w K mg base CX0 1 f fd ["script", "k"] (spCell K) := by
  refine F.ok scC (fun vs H Q E h => ?_) (fun cdv A outer s H vs Q E hr h => ?_)
  · obtain ⟨l, ns, j, rfl, _⟩ := h
    rfl
  · obtain ⟨l, ns, j, rfl, hs, k⟩ := h
    refine ⟨_, pss_cons (ps_if (pt_cmpR op_lt (pv 1) (pe_callB call_len_seq (by rfl) T.len PySem.boot_len (pa_cons (pv 0) pa_nil)) (nomark _)) (pss_one (ps_ret (pe_ix ix_list (pv 0) (pv 1) (fun _ _ => rfl)))) pss_nil) (pss_one (ps_ret pe_int)), ?_⟩
    refine ⟨_, rfl, _, rfl, l, _, rfl, .inl hs, _, _, rfl, rfl, _, rfl, ite2 (fun c => ?_) (fun c => ?_)⟩
    · have hj : j < ns.length := by
        have := of_decide_eq_true c
        rw [List.length_map] at this
        omega
      refine ⟨_, rfl, _, rfl, l, _, _, .int ns[j], rfl, rfl, hs, atI_nat ?_, k _⟩
      rw [List.getElem?_map, List.getElem?_eq_getElem hj] <;> rfl
    · exact k 0
theorem scD : FnScope ["script", "first", "last", "digits", "k", "cell", "turn", "seed"] ["script", "first", "last"] (defScope sDig) := ⟨rfl, rfl, rfl, by decide +kernel, rfl, by decide +kernel, by decide +kernel⟩
theorem ok_dig {f fC : Addr} {fd fdC : FuncData} (F : Fun K "_law_digits" "_law_digits" sDig f fd) (T : TxtL K mg) (GC : FnOk P w K mg base CX0 1 fC fdC ["script", "k"] (spCell K)) (bC : Binds K fdC ["script", "k"] []) (gC : mg "_law_cell" = some (.ref fC)) (kC : PySem.W.keepIn K (.ref fC) = true) :
    FnOk P w K mg base CX0 2 f fd ["script", "first", "last"] (spDig K) := by
  refine F.ok scD (fun vs H Q E h => ?_) (fun cdv A outer s H vs Q E hr h => ?_)
  · obtain ⟨l, ns, rfl, _⟩ := h
    rfl
  · obtain ⟨l, ns, rfl, hs, k⟩ := h
    refine ⟨_, pss_cons (ps_set (i := 3) scD.nd rfl (Or.inl rfl) (pe_lst pa_nil)) (pss_cons (ps_for PassesOwn.never rfl (pi_range2 (by rfl) T.range (pa_cons (pv 1) (pa_cons (pv 2) pa_nil))) (pg_name (i := 4) scD.nd rfl (Or.inl rfl))
      (pss_cons (ps_set (i := 5) scD.nd rfl (Or.inl rfl) (pe_call GC hr (by rfl) gC kC bC .nil pass0 (pa_cons (pv 0) (pa_cons (pv 4) pa_nil))))
      (pss_cons (ps_if (pt_cmpR op_lt (pv 5) pe_int (nomark _)) (pss_one (ps_set (i := 5) scD.nd rfl (Or.inl rfl) (pe_op op_sub pe_int (pe_op op_mul pe_int (pv 5))))) pss_nil)
      (pss_one (ps_if (pt_cmpR op_ge (pv 5) pe_int (nomark _))
        (pss_one (ps_for PassesOwn.never rfl (pi_range1 (by rfl) T.range (pa_cons pe_int pa_nil)) (pg_name (i := 6) scD.nd rfl (Or.inl rfl))
          (pss_one (ps_if (pt_cmpR op_gt (pv 5) pe_int (nomark _))
            (pss_cons (ps_expr (pe_bm PySem.F.plainAttrs_list PySem.F.slot_list_append PySem.F.type_list_append mt_append (pv 3) (pa_cons (pe_op op_mod (pe_callTy call_int1 (by rfl) T.int (by decide +kernel) (pa_cons (pv 5) pa_nil)) pe_int) pa_nil)))
              (pss_one (ps_set (i := 5) scD.nd rfl (Or.inl rfl) (pe_op op_fdiv (pv 5) pe_int)))) pss_nil))))
        (pss_cons (ps_set (i := 7) scD.nd rfl (Or.inl rfl) (pe_op op_mod (pe_callTy call_int1 (by rfl) T.int (by decide +kernel) (pa_cons (pe_op op_add (pe_op op_add (pe_op op_mul (pv 5) pe_int) (pe_op op_mul (pv 4) pe_int)) pe_int) pa_nil)) pe_int))
          (pss_one (ps_for PassesOwn.never rfl (pi_range1 (by rfl) T.range (pa_cons pe_int pa_nil)) (pg_name (i := 6) scD.nd rfl (Or.inl rfl))
            (pss_cons (ps_set (i := 7) scD.nd rfl (Or.inl rfl) (pe_op op_mod (pe_callTy call_int1 (by rfl) T.int (by decide +kernel) (pa_cons (pe_op op_add (pe_op op_add (pe_op op_mul (pv 7) pe_int) (pe_op op_mul pe_int (pv 6))) pe_int) pa_nil)) pe_int))
              (pss_one (ps_expr (pe_bm PySem.F.plainAttrs_list PySem.F.slot_list_append PySem.F.type_list_append mt_append (pv 3) (pa_cons (pe_op op_mod (pe_callTy call_int1 (by rfl) T.int (by decide +kernel) (pa_cons (pe_op op_fdiv (pv 7) pe_int) pa_nil)) pe_int) pa_nil))))))))))))) (pss_one (ps_ret (pv 3)))), ?_⟩
    refine ⟨Nat.zero_le _, fun p hp => ?_⟩
    have big : (4000 : Nat) < sizeLine := by decide
    have grow : ∀ {H2 : Hp} {o : HO}, Same H H2 → Same H (upd H2 p o) := fun s b u e => (upd_ne (ne_of_none e hp)).trans (s b u e)
    have more : ∀ {H2 : Hp} {m : List Int} (z : Int), (upd H2 p (.lst (m.map V.int ++ [V.int z]))) p = some (.lst ((m ++ [z]).map V.int)) := fun z => by rw [upd_same, List.map_append] <;> rfl
    refine ⟨_, rfl, _, rfl, 0, 63, rfl, ⟨by decide, by decide, by decide, by decide⟩, for_range (lo := 0) (n := 63) (fun i σ H' => ∃ (ms : List Int) (v4 v5 v6 v7 : Option V), σ = [some (.ref l), some (.int 0), some (.int 63), some (.ref p), v4, v5, v6, v7] ∧
      H' p = some (.lst (ms.map V.int)) ∧ ms.length ≤ 60 * i ∧ Same H H') ⟨[], none, none, none, none, rfl, upd_same, Nat.le_refl _, grow (Same.refl H)⟩ ?_ ?_⟩
    · rintro i σ H1 hi ⟨ms, v4, v5, v6, v7, rfl, p1, p2, p3⟩
      refine ⟨_, rfl, _, rfl, l, ns, i, by rw [Int.zero_add] <;> rfl, p3.seq hs, fun c0 => ?_⟩
      refine ⟨_, rfl, _, _, rfl, rfl, _, rfl, ite2 (fun _ => ⟨_, rfl, _, _, rfl, rfl, Or.inl ⟨by decide, by decide⟩, _, _, rfl, rfl, ?_⟩) (fun _ => ?_)⟩
      all_goals
        refine ⟨_, rfl, _, _, rfl, rfl, _, rfl, ite2 (fun _ => ?_) (fun cc => ?_)⟩
        · refine ⟨60, rfl, by decide, by decide, for_range (lo := 0) (n := 60) (fun j σ H' => ∃ (m2 : List Int) (c : Int) (v6 : Option V), σ = [some (.ref l), some (.int 0), some (.int 63), some (.ref p), some (.int (0 + i)), some (.int c), v6, v7] ∧
            H' p = some (.lst (m2.map V.int)) ∧ m2.length ≤ 60 * i + j ∧ Same H H') ⟨ms, _, v6, rfl, p1, p2, p3⟩ ?_ ?_⟩
          · rintro j σ H2 hj ⟨m2, c, v, rfl, q1, q2, q3⟩
            refine ⟨_, rfl, _, _, rfl, rfl, _, rfl, ite2 (fun _ => ?_) (fun _ => ?_)⟩
            · refine ⟨_, rfl, Or.inl ⟨rfl, _, Or.inl (Or.inl q1)⟩, _, rfl, Or.inl ⟨_, rfl, _, _, rfl, rfl, (by show (0 : Int) < 1000; decide), p, _, _, rfl, rfl, q1, ?_, ?_⟩⟩
              · rw [List.length_map]; omega
              · exact ⟨_, rfl, _, _, rfl, rfl, ⟨by decide, by decide⟩, m2 ++ [_], _, _, rfl, more _, by rw [List.length_append, List.length_singleton]; omega, grow q3⟩
            · exact ⟨m2, c, _, rfl, q1, by omega, q3⟩
          · rintro σ H2 ⟨m2, c, v, rfl, q1, q2, q3⟩
            exact ⟨m2, _, _, _, _, rfl, q1, by omega, q3⟩
        · refine ⟨_, rfl, _, _, rfl, rfl, Or.inr ⟨by decide, by decide⟩, _, rfl, _, _, rfl, rfl, Or.inr ⟨by decide, by decide⟩, _, _, rfl, rfl, _, _, rfl, rfl, Or.inl ⟨_, rfl, _, _, rfl, rfl, (by show (0 : Int) < _; decide), ?_⟩⟩
          refine ⟨12, rfl, by decide, by decide, for_range (lo := 0) (n := 12) (fun j σ H' => ∃ (m2 : List Int) (c z : Int) (v6 : Option V), σ = [some (.ref l), some (.int 0), some (.int 63), some (.ref p), some (.int (0 + i)), some (.int c), v6, some (.int z)] ∧
            H' p = some (.lst (m2.map V.int)) ∧ m2.length ≤ 60 * i + j ∧ Same H H') ⟨ms, _, _, v6, rfl, p1, p2, p3⟩ ?_ ?_⟩
          · rintro j σ H2 hj ⟨m2, c, z, v, rfl, q1, q2, q3⟩
            refine ⟨_, rfl, _, _, rfl, rfl, Or.inr ⟨by decide, by decide⟩, _, rfl, _, _, rfl, rfl, Or.inl ⟨by decide, by decide⟩, _, _, rfl, rfl, _, _, rfl, rfl, Or.inl ⟨_, rfl, _, _, rfl, rfl, (by show (0 : Int) < _; decide), ?_⟩⟩
            refine ⟨_, rfl, Or.inl ⟨rfl, _, Or.inl (Or.inl q1)⟩, _, rfl, _, _, rfl, rfl, ⟨by decide, by decide⟩, Or.inl ⟨_, rfl, _, _, rfl, rfl, (by show (0 : Int) < 1000; decide), p, _, _, rfl, rfl, q1, ?_, ?_⟩⟩
            · rw [List.length_map]; omega
            · exact ⟨m2 ++ [_], _, _, _, rfl, more _, by rw [List.length_append, List.length_singleton]; omega, grow q3⟩
          · rintro σ H2 ⟨m2, c, z, v, rfl, q1, q2, q3⟩
            exact ⟨m2, _, _, _, _, rfl, q1, by omega, q3⟩
    · rintro σ H1 ⟨ms, v4, v5, v6, v7, rfl, p1, p2, p3⟩
      exact ⟨_, rfl, k H1 p ms p3 hp p1 (by omega)⟩
theorem scW : FnScope ["box", "many", "at"] ["box", "many"] (defScope sDraw) := ⟨rfl, rfl, rfl, by decide +kernel, rfl, by decide +kernel, by decide +kernel⟩
theorem ok_draw {f : Addr} {fd : FuncData} (F : Fun K "_law_draw" "_law_draw" sDraw f fd) (T : TxtL K mg) : FnOk P w K mg base CX0 1 f fd ["box", "many"] spDraw := by
  refine F.ok scW (fun vs H Q E h => ?_) (fun cdv A outer s H vs Q E hr h => ?_)
  · obtain ⟨b, m, rfl, _⟩ := h
    rfl
  · obtain ⟨b, m, rfl, hm, ⟨d, ns, k, h1, h2, h3⟩, kk⟩ := h
    refine ⟨_, pss_cons (ps_set (i := 2) scW.nd rfl (Or.inl rfl) (pe_ix ix_list (pv 0) pe_int (fun _ _ => rfl)))
      (pss_cons (ps_asg (pe_op op_add (pv 2) pe_int) (pg_sub (pv 0) pe_int set_list))
      (pss_cons (ps_if (pt_cmpR op_lt (pv 2) (pe_callB call_len_seq (by rfl) T.len PySem.boot_len (pa_cons (pe_ix ix_list (pv 0) pe_int (fun _ _ => rfl)) pa_nil)) (nomark _))
        (pss_one (ps_ret (pe_op op_mod (pe_callTy call_int1 (by rfl) T.int (by decide +kernel) (pa_cons (pe_ix ix_list (pe_ix ix_list (pv 0) pe_int (fun _ _ => rfl)) (pv 2) (fun _ _ => rfl)) pa_nil)) (pv 1)))) pss_nil)
      (pss_one (ps_ret (pe_op op_mod (pe_callTy call_int1 (by rfl) T.int (by decide +kernel) (pa_cons (pe_op op_add (pe_op op_mul (pv 2) pe_int) pe_int) pa_nil)) (pv 1)))))), ?_⟩
    refine ⟨_, rfl, b, _, 1, _, rfl, rfl, SqL.of h1, atI_nat (j := 1) rfl, ?_⟩
    refine ⟨_, rfl, _, _, rfl, rfl, ?_⟩
    refine ⟨_, rfl, b, _, 1, 1, rfl, rfl, h1, rfl, ?_⟩
    have ndb : d ≠ b := fun e => by
      rw [e, h1] at h2
      injection h2 with h2
      injection h2 with h2
      cases ns with
      | nil => cases h2
      | cons a r => cases h2
    have hb : (upd H b (.lst ([V.ref d, V.int k].set 1 (V.int ((k : Int) + 1))))) b = some (.lst [V.ref d, V.int ((k : Int) + 1)]) := upd_same
    have hd : (upd H b (.lst ([V.ref d, V.int k].set 1 (V.int ((k : Int) + 1))))) d = some (.lst (ns.map V.int)) := (upd_ne ndb).trans h2
    have fin : ∀ z : Int, Q (.int (z % m)) (upd H b (.lst ([V.ref d, V.int k].set 1 (V.int ((k : Int) + 1))))) := fun z =>
      kk _ _ (Int.emod_nonneg _ (by omega)) (Int.emod_lt_of_pos _ hm) ⟨d, ns, k + 1, hb, hd, h3⟩ ⟨fun c o e n => (upd_ne n).trans e, fun d' j e => by
        rw [h1] at e
        cases e
        exact ⟨k + 1, hb⟩⟩
    refine ⟨_, rfl, _, rfl, b, _, 0, _, rfl, rfl, SqL.of hb, atI_nat (j := 0) rfl, d, _, rfl, .inl (SqL.of hd), _, _, rfl, rfl, _, rfl, ite2 (fun c => ?_) (fun c => ?_)⟩
    · have hk : k < ns.length := by
        have := of_decide_eq_true c
        rw [List.length_map] at this
        omega
      refine ⟨_, rfl, b, _, 0, _, rfl, rfl, SqL.of hb, atI_nat (j := 0) rfl, _, rfl, d, _, _, .int ns[k], rfl, rfl, SqL.of hd, atI_nat ?_, Or.inl ⟨_, rfl, _, rfl, _, _, rfl, rfl, hm, fin _⟩⟩
      rw [List.getElem?_map, List.getElem?_eq_getElem hk] <;> rfl
    · exact ⟨_, rfl, _, _, rfl, rfl, Or.inr ⟨by decide, by decide⟩, _, _, rfl, rfl, Or.inl ⟨_, rfl, _, rfl, _, _, rfl, rfl, hm, fin _⟩⟩
end
end N03

set_option linter.all false
set_option maxRecDepth 100000
set_option maxHeartbeats 4000000
namespace N03
open PySem PySem.Spec PyProof.Rows L2 N01 SK
/-! ### texts all of whose signs are of a kind -/
def AllC (p : Nat → Bool) (t : Str) : Prop := ∀ c ∈ t.cps.toList, p c = true
theorem allc_app {p : Nat → Bool} {a b : Str} (ha : AllC p a) (hb : AllC p b) : AllC p (a ++ b) := by
  intro c hc
  have e : (a ++ b).cps.toList = a.cps.toList ++ b.cps.toList := Array.toList_append
  rw [e] at hc
  exact (List.mem_append.mp hc).elim (ha c) (hb c)
theorem allc_one {p : Nat → Bool} {c : Nat} (h : p c = true) : AllC p ⟨#[c]⟩ := by
  intro d hd
  obtain rfl : d = c := by simpa using hd
  exact h
theorem allc_mul {p : Nat → Bool} {z : Str} (n : Int) (hz : AllC p z) : AllC p (Txt.mul z n) := by
  intro c hc
  unfold Txt.mul at hc
  split at hc
  · exact absurd hc (by decide +revert)
  · split at hc
    · exact hz c hc
    · exact (mem_reps z.cps n.toNat #[] c hc).elim (fun h => nomatch h) (hz c)
theorem allc_asc {p : Nat → Bool} {t : Str} (hp : ∀ c, p c = true → c < 128) (h : AllC p t) : Asc t := fun c hc => hp c (h c hc)
/-- a sign of the program's own texts -/
def sgnC (c : Nat) : Bool := (decide (32 ≤ c) && decide (c ≤ 126)) && !decide (c = 37)
def txtC (c : Nat) : Bool := sgnC c && !decide (c = 34)
def textT (t : Str) : Bool := decide (t.length ≤ 40) && t.cps.toList.all txtC
theorem inS_lt {c : Nat} (h : inS c = true) : c < 128 := by
  have all : ∀ c ∈ SG.cps.toList, c < 128 := by decide +kernel
  exact all c (of_decide_eq_true h)
theorem txtC_lt {c : Nat} (h : txtC c = true) : c < 128 := by
  unfold txtC sgnC at h
  simp only [Bool.and_eq_true, decide_eq_true_eq] at h
  omega
theorem name_of {t : Str} (h0 : 1 ≤ t.length) (h1 : t.length ≤ 12) (h : AllC inS t) : nameT t = true := by
  unfold nameT
  rw [decide_eq_true h0, decide_eq_true h1]
  simp only [Bool.and_self, Bool.true_and]
  exact List.all_eq_true.mpr h
theorem name_to {t : Str} (h : nameT t = true) : 1 ≤ t.length ∧ t.length ≤ 12 ∧ AllC inS t := by
  unfold nameT at h
  simp only [Bool.and_eq_true, decide_eq_true_eq] at h
  exact ⟨h.1.1, h.1.2, List.all_eq_true.mp h.2⟩
/-! ### scalars -/
inductive Sc where
  | tr (b : Bool)
  | nu (i : Int)
  | te (t : Str)
  | en (t : Str)
deriving DecidableEq
def Sc.kind : Sc → Str
  | .tr _ => "truth"
  | .nu _ => "number"
  | .te _ => "text"
  | .en _ => "entity"
def Sc.rank : Sc → Nat
  | .tr _ => 0
  | .nu _ => 1
  | .te _ => 2
  | .en _ => 3
def Sc.val : Sc → V
  | .tr b => .bl b
  | .nu i => .int i
  | .te t => .str t
  | .en t => .str t
def Sc.pl : Sc → PyData
  | .tr b => .bool b
  | .nu i => .int i
  | .te t => .str t
  | .en t => .str t
def Sc.dat (c : Sc) : PyData := .tuple [.str c.kind, c.pl]
def Sc.key (c : Sc) : PyData := kyd c.rank c.pl
def Sc.items (c : Sc) : List V := [.str c.kind, c.val]
def Sc.ok : Sc → Bool
  | .tr _ => true
  | .nu i => decide (-1000000 ≤ i) && decide (i ≤ 1000000)
  | .te t => textT t
  | .en t => uidT t && (decide (t.length ≤ 40) && t.cps.toList.all fun c => decide (c < 128))
def ScAt (H : Hp) (v : V) (c : Sc) : Prop := ∃ p, v = .ref p ∧ H p = some (.tup c.items)
theorem ScAt.same {H H' : Hp} {v : V} {c : Sc} (h : ScAt H v c) (s : Same H H') : ScAt H' v c := let ⟨p, e, q⟩ := h; ⟨p, e, s _ _ q⟩
theorem fl_val (c : Sc) : Fl c.val c.pl := by
  cases c with
  | tr b => exact .bl b
  | nu i => exact .int i
  | te t => exact .str t
  | en t => exact .str t
theorem pl_pl (c : Sc) : Pl c.pl := by
  cases c with
  | tr b => exact .bl b
  | nu i => exact .int i
  | te t => exact .str t
  | en t => exact .str t
theorem ScAt.dp {K : PySem.W.Frag} {H : Hp} {v : V} {c : Sc} (h : ScAt H v c) : Dp K H v c.dat := by
  obtain ⟨p, rfl, e⟩ := h
  exact .tup (SqT.of e) (.cons (.str _) (.cons (fl_val c).dp .nil))
theorem key_alike {c d : Sc} (h : c.rank = d.rank) : PySem.W.alike c.pl d.pl = true := by
  cases c <;> cases d <;> simp [Sc.rank] at h <;> rfl
theorem key_inj {c d : Sc} (h : c.rank = d.rank) (e : c.pl = d.pl) : c = d := by
  cases c <;> cases d <;> simp [Sc.rank] at h <;> (injection e with e; rw [e])
theorem coh (cs : List Sc) : Coh (cs.map Sc.key) := by
  refine ⟨fun d hd => ?_, fun r x y hx hy => ?_⟩
  · obtain ⟨c, _, rfl⟩ := List.mem_map.mp hd
    exact ⟨_, _, rfl, pl_pl c⟩
  · obtain ⟨c, _, e⟩ := List.mem_map.mp hx
    obtain ⟨d, _, f⟩ := List.mem_map.mp hy
    injection e with e
    injection f with f
    injection e with e1 e2
    injection f with f1 f2
    injection e1 with e1
    injection f1 with f1
    injection e2 with e2
    injection f2 with f2
    rw [← e2, ← f2]
    exact key_alike (by have := e1.trans f1.symm; omega)
theorem coh2 {c d : Sc} (h : (c.rank : Int) = d.rank) : PySem.W.alike c.pl d.pl = true := key_alike (by omega)
/-! equal as Python says -/
theorem str_eqv (x y : Str) : PyData.eqv (.str x) (.str y) = decide (x = y) := by
  simp [PyData.eqv]
  by_cases h : x = y
  · rw [decide_eq_true h]; exact beq_iff_eq.mpr h
  · rw [decide_eq_false h]; exact beq_eq_false_iff_ne.mpr h
theorem beq_dec {α : Type} [BEq α] [LawfulBEq α] [DecidableEq α] (a b : α) : (a == b) = decide (a = b) := by
  by_cases h : a = b
  · rw [decide_eq_true h]; exact beq_iff_eq.mpr h
  · rw [decide_eq_false h]; exact beq_eq_false_iff_ne.mpr h
theorem pl_eqv {c d : Sc} (h : c.rank = d.rank) : PyData.eqv c.pl d.pl = decide (c = d) := by
  cases c <;> cases d <;> simp [Sc.rank] at h <;> simp [Sc.pl, PyData.eqv, str_eqv, beq_dec]
theorem kind_eq : ∀ c d : Sc, (decide (c.kind = d.kind)) = decide (c.rank = d.rank) := by
  have h : ("truth" : Str) ≠ "number" ∧ ("truth" : Str) ≠ "text" ∧ ("truth" : Str) ≠ "entity" ∧ ("number" : Str) ≠ "text" ∧ ("number" : Str) ≠ "entity" ∧ ("text" : Str) ≠ "entity" := by decide +kernel
  obtain ⟨h1, h2, h3, h4, h5, h6⟩ := h
  intro c d
  cases c <;> cases d <;> simp only [Sc.kind, Sc.rank, decide_true, decide_eq_true h1, decide_eq_false h1, decide_eq_false h2, decide_eq_false h3, decide_eq_false h4, decide_eq_false h5, decide_eq_false h6, decide_eq_false h1.symm, decide_eq_false h2.symm, decide_eq_false h3.symm, decide_eq_false h4.symm, decide_eq_false h5.symm, decide_eq_false h6.symm] <;> rfl
theorem dat_eqv (c d : Sc) : PyData.eqv c.dat d.dat = decide (c = d) := by
  unfold Sc.dat
  rw [PyData.eqv, PySem.W.eqv_all_cons, PySem.W.eqv_all_cons, str_eqv, kind_eq]
  by_cases h : c.rank = d.rank
  · rw [decide_eq_true h, pl_eqv h]
    simp [PyData.eqvAll]
  · rw [decide_eq_false h, decide_eq_false (fun z => h (by rw [z]))]
    rfl
/-! ### what the program says of a scalar, and what every drawn one keeps -/
def Sc.okp : Sc → Bool
  | .tr _ => true
  | .nu i => decide (-1000000 ≤ i) && decide (i ≤ 1000000)
  | .te t => textT t
  | .en t => uidT t
def clC (c : Nat) : Bool := decide (c < 128) && !decide (c = 37)
def Sc.clb : Sc → Bool
  | .tr _ => true
  | .nu _ => true
  | .te t => decide (t.length ≤ 50) && t.cps.toList.all clC
  | .en t => decide (t.length ≤ 50) && t.cps.toList.all fun c => decide (c < 128)
theorem txtC_cl {c : Nat} (h : txtC c = true) : clC c = true := by
  have l := txtC_lt h
  unfold txtC sgnC at h
  simp only [Bool.and_eq_true, decide_eq_true_eq, Bool.not_eq_true', decide_eq_false_iff_not] at h
  unfold clC
  rw [decide_eq_true l, decide_eq_false h.1.2]
  rfl
theorem ok_okp {c : Sc} (h : c.ok = true) : c.okp = true := by
  cases c with
  | tr b => rfl
  | nu i => exact h
  | te t => exact h
  | en t => exact (Bool.and_eq_true_iff.mp (show (uidT t && _) = true from h)).1
theorem ok_cl {c : Sc} (h : c.ok = true) : c.clb = true := by
  cases c with
  | tr b => rfl
  | nu i => rfl
  | te t =>
    have h' : (decide (t.length ≤ 40) && t.cps.toList.all txtC) = true := h
    rw [Bool.and_eq_true] at h'
    show (decide (t.length ≤ 50) && t.cps.toList.all clC) = true
    have := of_decide_eq_true h'.1
    rw [decide_eq_true (show t.length ≤ 50 by omega), Bool.true_and]
    exact List.all_eq_true.mpr fun c hc => txtC_cl (List.all_eq_true.mp h'.2 c hc)
  | en t =>
    have h' : (uidT t && (decide (t.length ≤ 40) && t.cps.toList.all fun c => decide (c < 128))) = true := h
    rw [Bool.and_eq_true, Bool.and_eq_true] at h'
    show (decide (t.length ≤ 50) && t.cps.toList.all fun c => decide (c < 128)) = true
    have := of_decide_eq_true h'.2.1
    rw [decide_eq_true (show t.length ≤ 50 by omega), h'.2.2]
    rfl
/-- an item of a drawn set: a scalar, or the empty set -/
def itOk : Option Sc → Bool
  | some c => c.okp
  | none => false
def ItAt (K : PySem.W.Frag) (H : Hp) (v : V) : Option Sc → Prop
  | some c => ScAt H v c ∧ c.clb = true
  | none => ∃ p q, v = .ref p ∧ H p = some (.tup [.str "set", .ref q]) ∧ SqT K H q []
theorem tup_same {K : PySem.W.Frag} {H H' : Hp} {a : Addr} {xs : List V} (e : Same H H') (h : SqT K H a xs) : SqT K H' a xs := by
  rcases h with (h | ⟨o, h⟩) | h
  · exact .inl (.inl (e _ _ h))
  · exact .inl (.inr ⟨o, e _ _ h⟩)
  · exact .inr h
theorem ItAt.same {K : PySem.W.Frag} {H H' : Hp} {v : V} {it : Option Sc} (h : ItAt K H v it) (s : Same H H') : ItAt K H' v it := by
  cases it with
  | some c => exact ⟨h.1.same s, h.2⟩
  | none =>
    obtain ⟨p, q, e, h1, h2⟩ := h
    exact ⟨p, q, e, s _ _ h1, tup_same s h2⟩
end N03

set_option linter.all false
set_option maxRecDepth 100000
set_option maxHeartbeats 4000000
namespace N03
open PySem PySem.Spec PyProof.Rows L2 N01 SK
abbrev leS : Sc → Sc → Bool := PySem.W.dataLe false Sc.key
def ltS (c d : Sc) : Prop := PySem.W.dataLt c.key d.key = true
theorem le_iff {c d : Sc} : leS c d = true ↔ PySem.W.dataLt d.key c.key = false := by
  show (!PySem.W.dataLt d.key c.key) = true ↔ _
  cases PySem.W.dataLt d.key c.key <;> simp
theorem totS : PySem.W.TotalLe leS := PySem.W.sortLe_total _ false _
theorem lt_irr (c : Sc) : ¬ ltS c c := by
  have e : PySem.W.dataLt c.key c.key = false := lex_irrefl (O := itemOrd) _
  unfold ltS
  rw [e]
  simp
theorem pl_inj {c d : Sc} (h : c.rank = d.rank) (e : PySem.W.keyToks c.pl = PySem.W.keyToks d.pl) : c = d := by
  refine key_inj h ?_
  cases c <;> cases d <;> simp [Sc.rank] at h <;> simp [Sc.pl, PySem.W.keyToks] at e ⊢
  · rename_i a b
    cases a <;> cases b <;> first | rfl | (revert e; decide)
  · exact e
  · exact PySem.W.str_of_cps (by rw [e])
  · exact PySem.W.str_of_cps (by rw [e])
theorem anti {c d : Sc} (h1 : leS c d = true) (h2 : leS d c = true) : c = d := by
  rw [le_iff] at h1 h2
  unfold Sc.key at h1 h2
  rw [kyd_lt coh2] at h1 h2
  by_cases e : c.rank = d.rank
  · rw [if_pos (by omega)] at h1 h2
    rw [pl_eqv e] at h2
    rw [pl_eqv e.symm] at h1
    by_cases z : c = d
    · exact z
    · rw [if_neg (by simpa using z)] at h2
      rw [if_neg (by simpa using Ne.symm z)] at h1
      exact pl_inj e ((listOrd itemOrd).total _ _ h2 h1)
  · rw [if_neg (by omega)] at h1 h2
    have := of_decide_eq_false h1
    have := of_decide_eq_false h2
    omega
theorem lt_of {c d : Sc} (h : leS c d = true) (n : c ≠ d) : ltS c d := by
  unfold ltS
  cases e : PySem.W.dataLt c.key d.key with
  | true => rfl
  | false => exact absurd (anti h (le_iff.mpr e)) n
theorem le_of {c d : Sc} (h : ltS c d) : leS c d = true := by
  rw [le_iff]
  cases e : PySem.W.dataLt d.key c.key with
  | false => rfl
  | true =>
    have z : ltS c c := lex_trans (O := itemOrd) _ _ _ h e
    exact absurd z (lt_irr c)
theorem lt_le_trans {a b c : Sc} (h : leS a b = true) (g : leS b c = true) : leS a c = true := totS.trans a b c h g
/-- two strict lists of the same scalars are one -/
theorem strict_one : ∀ {l m : List Sc}, l.Pairwise ltS → m.Pairwise ltS → (∀ x, x ∈ l ↔ x ∈ m) → l = m
  | [], [], _, _, _ => rfl
  | [], b :: m, _, _, h => absurd ((h b).mpr List.mem_cons_self) (by simp)
  | a :: l, [], _, _, h => absurd ((h a).mp List.mem_cons_self) (by simp)
  | a :: l, b :: m, hl, hm, h => by
    rw [List.pairwise_cons] at hl hm
    have asy : ∀ {x y : Sc}, ltS x y → ltS y x → False := fun p q => lt_irr _ (lex_trans (O := itemOrd) _ _ _ p q)
    have e : a = b := by
      have h1 := (h a).mp List.mem_cons_self
      have h2 := (h b).mpr List.mem_cons_self
      rcases List.mem_cons.mp h1 with z | z
      · exact z
      · rcases List.mem_cons.mp h2 with y | y
        · exact y.symm
        · exact (asy (hm.1 a z) (hl.1 b y)).elim
    subst e
    have na : ∀ {r : List Sc}, (∀ x ∈ r, ltS a x) → a ∉ r := fun hr z => lt_irr a (hr a z)
    rw [strict_one hl.2 hm.2 fun x => ⟨fun hx => ?_, fun hx => ?_⟩]
    · have y := (h x).mp (List.mem_cons_of_mem _ hx)
      rcases List.mem_cons.mp y with z | z
      · exact absurd (z ▸ hx) (na hl.1)
      · exact z
    · have y := (h x).mpr (List.mem_cons_of_mem _ hx)
      rcases List.mem_cons.mp y with z | z
      · exact absurd (z ▸ hx) (na hm.1)
      · exact z
/-! ### the program's way: sorted, then each once -/
def ddS (acc : List Sc) (c : Sc) : List Sc := if acc.getLast? = some c then acc else acc ++ [c]
theorem dd_spec : ∀ (l acc : List Sc), acc.Pairwise ltS → (∀ a ∈ acc, ∀ c ∈ l, leS a c = true) → l.Pairwise (fun a b => leS a b = true) → (l.foldl ddS acc).Pairwise ltS ∧ ∀ x, x ∈ l.foldl ddS acc ↔ x ∈ acc ∨ x ∈ l
  | [], acc, h, _, _ => ⟨h, fun x => by simp⟩
  | c :: l, acc, h, hle, hl => by
    rw [List.pairwise_cons] at hl
    rw [List.foldl_cons]
    unfold ddS
    by_cases e : acc.getLast? = some c
    · rw [if_pos e]
      have hc : c ∈ acc := List.mem_of_getLast? e
      obtain ⟨h1, h2⟩ := dd_spec l acc h (fun a ha d hd => hle a ha d (List.mem_cons_of_mem _ hd)) hl.2
      refine ⟨h1, fun x => (h2 x).trans ⟨fun z => z.elim .inl fun y => .inr (List.mem_cons_of_mem _ y), fun z => z.elim .inl fun y => ?_⟩⟩
      rcases List.mem_cons.mp y with w | w
      · exact .inl (w ▸ hc)
      · exact .inr w
    · rw [if_neg e]
      have new : ∀ a ∈ acc, ltS a c := fun a ha => by
        refine lt_of (hle a ha c List.mem_cons_self) fun z => ?_
        subst z
        -- a stands in acc: the last one is not less, and not more
        obtain ⟨r, b, rfl⟩ : ∃ r b, acc = r ++ [b] := by
          rcases List.eq_nil_or_concat acc with z | ⟨r, b, z⟩
          · rw [z] at ha; cases ha
          · exact ⟨r, b, by simpa using z⟩
        rw [List.getLast?_concat] at e
        rw [List.pairwise_append] at h
        rcases List.mem_append.mp ha with z | z
        · have p := h.2.2 a z b (by simp)
          have q := hle b (by simp) a List.mem_cons_self
          have w : a = b := anti (le_of p) q
          exact lt_irr a (w ▸ p)
        · exact e (by rw [List.mem_singleton.mp z])
      obtain ⟨h1, h2⟩ := dd_spec l (acc ++ [c]) (by
        rw [List.pairwise_append]
        exact ⟨h, List.pairwise_singleton _ _, fun a ha b hb => by rw [List.mem_singleton.mp hb]; exact new a ha⟩) (fun a ha d hd => by
        rcases List.mem_append.mp ha with z | z
        · exact hle a z d (List.mem_cons_of_mem _ hd)
        · rw [List.mem_singleton.mp z]
          exact hl.1 d hd) hl.2
      exact ⟨h1, fun x => (h2 x).trans ⟨fun z => by
        rcases z with z | z
        · rcases List.mem_append.mp z with y | y
          · exact .inl y
          · exact .inr (by rw [List.mem_singleton.mp y]; exact List.mem_cons_self)
        · exact .inr (List.mem_cons_of_mem _ z), fun z => by
        rcases z with z | z
        · exact .inl (List.mem_append_left _ z)
        · rcases List.mem_cons.mp z with y | y
          · exact .inl (List.mem_append_right _ (by simp [y]))
          · exact .inr y⟩⟩
theorem dd_sub : ∀ (l acc : List Sc) {x : Sc}, x ∈ l.foldl ddS acc → x ∈ acc ∨ x ∈ l
  | [], acc, x, h => .inl h
  | c :: l, acc, x, h => by
    rw [List.foldl_cons] at h
    rcases dd_sub l _ h with z | z
    · unfold ddS at z
      split at z
      · exact .inl z
      · rcases List.mem_append.mp z with y | y
        · exact .inl y
        · exact .inr (by rw [List.mem_singleton.mp y]; exact List.mem_cons_self)
    · exact .inr (List.mem_cons_of_mem _ z)
theorem dd_len : ∀ (l acc : List Sc), (l.foldl ddS acc).length ≤ acc.length + l.length
  | [], acc => by simp
  | c :: l, acc => by
    rw [List.foldl_cons]
    refine Nat.le_trans (dd_len l _) ?_
    have : (ddS acc c).length ≤ acc.length + 1 := by
      unfold ddS
      split
      · omega
      · simp
    rw [List.length_cons]
    omega
theorem dd_snoc (l : List Sc) (c : Sc) : (l ++ [c]).foldl ddS [] = ddS (l.foldl ddS []) c := by rw [List.foldl_append]; rfl
/-! ### the law's way: each once, then sorted -/
def nbS (acc : List Sc) (c : Sc) : List Sc := if c ∈ acc then acc else acc ++ [c]
theorem nb_spec : ∀ (l acc : List Sc), acc.Nodup → (l.foldl nbS acc).Nodup ∧ ∀ x, x ∈ l.foldl nbS acc ↔ x ∈ acc ∨ x ∈ l
  | [], acc, h => ⟨h, fun x => by simp⟩
  | c :: l, acc, h => by
    rw [List.foldl_cons]
    unfold nbS
    by_cases e : c ∈ acc
    · rw [if_pos e]
      obtain ⟨h1, h2⟩ := nb_spec l acc h
      refine ⟨h1, fun x => (h2 x).trans ⟨fun z => z.elim .inl fun y => .inr (List.mem_cons_of_mem _ y), fun z => z.elim .inl fun y => ?_⟩⟩
      rcases List.mem_cons.mp y with w | w
      · exact .inl (w ▸ e)
      · exact .inr w
    · rw [if_neg e]
      obtain ⟨h1, h2⟩ := nb_spec l (acc ++ [c]) (by
        rw [List.nodup_append]
        exact ⟨h, by simp, fun a ha b hb z => by rw [List.mem_singleton.mp hb] at z; exact e (z ▸ ha)⟩)
      exact ⟨h1, fun x => (h2 x).trans (by simp [or_assoc])⟩
/-- each once, in order -/
def canS (cs : List Sc) : List Sc := (cs.foldl nbS []).mergeSort leS
theorem can_mem (cs : List Sc) (x : Sc) : x ∈ canS cs ↔ x ∈ cs := by
  unfold canS
  rw [(List.mergeSort_perm _ _).mem_iff, (nb_spec cs [] List.nodup_nil).2]
  simp
theorem can_strict (cs : List Sc) : (canS cs).Pairwise ltS := by
  have h1 := PySem.W.sort_pairwise totS (cs.foldl nbS [])
  have h2 : (canS cs).Nodup := (List.mergeSort_perm _ _).nodup_iff.mpr (nb_spec cs [] List.nodup_nil).1
  exact List.Pairwise.imp (fun z => lt_of z.1 z.2) (List.pairwise_and_iff.mpr ⟨h1, h2⟩)
theorem can_one {cs : List Sc} {l : List Sc} (h : l.Pairwise ltS) (m : ∀ x, x ∈ l ↔ x ∈ cs) : l = canS cs := strict_one h (can_strict cs) fun x => (m x).trans (can_mem cs x).symm
theorem can_dd (cs : List Sc) : (cs.mergeSort leS).foldl ddS [] = canS cs := by
  obtain ⟨h1, h2⟩ := dd_spec (cs.mergeSort leS) [] List.Pairwise.nil (fun a h => nomatch h) (PySem.W.sort_pairwise totS cs)
  exact can_one h1 fun x => (h2 x).trans (by simp [(List.mergeSort_perm cs leS).mem_iff])
theorem can_same {cs ds : List Sc} (h : ∀ x, x ∈ cs ↔ x ∈ ds) : canS cs = canS ds := can_one (can_strict cs) fun x => (can_mem cs x).trans (h x)
/-- the set of them, or the refusal -/
def dueD (cs : List Sc) : PyData := if (canS cs).length > 8 then .tuple [.str "refused", .str "set"] else .tuple [.str "set", .tuple ((canS cs).map Sc.dat)]
theorem due_same {cs ds : List Sc} (h : ∀ x, x ∈ cs ↔ x ∈ ds) : dueD cs = dueD ds := by
  unfold dueD
  rw [can_same h]
/-! ### sorted by key: what it does to the values -/
theorem sort_at {H : Hp} {xs : List V} {cs : List Sc} (h : Paired (ScAt H) xs cs) : Paired (ScAt H) (sortK false xs (cs.map Sc.key)) (cs.mergeSort leS) := by
  have e : PySem.W.EachIs (fun (p : V × PyData) (c : Sc) => ScAt H p.1 c ∧ p.2 = c.key) (xs.zip (cs.map Sc.key)) cs := by
    induction h with
    | nil => exact .nil
    | cons q t ih => exact .cons ⟨q, rfl⟩ ih
  have z := PySem.W.sort_each (r := PySem.W.dataLe false fun p : V × PyData => p.2) (s := leS) e (fun p hp q hq => by
    have e1 := (e.zip p hp).2
    have e2 := (e.zip q hq).2
    show (!PySem.W.dataLt q.1.2 p.1.2) = (!PySem.W.dataLt q.2.key p.2.key)
    rw [e1, e2])
  have go : ∀ {as : List (V × PyData)} {bs : List Sc}, PySem.W.EachIs (fun (p : V × PyData) (c : Sc) => ScAt H p.1 c ∧ p.2 = c.key) as bs → Paired (ScAt H) (as.map (·.1)) bs := by
    intro as bs h
    induction h with
    | nil => exact .nil
    | cons q t ih => exact .cons q.1 ih
  exact go z
end N03

set_option linter.all false
set_option maxRecDepth 100000
set_option maxHeartbeats 4000000
namespace N03
open PySem PySem.Spec PyProof.Rows L2 N01 SK
abbrev sSign : Stmt := top 14
abbrev sText : Stmt := top 15
abbrev sPlace : Stmt := top 16
abbrev sBefore : Stmt := top 17
abbrev sScalar : Stmt := top 18
abbrev KINDS : List Str := ["truth", "number", "text", "entity"]
structure TxtV (K : PySem.W.Frag) (mg : Str → Option Value) : Prop where
  len : mg "len" = none
  all : mg "all" = none
  ord : mg "ord" = none
  pc : ∃ t, mg "PERCENT" = some (.int 37 t)
  tm : ∃ t, mg "TEXT_MOST" = some (.int 40 t)
  nm : ∃ t, mg "NUMBER_MOST" = some (.int 1000000 t)
  sc : ∃ a o, mg "SCALARS" = some (.ref a) ∧ K.lookup a = some o ∧ o.cls = .type "tuple" ∧ o.dict = none ∧ ∀ H, SqT K H a (KINDS.map V.str)
def spSign : Sp := fun vs H Q _ => ∃ c : Nat, vs = [.str ⟨#[c]⟩] ∧ Q (.bl (sgnC c)) H
def spPlace : Sp := fun vs H Q _ => ∃ (x : V) (c : Sc), vs = [x] ∧ ScAt H x c ∧ ∀ H' q, Same H H' → H' q = some (.tup [.int c.rank, c.val]) → Q (.ref q) H'
def spBefore : Sp := fun vs H Q _ => ∃ (x y : V) (c d : Sc), vs = [x, y] ∧ ScAt H x c ∧ ScAt H y d ∧ ∀ H', Same H H' → Q (.bl (PySem.W.dataLt c.key d.key)) H'
/-- of scalars within their bounds -/
def spScalar : Sp := fun vs H Q _ => ∃ (x : V) (c : Sc), vs = [x] ∧ ScAt H x c ∧ c.ok = true ∧ ∀ H', Same H H' → Q (.bl true) H'
section
variable {P : Program} {w : World} {K : PySem.W.Frag} {mg : Str → Option Value} {base : Heap}
theorem one_lt (c d : Nat) : decide ((⟨#[c]⟩ : Str).cps.toList < (⟨#[d]⟩ : Str).cps.toList) = decide (c < d) := by
  refine decide_eq_decide.mpr ?_
  show ([c] : List Nat) < [d] ↔ c < d
  rw [List.cons_lt_cons_iff]
  simp
theorem scS : FnScope ["sign"] ["sign"] (defScope sSign) := ⟨rfl, rfl, rfl, by decide +kernel, rfl, by decide +kernel, by decide +kernel⟩
theorem ok_sign {f : Addr} {fd : FuncData} (F : Fun K "is_sign" "is_sign" sSign f fd) (T : TxtV K mg) : FnOk P w K mg base CX0 1 f fd ["sign"] spSign := by
  refine F.ok scS (fun vs H Q E h => ?_) (fun cdv A outer s H vs Q E hr h => ?_)
  · obtain ⟨c, rfl, _⟩ := h
    rfl
  · obtain ⟨c, rfl, k⟩ := h
    obtain ⟨t, hp⟩ := T.pc
    refine ⟨_, pss_one (ps_ret (pe_and (pe_chain op_le_str op_le_str pe_str (pv 0) pe_str) (pe_one (pe_cmpR op_ne (pe_callB call_ord (by rfl) T.ord (by decide +kernel) (pa_cons (pv 0) pa_nil)) (pe_glob (v := .int 37) rfl hp ⟨_, rfl⟩) (nomark _))))), ?_⟩
    have e1 : ∀ _ : Nat, (Str.ofString " ") = (⟨#[32]⟩ : Str) ∧ (Str.ofString "~") = (⟨#[126]⟩ : Str) := fun _ => by decide +kernel
    have k' : ∀ b, sgnC c = b → Q (.bl b) H := fun b e => e ▸ k
    refine ⟨_, rfl, _, _, rfl, rfl, _, rfl, ?_⟩
    rw [(e1 0).1, one_lt]
    by_cases h1 : 32 ≤ c
    · rw [decide_eq_false (show ¬ c < 32 by omega)]
      refine iteT ⟨_, _, rfl, rfl, ?_⟩
      rw [(e1 0).2, one_lt]
      refine ⟨_, rfl, ?_⟩
      by_cases h2 : c ≤ 126
      · rw [decide_eq_false (show ¬ 126 < c by omega)]
        refine iteT ⟨_, rfl, _, rfl, rfl, rfl, k' _ ?_⟩
        unfold sgnC
        rw [decide_eq_true h1, decide_eq_true h2]
        show (true && !decide (c = 37)) = !decide (V.int ((#[c].getD 0 0 : Nat) : Int) = V.int 37)
        have e : (V.int ((#[c].getD 0 0 : Nat) : Int) = V.int 37) ↔ c = 37 := by
          constructor
          · intro z
            have := V.int.inj z
            simp at this
            omega
          · rintro rfl
            rfl
        rw [decide_eq_decide.mpr e, Bool.true_and]
      · rw [decide_eq_true (show 126 < c by omega)]
        refine iteF (k' _ ?_)
        unfold sgnC
        rw [decide_eq_false h2, Bool.and_false, Bool.false_and]
    · rw [decide_eq_true (show c < 32 by omega)]
      refine iteF ⟨_, rfl, iteF (k' _ ?_)⟩
      unfold sgnC
      rw [decide_eq_false h1, Bool.false_and, Bool.false_and]
end
end N03

set_option linter.all false
set_option maxRecDepth 100000
set_option maxHeartbeats 4000000
namespace N03
open PySem PySem.Spec PyProof.Rows L2 N01 SK
/-- a def that is called: its promise and where it stands -/
structure Cal (P : Program) (w : World) (K : PySem.W.Frag) (mg : Str → Option Value) (base : Heap) (k : Nat) (x : Str) (ps : List Str) (sp : Sp) : Prop where
  ex : ∃ f fd, FnOk P w K mg base CX0 k f fd ps sp ∧ Binds K fd ps [] ∧ mg x = some (.ref f) ∧ PySem.W.keepIn K (.ref f) = true
theorem pe_cal {X : Cx} {x : Str} {k j : Nat} {ps : List Str} {sp : Sp} {p pos : Pos} {e : Expr} {es : List Expr} {t : TA} (C : Cal X.prog X.w X.K X.mg X.base k x ps sp) (hr : Room j X.A) (hj : k ≤ j) (hg : Gl X x) (ha : PA X (e :: es) t) (hdb : (x == ("__debug__" : Str)) = false := by decide)
    (he : starEach (e :: es) X.env = (false, eval e X.env) :: starEach es X.env := by rfl) (hpl : (backTo pos (starEach es X.env)).any (·.1) = false := by rfl) :
    PE X (.Call (.Name x p) (e :: es) [] pos) (tCall sp [] E0 t) := by
  obtain ⟨f, fd, F, b, m, kp⟩ := C.ex
  exact pe_call F (hr.mono hj) hg m kp b .nil pass0 ha hdb he hpl
section
variable {P : Program} {w : World} {K : PySem.W.Frag} {mg : Str → Option Value} {base : Heap}
theorem scT : FnScope ["text", "sign"] ["text"] (defScope sText) := ⟨rfl, rfl, rfl, by decide +kernel, rfl, by decide +kernel, by decide +kernel⟩
theorem quote_ne (c : Nat) : (!decide (V.str ⟨#[c]⟩ = V.str (Str.ofString "\""))) = !decide (c = 34) := by
  have e : (Str.ofString "\"") = (⟨#[34]⟩ : Str) := by decide +kernel
  rw [e]
  have z : (V.str ⟨#[c]⟩ = V.str ⟨#[34]⟩) ↔ c = 34 := by
    constructor
    · intro h
      have := V.str.inj h
      simpa using this
    · rintro rfl
      rfl
  rw [decide_eq_decide.mpr z]
theorem ok_text {f : Addr} {fd : FuncData} (F : Fun K "is_text" "is_text" sText f fd) (T : TxtV K mg) (cS : Cal P w K mg base 1 "is_sign" ["sign"] spSign) : FnOk P w K mg base CX0 2 f fd ["text"] (spText fun t => .bl (textT t)) := by
  refine F.ok scT (fun vs H Q E h => ?_) (fun cdv A outer s H vs Q E hr h => ?_)
  · obtain ⟨t, rfl, _⟩ := h
    rfl
  · obtain ⟨t, rfl, hz, k⟩ := h
    obtain ⟨t1, hm⟩ := T.tm
    refine ⟨_, pss_one (ps_ret (pe_and (pe_cmpR op_le (pe_callB call_len_str (by rfl) T.len PySem.boot_len (pa_cons (pv 0) pa_nil)) (pe_glob (v := .int 40) rfl hm ⟨_, rfl⟩) (nomark _))
      (pe_one (pe_callB (cr_all rfl) (by rfl) T.all (by decide +kernel) (pa_cons
        (pe_lc (own := [("sign", 1)]) (g := gName 1) (tt := tYes) rfl scT.nd (pi_str (pv 0)) (blkOk_by (N := ["text", "sign"]) (sc := defScope sText) (by decide +kernel)) (fun _ _ _ _ _ => pg_name (i := 1) scT.nd rfl (Or.inl rfl)) (fun _ _ _ _ _ => pts_nil)
          (fun _ _ _ _ _ => pe_and (pe_cal cS hr (by decide) (by rfl) (pa_cons (pv 1) pa_nil)) (pe_one (pe_cmpR op_ne (pv 1) pe_str (nomark _))))) pa_nil))))), ?_⟩
    have k' : ∀ H' b, Same H H' → textT t = b → Q (.bl b) H' := fun H' b s e => e ▸ k H' s
    refine ⟨_, rfl, _, rfl, sizeT hz, _, _, rfl, rfl, _, rfl, ?_⟩
    by_cases h2 : t.length ≤ 40
    · rw [decide_eq_true (show (t.length : Int) ≤ 40 by omega)]
      refine iteT ⟨_, rfl, t, rfl, fun D hD => lc_it (walk_str (z := t)) (fun i H' => H' D = some (.lst ((t.cps.toList.take i).map fun c => V.bl (txtC c))) ∧ Same H H')
          ⟨upd_same, fun b o e => (upd_ne (ne_of_none e hD)).trans e⟩ (fun _ _ _ _ => trivial) ?_ ?_⟩
      · rintro i x H1 H1' hi ⟨p1, p2⟩ ⟨rfl, c, hc, rfl⟩
        refine ⟨rfl, ?_⟩
        have hc' : t.cps.toList[i]? = some c := by simpa using hc
        have fin : ∀ b : Bool, txtC c = b → ∃ acc, H1' D = some (.lst acc) ∧ acc.length < sizeLine ∧ ((upd H1' D (.lst (acc ++ [V.bl b]))) D = some (.lst ((t.cps.toList.take (i + 1)).map fun c => V.bl (txtC c))) ∧ Same H (upd H1' D (.lst (acc ++ [V.bl b])))) := fun b e => by
          refine ⟨_, p1, ?_, ?_, fun b o z => (upd_ne (ne_of_none z hD)).trans (p2 b o z)⟩
          · rw [List.length_map, List.length_take]
            have := len_list t
            have : (1000 : Nat) < sizeLine := by decide
            omega
          · rw [upd_same, List.take_add_one, hc', List.map_append, ← e] <;> rfl
        refine ⟨_, rfl, c, rfl, _, rfl, ?_⟩
        cases e : sgnC c with
        | false => exact iteF (fin false (by unfold txtC; rw [e]; rfl))
        | true =>
          refine iteT ⟨_, rfl, rfl, ?_⟩
          rw [quote_ne]
          exact fin _ (by unfold txtC; rw [e]; rfl)
      · rintro H1 ⟨p1, p2⟩
        refine ⟨D, t.cps.toList.map txtC, rfl, SqL.of ?_, k' _ _ p2 ?_⟩
        · rw [p1, List.map_map]
          have e : t.cps.toList.take t.cps.size = t.cps.toList := List.take_of_length_le (by simp)
          rw [e] <;> rfl
        · unfold textT
          rw [decide_eq_true h2, Bool.true_and, List.all_map] <;> rfl
    · rw [decide_eq_false (show ¬ (t.length : Int) ≤ 40 by omega)]
      refine iteF (k' _ _ (Same.refl H) ?_)
      unfold textT
      rw [decide_eq_false h2, Bool.false_and]
theorem scP : FnScope ["scalar", "kind", "what"] ["scalar"] (defScope sPlace) := ⟨rfl, rfl, rfl, by decide +kernel, rfl, by decide +kernel, by decide +kernel⟩
theorem kinds_at (c : Sc) : KINDS[c.rank]? = some c.kind ∧ ∀ m, m < c.rank → KINDS[m]? ≠ some c.kind := by
  cases c with
  | tr b => exact ⟨rfl, fun m h => absurd h (Nat.not_lt_zero _)⟩
  | nu i => exact ⟨rfl, (by decide +kernel : ∀ m, m < 1 → KINDS[m]? ≠ some ("number" : Str))⟩
  | te t => exact ⟨rfl, (by decide +kernel : ∀ m, m < 2 → KINDS[m]? ≠ some ("text" : Str))⟩
  | en t => exact ⟨rfl, (by decide +kernel : ∀ m, m < 3 → KINDS[m]? ≠ some ("entity" : Str))⟩
theorem ok_place {f : Addr} {fd : FuncData} (F : Fun K "scalar_place" "scalar_place" sPlace f fd) (T : TxtV K mg) : FnOk P w K mg base CX0 1 f fd ["scalar"] spPlace := by
  refine F.ok scP (fun vs H Q E h => ?_) (fun cdv A outer s H vs Q E hr h => ?_)
  · obtain ⟨x, c, rfl, _⟩ := h
    rfl
  · obtain ⟨x, c, rfl, ⟨p, rfl, hp⟩, k⟩ := h
    obtain ⟨a, o, ha, lk, oc, od, hs⟩ := T.sc
    refine ⟨_, pss_cons (ps_asg (pv 0) (pg_tup rfl (pgs_cons (pg_name (i := 1) scP.nd rfl (Or.inl rfl)) (pgs_cons (pg_name (i := 2) scP.nd rfl (Or.inl rfl)) pgs_nil))))
      (pss_one (ps_ret (pe_tup (pa_cons (pe_bm PySem.F.plainAttrs_tuple PySem.F.slot_tuple_index PySem.F.type_tuple_index mt_tup_index (pe_glob (v := .ref a) rfl ha rfl) (pa_cons (pv 1) pa_nil)) (pa_cons (pv 2) pa_nil))))), ?_⟩
    refine ⟨_, rfl, p, _, rfl, SqT.of hp, rfl, _, _, rfl, _, _, rfl, rfl, ?_⟩
    obtain ⟨k1, k2⟩ := kinds_at c
    refine ⟨.inr (.inl ⟨rfl, o, lk, oc, od⟩), ?_⟩
    refine ⟨_, rfl, a, KINDS, c.kind, c.rank, rfl, rfl, hs H, k1, k2, ?_⟩
    exact ⟨_, rfl, (by show 2 ≤ sizeLine; decide), fun q hq => k _ q (fun b u e => (upd_ne (ne_of_none e hq)).trans e) upd_same⟩
theorem scB : FnScope ["one", "two"] ["one", "two"] (defScope sBefore) := ⟨rfl, rfl, rfl, by decide +kernel, rfl, by decide +kernel, by decide +kernel⟩
theorem key_at {H : Hp} {q : Addr} {c : Sc} (h : H q = some (.tup [.int c.rank, c.val])) : KeyAt H (.ref q) c.key := .inr ⟨q, _, _, rfl, rfl, h, .cons (.int _) (.cons (fl_val c) .nil)⟩
theorem ok_before {f : Addr} {fd : FuncData} (F : Fun K "scalar_before" "scalar_before" sBefore f fd) (cP : Cal P w K mg base 1 "scalar_place" ["scalar"] spPlace) : FnOk P w K mg base CX0 2 f fd ["one", "two"] spBefore := by
  refine F.ok scB (fun vs H Q E h => ?_) (fun cdv A outer s H vs Q E hr h => ?_)
  · obtain ⟨x, y, c, d, rfl, _⟩ := h
    rfl
  · obtain ⟨x, y, c, d, rfl, hx, hy, k⟩ := h
    refine ⟨_, pss_one (ps_ret (pe_cmpR (op_ltK (Nat.lt_of_le_of_lt (Nat.add_le_add_left (by decide : 3 ≤ 64) _) hr.units)) (pe_cal cP hr (by decide) (by rfl) (pa_cons (pv 0) pa_nil)) (pe_cal cP hr (by decide) (by rfl) (pa_cons (pv 1) pa_nil)) (nomark _))), ?_⟩
    refine ⟨_, rfl, x, c, rfl, hx, fun H1 q s1 hq => ⟨_, rfl, y, d, rfl, hy.same s1, fun H2 r s2 hr2 => ?_⟩⟩
    exact ⟨_, _, _, _, key_at (s2 _ _ hq), key_at hr2, pl_pl c, coh2, k H2 (s1.trans s2)⟩
theorem iteNS' {c : Bool} {p q : Prop} (h : c = false) (y : q) : if c = true then p else q := by rw [h]; exact y
theorem scSc : FnScope ["value", "kind", "what"] ["value"] (defScope sScalar) := ⟨rfl, rfl, rfl, by decide +kernel, rfl, by decide +kernel, by decide +kernel⟩
theorem str_ne {a b : Str} (h : a ≠ b) : decide (V.str a = V.str b) = false := decide_eq_false fun z => h (V.str.inj z)
def spScalarK (K : PySem.W.Frag) : Sp := fun vs H Q _ => ∃ (x : V) (it : Option Sc), vs = [x] ∧ ItAt K H x it ∧ ∀ H', Same H H' → Q (.bl (itOk it)) H'
theorem ok_scalar {f : Addr} {fd : FuncData} (F : Fun K "is_scalar" "is_scalar" sScalar f fd) (T : TxtV K mg) (cT : Cal P w K mg base 2 "is_text" ["text"] (spText fun t => .bl (textT t))) (cU : Cal P w K mg base 2 "is_uid" ["text"] (spText fun t => .bl (uidT t))) : FnOk P w K mg base CX0 3 f fd ["value"] (spScalarK K) := by
  refine F.ok scSc (fun vs H Q E h => ?_) (fun cdv A outer s H vs Q E hr h => ?_)
  · obtain ⟨x, it, rfl, _⟩ := h
    rfl
  · obtain ⟨x, it, rfl, hit, k⟩ := h
    obtain ⟨t, hn⟩ := T.nm
    obtain ⟨p, kn, vl, rfl, hp, hk⟩ : ∃ (p : Addr) (kn : Str) (vl : V), x = .ref p ∧ H p = some (.tup [.str kn, vl]) ∧ ((∃ c : Sc, it = some c ∧ kn = c.kind ∧ vl = c.val ∧ c.clb = true) ∨ (it = none ∧ kn = "set")) := by
      cases it with
      | some c =>
        obtain ⟨⟨p, e, hp⟩, hc⟩ := hit
        exact ⟨p, c.kind, c.val, e, hp, .inl ⟨c, rfl, rfl, rfl, hc⟩⟩
      | none =>
        obtain ⟨p, q, e, hp, _⟩ := hit
        exact ⟨p, "set", .ref q, e, hp, .inr ⟨rfl, rfl⟩⟩
    refine ⟨_, pss_cons (ps_asg (pv 0) (pg_tup rfl (pgs_cons (pg_name (i := 1) scSc.nd rfl (Or.inl rfl)) (pgs_cons (pg_name (i := 2) scSc.nd rfl (Or.inl rfl)) pgs_nil))))
      (pss_cons (ps_if (pt_cmpR op_eq (pv 1) pe_str (nomark _)) (pss_one (ps_ret (pe_cmpR op_in_seq (pv 2) (pe_tup (pa_cons pe_bl (pa_cons pe_bl pa_nil))) (by with_unfolding_all rfl)))) pss_nil)
      (pss_cons (ps_if (pt_cmpR op_eq (pv 1) pe_str (nomark _)) (pss_one (ps_ret (pe_chain op_le op_le (pe_un un_neg (pe_glob (v := .int 1000000) rfl hn ⟨_, rfl⟩)) (pv 2) (pe_glob (v := .int 1000000) rfl hn ⟨_, rfl⟩)))) pss_nil)
      (pss_cons (ps_if (pt_cmpR op_eq (pv 1) pe_str (nomark _)) (pss_one (ps_ret (pe_cal cT hr (by decide) (by rfl) (pa_cons (pv 2) pa_nil)))) pss_nil)
      (pss_one (ps_ret (pe_and (pe_cmpR op_eq (pv 1) pe_str (nomark _)) (pe_one (pe_cal cU hr (by decide) (by rfl) (pa_cons (pv 2) pa_nil))))))))), ?_⟩
    refine ⟨_, rfl, p, _, rfl, SqT.of hp, rfl, _, _, rfl, _, _, rfl, rfl, ?_⟩
    obtain ⟨n1, n2, n3, n4, n5, n6, n7, n8, n9, n0⟩ : ("truth" : Str) ≠ "number" ∧ ("truth" : Str) ≠ "text" ∧ ("truth" : Str) ≠ "entity" ∧ ("number" : Str) ≠ "text" ∧ ("number" : Str) ≠ "entity" ∧ ("text" : Str) ≠ "entity" ∧
      ("set" : Str) ≠ "truth" ∧ ("set" : Str) ≠ "number" ∧ ("set" : Str) ≠ "text" ∧ ("set" : Str) ≠ "entity" := by decide +kernel
    have kk : ∀ b H', Same H H' → b = itOk it → Q (.bl b) H' := fun b H' s e => e ▸ k H' s
    rcases hk with ⟨c, rfl, rfl, rfl, hc⟩ | ⟨rfl, rfl⟩
    · cases c with
      | tr b =>
        refine ⟨_, rfl, rfl, _, rfl, iteT ?_⟩
        refine ⟨_, rfl, (by show 2 ≤ sizeLine; decide), fun q hq => ⟨q, _, rfl, .inr (SqT.of upd_same), rfl, rfl, ?_⟩⟩
        have e : inV (V.bl b) [V.bl false, V.bl true] = true := by cases b <;> decide
        exact kk _ (upd H q (.tup [V.bl false, V.bl true])) (fun b u e => (upd_ne (ne_of_none e hq)).trans e) e
      | nu i =>
        refine ⟨_, rfl, rfl, _, rfl, iteNS' (str_ne n1.symm) ?_⟩
        refine ⟨_, rfl, rfl, _, rfl, iteT ?_⟩
        refine ⟨_, rfl, _, rfl, _, _, rfl, rfl, _, rfl, ?_⟩
        have e0 : itOk (some (.nu i)) = (decide (-1000000 ≤ i) && decide (i ≤ 1000000)) := rfl
        by_cases h1 : -1000000 ≤ i
        · rw [show decide (-(1000000 : Int) ≤ i) = true from decide_eq_true h1]
          refine iteT ⟨_, _, rfl, rfl, kk _ H (Same.refl H) ?_⟩
          rw [e0, decide_eq_true h1, Bool.true_and]
        · rw [show decide (-(1000000 : Int) ≤ i) = false from decide_eq_false h1]
          refine iteF (kk _ H (Same.refl H) ?_)
          rw [e0, decide_eq_false h1, Bool.false_and]
      | te t =>
        have hc' : (decide (t.length ≤ 50) && t.cps.toList.all clC) = true := hc
        rw [Bool.and_eq_true] at hc'
        have l50 := of_decide_eq_true hc'.1
        refine ⟨_, rfl, rfl, _, rfl, iteNS' (str_ne n2.symm) ?_⟩
        refine ⟨_, rfl, rfl, _, rfl, iteNS' (str_ne n4.symm) ?_⟩
        refine ⟨_, rfl, rfl, _, rfl, iteT ?_⟩
        exact ⟨_, rfl, t, rfl, by omega, fun H1 s1 => kk _ H1 s1 rfl⟩
      | en t =>
        have hc' : (decide (t.length ≤ 50) && t.cps.toList.all fun c => decide (c < 128)) = true := hc
        rw [Bool.and_eq_true] at hc'
        have l50 := of_decide_eq_true hc'.1
        refine ⟨_, rfl, rfl, _, rfl, iteNS' (str_ne n3.symm) ?_⟩
        refine ⟨_, rfl, rfl, _, rfl, iteNS' (str_ne n5.symm) ?_⟩
        refine ⟨_, rfl, rfl, _, rfl, iteNS' (str_ne n6.symm) ?_⟩
        refine ⟨_, rfl, rfl, _, rfl, iteT ?_⟩
        exact ⟨_, rfl, t, rfl, by omega, fun H1 s1 => kk _ H1 s1 rfl⟩
    · refine ⟨_, rfl, rfl, _, rfl, iteNS' (str_ne n7) ?_⟩
      refine ⟨_, rfl, rfl, _, rfl, iteNS' (str_ne n8) ?_⟩
      refine ⟨_, rfl, rfl, _, rfl, iteNS' (str_ne n9) ?_⟩
      refine ⟨_, rfl, rfl, _, rfl, iteNS' (str_ne n0) ?_⟩
      exact kk _ H (Same.refl H) rfl
end
end N03

set_option linter.all false
set_option maxRecDepth 100000
set_option maxHeartbeats 4000000
namespace N03
open PySem PySem.Spec PyProof.Rows L2 N01 SK
abbrev sMake : Stmt := top 22
/-- scalars within their bounds at a list -/
def ScsAt (K : PySem.W.Frag) (H : Hp) (l : Addr) (cs : List Sc) : Prop := ∃ xs, SqL K H l xs ∧ Paired (ScAt H) xs cs
theorem scs_len {H : Hp} {xs : List V} {cs : List Sc} (h : Paired (ScAt H) xs cs) : xs.length = cs.length := h.length
theorem Paired.imp2 {α β : Type} {F G : α → β → Prop} (h : ∀ x y, F x y → G x y) : ∀ {xs : List α} {ys : List β}, Paired F xs ys → Paired G xs ys
  | _, _, .nil => .nil
  | _, _, .cons q t => .cons (h _ _ q) (Paired.imp2 h t)
theorem scs_same {H H' : Hp} {xs : List V} {cs : List Sc} (h : Paired (ScAt H) xs cs) (s : Same H H') : Paired (ScAt H') xs cs := Paired.imp2 (fun _ _ q => q.same s) h
theorem paired_get {α β : Type} {F : α → β → Prop} : ∀ {xs : List α} {ys : List β}, Paired F xs ys → ∀ {i : Nat} {x : α}, xs[i]? = some x → ∃ y, ys[i]? = some y ∧ F x y
  | _, _, .nil, i, x, e => by simp at e
  | _, _, .cons q t, 0, x, e => by
    simp at e
    subst e
    exact ⟨_, rfl, q⟩
  | _, _, .cons q t, i + 1, x, e => by
    obtain ⟨y, h1, h2⟩ := paired_get t (i := i) (by simpa using e)
    exact ⟨y, by simpa using h1, h2⟩
def setD (cs : List Sc) : PyData := .tuple [.str "set", .tuple ((canS cs).map Sc.dat)]
def spMake (K : PySem.W.Frag) (C : Addr) : Sp := fun vs H Q E => ∃ (l : Addr) (cs : List Sc), vs = [.ref l] ∧ ScsAt K H l cs ∧ (∀ c ∈ cs, c.clb = true) ∧ cs.length ≤ 7 ∧
  (cs.all Sc.okp = true → ∀ H' p, Same H H' → Q (.ref p) H') ∧
  (cs.all Sc.okp = false → ∀ H' d, Same H H' → H' d = some (.xd [(("name" : Str), .str "set")]) → E (.ref C) (some d) H')
structure TxtM (K : PySem.W.Frag) (mg : Str → Option Value) : Prop where
  len : mg "len" = none
  all : mg "all" = none
  sorted : mg "sorted" = none
  tuple : mg "tuple" = none
  sm : ∃ t, mg "SET_MOST" = some (.int 8 t)
section
variable {P : Program} {w : World} {K : PySem.W.Frag} {mg : Str → Option Value} {base : Heap} {C fI : Addr}
theorem fund_of {x qual : Str} {st : Stmt} {f : Addr} {oc : Value} {od an : Option Addr} {osl : Array (Option Value)} {kV doc pm cdv ct : Value} (l : K.lookup f = some ⟨oc, od, .func (PySem.W.fnOf x qual (defArgs st) (defBody st) (defScope st) .none kV doc pm an cdv ct), osl⟩)
    (c : PySem.W.codeIn K cdv qual = true) (k : PySem.W.keepIn K (.ref f) = true) : FunD K x qual (defArgs st) (defBody st) (defScope st) [] [] f (PySem.W.fnOf x qual (defArgs st) (defBody st) (defScope st) .none kV doc pm an cdv ct) := ⟨⟨oc, od, .none, kV, doc, pm, an, cdv, ct, osl, rfl, l, c, Or.inl ⟨rfl, rfl⟩, Or.inl rfl⟩, k⟩
theorem dp_all {K : PySem.W.Frag} {H : Hp} : ∀ {us : List V} {cs : List Sc}, Paired (ScAt H) us cs → DpAll K H us (cs.map Sc.dat)
  | _, _, .nil => .nil
  | _, _, .cons q t => .cons q.dp (dp_all t)
theorem sc_layC {c : Sc} (h : c.clb = true) : c.dat.canLay0 = true := by
  have o1 : PyData.strOk c.kind = true := by
    have g : PyData.strOk "truth" = true ∧ PyData.strOk "number" = true ∧ PyData.strOk "text" = true ∧ PyData.strOk "entity" = true := by decide +kernel
    cases c with
    | tr b => exact g.1
    | nu i => exact g.2.1
    | te t => exact g.2.2.1
    | en t => exact g.2.2.2
  have o2 : c.pl.canLay0 = true := by
    cases c with
    | tr b => rfl
    | nu i => rfl
    | te t =>
      have h' : (decide (t.length ≤ 50) && t.cps.toList.all clC) = true := h
      rw [Bool.and_eq_true] at h'
      exact strOk_asc fun c hc => by
        have z := List.all_eq_true.mp h'.2 c hc
        unfold clC at z
        rw [Bool.and_eq_true] at z
        exact of_decide_eq_true z.1
    | en t =>
      have h' : (decide (t.length ≤ 50) && t.cps.toList.all fun c => decide (c < 128)) = true := h
      rw [Bool.and_eq_true] at h'
      exact strOk_asc fun c hc => of_decide_eq_true (List.all_eq_true.mp h'.2 c hc)
  show (PyData.strOk c.kind && (c.pl.canLay0 && true)) = true
  rw [o1, o2]
  rfl
theorem sc_shapedC {c : Sc} (h : c.clb = true) : SeqAt.shaped c.dat = true := by
  have z := sc_layC h
  unfold SeqAt.shaped
  rw [z]
  cases c <;> rfl
theorem sc_lay {c : Sc} (h : c.ok = true) : c.dat.canLay0 = true := sc_layC (ok_cl h)
theorem sc_shaped {c : Sc} (h : c.ok = true) : SeqAt.shaped c.dat = true := by
  have z := sc_lay h
  unfold SeqAt.shaped
  rw [z]
  cases c <;> rfl
theorem paired_snoc {α β : Type} {F : α → β → Prop} : ∀ {xs : List α} {ys : List β} {y : β}, Paired F xs (ys ++ [y]) → ∃ xs' x, xs = xs' ++ [x] ∧ Paired F xs' ys ∧ F x y
  | xs, [], y, h => by
    cases h with
    | cons q t =>
      cases t
      exact ⟨[], _, rfl, .nil, q⟩
  | xs, z :: ys, y, h => by
    cases h with
    | cons q t =>
      obtain ⟨xs', x, rfl, h1, h2⟩ := paired_snoc t
      exact ⟨_ :: xs', x, rfl, .cons q h1, h2⟩
theorem scM : FnScope ["scalars", "scalar", "items"] ["scalars"] (defScope sMake) := ⟨rfl, rfl, rfl, by decide +kernel, rfl, by decide +kernel, by decide +kernel⟩
theorem ok_make {f : Addr} {fd : FuncData} (F : FunD K "make_set" "make_set" (defArgs sMake) (defBody sMake) (defScope sMake) [] [] f fd) (T : TxtM K mg) (O : PySem.OorX.OorTxt P K mg C fI)
    (cS : Cal P w K mg base 3 "is_scalar" ["value"] (spScalarK K)) (cP : Cal P w K mg base 1 "scalar_place" ["scalar"] spPlace) : FnOk P w K mg base (L2.CX P w) 5 f fd ["scalars"] (spMake K C) := by
  obtain ⟨q, fdq, Fq, bq, mq, kq⟩ := cP.ex
  obtain ⟨t8, h8⟩ := T.sm
  have Fr := Fq.raw bq .nil
  refine F.ok (CX := L2.CX P w) scM (fun vs H Q E h => ?_) (fun cdv A outer s H vs Q E hr h => ?_)
  · obtain ⟨l, cs, rfl, _⟩ := h
    rfl
  · obtain ⟨l, cs, rfl, ⟨xs, hl, hx⟩, ok, hz, kq1, kq2⟩ := h
    have SB : ∀ ds, Coh ds → Srtb P w (A.deeper (envOfC "make_set" (defScope sMake) s.heap.objs.size f cdv)).in1.in1 ds := fun ds C => Srtb.coh C (by
      have := hr.units
      show (A.deeper _).units + 1 + 1 + 2 < cLine
      omega)
    refine ⟨_, pss_cons (ps_if (pt_not (pt_val (pe_callB (cr_all rfl) (by rfl) T.all (by decide +kernel) (pa_cons
        (pe_lc (own := [("scalar", 1)]) (g := gName 1) (tt := tYes) rfl scM.nd (pi_list (pv 0)) (blkOk_by (N := ["scalars", "scalar", "items"]) (sc := defScope sMake) (by decide +kernel)) (fun _ _ _ _ _ => pg_name (i := 1) scM.nd rfl (Or.inl rfl)) (fun _ _ _ _ _ => pts_nil)
          (fun _ _ _ _ _ => pe_cal cS hr (by decide) (by rfl) (pa_cons (pv 1) pa_nil))) pa_nil)))) (pss_one (ps_raiseOor rfl O (hr.mono (by decide)) (W := fun cls d _ H => E cls d H) (takes_of rfl rfl rfl rfl) (pa_cons pe_str pa_nil))) pss_nil)
      (pss_cons (ps_set (i := 2) scM.nd rfl (Or.inl rfl) (pe_lst pa_nil))
      (pss_cons (ps_for (passes_of rfl) rfl (pi_list (pe_callBK (cr_sortF (Sb := Coh) Fr (fun _ _ _ _ _ _ z => z) (hr.mono (by decide)) SB) (by rfl) T.sorted (by decide +kernel) (pa_cons (pv 0) pa_nil) (pk_cons (pe_glob (v := .ref q) rfl mq rfl) pk_nil))) (pg_name (i := 1) scM.nd rfl (Or.inl rfl))
        (pss_one (ps_if (PW.pt (pw_or (pt_not (pt_truth (pv 2) (fun _ => rfl))) (pw_or1 (pt_cmpR (op_neD hr.units) (pe_ix ix_list (pv 2) (pe_un un_neg pe_int) (fun _ _ => rfl)) (pv 1) (nomark _))))) (pss_one (ps_expr (pe_bm PySem.F.plainAttrs_list PySem.F.slot_list_append PySem.F.type_list_append mt_append (pv 2) (pa_cons (pv 1) pa_nil)))) pss_nil)))
      (pss_cons (ps_if (pt_cmpR op_gt (pe_callB call_len_seq (by rfl) T.len PySem.boot_len (pa_cons (pv 2) pa_nil)) (pe_glob (v := .int 8) rfl h8 ⟨_, rfl⟩) (nomark _)) (pss_one (ps_raiseOor rfl O (hr.mono (by decide)) (W := fun cls d _ H => E cls d H) (takes_of rfl rfl rfl rfl) (pa_cons pe_str pa_nil))) pss_nil)
      (pss_one (ps_ret (pe_tup (pa_cons pe_str (pa_cons (pe_callTy call_tuple_of (by rfl) T.tuple (by decide +kernel) (pa_cons (pv 2) pa_nil)) pa_nil)))))))), ?_⟩
    have hxl := scs_len hx
    have b16 : sizeLine = 16777216 := sizeLine_eq
    refine ⟨_, rfl, l, rfl, ⟨xs, hl⟩, fun D hD => lc_it (walk_list (xs := xs)) (fun i H' => H' D = some (.lst (((cs.take i).map Sc.okp).map V.bl)) ∧ Same H H')
      ⟨upd_same, fun b o e => (upd_ne (ne_of_none e hD)).trans e⟩ (fun i H' _ p => p.2.seq hl) ?_ ?_⟩
    · rintro i x H1 H1' hi ⟨p1, p2⟩ ⟨rfl, hxi⟩
      obtain ⟨c, hc, hxc⟩ := paired_get hx hxi
      refine ⟨rfl, _, rfl, x, some c, rfl, ⟨hxc.same p2, ok c (List.mem_of_getElem? hc)⟩, fun H2 s2 => ?_⟩
      refine ⟨_, s2 _ _ p1, ?_, ?_, fun b o e => (upd_ne (ne_of_none e hD)).trans (s2 _ _ (p2 b o e))⟩
      · rw [List.length_map, List.length_map, List.length_take]
        omega
      · rw [upd_same, List.take_add_one, hc, List.map_append, List.map_append] <;> rfl
    · rintro H1 ⟨p1, p2⟩
      rw [List.take_of_length_le (by omega)] at p1
      refine ⟨D, cs.map Sc.okp, rfl, SqL.of p1, _, rfl, ?_⟩
      have ea : (cs.map Sc.okp).all id = cs.all Sc.okp := by rw [List.all_map]; rfl
      rw [ea]
      cases hall : cs.all Sc.okp with
      | false => exact iteT ⟨"set", rfl, by decide +kernel, fun d hd => kq2 hall _ d (fun b o q => (upd_ne (ne_of_none (p2 b o q) hd)).trans (p2 b o q)) upd_same⟩
      | true =>
      refine iteF ⟨Nat.zero_le _, fun p hp => ?_⟩
      have s1 : Same H (upd H1 p (.lst [])) := fun b o e => (upd_ne (ne_of_none (p2 b o e) hp)).trans (p2 b o e)
      have hp0 : H p = none := by
        cases e : H p with
        | none => rfl
        | some o => rw [p2 p o e] at hp; cases hp
      refine ⟨_, rfl, l, xs, cs.map Sc.key, rfl, rfl, s1.seq hl, ⟨by rw [List.length_map, hxl], fun i x d hxi hdi H' s2 => ?_⟩, coh cs, fun r H2 s2 hr2 => ?_⟩
      · obtain ⟨c, hc, hxc⟩ := paired_get hx hxi
        rw [List.getElem?_map, hc] at hdi
        cases hdi
        exact ⟨E0, x, c, rfl, (hxc.same s1).same s2, fun H'' z s3 hz => ⟨s3, key_at hz⟩⟩
      · have hx2 := sort_at (scs_same hx (s1.trans s2))
        have hp2 : H2 p = some (.lst []) := s2 _ _ upd_same
        have npr : p ≠ r := ne_of_none hp2 hr2
        have sm2 : Same H2 (upd H2 r (.lst (sortK false xs (cs.map Sc.key)))) := fun b o e => (upd_ne (ne_of_none e hr2)).trans e
        have hlen : (sortK false xs (cs.map Sc.key)).length = (cs.mergeSort leS).length := hx2.length
        refine ⟨r, rfl, ⟨_, SqL.of upd_same⟩, for_it (walk_list (xs := sortK false xs (cs.map Sc.key))) (fun i σ H' => ∃ (v1 : Option V) (us : List V), σ = [some (.ref l), v1, some (.ref p)] ∧ H' p = some (.lst us) ∧ Paired (ScAt H') us (((cs.mergeSort leS).take i).foldl ddS []) ∧ Kp p (upd H2 r (.lst (sortK false xs (cs.map Sc.key)))) H')
          ⟨none, [], rfl, sm2 _ _ hp2, .nil, Kp.refl _⟩ (fun i σ H' _ ⟨_, _, _, _, _, kp⟩ => SqL.of (kp _ _ upd_same npr.symm)) ?_ ?_⟩
        · rintro i x σ H3 H3' hi ⟨v1, us, rfl, q1, q2, q3⟩ ⟨rfl, hxi⟩
          obtain ⟨c, hc, hxc⟩ := paired_get hx2 hxi
          have hcm : c ∈ cs := List.mem_mergeSort.mp (List.mem_of_getElem? hc)
          have hxc3 : ScAt H3' x c := by
            obtain ⟨a, ea, e⟩ := hxc
            exact ⟨a, ea, q3 _ _ (sm2 _ _ e) (fun z => by rw [z, hp2] at e; cases e)⟩
          have htk : (cs.mergeSort leS).take (i + 1) = (cs.mergeSort leS).take i ++ [c] := by rw [List.take_add_one, hc]; rfl
          have hul := q2.length
          have hdl := dd_len ((cs.mergeSort leS).take i) []
          have htl : ((cs.mergeSort leS).take i).length ≤ i := by rw [List.length_take]; omega
          have hms : (cs.mergeSort leS).length = cs.length := List.length_mergeSort _
          have hul2 : us.length < 1000 := by
            simp only [List.length_nil] at hdl
            omega
          -- the item is laid at the end
          have app : ((cs.mergeSort leS).take (i + 1)).foldl ddS [] = ((cs.mergeSort leS).take i).foldl ddS [] ++ [c] → ∃ (v1 : Option V) (us' : List V), [some (V.ref l), some x, some (V.ref p)] = [some (.ref l), v1, some (.ref p)] ∧ (upd H3' p (.lst (us ++ [x]))) p = some (.lst us') ∧ Paired (ScAt (upd H3' p (.lst (us ++ [x])))) us' (((cs.mergeSort leS).take (i + 1)).foldl ddS []) ∧ Kp p (upd H2 r (.lst (sortK false xs (cs.map Sc.key)))) (upd H3' p (.lst (us ++ [x]))) := fun e => by
            have up : ∀ {v : V} {d : Sc}, ScAt H3' v d → ScAt (upd H3' p (.lst (us ++ [x]))) v d := fun ⟨a, ea, z⟩ => ⟨a, ea, (upd_ne (fun w => by rw [w, q1] at z; cases z)).trans z⟩
            refine ⟨_, _, rfl, upd_same, ?_, fun b o z n => (upd_ne n).trans (q3 b o z n)⟩
            rw [e]
            exact snoc_vals (up hxc3) (Paired.imp2 (fun _ _ => up) q2)
          have okm : ∀ {d : Sc}, d ∈ ((cs.mergeSort leS).take i).foldl ddS [] → d.clb = true := fun {d} hd => by
            rcases dd_sub _ _ hd with z | z
            · cases z
            · exact ok d (List.mem_mergeSort.mp (List.mem_of_mem_take z))
          refine ⟨_, rfl, _, .inl ⟨us, SqL.of q1, rfl⟩, ?_⟩
          rcases List.eq_nil_or_concat (((cs.mergeSort leS).take i).foldl ddS []) with e | ⟨acc, b, e⟩
          · rw [e] at q2
            cases q2
            refine iteT (iteT ⟨_, rfl, Or.inl ⟨rfl, _, SqL.of q1⟩, _, rfl, p, _, x, rfl, rfl, q1, by simp; omega, ?_⟩)
            refine app ?_
            rw [htk, dd_snoc, e]
            rfl
          · rw [List.concat_eq_append] at e
            have q2' := q2
            rw [e] at q2'
            obtain ⟨us', y, rfl, qa, qy⟩ := paired_snoc q2'
            rw [show (us' ++ [y]).isEmpty = false by simp]
            refine iteF ⟨_, rfl, _, rfl, p, _, _, y, rfl, rfl, SqL.of q1, atI_last us' y, _, rfl, b.dat, c.dat, qy.dp, hxc3.dp, sc_shapedC (okm (by rw [e]; simp)), sc_shapedC (ok c hcm), _, rfl, ?_⟩
            rw [dat_eqv]
            have ed : ((cs.mergeSort leS).take (i + 1)).foldl ddS [] = if b = c then acc ++ [b] else (acc ++ [b]) ++ [c] := by
              rw [htk, dd_snoc, e]
              unfold ddS
              rw [List.getLast?_concat]
              by_cases w : b = c
              · rw [if_pos w, if_pos (congrArg some w)]
              · rw [if_neg w, if_neg (fun z => w (Option.some.inj z))]
            by_cases w : b = c
            · rw [decide_eq_true w]
              rw [if_pos w] at ed
              refine iteF ⟨_, _, rfl, q1, ?_, q3⟩
              rw [ed]
              exact q2'
            · rw [decide_eq_false w]
              rw [if_neg w] at ed
              refine iteT ⟨_, rfl, Or.inl ⟨rfl, _, SqL.of q1⟩, _, rfl, p, _, x, rfl, rfl, q1, by omega, ?_⟩
              exact app (by rw [ed, e])
        · rintro σ H3 ⟨v1, us, rfl, q1, q2, q3⟩
          rw [List.take_of_length_le (Nat.le_of_eq hlen.symm), can_dd] at q2
          have sH : Same H H3 := fun b o z => q3 b o (sm2 _ _ (s2 _ _ (s1 _ _ z))) (fun w => by rw [w, hp0] at z; cases z)
          have hul := q2.length
          refine ⟨_, rfl, p, us, rfl, .inl (SqL.of q1), _, _, rfl, rfl, _, rfl, ?_⟩
          have hcl : (canS cs).length ≤ 7 := by
            rw [← can_dd]
            refine Nat.le_trans (dd_len _ []) ?_
            rw [List.length_mergeSort, List.length_nil]
            omega
          · rw [decide_eq_false (show ¬ (8 : Int) < (us.length : Int) by omega)]
            refine iteF ⟨_, rfl, p, us, rfl, .inl ⟨SqL.of q1, fun t ht => ⟨(by show 2 ≤ sizeLine; decide), fun u hu => ?_⟩⟩⟩
            have st : Same H3 (upd H3 t (.tup us)) := fun b o z => (upd_ne (ne_of_none z ht)).trans z
            have su : Same (upd H3 t (.tup us)) (upd (upd H3 t (.tup us)) u (.tup [.str "set", .ref t])) := fun b o z => (upd_ne (ne_of_none z hu)).trans z
            exact kq1 hall _ u ((sH.trans st).trans su)
end
end N03

set_option linter.all false
set_option maxRecDepth 100000
set_option maxHeartbeats 4000000
namespace N03
open PySem PySem.Spec PyProof.Rows L2 N01 SK TL
abbrev sName : Stmt := top 27
abbrev sPool : Stmt := top 28
abbrev sUids : Stmt := top 29
/-- a text of 1 to 12 signs -/
def spName (lo hi : Nat) (R : Str → Prop) : Sp := fun vs H Q _ => ∃ b : Addr, vs = [.ref b] ∧ BoxAt H b ∧ ∀ (t : Str) (H' : Hp), lo ≤ t.length → t.length ≤ hi → R t → BoxAt H' b → Kept b H H' → Q (.str t) H'
theorem atI_in {xs : List Nat} {n : Int} (h0 : 0 ≤ n) (h1 : n < xs.length) : ∃ c, atI xs n = some c := by
  obtain ⟨m, rfl⟩ : ∃ m : Nat, n = m := ⟨n.toNat, by omega⟩
  have hm : m < xs.length := by omega
  exact ⟨xs[m], atI_nat (List.getElem?_eq_getElem hm)⟩
theorem SG_len : SG.cps.toList.length = 36 := by decide +kernel
theorem sg_in {n : Int} {c : Nat} (h : atI SG.cps.toList n = some c) : inS c = true := by
  obtain ⟨j, _, h2, _⟩ := atI_get h
  exact decide_eq_true (List.mem_of_getElem? h2)
theorem k_in : AllC inS "k" := by unfold AllC; decide +kernel
theorem e_in : AllC inS (Str.ofString "") := by unfold AllC; decide +kernel
theorem one_len (c : Nat) : (⟨#[c]⟩ : Str).length = 1 := rfl
theorem app_len (a b : Str) : (a ++ b).length = a.length + b.length := strLen_append a b
section
variable {P : Program} {w : World} {K : PySem.W.Frag} {mg : Str → Option Value} {base : Heap}
theorem scNa : FnScope ["box", "signs", "kind", "at", "text", "turn"] ["box"] (defScope sName) := ⟨rfl, rfl, rfl, by decide +kernel, rfl, by decide +kernel, by decide +kernel⟩
theorem ok_name {f fW : Addr} {fd fdW : FuncData} (F : Fun K "_law_name" "_law_name" sName f fd) (T : TxtL K mg) (GW : FnOk P w K mg base CX0 1 fW fdW ["box", "many"] spDraw) (bW : Binds K fdW ["box", "many"] []) (gW : mg "_law_draw" = some (.ref fW)) (kW : PySem.W.keepIn K (.ref fW) = true) :
    FnOk P w K mg base CX0 2 f fd ["box"] (spName 1 12 (AllC inS)) := by
  refine F.ok scNa (fun vs H Q E h => ?_) (fun cdv A outer s H vs Q E hr h => ?_)
  · obtain ⟨b, rfl, _⟩ := h
    rfl
  · obtain ⟨b, rfl, B, k⟩ := h
    refine ⟨_, pss_cons (ps_set (i := 1) scNa.nd rfl (Or.inl rfl) pe_str)
      (pss_cons (ps_set (i := 2) scNa.nd rfl (Or.inl rfl) (pe_call GW hr (by rfl) gW kW bW .nil pass0 (pa_cons (pv 0) (pa_cons pe_int pa_nil))))
      (pss_cons (ps_if (pt_cmpR op_eq (pv 2) pe_int (nomark _)) (pss_one (ps_ret (pe_ix ix_str (pv 1) (pe_call GW hr (by rfl) gW kW bW .nil pass0 (pa_cons (pv 0) (pa_cons pe_int pa_nil))) (fun _ _ => rfl)))) pss_nil)
      (pss_cons (ps_if (pt_cmpR op_eq (pv 2) pe_int (nomark _))
        (pss_cons (ps_set (i := 3) scNa.nd rfl (Or.inl rfl) (pe_call GW hr (by rfl) gW kW bW .nil pass0 (pa_cons (pv 0) (pa_cons pe_int pa_nil))))
          (pss_one (ps_ret (pe_op op_add_str (pe_op op_add_str (pe_op op_mul_str pe_str (pv 3)) (pe_ix ix_str (pv 1) (pe_call GW hr (by rfl) gW kW bW .nil pass0 (pa_cons (pv 0) (pa_cons pe_int pa_nil))) (fun _ _ => rfl)))
            (pe_op op_mul_str pe_str (pe_op op_sub pe_int (pv 3))))))) pss_nil)
      (pss_cons (ps_set (i := 4) scNa.nd rfl (Or.inl rfl) pe_str)
      (pss_cons (ps_for PassesOwn.never rfl (pi_range1 (by rfl) T.range (pa_cons (pe_op op_add pe_int (pe_call GW hr (by rfl) gW kW bW .nil pass0 (pa_cons (pv 0) (pa_cons pe_int pa_nil)))) pa_nil)) (pg_name (i := 5) scNa.nd rfl (Or.inl rfl))
        (pss_one (ps_set (i := 4) scNa.nd rfl (Or.inl rfl) (pe_op op_add_str (pv 4) (pe_ix ix_str (pv 1) (pe_call GW hr (by rfl) gW kW bW .nil pass0 (pa_cons (pv 0) (pa_cons pe_int pa_nil))) (fun _ _ => rfl))))))
      (pss_one (ps_ret (pv 4)))))))), ?_⟩
    have sgz : SG.length ≤ sizeLine := by decide +kernel
    refine ⟨_, rfl, b, 3, rfl, by decide, B, fun n H1 n0 n1 B1 k1 => ?_⟩
    refine ⟨_, rfl, rfl, _, rfl, ite2 (fun _ => ?_) (fun _ => ?_)⟩
    · refine ⟨_, rfl, _, rfl, b, 36, rfl, by decide, B1, fun z H2 z0 z1 B2 k2 => ?_⟩
      obtain ⟨c, hc⟩ := atI_in (xs := SG.cps.toList) z0 (by rw [SG_len]; exact z1)
      exact ⟨SG, _, c, rfl, rfl, sgz, hc, k _ _ (by rw [one_len]; omega) (by rw [one_len]; omega) (allc_one (sg_in hc)) B2 (k1.trans k2)⟩
    · refine ⟨_, rfl, rfl, _, rfl, ite2 (fun _ => ?_) (fun _ => ?_)⟩
      · refine ⟨_, rfl, b, 12, rfl, by decide, B1, fun z H2 z0 z1 B2 k2 => ?_⟩
        have kl : ("k" : Str).length = 1 := by decide +kernel
        refine ⟨_, rfl, "k", z, rfl, rfl, by decide +kernel, by omega, by omega, _, rfl, _, rfl, b, 36, rfl, by decide, B2, fun y H3 y0 y1 B3 k3 => ?_⟩
        obtain ⟨c, hc⟩ := atI_in (xs := SG.cps.toList) y0 (by rw [SG_len]; exact y1)
        have l1 : (Txt.mul "k" z).length = z.toNat := by rw [mul_len, kl, Nat.one_mul]
        have l2 : (Txt.mul "k" (11 - z)).length = (11 - z).toNat := by rw [mul_len, kl, Nat.one_mul]
        have l3 : (Txt.mul "k" z ++ (⟨#[c]⟩ : Str) ++ Txt.mul "k" (11 - z)).length = 12 := by rw [app_len, app_len, l1, l2, one_len]; omega
        have b16 : sizeLine = 16777216 := sizeLine_eq
        refine ⟨SG, _, c, rfl, rfl, sgz, hc, _, _, rfl, rfl, by rw [l1, one_len]; omega, ?_⟩
        exact ⟨_, rfl, _, _, rfl, rfl, "k", 11 - z, rfl, rfl, by decide +kernel, by omega, by omega, _, _, rfl, rfl, by rw [app_len, l1, l2, one_len]; omega, k _ _ (by rw [l3]; decide) (by rw [l3]; decide) (allc_app (allc_app (allc_mul _ k_in) (allc_one (sg_in hc))) (allc_mul _ k_in)) B3 ((k1.trans k2).trans k3)⟩
      · refine ⟨_, rfl, b, 12, rfl, by decide, B1, fun z H2 z0 z1 B2 k2 => ?_⟩
        refine ⟨_, _, rfl, rfl, 1 + z, rfl, by omega, by omega, for_range (lo := 0) (n := (1 + z).toNat) (fun i σ H' => ∃ (t : Str) (v3 v5 : Option V), σ = [some (.ref b), some (.str SG), some (.int n), v3, some (.str t), v5] ∧ t.length = i ∧ AllC inS t ∧ BoxAt H' b ∧ Kept b H H')
          ⟨Str.ofString "", none, none, rfl, by decide +kernel, e_in, B2, k1.trans k2⟩ ?_ ?_⟩
        · rintro i σ H3 hi ⟨t, v3, v5, rfl, ht, ta, B3, k3⟩
          refine ⟨_, rfl, _, rfl, _, rfl, b, 36, rfl, by decide, B3, fun y H4 y0 y1 B4 k4 => ?_⟩
          obtain ⟨c, hc⟩ := atI_in (xs := SG.cps.toList) y0 (by rw [SG_len]; exact y1)
          have b16 : sizeLine = 16777216 := sizeLine_eq
          exact ⟨SG, _, c, rfl, rfl, sgz, hc, _, _, rfl, rfl, by rw [one_len]; omega, t ++ ⟨#[c]⟩, _, _, rfl, by rw [app_len, one_len, ht], allc_app ta (allc_one (sg_in hc)), B4, k3.trans k4⟩
        · rintro σ H3 ⟨t, v3, v5, rfl, ht, ta, B3, k3⟩
          exact ⟨_, rfl, k _ _ (by omega) (by omega) ta B3 k3⟩

/-! ### pools of names -/
theorem inV_str (n : Str) (ns : List Str) : inV (V.str n) (ns.map V.str) = decide (n ∈ ns) := by
  unfold inV
  rw [List.any_map]
  by_cases h : n ∈ ns
  · rw [decide_eq_true h]
    refine List.any_eq_true.mpr ⟨n, h, ?_⟩
    show (n == n) = true
    exact beq_self_eq_true n
  · rw [decide_eq_false h]
    refine List.any_eq_false.mpr fun x hx => ?_
    show ¬ (x == n) = true
    intro z
    exact h (eq_of_beq z ▸ hx)
theorem flat_strs (ns : List Str) : (ns.map V.str).all flatV = true := by
  rw [List.all_map]
  exact List.all_eq_true.mpr fun _ _ => rfl
def spareS (t : Nat) : Str := (Str.ofString "spare") ++ (Str.ofString (toString (0 + (t : Int))))
theorem spare_ok : ∀ t, t < 5 → nameT (spareS t) = true := by decide +kernel
theorem spare_inj : ∀ t, t < 5 → ∀ u, u < 5 → spareS t = spareS u → t = u := by decide +kernel
theorem nodup_le {α : Type} [DecidableEq α] : ∀ {l m : List α}, l.Nodup → (∀ x ∈ l, x ∈ m) → l.length ≤ m.length
  | [], m, _, _ => Nat.zero_le _
  | a :: l, m, h, hs => by
    rw [List.nodup_cons] at h
    have ha := hs a List.mem_cons_self
    have z := nodup_le (m := m.erase a) h.2 fun x hx => (List.mem_erase_of_ne (fun e => h.1 (by rw [← e]; exact hx))).mpr (hs x (List.mem_cons_of_mem _ hx))
    rw [List.length_erase_of_mem ha] at z
    have := List.length_pos_of_mem ha
    rw [List.length_cons]
    omega
theorem spares_nodup (m : Nat) (h : m ≤ 5) : ((List.range m).map spareS).Nodup := by
  have k : ∀ m, m ≤ 5 → ((List.range m).map spareS).Nodup := by
    intro m hm
    refine List.Pairwise.map _ (fun a b (z : a < b ∧ b < m) => ?_) ?_
    · intro e
      have := spare_inj a (by omega) b (by omega) e
      omega
    · refine List.Pairwise.imp_of_mem (fun {a b} ha hb z => ⟨z, List.mem_range.mp hb⟩) List.pairwise_lt_range
  exact k m h
theorem full {ns : List Str} {m : Nat} (hm : m ≤ 5) (h : ∀ j, j < m → spareS j ∈ ns) : m ≤ ns.length := by
  have z := nodup_le (spares_nodup m hm) (m := ns) fun x hx => by
    obtain ⟨j, hj, rfl⟩ := List.mem_map.mp hx
    exact h j (List.mem_range.mp hj)
  simpa using z
def spPool : Sp := fun vs H Q _ => ∃ (b : Addr) (m : Nat), vs = [.ref b, .int m] ∧ 3 ≤ m ∧ m ≤ 5 ∧ BoxAt H b ∧ ∀ (H' : Hp) (p : Addr) (ns : List Str), BoxAt H' b → Kept b H H' → H p = none → H' p = some (.lst (ns.map V.str)) → ns.length = m → (∀ n ∈ ns, nameT n = true) → Q (.ref p) H'
structure TxtP (K : PySem.W.Frag) (mg : Str → Option Value) : Prop where
  len : mg "len" = none
  range : mg "range" = none
  str : mg "str" = none
theorem scPo : FnScope ["box", "many", "names", "turn", "name"] ["box", "many"] (defScope sPool) := ⟨rfl, rfl, rfl, by decide +kernel, rfl, by decide +kernel, by decide +kernel⟩
/-- one more name, where there is room for it -/
theorem add_name {K : PySem.W.Frag} {D : Ends} {σ : L2.St} {H : Hp} {p : Addr} {ns : List Str} {nm : Str} {m : Nat} (e4 : σ[4]? = some (some (.str nm))) (e2 : σ[2]? = some (some (.ref p))) (e1 : σ[1]? = some (some (.int m))) (hp : H p = some (.lst (ns.map V.str))) (hl : ns.length ≤ m) (hm : m ≤ 5)
    (h0 : nm ∈ ns ∨ ns.length = m → D.nx σ H) (h1 : ns.length < m → D.nx σ (upd H p (.lst ((ns ++ [nm]).map V.str)))) :
    tIfS (tAnd (tTest (tOp (rIn K true) (tVar 4) (tVar 2))) (tTest (tOp (rI0 fun i j => V.bl (decide (i < j))) (tCB (fun xs H Q => ∃ p ys, xs = [.ref p] ∧ (SqL K H p ys ∨ SqT K H p ys) ∧ Q (.int ys.length) H) (tCons (tVar 2) tNil)) (tVar 1)))) (tDrop (tBM K "list" rAppend (tVar 2) (tCons (tVar 4) tNil))) tNext D σ H := by
  have b16 : sizeLine = 16777216 := sizeLine_eq
  refine ⟨_, e4, _, e2, p, _, rfl, .inl (SqL.of hp), rfl, flat_strs ns, _, rfl, ?_⟩
  show if (!inV (V.str nm) (ns.map V.str)) = true then _ else _
  rw [inV_str]
  by_cases c : nm ∈ ns
  · rw [decide_eq_true c]
    exact iteF (iteF (h0 (.inl c)))
  · rw [decide_eq_false c]
    refine iteT ⟨_, e2, p, _, rfl, .inl (SqL.of hp), _, e1, _, _, rfl, rfl, _, rfl, ?_⟩
    rw [List.length_map]
    by_cases d : ns.length < m
    · rw [decide_eq_true (show (ns.length : Int) < (m : Int) by omega)]
      refine iteT ⟨_, e2, Or.inl ⟨rfl, _, SqL.of hp⟩, _, e4, p, _, _, rfl, rfl, hp, by rw [List.length_map]; omega, ?_⟩
      have z := h1 d
      rw [List.map_append] at z
      exact z
    · rw [decide_eq_false (show ¬ (ns.length : Int) < (m : Int) by omega)]
      exact iteF (h0 (.inr (by omega)))
theorem ok_pool {f : Addr} {fd : FuncData} (F : Fun K "_law_pool" "_law_pool" sPool f fd) (T : TxtP K mg) (cN : Cal P w K mg base 2 "_law_name" ["box"] (spName 1 12 (AllC inS))) : FnOk P w K mg base CX0 3 f fd ["box", "many"] spPool := by
  refine F.ok scPo (fun vs H Q E h => ?_) (fun cdv A outer s H vs Q E hr h => ?_)
  · obtain ⟨b, m, rfl, _⟩ := h
    rfl
  · obtain ⟨b, m, rfl, m3, m4, B, k⟩ := h
    refine ⟨_, pss_cons (ps_set (i := 2) scPo.nd rfl (Or.inl rfl) (pe_lst pa_nil))
      (pss_cons (ps_for PassesOwn.never rfl (pi_range1 (by rfl) T.range (pa_cons (pe_op op_mul pe_int (pv 1)) pa_nil)) (pg_name (i := 3) scPo.nd rfl (Or.inl rfl))
        (pss_cons (ps_set (i := 4) scPo.nd rfl (Or.inl rfl) (pe_cal cN hr (by decide) (by rfl) (pa_cons (pv 0) pa_nil)))
        (pss_one (ps_if (PW.pt (pw_and (pt_cmpR op_notIn_seq (pv 4) (pv 2) (by with_unfolding_all rfl)) (pw_and1 (pt_cmpR op_lt (pe_callB call_len_seq (by rfl) T.len PySem.boot_len (pa_cons (pv 2) pa_nil)) (pv 1) (nomark _))))) (pss_one (ps_expr (pe_bm PySem.F.plainAttrs_list PySem.F.slot_list_append PySem.F.type_list_append mt_append (pv 2) (pa_cons (pv 4) pa_nil)))) pss_nil))))
      (pss_cons (ps_for PassesOwn.never rfl (pi_range1 (by rfl) T.range (pa_cons (pv 1) pa_nil)) (pg_name (i := 3) scPo.nd rfl (Or.inl rfl))
        (pss_cons (ps_set (i := 4) scPo.nd rfl (Or.inl rfl) (pe_op op_add_str pe_str (pe_callTy call_str_int (by rfl) T.str (by decide +kernel) (pa_cons (pv 3) pa_nil))))
        (pss_one (ps_if (PW.pt (pw_and (pt_cmpR op_notIn_seq (pv 4) (pv 2) (by with_unfolding_all rfl)) (pw_and1 (pt_cmpR op_lt (pe_callB call_len_seq (by rfl) T.len PySem.boot_len (pa_cons (pv 2) pa_nil)) (pv 1) (nomark _))))) (pss_one (ps_expr (pe_bm PySem.F.plainAttrs_list PySem.F.slot_list_append PySem.F.type_list_append mt_append (pv 2) (pa_cons (pv 4) pa_nil)))) pss_nil))))
      (pss_one (ps_ret (pv 2))))), ?_⟩
    refine ⟨Nat.zero_le _, fun p hp => ?_⟩
    have nb := B.ne hp
    refine ⟨_, rfl, _, _, rfl, rfl, Or.inl ⟨by decide, by decide⟩, _, rfl, by omega, by omega, for_range (lo := 0) (n := (3 * (m : Int)).toNat) (fun i σ H' => ∃ (v3 v4 : Option V) (ns : List Str), σ = [some (.ref b), some (.int m), some (.ref p), v3, v4] ∧
      H' p = some (.lst (ns.map V.str)) ∧ ns.length ≤ m ∧ (∀ n ∈ ns, nameT n = true) ∧ Kept b H H') ⟨none, none, [], rfl, upd_same, Nat.zero_le _, (fun _ h => nomatch h), (Kept.refl H).upd hp nb⟩ ?_ ?_⟩
    · rintro i σ H1 hi ⟨v3, v4, ns, rfl, q1, q2, q3, q4⟩
      refine ⟨_, rfl, b, rfl, B.kept q4, fun t H2 l0 l1 la B2 k2 => ?_⟩
      have q1' := k2.all p _ q1 nb.symm
      refine add_name (nm := t) rfl rfl rfl q1' q2 m4 (fun _ => ⟨_, _, ns, rfl, q1', q2, q3, q4.trans k2⟩) fun hlt => ⟨_, _, ns ++ [t], rfl, upd_same, by rw [List.length_append, List.length_singleton]; omega, fun n hn => ?_, (q4.trans k2).upd hp nb⟩
      rcases List.mem_append.mp hn with z | z
      · exact q3 n z
      · rw [List.mem_singleton.mp z]
        exact name_of l0 l1 la
    · rintro σ H1 ⟨v3, v4, ns, rfl, q1, q2, q3, q4⟩
      refine ⟨_, rfl, _, rfl, by omega, by omega, for_range (lo := 0) (n := (m : Int).toNat) (fun i σ H' => ∃ (v3 v4 : Option V) (ns : List Str), σ = [some (.ref b), some (.int m), some (.ref p), v3, v4] ∧
        H' p = some (.lst (ns.map V.str)) ∧ ns.length ≤ m ∧ (∀ n ∈ ns, nameT n = true) ∧ Kept b H H' ∧ (ns.length = m ∨ ∀ j, j < i → spareS j ∈ ns)) ⟨_, _, ns, rfl, q1, q2, q3, q4, .inr fun j h => absurd h (Nat.not_lt_zero _)⟩ ?_ ?_⟩
      · rintro i σ H2 hi ⟨v3, v4, ns, rfl, q1, q2, q3, q4, q5⟩
        have i4 : i < 5 := by omega
        have hlog : ((0 : Int) + (i : Int)).natAbs.log2 < 1920 := (by decide : ∀ i : Nat, i < 5 → ((0 : Int) + (i : Int)).natAbs.log2 < 1920) i i4
        have hlen : (Str.ofString "spare").length + (Str.ofString (toString ((0 : Int) + (i : Int)))).length ≤ 100 := (by decide +kernel : ∀ i : Nat, i < 5 → (Str.ofString "spare").length + (Str.ofString (toString ((0 : Int) + (i : Int)))).length ≤ 100) i i4
        refine ⟨_, rfl, _, rfl, hlog, _, _, rfl, rfl, Nat.le_trans hlen (by decide), ?_⟩
        refine add_name (nm := spareS i) rfl rfl rfl q1 q2 m4 (fun c => ⟨_, _, ns, rfl, q1, q2, q3, q4, ?_⟩) fun hlt => ⟨_, _, ns ++ [spareS i], rfl, upd_same, by rw [List.length_append, List.length_singleton]; omega, fun n hn => ?_, q4.upd hp nb, .inr fun j hj => ?_⟩
        · rcases q5 with z | z
          · exact .inl z
          · rcases c with c | c
            · refine .inr fun j hj => ?_
              by_cases e : j = i
              · rw [e]; exact c
              · exact z j (by omega)
            · exact .inl c
        · rcases List.mem_append.mp hn with z | z
          · exact q3 n z
          · rw [List.mem_singleton.mp z]
            exact spare_ok i i4
        · by_cases e : j = i
          · rw [e]; simp
          · rcases q5 with z | z
            · omega
            · exact List.mem_append_left _ (z j (by omega))
      · rintro σ H2 ⟨v3, v4, ns, rfl, q1, q2, q3, q4, q5⟩
        have e : ns.length = m := by
          rcases q5 with z | z
          · exact z
          · have := full m4 fun j hj => z j (by omega)
            omega
        exact ⟨_, rfl, k H2 p ns (B.kept q4) q4 hp q1 e q3⟩
/-! ### uids -/
theorem colon_tl : tl (":" : Str) = 58 :: [] := by decide +kernel
theorem split_two {k n : Str} (hk : AllC inS k) (hn : AllC inS n) : Txt.split (k ++ ":" ++ n) ":" = [k, n] := by
  have no : ∀ {t : Str}, AllC inS t → (58 : Nat) ∉ tl t := fun h z => by
    have y := h 58 z
    exact absurd y (by decide +kernel)
  have z := split_join (y := ":") colon_tl (by decide +kernel) (parts := [k, n]) (by simp) fun p hp => by
    rcases List.mem_cons.mp hp with rfl | hp
    · exact no hk
    · rw [List.mem_singleton.mp hp]
      exact no hn
  rw [join_eq] at z
  exact z
theorem uid_ok {k n : Str} (hk : nameT k = true) (hn : nameT n = true) : (Sc.en (k ++ ":" ++ n)).ok = true := by
  obtain ⟨k0, k1, ka⟩ := name_to hk
  obtain ⟨n0, n1, na⟩ := name_to hn
  have cl : (":" : Str).length = 1 := by decide +kernel
  show (uidT (k ++ ":" ++ n) && (decide ((k ++ ":" ++ n).length ≤ 40) && (k ++ ":" ++ n).cps.toList.all fun c => decide (c < 128))) = true
  have e : uidT (k ++ ":" ++ n) = true := by
    unfold uidT
    rw [split_two ka na]
    show (nameT k && nameT n) = true
    rw [hk, hn]
    rfl
  rw [e, decide_eq_true (by rw [app_len, app_len, cl]; omega), Bool.true_and, Bool.true_and]
  have al : AllC (fun c => decide (c < 128)) (k ++ ":" ++ n) := allc_app (allc_app (fun c hc => decide_eq_true (inS_lt (ka c hc))) (by unfold AllC; decide +kernel)) fun c hc => decide_eq_true (inS_lt (na c hc))
  exact List.all_eq_true.mpr al
def spUids : Sp := fun vs H Q _ => ∃ b : Addr, vs = [.ref b, .int 5] ∧ BoxAt H b ∧ ∀ (H' : Hp) (p : Addr) (us : List Str), Kept b H H' → H p = none → H' p = some (.lst (us.map V.str)) → us.length = 5 → (∀ u ∈ us, (Sc.en u).ok = true) → Q (.ref p) H'
theorem scUi : FnScope ["box", "many", "kinds", "uids", "name"] ["box", "many"] (defScope sUids) := ⟨rfl, rfl, rfl, by decide +kernel, rfl, by decide +kernel, by decide +kernel⟩
theorem Kept.none {b p : Addr} {H H1 : Hp} (k : Kept b H H1) (n : H1 p = none) (nb : b ≠ p) : H p = none := by
  cases e : H p with
  | none => rfl
  | some o => rw [k.all p o e nb.symm] at n; cases n
theorem ok_uids {f : Addr} {fd : FuncData} (F : Fun K "_law_uids" "_law_uids" sUids f fd) (cP : Cal P w K mg base 3 "_law_pool" ["box", "many"] spPool) (cW : Cal P w K mg base 1 "_law_draw" ["box", "many"] spDraw) : FnOk P w K mg base CX0 4 f fd ["box", "many"] spUids := by
  refine F.ok scUi (fun vs H Q E h => ?_) (fun cdv A outer s H vs Q E hr h => ?_)
  · obtain ⟨b, rfl, _⟩ := h
    rfl
  · obtain ⟨b, rfl, B, k⟩ := h
    have b16 : sizeLine = 16777216 := sizeLine_eq
    refine ⟨_, pss_cons (ps_set (i := 2) scUi.nd rfl (Or.inl rfl) (pe_cal cP hr (by decide) (by rfl) (pa_cons (pv 0) (pa_cons pe_int pa_nil))))
      (pss_cons (ps_set (i := 3) scUi.nd rfl (Or.inl rfl) (pe_lst pa_nil))
      (pss_cons (ps_for PassesOwn.never rfl (pi_list (pe_cal cP hr (by decide) (by rfl) (pa_cons (pv 0) (pa_cons (pv 1) pa_nil)))) (pg_name (i := 4) scUi.nd rfl (Or.inl rfl))
        (pss_one (ps_expr (pe_bm PySem.F.plainAttrs_list PySem.F.slot_list_append PySem.F.type_list_append mt_append (pv 3) (pa_cons (pe_op op_add_str (pe_op op_add_str (pe_ix ix_list (pv 2) (pe_cal cW hr (by decide) (by rfl) (pa_cons (pv 0) (pa_cons pe_int pa_nil))) (fun _ _ => rfl)) pe_str) (pv 4)) pa_nil)))))
      (pss_one (ps_ret (pv 3))))), ?_⟩
    refine ⟨_, rfl, b, 3, rfl, by decide, by decide, B, fun H1 q1 ks B1 k1 n1 e1 l1 o1 => ⟨Nat.zero_le _, fun p hp => ?_⟩⟩
    have nbp := B1.ne hp
    have hpH : H p = none := k1.none hp nbp
    have nbq : b ≠ q1 := B.ne n1
    have n1p : q1 ≠ p := ne_of_none e1 hp
    have k2 : Kept b H (upd H1 p (.lst [])) := k1.new hp
    refine ⟨_, rfl, _, rfl, b, 5, rfl, by decide, by decide, B.kept k2, fun H3 q2 ns B3 k3 n2 e2 l2 o2 => ?_⟩
    have hp3 : H3 p = some (.lst []) := k3.all _ _ upd_same nbp.symm
    have e13 : H3 q1 = some (.lst (ks.map V.str)) := k3.all _ _ ((upd_ne n1p).trans e1) nbq.symm
    have n2p : q2 ≠ p := fun z => by
      rw [z, upd_same] at n2
      cases n2
    have nbq2 : b ≠ q2 := (B.kept k2).ne n2
    refine ⟨q2, rfl, ⟨_, SqL.of e2⟩, for_it (walk_list (xs := ns.map V.str)) (fun i σ H' => ∃ (v4 : Option V) (us : List Str), σ = [some (.ref b), some (.int 5), some (.ref q1), some (.ref p), v4] ∧ H' p = some (.lst (us.map V.str)) ∧ us.length = i ∧ (∀ u ∈ us, (Sc.en u).ok = true) ∧
      H' q1 = some (.lst (ks.map V.str)) ∧ H' q2 = some (.lst (ns.map V.str)) ∧ Kept b H H') ⟨none, [], rfl, hp3, rfl, (fun _ h => nomatch h), e13, e2, k2.trans k3⟩ (fun i σ H' _ ⟨_, _, _, _, _, _, _, z, _⟩ => SqL.of z) ?_ ?_⟩
    · rintro i x σ H4 H4' hi ⟨v4, us, rfl, q3, q4, q5, q6, q7, q8⟩ ⟨rfl, hxi⟩
      rw [List.getElem?_map] at hxi
      rw [List.length_map] at hi
      obtain ⟨n, hn, rfl⟩ := Option.map_eq_some_iff.mp hxi
      have hnn := o2 n (List.mem_of_getElem? hn)
      refine ⟨_, rfl, Or.inl ⟨rfl, _, SqL.of q3⟩, _, rfl, _, rfl, b, 3, rfl, by decide, B.kept q8, fun z H5 z0 z1 B5 k5 => ?_⟩
      obtain ⟨j, rfl⟩ : ∃ j : Nat, z = j := ⟨z.toNat, by omega⟩
      have hj : j < ks.length := by omega
      have hkj := o1 _ (List.getElem_mem hj)
      obtain ⟨a0, a1, a2⟩ := name_to hkj
      obtain ⟨c0, c1, c2⟩ := name_to hnn
      have cl : (":" : Str).length = 1 := by decide +kernel
      refine ⟨q1, _, j, .str ks[j], rfl, rfl, SqL.of (k5.all _ _ q6 nbq.symm), atI_nat (by rw [List.getElem?_map, List.getElem?_eq_getElem hj]; rfl), _, _, rfl, rfl, by rw [cl]; omega, _, rfl, _, _, rfl, rfl, by rw [app_len, cl]; omega, ?_⟩
      refine ⟨p, _, _, rfl, rfl, k5.all _ _ q3 nbp.symm, by rw [List.length_map]; omega, ?_⟩
      refine ⟨_, us ++ [ks[j] ++ ":" ++ n], rfl, by rw [upd_same, List.map_append]; rfl, by rw [List.length_append, List.length_singleton, q4], fun u hu => ?_, (upd_ne n1p).trans (k5.all _ _ q6 nbq.symm), (upd_ne n2p).trans (k5.all _ _ q7 nbq2.symm), (q8.trans k5).upd hpH nbp⟩
      rcases List.mem_append.mp hu with w | w
      · exact q5 u w
      · rw [List.mem_singleton.mp w]
        exact uid_ok hkj hnn
    · rintro σ H4 ⟨v4, us, rfl, q3, q4, q5, q6, q7, q8⟩
      rw [List.length_map] at q4
      exact ⟨_, rfl, k H4 p us q8 hpH q3 (by omega) q5⟩
end
end N03

set_option linter.all false
set_option maxRecDepth 100000
set_option maxHeartbeats 4000000
namespace N03
open PySem PySem.Spec PyProof.Rows L2 N01 SK
abbrev sNum : Stmt := top 30
abbrev sTxt : Stmt := top 31
abbrev sSca : Stmt := top 32
def spNum : Sp := fun vs H Q _ => ∃ b : Addr, vs = [.ref b] ∧ BoxAt H b ∧ ∀ (n : Int) (H' : Hp), -1000000 ≤ n → n ≤ 1000000 → Kept b H H' → Q (.int n) H'
def spTxt : Sp := fun vs H Q _ => ∃ b : Addr, vs = [.ref b] ∧ BoxAt H b ∧ ∀ (t : Str) (H' : Hp), t.length ≤ 40 → AllC txtC t → Kept b H H' → Q (.str t) H'
def spSca : Sp := fun vs H Q _ => ∃ (b u : Addr) (us : List Str), vs = [.ref b, .ref u] ∧ BoxAt H b ∧ H u = some (.lst (us.map V.str)) ∧ u ≠ b ∧ 0 < us.length ∧ (∀ x ∈ us, (Sc.en x).ok = true) ∧
  ∀ (c : Sc) (H' : Hp) (q : Addr), c.ok = true → Kept b H H' → H' q = some (.tup c.items) → Q (.ref q) H'
structure TxtQ (mg : Str → Option Value) : Prop where
  len : mg "len" = none
  range : mg "range" = none
section
variable {P : Program} {w : World} {K : PySem.W.Frag} {mg : Str → Option Value} {base : Heap}
theorem scNu : FnScope ["box", "kind", "size"] ["box"] (defScope sNum) := ⟨rfl, rfl, rfl, by decide +kernel, rfl, by decide +kernel, by decide +kernel⟩
theorem ok_num {f : Addr} {fd : FuncData} (F : Fun K "_law_number" "_law_number" sNum f fd) (cW : Cal P w K mg base 1 "_law_draw" ["box", "many"] spDraw) : FnOk P w K mg base CX0 2 f fd ["box"] spNum := by
  refine F.ok scNu (fun vs H Q E h => ?_) (fun cdv A outer s H vs Q E hr h => ?_)
  · obtain ⟨b, rfl, _⟩ := h
    rfl
  · obtain ⟨b, rfl, B, k⟩ := h
    refine ⟨_, pss_cons (ps_set (i := 1) scNu.nd rfl (Or.inl rfl) (pe_cal cW hr (by decide) (by rfl) (pa_cons (pv 0) (pa_cons pe_int pa_nil))))
      (pss_cons (ps_if (pt_cmpR op_eq (pv 1) pe_int (nomark _)) (pss_one (ps_ret (pe_op op_sub (pe_cal cW hr (by decide) (by rfl) (pa_cons (pv 0) (pa_cons pe_int pa_nil))) pe_int))) pss_nil)
      (pss_cons (ps_if (PW.pt (pw_and (pt_cmpR op_eq (pv 1) pe_int (nomark _)) (pw_and1 (pt_cmpR op_eq (pe_cal cW hr (by decide) (by rfl) (pa_cons (pv 0) (pa_cons pe_int pa_nil))) pe_int (nomark _)))))
        (pss_one (ps_ret (pe_op op_sub (pe_op op_mul pe_int (pe_cal cW hr (by decide) (by rfl) (pa_cons (pv 0) (pa_cons pe_int pa_nil)))) pe_int))) pss_nil)
      (pss_cons (ps_set (i := 2) scNu.nd rfl (Or.inl rfl) (pe_op op_add (pe_op op_mul pe_int (pe_cal cW hr (by decide) (by rfl) (pa_cons (pv 0) (pa_cons pe_int pa_nil)))) (pe_cal cW hr (by decide) (by rfl) (pa_cons (pv 0) (pa_cons pe_int pa_nil)))))
      (pss_one (ps_ret (pe_op op_mul (pv 2) (pe_op op_sub pe_int (pe_op op_mul pe_int (pe_cal cW hr (by decide) (by rfl) (pa_cons (pv 0) (pa_cons pe_int pa_nil))))))))))), ?_⟩
    refine ⟨_, rfl, b, 4, rfl, by decide, B, fun kd H1 n0 n1 B1 k1 => ?_⟩
    -- the last road
    have last : ∀ (σ2 : Option V) (H2 : Hp), BoxAt H2 b → Kept b H H2 → (tSeq (tAsg (tOp (rI0 fun i j => V.int (i + j)) (tOp (rI CMul fun i j => V.int (i * j)) (tC (.int 1000)) (tCall spDraw [] E0 (tCons (tVar 0) (tCons (tC (.int 1000)) tNil)))) (tCall spDraw [] E0 (tCons (tVar 0) (tCons (tC (.int 1000)) tNil)))) (gName 2))
        (tRet (tOp (rI CMul fun i j => V.int (i * j)) (tVar 2) (tOp (rI0 fun i j => V.int (i - j)) (tC (.int 1)) (tOp (rI CMul fun i j => V.int (i * j)) (tC (.int 2)) (tCall spDraw [] E0 (tCons (tVar 0) (tCons (tC (.int 2)) tNil)))))))) { nx := fun _ H' => Q .non H', rt := Q } [some (.ref b), some (.int kd), σ2] H2 := by
      intro σ2 H2 B2 k2
      refine ⟨_, rfl, b, 1000, rfl, by decide, B2, fun x H3 x0 x1 B3 k3 => ?_⟩
      refine ⟨_, _, rfl, rfl, Or.inl ⟨by decide, by decide⟩, _, rfl, b, 1000, rfl, by decide, B3, fun y H4 y0 y1 B4 k4 => ?_⟩
      refine ⟨_, _, rfl, rfl, _, rfl, _, rfl, b, 2, rfl, by decide, B4, fun z H5 z0 z1 B5 k5 => ?_⟩
      have z2 : z = 0 ∨ z = 1 := by omega
      refine ⟨_, _, rfl, rfl, Or.inl ⟨by decide, by decide⟩, _, _, rfl, rfl, _, _, rfl, rfl, Or.inl ⟨by omega, by omega⟩, k _ _ ?_ ?_ (((k2.trans k3).trans k4).trans k5)⟩
      · rcases z2 with rfl | rfl <;> omega
      · rcases z2 with rfl | rfl <;> omega
    refine ⟨_, rfl, rfl, _, rfl, ite2 (fun _ => ?_) (fun _ => ?_)⟩
    · exact ⟨_, rfl, b, 5, rfl, by decide, B1, fun x H2 x0 x1 B2 k2 => ⟨_, _, rfl, rfl, k _ _ (by omega) (by omega) (k1.trans k2)⟩⟩
    · refine ⟨_, rfl, rfl, _, rfl, ite2 (fun _ => ?_) (fun _ => iteF (last _ H1 B1 k1))⟩
      refine ⟨_, rfl, b, 5, rfl, by decide, B1, fun x H2 x0 x1 B2 k2 => ⟨rfl, _, rfl, ite2 (fun _ => ?_) (fun _ => last _ H2 B2 (k1.trans k2))⟩⟩
      refine ⟨_, rfl, b, 2, rfl, by decide, B2, fun z H3 z0 z1 B3 k3 => ?_⟩
      have z2 : z = 0 ∨ z = 1 := by omega
      refine ⟨_, _, rfl, rfl, Or.inl ⟨by decide, by decide⟩, _, _, rfl, rfl, k _ _ ?_ ?_ ((k1.trans k2).trans k3)⟩
      · rcases z2 with rfl | rfl <;> omega
      · rcases z2 with rfl | rfl <;> omega
def SIG : Str := " !#$&'()*+,-./0123456789:;<=>?@ABCDEFGHIJKLMNOPQRSTUVWXYZ[\\]^_`abcdefghijklmnopqrstuvwxyz{|}~"
theorem SIG_len : SIG.cps.toList.length = 93 := by decide +kernel
theorem sig_in {n : Int} {c : Nat} (h : atI SIG.cps.toList n = some c) : txtC c = true := by
  obtain ⟨j, _, h2, _⟩ := atI_get h
  have all : ∀ c ∈ SIG.cps.toList, txtC c = true := by decide +kernel
  exact all c (List.mem_of_getElem? h2)
theorem cut_in {p : Nat → Bool} {t : Str} {lo hi : Option Int} (h : AllC p t) : AllC p (cutS t lo hi) := by
  intro c hc
  refine h c ?_
  unfold cutS at hc
  have hc' : c ∈ (t.cps.toList.drop (HT.sIx t.length 0 lo)).take (HT.sIx t.length t.length hi - HT.sIx t.length 0 lo) := by simpa using hc
  exact List.mem_of_mem_drop (List.mem_of_mem_take hc')
theorem scTx : FnScope ["box", "signs", "kind", "size", "at", "text", "turn"] ["box"] (defScope sTxt) := ⟨rfl, rfl, rfl, by decide +kernel, rfl, by decide +kernel, by decide +kernel⟩
theorem ok_txt {f : Addr} {fd : FuncData} (F : Fun K "_law_text" "_law_text" sTxt f fd) (T : TxtQ mg) (cW : Cal P w K mg base 1 "_law_draw" ["box", "many"] spDraw) : FnOk P w K mg base CX0 2 f fd ["box"] spTxt := by
  refine F.ok scTx (fun vs H Q E h => ?_) (fun cdv A outer s H vs Q E hr h => ?_)
  · obtain ⟨b, rfl, _⟩ := h
    rfl
  · obtain ⟨b, rfl, B, k⟩ := h
    have b16 : sizeLine = 16777216 := sizeLine_eq
    have sgz : SIG.length ≤ sizeLine := by decide +kernel
    refine ⟨_, pss_cons (ps_set (i := 1) scTx.nd rfl (Or.inl rfl) pe_str)
      (pss_cons (ps_set (i := 2) scTx.nd rfl (Or.inl rfl) (pe_cal cW hr (by decide) (by rfl) (pa_cons (pv 0) (pa_cons pe_int pa_nil))))
      (pss_cons (ps_if (pt_cmpR op_eq (pv 2) pe_int (nomark _)) (pss_one (ps_ret (pe_slice sl_str pe_str po_none (po_some (pe_cal cW hr (by decide) (by rfl) (pa_cons (pv 0) (pa_cons pe_int pa_nil))))))) pss_nil)
      (pss_cons (ps_set (i := 3) scTx.nd rfl (Or.inl rfl) (pe_op op_add pe_int (pe_cal cW hr (by decide) (by rfl) (pa_cons (pv 0) (pa_cons pe_int pa_nil)))))
      (pss_cons (ps_if (pt_cmpR op_eq (pv 2) pe_int (nomark _))
        (pss_cons (ps_set (i := 4) scTx.nd rfl (Or.inl rfl) (pe_cal cW hr (by decide) (by rfl) (pa_cons (pv 0) (pa_cons (pv 3) pa_nil))))
          (pss_one (ps_ret (pe_op op_add_str (pe_op op_add_str (pe_op op_mul_str pe_str (pv 4)) (pe_ix ix_str (pv 1) (pe_cal cW hr (by decide) (by rfl) (pa_cons (pv 0) (pa_cons (pe_callB call_len_str (by rfl) T.len PySem.boot_len (pa_cons (pv 1) pa_nil)) pa_nil))) (fun _ _ => rfl)))
            (pe_op op_mul_str pe_str (pe_op op_sub (pe_op op_sub (pv 3) (pv 4)) pe_int)))))) pss_nil)
      (pss_cons (ps_set (i := 5) scTx.nd rfl (Or.inl rfl) pe_str)
      (pss_cons (ps_for PassesOwn.never rfl (pi_range1 (by rfl) T.range (pa_cons (pv 3) pa_nil)) (pg_name (i := 6) scTx.nd rfl (Or.inl rfl))
        (pss_one (ps_set (i := 5) scTx.nd rfl (Or.inl rfl) (pe_op op_add_str (pv 5) (pe_ix ix_str (pv 1) (pe_cal cW hr (by decide) (by rfl) (pa_cons (pv 0) (pa_cons (pe_callB call_len_str (by rfl) T.len PySem.boot_len (pa_cons (pv 1) pa_nil)) pa_nil))) (fun _ _ => rfl))))))
      (pss_one (ps_ret (pv 5))))))))), ?_⟩
    have dl : (SIG.length : Int) = 93 := by have := SIG_len; rw [len_list] at this; omega
    have sat : ∀ {y : Int}, 0 ≤ y → y < (SIG.length : Int) → ∃ c, atI SIG.cps.toList y = some c := fun y0 y1 => atI_in y0 (by rw [len_list]; exact y1)
    refine ⟨_, rfl, b, 3, rfl, by decide, B, fun kd H1 n0 n1 B1 k1 => ?_⟩
    refine ⟨_, rfl, rfl, _, rfl, ite2 (fun _ => ?_) (fun _ => ?_)⟩
    · refine ⟨_, rfl, b, 4, rfl, by decide, B1, fun z H2 z0 z1 B2 k2 => ?_⟩
      have al : (Str.ofString "ab ").length = 3 ∧ AllC txtC (Str.ofString "ab ") := ⟨by decide +kernel, by unfold AllC; decide +kernel⟩
      have cl := cutS_length (Str.ofString "ab ") none (some z)
      exact ⟨_, rfl, _, rfl, by rw [al.1]; omega, k _ _ (by omega) (cut_in al.2) (k1.trans k2)⟩
    · refine ⟨_, rfl, b, 40, rfl, by decide, B1, fun z H2 z0 z1 B2 k2 => ?_⟩
      refine ⟨_, _, rfl, rfl, _, rfl, rfl, _, rfl, ite2 (fun _ => ?_) (fun _ => ?_)⟩
      · refine ⟨_, rfl, _, rfl, b, 1 + z, rfl, by omega, B2, fun a H3 a0 a1 B3 k3 => ?_⟩
        have kl : ("x" : Str).length = 1 := by decide +kernel
        have kx : AllC txtC "x" := by unfold AllC; decide +kernel
        have l1 : (Txt.mul "x" a).length = a.toNat := by rw [mul_len, kl, Nat.one_mul]
        have l2 : (Txt.mul "x" (1 + z - a - 1)).length = (1 + z - a - 1).toNat := by rw [mul_len, kl, Nat.one_mul]
        refine ⟨_, rfl, "x", a, rfl, rfl, by rw [kl]; decide, by omega, by omega, _, rfl, _, rfl, _, rfl, _, rfl, sgz, b, _, rfl, (by show (0 : Int) < (SIG.length : Int); rw [dl]; decide), B3, fun y H4 y0 y1 B4 k4 => ?_⟩
        obtain ⟨c, hc⟩ := sat y0 y1
        refine ⟨SIG, _, c, rfl, rfl, sgz, hc, _, _, rfl, rfl, by rw [l1, one_len]; omega, ?_⟩
        refine ⟨_, rfl, _, rfl, _, _, rfl, rfl, _, _, rfl, rfl, "x", 1 + z - a - 1, rfl, rfl, by rw [kl]; decide, by omega, by omega, _, _, rfl, rfl, by rw [app_len, l1, l2, one_len]; omega, ?_⟩
        exact k _ _ (by rw [app_len, app_len, l1, l2, one_len]; omega) (allc_app (allc_app (allc_mul _ kx) (allc_one (sig_in hc))) (allc_mul _ kx)) (((k1.trans k2).trans k3).trans k4)
      · refine ⟨_, rfl, _, rfl, by omega, by omega, for_range (lo := 0) (n := (1 + z).toNat) (fun i σ H' => ∃ (t : Str) (v4 v6 : Option V), σ = [some (.ref b), some (.str SIG), some (.int kd), some (.int (1 + z)), v4, some (.str t), v6] ∧ t.length = i ∧ AllC txtC t ∧ Kept b H H')
          ⟨Str.ofString "", none, none, rfl, by decide +kernel, (by unfold AllC; decide +kernel), k1.trans k2⟩ ?_ ?_⟩
        · rintro i σ H3 hi ⟨t, v4, v6, rfl, ht, ta, k3⟩
          refine ⟨_, rfl, _, rfl, _, rfl, _, rfl, _, rfl, sgz, b, _, rfl, (by show (0 : Int) < (SIG.length : Int); rw [dl]; decide), B.kept k3, fun y H4 y0 y1 B4 k4 => ?_⟩
          obtain ⟨c, hc⟩ := sat y0 y1
          exact ⟨SIG, _, c, rfl, rfl, sgz, hc, _, _, rfl, rfl, by rw [one_len]; omega, t ++ ⟨#[c]⟩, _, _, rfl, by rw [app_len, one_len, ht], allc_app ta (allc_one (sig_in hc)), k3.trans k4⟩
        · rintro σ H3 ⟨t, v4, v6, rfl, ht, ta, k3⟩
          exact ⟨_, rfl, k _ _ (by omega) ta k3⟩
theorem scSa : FnScope ["box", "uids", "kind"] ["box", "uids"] (defScope sSca) := ⟨rfl, rfl, rfl, by decide +kernel, rfl, by decide +kernel, by decide +kernel⟩
theorem ok_sca {f : Addr} {fd : FuncData} (F : Fun K "_law_scalar" "_law_scalar" sSca f fd) (T : TxtQ mg) (cW : Cal P w K mg base 1 "_law_draw" ["box", "many"] spDraw) (cN : Cal P w K mg base 2 "_law_number" ["box"] spNum) (cT : Cal P w K mg base 2 "_law_text" ["box"] spTxt) : FnOk P w K mg base CX0 3 f fd ["box", "uids"] spSca := by
  refine F.ok scSa (fun vs H Q E h => ?_) (fun cdv A outer s H vs Q E hr h => ?_)
  · obtain ⟨b, u, us, rfl, _⟩ := h
    rfl
  · obtain ⟨b, u, us, rfl, B, hu, nub, u0, oku, k⟩ := h
    refine ⟨_, pss_cons (ps_set (i := 2) scSa.nd rfl (Or.inl rfl) (pe_cal cW hr (by decide) (by rfl) (pa_cons (pv 0) (pa_cons pe_int pa_nil))))
      (pss_cons (ps_if (pt_cmpR op_eq (pv 2) pe_int (nomark _)) (pss_one (ps_ret (pe_tup (pa_cons pe_str (pa_cons (pe_cmpR op_eq (pe_cal cW hr (by decide) (by rfl) (pa_cons (pv 0) (pa_cons pe_int pa_nil))) pe_int (nomark _)) pa_nil))))) pss_nil)
      (pss_cons (ps_if (pt_cmpR op_le (pv 2) pe_int (nomark _)) (pss_one (ps_ret (pe_tup (pa_cons pe_str (pa_cons (pe_cal cN hr (by decide) (by rfl) (pa_cons (pv 0) pa_nil)) pa_nil))))) pss_nil)
      (pss_cons (ps_if (pt_cmpR op_eq (pv 2) pe_int (nomark _)) (pss_one (ps_ret (pe_tup (pa_cons pe_str (pa_cons (pe_cal cT hr (by decide) (by rfl) (pa_cons (pv 0) pa_nil)) pa_nil))))) pss_nil)
      (pss_one (ps_ret (pe_tup (pa_cons pe_str (pa_cons (pe_ix ix_list (pv 1) (pe_cal cW hr (by decide) (by rfl) (pa_cons (pv 0) (pa_cons (pe_callB call_len_seq (by rfl) T.len PySem.boot_len (pa_cons (pv 1) pa_nil)) pa_nil))) (fun _ _ => rfl)) pa_nil)))))))), ?_⟩
    have z2 : (2 : Nat) ≤ sizeLine := by decide
    -- a new pair
    have fin : ∀ (c : Sc) (H2 : Hp), c.ok = true → Kept b H H2 → [V.str c.kind, c.val].length ≤ sizeLine ∧ ∀ p, H2 p = none → Q (.ref p) (upd H2 p (.tup [.str c.kind, c.val])) := fun c H2 o k2 => ⟨z2, fun p hp => k c _ p o (k2.new hp) upd_same⟩
    refine ⟨_, rfl, b, 6, rfl, by decide, B, fun kd H1 n0 n1 B1 k1 => ?_⟩
    refine ⟨_, rfl, rfl, _, rfl, ite2 (fun _ => ?_) (fun _ => ?_)⟩
    · exact ⟨_, rfl, b, 2, rfl, by decide, B1, fun z H2 z0 z1 B2 k2 => ⟨rfl, fin (.tr (decide (V.int z = V.int 1))) H2 rfl (k1.trans k2)⟩⟩
    refine ⟨_, rfl, _, _, rfl, rfl, _, rfl, ite2 (fun _ => ?_) (fun _ => ?_)⟩
    · refine ⟨_, rfl, b, rfl, B1, fun n H2 g0 g1 k2 => fin (.nu n) H2 ?_ (k1.trans k2)⟩
      show (decide (-1000000 ≤ n) && decide (n ≤ 1000000)) = true
      rw [decide_eq_true g0, decide_eq_true g1]
      rfl
    refine ⟨_, rfl, rfl, _, rfl, ite2 (fun _ => ?_) (fun _ => ?_)⟩
    · refine ⟨_, rfl, b, rfl, B1, fun t H2 g0 g1 k2 => fin (.te t) H2 ?_ (k1.trans k2)⟩
      show (decide (t.length ≤ 40) && t.cps.toList.all txtC) = true
      rw [decide_eq_true g0, Bool.true_and]
      exact List.all_eq_true.mpr g1
    · have hu1 := k1.all _ _ hu nub
      refine ⟨_, rfl, _, rfl, _, rfl, u, _, rfl, .inl (SqL.of hu1), b, _, rfl, by rw [List.length_map]; omega, B1, fun z H2 z0 z1 B2 k2 => ?_⟩
      rw [List.length_map] at z1
      obtain ⟨j, rfl⟩ : ∃ j : Nat, z = j := ⟨z.toNat, by omega⟩
      have hj : j < us.length := by omega
      exact ⟨u, _, j, .str us[j], rfl, rfl, SqL.of (k2.all _ _ hu1 nub), atI_nat (by rw [List.getElem?_map, List.getElem?_eq_getElem hj]; rfl), fin (.en us[j]) H2 (oku _ (List.getElem_mem hj)) (k1.trans k2)⟩
end
end N03

set_option linter.all false
set_option maxRecDepth 100000
set_option maxHeartbeats 4000000
namespace N03
open PySem PySem.Spec PyProof.Rows L2 N01 SK
abbrev sKey : Stmt := top 33
abbrev sSet : Stmt := top 34
def spSet (K : PySem.W.Frag) : Sp := fun vs H Q _ => ∃ (l : Addr) (cs : List Sc), vs = [.ref l, .int 10] ∧ ScsAt K H l cs ∧ (∀ c ∈ cs, c.ok = true) ∧ cs.length ≤ 9 ∧
  ∀ (H' : Hp) (p q : Addr) (us : List V), Same H H' → H' p = some (.tup [.str "set", .ref q]) → H' q = some (.tup us) → Paired (ScAt H') us (canS cs) → Q (.ref p) H'
structure TxtK (mg : Str → Option Value) : Prop where
  len : mg "len" = none
  sorted : mg "sorted" = none
  tuple : mg "tuple" = none
section
variable {P : Program} {w : World} {K : PySem.W.Frag} {mg : Str → Option Value} {base : Heap} {C fI : Addr}
theorem scKy : FnScope ["scalar"] ["scalar"] (defScope sKey) := ⟨rfl, rfl, rfl, by decide +kernel, rfl, by decide +kernel, by decide +kernel⟩
theorem kinds_eqv (c : Sc) : ∀ (m : Nat) (z : V), m < c.rank → (KINDS.map V.str)[m]? = some z → eqV z (.str c.kind) = false := by
  intro m z hm hz
  rw [List.getElem?_map] at hz
  obtain ⟨s, hs, rfl⟩ := Option.map_eq_some_iff.mp hz
  have n := (kinds_at c).2 m hm
  show (s == c.kind) = false
  rw [beq_eq_false_iff_ne]
  intro e
  rw [e] at hs
  exact n hs
theorem ok_key {f : Addr} {fd : FuncData} (F : Fun K "_law_key" "_law_key" sKey f fd) : FnOk P w K mg base CX0 1 f fd ["scalar"] spPlace := by
  refine F.ok scKy (fun vs H Q E h => ?_) (fun cdv A outer s H vs Q E hr h => ?_)
  · obtain ⟨x, c, rfl, _⟩ := h
    rfl
  · obtain ⟨x, c, rfl, ⟨p, rfl, hp⟩, k⟩ := h
    refine ⟨_, pss_one (ps_ret (pe_tup (pa_cons (pe_bm PySem.F.plainAttrs_list PySem.F.slot_list_index PySem.F.type_list_index mt_index (pe_lst (pa_cons pe_str (pa_cons pe_str (pa_cons pe_str (pa_cons pe_str pa_nil))))) (pa_cons (pe_ix ix_tup (pv 0) pe_int (fun _ _ => rfl)) pa_nil))
      (pa_cons (pe_ix ix_tup (pv 0) pe_int (fun _ _ => rfl)) pa_nil)))), ?_⟩
    refine ⟨(by show 4 ≤ sizeLine; decide), fun l hl => ⟨Or.inl ⟨rfl, _, SqL.of upd_same⟩, ?_⟩⟩
    have hp1 : (upd H l (.lst [.str "truth", .str "number", .str "text", .str "entity"])) p = some (.tup c.items) := (upd_ne (ne_of_none hp hl)).trans hp
    refine ⟨_, rfl, p, _, 0, _, rfl, rfl, SqT.of hp1, atI_nat (j := 0) rfl, ?_⟩
    refine ⟨l, KINDS.map V.str, .str c.kind, c.rank, .str c.kind, rfl, rfl, SqL.of upd_same, rfl, rfl, ?_, ?_, kinds_eqv c, ?_⟩
    · rw [List.getElem?_map, (kinds_at c).1]
      rfl
    · show (c.kind == c.kind) = true
      exact beq_self_eq_true _
    · refine ⟨_, rfl, p, _, 1, c.val, rfl, rfl, SqT.of hp1, atI_nat (j := 1) rfl, (by show 2 ≤ sizeLine; decide), fun q hq => k _ q (fun b u e => ?_) upd_same⟩
      have h1 : (upd H l (.lst [.str "truth", .str "number", .str "text", .str "entity"])) b = some u := (upd_ne (ne_of_none e hl)).trans e
      exact (upd_ne (ne_of_none h1 hq)).trans h1
theorem lay_all {cs : List Sc} (h : ∀ c ∈ cs, c.ok = true) : PyData.canLayAll0 (cs.map Sc.dat) = true ∧ PyData.depthAll (cs.map Sc.dat) ≤ 1 := by
  induction cs with
  | nil => exact ⟨rfl, Nat.zero_le _⟩
  | cons c cs ih =>
    obtain ⟨h1, h2⟩ := ih fun d hd => h d (List.mem_cons_of_mem _ hd)
    refine ⟨?_, ?_⟩
    · rw [List.map_cons, PyData.canLayAll0, sc_lay (h c List.mem_cons_self), h1]
      rfl
    · rw [List.map_cons, PyData.depthAll]
      have : c.dat.depth = 1 := by cases c <;> rfl
      omega
theorem list_shaped {cs : List Sc} (h : ∀ c ∈ cs, c.ok = true) : SeqAt.shaped (.list (cs.map Sc.dat)) = true := by
  obtain ⟨h1, h2⟩ := lay_all h
  unfold SeqAt.shaped
  rw [PyData.canLay0, h1, PyData.depth, decide_eq_true (by omega)]
  rfl
theorem any_dat (cs : List Sc) (c : Sc) : ((cs.map Sc.dat).any fun z => PyData.eqv z c.dat) = decide (c ∈ cs) := by
  rw [List.any_map]
  by_cases h : c ∈ cs
  · rw [decide_eq_true h]
    refine List.any_eq_true.mpr ⟨c, h, ?_⟩
    show PyData.eqv c.dat c.dat = true
    rw [dat_eqv, decide_eq_true rfl]
  · rw [decide_eq_false h]
    refine List.any_eq_false.mpr fun x hx => ?_
    show ¬ PyData.eqv x.dat c.dat = true
    rw [dat_eqv]
    intro z
    exact h ((of_decide_eq_true z) ▸ hx)
theorem nb_sub : ∀ (l acc : List Sc) {x : Sc}, x ∈ l.foldl nbS acc → x ∈ acc ∨ x ∈ l
  | [], acc, x, h => .inl h
  | c :: l, acc, x, h => by
    rw [List.foldl_cons] at h
    rcases nb_sub l _ h with z | z
    · unfold nbS at z
      split at z
      · exact .inl z
      · rcases List.mem_append.mp z with y | y
        · exact .inl y
        · exact .inr (by rw [List.mem_singleton.mp y]; exact List.mem_cons_self)
    · exact .inr (List.mem_cons_of_mem _ z)
theorem nb_len : ∀ (l acc : List Sc), (l.foldl nbS acc).length ≤ acc.length + l.length
  | [], acc => by simp
  | c :: l, acc => by
    rw [List.foldl_cons]
    refine Nat.le_trans (nb_len l _) ?_
    have : (nbS acc c).length ≤ acc.length + 1 := by
      unfold nbS
      split
      · omega
      · simp
    rw [List.length_cons]
    omega
theorem nb_in {acc : List Sc} {c : Sc} (h : c ∈ acc) : nbS acc c = acc := if_pos h
theorem nb_out {acc : List Sc} {c : Sc} (h : ¬ c ∈ acc) : nbS acc c = acc ++ [c] := if_neg h
theorem scSe : FnScope ["scalars", "most", "rows", "scalar"] ["scalars", "most"] (defScope sSet) := ⟨rfl, rfl, rfl, by decide +kernel, rfl, by decide +kernel, by decide +kernel⟩
theorem ok_set {f : Addr} {fd : FuncData} (F : Fun K "_law_set" "_law_set" sSet f fd) (T : TxtK mg) (cK : Cal P w K mg base 1 "_law_key" ["scalar"] spPlace) : FnOk P w K mg base CX0 4 f fd ["scalars", "most"] (spSet K) := by
  obtain ⟨q, fdq, Fq, bq, mq, kq⟩ := cK.ex
  have Fr := Fq.raw bq .nil
  refine F.ok scSe (fun vs H Q E h => ?_) (fun cdv A outer s H vs Q E hr h => ?_)
  · obtain ⟨l, cs, rfl, _⟩ := h
    rfl
  · obtain ⟨l, cs, rfl, ⟨xs, hl, hx⟩, ok, hz, k⟩ := h
    have SB : ∀ ds, Coh ds → Srtb P w (A.deeper (envOfC "_law_set" (defScope sSet) s.heap.objs.size f cdv)).in1.in1 ds := fun ds C => Srtb.coh C (by
      have := hr.units
      show (A.deeper _).units + 1 + 1 + 2 < cLine
      omega)
    have hu65 : (A.deeper (envOfC "_law_set" (defScope sSet) s.heap.objs.size f cdv)).units + 65 < cLine := by
      have := hr.un
      omega
    have b16 : sizeLine = 16777216 := sizeLine_eq
    refine ⟨_, pss_cons (ps_set (i := 2) scSe.nd rfl (Or.inl rfl) (pe_lst pa_nil))
      (pss_cons (ps_for PassesOwn.never rfl (pi_list (pv 0)) (pg_name (i := 3) scSe.nd rfl (Or.inl rfl))
        (pss_one (ps_if (PW.pt (pw_and (pt_cmpR (op_notInD hu65) (pv 3) (pv 2) (by with_unfolding_all rfl)) (pw_and1 (pt_cmpR op_lt (pe_callB call_len_seq (by rfl) T.len PySem.boot_len (pa_cons (pv 2) pa_nil)) (pv 1) (nomark _))))) (pss_one (ps_expr (pe_bm PySem.F.plainAttrs_list PySem.F.slot_list_append PySem.F.type_list_append mt_append (pv 2) (pa_cons (pv 3) pa_nil)))) pss_nil)))
      (pss_one (ps_ret (pe_tup (pa_cons pe_str (pa_cons (pe_callTy call_tuple_of (by rfl) T.tuple (by decide +kernel) (pa_cons
        (pe_callBK (cr_sortF (Sb := Coh) Fr (fun _ _ _ _ _ _ z => z) (hr.mono (by decide)) SB) (by rfl) T.sorted (by decide +kernel) (pa_cons (pv 2) pa_nil) (pk_cons (pe_glob (v := .ref q) rfl mq rfl) pk_nil)) pa_nil)) pa_nil)))))), ?_⟩
    have hxl := scs_len hx
    refine ⟨Nat.zero_le _, fun p hp => ?_⟩
    have s1 : Same H (upd H p (.lst [])) := fun b o e => (upd_ne (ne_of_none e hp)).trans e
    have up1 : ∀ {H' : Hp} {o : HO}, Same H H' → Same H (upd H' p o) := fun s b u e => (upd_ne (ne_of_none e hp)).trans (s b u e)
    refine ⟨_, rfl, l, rfl, ⟨xs, s1.seq hl⟩, for_it (walk_list (xs := xs)) (fun i σ H' => ∃ (v3 : Option V) (us : List V), σ = [some (.ref l), some (.int 10), some (.ref p), v3] ∧ H' p = some (.lst us) ∧ Paired (ScAt H') us ((cs.take i).foldl nbS []) ∧ Same H H')
      ⟨none, [], rfl, upd_same, .nil, s1⟩ (fun i σ H' _ ⟨_, _, _, _, _, z⟩ => z.seq hl) ?_ ?_⟩
    · rintro i x σ H3 H3' hi ⟨v3, us, rfl, q1, q2, q3⟩ ⟨rfl, hxi⟩
      obtain ⟨c, hc, hxc⟩ := paired_get hx hxi
      have hcm : c ∈ cs := List.mem_of_getElem? hc
      have htk : (cs.take (i + 1)).foldl nbS [] = nbS ((cs.take i).foldl nbS []) c := by
        rw [List.take_add_one, hc, List.foldl_append]
        rfl
      have okm : ∀ d ∈ (cs.take i).foldl nbS [], d.ok = true := fun d hd => by
        rcases nb_sub _ _ hd with z | z
        · cases z
        · exact ok d (List.mem_of_mem_take z)
      have hul := q2.length
      have hnl := nb_len (cs.take i) []
      have htl : (cs.take i).length ≤ cs.length := by rw [List.length_take]; omega
      have hul2 : us.length ≤ 9 := by
        simp only [List.length_nil] at hnl
        omega
      have hxc3 := hxc.same q3
      refine ⟨_, rfl, _, rfl, c.dat, ((cs.take i).foldl nbS []).map Sc.dat, hxc3.dp, .lst (SqL.of q1) (dp_all q2), sc_shaped (ok c hcm), list_shaped okm, _, rfl, ?_⟩
      rw [any_dat]
      by_cases m : c ∈ (cs.take i).foldl nbS []
      · rw [decide_eq_true m]
        refine iteF (iteF ⟨_, us, rfl, q1, ?_, q3⟩)
        rw [htk, nb_in m]
        exact q2
      · rw [decide_eq_false m]
        refine iteT ⟨_, rfl, p, us, rfl, .inl (SqL.of q1), _, rfl, _, _, rfl, rfl, _, rfl, ?_⟩
        rw [decide_eq_true (show (us.length : Int) < 10 by omega)]
        refine iteT ⟨_, rfl, Or.inl ⟨rfl, _, SqL.of q1⟩, _, rfl, p, _, x, rfl, rfl, q1, by omega, ?_⟩
        have up : ∀ {v : V} {d : Sc}, ScAt H3' v d → ScAt (upd H3' p (.lst (us ++ [x]))) v d := fun ⟨a, ea, z⟩ => ⟨a, ea, (upd_ne (fun w => by rw [w, q1] at z; cases z)).trans z⟩
        refine ⟨_, _, rfl, upd_same, ?_, up1 q3⟩
        rw [htk, nb_out m]
        exact snoc_vals (up hxc3) (Paired.imp2 (fun _ _ => up) q2)
    · rintro σ H3 ⟨v3, us, rfl, q1, q2, q3⟩
      rw [List.take_of_length_le (by omega)] at q2
      have hul := q2.length
      refine ⟨_, rfl, p, us, (cs.foldl nbS []).map Sc.key, rfl, rfl, SqL.of q1, ⟨by rw [List.length_map, hul], fun i x d hxi hdi H' s2 => ?_⟩, coh _, fun r H4 s4 hr4 => ?_⟩
      · obtain ⟨c, hc, hxc⟩ := paired_get q2 hxi
        rw [List.getElem?_map, hc] at hdi
        cases hdi
        exact ⟨E0, x, c, rfl, hxc.same s2, fun H'' z s3 hz => ⟨s3, key_at hz⟩⟩
      · have hx4 : Paired (ScAt H4) (sortK false us ((cs.foldl nbS []).map Sc.key)) (canS cs) := sort_at (scs_same q2 s4)
        refine ⟨r, _, rfl, .inl ⟨SqL.of upd_same, fun t ht => ⟨(by show 2 ≤ sizeLine; decide), fun u hu => ?_⟩⟩⟩
        have a1 : Same H4 (upd H4 r (.lst (sortK false us ((cs.foldl nbS []).map Sc.key)))) := fun b o z => (upd_ne (ne_of_none z hr4)).trans z
        have a2 : Same (upd H4 r (.lst (sortK false us ((cs.foldl nbS []).map Sc.key)))) (upd (upd H4 r (.lst (sortK false us ((cs.foldl nbS []).map Sc.key)))) t (.tup (sortK false us ((cs.foldl nbS []).map Sc.key)))) := fun b o z => (upd_ne (ne_of_none z ht)).trans z
        have a3 : ∀ o, Same (upd (upd H4 r (.lst (sortK false us ((cs.foldl nbS []).map Sc.key)))) t (.tup (sortK false us ((cs.foldl nbS []).map Sc.key)))) (upd (upd (upd H4 r (.lst (sortK false us ((cs.foldl nbS []).map Sc.key)))) t (.tup (sortK false us ((cs.foldl nbS []).map Sc.key)))) u o) := fun o b v z => (upd_ne (ne_of_none z hu)).trans z
        exact k _ u t _ (((q3.trans s4).trans a1).trans (a2.trans (a3 _))) upd_same (a3 _ _ _ upd_same) (scs_same hx4 (a1.trans (a2.trans (a3 _))))
end
end N03

set_option linter.all false
set_option maxRecDepth 100000
set_option maxHeartbeats 4000000
namespace N03
open PySem PySem.Spec PyProof.Rows L2 N01 SK RZ
abbrev sItems : Stmt := top 19
abbrev sValue : Stmt := top 20
abbrev sCheck : Stmt := top 21
theorem walk_zipT {K : PySem.W.Frag} {a b : Addr} {xs ys : List V} {n : Nat} (hn : n = min xs.length ys.length) : Walk (ItzT K a b) n (fun H => SqT K H a xs ∧ SqT K H b ys) (YPair (fun i => xs[i]?) (fun i => ys[i]?)) := by
  subst hn
  refine ⟨fun i G hi z => ⟨xs, ys, xs[i]'(by omega), ys[i]'(by omega), z.1, z.2, List.getElem?_eq_getElem (by omega), List.getElem?_eq_getElem (by omega)⟩, fun G z => ⟨xs, ys, z.1, z.2, by omega⟩, fun i G v G' _ z y => ?_⟩
  obtain ⟨T, x, u, e1, e2, e3, e4, e5⟩ := y
  exact ⟨T, x, u, e1, e2, e3, e4 xs z.1, e5 ys z.2⟩
/-! ### neighbours -/
def adjB : List Sc → List Bool
  | a :: b :: r => PySem.W.dataLt a.key b.key :: adjB (b :: r)
  | [_] => []
  | [] => []
theorem adj_len : ∀ cs : List Sc, (adjB cs).length = cs.length - 1
  | [] => rfl
  | [_] => rfl
  | a :: b :: r => by
    rw [adjB, List.length_cons, adj_len (b :: r)]
    simp
theorem adj_get : ∀ (cs : List Sc) (i : Nat) (c d : Sc), cs[i]? = some c → cs[i + 1]? = some d → (adjB cs)[i]? = some (PySem.W.dataLt c.key d.key)
  | [], i, c, d, h, _ => by simp at h
  | [a], i, c, d, h, g => by simp at g
  | a :: b :: r, 0, c, d, h, g => by
    simp at h g
    subst h g
    rfl
  | a :: b :: r, i + 1, c, d, h, g => by
    have z := adj_get (b :: r) i c d (by simpa using h) (by simpa using g)
    rw [adjB]
    simpa using z
def setOk (its : List (Option Sc)) : Bool := decide (its.length ≤ 8) && (its.all itOk && (adjB (its.filterMap id)).all id)
inductive Vl where
  | sc (c : Sc)
  | st (its : List (Option Sc))
def ValAt (K : PySem.W.Frag) (H : Hp) (v : V) : Vl → Prop
  | .sc c => ScAt H v c ∧ c.clb = true
  | .st its => ∃ p q xs, v = .ref p ∧ H p = some (.tup [.str "set", .ref q]) ∧ SqT K H q xs ∧ Paired (ItAt K H) xs its ∧ xs.length ≤ 20
def valOk : Vl → Bool
  | .sc c => c.okp
  | .st its => setOk its
theorem its_same {K : PySem.W.Frag} {H H' : Hp} {xs : List V} {its : List (Option Sc)} (h : Paired (ItAt K H) xs its) (s : Same H H') : Paired (ItAt K H') xs its := Paired.imp2 (fun _ _ q => q.same s) h
theorem ValAt.same {K : PySem.W.Frag} {H H' : Hp} {v : V} {vl : Vl} (h : ValAt K H v vl) (s : Same H H') : ValAt K H' v vl := by
  cases vl with
  | sc c => exact ⟨h.1.same s, h.2⟩
  | st its =>
    obtain ⟨p, q, xs, e, h1, h2, h3, h4⟩ := h
    exact ⟨p, q, xs, e, s _ _ h1, tup_same s h2, its_same h3 s, h4⟩
/-- where all are scalars, the items are scalars -/
theorem all_some {K : PySem.W.Frag} {H : Hp} : ∀ {xs : List V} {its : List (Option Sc)}, Paired (ItAt K H) xs its → its.all itOk = true → Paired (ScAt H) xs (its.filterMap id) ∧ its = (its.filterMap id).map some
  | _, _, .nil, _ => ⟨.nil, rfl⟩
  | x :: xs, it :: its, .cons h t, g => by
    rw [List.all_cons, Bool.and_eq_true] at g
    obtain ⟨z1, z2⟩ := all_some t g.2
    cases it with
    | none => exact absurd g.1 (by decide)
    | some c => exact ⟨.cons h.1 z1, congrArg (some c :: ·) z2⟩
def spItems (K : PySem.W.Frag) : Sp := fun vs H Q _ => ∃ (q : Addr) (xs : List V) (its : List (Option Sc)), vs = [.ref q] ∧ SqT K H q xs ∧ Paired (ItAt K H) xs its ∧ xs.length ≤ 20 ∧ ∀ H', Same H H' → Q (.bl (setOk its)) H'
def spValue (K : PySem.W.Frag) : Sp := fun vs H Q _ => ∃ (x : V) (vl : Vl), vs = [x] ∧ ValAt K H x vl ∧ ∀ H', Same H H' → Q (.bl (valOk vl)) H'
def spCheckV (K : PySem.W.Frag) (C : Addr) : Sp := fun vs H Q E => ∃ (x : V) (vl : Vl) (w : Str), vs = [x, .str w] ∧ ValAt K H x vl ∧ w.length ≤ 1000 ∧ (valOk vl = true → ∀ H', Same H H' → Q .non H') ∧
  (valOk vl = false → ∀ H' d, Same H H' → H' d = some (.xd [(("name" : Str), .str w)]) → E (.ref C) (some d) H')
structure TxtI (mg : Str → Option Value) : Prop where
  len : mg "len" = none
  all : mg "all" = none
  zip : mg "zip" = none
  sm : ∃ t, mg "SET_MOST" = some (.int 8 t)
section
variable {P : Program} {w : World} {K : PySem.W.Frag} {mg : Str → Option Value} {base : Heap} {C fI : Addr}
theorem scIt : FnScope ["scalars", "scalar", "one", "two"] ["scalars"] (defScope sItems) := ⟨rfl, rfl, rfl, by decide +kernel, rfl, by decide +kernel, by decide +kernel⟩
theorem ok_items {f : Addr} {fd : FuncData} (F : Fun K "are_items" "are_items" sItems f fd) (T : TxtI mg) (cS : Cal P w K mg base 3 "is_scalar" ["value"] (spScalarK K)) (cB : Cal P w K mg base 2 "scalar_before" ["one", "two"] spBefore) : FnOk P w K mg base CX0 4 f fd ["scalars"] (spItems K) := by
  refine F.ok scIt (fun vs H Q E h => ?_) (fun cdv A outer s H vs Q E hr h => ?_)
  · obtain ⟨q, xs, its, rfl, _⟩ := h
    rfl
  · obtain ⟨q, xs, its, rfl, hq, hx, hz, k⟩ := h
    obtain ⟨t8, h8⟩ := T.sm
    have b16 : sizeLine = 16777216 := sizeLine_eq
    have hxl := hx.length
    refine ⟨_, pss_cons (ps_if (PW.pt (pw_or (pt_cmpR op_gt (pe_callB call_len_seq (by rfl) T.len PySem.boot_len (pa_cons (pv 0) pa_nil)) (pe_glob (v := .int 8) rfl h8 ⟨_, rfl⟩) (nomark _)) (pw_or1 (pt_not (pt_val (pe_callB (cr_all rfl) (by rfl) T.all (by decide +kernel) (pa_cons
        (pe_lc (own := [("scalar", 1)]) (g := gName 1) (tt := tYes) rfl scIt.nd (pi_tup (pv 0)) (blkOk_by (N := ["scalars", "scalar", "one", "two"]) (sc := defScope sItems) (by decide +kernel)) (fun _ _ _ _ _ => pg_name (i := 1) scIt.nd rfl (Or.inl rfl)) (fun _ _ _ _ _ => pts_nil)
          (fun _ _ _ _ _ => pe_cal cS hr (by decide) (by rfl) (pa_cons (pv 1) pa_nil))) pa_nil))))))) (pss_one (ps_ret pe_bl)) pss_nil)
      (pss_one (ps_ret (pe_callB (cr_all rfl) (by rfl) T.all (by decide +kernel) (pa_cons
        (pe_lc (own := [("one", 2), ("two", 3)]) (g := gTup K 2 (gCons (gName 2) (gCons (gName 3) gNil))) (tt := tYes) rfl scIt.nd (pi_zipA (by rfl) T.zip (pa_cons (pv 0) (pa_cons (pe_slice sl_tupA (pv 0) (po_some pe_int) po_none) pa_nil))) (blkOk_by (N := ["scalars", "scalar", "one", "two"]) (sc := defScope sItems) (by decide +kernel))
          (fun _ _ _ _ _ => pg_tup rfl (pgs_cons (pg_name (i := 2) scIt.nd rfl (Or.inl rfl)) (pgs_cons (pg_name (i := 3) scIt.nd rfl (Or.inl rfl)) pgs_nil))) (fun _ _ _ _ _ => pts_nil)
          (fun _ _ _ _ _ => pe_cal cB hr (by decide) (by rfl) (pa_cons (pv 2) (pa_cons (pv 3) pa_nil)))) pa_nil)))), ?_⟩
    have kk : ∀ b H', Same H H' → setOk its = b → Q (.bl b) H' := fun b H' s e => e ▸ k H' s
    refine ⟨_, rfl, q, xs, rfl, .inr hq, _, _, rfl, rfl, _, rfl, ?_⟩
    by_cases h9 : its.length ≤ 8
    · rw [decide_eq_false (show ¬ (8 : Int) < (xs.length : Int) by omega)]
      refine iteF ⟨_, rfl, q, rfl, ⟨xs, hq⟩, fun D hD => lc_it (walk_tup (xs := xs)) (fun i H' => H' D = some (.lst (((its.take i).map itOk).map V.bl)) ∧ Same H H')
        ⟨upd_same, fun b o e => (upd_ne (ne_of_none e hD)).trans e⟩ (fun i H' _ p => tup_same p.2 hq) ?_ ?_⟩
      · rintro i x H1 H1' hi ⟨p1, p2⟩ ⟨rfl, hxi⟩
        obtain ⟨it, hc, hxc⟩ := paired_get hx hxi
        refine ⟨rfl, _, rfl, x, it, rfl, hxc.same p2, fun H2 s2 => ?_⟩
        refine ⟨_, s2 _ _ p1, ?_, ?_, fun b o e => (upd_ne (ne_of_none e hD)).trans (s2 _ _ (p2 b o e))⟩
        · rw [List.length_map, List.length_map, List.length_take]
          omega
        · rw [upd_same, List.take_add_one, hc, List.map_append, List.map_append] <;> rfl
      · rintro H1 ⟨p1, p2⟩
        rw [List.take_of_length_le (by omega)] at p1
        refine ⟨D, its.map itOk, rfl, SqL.of p1, _, rfl, ?_⟩
        have ea : (its.map itOk).all id = its.all itOk := by rw [List.all_map]; rfl
        rw [ea]
        cases hall : its.all itOk with
        | false =>
          refine iteT (kk _ H1 p2 ?_)
          unfold setOk
          rw [hall, Bool.false_and, Bool.and_false]
        | true =>
          obtain ⟨hs, his⟩ := all_some hx hall
          have hsl := hs.length
          refine iteF ?_
          -- the zip
          have zipped : ∀ (H2 : Hp) (b : Addr), Same H H2 → SqT K H2 q xs → SqT K H2 b (xs.drop 1) → (fun J H3 => ∀ D, H3 D = none → ∃ W : Nat → Nat → Hp → Prop, (∃ m, W 0 m (upd H3 D (.lst []))) ∧ ∀ i m H, W i m H →
              (J.stop i H ∧ (∃ (a : Addr) (bs : List Bool), [V.ref D] = [V.ref a] ∧ SqL K H a (bs.map V.bl) ∧ Q (.bl (bs.all id)) H)) ∨ (J.go i H ∧ ∃ Nx : Hp → Prop, (∀ H', Nx H' → ∃ m', m' < m ∧ W (i + 1) m' H') ∧ ∀ x H', J.yld i H x H' → gTup K 2 (gCons (gName 2) (gCons (gName 3) gNil)) x (wipe [some (.ref q), none, none, none] [2, 3]) H' fun σ2 H2 => wipe σ2 [2, 3] = wipe [some (.ref q), none, none, none] [2, 3] ∧ tYes σ2 H2 fun b H3 =>
                if b = true then tCall spBefore [] E0 (tCons (tVar 2) (tCons (tVar 3) tNil)) σ2 H3 fun y H4 => ∃ acc, H4 D = some (.lst acc) ∧ acc.length < sizeLine ∧ Nx (upd H4 D (.lst (acc ++ [y]))) else Nx H3)) (ItzT K q b) H2 := by
            intro H2 b s2 hq2 hb2 D2 hD2
            refine lc_it (walk_zipT (n := (its.filterMap id).length - 1) (xs := xs) (ys := xs.drop 1) (by rw [List.length_drop]; omega)) (fun i H' => H' D2 = some (.lst (((adjB (its.filterMap id)).take i).map V.bl)) ∧ Same H2 H')
              ⟨upd_same, fun b o e => (upd_ne (ne_of_none e hD2)).trans e⟩ (fun i H' _ p => ⟨tup_same p.2 hq2, tup_same p.2 hb2⟩) ?_ ?_
            · rintro i x H4 H4' hi ⟨p3, p4⟩ ⟨Tp, y1, y2, rfl, hT, rfl, g1, g2⟩
              have g2 : (xs.drop 1)[i]? = some y2 := g2
              rw [List.getElem?_drop, Nat.add_comm] at g2
              have sT : Same H4 (upd H4 Tp (.tup [y1, y2])) := fun b o e => (upd_ne (ne_of_none e hT)).trans e
              obtain ⟨c1, hc1, a1⟩ := paired_get hs g1
              obtain ⟨c2, hc2, a2⟩ := paired_get hs g2
              refine ⟨Tp, _, rfl, SqT.of upd_same, rfl, _, _, rfl, _, _, rfl, rfl, rfl, ?_⟩
              refine ⟨_, rfl, _, rfl, y1, y2, c1, c2, rfl, ((a1.same s2).same p4).same sT, ((a2.same s2).same p4).same sT, fun H5 s5 => ?_⟩
              refine ⟨_, s5 _ _ (sT _ _ p3), ?_, ?_, fun b o e => (upd_ne (ne_of_none e hD2)).trans (s5 _ _ (sT _ _ (p4 b o e)))⟩
              · rw [List.length_map, List.length_take]
                have := adj_len (its.filterMap id)
                omega
              · rw [upd_same, List.take_add_one, adj_get _ _ _ _ hc1 hc2, List.map_append] <;> rfl
            · rintro H4 ⟨p3, p4⟩
              rw [List.take_of_length_le (by rw [adj_len]; exact Nat.le_refl _)] at p3
              refine ⟨D2, adjB (its.filterMap id), rfl, SqL.of p3, kk _ H4 (s2.trans p4) ?_⟩
              unfold setOk
              rw [hall, decide_eq_true h9, Bool.true_and, Bool.true_and]
          have hq1 := tup_same p2 hq
          have cut1 : cutV xs (some 1) none = xs.drop 1 := by
            unfold cutV
            have e1 : HT.sIx xs.length 0 (some (1 : Int)) = min 1 xs.length := HT.sIx_nat xs.length 0 1
            rw [e1, HT.sIx_none]
            rcases Nat.eq_zero_or_pos xs.length with z | z
            · have : xs = [] := List.length_eq_zero_iff.mp z
              subst this
              rfl
            · rw [Nat.min_eq_left z, List.take_of_length_le (by simp)]
          refine ⟨_, rfl, _, rfl, 1, rfl, q, xs, rfl, hq1, fun hw => ?_, fun hw p hp => ?_⟩
          · have e0 : xs = [] := by
              have e1 : HT.sIx xs.length 0 (some (1 : Int)) = min 1 xs.length := HT.sIx_nat xs.length 0 1
              rw [e1] at hw
              exact List.length_eq_zero_iff.mp (by omega)
            refine ⟨q, q, xs, xs.drop 1, rfl, .inr ⟨hq1, by rw [e0] at hq1 ⊢; exact hq1, ?_⟩⟩
            exact zipped H1 q p2 hq1 (by rw [e0] at hq1 ⊢; exact hq1)
          · have sP : ∀ o, Same H1 (upd H1 p o) := fun o b u e => (upd_ne (ne_of_none e hp)).trans e
            rw [cut1]
            exact ⟨q, p, xs, xs.drop 1, rfl, .inr ⟨tup_same (sP _) hq1, SqT.of upd_same, zipped _ p (p2.trans (sP _)) (tup_same (sP _) hq1) (SqT.of upd_same)⟩⟩
    · rw [decide_eq_true (show (8 : Int) < (xs.length : Int) by omega)]
      refine iteT (iteT (kk _ H (Same.refl H) ?_))
      unfold setOk
      rw [decide_eq_false h9, Bool.false_and]
end
end N03

set_option linter.all false
set_option maxRecDepth 100000
set_option maxHeartbeats 4000000
namespace N03
open PySem PySem.Spec PyProof.Rows L2 N01 SK RZ
abbrev sOdd : Stmt := top 35
abbrev sNmDue : Stmt := top 36
abbrev sGood : Stmt := top 37
abbrev sGoodV : Stmt := top 38
def spOdd : Sp := fun vs H Q _ => ∃ (b u : Addr) (us : List Str), vs = [.ref b, .ref u] ∧ BoxAt H b ∧ H u = some (.lst (us.map V.str)) ∧ u ≠ b ∧ 0 < us.length ∧ (∀ x ∈ us, (Sc.en x).ok = true) ∧
  ∀ (c : Sc) (H' : Hp) (q : Addr), c.clb = true → Kept b H H' → H' q = some (.tup c.items) → Q (.ref q) H'
def spGood (K : PySem.W.Frag) : Sp := fun vs H Q _ => ∃ (x : V) (it : Option Sc), vs = [x] ∧ ItAt K H x it ∧ ∀ H', Same H H' → Q (.bl (itOk it)) H'
section
variable {P : Program} {w : World} {K : PySem.W.Frag} {mg : Str → Option Value} {base : Heap} {C fI : Addr}
theorem scVa : FnScope ["value", "kind", "what"] ["value"] (defScope sValue) := ⟨rfl, rfl, rfl, by decide +kernel, rfl, by decide +kernel, by decide +kernel⟩
theorem kind_ne_set (c : Sc) : c.kind ≠ "set" := by
  have h : ∀ s ∈ KINDS, s ≠ ("set" : Str) := by decide +kernel
  exact h _ (List.mem_of_getElem? (kinds_at c).1)
theorem ok_value {f : Addr} {fd : FuncData} (F : Fun K "is_value" "is_value" sValue f fd) (cI : Cal P w K mg base 4 "are_items" ["scalars"] (spItems K)) (cS : Cal P w K mg base 3 "is_scalar" ["value"] (spScalarK K)) : FnOk P w K mg base CX0 5 f fd ["value"] (spValue K) := by
  refine F.ok scVa (fun vs H Q E h => ?_) (fun cdv A outer s H vs Q E hr h => ?_)
  · obtain ⟨x, vl, rfl, _⟩ := h
    rfl
  · obtain ⟨x, vl, rfl, hv, k⟩ := h
    refine ⟨_, pss_cons (ps_asg (pv 0) (pg_tup rfl (pgs_cons (pg_name (i := 1) scVa.nd rfl (Or.inl rfl)) (pgs_cons (pg_name (i := 2) scVa.nd rfl (Or.inl rfl)) pgs_nil))))
      (pss_one (ps_ret (pe_ifExp (pt_cmpR op_eq (pv 1) pe_str (nomark _)) (pe_cal cI hr (by decide) (by rfl) (pa_cons (pv 2) pa_nil)) (pe_cal cS hr (by decide) (by rfl) (pa_cons (pv 0) pa_nil))))), ?_⟩
    cases vl with
    | sc c =>
      obtain ⟨⟨p, rfl, hp⟩, hc⟩ := hv
      refine ⟨_, rfl, p, _, rfl, SqT.of hp, rfl, _, _, rfl, _, _, rfl, rfl, ?_⟩
      refine ⟨_, rfl, rfl, _, rfl, iteNS' (str_ne (kind_ne_set c)) ?_⟩
      exact ⟨_, rfl, .ref p, some c, rfl, ⟨⟨p, rfl, hp⟩, hc⟩, k⟩
    | st its =>
      obtain ⟨p, q, xs, rfl, hp, hq, hx, hz⟩ := hv
      refine ⟨_, rfl, p, _, rfl, SqT.of hp, rfl, _, _, rfl, _, _, rfl, rfl, ?_⟩
      refine ⟨_, rfl, rfl, _, rfl, iteT ?_⟩
      exact ⟨_, rfl, q, xs, its, rfl, hq, hx, hz, k⟩
theorem scCh : FnScope ["value", "what"] ["value", "what"] (defScope sCheck) := ⟨rfl, rfl, rfl, by decide +kernel, rfl, by decide +kernel, by decide +kernel⟩
theorem ok_check {f : Addr} {fd : FuncData} (F : FunD K "check_value" "check_value" (defArgs sCheck) (defBody sCheck) (defScope sCheck) [.str "value"] [] f fd) (O : PySem.OorX.OorTxt P K mg C fI) (cV : Cal P w K mg base 5 "is_value" ["value"] (spValue K)) : FnOk P w K mg base (L2.CX P w) 6 f fd ["value", "what"] (spCheckV K C) := by
  refine F.ok (CX := L2.CX P w) scCh (fun vs H Q E h => ?_) (fun cdv A outer s H vs Q E hr h => ?_)
  · obtain ⟨x, vl, t, rfl, _⟩ := h
    rfl
  · obtain ⟨x, vl, t, rfl, hv, hw, kt, kf⟩ := h
    refine ⟨_, pss_one (ps_if (pt_not (pt_val (pe_cal cV hr (by decide) (by rfl) (pa_cons (pv 0) pa_nil)))) (pss_one (ps_raiseOor rfl O (hr.mono (by decide)) (W := fun cls d _ H => E cls d H) (takes_of rfl rfl rfl rfl) (pa_cons (pv 1) pa_nil))) pss_nil), ?_⟩
    refine ⟨_, rfl, x, vl, rfl, hv, fun H1 s1 => ⟨_, rfl, ?_⟩⟩
    cases e : valOk vl with
    | true => exact iteF (kt e H1 s1)
    | false => exact iteT ⟨_, rfl, t, rfl, hw, fun d hd => kf e _ d (fun b o q => (upd_ne (ne_of_none (s1 b o q) hd)).trans (s1 b o q)) upd_same⟩
/-! ### _law_odd -/
theorem scOd : FnScope ["box", "uids", "kind", "size", "at", "sign"] ["box", "uids"] (defScope sOdd) := ⟨rfl, rfl, rfl, by decide +kernel, rfl, by decide +kernel, by decide +kernel⟩
theorem te_cl {t : Str} (h : t.length ≤ 50) (a : AllC clC t) : (Sc.te t).clb = true := by
  show (decide (t.length ≤ 50) && t.cps.toList.all clC) = true
  rw [decide_eq_true h, Bool.true_and]
  exact List.all_eq_true.mpr a
theorem odd_uids : ∀ t ∈ (["user", "user:", "a:b:c", "A:b", "kkkkkkkkkkkkk:b", "k:1"] : List Str), (Sc.en t).clb = true := by decide +kernel
theorem ok_odd {f : Addr} {fd : FuncData} (F : Fun K "_law_odd" "_law_odd" sOdd f fd) (cW : Cal P w K mg base 1 "_law_draw" ["box", "many"] spDraw) (cS : Cal P w K mg base 3 "_law_scalar" ["box", "uids"] spSca) : FnOk P w K mg base CX0 4 f fd ["box", "uids"] spOdd := by
  refine F.ok scOd (fun vs H Q E h => ?_) (fun cdv A outer s H vs Q E hr h => ?_)
  · obtain ⟨b, u, us, rfl, _⟩ := h
    rfl
  · obtain ⟨b, u, us, rfl, B, hu, nub, u0, oku, k⟩ := h
    have b16 : sizeLine = 16777216 := sizeLine_eq
    refine ⟨_, pss_cons (ps_set (i := 2) scOd.nd rfl (Or.inl rfl) (pe_cal cW hr (by decide) (by rfl) (pa_cons (pv 0) (pa_cons pe_int pa_nil))))
      (pss_cons (ps_if (pt_cmpR op_eq (pv 2) pe_int (nomark _)) (pss_one (ps_ret (pe_tup (pa_cons pe_str (pa_cons (pe_op op_mul (pe_op op_sub pe_int (pe_op op_mul pe_int (pe_cal cW hr (by decide) (by rfl) (pa_cons (pv 0) (pa_cons pe_int pa_nil))))) (pe_op op_add pe_int (pe_cal cW hr (by decide) (by rfl) (pa_cons (pv 0) (pa_cons pe_int pa_nil))))) pa_nil))))) pss_nil)
      (pss_cons (ps_if (pt_cmpR op_eq (pv 2) pe_int (nomark _)) (pss_cons (ps_set (i := 3) scOd.nd rfl (Or.inl rfl) (pe_op op_add pe_int (pe_cal cW hr (by decide) (by rfl) (pa_cons (pv 0) (pa_cons pe_int pa_nil))))) (pss_one (ps_ret (pe_tup (pa_cons pe_str (pa_cons (pe_op op_mul_str pe_str (pv 3)) pa_nil)))))) pss_nil)
      (pss_cons (ps_if (pt_cmpR op_eq (pv 2) pe_int (nomark _)) (pss_cons (ps_set (i := 4) scOd.nd rfl (Or.inl rfl) (pe_cal cW hr (by decide) (by rfl) (pa_cons (pv 0) (pa_cons pe_int pa_nil)))) (pss_cons (ps_set (i := 5) scOd.nd rfl (Or.inl rfl) (pe_ix ix_str pe_str (pe_cal cW hr (by decide) (by rfl) (pa_cons (pv 0) (pa_cons pe_int pa_nil))) (fun _ _ => rfl)))
        (pss_one (ps_ret (pe_tup (pa_cons pe_str (pa_cons (pe_op op_add_str (pe_op op_add_str (pe_op op_mul_str pe_str (pv 4)) (pv 5)) (pe_op op_mul_str pe_str (pe_op op_sub pe_int (pv 4)))) pa_nil))))))) pss_nil)
      (pss_cons (ps_if (pt_cmpR op_eq (pv 2) pe_int (nomark _)) (pss_one (ps_ret (pe_tup (pa_cons pe_str (pa_cons (pe_ix ix_list (pe_lst (pa_cons pe_str (pa_cons pe_str (pa_cons pe_str (pa_cons pe_str (pa_cons pe_str (pa_cons pe_str pa_nil))))))) (pe_cal cW hr (by decide) (by rfl) (pa_cons (pv 0) (pa_cons pe_int pa_nil))) (fun _ _ => rfl)) pa_nil))))) pss_nil)
      (pss_one (ps_ret (pe_cal cS hr (by decide) (by rfl) (pa_cons (pv 0) (pa_cons (pv 1) pa_nil))))))))), ?_⟩
    have fin : ∀ (c : Sc) (H2 : Hp), c.clb = true → Kept b H H2 → [V.str c.kind, c.val].length ≤ sizeLine ∧ ∀ p, H2 p = none → Q (.ref p) (upd H2 p (.tup [.str c.kind, c.val])) := fun c H2 o k2 => ⟨(by show 2 ≤ sizeLine; decide), fun p hp => k c _ p o (k2.new hp) upd_same⟩
    refine ⟨_, rfl, b, 5, rfl, by decide, B, fun kd H1 n0 n1 B1 k1 => ?_⟩
    refine ⟨_, rfl, rfl, _, rfl, ite2 (fun _ => ?_) (fun _ => ?_)⟩
    · refine ⟨_, rfl, b, 2, rfl, by decide, B1, fun z H2 z0 z1 B2 k2 => ?_⟩
      refine ⟨_, _, rfl, rfl, Or.inl ⟨by decide, by decide⟩, _, _, rfl, rfl, _, rfl, b, 5, rfl, by decide, B2, fun y H3 y0 y1 B3 k3 => ?_⟩
      refine ⟨_, _, rfl, rfl, _, _, rfl, rfl, Or.inl ⟨by omega, by omega⟩, ?_⟩
      exact fin (.nu _) H3 rfl ((k1.trans k2).trans k3)
    refine ⟨_, rfl, rfl, _, rfl, ite2 (fun _ => ?_) (fun _ => ?_)⟩
    · refine ⟨_, rfl, b, 5, rfl, by decide, B1, fun z H2 z0 z1 B2 k2 => ⟨_, _, rfl, rfl, ?_⟩⟩
      have tl1 : ("~" : Str).length = 1 := by decide +kernel
      refine ⟨_, rfl, "~", 38 + z, rfl, rfl, by rw [tl1]; decide, by omega, by omega, ?_⟩
      exact fin (.te _) H2 (te_cl (by rw [mul_len, tl1]; omega) (allc_mul _ (by unfold AllC; decide +kernel))) (k1.trans k2)
    refine ⟨_, rfl, rfl, _, rfl, ite2 (fun _ => ?_) (fun _ => ?_)⟩
    · refine ⟨_, rfl, b, 9, rfl, by decide, B1, fun z H2 z0 z1 B2 k2 => ⟨_, rfl, b, 2, rfl, by decide, B2, fun y H3 y0 y1 B3 k3 => ?_⟩⟩
      obtain ⟨c, hc⟩ := atI_in (xs := ("\" " : Str).cps.toList) y0 (show y < 2 from y1)
      have cc : clC c = true := by
        obtain ⟨j, _, h2, _⟩ := atI_get hc
        have all : ∀ c ∈ ("\" " : Str).cps.toList, clC c = true := by decide +kernel
        exact all c (List.mem_of_getElem? h2)
      have al : ("a" : Str).length = 1 := by decide +kernel
      have ac : AllC clC "a" := by unfold AllC; decide +kernel
      have l1 : (Txt.mul "a" z).length = z.toNat := by rw [mul_len, al, Nat.one_mul]
      have l2 : (Txt.mul "a" (8 - z)).length = (8 - z).toNat := by rw [mul_len, al, Nat.one_mul]
      refine ⟨_, _, c, rfl, rfl, by decide +kernel, hc, ?_⟩
      refine ⟨_, rfl, "a", z, rfl, rfl, by rw [al]; decide, by omega, by omega, _, rfl, _, _, rfl, rfl, by rw [l1, one_len]; omega, ?_⟩
      refine ⟨_, rfl, _, _, rfl, rfl, "a", 8 - z, rfl, rfl, by rw [al]; decide, by omega, by omega, _, _, rfl, rfl, by rw [app_len, l1, l2, one_len]; omega, ?_⟩
      exact fin (.te _) H3 (te_cl (by rw [app_len, app_len, l1, l2, one_len]; omega) (allc_app (allc_app (allc_mul _ ac) (allc_one cc)) (allc_mul _ ac))) ((k1.trans k2).trans k3)
    refine ⟨_, rfl, rfl, _, rfl, ite2 (fun _ => ?_) (fun _ => ?_)⟩
    · refine ⟨(by show 6 ≤ sizeLine; decide), fun l hl => ⟨_, rfl, b, 6, rfl, by decide, B1.new hl, fun y H3 y0 y1 B3 k3 => ?_⟩⟩
      have nbl := B1.ne hl
      obtain ⟨j, rfl⟩ : ∃ j : Nat, y = j := ⟨y.toNat, by omega⟩
      have hj : j < (["user", "user:", "a:b:c", "A:b", "kkkkkkkkkkkkk:b", "k:1"] : List Str).length := by show j < 6; omega
      exact ⟨l, _, j, .str (["user", "user:", "a:b:c", "A:b", "kkkkkkkkkkkkk:b", "k:1"] : List Str)[j], rfl, rfl, SqL.of (k3.all _ _ upd_same nbl.symm), atI_nat (by
        show ((["user", "user:", "a:b:c", "A:b", "kkkkkkkkkkkkk:b", "k:1"] : List Str).map V.str)[j]? = _
        rw [List.getElem?_map, List.getElem?_eq_getElem hj]; rfl), fin (.en _) H3 (odd_uids _ (List.getElem_mem hj)) ((k1.new hl).trans k3)⟩
    · exact ⟨_, rfl, _, rfl, b, u, us, rfl, B1, k1.all _ _ hu nub, nub, u0, oku, fun c H2 q o k2 hq => k c H2 q (ok_cl o) (k1.trans k2) hq⟩
/-! ### what the law itself says -/
theorem scND : FnScope ["text", "sign"] ["text"] (defScope sNmDue) := ⟨rfl, rfl, rfl, by decide +kernel, rfl, by decide +kernel, by decide +kernel⟩
theorem ok_nmDue {f : Addr} {fd : FuncData} (F : Fun K "_law_name_due" "_law_name_due" sNmDue f fd) (len : mg "len" = none) : FnOk P w K mg base CX0 1 f fd ["text"] (spText fun t => .bl (nameT t)) := by
  refine F.ok scND (fun vs H Q E h => ?_) (fun cdv A outer s H vs Q E hr h => ?_)
  · obtain ⟨t, rfl, _⟩ := h
    rfl
  · obtain ⟨t, rfl, hz, k⟩ := h
    refine ⟨_, pss_cons (ps_for PassesOwn.never rfl (pi_str (pv 0)) (pg_name (i := 1) scND.nd rfl (Or.inl rfl)) (pss_one (ps_if (pt_cmpR op_notIn_sign (pv 1) pe_str (by with_unfolding_all rfl)) (pss_one (ps_ret pe_bl)) pss_nil)))
      (pss_one (ps_ret (pe_chain op_le op_le pe_int (pe_callB call_len_str (by rfl) len PySem.boot_len (pa_cons (pv 0) pa_nil)) pe_int))), ?_⟩
    have k' : ∀ b, nameT t = b → Q (.bl b) H := fun b e => e ▸ k H (Same.refl H)
    refine ⟨_, rfl, t, rfl, for_it (walk_str (z := t)) (fun i σ H' => ∃ v, σ = [some (.str t), v] ∧ H' = H ∧ (t.cps.toList.take i).all inS = true) ⟨none, rfl, rfl, rfl⟩ (fun _ _ _ _ _ => trivial) ?_ ?_⟩
    · rintro i x σ H1 H1' hi ⟨v, rfl, rfl, p2⟩ ⟨rfl, c, hc, rfl⟩
      have hc' : t.cps.toList[i]? = some c := by simpa using hc
      refine ⟨_, rfl, c, SG, rfl, rfl, _, rfl, ?_⟩
      cases e : inS c with
      | true =>
        have e' : decide (c ∈ SG.cps.toList) = true := e
        rw [e']
        refine iteF ⟨_, rfl, rfl, ?_⟩
        rw [List.take_add_one, hc', List.all_append, p2]
        show (true && ([c].all inS)) = true
        simp [e]
      | false =>
        have e' : decide (c ∈ SG.cps.toList) = false := e
        rw [e']
        refine iteT (k' false ?_)
        unfold nameT
        rw [Bool.and_eq_false_iff]
        refine Or.inr (Bool.eq_false_iff.mpr fun q => ?_)
        have z := List.all_eq_true.mp q c (List.mem_of_getElem? hc')
        rw [e] at z
        cases z
    · rintro σ H1 ⟨v, rfl, rfl, p2⟩
      have e0 : t.cps.toList.take t.cps.size = t.cps.toList := List.take_of_length_le (by simp)
      rw [e0] at p2
      refine ⟨_, rfl, _, rfl, sizeT hz, _, _, rfl, rfl, _, rfl, ?_⟩
      by_cases h1 : 1 ≤ t.length
      · rw [decide_eq_true (show (1 : Int) ≤ (t.length : Int) by omega)]
        refine iteT ⟨_, _, rfl, rfl, k' _ ?_⟩
        unfold nameT
        rw [p2, Bool.and_true, decide_eq_true h1, Bool.true_and]
        exact decide_eq_decide.mpr (by omega)
      · rw [decide_eq_false (show ¬ (1 : Int) ≤ (t.length : Int) by omega)]
        refine iteF (k' _ ?_)
        unfold nameT
        rw [decide_eq_false h1, Bool.false_and, Bool.false_and]
end
end N03

set_option linter.all false
set_option maxRecDepth 100000
set_option maxHeartbeats 4000000
namespace N03
open PySem PySem.Spec PyProof.Rows L2 N01 SK RZ
structure TxtG (mg : Str → Option Value) : Prop where
  len : mg "len" = none
  ord : mg "ord" = none
  list : mg "list" = none
  range : mg "range" = none
def pC (c : Nat) : Bool := (decide (32 ≤ c) && decide (c ≤ 126)) && !decide (c = 34)
theorem pC_txt {c : Nat} (h : clC c = true) : pC c = txtC c := by
  unfold clC at h
  simp only [Bool.and_eq_true, Bool.not_eq_true', decide_eq_false_iff_not] at h
  unfold pC txtC sgnC
  rw [decide_eq_false h.2]
  simp
section
variable {P : Program} {w : World} {K : PySem.W.Frag} {mg : Str → Option Value} {base : Heap} {C fI : Addr}
theorem scGo : FnScope ["scalar", "sign", "parts"] ["scalar"] (defScope sGood) := ⟨rfl, rfl, rfl, by decide +kernel, rfl, by decide +kernel, by decide +kernel⟩
/-- two names on either side of one colon -/
theorem uid_ret {D : Ends} {σ : L2.St} {H : Hp} {p : Addr} {t : Str} {i : Nat} (e : σ[i]? = some (some (.ref p))) (hp : H p = some (.lst ((Txt.split t ":").map V.str))) (hz : t.length ≤ 1000) (k : ∀ H', Same H H' → D.rt (.bl (uidT t)) H') :
    tRet (tAndV (tOp rEq (tCB (fun xs H Q => ∃ p ys, xs = [.ref p] ∧ (SqL K H p ys ∨ SqT K H p ys) ∧ Q (.int ys.length) H) (tCons (tVar i) tNil)) (tC (.int 2)))
      (tAndV (tCall (spText fun t => .bl (nameT t)) [] E0 (tCons (tOp (rIxL K) (tVar i) (tC (.int 0))) tNil)) (tCall (spText fun t => .bl (nameT t)) [] E0 (tCons (tOp (rIxL K) (tVar i) (tC (.int 1))) tNil)))) D σ H := by
  have k' : ∀ (H' : Hp) (b : Bool), Same H H' → uidT t = b → D.rt (.bl b) H' := fun H' b s e => e ▸ k H' s
  have hl := split_len (x := t) (z := ":")
  refine ⟨_, e, p, _, rfl, .inl (SqL.of hp), rfl, _, rfl, ?_⟩
  unfold uidT at k'
  cases ez : Txt.split t ":" with
  | nil => exact iteF (k' _ false (Same.refl H) (by rw [ez]))
  | cons a r =>
    cases r with
    | nil => exact iteF (k' _ false (Same.refl H) (by rw [ez]))
    | cons b q =>
      cases q with
      | cons c q2 =>
        rw [decide_eq_false (by simp; omega)]
        exact iteF (k' _ false (Same.refl H) (by rw [ez]))
      | nil =>
        rw [ez] at k' hl hp
        have h0 : a.length ≤ 1000 := Nat.le_trans (hl a (by simp)) hz
        have h1 : b.length ≤ 1000 := Nat.le_trans (hl b (by simp)) hz
        refine iteT ⟨_, e, p, _, 0, _, rfl, rfl, SqL.of hp, atI_nat (j := 0) rfl, a, rfl, h0, fun H1 s1 => ⟨_, rfl, ?_⟩⟩
        cases e2 : nameT a with
        | false => exact iteF (k' _ false s1 (by show (nameT a && nameT b) = false; rw [e2] <;> rfl))
        | true =>
          refine iteT ⟨_, e, p, _, 1, _, rfl, rfl, SqL.of (s1 _ _ hp), atI_nat (j := 1) rfl, b, rfl, h1, fun H2 s2 => ?_⟩
          exact k' _ (nameT b) (s1.trans s2) (by show (nameT a && nameT b) = nameT b; rw [e2] <;> rfl)
theorem ok_good {f : Addr} {fd : FuncData} (F : Fun K "_law_good" "_law_good" sGood f fd) (T : TxtG mg) (cN : Cal P w K mg base 1 "_law_name_due" ["text"] (spText fun t => .bl (nameT t))) : FnOk P w K mg base CX0 2 f fd ["scalar"] (spGood K) := by
  refine F.ok scGo (fun vs H Q E h => ?_) (fun cdv A outer s H vs Q E hr h => ?_)
  · obtain ⟨x, it, rfl, _⟩ := h
    rfl
  · obtain ⟨x, it, rfl, hit, k⟩ := h
    have b16 : sizeLine = 16777216 := sizeLine_eq
    obtain ⟨p, kn, vl, rfl, hp, hk⟩ : ∃ (p : Addr) (kn : Str) (vl : V), x = .ref p ∧ H p = some (.tup [.str kn, vl]) ∧ ((∃ c : Sc, it = some c ∧ kn = c.kind ∧ vl = c.val ∧ c.clb = true) ∨ (it = none ∧ kn = "set")) := by
      cases it with
      | some c =>
        obtain ⟨⟨p, e, hp⟩, hc⟩ := hit
        exact ⟨p, c.kind, c.val, e, hp, .inl ⟨c, rfl, rfl, rfl, hc⟩⟩
      | none =>
        obtain ⟨p, q, e, hp, _⟩ := hit
        exact ⟨p, "set", .ref q, e, hp, .inr ⟨rfl, rfl⟩⟩
    refine ⟨_, pss_cons (ps_if (pt_cmpR op_eq (pe_ix ix_tup (pv 0) pe_int (fun _ _ => rfl)) pe_str (nomark _)) (pss_one (ps_ret (pe_chain op_le op_le (pe_un un_neg pe_int) (pe_ix ix_tup (pv 0) pe_int (fun _ _ => rfl)) pe_int))) pss_nil)
      (pss_cons (ps_if (pt_cmpR op_eq (pe_ix ix_tup (pv 0) pe_int (fun _ _ => rfl)) pe_str (nomark _))
        (pss_cons (ps_for PassesOwn.never rfl (pi_str (pe_ix ix_tup (pv 0) pe_int (fun _ _ => rfl))) (pg_name (i := 1) scGo.nd rfl (Or.inl rfl))
          (pss_one (ps_if (PW.pt (pw_or (pt_not (pt_chain op_le op_le pe_int (pe_callB call_ord (by rfl) T.ord (by decide +kernel) (pa_cons (pv 1) pa_nil)) pe_int)) (pw_or1 (pt_cmpR op_eq (pe_callB call_ord (by rfl) T.ord (by decide +kernel) (pa_cons (pv 1) pa_nil)) pe_int (nomark _))))) (pss_one (ps_ret pe_bl)) pss_nil)))
        (pss_one (ps_ret (pe_cmpR op_le (pe_callB call_len_str (by rfl) T.len PySem.boot_len (pa_cons (pe_ix ix_tup (pv 0) pe_int (fun _ _ => rfl)) pa_nil)) pe_int (nomark _))))) pss_nil)
      (pss_cons (ps_if (pt_cmpR op_eq (pe_ix ix_tup (pv 0) pe_int (fun _ _ => rfl)) pe_str (nomark _))
        (pss_cons (ps_set (i := 2) scGo.nd rfl (Or.inl rfl) (pe_split (pe_ix ix_tup (pv 0) pe_int (fun _ _ => rfl)) pe_str))
        (pss_one (ps_ret (pe_and (pe_cmpR op_eq (pe_callB call_len_seq (by rfl) T.len PySem.boot_len (pa_cons (pv 2) pa_nil)) pe_int (nomark _))
          (pe_and (pe_cal cN hr (by decide) (by rfl) (pa_cons (pe_ix ix_list (pv 2) pe_int (fun _ _ => rfl)) pa_nil)) (pe_one (pe_cal cN hr (by decide) (by rfl) (pa_cons (pe_ix ix_list (pv 2) pe_int (fun _ _ => rfl)) pa_nil)))))))) pss_nil)
      (pss_one (ps_ret (pe_cmpR op_eq (pe_ix ix_tup (pv 0) pe_int (fun _ _ => rfl)) pe_str (nomark _)))))), ?_⟩
    obtain ⟨n1, n2, n3, n4, n5, n6, n7, n8, n9, n0⟩ : ("truth" : Str) ≠ "number" ∧ ("truth" : Str) ≠ "text" ∧ ("truth" : Str) ≠ "entity" ∧ ("number" : Str) ≠ "text" ∧ ("number" : Str) ≠ "entity" ∧ ("text" : Str) ≠ "entity" ∧
      ("set" : Str) ≠ "truth" ∧ ("set" : Str) ≠ "number" ∧ ("set" : Str) ≠ "text" ∧ ("set" : Str) ≠ "entity" := by decide +kernel
    have kk : ∀ b H', Same H H' → b = itOk it → Q (.bl b) H' := fun b H' s e => e ▸ k H' s
    have r0 := Same.refl H
    rcases hk with ⟨c, rfl, rfl, rfl, hc⟩ | ⟨rfl, rfl⟩
    · cases c with
      | tr b =>
        refine ⟨_, rfl, p, _, 0, _, rfl, rfl, SqT.of hp, atI_nat (j := 0) rfl, rfl, _, rfl, iteNS' (str_ne n1) ?_⟩
        refine ⟨_, rfl, p, _, 0, _, rfl, rfl, SqT.of hp, atI_nat (j := 0) rfl, rfl, _, rfl, iteNS' (str_ne n2) ?_⟩
        refine ⟨_, rfl, p, _, 0, _, rfl, rfl, SqT.of hp, atI_nat (j := 0) rfl, rfl, _, rfl, iteNS' (str_ne n3) ?_⟩
        exact ⟨_, rfl, p, _, 0, _, rfl, rfl, SqT.of hp, atI_nat (j := 0) rfl, rfl, kk _ H r0 (decide_eq_true rfl)⟩
      | nu i =>
        refine ⟨_, rfl, p, _, 0, _, rfl, rfl, SqT.of hp, atI_nat (j := 0) rfl, rfl, _, rfl, iteT ?_⟩
        refine ⟨_, rfl, _, rfl, p, _, 1, _, rfl, rfl, SqT.of hp, atI_nat (j := 1) rfl, _, _, rfl, rfl, _, rfl, ?_⟩
        have e0 : itOk (some (.nu i)) = (decide (-1000000 ≤ i) && decide (i ≤ 1000000)) := rfl
        by_cases h1 : -1000000 ≤ i
        · rw [show decide (-(1000000 : Int) ≤ i) = true from decide_eq_true h1]
          refine iteT ⟨_, _, rfl, rfl, kk _ H r0 ?_⟩
          rw [e0, decide_eq_true h1, Bool.true_and]
        · rw [show decide (-(1000000 : Int) ≤ i) = false from decide_eq_false h1]
          refine iteF (kk _ H r0 ?_)
          rw [e0, decide_eq_false h1, Bool.false_and]
      | te t =>
        have hc' : (decide (t.length ≤ 50) && t.cps.toList.all clC) = true := hc
        rw [Bool.and_eq_true] at hc'
        have l50 := of_decide_eq_true hc'.1
        refine ⟨_, rfl, p, _, 0, _, rfl, rfl, SqT.of hp, atI_nat (j := 0) rfl, rfl, _, rfl, iteNS' (str_ne n4.symm) ?_⟩
        refine ⟨_, rfl, p, _, 0, _, rfl, rfl, SqT.of hp, atI_nat (j := 0) rfl, rfl, _, rfl, iteT ?_⟩
        have all_eq : t.cps.toList.all pC = t.cps.toList.all txtC := by
          have : ∀ l : List Nat, (∀ c ∈ l, clC c = true) → l.all pC = l.all txtC := by
            intro l hl
            induction l with
            | nil => rfl
            | cons c l ih => rw [List.all_cons, List.all_cons, pC_txt (hl c List.mem_cons_self), ih fun d hd => hl d (List.mem_cons_of_mem _ hd)]
          exact this _ (List.all_eq_true.mp hc'.2)
        refine ⟨_, rfl, p, _, 1, _, rfl, rfl, SqT.of hp, atI_nat (j := 1) rfl, t, rfl, for_it (walk_str (z := t)) (fun i σ H' => ∃ v1 v2, σ = [some (.ref p), v1, v2] ∧ H' = H ∧ (t.cps.toList.take i).all pC = true) ⟨none, none, rfl, rfl, rfl⟩ (fun _ _ _ _ _ => trivial) ?_ ?_⟩
        · rintro i x σ H1 H1' hi ⟨v1, v2, rfl, rfl, p2⟩ ⟨rfl, c, hcc, rfl⟩
          have hc2 : t.cps.toList[i]? = some c := by simpa using hcc
          have bad : pC c = false → Q (.bl false) H1' := fun e => by
            refine kk _ H1' r0 ?_
            show false = textT t
            unfold textT
            rw [← all_eq, eq_comm, Bool.and_eq_false_iff]
            refine Or.inr (Bool.eq_false_iff.mpr fun z => ?_)
            have y := List.all_eq_true.mp z c (List.mem_of_getElem? hc2)
            rw [e] at y
            cases y
          have good : pC c = true → ∃ a1 a2 : Option V, [some (V.ref p), some (.str ⟨#[c]⟩), v2] = [some (.ref p), a1, a2] ∧ H1' = H1' ∧ (t.cps.toList.take (i + 1)).all pC = true := fun e => by
            refine ⟨_, _, rfl, rfl, ?_⟩
            rw [List.take_add_one, hc2, List.all_append, p2]
            show (true && ([c].all pC)) = true
            simp [e]
          refine ⟨_, rfl, _, rfl, rfl, _, _, rfl, rfl, _, rfl, ?_⟩
          by_cases h1 : 32 ≤ c
          · rw [show decide ((32 : Int) ≤ ((#[c].getD 0 0 : Nat) : Int)) = true from decide_eq_true (by show (32 : Int) ≤ ((c : Nat) : Int); omega)]
            refine iteT ⟨_, _, rfl, rfl, _, rfl, ?_⟩
            by_cases h2 : c ≤ 126
            · rw [show decide (((#[c].getD 0 0 : Nat) : Int) ≤ 126) = true from decide_eq_true (by show ((c : Nat) : Int) ≤ 126; omega)]
              refine iteF ⟨_, rfl, _, rfl, rfl, rfl, _, rfl, ?_⟩
              by_cases h3 : c = 34
              · subst h3
                exact iteT (bad (by decide))
              · have e : decide (V.int ((#[c].getD 0 0 : Nat) : Int) = V.int 34) = false := decide_eq_false fun z => h3 (by
                  have := V.int.inj z
                  have y : ((c : Nat) : Int) = 34 := this
                  omega)
                rw [e]
                refine iteF (good ?_)
                unfold pC
                rw [decide_eq_true h1, decide_eq_true h2, decide_eq_false h3]
                rfl
            · rw [show decide (((#[c].getD 0 0 : Nat) : Int) ≤ 126) = false from decide_eq_false (by show ¬ ((c : Nat) : Int) ≤ 126; omega)]
              refine iteT (iteT (bad ?_))
              unfold pC
              rw [decide_eq_false h2, Bool.and_false, Bool.false_and]
          · rw [show decide ((32 : Int) ≤ ((#[c].getD 0 0 : Nat) : Int)) = false from decide_eq_false (by show ¬ (32 : Int) ≤ ((c : Nat) : Int); omega)]
            refine iteF ⟨_, rfl, iteT (iteT (bad ?_))⟩
            unfold pC
            rw [decide_eq_false h1, Bool.false_and, Bool.false_and]
        · rintro σ H1 ⟨v1, v2, rfl, rfl, p2⟩
          have e0 : t.cps.toList.take t.cps.size = t.cps.toList := List.take_of_length_le (by simp)
          rw [e0, all_eq] at p2
          refine ⟨_, rfl, p, _, 1, _, rfl, rfl, SqT.of hp, atI_nat (j := 1) rfl, _, rfl, by omega, _, _, rfl, rfl, kk _ _ r0 ?_⟩
          show _ = textT t
          unfold textT
          rw [p2, Bool.and_true]
          exact decide_eq_decide.mpr (by omega)
      | en t =>
        have hc' : (decide (t.length ≤ 50) && t.cps.toList.all fun c => decide (c < 128)) = true := hc
        rw [Bool.and_eq_true] at hc'
        have l50 := of_decide_eq_true hc'.1
        refine ⟨_, rfl, p, _, 0, _, rfl, rfl, SqT.of hp, atI_nat (j := 0) rfl, rfl, _, rfl, iteNS' (str_ne n5.symm) ?_⟩
        refine ⟨_, rfl, p, _, 0, _, rfl, rfl, SqT.of hp, atI_nat (j := 0) rfl, rfl, _, rfl, iteNS' (str_ne n6.symm) ?_⟩
        refine ⟨_, rfl, p, _, 0, _, rfl, rfl, SqT.of hp, atI_nat (j := 0) rfl, rfl, _, rfl, iteT ?_⟩
        refine ⟨_, rfl, p, _, 1, _, rfl, rfl, SqT.of hp, atI_nat (j := 1) rfl, ⟨_, rfl⟩, _, _, rfl, rfl, colon_ne, by omega, fun q hq => ?_⟩
        have sq : ∀ o, Same H (upd H q o) := fun o b u e => (upd_ne (ne_of_none e hq)).trans e
        exact uid_ret (i := 2) rfl upd_same (by omega) fun H' s' => kk _ H' ((sq _).trans s') rfl
    · refine ⟨_, rfl, p, _, 0, _, rfl, rfl, SqT.of hp, atI_nat (j := 0) rfl, rfl, _, rfl, iteNS' (str_ne n8) ?_⟩
      refine ⟨_, rfl, p, _, 0, _, rfl, rfl, SqT.of hp, atI_nat (j := 0) rfl, rfl, _, rfl, iteNS' (str_ne n9) ?_⟩
      refine ⟨_, rfl, p, _, 0, _, rfl, rfl, SqT.of hp, atI_nat (j := 0) rfl, rfl, _, rfl, iteNS' (str_ne n0) ?_⟩
      exact ⟨_, rfl, p, _, 0, _, rfl, rfl, SqT.of hp, atI_nat (j := 0) rfl, rfl, kk _ H r0 (str_ne n7)⟩
end
end N03

set_option linter.all false
set_option maxRecDepth 100000
set_option maxHeartbeats 4000000
namespace N03
open PySem PySem.Spec PyProof.Rows L2 N01 SK RZ
abbrev sRefd : Stmt := top 39
abbrev sMade : Stmt := top 40
def itDat : Option Sc → PyData
  | some c => c.dat
  | none => .tuple [.str "set", .tuple []]
theorem it_dp {K : PySem.W.Frag} {H : Hp} {v : V} {it : Option Sc} (h : ItAt K H v it) : Dp K H v (itDat it) := by
  cases it with
  | some c => exact h.1.dp
  | none =>
    obtain ⟨p, q, rfl, h1, h2⟩ := h
    exact .tup (SqT.of h1) (.cons (.str _) (.cons (.tup h2 .nil) .nil))
theorem its_dp {K : PySem.W.Frag} {H : Hp} : ∀ {xs : List V} {its : List (Option Sc)}, Paired (ItAt K H) xs its → DpAll K H xs (its.map itDat)
  | _, _, .nil => .nil
  | _, _, .cons h t => .cons (it_dp h) (its_dp t)
theorem its_lay {K : PySem.W.Frag} {H : Hp} : ∀ {xs : List V} {its : List (Option Sc)}, Paired (ItAt K H) xs its → PyData.canLayAll0 (its.map itDat) = true ∧ PyData.depthAll (its.map itDat) ≤ 2
  | _, _, .nil => ⟨rfl, Nat.zero_le _⟩
  | x :: xs, it :: its, .cons h t => by
    obtain ⟨h1, h2⟩ := its_lay t
    have z : (itDat it).canLay0 = true ∧ (itDat it).depth ≤ 2 := by
      cases it with
      | some c => exact ⟨sc_layC h.2, by cases c <;> exact Nat.le_succ 1⟩
      | none => exact ⟨by decide +kernel, by decide +kernel⟩
    refine ⟨?_, ?_⟩
    · rw [List.map_cons, PyData.canLayAll0, z.1, h1]; rfl
    · rw [List.map_cons, PyData.depthAll]; omega
theorem its_shaped {K : PySem.W.Frag} {H : Hp} {xs : List V} {its : List (Option Sc)} (h : Paired (ItAt K H) xs its) : SeqAt.shaped (.list (its.map itDat)) = true := by
  obtain ⟨h1, h2⟩ := its_lay h
  unfold SeqAt.shaped
  rw [PyData.canLay0, h1, PyData.depth, decide_eq_true (by omega)]
  rfl
theorem eqv_emp (ds : List PyData) : PyData.eqv (.list ds) (.list []) = ds.isEmpty := by
  cases ds <;> rfl
theorem filt_emp : ∀ its : List (Option Sc), (its.filter fun it => !itOk it).isEmpty = its.all itOk
  | [] => rfl
  | it :: its => by
    rw [List.filter_cons, List.all_cons]
    cases e : itOk it with
    | true =>
      rw [if_neg (by simp), Bool.true_and]
      exact filt_emp its
    | false => rw [if_pos (by simp)]; rfl
def spGoodV (K : PySem.W.Frag) : Sp := fun vs H Q _ => ∃ (x : V) (vl : Vl), vs = [x] ∧ ValAt K H x vl ∧ ∀ H', Same H H' → Q (.bl (valOk vl)) H'
theorem ScAt.put {l : Addr} {H : Hp} {xs ys : List V} {v : V} {c : Sc} (h : ScAt H v c) (hl : H l = some (.lst xs)) : ScAt (upd H l (.lst ys)) v c := by
  obtain ⟨p, e, q⟩ := h
  exact ⟨p, e, (upd_ne (fun z => by rw [z, hl] at q; cases q)).trans q⟩
section
variable {P : Program} {w : World} {K : PySem.W.Frag} {mg : Str → Option Value} {base : Heap} {C fI : Addr}
theorem scGV : FnScope ["value", "items", "item", "k"] ["value"] (defScope sGoodV) := ⟨rfl, rfl, rfl, by decide +kernel, rfl, by decide +kernel, by decide +kernel⟩
theorem ok_goodV {f : Addr} {fd : FuncData} (F : Fun K "_law_good_value" "_law_good_value" sGoodV f fd) (T : TxtG mg) (cG : Cal P w K mg base 2 "_law_good" ["scalar"] (spGood K)) (cK : Cal P w K mg base 1 "_law_key" ["scalar"] spPlace) : FnOk P w K mg base CX0 3 f fd ["value"] (spGoodV K) := by
  refine F.ok scGV (fun vs H Q E h => ?_) (fun cdv A outer s H vs Q E hr h => ?_)
  · obtain ⟨x, vl, rfl, _⟩ := h
    rfl
  · obtain ⟨x, vl, rfl, hv, k⟩ := h
    have b16 : sizeLine = 16777216 := sizeLine_eq
    have hu : (A.deeper (envOfC "_law_good_value" (defScope sGoodV) s.heap.objs.size f cdv)).units + 64 < cLine := hr.units
    have hu3 : (A.deeper (envOfC "_law_good_value" (defScope sGoodV) s.heap.objs.size f cdv)).units + 3 < cLine := by omega
    refine ⟨_, pss_cons (ps_if (pt_cmpR op_ne (pe_ix ix_tup (pv 0) pe_int (fun _ _ => rfl)) pe_str (nomark _)) (pss_one (ps_ret (pe_cal cG hr (by decide) (by rfl) (pa_cons (pv 0) pa_nil)))) pss_nil)
      (pss_cons (ps_set (i := 1) scGV.nd rfl (Or.inl rfl) (pe_callTy call_list_of (by rfl) T.list (by decide +kernel) (pa_cons (pe_ix ix_tup (pv 0) pe_int (fun _ _ => rfl)) pa_nil)))
      (pss_cons (ps_if (PW.pt (pw_or (pt_cmpR op_gt (pe_callB call_len_seq (by rfl) T.len PySem.boot_len (pa_cons (pv 1) pa_nil)) pe_int (nomark _)) (pw_or1 (pt_cmpR (op_neD hu)
          (pe_lc (own := [("item", 2)]) (g := gName 2) rfl scGV.nd (pi_list (pv 1)) (blkOk_by (N := ["value", "items", "item", "k"]) (sc := defScope sGoodV) (by decide +kernel)) (fun _ _ _ _ _ => pg_name (i := 2) scGV.nd rfl (Or.inl rfl))
            (fun _ _ _ _ _ => pts_one (pt_not (pt_val (pe_cal cG hr (by decide) (by rfl) (pa_cons (pv 2) pa_nil))))) (fun _ _ _ _ _ => pv 2)) (pe_lst pa_nil) (nomark _))))) (pss_one (ps_ret pe_bl)) pss_nil)
      (pss_cons (ps_for PassesOwn.never rfl (pi_range1 (by rfl) T.range (pa_cons (pe_op op_sub (pe_callB call_len_seq (by rfl) T.len PySem.boot_len (pa_cons (pv 1) pa_nil)) pe_int) pa_nil)) (pg_name (i := 3) scGV.nd rfl (Or.inl rfl))
        (pss_one (ps_if (pt_not (pt_cmpR (op_ltK hu3) (pe_cal cK hr (by decide) (by rfl) (pa_cons (pe_ix ix_list (pv 1) (pv 3) (fun _ _ => rfl)) pa_nil)) (pe_cal cK hr (by decide) (by rfl) (pa_cons (pe_ix ix_list (pv 1) (pe_op op_add (pv 3) pe_int) (fun _ _ => rfl)) pa_nil)) (nomark _))) (pss_one (ps_ret pe_bl)) pss_nil)))
      (pss_one (ps_ret pe_bl))))), ?_⟩
    have kk : ∀ b H', Same H H' → valOk vl = b → Q (.bl b) H' := fun b H' s e => e ▸ k H' s
    cases vl with
    | sc c =>
      obtain ⟨⟨p, rfl, hp⟩, hc⟩ := hv
      refine ⟨_, rfl, p, _, 0, _, rfl, rfl, SqT.of hp, atI_nat (j := 0) rfl, rfl, _, rfl, ?_⟩
      rw [str_ne (kind_ne_set c)]
      exact iteT ⟨_, rfl, .ref p, some c, rfl, ⟨⟨p, rfl, hp⟩, hc⟩, fun H' s => kk _ H' s rfl⟩
    | st its =>
      obtain ⟨p, q, xs, rfl, hp, hq, hx, hz⟩ := hv
      have hxl := hx.length
      refine ⟨_, rfl, p, _, 0, _, rfl, rfl, SqT.of hp, atI_nat (j := 0) rfl, rfl, _, rfl, iteNS rfl ?_⟩
      refine ⟨_, rfl, p, _, 1, _, rfl, rfl, SqT.of hp, atI_nat (j := 1) rfl, q, xs, rfl, .inr hq, fun l hl => ?_⟩
      have s1 : Same H (upd H l (.lst xs)) := fun b o e => (upd_ne (ne_of_none e hl)).trans e
      refine ⟨_, rfl, l, xs, rfl, .inl (SqL.of upd_same), _, _, rfl, rfl, _, rfl, ?_⟩
      by_cases h9 : its.length ≤ 8
      · rw [decide_eq_false (show ¬ (8 : Int) < (xs.length : Int) by omega)]
        refine iteF ⟨_, rfl, l, rfl, ⟨xs, SqL.of upd_same⟩, fun D hD => lc_it (walk_list (xs := xs)) (fun i H' => ∃ ys, H' D = some (.lst ys) ∧ Paired (ItAt K H') ys ((its.take i).filter fun it => !itOk it) ∧ Same (upd H l (.lst xs)) H')
          ⟨[], upd_same, .nil, fun b o e => (upd_ne (ne_of_none e hD)).trans e⟩ (fun i H' _ ⟨_, _, _, z⟩ => SqL.of (z _ _ upd_same)) ?_ ?_⟩
        · rintro i x H1 H1' hi ⟨ys, p1, p2, p3⟩ ⟨rfl, hxi⟩
          obtain ⟨it, hc, hxc⟩ := paired_get hx hxi
          have hyl := p2.length
          have hfl : ((its.take i).filter fun it => !itOk it).length ≤ its.length := Nat.le_trans (List.length_filter_le _ _) (by rw [List.length_take]; omega)
          refine ⟨rfl, _, rfl, x, it, rfl, (hxc.same s1).same p3, fun H2 s2 => ⟨_, rfl, ?_⟩⟩
          have hD2 := s2 _ _ p1
          have ek : (its.take (i + 1)).filter (fun it => !itOk it) = ((its.take i).filter fun it => !itOk it) ++ [it].filter (fun it => !itOk it) := by
            rw [List.take_add_one, hc, List.filter_append] <;> rfl
          cases e : itOk it with
          | true =>
            refine iteF ⟨ys, hD2, ?_, p3.trans s2⟩
            rw [ek, List.filter_cons, e, if_neg (by simp), List.filter_nil, List.append_nil]
            exact its_same p2 s2
          | false =>
            refine iteT ⟨_, rfl, ys, hD2, by omega, ys ++ [x], upd_same, ?_, fun b o z => (upd_ne (ne_of_none z hD)).trans (s2 _ _ (p3 b o z))⟩
            rw [ek, List.filter_cons, e, if_pos (by simp), List.filter_nil]
            -- the list D is none of the items' own
            have mv : ∀ {v : V} {j : Option Sc}, ItAt K H2 v j → ItAt K (upd H2 D (.lst (ys ++ [x]))) v j := fun {v j} hj => by
              cases j with
              | some c => exact ⟨hj.1.put hD2, hj.2⟩
              | none =>
                obtain ⟨p', q', e1, e2, e3⟩ := hj
                refine ⟨p', q', e1, (upd_ne (fun z => by rw [z, hD2] at e2; cases e2)).trans e2, ?_⟩
                rcases e3 with (e3 | ⟨o, e3⟩) | e3
                · exact .inl (.inl ((upd_ne (fun z => by rw [z, hD2] at e3; cases e3)).trans e3))
                · exact .inl (.inr ⟨o, (upd_ne (fun z => by rw [z, hD2] at e3; cases e3)).trans e3⟩)
                · exact .inr e3
            exact snoc_vals (mv (((hxc.same s1).same p3).same s2)) (Paired.imp2 (fun _ _ z => mv z) (its_same p2 s2))
        · rintro H1 ⟨ys, p1, p2, p3⟩
          rw [List.take_of_length_le (by omega)] at p2
          refine ⟨Nat.zero_le _, fun e he => ?_⟩
          have sE : Same H1 (upd H1 e (.lst [])) := fun b o z => (upd_ne (ne_of_none z he)).trans z
          refine ⟨_, .list [], .lst (SqL.of (sE _ _ p1)) (its_dp (its_same p2 sE)), .lst (SqL.of upd_same) .nil, its_shaped (its_same p2 sE), by decide +kernel, _, rfl, ?_⟩
          rw [eqv_emp, List.isEmpty_map, filt_emp]
          have sA := (s1.trans p3).trans sE
          cases hall : its.all itOk with
          | false =>
            refine iteT (kk _ _ sA ?_)
            show setOk its = false
            unfold setOk
            rw [hall, Bool.false_and, Bool.and_false]
          | true =>
            obtain ⟨hs, his⟩ := all_some hx hall
            have hsl := hs.length
            have al := adj_len (its.filterMap id)
            have hl4 : (upd H1 e (.lst [])) l = some (.lst xs) := sE _ _ (p3 _ _ upd_same)
            refine iteF ⟨_, rfl, l, xs, rfl, .inl (SqL.of hl4), _, _, rfl, rfl, _, rfl, by omega, by omega, for_range (lo := 0) (n := ((xs.length : Int) - 1).toNat) (fun j σ H' => ∃ v2 v3 : Option V, σ = [some (.ref p), some (.ref l), v2, v3] ∧ Same (upd H1 e (.lst [])) H' ∧ ((adjB (its.filterMap id)).take j).all id = true)
              ⟨_, _, rfl, Same.refl _, rfl⟩ ?_ ?_⟩
            · rintro j σ H5 hj ⟨v2, v3, rfl, s5, a5⟩
              have h1 : j < xs.length := by omega
              have h2 : j + 1 < xs.length := by omega
              have g1 : xs[j]? = some xs[j] := List.getElem?_eq_getElem h1
              have g2 : xs[j + 1]? = some xs[j + 1] := List.getElem?_eq_getElem h2
              obtain ⟨c1, hc1, x1⟩ := paired_get hs g1
              obtain ⟨c2, hc2, x2⟩ := paired_get hs g2
              have hl5 := s5 _ _ hl4
              have ej : (0 : Int) + (j : Int) = (j : Nat) := Int.zero_add _
              have ej1 : (0 : Int) + (j : Int) + 1 = ((j + 1 : Nat) : Int) := by omega
              have adj := adj_get _ _ _ _ hc1 hc2
              refine ⟨_, rfl, _, rfl, l, xs, _, xs[j], rfl, rfl, SqL.of hl5, (by rw [ej]; exact atI_nat g1), xs[j], c1, rfl, (x1.same sA).same s5, fun H6 r s6 hr6 => ?_⟩
              refine ⟨_, rfl, _, rfl, _, _, rfl, rfl, l, xs, _, xs[j + 1], rfl, rfl, SqL.of (s6 _ _ hl5), (by rw [ej1]; exact atI_nat g2), xs[j + 1], c2, rfl, ((x2.same sA).same s5).same s6, fun H7 r' s7 hr7 => ?_⟩
              refine ⟨_, _, _, _, key_at (s7 _ _ hr6), key_at hr7, pl_pl c1, coh2, _, rfl, ?_⟩
              have sB := (s5.trans s6).trans s7
              cases elt : PySem.W.dataLt (kyd c1.rank c1.pl) (kyd c2.rank c2.pl) with
              | false =>
                refine iteT (kk _ H7 (sA.trans sB) ?_)
                show setOk its = false
                unfold setOk
                rw [Bool.and_eq_false_iff, Bool.and_eq_false_iff]
                refine .inr (.inr (Bool.eq_false_iff.mpr fun z => ?_))
                have y := List.all_eq_true.mp z _ (List.mem_of_getElem? adj)
                rw [show PySem.W.dataLt c1.key c2.key = _ from elt] at y
                cases y
              | true =>
                refine iteF ⟨_, _, rfl, sB, ?_⟩
                rw [List.take_add_one, adj, List.all_append, a5, show PySem.W.dataLt c1.key c2.key = _ from elt]
                rfl
            · rintro σ H5 ⟨v2, v3, rfl, s5, a5⟩
              rw [List.take_of_length_le (by omega)] at a5
              refine kk _ H5 (sA.trans s5) ?_
              show setOk its = true
              unfold setOk
              rw [hall, decide_eq_true h9, a5]
              rfl
      · rw [decide_eq_true (show (8 : Int) < (xs.length : Int) by omega)]
        refine iteT (iteT (kk _ _ s1 ?_))
        show setOk its = false
        unfold setOk
        rw [decide_eq_false h9, Bool.false_and]
end
end N03

set_option linter.all false
set_option maxRecDepth 100000
set_option maxHeartbeats 4000000
namespace N03
open PySem PySem.Spec PyProof.Rows L2 N01 SK RZ
def nmV (t : Str) : Str := if t = "" then "value" else t
def spRefd (K : PySem.W.Frag) : Sp := fun vs H Q _ => ∃ (x : V) (vl : Vl) (t : Str), vs = [x, .str t] ∧ ValAt K H x vl ∧ t.length ≤ 1000 ∧ (valOk vl = true → ∀ H', Same H H' → Q .non H') ∧
  (valOk vl = false → ∀ H' p, Same H H' → H' p = some (.tup [.str "refused", .str (nmV t)]) → Q (.ref p) H')
def spMade (K : PySem.W.Frag) : Sp := fun vs H Q _ => ∃ (l : Addr) (cs : List Sc), vs = [.ref l] ∧ ScsAt K H l cs ∧ (∀ c ∈ cs, c.clb = true) ∧ cs.length ≤ 7 ∧ ∀ H', Same H H' → Q (.str (if cs.all Sc.okp = true then "" else "set")) H'
structure TxtX (K : PySem.W.Frag) (mg : Str → Option Value) (C : Addr) : Prop where
  gO : mg "OutOfRange" = some (.ref C)
  xf : XfC K C
  noN : PySem.W.findIn K (.ref C) "name" = some none
  exm : PySem.W.exmOne K (.ref C) (.ref C) = some true
section
variable {P : Program} {w : World} {K : PySem.W.Frag} {mg : Str → Option Value} {base : Heap} {C fI : Addr}
theorem scRd : FnScope ["value", "what", "told", "e"] ["value", "what"] (defScope sRefd) := ⟨rfl, rfl, rfl, by decide +kernel, rfl, by decide +kernel, by decide +kernel⟩
theorem ok_refd {f fA : Addr} {fd fdA : FuncData} {dsA : List Value} (F : Fun K "_law_refused" "_law_refused" sRefd f fd) (T : TxtX K mg C) (GA : FnOk P w K mg base (L2.CX P w) 6 fA fdA ["value", "what"] (spCheckV K C))
    (vA : Vals [.str "value"] dsA) (bA : Binds K fdA ["value", "what"] dsA) (bA2 : Binds K fdA ["value", "what"] []) (gA : mg "check_value" = some (.ref fA)) (kA : PySem.W.keepIn K (.ref fA) = true) : FnOk P w K mg base CX0 7 f fd ["value", "what"] (spRefd K) := by
  refine F.ok scRd (fun vs H Q E h => ?_) (fun cdv A outer s H vs Q E hr h => ?_)
  · obtain ⟨x, vl, t, rfl, _⟩ := h
    rfl
  · obtain ⟨x, vl, t, rfl, hv, ht, kt, kf⟩ := h
    refine ⟨_, pss_cons (ps_try_as (i := 3) (tb := fun W => tIfS (tTest (tOp rEq (tVar 1) (tC (.str "")))) (tAsg (tCallSD (spCheckV K C) [.str "value"] (WE W) (tCons (tVar 0) tNil)) (gName 2)) (tAsg (tCallSD (spCheckV K C) [] (WE W) (tCons (tVar 0) (tCons (tVar 1) tNil))) (gName 2)))
      (ts := fun a cls d => tRet (tTup (tCons (tC (.str "refused")) (tCons (tXf a cls d C "name" (tVar 3)) tNil)))) (Wout := fun _ _ _ _ => False) rfl rfl scRd.nd rfl rfl ⟨rfl, by decide, Or.inl T.gO⟩ takes0
      (fun W pn xe tk _ => pss_one (ps_if (pt_cmpR op_eq (pv 1) pe_str (nomark _)) (pss_one (ps_set (i := 2) scRd.nd rfl (Or.inl rfl) (pe_callSD GA hr (by rfl) gA kA bA vA (fun σ => passAt tk σ) (pa_cons (pv 0) pa_nil))))
        (pss_one (ps_set (i := 2) scRd.nd rfl (Or.inl rfl) (pe_callSD GA hr (by rfl) gA kA bA2 .nil (fun σ => passAt tk σ) (pa_cons (pv 0) (pa_cons (pv 1) pa_nil)))))))
      (fun a oe cls d pn hz hf => pss_one (ps_ret (pe_tup (pa_cons pe_str (pa_cons (pe_xf T.xf T.noN hz hf (pv 3)) pa_nil))))))
      (pss_one (ps_ret (pv 2))), ?_⟩
    have ends : ∀ (n : Str) (H' : Hp) (d : Addr), valOk vl = false → nmV t = n → Same H H' → H' d = some (.xd [(("name" : Str), .str n)]) →
        wAs K (.ref C) 3 (fun a cls d => tRet (tTup (tCons (tC (.str "refused")) (tCons (tXf a cls d C "name" (tVar 3)) tNil)))) (fun _ _ _ _ => False) { nx := tRet (tVar 2) { nx := fun _ H' => Q .non H', rt := Q }, rt := Q } (.ref C) (some d) [some x, some (.str t), none, none] H' := by
      intro n H' d ho hn sm hd
      refine ⟨true, T.exm, fun _ a na => ?_, fun q => Bool.noConfusion q⟩
      refine ⟨_, rfl, rfl, rfl, d, _, _, rfl, hd, rfl, (by show 2 ≤ sizeLine; decide), fun p hp => ?_⟩
      refine kf ho _ p (fun b o q => (upd_ne (ne_of_none (sm b o q) hp)).trans (sm b o q)) ?_
      rw [upd_same, hn]
    refine ⟨_, rfl, rfl, _, rfl, ite2 (fun c0 => ?_) (fun c0 => ?_)⟩
    · have c : t = "" := V.str.inj (of_decide_eq_true c0)
      exact ⟨_, rfl, x, vl, _, rfl, hv, by decide +kernel, fun ho H1 s1 => ⟨_, rfl, kt ho H1 s1⟩, fun ho H1 d s1 hd => ends _ H1 d ho (by unfold nmV; rw [if_pos c]) s1 hd⟩
    · have c : ¬ t = "" := fun e => c0 (by rw [e] <;> rfl)
      exact ⟨_, rfl, _, rfl, x, vl, t, rfl, hv, ht, fun ho H1 s1 => ⟨_, rfl, kt ho H1 s1⟩, fun ho H1 d s1 hd => ends _ H1 d ho (by unfold nmV; rw [if_neg c]) s1 hd⟩
theorem scMd : FnScope ["scalars", "e"] ["scalars"] (defScope sMade) := ⟨rfl, rfl, rfl, by decide +kernel, rfl, by decide +kernel, by decide +kernel⟩
theorem ok_made {f fA : Addr} {fd fdA : FuncData} (F : Fun K "_law_made" "_law_made" sMade f fd) (T : TxtX K mg C) (GA : FnOk P w K mg base (L2.CX P w) 5 fA fdA ["scalars"] (spMake K C)) (bA : Binds K fdA ["scalars"] []) (gA : mg "make_set" = some (.ref fA)) (kA : PySem.W.keepIn K (.ref fA) = true) :
    FnOk P w K mg base CX0 6 f fd ["scalars"] (spMade K) := by
  refine F.ok scMd (fun vs H Q E h => ?_) (fun cdv A outer s H vs Q E hr h => ?_)
  · obtain ⟨l, cs, rfl, _⟩ := h
    rfl
  · obtain ⟨l, cs, rfl, hsc, ok, hz, k⟩ := h
    refine ⟨_, pss_cons (ps_try_as (i := 1) (tb := fun W => tDrop (tCallSD (spMake K C) [] (WE W) (tCons (tVar 0) tNil))) (ts := fun a cls d => tRet (tXf a cls d C "name" (tVar 1))) (Wout := fun _ _ _ _ => False) rfl rfl scMd.nd rfl rfl ⟨rfl, by decide, Or.inl T.gO⟩ takes0
      (fun W pn xe tk _ => pss_one (ps_expr (pe_callSD GA hr (by rfl) gA kA bA .nil (fun σ => passAt tk σ) (pa_cons (pv 0) pa_nil))))
      (fun a oe cls d pn hz hf => pss_one (ps_ret (pe_xf T.xf T.noN hz hf (pv 1))))) (pss_one (ps_ret pe_str)), ?_⟩
    refine ⟨_, rfl, l, cs, rfl, hsc, ok, hz, fun ha H1 p s1 => ?_, fun ha H1 d s1 hd => ?_⟩
    · have z := k H1 s1
      rw [if_pos ha] at z
      exact z
    · refine ⟨true, T.exm, fun _ a na => ?_, fun q => Bool.noConfusion q⟩
      refine ⟨_, rfl, rfl, rfl, d, _, _, rfl, hd, rfl, ?_⟩
      have z := k H1 s1
      rw [if_neg (by rw [ha]; decide)] at z
      exact z
end
end N03

set_option linter.all false
set_option maxRecDepth 100000
set_option maxHeartbeats 8000000
namespace N03
open PySem PySem.Spec PyProof.Rows L2 N01 SK RZ
abbrev sLaw : Stmt := top 41
def spLaw (K : PySem.W.Frag) : Sp := fun vs H Q _ => ∃ (a : Addr) (ns : List Int), vs = [.ref a] ∧ SqL K H a (ns.map V.int) ∧ ns.length ≤ 63 ∧ ∀ H', Q (.bl true) H'
structure TxtW (mg : Str → Option Value) : Prop where
  len : mg "len" = none
  range : mg "range" = none
  repr : mg "repr" = none
  list : mg "list" = none
  tuple : mg "tuple" = none
  int : mg "int" = none
  nb : ∃ t, mg "NUMBER_MOST" = some (.int 1000000 t)
  tm : ∃ t, mg "TEXT_MOST" = some (.int 40 t)
section
variable {P : Program} {w : World} {K : PySem.W.Frag} {mg : Str → Option Value} {base : Heap}
theorem ScAt.kept {b : Addr} {H H' : Hp} {v : V} {c : Sc} (h : ScAt H v c) (B : BoxAt H b) (k : Kept b H H') : ScAt H' v c := by
  obtain ⟨p, e, q⟩ := h
  refine ⟨p, e, k.all _ _ q fun z => ?_⟩
  obtain ⟨d, ns, j, h1, _⟩ := B
  rw [z, h1] at q
  cases q
theorem ItAt.put {l : Addr} {H : Hp} {xs ys : List V} {v : V} {j : Option Sc} (hj : ItAt K H v j) (hl : H l = some (.lst xs)) : ItAt K (upd H l (.lst ys)) v j := by
  cases j with
  | some c => exact ⟨hj.1.put hl, hj.2⟩
  | none =>
    obtain ⟨p', q', e1, e2, e3⟩ := hj
    refine ⟨p', q', e1, (upd_ne (fun z => by rw [z, hl] at e2; cases e2)).trans e2, ?_⟩
    rcases e3 with (e3 | ⟨o, e3⟩) | e3
    · exact .inl (.inl ((upd_ne (fun z => by rw [z, hl] at e3; cases e3)).trans e3))
    · exact .inl (.inr ⟨o, (upd_ne (fun z => by rw [z, hl] at e3; cases e3)).trans e3⟩)
    · exact .inr e3
theorem eqv_nil (cs : List Sc) : PyData.eqv (.list (cs.map Sc.dat)) (.list []) = cs.isEmpty := by
  cases cs <;> rfl
theorem its_of {H : Hp} : ∀ {xs : List V} {cs : List Sc}, Paired (ScAt H) xs cs → (∀ c ∈ cs, c.ok = true) → Paired (ItAt K H) xs (cs.map some)
  | _, _, .nil, _ => .nil
  | _, _, .cons h t, o => .cons ⟨h, ok_cl (o _ List.mem_cons_self)⟩ (its_of t fun c hc => o c (List.mem_cons_of_mem _ hc))
theorem paired_take' {α β : Type} {F : α → β → Prop} : ∀ (n : Nat) {xs : List α} {ys : List β}, Paired F xs ys → Paired F (xs.take n) (ys.take n)
  | 0, _, _, _ => .nil
  | _ + 1, _, _, .nil => .nil
  | n + 1, _, _, .cons h t => .cons h (paired_take' n t)
theorem paired_drop' {α β : Type} {F : α → β → Prop} : ∀ (n : Nat) {xs : List α} {ys : List β}, Paired F xs ys → Paired F (xs.drop n) (ys.drop n)
  | 0, _, _, h => h
  | _ + 1, _, _, .nil => .nil
  | n + 1, _, _, .cons _ t => paired_drop' n t
theorem paired_app' {α β : Type} {F : α → β → Prop} : ∀ {xs zs : List α} {ys ws : List β}, Paired F xs ys → Paired F zs ws → Paired F (xs ++ zs) (ys ++ ws)
  | _, _, _, _, .nil, h => h
  | _, _, _, _, .cons a t, h => .cons a (paired_app' t h)
theorem can_len (cs : List Sc) : (canS cs).length ≤ cs.length := by
  unfold canS
  rw [List.length_mergeSort]
  have := nb_len cs []
  rw [List.length_nil] at this
  omega
mutual
theorem dp_same {H H' : Hp} (e : Same H H') : ∀ (d : PyData) (v : V), Dp K H v d → Dp K H' v d
  | .none, _, h => by cases h; exact .non
  | .bool b, _, h => by cases h; exact .bl b
  | .int i, _, h => by cases h; exact .int i
  | .str x, _, h => by cases h; exact .str x
  | .list ds, _, h => by
    cases h with
    | lst a b => exact .lst (e.seq a) (dp_sameAll e ds _ b)
  | .tuple ds, _, h => by
    cases h with
    | tup a b => exact .tup (tup_same e a) (dp_sameAll e ds _ b)
  | .dict _, _, h => by cases h
theorem dp_sameAll {H H' : Hp} (e : Same H H') : ∀ (ds : List PyData) (vs : List V), DpAll K H vs ds → DpAll K H' vs ds
  | [], _, h => by cases h; exact .nil
  | d :: ds, _, h => by
    cases h with
    | cons a b => exact .cons (dp_same e d _ a) (dp_sameAll e ds _ b)
end
def tOf (t : Str) : Str := if t = "told" then t else ""
def dueV (ok : Bool) (t : Str) : PyData := if ok = true then .none else .tuple [.str "refused", .str t]
theorem due_shaped {ok : Bool} {t : Str} (h : t = "value" ∨ t = "told") : SeqAt.shaped (dueV ok t) = true := by
  cases ok <;> rcases h with rfl | rfl <;> decide +kernel
theorem due_eqv {ok : Bool} {t : Str} (h : t = "value" ∨ t = "told") : PyData.eqv (dueV ok t) (dueV ok t) = true := by
  cases ok <;> rcases h with rfl | rfl <;> decide +kernel
theorem tOf_name {t : Str} (h : t = "value" ∨ t = "told") : nmV (tOf t) = t ∧ (tOf t).length ≤ 1000 := by
  rcases h with rfl | rfl <;> decide +kernel
theorem set_join {i : Nat} {x : V} {σ : L2.St} {H : Hp} {N : L2.St → Hp → Prop} (h : N (σ.set i (some x)) H) : gName i x σ H N := h
theorem seq_join {t u : TS} {D : Ends} {σ : L2.St} {H : Hp} (R : L2.St → Hp → Prop) (h1 : ∀ N : L2.St → Hp → Prop, (∀ σ' H', R σ' H' → N σ' H') → t { D with nx := N } σ H) (h2 : ∀ σ' H', R σ' H' → u D σ' H') : tSeq t u D σ H := h1 _ h2
theorem scLaw : FnScope ["script", "box", "uids", "turn", "value", "kind", "items", "step", "good", "what", "due"] ["script"] (defScope sLaw) := ⟨rfl, rfl, rfl, by decide +kernel, rfl, by decide +kernel, by decide +kernel⟩
theorem ok_law {f : Addr} {fd : FuncData} (F : Fun K "law" "law" sLaw f fd) (T : TxtW mg)
    (cD : Cal P w K mg base 2 "_law_digits" ["script", "first", "last"] (spDig K)) (cU : Cal P w K mg base 4 "_law_uids" ["box", "many"] spUids) (cW : Cal P w K mg base 1 "_law_draw" ["box", "many"] spDraw) (cS : Cal P w K mg base 3 "_law_scalar" ["box", "uids"] spSca)
    (cO : Cal P w K mg base 4 "_law_odd" ["box", "uids"] spOdd) (cE : Cal P w K mg base 4 "_law_set" ["scalars", "most"] (spSet K)) (cG : Cal P w K mg base 3 "_law_good_value" ["value"] (spGoodV K)) (cV : Cal P w K mg base 5 "is_value" ["value"] (spValue K))
    (cR : Cal P w K mg base 7 "_law_refused" ["value", "what"] (spRefd K)) (cM : Cal P w K mg base 6 "_law_made" ["scalars"] (spMade K)) :
    FnOk P w K mg base CX0 8 f fd ["script"] (spLaw K) := by
  refine F.ok scLaw (fun vs H Q E h => ?_) (fun cdv A outer s H vs Q E hr h => ?_)
  · obtain ⟨a, ns, rfl, _⟩ := h
    rfl
  · obtain ⟨a, ns, rfl, hs, hlen, k⟩ := h
    obtain ⟨tN, hN⟩ := T.nb
    obtain ⟨tT, hT⟩ := T.tm
    have hu : (A.deeper (envOfC "law" (defScope sLaw) s.heap.objs.size f cdv)).units + 64 < cLine := hr.units
    refine ⟨_, pss_cons (ps_set (i := 1) scLaw.nd rfl (Or.inl rfl) (pe_lst (pa_cons (pe_cal cD hr (by decide) (by rfl) (pa_cons (pv 0) (pa_cons pe_int (pa_cons pe_int pa_nil)))) (pa_cons pe_int pa_nil))))
      (pss_cons (ps_set (i := 2) scLaw.nd rfl (Or.inl rfl) (pe_cal cU hr (by decide) (by rfl) (pa_cons (pv 1) (pa_cons pe_int pa_nil))))
      (pss_cons (ps_if (PW.pt (pw_or (pt_cmpR op_ne (pe_glob (v := .int 1000000) rfl hN ⟨_, rfl⟩) pe_int (nomark _)) (pw_or1 (pt_cmpR op_ne (pe_glob (v := .int 40) rfl hT ⟨_, rfl⟩) pe_int (nomark _))))) (pss_one (ps_ret pe_bl)) pss_nil)
      (pss_cons (ps_for PassesOwn.never rfl (pi_range1 (by rfl) T.range (pa_cons pe_int pa_nil)) (pg_name (i := 3) scLaw.nd rfl (Or.inl rfl))
        (pss_cons (ps_set (i := 4) scLaw.nd rfl (Or.inl rfl) (pe_cal cO hr (by decide) (by rfl) (pa_cons (pv 1) (pa_cons (pv 2) pa_nil))))
        (pss_cons (ps_set (i := 5) scLaw.nd rfl (Or.inl rfl) (pe_cal cW hr (by decide) (by rfl) (pa_cons (pv 1) (pa_cons pe_int pa_nil))))
        (pss_cons (ps_if (pt_cmpR op_eq (pv 5) pe_int (nomark _))
          (pss_cons (ps_set (i := 6) scLaw.nd rfl (Or.inl rfl) (pe_lst pa_nil))
          (pss_cons (ps_for PassesOwn.never rfl (pi_range1 (by rfl) T.range (pa_cons (pe_cal cW hr (by decide) (by rfl) (pa_cons (pv 1) (pa_cons pe_int pa_nil))) pa_nil)) (pg_name (i := 7) scLaw.nd rfl (Or.inl rfl))
            (pss_one (ps_expr (pe_bm PySem.F.plainAttrs_list PySem.F.slot_list_append PySem.F.type_list_append mt_append (pv 6) (pa_cons (pe_cal cS hr (by decide) (by rfl) (pa_cons (pv 1) (pa_cons (pv 2) pa_nil))) pa_nil)))))
          (pss_cons (ps_if (pt_cmpR op_eq (pe_cal cW hr (by decide) (by rfl) (pa_cons (pv 1) (pa_cons pe_int pa_nil))) pe_int (nomark _))
            (pss_one (ps_set (i := 6) scLaw.nd rfl (Or.inl rfl) (pe_callTy call_list_of (by rfl) T.list (by decide +kernel) (pa_cons (pe_ix ix_tup (pe_cal cE hr (by decide) (by rfl) (pa_cons (pv 6) (pa_cons pe_int pa_nil))) pe_int (fun _ _ => rfl)) pa_nil)))) pss_nil)
          (pss_cons (ps_if (PW.pt (pw_and (pt_cmpR (op_neD hu) (pv 6) (pe_lst pa_nil) (nomark _)) (pw_and1 (pt_cmpR op_eq (pe_cal cW hr (by decide) (by rfl) (pa_cons (pv 1) (pa_cons pe_int pa_nil))) pe_int (nomark _)))))
            (pss_one (ps_expr (pe_bm PySem.F.plainAttrs_list PySem.F.slot_list_insert PySem.F.type_list_insert mt_insert (pv 6) (pa_cons (pe_cal cW hr (by decide) (by rfl) (pa_cons (pv 1) (pa_cons (pe_callB call_len_seq (by rfl) T.len PySem.boot_len (pa_cons (pv 6) pa_nil)) pa_nil)))
              (pa_cons (pe_ix ix_list (pe_lst (pa_cons (pv 4) (pa_cons (pe_ix ix_list (pv 6) (pe_un un_neg pe_int) (fun _ _ => rfl)) (pa_cons (pe_tup (pa_cons pe_str (pa_cons (pe_tup pa_nil) pa_nil))) pa_nil)))) (pe_cal cW hr (by decide) (by rfl) (pa_cons (pv 1) (pa_cons pe_int pa_nil))) (fun _ _ => rfl)) pa_nil))))) pss_nil)
          (pss_one (ps_set (i := 4) scLaw.nd rfl (Or.inl rfl) (pe_tup (pa_cons pe_str (pa_cons (pe_callTy call_tuple_of (by rfl) T.tuple (by decide +kernel) (pa_cons (pv 6) pa_nil)) pa_nil)))))))))
          pss_nil)
        (pss_cons (ps_set (i := 8) scLaw.nd rfl (Or.inl rfl) (pe_cal cG hr (by decide) (by rfl) (pa_cons (pv 4) pa_nil)))
        (pss_cons (ps_if (pt_cmpR op_ne (pe_callB call_repr_bl (by rfl) T.repr (by decide +kernel) (pa_cons (pe_cal cV hr (by decide) (by rfl) (pa_cons (pv 4) pa_nil)) pa_nil)) (pe_callB call_repr_bl (by rfl) T.repr (by decide +kernel) (pa_cons (pv 8) pa_nil)) (nomark _)) (pss_one (ps_ret pe_bl)) pss_nil)
        (pss_cons (ps_for PassesOwn.never rfl (pi_tup (pe_tup (pa_cons pe_str (pa_cons pe_str pa_nil)))) (pg_name (i := 9) scLaw.nd rfl (Or.inl rfl))
          (pss_cons (ps_set (i := 10) scLaw.nd rfl (Or.inl rfl) (pe_tup (pa_cons pe_str (pa_cons (pv 9) pa_nil))))
          (pss_cons (ps_if (pt_val (pv 8) (fun _ => rfl)) (pss_one (ps_set (i := 10) scLaw.nd rfl (Or.inl rfl) pe_non)) pss_nil)
          (pss_one (ps_if (pt_cmpR (op_neD hu) (pe_cal cR hr (by decide) (by rfl) (pa_cons (pv 4) (pa_cons (pe_ix ix_list (pe_lst (pa_cons pe_str (pa_cons (pv 9) pa_nil))) (pe_callTy call_int1 (by rfl) T.int (by decide +kernel) (pa_cons (pe_cmpR op_eq (pv 9) pe_str (nomark _)) pa_nil)) (fun _ _ => rfl)) pa_nil))) (pv 10) (nomark _)) (pss_one (ps_ret pe_bl)) pss_nil)))))
        (pss_one (ps_if (PW.pt (pw_and (pt_cmpR op_ne (pe_ix ix_tup (pv 4) pe_int (fun _ _ => rfl)) pe_str (nomark _)) (pw_and1 (pt_cmpR op_ne (pe_cal cM hr (by decide) (by rfl) (pa_cons (pe_lst (pa_cons (pe_tup (pa_cons pe_str (pa_cons pe_int pa_nil))) (pa_cons (pv 4) pa_nil))) pa_nil)) (pe_ifExp (pt_val (pv 8) (fun _ => rfl)) pe_str pe_str) (nomark _)))))
          (pss_one (ps_ret pe_bl)) pss_nil)))))))))
      (pss_one (ps_ret pe_bl))))), ?_⟩
    have b16 : sizeLine = 16777216 := sizeLine_eq
    refine ⟨_, rfl, a, ns, rfl, hs, fun H1 pd ms s1 np p1 lp => ⟨(by show 2 ≤ sizeLine; decide), fun b nb => ?_⟩⟩
    have B0 : BoxAt (upd H1 b (.lst [.ref pd, .int 0])) b := ⟨pd, ms, 0, upd_same, (upd_ne (ne_of_none p1 nb)).trans p1, lp⟩
    refine ⟨_, rfl, b, rfl, B0, fun H3 u us k3 n3 e3 l3 o3 => ?_⟩
    have B3 := B0.kept k3
    have nub : u ≠ b := (B0.ne n3).symm
    have upos : 0 < us.length := by omega
    refine ⟨rfl, _, rfl, iteNS rfl ⟨rfl, _, rfl, iteNS rfl ?_⟩⟩
    refine ⟨10, rfl, by decide, by decide, for_range (lo := 0) (n := 10) (fun i σ H' => ∃ v3 v4 v5 v6 v7 v8 v9 v10 : Option V, σ = [some (.ref a), some (.ref b), some (.ref u), v3, v4, v5, v6, v7, v8, v9, v10] ∧ BoxAt H' b ∧ H' u = some (.lst (us.map V.str)))
      ⟨none, none, none, none, none, none, none, none, rfl, B3, e3⟩ ?_ (fun σ H' _ => k H')⟩
    rintro i σ H6 hi ⟨v3, v4, v5, v6, v7, v8, v9, v10, rfl, B6, hu6⟩
    refine ⟨_, rfl, _, rfl, b, u, us, rfl, B6, hu6, nub, upos, o3, fun c H7 q oc k7 hq => ?_⟩
    have B7 := B6.kept k7
    refine ⟨_, rfl, b, 4, rfl, by decide, B7, fun kd H8 d0 d1 B8 k8 => ?_⟩
    have hv8 : ScAt H8 (.ref q) c := ScAt.kept ⟨q, rfl, hq⟩ B7 k8
    have hu8 : H8 u = some (.lst (us.map V.str)) := (k7.trans k8).all _ _ hu6 nub
    refine set_join ?_
    dsimp only [List.set]
    refine seq_join (t := tIfS _ _ _) (fun σ' H' => ∃ (x : V) (vl : Vl) (v6 v7 : Option V), σ' = [some (.ref a), some (.ref b), some (.ref u), some (.int (0 + i)), some x, some (.int kd), v6, v7, v8, v9, v10] ∧ ValAt K H' x vl ∧ BoxAt H' b ∧ H' u = some (.lst (us.map V.str))) ?_ ?_
    · intro N hN
      refine ⟨_, rfl, rfl, _, rfl, ite2 (fun _ => ?_) (fun _ => hN _ _ ⟨_, .sc c, _, _, rfl, ⟨hv8, oc⟩, B8, hu8⟩)⟩
      refine ⟨Nat.zero_le _, fun l hl => ?_⟩
      have nbl := B8.ne hl
      refine ⟨_, rfl, b, 10, rfl, by decide, B8.new hl, fun d H9 d0 d1 B9 k9 => ⟨_, rfl, by omega, by omega, for_range (lo := 0) (n := d.toNat) (fun j σ H' => ∃ (v7 : Option V) (xs : List V) (cs : List Sc), σ = [some (.ref a), some (.ref b), some (.ref u), some (.int (0 + i)), some (.ref q), some (.int kd), some (.ref l), v7, v8, v9, v10] ∧
        H' l = some (.lst xs) ∧ Paired (ScAt H') xs cs ∧ (∀ c ∈ cs, c.ok = true) ∧ cs.length = j ∧ Kept b H8 H') ⟨_, [], [], rfl, k9.all _ _ upd_same nbl.symm, .nil, (fun _ h => nomatch h), rfl, ((Kept.refl H8).upd hl nbl).trans k9⟩ ?_ ?_⟩⟩
      · rintro j σ H10 hj ⟨w7, xs, cs, rfl, q1, q2, q3, q4, q5⟩
        have hxl := q2.length
        refine ⟨_, rfl, Or.inl ⟨rfl, _, SqL.of q1⟩, _, rfl, _, rfl, b, u, us, rfl, B8.kept q5, q5.all _ _ hu8 nub, nub, upos, o3, fun c' H11 r o k11 hr => ?_⟩
        have hl11 := k11.all _ _ q1 nbl.symm
        refine ⟨l, xs, .ref r, rfl, rfl, hl11, by omega, _, xs ++ [.ref r], cs ++ [c'], rfl, upd_same, snoc_vals (ScAt.put ⟨r, rfl, hr⟩ hl11) (Paired.imp2 (fun _ _ z => (ScAt.kept z (B8.kept q5) k11).put hl11) q2), fun e he => ?_, by rw [List.length_append, List.length_singleton, q4], (q5.trans k11).upd hl nbl⟩
        rcases List.mem_append.mp he with z | z
        · exact q3 e z
        · rw [List.mem_singleton.mp z]; exact o
      · rintro σ H10 ⟨w7, xs, cs, rfl, q1, q2, q3, q4, q5⟩
        dsimp only
        refine seq_join (t := tIfS _ _ _) (fun σ' H' => ∃ (l : Addr) (xs : List V) (cs : List Sc), σ' = [some (.ref a), some (.ref b), some (.ref u), some (.int (0 + i)), some (.ref q), some (.int kd), some (.ref l), w7, v8, v9, v10] ∧ H' l = some (.lst xs) ∧ Paired (ScAt H') xs cs ∧ (∀ c ∈ cs, c.ok = true) ∧ cs.length ≤ 9 ∧ Kept b H8 H' ∧ H8 l = none) ?_ ?_
        · intro N hN
          refine ⟨_, rfl, b, 2, rfl, by decide, B8.kept q5, fun z H11 z0 z1 B11 k11 => ?_⟩
          have hl11 := k11.all _ _ q1 nbl.symm
          have p11 := Paired.imp2 (fun _ _ z => ScAt.kept z (B8.kept q5) k11) q2
          refine ⟨rfl, _, rfl, ite2 (fun _ => ?_) (fun _ => hN _ _ ⟨l, xs, cs, rfl, hl11, p11, q3, by omega, q5.trans k11, hl⟩)⟩
          refine ⟨_, rfl, l, cs, rfl, ⟨xs, SqL.of hl11, p11⟩, q3, by omega, fun H12 p q' us' s12 hp hq' hus => ?_⟩
          refine ⟨p, _, 1, _, rfl, rfl, SqT.of hp, atI_nat (j := 1) rfl, q', us', rfl, .inr (SqT.of hq'), fun l2 hl2 => ?_⟩
          have K12 : Kept b H8 H12 := (q5.trans k11).trans (Kept.same s12)
          have n2 : b ≠ l2 := (B8.kept K12).ne hl2
          have cl := can_len cs
          exact hN _ _ ⟨l2, us', canS cs, rfl, upd_same, scs_same hus (fun b o z => (upd_ne (ne_of_none z hl2)).trans z), fun c hc => q3 c ((can_mem cs c).mp hc), by omega, K12.new hl2, K12.none hl2 n2⟩
        · clear hl nbl q1 q2 q3 q4 q5 xs cs
          rintro σ' H11 ⟨l, xs, cs, rfl, q1, q2, q3, q4, q5, hl⟩
          have nbl : b ≠ l := B8.ne hl
          have hxl := q2.length
          have B11 := B8.kept q5
          refine seq_join (t := tIfS _ _ _) (fun σ' H' => ∃ (xs : List V) (its : List (Option Sc)), σ' = [some (.ref a), some (.ref b), some (.ref u), some (.int (0 + i)), some (.ref q), some (.int kd), some (.ref l), w7, v8, v9, v10] ∧ H' l = some (.lst xs) ∧ Paired (ItAt K H') xs its ∧ xs.length ≤ 10 ∧ Kept b H8 H') ?_ ?_
          · intro N hN
            refine ⟨_, rfl, Nat.zero_le _, fun e he => ?_⟩
            have s12 : Same H11 (upd H11 e (.lst [])) := fun c o z => (upd_ne (ne_of_none z he)).trans z
            have hl12 := s12 _ _ q1
            have p12 := scs_same q2 s12
            have K12 := q5.trans (Kept.same s12)
            have B12 := B8.kept K12
            refine ⟨.list (cs.map Sc.dat), .list [], .lst (SqL.of hl12) (dp_all p12), .lst (SqL.of upd_same) .nil, list_shaped q3, by decide +kernel, _, rfl, ?_⟩
            rw [eqv_nil]
            cases hce : cs.isEmpty with
            | true => exact iteF (iteF (hN _ _ ⟨xs, cs.map some, rfl, hl12, its_of p12 q3, by omega, K12⟩))
            | false =>
              have hpos : 0 < xs.length := by
                cases cs with
                | nil => cases hce
                | cons c cs => rw [hxl]; simp
              refine iteT ⟨_, rfl, b, 3, rfl, by decide, B12, fun z H13 z0 z1 B13 k13 => ⟨rfl, _, rfl, ?_⟩⟩
              have hl13 := k13.all _ _ hl12 nbl.symm
              have p13 := Paired.imp2 (fun _ _ z => ScAt.kept z B12 k13) p12
              have K13 := K12.trans k13
              refine ite2 (fun _ => ?_) (fun _ => hN _ _ ⟨xs, cs.map some, rfl, hl13, its_of p13 q3, by omega, K13⟩)
              refine ⟨_, rfl, Or.inl ⟨rfl, _, SqL.of hl13⟩, _, rfl, _, rfl, l, xs, rfl, .inl (SqL.of hl13), b, _, rfl, by omega, B13, fun y H14 y0 y1 B14 k14 => ?_⟩
              have hl14 := k14.all _ _ hl13 nbl.symm
              have p14 := Paired.imp2 (fun _ _ z => ScAt.kept z B13 k14) p13
              have K14 := K13.trans k14
              obtain ⟨ys, lx, rfl⟩ : ∃ ys lx, xs = ys ++ [lx] := ⟨xs.dropLast, xs.getLast (by intro z; rw [z] at hpos; cases hpos), (List.dropLast_concat_getLast _).symm⟩
              have glast : (ys ++ [lx])[ys.length]? = some lx := by simp
              obtain ⟨lc, hlc, hlx⟩ := paired_get p14 glast
              refine ⟨_, rfl, _, rfl, _, rfl, l, _, _, lx, rfl, rfl, SqL.of hl14, atI_last ys lx, Nat.zero_le _, fun t1 ht1 => ⟨(by show 2 ≤ sizeLine; decide), fun t2 ht2 => ⟨(by show 3 ≤ sizeLine; decide), fun l3 hl3 => ?_⟩⟩⟩
              have u1 : ∀ o, Same H14 (upd H14 t1 o) := fun o c v z => (upd_ne (ne_of_none z ht1)).trans z
              have u2 := fun (X : Hp) (hx : X t2 = none) (o : HO) => (fun c v z => (upd_ne (ne_of_none z hx)).trans z : Same X (upd X t2 o))
              have u3 := fun (X : Hp) (hx : X l3 = none) (o : HO) => (fun c v z => (upd_ne (ne_of_none z hx)).trans z : Same X (upd X l3 o))
              have sU := ((u1 (.tup [])).trans (u2 _ ht2 (.tup [.str "set", .ref t1]))).trans (u3 _ hl3 (.lst [.ref q, lx, .ref t2]))
              have nb3 : b ≠ l3 := (((B14.same (u1 (.tup []))).same (u2 _ ht2 (.tup [.str "set", .ref t1])))).ne hl3
              refine ⟨_, rfl, b, 3, rfl, by decide, B14.same sU, fun z' H18 z2 z3 B18 k18 => ?_⟩
              have K18 := (K14.trans (Kept.same sU)).trans k18
              have kU := (Kept.same sU : Kept b H14 _).trans k18
              have hl18 := kU.all _ _ hl14 nbl.symm
              have h3 := k18.all _ _ upd_same nb3.symm
              have p18 := Paired.imp2 (fun _ _ z => ScAt.kept z B14 kU) p14
              have x18 : ScAt H18 lx lc := hlx.kept B14 kU
              have q18 : ScAt H18 (.ref q) c := hv8.kept B8 K18
              have e1 : H18 t1 = some (.tup []) := k18.all _ _ ((u3 _ hl3 _) _ _ ((u2 _ ht2 _) _ _ upd_same)) (fun z => by
                have := B14.ne ht1
                exact this z.symm)
              have e2 : H18 t2 = some (.tup [.str "set", .ref t1]) := k18.all _ _ ((u3 _ hl3 _) _ _ upd_same) (fun z => (B14.same (u1 (.tup []))).ne ht2 z.symm)
              have olc : lc.ok = true := q3 lc (List.mem_of_getElem? hlc)
              obtain ⟨n, rfl⟩ : ∃ n : Nat, z' = n := ⟨z'.toNat, by omega⟩
              obtain ⟨pick, it, hat, hit⟩ : ∃ pick it, ([V.ref q, lx, V.ref t2])[n]? = some pick ∧ ItAt K H18 pick it := by
                have n3 : n < 3 := by omega
                match n, n3 with
                | 0, _ => exact ⟨_, some c, rfl, q18, oc⟩
                | 1, _ => exact ⟨_, some lc, rfl, x18, ok_cl olc⟩
                | 2, _ => exact ⟨_, none, rfl, t2, t1, rfl, e2, SqT.of e1⟩
              refine ⟨l3, _, _, pick, rfl, rfl, SqL.of h3, atI_nat hat, l, _, y, pick, rfl, rfl, hl18, by omega, y0, by omega, ?_⟩
              have I18 := its_of (K := K) p18 q3
              have mv : ∀ (v : V) (j : Option Sc), ItAt K H18 v j → ItAt K (upd H18 l (.lst ((ys ++ [lx]).take y.toNat ++ [pick] ++ (ys ++ [lx]).drop y.toNat))) v j := fun v j z => z.put hl18
              exact hN _ _ ⟨_, (cs.map some).take y.toNat ++ [it] ++ (cs.map some).drop y.toNat, rfl, upd_same, Paired.imp2 mv (paired_app' (paired_app' (paired_take' _ I18) (.cons hit .nil)) (paired_drop' _ I18)), by
                rw [List.length_append, List.length_append, List.length_take, List.length_drop, List.length_singleton]; omega, K18.upd hl nbl⟩
          · clear q1 q2 q3 q4 q5 hxl B11 xs cs
            rintro σ' H12 ⟨xs, its, rfl, q1, q2, q3, q4⟩
            refine ⟨_, rfl, l, xs, rfl, .inl ⟨SqL.of q1, fun t ht => ⟨(by show 2 ≤ sizeLine; decide), fun v hv => ?_⟩⟩⟩
            have sA : Same H12 (upd H12 t (.tup xs)) := fun c o z => (upd_ne (ne_of_none z ht)).trans z
            have sB := fun (o : HO) => (fun c v' z => (upd_ne (ne_of_none z hv)).trans z : Same (upd H12 t (.tup xs)) (upd (upd H12 t (.tup xs)) v o))
            have sC := sA.trans (sB (.tup [.str "set", .ref t]))
            have KC := q4.trans (Kept.same sC)
            exact hN _ _ ⟨_, .st its, _, _, rfl, ⟨v, t, xs, rfl, upd_same, SqT.of (sB _ _ _ upd_same), its_same q2 sC, by omega⟩, B8.kept KC, KC.all _ _ hu8 nub⟩
    · rintro σ' H9 ⟨x, vl, w6, w7, rfl, hv, B9, hu9⟩
      refine ⟨_, rfl, x, vl, rfl, hv, fun H10 s10 => ?_⟩
      refine ⟨_, rfl, x, vl, rfl, hv.same s10, fun H11 s11 => ⟨_, rfl, _, rfl, _, rfl, rfl, _, rfl, iteNS rfl ?_⟩⟩
      have hv11 := (hv.same s10).same s11
      have B11 := (B9.same s10).same s11
      have hu11 := s11 _ _ (s10 _ _ hu9)
      refine ⟨(by show 2 ≤ sizeLine; decide), fun tp htp => ⟨tp, rfl, ⟨_, SqT.of upd_same⟩, for_it (walk_tup (xs := [.str "value", .str "told"])) (fun j σ H' => ∃ v9 v10 : Option V, σ = [some (.ref a), some (.ref b), some (.ref u), some (.int (0 + i)), some x, some (.int kd), w6, w7, some (.bl (valOk vl)), v9, v10] ∧ Same (upd H11 tp (.tup [.str "value", .str "told"])) H')
        ⟨_, _, rfl, Same.refl _⟩ (fun j σ H' _ ⟨_, _, _, z⟩ => SqT.of (z _ _ upd_same)) ?_ ?_⟩⟩
      · rintro j y σ H130 H13 hj ⟨w9, w10, rfl, s13⟩ ⟨rfl, hy⟩
        have sT : Same H11 H13 := fun c o z => s13 _ _ ((upd_ne (ne_of_none z htp)).trans z)
        have hv13 := hv11.same sT
        obtain ⟨t, rfl, ht⟩ : ∃ t : Str, y = .str t ∧ (t = "value" ∨ t = "told") := by
          match j, hj, hy with
          | 0, _, hy => cases hy; exact ⟨_, rfl, .inl rfl⟩
          | 1, _, hy => cases hy; exact ⟨_, rfl, .inr rfl⟩
        refine ⟨_, rfl, (by show 2 ≤ sizeLine; decide), fun dp hdp => ?_⟩
        have s14 : Same H13 (upd H13 dp (.tup [.str "refused", .str t])) := fun c o z => (upd_ne (ne_of_none z hdp)).trans z
        dsimp only
        refine set_join ?_
        dsimp only [List.set]
        refine seq_join (t := tIfS _ _ _) (fun σ' H' => ∃ (d : V), σ' = [some (.ref a), some (.ref b), some (.ref u), some (.int (0 + i)), some x, some (.int kd), w6, w7, some (.bl (valOk vl)), some (.str t), some d] ∧ Dp K H' d (dueV (valOk vl) t) ∧ Same H13 H') ?_ ?_
        · intro N hN
          refine ⟨_, rfl, _, rfl, ite2 (fun e => hN _ _ ⟨_, rfl, ?_, s14⟩) (fun e => hN _ _ ⟨_, rfl, ?_, s14⟩)⟩
          · unfold dueV
            rw [if_pos e]
            exact .non
          · unfold dueV
            rw [if_neg e]
            exact .tup (SqT.of upd_same) (.cons (.str _) (.cons (.str _) .nil))
        · rintro σ' H15 ⟨d, rfl, hd, s15⟩
          refine ⟨_, rfl, _, rfl, (by show 2 ≤ sizeLine; decide), fun l hl => ⟨_, rfl, rfl, .inr ⟨_, rfl, ?_⟩⟩⟩
          have s16 : Same H15 (upd H15 l (.lst [.str "", .str t])) := fun c o z => (upd_ne (ne_of_none z hl)).trans z
          obtain ⟨tn, tl⟩ := tOf_name ht
          have hat : atI [V.str "", V.str t] (if decide (V.str t = V.str "told") = true then 1 else 0) = some (.str (tOf t)) := by
            rcases ht with rfl | rfl <;> rfl
          refine ⟨l, _, _, .str (tOf t), rfl, rfl, SqL.of upd_same, hat, x, vl, tOf t, rfl, (hv13.same s15).same s16, tl, ?_, ?_⟩
          · intro e H17 s17
            refine ⟨_, rfl, dueV (valOk vl) t, dueV (valOk vl) t, ?_, dp_same (s16.trans s17) _ _ hd, due_shaped ht, due_shaped ht, _, rfl, ?_⟩
            · unfold dueV
              rw [if_pos e]
              exact .non
            · rw [due_eqv ht]
              exact iteF ⟨_, _, rfl, ((s13.trans s15).trans s16).trans s17⟩
          · intro e H17 p s17 hp
            refine ⟨_, rfl, dueV (valOk vl) t, dueV (valOk vl) t, ?_, dp_same (s16.trans s17) _ _ hd, due_shaped ht, due_shaped ht, _, rfl, ?_⟩
            · unfold dueV
              rw [e, if_neg (by decide)]
              rw [tn] at hp
              exact .tup (SqT.of hp) (.cons (.str _) (.cons (.str _) .nil))
            · rw [due_eqv ht]
              exact iteF ⟨_, _, rfl, ((s13.trans s15).trans s16).trans s17⟩
      · rintro σ H13 ⟨w9, w10, rfl, s13⟩
        have sT : Same H11 H13 := fun c o z => s13 _ _ ((upd_ne (ne_of_none z htp)).trans z)
        have hv13 := hv11.same sT
        have B13 := B11.same sT
        have hu13 := sT _ _ hu11
        cases vl with
        | st its =>
          obtain ⟨p, q', xs, rfl, hp, hq', hx, hz⟩ := hv13
          refine ⟨_, rfl, p, _, 0, _, rfl, rfl, SqT.of hp, atI_nat (j := 0) rfl, rfl, _, rfl, iteNS rfl (iteF ?_)⟩
          exact ⟨_, _, _, _, _, _, _, _, rfl, B13, hu13⟩
        | sc c' =>
          obtain ⟨⟨p, rfl, hp⟩, hc⟩ := hv13
          refine ⟨_, rfl, p, _, 0, _, rfl, rfl, SqT.of hp, atI_nat (j := 0) rfl, rfl, _, rfl, ?_⟩
          rw [str_ne (kind_ne_set c')]
          refine iteT ⟨(by show 2 ≤ sizeLine; decide), fun t1 ht1 => ⟨_, rfl, (by show 2 ≤ sizeLine; decide), fun l1 hl1 => ?_⟩⟩
          have sA : Same H13 (upd H13 t1 (.tup [.str "number", .int 1])) := fun c o z => (upd_ne (ne_of_none z ht1)).trans z
          have sB : Same (upd H13 t1 (.tup [.str "number", .int 1])) (upd (upd H13 t1 (.tup [.str "number", .int 1])) l1 (.lst [.ref t1, .ref p])) := fun c o z => (upd_ne (ne_of_none z hl1)).trans z
          refine ⟨l1, [.nu 1, c'], rfl, ⟨_, SqL.of upd_same, .cons ⟨t1, rfl, sB _ _ upd_same⟩ (.cons ⟨p, rfl, sB _ _ (sA _ _ hp)⟩ .nil)⟩, ?_, (by show 2 ≤ 7; decide), fun H16 s16 => ?_⟩
          · intro d hd
            rcases List.mem_cons.mp hd with rfl | z
            · decide +kernel
            · rw [List.mem_singleton.mp z]; exact hc
          have sF := (sA.trans sB).trans s16
          refine ⟨_, rfl, _, rfl, ?_⟩
          have ek : (([.nu 1, c'] : List Sc).all Sc.okp) = c'.okp := by
            rw [List.all_cons, List.all_cons, List.all_nil, Bool.and_true, show Sc.okp (.nu 1) = true from by decide +kernel, Bool.true_and]
          rw [ek]
          have Z : ∃ v3 v4 v5 v6 v7 v8 v9 v10 : Option V, [some (V.ref a), some (.ref b), some (.ref u), some (.int (0 + i)), some (.ref p), some (.int kd), w6, w7, some (.bl (valOk (.sc c'))), w9, w10] = [some (.ref a), some (.ref b), some (.ref u), v3, v4, v5, v6, v7, v8, v9, v10] ∧ BoxAt H16 b ∧ H16 u = some (.lst (us.map V.str)) := ⟨_, _, _, _, _, _, _, _, rfl, B13.same sF, sF _ _ hu13⟩
          refine ite2 (fun e => ?_) (fun e => ?_)
          · rw [if_pos (show c'.okp = true from e)]
            exact ⟨rfl, _, rfl, iteNS rfl Z⟩
          · rw [if_neg (show ¬ c'.okp = true from e)]
            exact ⟨rfl, _, rfl, iteNS rfl Z⟩
end
end N03

set_option linter.all false
set_option maxRecDepth 100000
set_option maxHeartbeats 8000000
namespace N03
open PySem PySem.Spec PyProof.Rows L2 N01 SK RZ
theorem all_mk {l : PySem.W.OpenLaw} {w : World} {K : PySem.W.Frag} {h : Heap} {mg : Str → Option Value} {fa CO fI aS : Addr} {fN fU fSg fTx fPl fBf fSc fIt fVa fC fD fW fNa fPo fUi fNu fLt fLs fKy fSe fOd fNd fGo fGv fRd fMd fL fM fA : Addr} {odN anN odU anU odSg anSg odTx anTx odPl anPl odBf anBf odSc anSc odIt anIt odVa anVa odC anC odD anD odW anW odNa anNa odPo anPo odUi anUi odNu anNu odLt anLt odLs anLs odKy anKy odSe anSe odOd anOd odNd anNd odGo anGo odGv anGv odRd anRd odMd anMd odL anL odM anM odA anA : Option Addr} {slN slU slSg slTx slPl slBf slSc slIt slVa slC slD slW slNa slPo slUi slNu slLt slLs slKy slSe slOd slNd slGo slGv slRd slMd slL slM slA : Array (Option Value)} {ocN kVN dcN pmN cdN ctN ocU kVU dcU pmU cdU ctU ocSg kVSg dcSg pmSg cdSg ctSg ocTx kVTx dcTx pmTx cdTx ctTx ocPl kVPl dcPl pmPl cdPl ctPl ocBf kVBf dcBf pmBf cdBf ctBf ocSc kVSc dcSc pmSc cdSc ctSc ocIt kVIt dcIt pmIt cdIt ctIt ocVa kVVa dcVa pmVa cdVa ctVa ocC kVC dcC pmC cdC ctC ocD kVD dcD pmD cdD ctD ocW kVW dcW pmW cdW ctW ocNa kVNa dcNa pmNa cdNa ctNa ocPo kVPo dcPo pmPo cdPo ctPo ocUi kVUi dcUi pmUi cdUi ctUi ocNu kVNu dcNu pmNu cdNu ctNu ocLt kVLt dcLt pmLt cdLt ctLt ocLs kVLs dcLs pmLs cdLs ctLs ocKy kVKy dcKy pmKy cdKy ctKy ocSe kVSe dcSe pmSe cdSe ctSe ocOd kVOd dcOd pmOd cdOd ctOd ocNd kVNd dcNd pmNd cdNd ctNd ocGo kVGo dcGo pmGo cdGo ctGo ocGv kVGv dcGv pmGv cdGv ctGv ocRd kVRd dcRd pmRd cdRd ctRd ocMd kVMd dcMd pmMd cdMd ctMd ocL kVL dcL pmL cdL ctL ocM kVM dcM pmM cdM ctM ocA kVA dcA pmA cdA ctA : Value} {TA : Addr} {ocTA : Value} {odTA : Option Addr} {nTA : Nat} {slTA : Array (Option Value)} {tkA tk12 tkS tkNB tkTM tkSM tkPC tq0 tq1 tq2 tq3 : Tok} {nS : Nat} {slS : Array (Option Value)} {nmC qC : Str} {NC : Addr} {bsC bmC : List Value} {snC : List Str} {subC : List Value} {abC : Bool} {colC : Option Bool} {ddC : Option Addr} {m0 m1 m2 m3 m5 : Option Value} {ocI : Value} {odI : Option Addr} {dcI pmI : Value} {anI : Option Addr} {ctI : Value} {slI : Array (Option Value)} {cc cda : Addr} {ccl : Value} {cdd : Option Addr} {cvs : Array Value} {ccs : Array (Option Value)} {file : Str} {tf : Tok} {cl : Value} {cld : Option Addr} {csl : Array (Option Value)} (X : K.In h) (G : h.Ns mainGlobals mg) (hfa : mg "law" = some (.ref fa))
    (aO : PySem.W.nsIn K mainGlobals "OutOfRange" = some (some (.ref CO)))
    (xL : K.lookup CO = some (excClassObj nmC qC CO NC bsC bmC true snC subC abC colC ddC m0 m1 m2 m3 m5 "ValueError.__new__"))
    (sa : PySem.W.findIn K (.ref CO) "__setattr__" = some (some (.builtin "object.__setattr__")))
    (ga : PySem.W.findIn K (.ref CO) "__getattribute__" = some (some (.builtin "BaseException.__getattribute__")))
    (gg : PySem.W.findIn K (.ref CO) "__getattr__" = some none)
    (nN : PySem.W.findIn K (.ref CO) "name" = some none)
    (iC : PySem.W.findIn K (.ref CO) "__init__" = some (some (.ref fI)))
    (tI : PySem.W.typeIn K (.ref fI) = some (.type "function"))
    (kO : PySem.W.keepIn K (.ref CO) = true)
    (exC : PySem.W.subIn K (.ref CO) (.type "BaseException") = some true)
    (tyC : PySem.W.typeIn K (.ref CO) = some (.type "type"))
    (veC : PySem.W.subIn K (.ref CO) (.type "ValueError") = some true)
    (ownC : PySem.W.mroIn K CO (.ref CO) = some true)
    (hdC : PySem.W.hasDictIn K CO = true)
    (anyT : PySem.W.nsIn K cStatics "thirdparty.any" = some none)
    (lI : K.lookup fI = some ⟨ocI, odI, .func (PySem.W.ksFn "__init__" "OutOfRange.__init__" (defArgs PySem.OorX.sInit) (defBody PySem.OorX.sInit) (defScope PySem.OorX.sInit) .none .none dcI pmI anI (.ref cda) ctI cc), slI⟩)
    (cI : PySem.W.codeIn K (.ref cda) "OutOfRange.__init__" = true)
    (ld : K.lookup cda = some ⟨ccl, cdd, .fields cvs, ccs⟩)
    (lv : cvs[2]? = some (.str file tf))
    (lf : ((l.prog.main.file : Str) == file) = true)
    (ltop : (l.prog.main.scope.names.lookup ("super" : Str)).isSome = false)
    (lc : K.lookup cc = some ⟨cl, cld, .cell (some (.ref CO)), csl⟩)
    (aN : PySem.W.nsIn K mainGlobals "is_name" = some (some (.ref fN)))
    (lN : K.lookup fN = some ⟨ocN, odN, .func (PySem.W.fnOf "is_name" "is_name" (defArgs sIsName) (defBody sIsName) (defScope sIsName) .none kVN dcN pmN anN cdN ctN), slN⟩)
    (cN : PySem.W.codeIn K cdN "is_name" = true)
    (kN : PySem.W.keepIn K (.ref fN) = true)
    (aU : PySem.W.nsIn K mainGlobals "is_uid" = some (some (.ref fU)))
    (lU : K.lookup fU = some ⟨ocU, odU, .func (PySem.W.fnOf "is_uid" "is_uid" (defArgs sIsUid) (defBody sIsUid) (defScope sIsUid) .none kVU dcU pmU anU cdU ctU), slU⟩)
    (cU : PySem.W.codeIn K cdU "is_uid" = true)
    (kU : PySem.W.keepIn K (.ref fU) = true)
    (aSg : PySem.W.nsIn K mainGlobals "is_sign" = some (some (.ref fSg)))
    (lSg : K.lookup fSg = some ⟨ocSg, odSg, .func (PySem.W.fnOf "is_sign" "is_sign" (defArgs sSign) (defBody sSign) (defScope sSign) .none kVSg dcSg pmSg anSg cdSg ctSg), slSg⟩)
    (cSg : PySem.W.codeIn K cdSg "is_sign" = true)
    (kSg : PySem.W.keepIn K (.ref fSg) = true)
    (aTx : PySem.W.nsIn K mainGlobals "is_text" = some (some (.ref fTx)))
    (lTx : K.lookup fTx = some ⟨ocTx, odTx, .func (PySem.W.fnOf "is_text" "is_text" (defArgs sText) (defBody sText) (defScope sText) .none kVTx dcTx pmTx anTx cdTx ctTx), slTx⟩)
    (cTx : PySem.W.codeIn K cdTx "is_text" = true)
    (kTx : PySem.W.keepIn K (.ref fTx) = true)
    (aPl : PySem.W.nsIn K mainGlobals "scalar_place" = some (some (.ref fPl)))
    (lPl : K.lookup fPl = some ⟨ocPl, odPl, .func (PySem.W.fnOf "scalar_place" "scalar_place" (defArgs sPlace) (defBody sPlace) (defScope sPlace) .none kVPl dcPl pmPl anPl cdPl ctPl), slPl⟩)
    (cPl : PySem.W.codeIn K cdPl "scalar_place" = true)
    (kPl : PySem.W.keepIn K (.ref fPl) = true)
    (aBf : PySem.W.nsIn K mainGlobals "scalar_before" = some (some (.ref fBf)))
    (lBf : K.lookup fBf = some ⟨ocBf, odBf, .func (PySem.W.fnOf "scalar_before" "scalar_before" (defArgs sBefore) (defBody sBefore) (defScope sBefore) .none kVBf dcBf pmBf anBf cdBf ctBf), slBf⟩)
    (cBf : PySem.W.codeIn K cdBf "scalar_before" = true)
    (kBf : PySem.W.keepIn K (.ref fBf) = true)
    (aSc : PySem.W.nsIn K mainGlobals "is_scalar" = some (some (.ref fSc)))
    (lSc : K.lookup fSc = some ⟨ocSc, odSc, .func (PySem.W.fnOf "is_scalar" "is_scalar" (defArgs sScalar) (defBody sScalar) (defScope sScalar) .none kVSc dcSc pmSc anSc cdSc ctSc), slSc⟩)
    (cSc : PySem.W.codeIn K cdSc "is_scalar" = true)
    (kSc : PySem.W.keepIn K (.ref fSc) = true)
    (aIt : PySem.W.nsIn K mainGlobals "are_items" = some (some (.ref fIt)))
    (lIt : K.lookup fIt = some ⟨ocIt, odIt, .func (PySem.W.fnOf "are_items" "are_items" (defArgs sItems) (defBody sItems) (defScope sItems) .none kVIt dcIt pmIt anIt cdIt ctIt), slIt⟩)
    (cIt : PySem.W.codeIn K cdIt "are_items" = true)
    (kIt : PySem.W.keepIn K (.ref fIt) = true)
    (aVa : PySem.W.nsIn K mainGlobals "is_value" = some (some (.ref fVa)))
    (lVa : K.lookup fVa = some ⟨ocVa, odVa, .func (PySem.W.fnOf "is_value" "is_value" (defArgs sValue) (defBody sValue) (defScope sValue) .none kVVa dcVa pmVa anVa cdVa ctVa), slVa⟩)
    (cVa : PySem.W.codeIn K cdVa "is_value" = true)
    (kVa : PySem.W.keepIn K (.ref fVa) = true)
    (aC : PySem.W.nsIn K mainGlobals "_law_cell" = some (some (.ref fC)))
    (lC : K.lookup fC = some ⟨ocC, odC, .func (PySem.W.fnOf "_law_cell" "_law_cell" (defArgs sCell) (defBody sCell) (defScope sCell) .none kVC dcC pmC anC cdC ctC), slC⟩)
    (cC : PySem.W.codeIn K cdC "_law_cell" = true)
    (kC : PySem.W.keepIn K (.ref fC) = true)
    (aD : PySem.W.nsIn K mainGlobals "_law_digits" = some (some (.ref fD)))
    (lD : K.lookup fD = some ⟨ocD, odD, .func (PySem.W.fnOf "_law_digits" "_law_digits" (defArgs sDig) (defBody sDig) (defScope sDig) .none kVD dcD pmD anD cdD ctD), slD⟩)
    (cD : PySem.W.codeIn K cdD "_law_digits" = true)
    (kD : PySem.W.keepIn K (.ref fD) = true)
    (aW : PySem.W.nsIn K mainGlobals "_law_draw" = some (some (.ref fW)))
    (lW : K.lookup fW = some ⟨ocW, odW, .func (PySem.W.fnOf "_law_draw" "_law_draw" (defArgs sDraw) (defBody sDraw) (defScope sDraw) .none kVW dcW pmW anW cdW ctW), slW⟩)
    (cW : PySem.W.codeIn K cdW "_law_draw" = true)
    (kW : PySem.W.keepIn K (.ref fW) = true)
    (aNa : PySem.W.nsIn K mainGlobals "_law_name" = some (some (.ref fNa)))
    (lNa : K.lookup fNa = some ⟨ocNa, odNa, .func (PySem.W.fnOf "_law_name" "_law_name" (defArgs sName) (defBody sName) (defScope sName) .none kVNa dcNa pmNa anNa cdNa ctNa), slNa⟩)
    (cNa : PySem.W.codeIn K cdNa "_law_name" = true)
    (kNa : PySem.W.keepIn K (.ref fNa) = true)
    (aPo : PySem.W.nsIn K mainGlobals "_law_pool" = some (some (.ref fPo)))
    (lPo : K.lookup fPo = some ⟨ocPo, odPo, .func (PySem.W.fnOf "_law_pool" "_law_pool" (defArgs sPool) (defBody sPool) (defScope sPool) .none kVPo dcPo pmPo anPo cdPo ctPo), slPo⟩)
    (cPo : PySem.W.codeIn K cdPo "_law_pool" = true)
    (kPo : PySem.W.keepIn K (.ref fPo) = true)
    (aUi : PySem.W.nsIn K mainGlobals "_law_uids" = some (some (.ref fUi)))
    (lUi : K.lookup fUi = some ⟨ocUi, odUi, .func (PySem.W.fnOf "_law_uids" "_law_uids" (defArgs sUids) (defBody sUids) (defScope sUids) .none kVUi dcUi pmUi anUi cdUi ctUi), slUi⟩)
    (cUi : PySem.W.codeIn K cdUi "_law_uids" = true)
    (kUi : PySem.W.keepIn K (.ref fUi) = true)
    (aNu : PySem.W.nsIn K mainGlobals "_law_number" = some (some (.ref fNu)))
    (lNu : K.lookup fNu = some ⟨ocNu, odNu, .func (PySem.W.fnOf "_law_number" "_law_number" (defArgs sNum) (defBody sNum) (defScope sNum) .none kVNu dcNu pmNu anNu cdNu ctNu), slNu⟩)
    (cNu : PySem.W.codeIn K cdNu "_law_number" = true)
    (kNu : PySem.W.keepIn K (.ref fNu) = true)
    (aLt : PySem.W.nsIn K mainGlobals "_law_text" = some (some (.ref fLt)))
    (lLt : K.lookup fLt = some ⟨ocLt, odLt, .func (PySem.W.fnOf "_law_text" "_law_text" (defArgs sTxt) (defBody sTxt) (defScope sTxt) .none kVLt dcLt pmLt anLt cdLt ctLt), slLt⟩)
    (cLt : PySem.W.codeIn K cdLt "_law_text" = true)
    (kLt : PySem.W.keepIn K (.ref fLt) = true)
    (aLs : PySem.W.nsIn K mainGlobals "_law_scalar" = some (some (.ref fLs)))
    (lLs : K.lookup fLs = some ⟨ocLs, odLs, .func (PySem.W.fnOf "_law_scalar" "_law_scalar" (defArgs sSca) (defBody sSca) (defScope sSca) .none kVLs dcLs pmLs anLs cdLs ctLs), slLs⟩)
    (cLs : PySem.W.codeIn K cdLs "_law_scalar" = true)
    (kLs : PySem.W.keepIn K (.ref fLs) = true)
    (aKy : PySem.W.nsIn K mainGlobals "_law_key" = some (some (.ref fKy)))
    (lKy : K.lookup fKy = some ⟨ocKy, odKy, .func (PySem.W.fnOf "_law_key" "_law_key" (defArgs sKey) (defBody sKey) (defScope sKey) .none kVKy dcKy pmKy anKy cdKy ctKy), slKy⟩)
    (cKy : PySem.W.codeIn K cdKy "_law_key" = true)
    (kKy : PySem.W.keepIn K (.ref fKy) = true)
    (aSe : PySem.W.nsIn K mainGlobals "_law_set" = some (some (.ref fSe)))
    (lSe : K.lookup fSe = some ⟨ocSe, odSe, .func (PySem.W.fnOf "_law_set" "_law_set" (defArgs sSet) (defBody sSet) (defScope sSet) .none kVSe dcSe pmSe anSe cdSe ctSe), slSe⟩)
    (cSe : PySem.W.codeIn K cdSe "_law_set" = true)
    (kSe : PySem.W.keepIn K (.ref fSe) = true)
    (aOd : PySem.W.nsIn K mainGlobals "_law_odd" = some (some (.ref fOd)))
    (lOd : K.lookup fOd = some ⟨ocOd, odOd, .func (PySem.W.fnOf "_law_odd" "_law_odd" (defArgs sOdd) (defBody sOdd) (defScope sOdd) .none kVOd dcOd pmOd anOd cdOd ctOd), slOd⟩)
    (cOd : PySem.W.codeIn K cdOd "_law_odd" = true)
    (kOd : PySem.W.keepIn K (.ref fOd) = true)
    (aNd : PySem.W.nsIn K mainGlobals "_law_name_due" = some (some (.ref fNd)))
    (lNd : K.lookup fNd = some ⟨ocNd, odNd, .func (PySem.W.fnOf "_law_name_due" "_law_name_due" (defArgs sNmDue) (defBody sNmDue) (defScope sNmDue) .none kVNd dcNd pmNd anNd cdNd ctNd), slNd⟩)
    (cNd : PySem.W.codeIn K cdNd "_law_name_due" = true)
    (kNd : PySem.W.keepIn K (.ref fNd) = true)
    (aGo : PySem.W.nsIn K mainGlobals "_law_good" = some (some (.ref fGo)))
    (lGo : K.lookup fGo = some ⟨ocGo, odGo, .func (PySem.W.fnOf "_law_good" "_law_good" (defArgs sGood) (defBody sGood) (defScope sGood) .none kVGo dcGo pmGo anGo cdGo ctGo), slGo⟩)
    (cGo : PySem.W.codeIn K cdGo "_law_good" = true)
    (kGo : PySem.W.keepIn K (.ref fGo) = true)
    (aGv : PySem.W.nsIn K mainGlobals "_law_good_value" = some (some (.ref fGv)))
    (lGv : K.lookup fGv = some ⟨ocGv, odGv, .func (PySem.W.fnOf "_law_good_value" "_law_good_value" (defArgs sGoodV) (defBody sGoodV) (defScope sGoodV) .none kVGv dcGv pmGv anGv cdGv ctGv), slGv⟩)
    (cGv : PySem.W.codeIn K cdGv "_law_good_value" = true)
    (kGv : PySem.W.keepIn K (.ref fGv) = true)
    (aRd : PySem.W.nsIn K mainGlobals "_law_refused" = some (some (.ref fRd)))
    (lRd : K.lookup fRd = some ⟨ocRd, odRd, .func (PySem.W.fnOf "_law_refused" "_law_refused" (defArgs sRefd) (defBody sRefd) (defScope sRefd) .none kVRd dcRd pmRd anRd cdRd ctRd), slRd⟩)
    (cRd : PySem.W.codeIn K cdRd "_law_refused" = true)
    (kRd : PySem.W.keepIn K (.ref fRd) = true)
    (aMd : PySem.W.nsIn K mainGlobals "_law_made" = some (some (.ref fMd)))
    (lMd : K.lookup fMd = some ⟨ocMd, odMd, .func (PySem.W.fnOf "_law_made" "_law_made" (defArgs sMade) (defBody sMade) (defScope sMade) .none kVMd dcMd pmMd anMd cdMd ctMd), slMd⟩)
    (cMd : PySem.W.codeIn K cdMd "_law_made" = true)
    (kMd : PySem.W.keepIn K (.ref fMd) = true)
    (aL : PySem.W.nsIn K mainGlobals "law" = some (some (.ref fL)))
    (lL : K.lookup fL = some ⟨ocL, odL, .func (PySem.W.fnOf "law" "law" (defArgs sLaw) (defBody sLaw) (defScope sLaw) .none kVL dcL pmL anL cdL ctL), slL⟩)
    (cL : PySem.W.codeIn K cdL "law" = true)
    (kL : PySem.W.keepIn K (.ref fL) = true)
    (aM : PySem.W.nsIn K mainGlobals "make_set" = some (some (.ref fM)))
    (lM : K.lookup fM = some ⟨ocM, odM, .func (PySem.W.fnOf "make_set" "make_set" (defArgs sMake) (defBody sMake) (defScope sMake) .none kVM dcM pmM anM cdM ctM), slM⟩)
    (cM : PySem.W.codeIn K cdM "make_set" = true)
    (kM : PySem.W.keepIn K (.ref fM) = true)
    (aA : PySem.W.nsIn K mainGlobals "check_value" = some (some (.ref fA)))
    (lA : K.lookup fA = some ⟨ocA, odA, .func (PySem.W.fnOf "check_value" "check_value" (defArgs sCheck) (defBody sCheck) (defScope sCheck) (.ref TA) kVA dcA pmA anA cdA ctA), slA⟩)
    (cA : PySem.W.codeIn K cdA "check_value" = true)
    (kA : PySem.W.keepIn K (.ref fA) = true)
    (tA : K.lookup TA = some ⟨ocTA, odTA, .seq #[.str "value" tkA] nTA, slTA⟩)
    (gNM : PySem.W.nsIn K mainGlobals "NAME_MOST" = some (some (.int 12 tk12)))
    (gSG : PySem.W.nsIn K mainGlobals "SIGNS" = some (some (.str SG tkS)))
    (gNB : PySem.W.nsIn K mainGlobals "NUMBER_MOST" = some (some (.int 1000000 tkNB)))
    (gTM : PySem.W.nsIn K mainGlobals "TEXT_MOST" = some (some (.int 40 tkTM)))
    (gSM : PySem.W.nsIn K mainGlobals "SET_MOST" = some (some (.int 8 tkSM)))
    (gPC : PySem.W.nsIn K mainGlobals "PERCENT" = some (some (.int 37 tkPC)))
    (gSC : PySem.W.nsIn K mainGlobals "SCALARS" = some (some (.ref aS)))
    (lSC : K.lookup aS = some ⟨.type "tuple", none, .seq #[.str "truth" tq0, .str "number" tq1, .str "text" tq2, .str "entity" tq3] nS, slS⟩)
    (z_len : PySem.W.nsIn K mainGlobals "len" = some none)
    (z_all : PySem.W.nsIn K mainGlobals "all" = some none)
    (z_int : PySem.W.nsIn K mainGlobals "int" = some none)
    (z_range : PySem.W.nsIn K mainGlobals "range" = some none)
    (z_repr : PySem.W.nsIn K mainGlobals "repr" = some none)
    (z_super : PySem.W.nsIn K mainGlobals "super" = some none)
    (z_ord : PySem.W.nsIn K mainGlobals "ord" = some none)
    (z_sorted : PySem.W.nsIn K mainGlobals "sorted" = some none)
    (z_tuple : PySem.W.nsIn K mainGlobals "tuple" = some none)
    (z_str : PySem.W.nsIn K mainGlobals "str" = some none)
    (z_list : PySem.W.nsIn K mainGlobals "list" = some none)
    (z_zip : PySem.W.nsIn K mainGlobals "zip" = some none)
    (hbm : PySem.HandSPX.refsVE bmC = true)
    (sup : PySem.W.ks_superIn K CO CO "__init__" = some (some (.builtin "ValueError.__init__")))
    (exm : PySem.W.exmOne K (.ref CO) (.ref CO) = some true)
    : ∃ fd : FuncData, (∀ (s : Shared) (v : Value), BindsTo s fd ⟨[v], []⟩ [("script", v)]) ∧ ∀ base : Heap, K.In base → base.Ns mainGlobals mg → FnOk l.prog w K mg base CX0 8 fa fd ["script"] (spLaw K) := by
  have e := hfa.symm.trans (PySem.W.mg_of X G aL)
  cases e
  have FN := fun_mk (st := sIsName) lN cN kN
  have bN := FN.binds (ps := ["text"]) fun _ _ _ _ _ _ us hl => match us, hl with | [_], _ => rfl
  have FU := fun_mk (st := sIsUid) lU cU kU
  have bU := FU.binds (ps := ["text"]) fun _ _ _ _ _ _ us hl => match us, hl with | [_], _ => rfl
  have FSg := fun_mk (st := sSign) lSg cSg kSg
  have bSg := FSg.binds (ps := ["sign"]) fun _ _ _ _ _ _ us hl => match us, hl with | [_], _ => rfl
  have FTx := fun_mk (st := sText) lTx cTx kTx
  have bTx := FTx.binds (ps := ["text"]) fun _ _ _ _ _ _ us hl => match us, hl with | [_], _ => rfl
  have FPl := fun_mk (st := sPlace) lPl cPl kPl
  have bPl := FPl.binds (ps := ["scalar"]) fun _ _ _ _ _ _ us hl => match us, hl with | [_], _ => rfl
  have FBf := fun_mk (st := sBefore) lBf cBf kBf
  have bBf := FBf.binds (ps := ["one", "two"]) fun _ _ _ _ _ _ us hl => match us, hl with | [_, _], _ => rfl
  have FSc := fun_mk (st := sScalar) lSc cSc kSc
  have bSc := FSc.binds (ps := ["value"]) fun _ _ _ _ _ _ us hl => match us, hl with | [_], _ => rfl
  have FIt := fun_mk (st := sItems) lIt cIt kIt
  have bIt := FIt.binds (ps := ["scalars"]) fun _ _ _ _ _ _ us hl => match us, hl with | [_], _ => rfl
  have FVa := fun_mk (st := sValue) lVa cVa kVa
  have bVa := FVa.binds (ps := ["value"]) fun _ _ _ _ _ _ us hl => match us, hl with | [_], _ => rfl
  have FC := fun_mk (st := sCell) lC cC kC
  have bC := FC.binds (ps := ["script", "k"]) fun _ _ _ _ _ _ us hl => match us, hl with | [_, _], _ => rfl
  have FD := fun_mk (st := sDig) lD cD kD
  have bD := FD.binds (ps := ["script", "first", "last"]) fun _ _ _ _ _ _ us hl => match us, hl with | [_, _, _], _ => rfl
  have FW := fun_mk (st := sDraw) lW cW kW
  have bW := FW.binds (ps := ["box", "many"]) fun _ _ _ _ _ _ us hl => match us, hl with | [_, _], _ => rfl
  have FNa := fun_mk (st := sName) lNa cNa kNa
  have bNa := FNa.binds (ps := ["box"]) fun _ _ _ _ _ _ us hl => match us, hl with | [_], _ => rfl
  have FPo := fun_mk (st := sPool) lPo cPo kPo
  have bPo := FPo.binds (ps := ["box", "many"]) fun _ _ _ _ _ _ us hl => match us, hl with | [_, _], _ => rfl
  have FUi := fun_mk (st := sUids) lUi cUi kUi
  have bUi := FUi.binds (ps := ["box", "many"]) fun _ _ _ _ _ _ us hl => match us, hl with | [_, _], _ => rfl
  have FNu := fun_mk (st := sNum) lNu cNu kNu
  have bNu := FNu.binds (ps := ["box"]) fun _ _ _ _ _ _ us hl => match us, hl with | [_], _ => rfl
  have FLt := fun_mk (st := sTxt) lLt cLt kLt
  have bLt := FLt.binds (ps := ["box"]) fun _ _ _ _ _ _ us hl => match us, hl with | [_], _ => rfl
  have FLs := fun_mk (st := sSca) lLs cLs kLs
  have bLs := FLs.binds (ps := ["box", "uids"]) fun _ _ _ _ _ _ us hl => match us, hl with | [_, _], _ => rfl
  have FKy := fun_mk (st := sKey) lKy cKy kKy
  have bKy := FKy.binds (ps := ["scalar"]) fun _ _ _ _ _ _ us hl => match us, hl with | [_], _ => rfl
  have FSe := fun_mk (st := sSet) lSe cSe kSe
  have bSe := FSe.binds (ps := ["scalars", "most"]) fun _ _ _ _ _ _ us hl => match us, hl with | [_, _], _ => rfl
  have FOd := fun_mk (st := sOdd) lOd cOd kOd
  have bOd := FOd.binds (ps := ["box", "uids"]) fun _ _ _ _ _ _ us hl => match us, hl with | [_, _], _ => rfl
  have FNd := fun_mk (st := sNmDue) lNd cNd kNd
  have bNd := FNd.binds (ps := ["text"]) fun _ _ _ _ _ _ us hl => match us, hl with | [_], _ => rfl
  have FGo := fun_mk (st := sGood) lGo cGo kGo
  have bGo := FGo.binds (ps := ["scalar"]) fun _ _ _ _ _ _ us hl => match us, hl with | [_], _ => rfl
  have FGv := fun_mk (st := sGoodV) lGv cGv kGv
  have bGv := FGv.binds (ps := ["value"]) fun _ _ _ _ _ _ us hl => match us, hl with | [_], _ => rfl
  have FRd := fun_mk (st := sRefd) lRd cRd kRd
  have bRd := FRd.binds (ps := ["value", "what"]) fun _ _ _ _ _ _ us hl => match us, hl with | [_, _], _ => rfl
  have FMd := fun_mk (st := sMade) lMd cMd kMd
  have bMd := FMd.binds (ps := ["scalars"]) fun _ _ _ _ _ _ us hl => match us, hl with | [_], _ => rfl
  have FL := fun_mk (st := sLaw) lL cL kL
  have FM := fund_of (st := sMake) lM cM kM
  have FM0 := fun_mk (st := sMake) lM cM kM
  have bM := FM0.binds (ps := ["scalars"]) fun _ _ _ _ _ _ us hl => match us, hl with | [_], _ => rfl
  have g := fun {x : Str} {v : Value} (q : PySem.W.nsIn K mainGlobals x = some (some v)) => PySem.W.mg_of X G q
  have gn := fun {x : Str} (q : PySem.W.nsIn K mainGlobals x = some none) => PySem.W.mg_none_of X G q
  have O : PySem.OorX.OorTxt l.prog K mg CO fI :=
    { gC := g aO, cls := ⟨nmC, qC, NC, bsC, bmC, snC, subC, abC, colC, ddC, m0, m1, m2, m3, m5, xL, hbm⟩, sa := sa, noN := nN, iC := iC, tC := tI, kC := kO, exC := exC, tyC := tyC, sup := sup, any := anyT, veC := veC, own := ownC, gsup := gn z_super, noTop := ltop,
      fn := ⟨_, _, _, _, _, _, _, cc, cda, _, _, cvs, _, file, tf, _, _, _, lI, cI, ld, lv, lf, lc⟩ }
  have TN : TxtN K mg := ⟨gn z_len, gn z_all, ⟨_, g gNM⟩, ⟨_, g gSG⟩⟩
  have TL : TxtL K mg := ⟨gn z_len, gn z_int, gn z_range⟩
  have TV : TxtV K mg := { len := gn z_len, all := gn z_all, ord := gn z_ord, pc := ⟨_, g gPC⟩, tm := ⟨_, g gTM⟩, nm := ⟨_, g gNB⟩, sc := ⟨aS, _, g gSC, lSC, rfl, rfl, fun H => .inr ⟨_, _, _, lSC, rfl, rfl, (by show 4 ≤ sizeLine; decide), .cons ⟨tq0, rfl⟩ (.cons ⟨tq1, rfl⟩ (.cons ⟨tq2, rfl⟩ (.cons ⟨tq3, rfl⟩ .nil)))⟩⟩ }
  have TM : TxtM K mg := { len := gn z_len, all := gn z_all, sorted := gn z_sorted, tuple := gn z_tuple, sm := ⟨_, g gSM⟩ }
  have TP : TxtP K mg := { len := gn z_len, range := gn z_range, str := gn z_str }
  have TQ : TxtQ mg := { len := gn z_len, range := gn z_range }
  have TK : TxtK mg := { len := gn z_len, sorted := gn z_sorted, tuple := gn z_tuple }
  have TX : TxtX K mg CO := { gO := g aO, xf := ⟨ga, gg, exC, hdC⟩, noN := nN, exm := exm }
  have TI : TxtI mg := { len := gn z_len, all := gn z_all, zip := gn z_zip, sm := ⟨_, g gSM⟩ }
  have TG : TxtG mg := { len := gn z_len, ord := gn z_ord, list := gn z_list, range := gn z_range }
  have TW : TxtW mg := { len := gn z_len, range := gn z_range, repr := gn z_repr, list := gn z_list, tuple := gn z_tuple, int := gn z_int, nb := ⟨_, g gNB⟩, tm := ⟨_, g gTM⟩ }
  have FA : FunD K "check_value" "check_value" (defArgs sCheck) (defBody sCheck) (defScope sCheck) [.str "value"] [] fA _ := ⟨⟨_, _, _, _, _, _, _, _, _, _, rfl, lA, cA, Or.inr ⟨by simp, TA, _, _, _, rfl, tA, rfl, .cons ⟨tkA, rfl⟩ .nil⟩, Or.inl rfl⟩, kA⟩
  obtain ⟨dsA, vA, bA⟩ := FA.binds1 (ps := ["value", "what"]) 1 0 (by simp) rfl fun T kV doc pm an cdv ct us its h1 h2 => match us, its, h1, h2 with | [_], [_], _, _ => ⟨_, rfl, rfl⟩
  obtain ⟨dsA2, vA2, bA2⟩ := FA.binds1 (ps := ["value", "what"]) 2 1 (by simp) rfl fun T kV doc pm an cdv ct us its h1 h2 => match us, its, h1, h2 with | [_, _], [_], _, _ => ⟨_, rfl, rfl⟩
  have eA2 : dsA2 = [] := by cases vA2; rfl
  subst eA2
  refine ⟨PySem.W.fnOf "law" "law" (defArgs sLaw) (defBody sLaw) (defScope sLaw) .none kVL dcL pmL anL cdL ctL, fun s v => .of_eq rfl, fun base _ _ => ?_⟩
  have gN' := ok_isName (P := l.prog) (w := w) (base := base) FN TN
  have gU' := ok_isUid (P := l.prog) (w := w) (base := base) FU TN gN' bN (g aN) kN
  have cU' : Cal l.prog w K mg base 2 "is_uid" ["text"] (spText fun t => .bl (uidT t)) := ⟨_, _, gU', bU, g aU, kU⟩
  have gW' := ok_draw (P := l.prog) (w := w) (base := base) FW TL
  have cW' : Cal l.prog w K mg base 1 "_law_draw" ["box", "many"] spDraw := ⟨_, _, gW', bW, g aW, kW⟩
  have gC' := ok_cell (P := l.prog) (w := w) (base := base) FC TL
  have gD' := ok_dig FD TL gC' bC (g aC) kC
  have cSg' : Cal l.prog w K mg base 1 "is_sign" ["sign"] spSign := ⟨_, _, ok_sign FSg TV, bSg, g aSg, kSg⟩
  have cTx' : Cal l.prog w K mg base 2 "is_text" ["text"] (spText fun t => .bl (textT t)) := ⟨_, _, ok_text FTx TV cSg', bTx, g aTx, kTx⟩
  have cPl' : Cal l.prog w K mg base 1 "scalar_place" ["scalar"] spPlace := ⟨_, _, ok_place FPl TV, bPl, g aPl, kPl⟩
  have cBf' : Cal l.prog w K mg base 2 "scalar_before" ["one", "two"] spBefore := ⟨_, _, ok_before FBf cPl', bBf, g aBf, kBf⟩
  have cSc' : Cal l.prog w K mg base 3 "is_scalar" ["value"] (spScalarK K) := ⟨_, _, ok_scalar FSc TV cTx' cU', bSc, g aSc, kSc⟩
  have cIt' : Cal l.prog w K mg base 4 "are_items" ["scalars"] (spItems K) := ⟨_, _, ok_items FIt TI cSc' cBf', bIt, g aIt, kIt⟩
  have cVa' : Cal l.prog w K mg base 5 "is_value" ["value"] (spValue K) := ⟨_, _, ok_value FVa cIt' cSc', bVa, g aVa, kVa⟩
  have gA' := ok_check FA O cVa'
  have gM' := ok_make FM TM O cSc' cPl'
  have cNa' : Cal l.prog w K mg base 2 "_law_name" ["box"] (spName 1 12 (AllC inS)) := ⟨_, _, ok_name FNa TL gW' bW (g aW) kW, bNa, g aNa, kNa⟩
  have cPo' : Cal l.prog w K mg base 3 "_law_pool" ["box", "many"] spPool := ⟨_, _, ok_pool FPo TP cNa', bPo, g aPo, kPo⟩
  have cUi' : Cal l.prog w K mg base 4 "_law_uids" ["box", "many"] spUids := ⟨_, _, ok_uids FUi cPo' cW', bUi, g aUi, kUi⟩
  have cNu' : Cal l.prog w K mg base 2 "_law_number" ["box"] spNum := ⟨_, _, ok_num FNu cW', bNu, g aNu, kNu⟩
  have cLt' : Cal l.prog w K mg base 2 "_law_text" ["box"] spTxt := ⟨_, _, ok_txt FLt TQ cW', bLt, g aLt, kLt⟩
  have cLs' : Cal l.prog w K mg base 3 "_law_scalar" ["box", "uids"] spSca := ⟨_, _, ok_sca FLs TQ cW' cNu' cLt', bLs, g aLs, kLs⟩
  have cKy' : Cal l.prog w K mg base 1 "_law_key" ["scalar"] spPlace := ⟨_, _, ok_key FKy, bKy, g aKy, kKy⟩
  have cSe' : Cal l.prog w K mg base 4 "_law_set" ["scalars", "most"] (spSet K) := ⟨_, _, ok_set FSe TK cKy', bSe, g aSe, kSe⟩
  have cOd' : Cal l.prog w K mg base 4 "_law_odd" ["box", "uids"] spOdd := ⟨_, _, ok_odd FOd cW' cLs', bOd, g aOd, kOd⟩
  have cNd' : Cal l.prog w K mg base 1 "_law_name_due" ["text"] (spText fun t => .bl (nameT t)) := ⟨_, _, ok_nmDue FNd (gn z_len), bNd, g aNd, kNd⟩
  have cGo' : Cal l.prog w K mg base 2 "_law_good" ["scalar"] (spGood K) := ⟨_, _, ok_good FGo TG cNd', bGo, g aGo, kGo⟩
  have cGv' : Cal l.prog w K mg base 3 "_law_good_value" ["value"] (spGoodV K) := ⟨_, _, ok_goodV FGv TG cGo' cKy', bGv, g aGv, kGv⟩
  have cRd' : Cal l.prog w K mg base 7 "_law_refused" ["value", "what"] (spRefd K) := ⟨_, _, ok_refd FRd TX gA' vA bA bA2 (g aA) kA, bRd, g aRd, kRd⟩
  have cMd' : Cal l.prog w K mg base 6 "_law_made" ["scalars"] (spMade K) := ⟨_, _, ok_made FMd TX gM' bM (g aM) kM, bMd, g aMd, kMd⟩
  exact ok_law FL TW ⟨_, _, gD', bD, g aD, kD⟩ cUi' cW' cLs' cOd' cSe' cGv' cVa' cRd' cMd'
theorem walk {l : PySem.W.OpenLaw} {q : Program} {loose : List Str} {XP : (Str → Option Value) → Heap → Prop} {YP : World → Heap → Prop} {d : DefRec} {K : Params → PySem.W.Frag} (hn : l.most = some 63) (hdf : d.params.defaults = [])
    (hY : ∀ (w : World) (h : Heap), YP w h → (K w.params).In h)
    (F : ∀ (w : World) (mg : Str → Option Value) (fa : Addr) (h : Heap), (K w.params).In h → h.Ns mainGlobals mg → mg d.name = some (.ref fa) →
      ∃ fd : FuncData, (∀ (s : Shared) (u : Value), BindsTo s fd ⟨[u], []⟩ [("script", u)]) ∧ ∀ base : Heap, (K w.params).In base → base.Ns mainGlobals mg → FnOk l.prog w (K w.params) mg base CX0 8 fa fd ["script"] (spLaw (K w.params))) :
    PySem.W.WalkO q loose XP YP l.row.toRowW d [] (fun f vs => PySem.call f vs) :=
  L2.walk_of (n := 63) (k := 8) (x := "script") (CX := fun _ => CX0) (sp := fun w => spLaw (K w.params)) hn (by decide) hdf ⟨rfl, by decide, by decide⟩ hY F (fun _ _ a ns hl _ hS => ⟨a, ns, rfl, hS, hl, fun _ => rfl⟩) fun _ _ _ _ _ z => z
end N03

set_option maxRecDepth 100000
open PySem PySem.W PyProof.Rows
set_option maxRecDepth 100000 in
set_option maxHeartbeats 0 in
theorem PySem.Challenge.cw_farfacts_k03_bounds_of_values_holds : PySem.Challenge.rw_farfacts_k03_bounds_of_values.Holds := by
  w_on; o_law; k_head; (case hw => w_witness2)
  k_fill
  refine N03.walk (l := PySem.Challenge.rw_farfacts_k03_bounds_of_values) rfl rfl (fun w h Y => PySem.W.kIn_of Y) ?F
  case F =>
    intro w mg fa h KX G hmg
    refine' N03.all_mk KX G hmg ?aO ?xL ?sa ?ga ?gg ?nN ?iC ?tI ?kO ?exC ?tyC ?veC ?ownC ?hdC ?anyT ?lI ?cI ?ld ?lv ?lf ?ltop ?lc ?aN ?lN ?cN ?kN ?aU ?lU ?cU ?kU ?aSg ?lSg ?cSg ?kSg ?aTx ?lTx ?cTx ?kTx ?aPl ?lPl ?cPl ?kPl ?aBf ?lBf ?cBf ?kBf ?aSc ?lSc ?cSc ?kSc ?aIt ?lIt ?cIt ?kIt ?aVa ?lVa ?cVa ?kVa ?aC ?lC ?cC ?kC ?aD ?lD ?cD ?kD ?aW ?lW ?cW ?kW ?aNa ?lNa ?cNa ?kNa ?aPo ?lPo ?cPo ?kPo ?aUi ?lUi ?cUi ?kUi ?aNu ?lNu ?cNu ?kNu ?aLt ?lLt ?cLt ?kLt ?aLs ?lLs ?cLs ?kLs ?aKy ?lKy ?cKy ?kKy ?aSe ?lSe ?cSe ?kSe ?aOd ?lOd ?cOd ?kOd ?aNd ?lNd ?cNd ?kNd ?aGo ?lGo ?cGo ?kGo ?aGv ?lGv ?cGv ?kGv ?aRd ?lRd ?cRd ?kRd ?aMd ?lMd ?cMd ?kMd ?aL ?lL ?cL ?kL ?aM ?lM ?cM ?kM ?aA ?lA ?cA ?kA ?tA ?gNM ?gSG ?gNB ?gTM ?gSM ?gPC ?gSC ?lSC ?z_len ?z_all ?z_int ?z_range ?z_repr ?z_super ?z_ord ?z_sorted ?z_tuple ?z_str ?z_list ?z_zip ?hbm ?sup ?exm
    (case aO => k_is)
    (case xL => k_is)
    (case sa => k_is)
    (case ga => k_is)
    (case gg => k_is)
    (case nN => k_is)
    (case iC => k_is)
    (case tI => k_is)
    (case kO => k_is)
    (case exC => k_is)
    (case tyC => k_is)
    (case veC => k_is)
    (case ownC => k_is)
    (case hdC => k_is)
    (case anyT => k_is)
    (case lI => k_is)
    (case cI => k_is)
    (case ld => k_is)
    (case lv => rfl)
    (case lf => first | rfl | decide +kernel)
    (case ltop => first | rfl | decide +kernel)
    (case lc => k_is)
    (case aN => k_is)
    (case lN => k_is)
    (case cN => k_is)
    (case kN => k_is)
    (case aU => k_is)
    (case lU => k_is)
    (case cU => k_is)
    (case kU => k_is)
    (case aSg => k_is)
    (case lSg => k_is)
    (case cSg => k_is)
    (case kSg => k_is)
    (case aTx => k_is)
    (case lTx => k_is)
    (case cTx => k_is)
    (case kTx => k_is)
    (case aPl => k_is)
    (case lPl => k_is)
    (case cPl => k_is)
    (case kPl => k_is)
    (case aBf => k_is)
    (case lBf => k_is)
    (case cBf => k_is)
    (case kBf => k_is)
    (case aSc => k_is)
    (case lSc => k_is)
    (case cSc => k_is)
    (case kSc => k_is)
    (case aIt => k_is)
    (case lIt => k_is)
    (case cIt => k_is)
    (case kIt => k_is)
    (case aVa => k_is)
    (case lVa => k_is)
    (case cVa => k_is)
    (case kVa => k_is)
    (case aC => k_is)
    (case lC => k_is)
    (case cC => k_is)
    (case kC => k_is)
    (case aD => k_is)
    (case lD => k_is)
    (case cD => k_is)
    (case kD => k_is)
    (case aW => k_is)
    (case lW => k_is)
    (case cW => k_is)
    (case kW => k_is)
    (case aNa => k_is)
    (case lNa => k_is)
    (case cNa => k_is)
    (case kNa => k_is)
    (case aPo => k_is)
    (case lPo => k_is)
    (case cPo => k_is)
    (case kPo => k_is)
    (case aUi => k_is)
    (case lUi => k_is)
    (case cUi => k_is)
    (case kUi => k_is)
    (case aNu => k_is)
    (case lNu => k_is)
    (case cNu => k_is)
    (case kNu => k_is)
    (case aLt => k_is)
    (case lLt => k_is)
    (case cLt => k_is)
    (case kLt => k_is)
    (case aLs => k_is)
    (case lLs => k_is)
    (case cLs => k_is)
    (case kLs => k_is)
    (case aKy => k_is)
    (case lKy => k_is)
    (case cKy => k_is)
    (case kKy => k_is)
    (case aSe => k_is)
    (case lSe => k_is)
    (case cSe => k_is)
    (case kSe => k_is)
    (case aOd => k_is)
    (case lOd => k_is)
    (case cOd => k_is)
    (case kOd => k_is)
    (case aNd => k_is)
    (case lNd => k_is)
    (case cNd => k_is)
    (case kNd => k_is)
    (case aGo => k_is)
    (case lGo => k_is)
    (case cGo => k_is)
    (case kGo => k_is)
    (case aGv => k_is)
    (case lGv => k_is)
    (case cGv => k_is)
    (case kGv => k_is)
    (case aRd => k_is)
    (case lRd => k_is)
    (case cRd => k_is)
    (case kRd => k_is)
    (case aMd => k_is)
    (case lMd => k_is)
    (case cMd => k_is)
    (case kMd => k_is)
    (case aL => k_is)
    (case lL => k_is)
    (case cL => k_is)
    (case kL => k_is)
    (case aM => k_is)
    (case lM => k_is)
    (case cM => k_is)
    (case kM => k_is)
    (case aA => k_is)
    (case lA => k_is)
    (case cA => k_is)
    (case kA => k_is)
    (case tA => k_is)
    (case gNM => k_is)
    (case gSG => k_is)
    (case gNB => k_is)
    (case gTM => k_is)
    (case gSM => k_is)
    (case gPC => k_is)
    (case gSC => k_is)
    (case lSC => k_is)
    (case z_len => k_is)
    (case z_all => k_is)
    (case z_int => k_is)
    (case z_range => k_is)
    (case z_repr => k_is)
    (case z_super => k_is)
    (case z_ord => k_is)
    (case z_sorted => k_is)
    (case z_tuple => k_is)
    (case z_str => k_is)
    (case z_list => k_is)
    (case z_zip => k_is)
    (case hbm => first | rfl | decide +kernel)
    (case sup => first | ks_is | rfl | decide +kernel)
    (case exm => first | k_is | rfl | decide +kernel)
