import PyProof.Rows.All
import Wide.All
import OpenK.AllK
import HandS.Text
import HandS.SortKw
import HandS.FromBytesMap
import HandS.Words
import KE.SortKeyHeap
import KE.SortData
import KE.LtSeq
import HandS.Ends
import HandS.ForMost
import HandS.Walk
import PyProof.ReprRoads
import PyProof.ReprLen
import HandS.WordsExc
import HandS.Defaults
import HandS.CallSlots
import HandS.ExcField
import HandS.TryOnly
import HandS.Deep
import HandS.Flow
import HandS.TupAny
import HandS.Codes
import HandS.StrMore
import HandS.Style
import HandS.WordsDict
import HandS.Conv
import HandS.Strs
import HandS.IsInst
import HandS.RaiseMore
import HandS.Zip
import HandS.Iter
import HandS.TryMany
import PyProof.StrLawsRepr
import PyProof.CallFns
import HandS.NoneIn
import PyProof.StrBlock
import KE.KDictSum
import KE.DataMinMax
import PyProof.ExcBaseAll.ValueError
import KE.GoesMore
import HandS.MakeKwOnly
import HandS.TupLe
import HandS.Rev
import HandS.RevTup
import PyProof.ListRange
import PyProof.FString
import KE.KExcSuper
import KE.KExcIs
import HandS.ExcSuper
import HandS.ExcIs
import Wide.FinOn
import PyProof.EqAt
import PyProof.EqKinds
import PyProof.TupleCall
import PySem.Challenge.RW_farfacts_k61_torn_blocks_are_told
set_option Elab.async false
set_option linter.all false
set_option maxRecDepth 100000
set_option maxHeartbeats 4000000
namespace N01
open PySem PySem.Builtin PySem.Builtin.Str
theorem part_len {x : Str} {cuts : List Nat} {w : Nat} : ∀ y ∈ partsBetween x cuts w, y.length ≤ x.length := by
  intro y hy
  unfold partsBetween at hy
  obtain ⟨p, _, e⟩ := List.mem_map.mp hy
  rw [← e]
  exact le_strSub x _ _
theorem split_len {x z : Str} : ∀ y ∈ Txt.split x z, y.length ≤ x.length := by
  intro y hy
  unfold Txt.split at hy
  split at hy
  · rw [List.mem_singleton.mp hy]; exact Nat.le_refl _
  · split at hy
    · rw [List.mem_singleton.mp hy]; exact Nat.le_refl _
    · exact part_len y hy
theorem parts_count {x : Str} {cuts : List Nat} {w : Nat} : (partsBetween x cuts w).length = cuts.length + 1 := by
  unfold partsBetween
  simp
theorem occ_keep (s sub : Str) (hi limit : Nat) : ∀ (l : List Nat) (st : Array Nat × Nat) (a : Nat), st.fst.toList.head? = some a → (forIn l st (StrLaws.occBody s sub hi limit)).run.fst.toList.head? = some a
  | [], _, _, h => h
  | b :: l, st, a, h => by
    rw [List.forIn_cons]
    unfold StrLaws.occBody
    split
    · refine occ_keep s sub hi limit l _ a ?_
      show (st.fst.push b).toList.head? = some a
      rw [Array.toList_push]
      cases e : st.fst.toList with
      | nil => rw [e] at h; cases h
      | cons c r => rw [e] at h; exact h
    · exact occ_keep s sub hi limit l _ a h
theorem occ_head (s sub : Str) (hi n : Nat) : ∀ (l : List Nat) (f : Nat), (forIn l ((#[] : Array Nat), f) (StrLaws.occBody s sub hi (n + 1))).run.fst.toList.head? = (forIn l ((#[] : Array Nat), f) (StrLaws.occBody s sub hi 1)).run.fst.toList.head?
  | [], _ => rfl
  | b :: l, f => by
    rw [List.forIn_cons, List.forIn_cons]
    have e1 : ∀ k : Nat, 0 < k → StrLaws.occBody s sub hi k b ((#[] : Array Nat), f) = if ((f ≤ b) ∧ b + sub.length ≤ hi) ∧ subAt s sub b = true then pure (ForInStep.yield ((#[] : Array Nat).push b, b + sub.length)) else pure (ForInStep.yield ((#[] : Array Nat), f)) := by
      intro k hk
      unfold StrLaws.occBody
      have : ((((#[] : Array Nat), f).fst.size < k ∧ ((#[] : Array Nat), f).snd ≤ b) ∧ b + sub.length ≤ hi) ∧ subAt s sub b = true ↔ ((f ≤ b) ∧ b + sub.length ≤ hi) ∧ subAt s sub b = true := by
        constructor
        · rintro ⟨⟨⟨_, h2⟩, h3⟩, h4⟩; exact ⟨⟨h2, h3⟩, h4⟩
        · rintro ⟨⟨h2, h3⟩, h4⟩; exact ⟨⟨⟨hk, h2⟩, h3⟩, h4⟩
      by_cases c : ((f ≤ b) ∧ b + sub.length ≤ hi) ∧ subAt s sub b = true
      · rw [if_pos c, if_pos (this.mpr c)]
      · rw [if_neg c, if_neg (fun z => c (this.mp z))]
    rw [e1 (n + 1) (Nat.succ_pos n), e1 1 Nat.one_pos]
    by_cases c : ((f ≤ b) ∧ b + sub.length ≤ hi) ∧ subAt s sub b = true
    · rw [if_pos c]
      exact (occ_keep s sub hi (n + 1) l ((#[] : Array Nat).push b, b + sub.length) b rfl).trans (occ_keep s sub hi 1 l ((#[] : Array Nat).push b, b + sub.length) b rfl).symm
    · rw [if_neg c]
      exact occ_head s sub hi n l f
theorem occurrences_head (s sub : Str) (lo hi n : Nat) : (occurrences s sub lo hi (n + 1)).head? = (occurrences s sub lo hi 1).head? := by
  rw [StrLaws.occ_eq, StrLaws.occ_eq]
  exact occ_head s sub hi n _ lo
theorem part_of_split {x z a b : Str} (h : Txt.split x z = [a, b]) : (Txt.partition x z).1 = a ∧ (Txt.partition x z).2.2 = b := by
  unfold Txt.split at h
  split at h
  · cases h
  · split at h
    · cases h
    · have hc := congrArg List.length h
      rw [parts_count] at hc
      have h1 := occurrences_head x z 0 x.length x.length
      cases e : occurrences x z 0 x.length (x.length + 1) with
      | nil => rw [e] at hc; simp at hc
      | cons i r =>
        cases r with
        | cons j q => rw [e] at hc; simp at hc
        | nil =>
          rw [e] at h h1
          unfold Txt.partition
          cases e2 : occurrences x z 0 x.length 1 with
          | nil => rw [e2] at h1; cases h1
          | cons i' r' =>
            rw [e2] at h1
            have hi : i = i' := Option.some.inj h1
            subst hi
            unfold partsBetween at h
            simp only [List.map_cons, List.map_nil, List.cons_append, List.nil_append, List.zip_cons_cons, List.zip_nil_left] at h
            injection h with ha hb
            injection hb with hb _
            exact ⟨ha, hb⟩
theorem size_reps (c : Array Nat) : ∀ (k : Nat) (a : Array Nat), ((List.replicate k c).foldl (· ++ ·) a).size = a.size + k * c.size
  | 0, a => by simp
  | k + 1, a => by
    rw [List.replicate_succ, List.foldl_cons, size_reps c k, Array.size_append, Nat.succ_mul]
    omega
theorem mul_len (z : Str) (n : Int) : (Txt.mul z n).length = z.length * n.toNat := by
  unfold Txt.mul
  by_cases h : n < 1
  · rw [if_pos h, show n.toNat = 0 by omega, Nat.mul_zero] <;> rfl
  · rw [if_neg h]
    by_cases h2 : (n == 1 || z.length == 0) = true
    · rw [if_pos h2]
      rcases Bool.or_eq_true_iff.mp h2 with h3 | h3
      · rw [show n.toNat = 1 by have := eq_of_beq h3; omega, Nat.mul_one]
      · rw [show z.length = 0 from eq_of_beq h3, Nat.zero_mul]
    · rw [if_neg h2]
      show ((List.replicate n.toNat z.cps).foldl (· ++ ·) #[]).size = z.cps.size * n.toNat
      rw [size_reps, Nat.mul_comm]
      simp
def Asc (t : Str) : Prop := ∀ c ∈ t.cps.toList, c < 128
theorem asc_app {a b : Str} (ha : Asc a) (hb : Asc b) : Asc (a ++ b) := by
  intro c hc
  have e : (a ++ b).cps.toList = a.cps.toList ++ b.cps.toList := Array.toList_append
  rw [e] at hc
  rcases List.mem_append.mp hc with h | h
  · exact ha c h
  · exact hb c h
theorem asc_one {c : Nat} (h : c < 128) : Asc ⟨#[c]⟩ := by
  intro d hd
  have e : d = c := by simpa using hd
  rw [e]
  exact h
theorem mem_reps (a : Array Nat) : ∀ (k : Nat) (b : Array Nat) (c : Nat), c ∈ ((List.replicate k a).foldl (· ++ ·) b).toList → c ∈ b.toList ∨ c ∈ a.toList
  | 0, _, _, h => Or.inl h
  | k + 1, b, c, h => by
    rw [List.replicate_succ, List.foldl_cons] at h
    rcases mem_reps a k (b ++ a) c h with h | h
    · rw [Array.toList_append] at h
      exact List.mem_append.mp h
    · exact Or.inr h
theorem asc_mul {z : Str} (n : Int) (hz : Asc z) : Asc (Txt.mul z n) := by
  intro c hc
  unfold Txt.mul at hc
  split at hc
  · exact absurd hc (by decide +revert)
  · split at hc
    · exact hz c hc
    · rcases mem_reps z.cps n.toNat #[] c hc with h | h
      · cases h
      · exact hz c h
theorem strOk_asc {t : Str} (h : Asc t) : PyData.strOk t = true := by
  unfold PyData.strOk
  rw [Array.all_eq_true]
  intro i hi
  have := h t.cps[i] (by simp)
  exact decide_eq_true (by omega)
theorem mulOk_small {z : Str} {n : Int} (h1 : z.length ≤ 1000) (h2 : n ≤ 1000) (h3 : -1000 ≤ n) : MulOk z n := by
  refine ⟨?_, fun hn hc => ?_, fun hn hc => ?_⟩
  · rw [decide_eq_false (by omega), decide_eq_false (by omega)] <;> rfl
  · have hz : (z.length : Int) ≤ 1000 := by omega
    have : (1000 : Int) ≤ (2 ^ 63 - 1) / n := by
      refine (Int.le_ediv_iff_mul_le (by omega)).mpr ?_
      omega
    omega
  · have hb : z.length * n.toNat ≤ 1000 * 1000 := Nat.mul_le_mul h1 (by omega)
    have hs : sizeLine = 16777216 := sizeLine_eq
    unfold tooLong
    exact decide_eq_false (by omega)
end N01

set_option linter.all false
set_option maxRecDepth 100000
set_option maxHeartbeats 4000000
/-! sorted(rows, key=f), f a def of the program that makes objects: over the hand layer -/
namespace SQ
open PySem PySem.Spec PyProof.Rows PySem.W L2 FbM
/-- the keys are data that can be sorted in any state where they read so -/
def Srtb (prog : Program) (w : World) (A : Around) (ds : List PyData) : Prop := ∀ (s : Shared) (keys : List Value), EachIs (fun v d => ∃ as, Reads s.heap v d as) keys ds →
  ∃ f : Value → Option (List (Int ⊕ List Nat)), SortsAt prog w A s { toKeyOrd := listOrd itemOrd, keyOf := f, dflt := [] } keys ∧ EachIs (fun v d => f v = some (keyToks d)) keys ds
theorem Srtb.data {prog : Program} {w : World} {A : Around} {ds : List PyData} (hal : AllAlike ds) (hk : Sortable ds) (hu : ∀ d, d ∈ ds → A.units + d.depth < cLine) : Srtb prog w A ds := fun s keys e =>
  ⟨(dataKind s.heap ds).keyOf, SortsAt.data e hal hk hu, each_keys hal e⟩
/-- flat keys in the abstract heap: a plain value or a tuple of such -/
inductive Fl : V → PyData → Prop where
  | bl (b : Bool) : Fl (.bl b) (.bool b)
  | int (i : Int) : Fl (.int i) (.int i)
  | str (x : Str) : Fl (.str x) (.str x)
def KeyAt (K : PySem.W.Frag) (H : Hp) (v : V) (d : PyData) : Prop := Fl v d ∨ ∃ p xs es, v = .ref p ∧ d = .tuple es ∧ SqT K H p xs ∧ Paired Fl xs es
theorem Fl.dp {K : PySem.W.Frag} {H : Hp} {v : V} {d : PyData} (h : Fl v d) : Dp K H v d := by
  cases h with
  | bl b => exact .bl b
  | int i => exact .int i
  | str x => exact .str x
theorem fl_all {K : PySem.W.Frag} {H : Hp} : ∀ {xs : List V} {es : List PyData}, Paired Fl xs es → DpAll K H xs es
  | _, _, .nil => .nil
  | _, _, .cons h t => .cons h.dp (fl_all t)
theorem KeyAt.dp {K : PySem.W.Frag} {H : Hp} {v : V} {d : PyData} (h : KeyAt K H v d) : Dp K H v d := by
  rcases h with h | ⟨p, xs, es, rfl, rfl, e, f⟩
  · exact h.dp
  · exact .tup e (fl_all f)
theorem sqT_un {K : PySem.W.Frag} {fs ex : List Addr} {H H' : Hp} {h h' : Heap} {p : Addr} {xs : List V} (u : Un fs ex H H' h h') (e : SqT K H p xs) : SqT K H' p xs := by
  rcases e with (e | ⟨o, e⟩) | e
  · exact .inl (.inl (u.tups _ _ e))
  · exact .inl (.inr ⟨o, u.frzs _ _ _ e⟩)
  · exact .inr e
theorem KeyAt.un {K : PySem.W.Frag} {fs ex : List Addr} {H H' : Hp} {h h' : Heap} {v : V} {d : PyData} (q : KeyAt K H v d) (u : Un fs ex H H' h h') : KeyAt K H' v d := by
  rcases q with q | ⟨p, xs, es, e1, e2, e, f⟩
  · exact .inl q
  · exact .inr ⟨p, xs, es, e1, e2, sqT_un u e, f⟩
section
variable {X : Cx} {pins : List (Addr × Obj)} {σ : L2.St} {H H' : Hp} {s : Shared}
theorem list_cell {xs : Array Value} {n : Nat} : ∀ v, (seqObj "list" xs n).data ≠ .cell v := fun v z => by cases z
/-- a pinned list of ours is written -/
theorem pin_put {kS : Addr} {o o' : Obj} {h' : Heap} {t' : Nat} (r : Rec X pins kS) (I : Inv X ((kS, o) :: pins) σ H s) (k : ∀ c u, c ≠ kS → s.heap.get? c = some u → h'.get? c = some u) (e : h'.get? kS = some o') (nc : ∀ v, o'.data ≠ .cell v) :
    Inv X ((kS, o') :: pins) σ H { s with heap := h', toks := t' } := by
  obtain ⟨_, n, nl, nf, _⟩ := I.pin (kS, o) (List.mem_append_right _ List.mem_cons_self)
  have I0 : Inv X pins σ H s := ClX.unpin I
  have I1 : Inv X pins σ H { s with heap := h', toks := t' } := r.turn I0 n k
  refine I1.pins_of fun p hp => ?_
  rcases List.mem_cons.mp hp with z | z
  · subst z
    exact ⟨e, n, nl, nf, nc⟩
  · exact I1.pin p (List.mem_append_right _ z)
/-- a record of ours becomes a tracked list -/
theorem track {a : Addr} {out : List V} {its : List Value} {c : Nat} (r : Rec X pins a) (I : Inv X pins σ H s) (n : H a = none) (e : s.heap.get? a = some (seqObj "list" its.toArray c)) (rv : Vals out its) (hz : out.length ≤ sizeLine) : Inv X pins σ (upd H a (.lst out)) s := by
  have ne : ∀ {b : Addr} {o : HO}, H b = some o → b ≠ a := fun {b o} q z => by rw [z, n] at q; cases q
  have key := I.step (h' := s.heap) (H' := upd H a (.lst out)) (g' := s.gens) (t' := s.toks) (d' := s.drawn) (ch := [a])
    (fun b hb => by
      obtain rfl : b = a := by simpa using hb
      exact ⟨.inr r.ge, r.nl, r.ce, r.pn⟩)
    (fun b o _ _ _ q _ => q) (fun b o _ _ _ q _ => ⟨o.slots, q⟩)
    (fun b o hb q m => (upd_ne (fun z => hb (by simp [z]))).trans m) (fun b o _ q => ⟨o, q⟩)
    (fun b xs q => (upd_ne (ne q)).trans q) (fun b o u q => (upd_ne (ne q)).trans q) (fun b ps q => ⟨#[], by rw [upd_ne (ne q), q]; simp⟩) (fun m hm => hm)
    (fun b u q => ?_) I.bare
  · exact key
  · by_cases hb : b = a
    · subst hb
      rw [upd_same] at q
      cases q
      exact ⟨hz, its, c, rv, e⟩
    · rw [upd_ne hb] at q
      exact (I.hok b u q).stay (fun _ _ _ z => z) (fun c z => (upd_ne (ne z)).trans z) fun c xs z => (upd_ne (ne z)).trans z
theorem each_vals {xs : List V} {vs : List Value} (r : Vals xs vs) (ds : List PyData) (hl : ds.length = xs.length) : EachIs (fun v (b : V × PyData) => RelV b.1 v) vs (xs.zip ds) := by
  induction r generalizing ds with
  | nil => exact .nil
  | cons h t ih =>
    cases ds with
    | nil => cases hl
    | cons d ds => exact .cons h (ih ds (Nat.succ.inj hl))
theorem vals_each : ∀ {out : List Value} {bs : List (V × PyData)}, EachIs (fun v (b : V × PyData) => RelV b.1 v) out bs → Vals (bs.map (·.1)) out
  | _, _, .nil => .nil
  | _, _, .cons h t => .cons h (vals_each t)
/-- THE sorted list -/
def sortK (b : Bool) (xs : List V) (ds : List PyData) : List V := ((xs.zip ds).mergeSort (dataLe b (·.2))).map (·.1)
theorem keys_each {kvs : List V} {ds : List PyData} {us : List Value} (I : Inv X pins σ H s) (r : Vals kvs us) (k : Paired (KeyAt X.K H) kvs ds) : EachIs (fun v d => ∃ as, Reads s.heap v d as) us ds := by
  induction k generalizing us with
  | nil =>
    cases r
    exact .nil
  | cons h t ih =>
    cases r with
    | cons r1 r2 => exact .cons (Dp.reads I _ _ _ h.dp r1) (ih r2)
theorem snoc_vals {α β : Type} {F : α → β → Prop} {x : α} {y : β} (h : F x y) : ∀ {xs : List α} {ys : List β}, Paired F xs ys → Paired F (xs ++ [x]) (ys ++ [y])
  | _, _, .nil => .cons h .nil
  | _, _, .cons q t => .cons q (snoc_vals h t)
theorem paired_imp {α β : Type} {F G : α → β → Prop} (h : ∀ x y, F x y → G x y) : ∀ {xs : List α} {ys : List β}, Paired F xs ys → Paired G xs ys
  | _, _, .nil => .nil
  | _, _, .cons q t => .cons (h _ _ q) (paired_imp h t)
end
section
variable {X : Cx} {pins : List (Addr × Obj)} {σ : L2.St} {H : Hp} {CX : CXT} {k : Nat} {q : Addr} {sp : Sp} {A : Around} {a kS : Addr} {xs : List V} {vs : List Value} {ds : List PyData} {b : Bool} {e1 : Nat} {P : PySem.Fin → Shared → Prop} {E : Value → Shared → Prop}
theorem rest_run {s : Shared} (F : FnR X.prog X.w X.K X.mg X.base CX k q sp) (hno : ∀ o H s E e s', ¬ CX o H s E e s') (hr : Room k A) (hA : A.frames = some X.stack)
    (I : Inv X ((kS, seqObj "list" #[] 0) :: (a, seqObj "list" #[] e1) :: pins) σ H s) (rk : Rec X ((a, seqObj "list" #[] e1) :: pins) kS) (ra : Rec X pins a)
    (rv : Vals xs vs) (hl : ds.length = xs.length) (hZ : vs.length ≤ sizeLine) (S : Srtb X.prog X.w A ds)
    (turn : ∀ (i : Nat) (x : V) (d : PyData), xs[i]? = some x → ds[i]? = some d → ∀ H', Same H H' → ∃ E, sp [x] H' (fun v H'' => Same H' H'' ∧ KeyAt X.K H'' v d) E)
    (h : ∀ s' H', Same H H' → Inv X pins σ (upd H' a (.lst (sortK b xs ds))) s' → H' a = none → P (.done (.ret .none)) s') :
    wpAny (model X.prog X.w) A (ksk_rest a (.ref q) b vs.toArray e1 (.ref kS)) P E s := by
  have hvl := rv.length
  have hka : kS ≠ a := fun z => rk.pn (a, seqObj "list" #[] e1) (List.mem_append_right _ List.mem_cons_self) z.symm
  unfold ksk_rest
  refine wpAny_bind (wpAny_rule ?_)
  first
    | rw [List.forIn_toArray]
    | (rw [← Array.forIn_toList]; simp only [List.toList_toArray])
    | rw [← Array.forIn_toList]
  refine wpAny_bind (ksk_fold (fun i s' => ∃ kA e H' kvs, Inv X ((kS, seqObj "list" kA e) :: (a, seqObj "list" #[] e1) :: pins) σ H' s' ∧ Same H H' ∧ Vals kvs kA.toList ∧ Paired (KeyAt X.K H') kvs (ds.take i)) vs 0 s
    ⟨#[], 0, H, [], I, Same.refl H, .nil, by rw [List.take_zero]; exact .nil⟩ ?step ?done)
  case step =>
    rintro j u s' hu ⟨kA, e, H', kvs, I', sm, rk', hk⟩
    simp only [Nat.zero_add] at hk ⊢
    have hj : j < vs.length := (List.getElem?_eq_some_iff.mp hu).1
    obtain ⟨x, hx⟩ : ∃ x, xs[j]? = some x := ⟨_, List.getElem?_eq_getElem (by omega)⟩
    obtain ⟨d, hd⟩ : ∃ d, ds[j]? = some d := ⟨_, List.getElem?_eq_getElem (by omega)⟩
    obtain ⟨u', hu', rx⟩ := rv.get hx
    rw [hu] at hu'
    cases hu'
    obtain ⟨E1, D⟩ := turn j x d hx hd H' sm
    have hz : kA.size ≤ vs.length := by
      have h1 := rk'.length
      have h2 := hk.length
      have h3 : kA.toList.length = kA.size := by simp
      rw [List.length_take] at h2
      rw [h3] at h1
      omega
    have e0 := I'.env0
    have e1' : Env0 X.prog X.w X.K X.mg X.base A X.stack s' H' := ⟨hA, e0.mod, e0.bs, e0.bsz, e0.funs, e0.frf, e0.hok, e0.bare⟩
    refine wpAny_bind (wpAny_attempt (wpAny_call (codeAny_mono (F A X.stack s' H' [u] [x] _ E1 hr e1' (.cons rx .nil) D) fun rr s2 hrr => ?_)))
    cases rr with
    | error e => exact (hno _ _ _ _ _ _ hrr).elim
    | ok fl =>
      cases fl with
      | next => exact False.elim hrr
      | brk => exact False.elim hrr
      | cont => exact False.elim hrr
      | ret v =>
        obtain ⟨v', H'', os, bare, un, hok, rv', sm', ky⟩ := (show CE X.stack X.prog X.w H' _ _ v s2 from hrr)
        have I2 : Inv X ((kS, seqObj "list" kA e) :: (a, seqObj "list" #[] e1) :: pins) σ H'' s2 := I'.call' os un hok bare (fun b y => absurd y List.not_mem_nil)
        have nk : s2.heap.get? kS = some (seqObj "list" kA e) := ClX.pin_at I2
        obtain ⟨c2, hc2⟩ : ∃ c2, (s2.heap.update kS (Obj.mapSeq (·.push v))).get? kS = some (seqObj "list" (kA.push v) c2) := ⟨_, get?_update_seq nk (·.push v)⟩
        have s1 := Heap.SameBut.update s2.heap kS (Obj.mapSeq (·.push v))
        try dsimp only
        refine wpAny_bind (listUpdate_at nk rfl ?_ (Nat.le_trans hz hZ) (Nat.le_trans (Nat.le_of_eq (Array.size_push ..)) (Nat.succ_le_succ (Nat.le_trans hz hZ))))
        refine wpAny_pure ⟨rfl, kA.push v, c2, H'', kvs ++ [v'], ?_, sm.trans sm', ?_, ?_⟩
        · exact pin_put (t' := s2.toks) rk I2 (fun c o hc z => (s1.2 c hc).trans z) hc2 list_cell
        · have ea : (kA.push v).toList = kA.toList ++ [v] := by simp
          rw [ea]
          exact snoc_vals rv' rk'
        · have ek : ds.take (j + 1) = ds.take j ++ [d] := by rw [List.take_add_one, hd]; rfl
          rw [ek]
          exact snoc_vals ky (paired_imp (fun _ _ z => z.un un) hk)
  case done =>
    rintro s' ⟨kA, e, H', kvs, I', sm, rk', hk⟩
    have hk' : Paired (KeyAt X.K H') kvs ds := by
      have e3 : ds.take (0 + vs.length) = ds := List.take_of_length_le (by omega)
      rw [e3] at hk
      exact hk
    have hsz : kA.size = vs.length := by
      have h1 := rk'.length
      have h2 := hk'.length
      have h3 : kA.toList.length = kA.size := by simp
      rw [h3] at h1
      omega
    have nk : s'.heap.get? kS = some (seqObj "list" kA e) := ClX.pin_at I'
    have na : s'.heap.get? a = some (seqObj "list" #[] e1) := ClX.pin_at (ClX.unpin I')
    have uk : H' kS = none := ClX.pin_un I'
    have ua : H' a = none := ClX.pin_un (ClX.unpin I')
    obtain ⟨f, SA, ef⟩ := S s' kA.toList (keys_each I' rk' hk')
    try dsimp only
    refine wpAny_bind (listItems_at nk rfl ?_)
    refine keyH_end (κ := { toKeyOrd := listOrd itemOrd, keyOf := f, dflt := [] }) (h₁ := hideAll s'.heap [kS]) (fun c o _ z => of_hideAll _ z) (hideAll_none _ (by simp)) nk na hka SA hsz hZ fun h' tk c kp n3 => ?_
    have I1 : Inv X pins σ H' s' := ClX.unpin (ClX.unpin I')
    have I3 : Inv X pins σ H' { s' with heap := h', toks := tk } := by
      have keep : ∀ b o, b ∉ [kS, a] → s'.heap.get? b = some o → h'.get? b = some o := fun b o hb z => kp b o (fun y => hb (by simp [y])) (hideAll_get _ z (fun y => hb (by simp at y; simp [y])))
      have nit : ∀ b u, H' b = some u → b ∉ [kS, a] := fun b u e z => by
        rcases List.mem_cons.mp z with y | y
        · rw [y, uk] at e; cases e
        · obtain rfl : b = a := by simpa using y
          rw [ua] at e; cases e
      refine I1.step (g' := s'.gens) (d' := s'.drawn) (ch := [kS, a]) (fun b hb => ?_) (fun b o _ _ hc e _ => keep b o hc e) (fun b o _ _ hc e _ => ⟨o.slots, keep b o hc e⟩) (fun _ _ _ _ n => n)
        (fun b o hc e => ⟨o, keep b o hc e⟩) (fun _ _ e => e) (fun _ _ _ e => e) (fun b ps e => ⟨#[], by rw [e]; simp⟩) (fun m hm => ?_) (fun b u e => ?_) I1.bare
      · rcases List.mem_cons.mp hb with y | y
        · rw [y]
          exact ⟨.inr rk.ge, rk.nl, rk.ce, fun p hp => rk.pn p (by
            rcases List.mem_append.mp hp with z | z
            · exact List.mem_append_left _ z
            · exact List.mem_append_right _ (List.mem_cons_of_mem _ z))⟩
        · obtain rfl : b = a := by simpa using y
          exact ⟨.inr ra.ge, ra.nl, ra.ce, ra.pn⟩
      · obtain ⟨o, es, ep, ho, r⟩ := hm
        refine ⟨o, es, ep, keep _ o (fun z => ?_) ho, r⟩
        rcases List.mem_cons.mp z with y | y
        · exact rk.nl y.symm
        · have y' : X.env.locals = a := by simpa using y
          exact ra.nl y'.symm
      · refine (I1.hok b u e).stay (fun c v hc z => keep c v ?_ z) (fun _ z => z) fun _ _ z => z
        rcases hc with z | z
        · rw [z]; exact nit b u e
        · exact nit c _ z
    have eo : EachIs (fun v (b : V × PyData) => RelV b.1 v) (sortVals { toKeyOrd := listOrd itemOrd, keyOf := f, dflt := [] } b kA.toList vs) ((xs.zip ds).mergeSort (dataLe b (·.2))) := by
      refine sortVals_each (κ := { toKeyOrd := listOrd itemOrd, keyOf := f, dflt := [] }) (rev := b) (fun p : V × PyData => keyToks p.2) (each_vals rv ds hl) ?_
      have e5 : ds = (xs.zip ds).map (·.2) := by rw [List.map_snd_zip (by omega)]
      have ef' : EachIs (fun v d => f v = some (keyToks d)) kA.toList ((xs.zip ds).map fun p : V × PyData => p.2) := by rw [← e5]; exact ef
      exact each_of_map (R := fun (v : Value) (d : PyData) => f v = some (keyToks d)) (fun p : V × PyData => p.2) ef'
    refine h _ H' sm (track (c := c) (its := sortVals { toKeyOrd := listOrd itemOrd, keyOf := f, dflt := [] } b kA.toList vs) ra I3 ua n3 (vals_each eo) ?_) ua
    unfold sortK
    rw [List.length_map, List.length_mergeSort, List.length_zip]
    omega
end
end SQ

set_option linter.all false
set_option maxRecDepth 100000
set_option maxHeartbeats 4000000
namespace SQ
open PySem PySem.Spec PyProof.Rows PySem.W L2 FbM
theorem pin_two {X : Cx} {pins : List (Addr × Obj)} {σ : L2.St} {H : Hp} {s : Shared} {p : Addr × Obj} (I : Inv X pins σ H s) (e : s.heap.get? p.1 = some p.2) (n : H p.1 = none) (nl : p.1 ≠ X.env.locals) (nf : p.1 ∉ X.fs) (nc : ∀ v, p.2.data ≠ .cell v) : Inv X (p :: pins) σ H s :=
  I.pins_of fun r hr => by
    rcases List.mem_cons.mp hr with z | z
    · subst z
      exact ⟨e, n, nl, nf, nc⟩
    · exact I.pin r (List.mem_append_right _ z)
section
variable {X : Cx} {pins : List (Addr × Obj)} {σ : L2.St} {H : Hp} {CX : CXT} {k : Nat} {q : Addr} {sp : Sp} {a : Addr} {xs : List V} {ds : List PyData} {b : Bool}
/-- the key of each item: the def's promise there -/
def Keys (K : PySem.W.Frag) (sp : Sp) (H : Hp) (xs : List V) (ds : List PyData) : Prop := ds.length = xs.length ∧ ∀ (i : Nat) (x : V) (d : PyData), xs[i]? = some x → ds[i]? = some d → ∀ H', Same H H' → ∃ E, sp [x] H' (fun v H'' => Same H' H'' ∧ KeyAt K H'' v d) E
theorem sorted_runK {s : Shared} {Q : VK} {kw : List (Str × Value)} (F : FnR X.prog X.w X.K X.mg X.base CX k q sp) (hno : ∀ o H s E e s', ¬ CX o H s E e s') (hr : Room (k + 2) X.A) (hA : X.A.frames = some X.stack)
    (I : Inv X pins σ H s) (hs : SqL X.K H a xs) (K : Keys X.K sp H xs ds) (S : Srtb X.prog X.w X.A.in1.in1 ds)
    (ha1 : ∀ l, argsOk "sorted" ⟨[.ref l], kw⟩) (ha2 : ∀ x, argsOk "list.sort" ⟨[.ref x], kw⟩) (ht : ∀ x, Builtin.«list.sort» ⟨[.ref x], kw⟩ = ksk_tree x (.ref q) b)
    (h : ∀ p H', Same H H' → H' p = none → Q (.ref p) (upd H' p (.lst (sortK b xs ds)))) :
    wpAny (model X.prog X.w) X.A (call (.builtin "sorted") [.ref a] kw) (EP X pins σ Q) X.xe s := by
  obtain ⟨its, rv, pl, hz⟩ := I.list hs
  have hvl := rv.length
  have hL : its.length ≤ sizeLine := by omega
  refine sorted_of_sort pl.isList hL (ha1 _) ha2 fun E' => ?_
  rw [ht]
  have keep : ∀ c u, s.heap.get? c = some u → (sortingHeap (copyHeap s.heap its) (s.heap.objs.size + 1) its).get? c = some u := fun c u z => sorting_copy_old z
  have ge1 : s.heap.objs.size ≤ s.heap.objs.size + 1 := Nat.le_succ _
  have ho : ({ s with heap := copyHeap s.heap its } : Shared).heap.get? (s.heap.objs.size + 1) = some (seqObj "list" its.toArray 0) := copyHeap_at s.heap its
  have ha : s.heap.objs.size + 1 < (copyHeap s.heap its).objs.size := Heap.lt_size ho
  obtain ⟨e1, ho1⟩ : ∃ e1, ((copyHeap s.heap its).update (s.heap.objs.size + 1) (Obj.mapSeq fun _ => (#[] : Array Value))).get? (s.heap.objs.size + 1) = some (seqObj "list" #[] e1) := ⟨_, get?_update_seq ho fun _ => #[]⟩
  have hkS : (((copyHeap s.heap its).update (s.heap.objs.size + 1) (Obj.mapSeq fun _ => (#[] : Array Value))).push (seqObj "tuple" its.toArray 0)).objs.size = (copyHeap s.heap its).objs.size + 1 := by rw [size_push', Heap.size_update]
  unfold ksk_tree
  refine wpAny_bind (listItems_at ho rfl ?_)
  refine wpAny_bind (listUpdate_at ho rfl ?_ (by rw [List.size_toArray]; exact hL) (Nat.zero_le _))
  refine wpAny_bind (seqEpoch_at ho1 rfl ?_)
  refine wpAny_bind (wpAny_newTuple ?_ (by show its.length ≤ _; exact hL))
  refine wpAny_bind (wpAny_newList ?_ (Nat.zero_le _))
  refine wpAny_holding ?_
  have ge2 : s.heap.objs.size ≤ (((copyHeap s.heap its).update (s.heap.objs.size + 1) (Obj.mapSeq fun _ => (#[] : Array Value))).push (seqObj "tuple" its.toArray 0)).objs.size := by rw [hkS]; omega
  have nka : (((copyHeap s.heap its).update (s.heap.objs.size + 1) (Obj.mapSeq fun _ => (#[] : Array Value))).push (seqObj "tuple" its.toArray 0)).objs.size ≠ s.heap.objs.size + 1 := by rw [hkS]; omega
  have I0 : Inv X pins σ H { s with heap := ((((copyHeap s.heap its).update (s.heap.objs.size + 1) (Obj.mapSeq fun _ => (#[] : Array Value))).push (seqObj "tuple" its.toArray 0)).push (seqObj "list" #[] 0)) } := I.kept (t' := s.toks) keep
  have I1 := pin_two (p := (s.heap.objs.size + 1, seqObj "list" #[] e1)) I0 (Heap.get?_push_of_some _ (Heap.get?_push_of_some _ ho1)) (I.hok.fresh ge1) (Nat.ne_of_gt (Nat.lt_of_lt_of_le I.lt ge1)) (I.nofs ge1) list_cell
  have I2 := pin_two (p := ((((copyHeap s.heap its).update (s.heap.objs.size + 1) (Obj.mapSeq fun _ => (#[] : Array Value))).push (seqObj "tuple" its.toArray 0)).objs.size, seqObj "list" #[] 0)) I1 (Heap.get?_push_size _ rfl) (I.hok.fresh ge2) (Nat.ne_of_gt (Nat.lt_of_lt_of_le I.lt ge2)) (I.nofs ge2) list_cell
  have ra := rec_new I ge1
  have rk0 := rec_new I ge2
  refine rest_run (A := X.A.in1.in1) (xs := xs) (ds := ds) F hno hr.in1.in1 hA I2 ⟨rk0.nl, rk0.ge, rk0.ce, fun p hp => ?_, rk0.fr⟩ ra rv K.1 hL S K.2 fun s' H' sm I' n => ⟨rfl, ?_⟩
  · rcases List.mem_append.mp hp with z | z
    · exact rk0.pn p (List.mem_append_left _ z)
    · rcases List.mem_cons.mp z with y | y
      · subst y
        exact nka.symm
      · exact rk0.pn p (List.mem_append_right _ y)
  · exact ⟨.ref _, _, I', rfl, h _ H' sm n⟩
end
/-- sorted(xs, key=f) -/
def rSortF (K : PySem.W.Frag) (Sb : List PyData → Prop) (q : Addr) (sp : Sp) : List V → List V → Hp → VK → Prop := fun vs zs H Q => ∃ (a : Addr) (xs : List V) (ds : List PyData), vs = [V.ref a] ∧ zs = [.ref q] ∧ SqL K H a xs ∧ Keys K sp H xs ds ∧ Sb ds ∧
  ∀ p H', Same H H' → H' p = none → Q (.ref p) (upd H' p (.lst (sortK false xs ds)))
theorem cr_sortF {X : Cx} {CX : CXT} {k : Nat} {q : Addr} {sp : Sp} {Sb : List PyData → Prop} (F : FnR X.prog X.w X.K X.mg X.base CX k q sp) (hno : ∀ o H s E e s', ¬ CX o H s E e s') (hr : Room (k + 2) X.A)
    (S : ∀ ds, Sb ds → Srtb X.prog X.w X.A.in1.in1 ds) : CallRK X (.builtin "sorted") [Str.ofString "key"] (rSortF X.K Sb q sp) := by
  intro pins s σ H vs zs us ws Q I r rz h
  obtain ⟨a, xs, ds, rfl, rfl, hs, K, sb, h⟩ := h
  obtain rfl := Vals.ref1 r
  obtain ⟨w1, rfl, e1⟩ := vals1 rz
  obtain rfl : w1 = Value.ref q := e1
  exact sorted_runK F hno hr I.ok.frames I hs K (S ds sb) (fun _ => ksk_s1 _ _) (fun _ => ksk_l1 _ _) (fun _ => ksk_t1 _ _) h
end SQ

set_option linter.all false
set_option maxRecDepth 100000
set_option maxHeartbeats 4000000
namespace SQ
open PySem PySem.Spec PyProof.Rows PySem.W L2 FbM SeqAt
/-- a kind's number and a plain value: (number, value) -/
inductive Pl : PyData → Prop where
  | bl (b : Bool) : Pl (.bool b)
  | int (i : Int) : Pl (.int i)
  | str (x : Str) : Pl (.str x)
def kyd (r : Int) (x : PyData) : PyData := .tuple [.int r, x]
/-- equal numbers go with values of one kind -/
def Coh (ds : List PyData) : Prop := (∀ d ∈ ds, ∃ r x, d = kyd r x ∧ Pl x) ∧ ∀ r x y, kyd r x ∈ ds → kyd r y ∈ ds → alike x y = true
theorem pl_unique {h : Heap} {v : Value} {d d' : PyData} {as as' : List Addr} (r : Reads h v d as) (r' : Reads h v d' as') (p : Pl d) (p' : Pl d') : d = d' := by
  cases p <;> cases p' <;> cases r <;> cases r' <;> rfl
theorem kyd_unique {h : Heap} {v : Value} {r r' : Int} {x x' : PyData} {as as' : List Addr} (q : Reads h v (kyd r x) as) (q' : Reads h v (kyd r' x') as') (p : Pl x) (p' : Pl x') : kyd r x = kyd r' x' := by
  cases q with
  | tuple h1 h2 h3 h4 =>
    cases q' with
    | tuple k1 k2 k3 k4 =>
      rw [h1] at k1; cases k1
      rw [h3] at k3; cases k3
      generalize eL : Array.toList _ = L at h4
      rw [eL] at k4
      cases h4 with
      | cons a1 a2 =>
        cases k4 with
        | cons b1 b2 =>
          cases a2 with
          | cons a3 a4 =>
            cases b2 with
            | cons b3 b4 =>
              have e1 := pl_unique a1 b1 (.int _) (.int _)
              have e2 := pl_unique a3 b3 p p'
              rw [e2]
              cases e1
              rfl
open Classical in
noncomputable def kfn (h : Heap) (ds : List PyData) (v : Value) : Option (List (Int ⊕ List Nat)) := if q : ∃ d, d ∈ ds ∧ ∃ as, Reads h v d as then some (keyToks q.choose) else none
theorem kfn_some {h : Heap} {ds : List PyData} (C : Coh ds) {v : Value} {d : PyData} {as : List Addr} (hd : d ∈ ds) (r : Reads h v d as) : kfn h ds v = some (keyToks d) := by
  have q : ∃ d, d ∈ ds ∧ ∃ as, Reads h v d as := ⟨d, hd, as, r⟩
  have e : kfn h ds v = some (keyToks q.choose) := by unfold kfn; rw [dif_pos q]
  obtain ⟨h1, as', h2⟩ := q.choose_spec
  rw [e]
  obtain ⟨r0, x0, e0, p0⟩ := C.1 _ h1
  obtain ⟨r1, x1, e1, p1⟩ := C.1 _ hd
  subst e1
  rw [e0] at h2 ⊢
  rw [kyd_unique h2 r p0 p1]
theorem kfn_inv {h : Heap} {ds : List PyData} {v : Value} {k : List (Int ⊕ List Nat)} (e : kfn h ds v = some k) : ∃ d as, d ∈ ds ∧ Reads h v d as ∧ k = keyToks d := by
  by_cases q : ∃ d, d ∈ ds ∧ ∃ as, Reads h v d as
  · have e' : kfn h ds v = some (keyToks q.choose) := by unfold kfn; rw [dif_pos q]
    obtain ⟨h1, as', h2⟩ := q.choose_spec
    rw [e'] at e
    exact ⟨_, as', h1, h2, (Option.some.inj e).symm⟩
  · have e' : kfn h ds v = none := by unfold kfn; rw [dif_neg q]
    rw [e'] at e
    exact absurd e (by simp)
section
variable {prog : Program} {w : World} {A : Around} {s : Shared}
theorem pl_lt {f : Bool} {x y : PyData} {u v : Value} {as bs : List Addr} {Q : Bool → Shared → Prop} {E : Value → Shared → Prop} (p : Pl x) (ru : Reads s.heap u x as) (rv : Reads s.heap v y bs) (h : alike x y = true) (hu : A.units + 2 < cLine) (hq : Q (dataLt x y) s) : wpAny (model prog w) A (oneLt' f u v) Q E s :=
  oneLt_alike (fun _ xs z => by cases p <;> cases z) ru rv h (fun z => by cases p <;> cases z) (by
    have : x.depth = 0 := by cases p <;> rfl
    rw [this, Nat.zero_min]
    omega) hq
theorem pl_eq {x y : PyData} {u v : Value} {as bs : List Addr} (p : Pl x) (ru : Reads s.heap u x as) (rv : Reads s.heap v y bs) (h : alike x y = true) (hu : A.units + 2 < cLine) : EqAt A s u v (PyData.eqv x y) :=
  eqAt_alike x y A s u v as bs ru rv h (by
    have : x.depth = 0 := by cases p <;> rfl
    rw [this, Nat.zero_min]
    omega)
/-- what the rows of signs say of two keys -/
theorem kyd_lt {r r' : Int} {x y : PyData} (h : r = r' → alike x y = true) : dataLt (kyd r x) (kyd r' y) = if r = r' then (if PyData.eqv x y = true then false else dataLt x y) else decide (r < r') := by
  have hi : alike (.int r) (.int r') = true := by rfl
  show PyProof.Rows.lexLt itemOrd (keyToksAll [.int r, x]) (keyToksAll [.int r', y]) = _
  by_cases e : r = r'
  · rw [if_pos e, dataLt_all_yes hi (by subst e; simp [PyData.eqv])]
    cases q : PyData.eqv x y with
    | true => rw [if_pos rfl, dataLt_all_yes (h e) q]; exact lex_irrefl _
    | false => rw [if_neg (by simp), dataLt_all_no (h e) q]
  · rw [if_neg e, dataLt_all_no hi (by simp [PyData.eqv, e])]
    unfold dataLt
    simp only [keyToks]
    rw [lex_diff (O := itemOrd) (by intro z; exact e (Sum.inl.inj z))]
    rfl
theorem kyd_at {b : Bool} {r r' : Int} {x y : PyData} {u v : Value} {as bs : List Addr} {Q : Bool → Shared → Prop} {E : Value → Shared → Prop} (p : Pl x) (ru : Reads s.heap u (kyd r x) as) (rv : Reads s.heap v (kyd r' y) bs) (h : r = r' → alike x y = true) (hu : A.units + 2 < cLine) (hq : Q (dataLt (kyd r x) (kyd r' y)) s) :
    wpAny (model prog w) A (keyLt' (tuples' b) u v) Q E s := by
  rw [kyd_lt h] at hq
  cases ru with
  | @tuple l o xs n _ _ h1 h2 h3 h4 =>
    cases rv with
    | @tuple l' o' xs' n' _ _ k1 k2 k3 k4 =>
      have n1 : xs.size = 2 := by simpa using SeqAt.ReadsAll.length _ _ _ h4
      have n2 : xs'.size = 2 := by simpa using SeqAt.ReadsAll.length _ _ _ k4
      refine kat_lt h1 h3 k1 k3 ?_
      rw [n1, n2]
      generalize eL : xs.toList = L at h4 ⊢
      generalize eL' : xs'.toList = L' at k4 ⊢
      cases h4 with
      | cons a1 a2 =>
        cases k4 with
        | cons b1 b2 =>
          cases a2 with
          | cons a3 a4 =>
            cases b2 with
            | cons b3 b4 =>
              cases a4
              cases b4
              refine kat_cons (pl_eq (.int r) a1 b1 rfl hu _ _ _ _ (kat_go (fun e => ?_) fun e => ?_))
              · have er : r = r' := by simpa [PyData.eqv] using e
                rw [if_pos er] at hq
                refine kat_yes (kat_cons (pl_eq p a3 b3 (h er) hu _ _ _ _ (kat_go (fun e2 => ?_) fun e2 => ?_)))
                · rw [if_pos e2] at hq
                  exact kat_yes (kat_nil hq)
                · rw [if_neg (by rw [e2]; simp)] at hq
                  exact kat_no (pl_lt p a3 b3 (h er) hu hq)
              · have er : r ≠ r' := fun z => by subst z; simp [PyData.eqv] at e
                rw [if_neg er] at hq
                refine kat_no (pl_lt (.int r) a1 b1 rfl hu ?_)
                have e9 : dataLt (.int r) (.int r') = decide (r < r') := by
                  unfold dataLt
                  simp only [keyToks]
                  rw [lex_diff (O := itemOrd) (by intro z; exact er (Sum.inl.inj z))]
                  rfl
                rw [e9]
                exact hq
theorem Srtb.coh {ds : List PyData} (C : Coh ds) (hu : A.units + 2 < cLine) : Srtb prog w A ds := fun s keys e => by
  refine ⟨kfn s.heap ds, ⟨fun v hv => ?_, tuples' (Value.type "int" != Value.type "tuple"), ?_, fun h2 E Q hq => ?_⟩, ?_⟩
  · obtain ⟨d, hd, as, r⟩ := e.left v hv
    exact ⟨_, kfn_some C hd r⟩
  · intro E x y a b Q ha hb hq
    obtain ⟨d, as, hd, ra, rfl⟩ := kfn_inv ha
    obtain ⟨d', as', hd', rb, rfl⟩ := kfn_inv hb
    obtain ⟨r1, x1, rfl, p1⟩ := C.1 d hd
    obtain ⟨r2, x2, rfl, p2⟩ := C.1 d' hd'
    exact kyd_at p1 ra rb (fun z => by subst z; exact C.2 _ _ _ hd hd') hu hq
  · obtain ⟨fs, t1, t2, t3⟩ := each_katTups e fun d hd => by
      obtain ⟨r1, x1, rfl, p1⟩ := C.1 d hd
      exact ⟨_, _, rfl⟩
    refine kat_kind (T := Value.type "int") t1 (by omega) (fun f hf => ?_) (beq_self_eq_true _) hq
    obtain ⟨x, r, as, m1, m2⟩ := t3 f hf
    obtain ⟨r1, x1, e1, p1⟩ := C.1 _ m1
    unfold kyd at e1
    injection e1 with e1
    injection e1 with e1 _
    subst e1
    exact looks_reads m2
  · exact (each_mem e).mono fun v d ⟨⟨as, r⟩, hd⟩ => kfn_some C hd r
end
end SQ

set_option linter.all false
set_option maxRecDepth 100000
set_option maxHeartbeats 4000000
namespace PySem.SeqAt
open AutoSeq1 (wpAny_loadPart')
open MeetsSeq3 MeetsSeq2 MeetsSeq SeqRoads2
/-- two pairs: the second places are looked at only behind equal first ones -/
def PairLt (A : Around) (s : Shared) (u1 u2 v1 v2 : Value) (k : Bool) : Prop :=
  ∃ e1, EqAt A s u1 v1 e1 ∧ (e1 = false → RcLt A s u1 v1 k) ∧ (e1 = true → ∃ e2, EqAt A s u2 v2 e2 ∧ (e2 = false → RcLt A s u2 v2 k) ∧ (e2 = true → k = false))
def pairO (d : Option Addr) (n : Nat) (sl : Array (Option Value)) (u v : Value) : Obj := { cls := .type "tuple", dict := d, data := .seq #[u, v] n, slots := sl }
theorem pair_lt_meets (p q : Addr) (u1 u2 v1 v2 : Value) (n m : Nat) (da db : Option Addr) (sa sb : Array (Option Value)) (k : Bool) :
    Meets (Builtin.«tuple.__lt__» ⟨[.ref p, .ref q], []⟩)
      (fun A R s => s.heap.get? p = some (pairO da n sa u1 u2) ∧ s.heap.get? q = some (pairO db m sb v1 v2) ∧ PairLt A.in1 s u1 u2 v1 v2 k ∧ R (.ok (.ret (.bool k))) s) :=
  .of_wp fun prog w A R s h => by
    obtain ⟨hh, gg, dd, tt, oo⟩ := s
    obtain ⟨hp, hq, ⟨e1, w1, w2, w3⟩, hR⟩ := h
    have sub := AutoSeq1.sub_tuple_tuple
    unfold pairO at hp hq
    wp_walk using wpAny_loadPart' hp, wpAny_loadPart' hq, wpAny_forIn_list _ (fun todo acc st => acc.1 = none ∧ st = ⟨hh, gg, dd, tt, oo⟩ ∧ (todo = [(u1, v1), (u2, v2)] ∨ (todo = [(u2, v2)] ∧ e1 = true) ∨ (todo = [] ∧ k = false))) _
    case turn =>
      rintro ⟨y, x⟩ todo acc st ⟨ha, rfl, h1 | ⟨h1, e1t⟩ | ⟨h1, _⟩⟩
      · injection h1 with h2 h3
        injection h2 with h4 h5
        subst h4 h5 h3
        refine wpAny_bind (w1 prog w _ _ ?_)
        cases he : e1 with
        | true =>
          wp_walk
          exact ⟨rfl, rfl, .inr (.inl ⟨rfl, rfl⟩)⟩
        | false =>
          generalize hrc : PySem.richCompare CmpOp.Lt y x = rc
          wp_walk
          subst hrc
          refine w2 he prog w _ _ ?_
          wp_walk
          exact ⟨_, rfl, hR⟩
      · injection h1 with h2 h3
        injection h2 with h4 h5
        subst h4 h5 h3
        obtain ⟨e2, x1, x2, x3⟩ := w3 e1t
        refine wpAny_bind (x1 prog w _ _ ?_)
        cases he : e2 with
        | true =>
          wp_walk
          exact ⟨rfl, rfl, .inr (.inr ⟨rfl, x3 he⟩)⟩
        | false =>
          generalize hrc : PySem.richCompare CmpOp.Lt y x = rc
          wp_walk
          subst hrc
          refine x2 he prog w _ _ ?_
          wp_walk
          exact ⟨_, rfl, hR⟩
      · cases h1
    case fin =>
      rintro ⟨b1, b2⟩ st ⟨ha, rfl, h1 | ⟨h1, _⟩ | ⟨_, hk⟩⟩
      · cases h1
      · cases h1
      · simp only at ha
        subst ha
        subst hk
        wp_walk
        exact ⟨_, rfl, by simpa [Builtin.Tuple.tupleCompareSizes] using hR⟩
    case h =>
      exact ⟨rfl, rfl, .inl rfl⟩
theorem rc_pair {A : Around} {s : Shared} {p q : Addr} {u1 u2 v1 v2 : Value} {k : Bool} (hp : s.heap.IsTuple p #[u1, u2]) (hq : s.heap.IsTuple q #[v1, v2]) (hu : A.units < cLine) (h : PairLt A.in1 s u1 u2 v1 v2 k) : RcLt A s (.ref p) (.ref q) k := fun prog w E Q hQ => by
  obtain ⟨⟨c, d, x, sl⟩, o1, o2, n, o3⟩ := id hp
  obtain ⟨⟨c', d', x', sl'⟩, q1, q2, n', q3⟩ := id hq
  simp only at o2 o3 q2 q3
  subst o2 o3 q2 q3
  exact richCompare_meets_room (op := .Lt) ⟨_, o1, rfl⟩ ⟨_, q1, rfl⟩ F.slot_tuple_lt F.entry_tuple_lt (F.args_tuple_lt_2 _ _) (pair_lt_meets p q u1 u2 v1 v2 n n' d d' sl sl' k) ⟨o1, q1, h, show Value.bool k ≠ Value.notImplemented ∧ Q (.bool k) s from ⟨(fun z => nomatch z), hQ⟩⟩ hu
end PySem.SeqAt
namespace SQ
open PySem PySem.Spec PyProof.Rows PySem.W L2 FbM SeqAt
theorem arr_of {xs : Array Value} {u v : Value} (e : xs.toList = [u, v]) : xs = #[u, v] := by rw [← Array.toList_inj, e]
theorem pl_rc {A : Around} {s : Shared} {x y : PyData} {u v : Value} {as bs : List Addr} (p : Pl x) (ru : Reads s.heap u x as) (rv : Reads s.heap v y bs) (h : alike x y = true) (hu : A.units + 2 < cLine) : RcLt A s u v (dataLt x y) :=
  rcLt_alike x y A s u v as bs ru rv h (fun z => by cases p <;> cases z) (by
    have : x.depth = 0 := by cases p <;> rfl
    rw [this, Nat.zero_min]
    omega)
theorem kyd_rc {A : Around} {s : Shared} {r r' : Int} {x y : PyData} {u v : Value} {as bs : List Addr} (p : Pl x) (ru : Reads s.heap u (kyd r x) as) (rv : Reads s.heap v (kyd r' y) bs) (h : r = r' → alike x y = true) (hu : A.units + 3 < cLine) : RcLt A s u v (dataLt (kyd r x) (kyd r' y)) := by
  rw [kyd_lt h]
  have hu1 : A.in1.units + 2 < cLine := by show A.units + 1 + 2 < cLine; omega
  cases ru with
  | @tuple l o xs n _ _ h1 h2 h3 h4 =>
    cases rv with
    | @tuple l' o' xs' n' _ _ k1 k2 k3 k4 =>
      have hl : s.heap.IsTuple l xs := ⟨_, h1, h2, _, h3⟩
      have hl' : s.heap.IsTuple l' xs' := ⟨_, k1, k2, _, k3⟩
      generalize eL : xs.toList = L at h4
      generalize eL' : xs'.toList = L' at k4
      cases h4 with
      | cons a1 a2 =>
        cases k4 with
        | cons b1 b2 =>
          cases a2 with
          | cons a3 a4 =>
            cases b2 with
            | cons b3 b4 =>
              cases a4
              cases b4
              have ex := arr_of eL
              have ex' := arr_of eL'
              subst ex ex'
              refine rc_pair hl hl' (by omega) ⟨_, pl_eq (.int r) a1 b1 rfl hu1, fun e => ?_, fun e => ?_⟩
              · have er : r ≠ r' := fun z => by subst z; simp [PyData.eqv] at e
                rw [if_neg er]
                have e9 : dataLt (.int r) (.int r') = decide (r < r') := by
                  unfold dataLt
                  simp only [keyToks]
                  rw [lex_diff (O := itemOrd) (by intro z; exact er (Sum.inl.inj z))]
                  rfl
                rw [← e9]
                exact pl_rc (.int r) a1 b1 rfl hu1
              · have er : r = r' := by simpa [PyData.eqv] using e
                rw [if_pos er]
                refine ⟨_, pl_eq p a3 b3 (h er) hu1, fun e2 => ?_, fun e2 => ?_⟩
                · rw [if_neg (by rw [e2]; simp)]
                  exact pl_rc p a3 b3 (h er) hu1
                · rw [if_pos e2]
end SQ

set_option linter.all false
set_option maxRecDepth 100000
set_option maxHeartbeats 4000000
/-! defs that are called inside no repr: there repr of a tuple can be told -/
namespace GR
open PySem PySem.Spec PyProof.Rows L2
section
variable {P : Program} {w : World} {K : PySem.W.Frag} {mg : Str → Option Value} {base : Heap} {Z : CXT} {k : Nat} {f : Addr} {fd : FuncData} {ps : List Str} {sp : Sp}
/-- a promise that holds where no repr is under way -/
structure FnG (P : Program) (w : World) (K : PySem.W.Frag) (mg : Str → Option Value) (base : Heap) (Z : CXT) (k : Nat) (f : Addr) (fd : FuncData) (ps : List Str) (sp : Sp) : Prop where
  many : ∀ vs H Q E, sp vs H Q E → vs.length = ps.length
  runs : ∀ (B : Around) (out : List Env) (st : Shared) (G : Hp) (as : Args) (us : List Value) (vs : List V) (Q : VK) (E : XK), B.guards = some [] → Room k B → Env0 P w K mg base B out st G → BindsTo st fd as (ps.zip us) → Vals vs us → sp vs G Q E →
    codeAny (model P w) B (.call (.ref f) as) (CR Z out P w G st Q E) st
theorem ce_of {out : List Env} {N : List Str} {qual : Str} {sc : Scope} {cd : Value} {B : Around} {st s' : Shared} {G H' : Hp} {Q : VK} {E : XK} {σ : L2.St} {v : V} {u : Value} (J : Inv (cxOf Z P w K mg base N qual sc f cd B out st G E) [] σ H' s') (rv : RelV v u) (q : Q v H') : CE out P w G st Q u s' :=
  ⟨v, H', J.os, J.bare, J.base, J.hok, rv, q⟩
theorem par_kinds {N : List Str} {sc : Scope} (S : FnScope N ps sc) (us : List Value) (n : Nat) : ∀ z ∈ ps.zip us, sc.names.lookup z.1 = some .local ∨ (sc.names.lookup z.1 = some .cell ∧ ((cellsFrom n sc.names []).lookup z.1).isSome = true) := by
  rintro ⟨x, v⟩ hz
  cases S.par x (List.of_mem_zip hz).1 with
  | inl c => exact .inl c
  | inr c => exact .inr ⟨c, PySem.W.cellsFrom_some _ _ _ (.inl c)⟩
/-- a def by its body, inside no repr -/
theorem fng {x qual : Str} {st : Stmt} {N : List Str} (F : Fun K x qual st f fd) (S : FnScope N ps (defScope st)) (many : ∀ vs H Q E, sp vs H Q E → vs.length = ps.length)
    (body : ∀ (cdv : Value) (B : Around) (out : List Env) (s : Shared) (G : Hp) (vs : List V) (Q : VK) (E : XK), B.guards = some [] → Room k (B.deeper (envOfC qual (defScope st) s.heap.objs.size f cdv)) → sp vs G Q E →
      ∃ t, PSs (cxOf Z P w K mg base N qual (defScope st) f cdv B out s G E) (defBody st) t ∧ t { nx := fun _ H' => Q .non H', rt := Q } (start N vs) G) : FnG P w K mg base Z (k + 1) f fd ps sp := by
  obtain ⟨oc, od, kV, doc, pm, an, cdv, ct, osl, rfl, lk, hcd⟩ := F.ex
  refine ⟨many, fun B out st0 G as us vs Q E hgd hroom env hbd rvs hs => ?_⟩
  have inK : K.In st0.heap := env.mod.kin.keeps fun b o z => (env.bs b o z).1
  have nolim : st0.heap.NoLimit := env.mod.nolimit.keeps fun b o z => (env.bs b o z).1
  refine codeAny_call_function hroom.depth (inK _ _ lk) rfl S.co S.gen rfl (PySem.W.codeRec_of inK hcd) (hbd _ _ _ _ (wpAny_newFunctionEnv_cells S.kind (par_kinds S us _) fun e he s1 made => ?_))
  subst he
  refine ⟨nolim.keeps made.toInCall.keep, codeAny_func ?_⟩
  obtain ⟨t, ht, hend⟩ := body cdv B out st0 G vs Q E hgd (hroom.deeper _) hs
  refine wpAny_mono (ht.run [] s1 (start N vs) G _ (inv_start S hroom.hd env (many _ _ _ _ hs) rvs made) hend) (fun fl s' hfl => ?_) fun _ _ hx => hx
  cases fl with
  | brk => exact (show False from let ⟨_, _, _, q⟩ := hfl; q).elim
  | cont => exact (show False from let ⟨_, _, _, q⟩ := hfl; q).elim
  | next => exact let ⟨_, _, J, q⟩ := hfl; ce_of (v := .non) (u := .none) J rfl q
  | ret u => exact let ⟨_, _, _, J, rv, q⟩ := hfl; ce_of J rv q
end
section
variable {X : Cx} {Z : CXT} {k : Nat} {f : Addr} {fd : FuncData} {ps : List Str} {sp : Sp} {E : XK} {x : Str} {p pos : Pos} {e : Expr} {es : List Expr} {t : TA}
/-- such a def called from a body that stands in no repr either -/
theorem pe_callG (F : FnG X.prog X.w X.K X.mg X.base Z k f fd ps sp) (hgd : X.A.guards = some []) (hr : Room k X.A) (hg : Gl X x) (hm : X.mg x = some (.ref f)) (hk : PySem.W.keepIn X.K (.ref f) = true) (hb : Binds X.K fd ps []) (hx : Passes Z X E)
    (ha : PA X (e :: es) t) (hdb : (x == ("__debug__" : Str)) = false := by decide) (he : starEach (e :: es) X.env = (false, eval e X.env) :: starEach es X.env := by rfl) (hpl : (backTo pos (starEach es X.env)).any (·.1) = false := by rfl) :
    PE X (.Call (.Name x p) (e :: es) [] pos) (tCall sp [] E t) := by
  refine ⟨fun pins s0 σ G Q I0 hq => wpAny_Call_Name_kw (ld_glob I0 hg hm ?_ hdb)⟩
  refine PySem.W.callWith_K (h₀ := X.base) I0.ok.mod.kin hk (thn (ha.run pos pins s0 σ G _ I0 hq) ?_) he hpl
  rintro us s1 ⟨vs, G1, I1, rvs, hs⟩
  rw [List.append_nil] at hs
  have lu : us.length = ps.length := by rw [← rvs.length]; exact F.many _ _ _ _ hs
  have bd := hb s1 us I1.kIn (by rw [List.append_nil]; exact lu)
  rw [List.append_nil] at bd
  refine ⟨I1.kIn, wpAny_call (codeAny_mono (F.runs X.A X.stack s1 G1 ⟨us, []⟩ us vs Q E hgd hr I1.env0 bd rvs hs) fun r s2 hr2 => ?_)⟩
  match r, hr2 with
  | .error u, z => exact hx pins σ G1 s1 u s2 I1 z
  | .ok (.ret u), z => exact I1.after z
  | .ok .next, z => exact False.elim z
  | .ok .brk, z => exact False.elim z
  | .ok .cont, z => exact False.elim z
/-- repr of data -/
def rRepr (K : PySem.W.Frag) : List V → Hp → VK → Prop := fun xs H Q => ∃ a d, xs = [.ref a] ∧ Dp K H (.ref a) d ∧ d.showable = true ∧ d.hasDict = false ∧ d.depth ≤ 32 ∧ d.shown.length ≤ sizeLine ∧ Q (.str d.shown) H
theorem call_repr_data (hgd : X.A.guards = some []) (hu : X.A.units + 64 < cLine) : CallR X (.builtin "repr") (rRepr X.K) := by
  intro pins s σ H xs us Q I r h
  obtain ⟨a, d, rfl, dp, hs, hd, hz, hl, q⟩ := h
  obtain rfl := Vals.ref1 r
  obtain ⟨as, rd⟩ := Dp.reads I _ _ _ dp rfl
  exact repr_of_reads' rd hs (fun z => absurd z (by rw [hd]; simp)) hgd (by omega) (fun _ _ z => z) (fun h' u tk hk => ⟨.str _, H, I.kept (t' := tk) hk, ⟨u, rfl⟩, q⟩) hl
end
end GR

set_option linter.all false
set_option maxRecDepth 100000
set_option maxHeartbeats 4000000
namespace GR
open PySem PySem.Spec PyProof.Rows L2
section
variable {P : Program} {w : World} {K : PySem.W.Frag} {mg mb : Str → Option Value} {Z : CXT} {k : Nat} {fa a : Addr} {fd : FuncData} {x : Str} {sp : Sp} {st : Shared} {vs : List Value} {ns : List Int}
/-- the script as it is handed in, in an abstract heap that holds it alone (or nothing) -/
structure Given (P : Program) (w : World) (K : PySem.W.Frag) (a : Addr) (ns : List Int) (st : Shared) (G : Hp) : Prop where
  only : Only G
  at_ : SqL K G a (ns.map V.int)
  ok : HOk P w G st.heap
  one : ∀ b, G b ≠ none → b = a
  new : G a ≠ none → K.lookup a = none
theorem given (inK : K.In st.heap) (ha : st.heap.get? a = some { cls := .type "list", data := .seq vs.toArray }) (rv : Vals (ns.map V.int) vs) (hl : ns.length ≤ sizeLine) : ∃ G, Given P w K a ns st G := by
  have hv := rv.length
  rw [List.length_map] at hv
  cases e : K.lookup a with
  | some o =>
    have z := inK a o e
    rw [ha] at z
    cases z
    exact ⟨fun _ => none, fun _ => .inl rfl, .inr ⟨_, vs.toArray, _, e, rfl, rfl, rfl, by simp only [List.size_toArray]; omega, by simpa using rv⟩, fun b u z => (nomatch (show (none : Option HO) = some u from z)), fun b z => absurd rfl z, fun z => absurd rfl z⟩
  | none =>
    have yes : ∀ u : HO, (fun b => if b = a then some u else none : Hp) a = some u := fun u => if_pos rfl
    refine ⟨fun b => if b = a then some (.frz { cls := .type "list", data := .seq vs.toArray } (.lst (ns.map V.int))) else none, fun b => ?_, .inl (.inr ⟨_, yes _⟩), fun b u z => ?_, fun b z => ?_, fun _ => e⟩
    · cases Nat.decEq b a with
      | isTrue c => exact .inr ⟨_, _, if_pos c⟩
      | isFalse c => exact .inl (if_neg c)
    · cases Nat.decEq b a with
      | isTrue c =>
        subst c
        have z2 := (yes _).symm.trans z
        cases z2
        exact ⟨ha, by rw [List.length_map]; exact hl, vs, _, rv, ha⟩
      | isFalse c => exact nomatch (if_neg c).symm.trans z
    · cases Nat.decEq b a with
      | isTrue c => exact c
      | isFalse c => exact absurd (if_neg c) z
/-- the module's part of the heap stays in what is not tracked -/
theorem Given.mod {G : Hp} (g : Given P w K a ns st G) (ha : st.heap.get? a = some { cls := .type "list", data := .seq vs.toArray }) (inK : K.In st.heap) (hns : st.heap.Ns mainGlobals mg) (hb : st.heap.Ns builtinsNs mb) (hbb : ∀ x : Str, x ≠ "__name__" → mb x = bootBuiltins x) (hlim : st.heap.NoLimit) :
    Mod K mg (hidT st.heap G) := by
  have other : ∀ {b : Addr} {o : Obj}, st.heap.get? b = some o → (b = a → False) → G b = none := fun {b o} _ c => by
    cases q : G b with
    | none => rfl
    | some u => exact (c (g.one b (by rw [q]; exact fun z => nomatch z))).elim
  have spaces : ∀ {b : Addr} {m : Str → Option Value}, st.heap.Ns b m → (hidT st.heap G).Ns b m := by
    rintro b m ⟨o, es, ep, e, d, r⟩
    refine ⟨o, es, ep, hidT_get e (other e fun c => ?_), d, r⟩
    subst c
    rw [ha] at e
    cases e
    cases d
  refine ⟨fun b o e => hidT_get (inK b o e) ?_, spaces hns, ⟨mb, spaces hb, hbb⟩, let ⟨mc, l1, l2⟩ := hlim; ⟨mc, spaces l1, l2⟩⟩
  cases q : G b with
  | none => rfl
  | some u =>
    have c := g.one b (by rw [q]; exact fun z => nomatch z)
    subst c
    have z := g.new (by rw [q]; exact fun z => nomatch z)
    rw [z] at e
    cases e
/-- the law's call, as the statement has it -/
theorem call_law (inK : K.In st.heap) (hns : st.heap.Ns mainGlobals mg) (hb : st.heap.Ns builtinsNs mb) (hbb : ∀ x : Str, x ≠ "__name__" → mb x = bootBuiltins x) (hlim : st.heap.NoLimit) (hgen : st.gens = #[])
    (ha : st.heap.get? a = some { cls := .type "list", data := .seq vs.toArray }) (hi : IntsAre vs ns) (hl : ns.length ≤ sizeLine) (hr : Room k callerA)
    (F : ∀ base : Heap, K.In base → base.Ns mainGlobals mg → FnG P w K mg base Z k fa fd [x] sp) (hbind : ∀ (s : Shared) (u : Value), BindsTo s fd ⟨[u], []⟩ [(x, u)])
    (hsp : ∀ G : Hp, Only G → SqL K G a (ns.map V.int) → sp [.ref a] G (fun v _ => v = .bl true) fun _ _ _ => False) (hZ : ∀ o G s e s', Z o G s (fun _ _ _ => False) e s' → False) :
    codeAny (model P w) callerA (.call (.ref fa) ⟨[.ref a], []⟩) (fun r s' => r = .ok (.ret (.bool true)) ∧ OldK st.heap s'.heap ∧ s'.os = st.os ∧ AllBare s'.gens) st := by
  obtain ⟨G, g⟩ := given (P := P) (w := w) inK ha (vals_ints hi) hl
  have M := g.mod ha inK hns hb hbb hlim
  have env : Env0 P w K mg (hidT st.heap G) callerA [] st G := ⟨rfl, M, fun _ _ z => of_hidT z, Nat.le_of_eq (hidT_size _ _), trivial, (fun b z => absurd (show b ∈ ([] : List Addr) from z) List.not_mem_nil), g.ok, .of_eq hgen⟩
  refine codeAny_mono ((F _ M.kin M.glob).runs callerA [] st G _ [.ref a] [.ref a] _ _ rfl hr env (hbind st (.ref a)) (.cons rfl .nil) (hsp G g.only g.at_)) fun r s' z => ?_
  match r, z with
  | .error e, z => exact (hZ _ _ _ _ _ z).elim
  | .ok .next, z => exact False.elim z
  | .ok .brk, z => exact False.elim z
  | .ok .cont, z => exact False.elim z
  | .ok (.ret u), ⟨v, G', o1, o2, un, o3, rv, (q : v = .bl true)⟩ =>
    subst q
    obtain rfl : u = Value.bool true := rv
    refine ⟨rfl, OldK.of_keep fun b o e => ?_, o1, o2⟩
    rcases g.only b with c | ⟨ob, xs, c⟩
    · exact un.keep b o e c (fun z => absurd (show b ∈ ([] : List Addr) from z) List.not_mem_nil) List.not_mem_nil
    · have e1 := (g.ok b _ c).1
      rw [e] at e1
      cases e1
      exact (o3 b _ (un.frzs b _ _ c)).1
end
/-- the goal that k_head leaves -/
theorem walk {l : PySem.W.OpenLaw} {n k : Nat} {q : Program} {loose : List Str} {XP : (Str → Option Value) → Heap → Prop} {YP : World → Heap → Prop} {d : DefRec} {K : Params → PySem.W.Frag} {sp : World → Sp} {x : Str}
    (hn : l.most = some n) (hz : n ≤ sizeLine) (hdf : d.params.defaults = []) (hr : Room k callerA) (hY : ∀ (w : World) (h : Heap), YP w h → (K w.params).In h)
    (F : ∀ (w : World) (mg : Str → Option Value) (fa : Addr) (h : Heap), (K w.params).In h → h.Ns mainGlobals mg → mg d.name = some (.ref fa) → ∃ fd : FuncData, (∀ (s : Shared) (u : Value), BindsTo s fd ⟨[u], []⟩ [(x, u)]) ∧
      ∀ base : Heap, (K w.params).In base → base.Ns mainGlobals mg → FnG l.prog w (K w.params) mg base CX0 k fa fd [x] (sp w))
    (hsp : ∀ (w : World) (G : Hp) (a : Addr) (ns : List Int), ns.length ≤ n → Only G → SqL (K w.params) G a (ns.map V.int) → sp w [.ref a] G (fun v _ => v = .bl true) fun _ _ _ => False) :
    PySem.W.WalkO q loose XP YP l.row.toRowW d [] (fun f vs => PySem.call f vs) :=
  Att.attach_call hn hdf fun w s0 s1 mg mb fa o pm cd doc a vs ns gr y ho hd hcd hmg hobj hints hlen hgen => by
    obtain ⟨fd, hb, hF⟩ := F w mg fa _ (hY w _ y) gr.T.g hmg
    exact call_law (hY w _ y) gr.T.g gr.T.b gr.T.builtins gr.T.nolimit hgen hobj hints (Nat.le_trans hlen hz) hr hF hb (fun G hO hS => hsp w G a ns hlen hO hS) fun _ _ _ _ _ z => z
end GR

set_option linter.all false
set_option maxRecDepth 100000
set_option maxHeartbeats 2000000
/-! data without addresses, and what stands for it in a heap -/
namespace DL
open PySem PySem.Spec PyProof.Rows L2
inductive D where
  | non | bl (b : Bool) | int (i : Int) | str (s : Str) | lst (xs : List D) | tup (xs : List D) | dct (ks : List Str) (xs : List D) | obj (c : Str) (ns : List Str) (xs : List D) | hdl (a : Addr) | dtt (ks : List (List Str)) (xs : List D) | tpd (xs : List D)
/-- a text that is one -/
def OkS (x : Str) : Prop := PyData.strOk x = true ∧ x.length ≤ sizeLine
/-- keys that are tuples of texts -/
def KtOk (kvs : List (List Key × V)) (ks : List (List Str)) : Prop := kvs.map (·.1) = ks.map (·.map Sum.inr) ∧ ∀ k ∈ ks, ∀ t ∈ k, OkS t
def KsOk (kvs : List (Key × V)) (ks : List Str) : Prop := kvs.map (·.1) = ks.map Sum.inr ∧ ∀ k ∈ ks, OkS k
mutual
inductive Has (K : PySem.W.Frag) (mg : Str → Option Value) (F : Hp) : V → D → Prop
  | non : Has K mg F .non .non
  | bl (b : Bool) : Has K mg F (.bl b) (.bl b)
  | int (i : Int) : Has K mg F (.int i) (.int i)
  | str (x : Str) : OkS x → Has K mg F (.str x) (.str x)
  | lst {a : Addr} {xs : List V} {ds : List D} : F a = some (.lst xs) → HasL K mg F xs ds → Has K mg F (.ref a) (.lst ds)
  | tup {a : Addr} {xs : List V} {ds : List D} : SqT K F a xs → HasL K mg F xs ds → Has K mg F (.ref a) (.tup ds)
  | dct {a : Addr} {kvs : List (Key × V)} {ks : List Str} {ds : List D} : F a = some (.dK kvs) → KsOk kvs ks → HasL K mg F (kvs.map (·.2)) ds → Has K mg F (.ref a) (.dct ks ds)
  | obj {a C dx : Addr} {c : Str} {fs : List (Str × V)} {ns : List Str} {ds : List D} : F a = some (.ins C dx fs) → mg c = some (.ref C) → fs.map (·.1) = ns → HasL K mg F (fs.map (·.2)) ds → Has K mg F (.ref a) (.obj c ns ds)
  | hdl (a : Addr) : Has K mg F (.ref a) (.hdl a)
  | tpd {a : Addr} {xs : List V} {ds : List D} : F a = some (.tup xs) → HasL K mg F xs ds → Has K mg F (.ref a) (.tpd ds)
  | dtt {a : Addr} {kvs : List (List Key × V)} {ks : List (List Str)} {ds : List D} : F a = some (.dT kvs) → KtOk kvs ks → HasL K mg F (kvs.map (·.2)) ds → Has K mg F (.ref a) (.dtt ks ds)
inductive HasL (K : PySem.W.Frag) (mg : Str → Option Value) (F : Hp) : List V → List D → Prop
  | nil : HasL K mg F [] []
  | cons {v : V} {vs : List V} {d : D} {ds : List D} : Has K mg F v d → HasL K mg F vs ds → HasL K mg F (v :: vs) (d :: ds)
end
theorem sqL_mono {K : PySem.W.Frag} {F F' : Hp} {a : Addr} {xs : List V} (e : Same F F') (h : SqL K F a xs) : SqL K F' a xs := e.seq h
theorem sqT_mono {K : PySem.W.Frag} {F F' : Hp} {a : Addr} {xs : List V} (e : Same F F') (h : SqT K F a xs) : SqT K F' a xs := by
  rcases h with (h | ⟨o, h⟩) | h
  · exact .inl (.inl (e _ _ h))
  · exact .inl (.inr ⟨o, e _ _ h⟩)
  · exact .inr h
section
variable {K : PySem.W.Frag} {mg : Str → Option Value} {F F' H H' : Hp}
mutual
theorem Has.mono (e : Same F F') : ∀ {d : D} {v : V}, Has K mg F v d → Has K mg F' v d
  | .non, _, .non => .non
  | .bl _, _, .bl b => .bl b
  | .int _, _, .int i => .int i
  | .str _, _, .str x h => .str x h
  | .lst _, _, .lst h hs => .lst (e _ _ h) (HasL.mono e hs)
  | .tup _, _, .tup h hs => .tup (sqT_mono e h) (HasL.mono e hs)
  | .dct _ _, _, .dct h hk hs => .dct (e _ _ h) hk (HasL.mono e hs)
  | .obj _ _ _, _, .obj h hm hn hs => .obj (e _ _ h) hm hn (HasL.mono e hs)
  | .hdl _, _, .hdl a => .hdl a
  | .tpd _, _, .tpd h hs => .tpd (e _ _ h) (HasL.mono e hs)
  | .dtt _ _, _, .dtt h hk hs => .dtt (e _ _ h) hk (HasL.mono e hs)
theorem HasL.mono (e : Same F F') : ∀ {ds : List D} {vs : List V}, HasL K mg F vs ds → HasL K mg F' vs ds
  | [], _, .nil => .nil
  | _ :: _, _, .cons h hs => .cons (Has.mono e h) (HasL.mono e hs)
end
theorem HasL.length : ∀ {vs : List V} {ds : List D}, HasL K mg F vs ds → vs.length = ds.length
  | _, _, .nil => rfl
  | _, _, .cons _ h => congrArg Nat.succ h.length
theorem HasL.get : ∀ {vs : List V} {ds : List D} {i : Nat} {d : D}, HasL K mg F vs ds → ds[i]? = some d → ∃ v, vs[i]? = some v ∧ Has K mg F v d
  | _, _, _, _, .nil, e => by simp at e
  | _, _, 0, _, .cons h _, e => by simp at e; subst e; exact ⟨_, rfl, h⟩
  | _, _, i + 1, _, .cons _ h, e => by
    obtain ⟨v, h1, h2⟩ := h.get (i := i) (by simpa using e)
    exact ⟨v, by simpa using h1, h2⟩
theorem HasL.getV : ∀ {vs : List V} {ds : List D} {i : Nat} {v : V}, HasL K mg F vs ds → vs[i]? = some v → ∃ d, ds[i]? = some d ∧ Has K mg F v d
  | _, _, _, _, .nil, e => by simp at e
  | _, _, 0, _, .cons h _, e => by simp at e; subst e; exact ⟨_, rfl, h⟩
  | _, _, i + 1, _, .cons _ h, e => by
    obtain ⟨v, h1, h2⟩ := h.getV (i := i) (by simpa using e)
    exact ⟨v, by simpa using h1, h2⟩
theorem HasL.append : ∀ {vs ws : List V} {ds es : List D}, HasL K mg F vs ds → HasL K mg F ws es → HasL K mg F (vs ++ ws) (ds ++ es)
  | _, _, _, _, .nil, h => h
  | _, _, _, _, .cons a b, h => .cons a (b.append h)
theorem HasL.snoc {vs : List V} {ds : List D} {v : V} {d : D} (h : HasL K mg F vs ds) (h1 : Has K mg F v d) : HasL K mg F (vs ++ [v]) (ds ++ [d]) := h.append (.cons h1 .nil)
theorem HasL.set : ∀ {vs : List V} {ds : List D} {v : V} {d : D} (i : Nat), HasL K mg F vs ds → Has K mg F v d → HasL K mg F (vs.set i v) (ds.set i d)
  | _, _, _, _, _, .nil, _ => .nil
  | _, _, _, _, 0, .cons _ t, h => .cons h t
  | _, _, _, _, i + 1, .cons a t, h => .cons a (HasL.set i t h)
theorem HasL.take : ∀ {vs : List V} {ds : List D} (i : Nat), HasL K mg F vs ds → HasL K mg F (vs.take i) (ds.take i)
  | _, _, 0, _ => .nil
  | _, _, _ + 1, .nil => .nil
  | _, _, i + 1, .cons a t => .cons a (HasL.take i t)
theorem HasL.drop : ∀ {vs : List V} {ds : List D} (i : Nat), HasL K mg F vs ds → HasL K mg F (vs.drop i) (ds.drop i)
  | _, _, 0, h => h
  | _, _, _ + 1, .nil => .nil
  | _, _, i + 1, .cons _ t => HasL.drop i t
theorem HasL.rev {vs : List V} {ds : List D} (h : HasL K mg F vs ds) : HasL K mg F vs.reverse ds.reverse := by
  induction vs generalizing ds with
  | nil => cases h; exact .nil
  | cons v vs ih =>
    cases h with
    | cons a t =>
      rw [List.reverse_cons, List.reverse_cons]
      exact (ih t).snoc a
theorem HasL.all {vs : List V} {ds : List D} (hl : vs.length = ds.length) (h : ∀ (i : Nat) v d, vs[i]? = some v → ds[i]? = some d → Has K mg F v d) : HasL K mg F vs ds := by
  induction vs generalizing ds with
  | nil => cases ds with | nil => exact .nil | cons _ _ => cases hl
  | cons v vs ih =>
    cases ds with
    | nil => cases hl
    | cons d ds => exact .cons (h 0 _ _ rfl rfl) (ih (by simpa using hl) fun i v d h1 h2 => h (i + 1) v d (by simpa using h1) (by simpa using h2))
end
/-! ### steps: F what is settled, H all, ch what may change -/
/-- new, or a tuple (which never changes, so that it may be settled late) -/
def Nw (H : Hp) (a : Addr) : Prop := H a = none ∨ ∃ xs, H a = some (.tup xs)
structure Step (ch : Addr → Prop) (F H F' H' : Hp) : Prop where
  sub : Same F' H'
  grow : Same F F'
  fresh : ∀ a, F' a ≠ none → F a ≠ none ∨ Nw H a ∨ ch a
  keep : ∀ a o, H a = some o → ¬ ch a → H' a = some o
  alive : ∀ a, H a ≠ none → H' a ≠ none
/-- .. of a callee: ft what belongs to the region -/
structure CStep (ft : Addr → Prop) (F H : Hp) (ft' : Addr → Prop) (F' H' : Hp) : Prop where
  st : Step ft F H F' H'
  foot : ∀ a, ft' a → F' a = none ∧ (ft a ∨ H a = none)
structure PStep (F H F' H' : Hp) : Prop where
  sub : Same F' H'
  grow : Same F F'
  fresh : ∀ a, F' a ≠ none → F a ≠ none ∨ Nw H a
  keep : Same H H'
theorem some_of_ne {H : Hp} {a : Addr} (h : H a ≠ none) : ∃ o, H a = some o := by
  cases e : H a with
  | none => exact absurd e h
  | some o => exact ⟨o, rfl⟩
theorem ne_of_some {H : Hp} {a : Addr} {o : HO} (h : H a = some o) : H a ≠ none := by rw [h]; exact fun z => nomatch z
theorem Same.ne {H H' : Hp} {a : Addr} (s : Same H H') (h : H a ≠ none) : H' a ≠ none := by
  obtain ⟨o, e⟩ := some_of_ne h
  exact ne_of_some (s a o e)
section
variable {ch ch1 ft ft1 ft2 : Addr → Prop} {F H F1 H1 F2 H2 : Hp}
theorem Step.refl (h : Same F H) : Step ch F H F H := ⟨h, Same.refl F, fun _ z => .inl z, fun _ _ e _ => e, fun _ z => z⟩
theorem Step.none_of (a : Step ch F H F1 H1) {x : Addr} (z : H1 x = none) : H x = none := by
  cases e : H x with
  | none => rfl
  | some o => exact absurd z (a.alive x (ne_of_some e))
open Classical in
theorem Step.nw_of (a : Step ch F H F1 H1) {x : Addr} (z : Nw H1 x) : Nw H x ∨ ch x := by
  rcases z with z | ⟨xs, z⟩
  · exact .inl (.inl (a.none_of z))
  · by_cases c : ch x
    · exact .inr c
    · cases e : H x with
      | none => exact .inl (.inl e)
      | some o =>
        have := a.keep x o e c
        rw [z] at this
        cases this
        exact .inl (.inr ⟨xs, e⟩)
theorem Step.trans (a : Step ch F H F1 H1) (b : Step ch1 F1 H1 F2 H2) (hc : ∀ x, ch1 x → ch x ∨ H x = none) : Step ch F H F2 H2 where
  sub := b.sub
  grow := a.grow.trans b.grow
  fresh := fun x h => (b.fresh x h).elim (a.fresh x) fun z => z.elim (fun z => .inr (a.nw_of z)) fun z => .inr ((hc x z).symm.imp .inl id)
  keep := fun x o e n => b.keep x o (a.keep x o e n) fun z => (hc x z).elim n fun y => absurd y (ne_of_some e)
  alive := fun x h => b.alive x (a.alive x h)
theorem PStep.refl (h : Same F H) : PStep F H F H := ⟨h, Same.refl F, fun _ z => .inl z, Same.refl H⟩
theorem PStep.trans (a : PStep F H F1 H1) (b : PStep F1 H1 F2 H2) : PStep F H F2 H2 := ⟨b.sub, a.grow.trans b.grow, fun x h => (b.fresh x h).elim (a.fresh x) fun z => .inr (by
    cases e : H x with
    | none => exact .inl e
    | some o =>
      have k := a.keep x o e
      rcases z with z | ⟨xs, z⟩
      · rw [z] at k; cases k
      · rw [z] at k; cases k; exact .inr ⟨xs, e⟩), a.keep.trans b.keep⟩
/-- a new object, settled -/
theorem PStep.new {p : Addr} {o : HO} (h : Same F H) (hp : H p = none) : PStep F H (upd F p o) (upd H p o) := by
  have fp : F p = none := h.free hp
  refine ⟨fun b u e => ?_, fun b u e => ?_, fun a z => ?_, fun b u e => ?_⟩
  · by_cases hb : b = p
    · subst hb; rw [upd_same] at e ⊢; exact e
    · rw [upd_ne hb] at e ⊢; exact h b u e
  · rw [upd_ne (ne_of_none e fp)]; exact e
  · by_cases hb : a = p
    · subst hb; exact .inr (.inl hp)
    · rw [upd_ne hb] at z; exact .inl z
  · rw [upd_ne (ne_of_none e hp)]; exact e
end
/-! ### regions -/
structure Reg (S : Type) where
  ok : (Addr → Prop) → Addr → Hp → Hp → S → Prop
  stab : ∀ {ft r F H s F' H'}, ok ft r F H s → Same F F' → (∀ a o, ft a → H a = some o → H' a = some o) → ok ft r F' H' s
  solid : ∀ {ft r F H s}, ok ft r F H s → ∀ a, ft a → ¬ Nw H a
theorem Reg.alive {S : Type} (R : Reg S) {ft : Addr → Prop} {r : Addr} {F H : Hp} {s : S} (h : R.ok ft r F H s) (a : Addr) (z : ft a) : H a ≠ none := fun e => R.solid h a z (.inl e)
theorem nw_no {H : Hp} {a : Addr} {o : HO} (e : H a = some o) (n : ∀ xs, o ≠ .tup xs) : ¬ Nw H a := fun z => by
  rcases z with z | ⟨xs, z⟩
  · rw [e] at z; cases z
  · rw [e] at z; cases z; exact n xs rfl
def nul : Reg Unit where
  ok := fun ft _ _ _ _ => ∀ a, ¬ ft a
  stab := fun h _ _ => h
  solid := fun h a z => absurd z (h a)
/-- the box of digits -/
def box : Reg Unit where
  ok := fun ft r F H _ => (∀ a, ft a ↔ a = r) ∧ ∃ (d : Addr) (ns : List Int) (k : Nat), H r = some (.lst [.ref d, .int k]) ∧ F d = some (.lst (ns.map V.int)) ∧ ns.length ≤ 4000
  stab := fun ⟨h, d, ns, k, h1, h2, h3⟩ e g => ⟨h, d, ns, k, g _ _ ((h _).mpr rfl) h1, e _ _ h2, h3⟩
  solid := fun ⟨h, d, ns, k, h1, _⟩ a z => by rw [(h a).mp z]; exact nw_no h1 fun _ y => nomatch y
/-! ### what the slots hold -/
structure Exc where
  name : Str
  ns : List Str
  xs : List D
inductive C where
  | d (x : D) | own (x : D) | box | exc (e : Exc)
abbrev En := List (Option C)
abbrev XC := Option (Addr × Value × Option Addr)
def ExcAt (K : PySem.W.Frag) (mg : Str → Option Value) (F : Hp) (cls : Value) (d : Option Addr) (e : Exc) : Prop :=
  ∃ Cx, mg e.name = some (.ref Cx) ∧ cls = .ref Cx ∧ ((e.ns = [] ∧ e.xs = [] ∧ d = none) ∨ ∃ dd vs, d = some dd ∧ F dd = some (.xd vs) ∧ vs.map (·.1) = e.ns ∧ HasL K mg F (vs.map (·.2)) e.xs)
theorem ExcAt.mono {K : PySem.W.Frag} {mg : Str → Option Value} {F F' : Hp} {cls : Value} {d : Option Addr} {e : Exc} (s : Same F F') (h : ExcAt K mg F cls d e) : ExcAt K mg F' cls d e := by
  obtain ⟨Cx, h1, h2, h3 | ⟨dd, vs, a, b, c, f⟩⟩ := h
  · exact ⟨Cx, h1, h2, .inl h3⟩
  · exact ⟨Cx, h1, h2, .inr ⟨dd, vs, a, s _ _ b, c, f.mono s⟩⟩
def OwnHas (K : PySem.W.Frag) (mg : Str → Option Value) (F H : Hp) (p : Addr) : D → Prop
  | .lst ds => ∃ xs, H p = some (.lst xs) ∧ HasL K mg F xs ds
  | .dct ks ds => ∃ kvs, H p = some (.dK kvs) ∧ KsOk kvs ks ∧ HasL K mg F (kvs.map (·.2)) ds
  | .dtt ks ds => ∃ kvs, H p = some (.dT kvs) ∧ KtOk kvs ks ∧ HasL K mg F (kvs.map (·.2)) ds
  | _ => False
theorem OwnHas.here {K : PySem.W.Frag} {mg : Str → Option Value} {F H : Hp} {p : Addr} {x : D} (h : OwnHas K mg F H p x) : H p ≠ none := by
  cases x <;> first | exact h.elim | (obtain ⟨_, e, _⟩ := h; exact ne_of_some e)
theorem OwnHas.solid {K : PySem.W.Frag} {mg : Str → Option Value} {F H : Hp} {p : Addr} {x : D} (h : OwnHas K mg F H p x) : ¬ Nw H p := by
  cases x <;> first | exact h.elim | (obtain ⟨_, e, _⟩ := h; exact nw_no e fun _ y => nomatch y)
theorem OwnHas.mono {K : PySem.W.Frag} {mg : Str → Option Value} {F H F' H' : Hp} {p : Addr} {x : D} (h : OwnHas K mg F H p x) (e : Same F F') (g : ∀ o, H p = some o → H' p = some o) : OwnHas K mg F' H' p x := by
  cases x <;> first | exact h.elim | skip
  · obtain ⟨xs, a, b⟩ := h; exact ⟨xs, g _ a, b.mono e⟩
  · obtain ⟨kvs, a, b, c⟩ := h; exact ⟨kvs, g _ a, b, c.mono e⟩
  · obtain ⟨kvs, a, b, c⟩ := h; exact ⟨kvs, g _ a, b, c.mono e⟩
def Sl (K : PySem.W.Frag) (mg : Str → Option Value) (xc : XC) (r : Addr) (F H : Hp) (v : V) : C → Prop
  | .d x => Has K mg F v x
  | .own x => ∃ p, v = .ref p ∧ F p = none ∧ OwnHas K mg F H p x
  | .box => v = .ref r
  | .exc e => ∃ a cls d, xc = some (a, cls, d) ∧ v = .ref a ∧ ExcAt K mg F cls d e
structure Bs where
  ch : Addr → Prop
  F : Hp
  H : Hp
structure Gd {S : Type} (K : PySem.W.Frag) (mg : Str → Option Value) (xc : XC) (R : Reg S) (r : Addr) (B : Bs) (ft : Addr → Prop) (F H : Hp) (σ : L2.St) (ρ : En) (s : S) : Prop where
  st : Step B.ch B.F B.H F H
  foot : ∀ a, ft a → F a = none ∧ (B.ch a ∨ B.H a = none)
  reg : R.ok ft r F H s
  len : σ.length = ρ.length
  sl : ∀ (i : Nat) c, ρ[i]? = some (some c) → ∃ v, σ[i]? = some (some v) ∧ Sl K mg xc r F H v c
  own : ∀ (i : Nat) p x, σ[i]? = some (some (.ref p)) → ρ[i]? = some (some (.own x)) → (B.ch p ∨ B.H p = none) ∧ ¬ ft p
  dist : ∀ (i j : Nat) p x y, σ[i]? = some (some (.ref p)) → ρ[i]? = some (some (.own x)) → σ[j]? = some (some (.ref p)) → ρ[j]? = some (some (.own y)) → i = j
section
variable {S : Type} {K : PySem.W.Frag} {mg : Str → Option Value} {xc : XC} {R : Reg S} {r : Addr} {B : Bs} {ft ft' : Addr → Prop} {F H F' H' : Hp} {σ : L2.St} {ρ : En} {s s' : S}
theorem Gd.sub (G : Gd K mg xc R r B ft F H σ ρ s) : Same F H := G.st.sub
theorem Gd.there (G : Gd K mg xc R r B ft F H σ ρ s) {i : Nat} {p : Addr} {x : D} (h1 : σ[i]? = some (some (.ref p))) (h2 : ρ[i]? = some (some (.own x))) : F p = none ∧ OwnHas K mg F H p x := by
  obtain ⟨v, e1, e2⟩ := G.sl i _ h2
  rw [h1] at e1
  cases e1
  obtain ⟨q, e, a, b⟩ := e2
  cases e
  exact ⟨a, b⟩
theorem Sl.step {v : V} {c : C} (h : Sl K mg xc r F H v c) (t : Step ft F H F' H') (own : ∀ p, v = .ref p → (∃ x, c = .own x) → ¬ ft p) : Sl K mg xc r F' H' v c := by
  cases c with
  | d x => exact Has.mono t.grow h
  | own x =>
    obtain ⟨p, e, hp, ho⟩ := h
    have nf := own p e ⟨x, rfl⟩
    refine ⟨p, e, ?_, ho.mono t.grow fun o eo => t.keep _ _ eo nf⟩
    cases q : F' p with
    | none => rfl
    | some o => exact ((t.fresh p (ne_of_some q)).elim (fun z => z hp) fun z => z.elim (fun z => ho.solid z) nf).elim
  | box => exact h
  | exc e =>
    obtain ⟨a, cls, d, e1, e2, e3⟩ := h
    exact ⟨a, cls, d, e1, e2, e3.mono t.grow⟩
theorem Gd.step (G : Gd K mg xc R r B ft F H σ ρ s) (c : CStep ft F H ft' F' H') (rg : R.ok ft' r F' H' s') : Gd K mg xc R r B ft' F' H' σ ρ s' where
  st := G.st.trans c.st fun x z => (G.foot x z).2
  foot := fun a z => ⟨(c.foot a z).1, (c.foot a z).2.elim (fun z => (G.foot a z).2) fun z => .inr (G.st.none_of z)⟩
  reg := rg
  len := G.len
  sl := fun i c' h => by
    obtain ⟨v, h1, h2⟩ := G.sl i c' h
    refine ⟨v, h1, h2.step c.st fun p e ⟨x, ex⟩ => ?_⟩
    subst e ex
    exact (G.own i p x h1 h).2
  own := fun i p x h1 h2 => ⟨(G.own i p x h1 h2).1, fun z => (c.foot p z).2.elim (G.own i p x h1 h2).2 (G.there h1 h2).2.here⟩
  dist := G.dist
/-- a pure step is a step -/
theorem PStep.step {ch : Addr → Prop} (h : PStep F H F' H') : Step ch F H F' H' where
  sub := h.sub
  grow := h.grow
  fresh := fun a z => (h.fresh a z).elim .inl fun z => .inr (.inl z)
  keep := fun a o e _ => h.keep a o e
  alive := fun a e => Same.ne h.keep e
theorem PStep.none {a : Addr} (h : PStep F H F' H') (h1 : F a = none) (h2 : ¬ Nw H a) : F' a = none := by
  cases q : F' a with
  | none => rfl
  | some o => exact ((h.fresh a (ne_of_some q)).elim (fun y => y h1) h2).elim
theorem Gd.pstep (G : Gd K mg xc R r B ft F H σ ρ s) (h : PStep F H F' H') : Gd K mg xc R r B ft F' H' σ ρ s :=
  G.step ⟨h.step, fun a z => ⟨h.none (G.foot a z).1 (R.solid G.reg a z), .inl z⟩⟩ (R.stab G.reg h.grow fun a o _ e => h.keep a o e)
/-- fewer things known, slots as they are where known -/
theorem Gd.less (G : Gd K mg xc R r B ft F H σ ρ s) {σ' : L2.St} {ρ' : En} (hl : σ'.length = ρ'.length) (h : ∀ (i : Nat) c, ρ'[i]? = some (some c) → ρ[i]? = some (some c) ∧ σ'[i]? = σ[i]?) : Gd K mg xc R r B ft F H σ' ρ' s where
  st := G.st
  foot := G.foot
  reg := G.reg
  len := hl
  sl := fun i c e => by
    obtain ⟨h1, h2⟩ := h i c e
    rw [h2]
    exact G.sl i c h1
  own := fun i p x e1 e2 => by
    obtain ⟨h1, h2⟩ := h i _ e2
    exact G.own i p x (h2 ▸ e1) h1
  dist := fun i j p x y e1 e2 e3 e4 => by
    obtain ⟨h1, h2⟩ := h i _ e2
    obtain ⟨h3, h4⟩ := h j _ e4
    exact G.dist i j p x y (h2 ▸ e1) h1 (h4 ▸ e3) h3
/-- the base anew -/
def chOf (ft : Addr → Prop) (σ : L2.St) (ρ : En) (a : Addr) : Prop := ft a ∨ ∃ (i : Nat) (x : D), σ[i]? = some (some (.ref a)) ∧ ρ[i]? = some (some (.own x))
def bsOf (ft : Addr → Prop) (F H : Hp) (σ : L2.St) (ρ : En) : Bs := ⟨chOf ft σ ρ, F, H⟩
theorem Gd.here (G : Gd K mg xc R r B ft F H σ ρ s) : Gd K mg xc R r (bsOf ft F H σ ρ) ft F H σ ρ s where
  st := Step.refl G.sub
  foot := fun a z => ⟨(G.foot a z).1, .inl (.inl z)⟩
  reg := G.reg
  len := G.len
  sl := G.sl
  own := fun i p x h1 h2 => ⟨.inl (.inr ⟨i, x, h1, h2⟩), (G.own i p x h1 h2).2⟩
  dist := G.dist
theorem Gd.ch (G : Gd K mg xc R r B ft F H σ ρ s) {a : Addr} (h : chOf ft σ ρ a) : B.ch a ∨ B.H a = none := h.elim (fun z => (G.foot a z).2) fun ⟨i, x, h1, h2⟩ => (G.own i a x h1 h2).1
theorem Gd.rebase {ft1 : Addr → Prop} {F1 H1 : Hp} {σ1 : L2.St} {ρ1 : En} {s1 : S} (G1 : Gd K mg xc R r B ft1 F1 H1 σ1 ρ1 s1) (G : Gd K mg xc R r (bsOf ft1 F1 H1 σ1 ρ1) ft F H σ ρ s) : Gd K mg xc R r B ft F H σ ρ s where
  st := G1.st.trans G.st fun x z => G1.ch z
  foot := fun a z => ⟨(G.foot a z).1, (G.foot a z).2.elim (fun z => G1.ch z) fun z => .inr (G1.st.none_of z)⟩
  reg := G.reg
  len := G.len
  sl := G.sl
  own := fun i p x h1 h2 => ⟨(G.own i p x h1 h2).1.elim (fun z => G1.ch z) fun z => .inr (G1.st.none_of z), (G.own i p x h1 h2).2⟩
  dist := G.dist
theorem get_set {α : Type} {l : List α} {i j : Nat} {x : α} : (l.set i x)[j]? = if i = j then (if i < l.length then some x else none) else l[j]? := by
  rw [List.getElem?_set]
theorem Gd.lt (G : Gd K mg xc R r B ft F H σ ρ s) {i : Nat} (h : i < ρ.length) : i < σ.length := by rw [G.len]; exact h
/-- slot i gets a value that is not owned -/
theorem Gd.set (G : Gd K mg xc R r B ft F H σ ρ s) (i : Nat) {v : V} {c : C} (h : Sl K mg xc r F H v c) (hc : ∀ x, c ≠ .own x) : Gd K mg xc R r B ft F H (σ.set i (some v)) (ρ.set i (some c)) s where
  st := G.st
  foot := G.foot
  reg := G.reg
  len := by rw [List.length_set, List.length_set, G.len]
  sl := fun j d e => by
    rw [get_set] at e ⊢
    by_cases hij : i = j
    · rw [if_pos hij] at e ⊢
      by_cases hl : i < ρ.length
      · rw [if_pos hl] at e
        cases e
        rw [if_pos (G.lt hl)]
        exact ⟨v, rfl, h⟩
      · rw [if_neg hl] at e
        cases e
    · rw [if_neg hij] at e ⊢
      exact G.sl j d e
  own := fun j p x e1 e2 => by
    rw [get_set] at e1 e2
    by_cases hij : i = j
    · rw [if_pos hij] at e2
      by_cases hl : i < ρ.length
      · rw [if_pos hl] at e2
        cases e2
        exact absurd rfl (hc x)
      · rw [if_neg hl] at e2
        cases e2
    · rw [if_neg hij] at e1 e2
      exact G.own j p x e1 e2
  dist := fun j k p x y e1 e2 e3 e4 => by
    rw [get_set] at e1 e2 e3 e4
    have nj : i ≠ j := fun z => by
      rw [if_pos z] at e2
      by_cases hl : i < ρ.length
      · rw [if_pos hl] at e2
        cases e2
        exact hc x rfl
      · rw [if_neg hl] at e2
        cases e2
    have nk : i ≠ k := fun z => by
      rw [if_pos z] at e4
      by_cases hl : i < ρ.length
      · rw [if_pos hl] at e4
        cases e4
        exact hc y rfl
      · rw [if_neg hl] at e4
        cases e4
    rw [if_neg nj] at e1 e2
    rw [if_neg nk] at e3 e4
    exact G.dist j k p x y e1 e2 e3 e4
theorem Gd.setD (G : Gd K mg xc R r B ft F H σ ρ s) (i : Nat) {v : V} {x : D} (h : Has K mg F v x) : Gd K mg xc R r B ft F H (σ.set i (some v)) (ρ.set i (some (.d x))) s := G.set i h fun _ z => nomatch z
/-- the slot is forgotten -/
theorem Gd.gone (G : Gd K mg xc R r B ft F H σ ρ s) (i : Nat) (o : Option V) : Gd K mg xc R r B ft F H (σ.set i o) (ρ.set i none) s := by
  refine G.less (by rw [List.length_set, List.length_set, G.len]) fun j c e => ?_
  rw [get_set] at e ⊢
  by_cases hij : i = j
  · rw [if_pos hij] at e
    by_cases hl : i < ρ.length
    · rw [if_pos hl] at e; cases e
    · rw [if_neg hl] at e; cases e
  · rw [if_neg hij] at e ⊢
    exact ⟨e, rfl⟩
/-- an object that nothing known leans on -/
structure Free (B : Bs) (ft : Addr → Prop) (σ : L2.St) (ρ : En) (p : Addr) : Prop where
  ch : B.ch p ∨ B.H p = none
  nf : ¬ ft p
  no : ∀ (i : Nat) x, σ[i]? = some (some (.ref p)) → ρ[i]? = some (some (.own x)) → False
/-- a new object -/
theorem Gd.born (G : Gd K mg xc R r B ft F H σ ρ s) {p : Addr} (o : HO) (hp : H p = none) : Gd K mg xc R r B ft F (upd H p o) σ ρ s ∧ F p = none ∧ Free B ft σ ρ p := by
  have fp : F p = none := G.sub.free hp
  have k : Same H (upd H p o) := fun b u e => (upd_ne (ne_of_none e hp)).trans e
  have t : CStep ft F H ft F (upd H p o) := ⟨⟨G.sub.trans k, Same.refl F, fun _ z => .inl z, fun a u e _ => k a u e, fun a z => Same.ne k z⟩, fun a z => ⟨(G.foot a z).1, .inl z⟩⟩
  exact ⟨G.step t (R.stab G.reg (Same.refl F) fun a u _ e => k a u e), fp, .inr (G.st.none_of hp), fun z => R.alive G.reg p z hp, fun i x e1 e2 => (G.there e1 e2).2.here hp⟩
/-- slot i holds an object of its own -/
theorem Gd.adopt (G : Gd K mg xc R r B ft F H σ ρ s) (i : Nat) {p : Addr} {x : D} (fp : F p = none) (h : OwnHas K mg F H p x) (fr : Free B ft σ ρ p) : Gd K mg xc R r B ft F H (σ.set i (some (.ref p))) (ρ.set i (some (.own x))) s := by
  refine { st := G.st, foot := G.foot, reg := G.reg, len := by rw [List.length_set, List.length_set, G.len], sl := fun j d e => ?_, own := fun j q y e1 e2 => ?_, dist := fun j k' q y z e1 e2 e3 e4 => ?_ }
  · rw [get_set] at e ⊢
    by_cases hij : i = j
    · rw [if_pos hij] at e ⊢
      by_cases hl : i < ρ.length
      · rw [if_pos hl] at e
        cases e
        rw [if_pos (G.lt hl)]
        exact ⟨_, rfl, p, rfl, fp, h⟩
      · rw [if_neg hl] at e
        cases e
    · rw [if_neg hij] at e ⊢
      exact G.sl j d e
  · rw [get_set] at e1 e2
    by_cases hij : i = j
    · rw [if_pos hij] at e1 e2
      by_cases hl : i < ρ.length
      · rw [if_pos (G.lt hl)] at e1
        cases e1
        exact ⟨fr.ch, fr.nf⟩
      · rw [if_neg hl] at e2
        cases e2
    · rw [if_neg hij] at e1 e2
      exact G.own j q y e1 e2
  · rw [get_set] at e1 e2 e3 e4
    by_cases hij : i = j
    · by_cases hik : i = k'
      · exact hij.symm.trans hik
      · rw [if_pos hij] at e1 e2
        rw [if_neg hik] at e3 e4
        by_cases hl : i < ρ.length
        · rw [if_pos (G.lt hl)] at e1
          cases e1
          exact (fr.no k' z e3 e4).elim
        · rw [if_neg hl] at e2
          cases e2
    · rw [if_neg hij] at e1 e2
      by_cases hik : i = k'
      · rw [if_pos hik] at e3 e4
        by_cases hl : i < ρ.length
        · rw [if_pos (G.lt hl)] at e3
          cases e3
          exact (fr.no j y e1 e2).elim
        · rw [if_neg hl] at e4
          cases e4
      · rw [if_neg hik] at e3 e4
        exact G.dist j k' q y z e1 e2 e3 e4
/-- the object that slot i owns changes -/
theorem Gd.mut (G : Gd K mg xc R r B ft F H σ ρ s) {i : Nat} {p : Addr} {o : HO} {x y : D} (h1 : σ[i]? = some (some (.ref p))) (h2 : ρ[i]? = some (some (.own x))) (h : OwnHas K mg F (upd H p o) p y) :
    Gd K mg xc R r B ft F (upd H p o) σ (ρ.set i (some (.own y))) s := by
  obtain ⟨v, e1, e2⟩ := G.sl i _ h2
  rw [h1] at e1
  cases e1
  obtain ⟨q, e, fp, ho⟩ := e2
  cases e
  obtain ⟨bp, nf⟩ := G.own i p x h1 h2
  have al : ∀ a, H a ≠ none → upd H p o a ≠ none := fun a z => by
    by_cases ha : a = p
    · subst ha; rw [upd_same]; exact fun y => nomatch y
    · rw [upd_ne ha]; exact z
  have st : Step B.ch B.F B.H F (upd H p o) := by
    refine ⟨fun b u z => ?_, G.st.grow, G.st.fresh, fun a u z n => ?_, fun a z => al a (G.st.alive a z)⟩
    · rw [upd_ne (ne_of_none z fp)]; exact G.sub b u z
    · have na : a ≠ p := fun w => bp.elim (fun y => n (by rw [w]; exact y)) fun y => by rw [w, y] at z; cases z
      rw [upd_ne na]; exact G.st.keep a u z n
  have il : i < ρ.length := (List.getElem?_eq_some_iff.mp h2).1
  refine { st := st, foot := G.foot, reg := R.stab G.reg (Same.refl F) fun a u z e => ?_, len := by rw [List.length_set, G.len], sl := fun j c e => ?_, own := fun j q z e1 e2 => ?_, dist := fun j k q z w e1 e2 e3 e4 => ?_ }
  · exact (upd_ne (show a ≠ p from fun w => nf (by rw [← w]; exact z))).trans e
  · rw [get_set] at e
    by_cases hij : i = j
    · rw [if_pos hij, if_pos il] at e
      cases e
      subst hij
      exact ⟨_, h1, p, rfl, fp, h⟩
    · rw [if_neg hij] at e
      obtain ⟨v, a1, a2⟩ := G.sl j c e
      refine ⟨v, a1, ?_⟩
      cases c with
      | d z => exact a2
      | own z =>
        obtain ⟨q, b1, b2, b3⟩ := a2
        subst b1
        have qp : q ≠ p := fun w => hij (G.dist i j p x z h1 h2 (w ▸ a1) e)
        exact ⟨q, rfl, b2, b3.mono (Same.refl F) fun u w => (upd_ne qp).trans w⟩
      | box => exact a2
      | exc z => exact a2
  · rw [get_set] at e2
    by_cases hij : i = j
    · subst hij
      exact G.own i q x e1 (by rw [h1] at e1; exact h2)
    · rw [if_neg hij] at e2
      exact G.own j q z e1 e2
  · rw [get_set] at e2 e4
    have f2 : ∃ z', ρ[j]? = some (some (.own z')) := by
      by_cases hij : i = j
      · exact ⟨x, hij ▸ h2⟩
      · rw [if_neg hij] at e2; exact ⟨z, e2⟩
    have f4 : ∃ z', ρ[k]? = some (some (.own z')) := by
      by_cases hij : i = k
      · exact ⟨x, hij ▸ h2⟩
      · rw [if_neg hij] at e4; exact ⟨w, e4⟩
    obtain ⟨z1, f2⟩ := f2
    obtain ⟨z2, f4⟩ := f4
    exact G.dist j k q z1 z2 e1 f2 e3 f4
theorem OwnHas.settle {p : Addr} {x : D} (h : OwnHas K mg F H p x) (fp : F p = none) : ∃ o, H p = some o ∧ Has K mg (upd F p o) (.ref p) x := by
  have g : ∀ o, Same F (upd F p o) := fun o b u e => (upd_ne (ne_of_none e fp)).trans e
  cases x <;> first | exact h.elim | skip
  · obtain ⟨xs, a, b⟩ := h
    exact ⟨_, a, .lst upd_same (b.mono (g _))⟩
  · obtain ⟨kvs, a, b, c⟩ := h
    exact ⟨_, a, .dct upd_same b (c.mono (g _))⟩
  · obtain ⟨kvs, a, b, c⟩ := h
    exact ⟨_, a, .dtt upd_same b (c.mono (g _))⟩
/-- an object that nothing known leans on changes -/
theorem Gd.poke (G : Gd K mg xc R r B ft F H σ ρ s) {p : Addr} (o : HO) (fp : F p = none) (fr : Free B ft σ ρ p) : Gd K mg xc R r B ft F (upd H p o) σ ρ s := by
  refine { st := ⟨fun b u z => ?_, G.st.grow, G.st.fresh, fun a u z n => ?_, fun a z => ?_⟩, foot := G.foot, reg := R.stab G.reg (Same.refl F) fun a u z e => ?_, len := G.len, sl := fun j c e => ?_, own := G.own, dist := G.dist }
  · rw [upd_ne (ne_of_none z fp)]; exact G.sub b u z
  · have na : a ≠ p := fun w => fr.ch.elim (fun y => n (by rw [w]; exact y)) fun y => by rw [w, y] at z; cases z
    rw [upd_ne na]; exact G.st.keep a u z n
  · by_cases ha : a = p
    · subst ha; rw [upd_same]; exact fun y => nomatch y
    · rw [upd_ne ha]; exact G.st.alive a z
  · exact (upd_ne (show a ≠ p from fun w => fr.nf (by rw [← w]; exact z))).trans e
  · obtain ⟨v, a1, a2⟩ := G.sl j c e
    refine ⟨v, a1, ?_⟩
    cases c with
    | d z => exact a2
    | own z =>
      obtain ⟨q', b1, b2, b3⟩ := a2
      subst b1
      have qp : q' ≠ p := fun w => fr.no j z (by rw [← w]; exact a1) e
      exact ⟨q', rfl, b2, b3.mono (Same.refl F) fun u w => (upd_ne qp).trans w⟩
    | box => exact a2
    | exc z => exact a2
/-- what the base has and may not change -/
theorem Gd.apart (G : Gd K mg xc R r B ft F H σ ρ s) {p : Addr} {o : HO} (h1 : ¬ B.ch p) (h2 : B.H p = some o) (h3 : B.F p = none) (hn : ∀ xs, o ≠ .tup xs := by exact fun _ z => nomatch z) : H p = some o ∧ F p = none ∧ ¬ ft p ∧ ∀ (i : Nat) x, σ[i]? = some (some (.ref p)) → ρ[i]? = some (some (.own x)) → False := by
  have n : ¬ (B.ch p ∨ B.H p = none) := fun z => z.elim h1 (ne_of_some h2)
  refine ⟨G.st.keep p o h2 h1, ?_, fun z => n (G.foot p z).2, fun i x a b => n (G.own i p x a b).1⟩
  cases q : F p with
  | none => rfl
  | some u => exact ((G.st.fresh p (ne_of_some q)).elim (fun z => z h3) fun z => z.elim (fun z => nw_no h2 hn z) h1).elim
/-- such an object is settled -/
theorem Gd.settleF (G : Gd K mg xc R r B ft F H σ ρ s) {p : Addr} {x : D} (fp : F p = none) (h : OwnHas K mg F H p x) (fr : Free B ft σ ρ p) : ∃ F', Same F F' ∧ Has K mg F' (.ref p) x ∧ Gd K mg xc R r B ft F' H σ ρ s := by
  obtain ⟨o, e1, e2⟩ := h.settle fp
  have g : Same F (upd F p o) := fun b u e => (upd_ne (ne_of_none e fp)).trans e
  refine ⟨_, g, e2, { st := ⟨fun b u z => ?_, G.st.grow.trans g, fun a z => ?_, G.st.keep, G.st.alive⟩, foot := fun a z => ⟨?_, (G.foot a z).2⟩, reg := R.stab G.reg g fun _ _ _ e => e, len := G.len, sl := fun j c e => ?_, own := G.own, dist := G.dist }⟩
  · by_cases hb : b = p
    · subst hb; rw [upd_same] at z; cases z; exact e1
    · rw [upd_ne hb] at z; exact G.sub b u z
  · by_cases hb : a = p
    · subst hb; exact .inr (fr.ch.symm.imp .inl id)
    · rw [upd_ne hb] at z; exact G.st.fresh a z
  · exact (upd_ne (show a ≠ p from fun w => fr.nf (by rw [← w]; exact z))).trans (G.foot a z).1
  · obtain ⟨v, a1, a2⟩ := G.sl j c e
    refine ⟨v, a1, ?_⟩
    cases c with
    | d z => exact Has.mono g a2
    | own z =>
      obtain ⟨q', b1, b2, b3⟩ := a2
      subst b1
      have qp : q' ≠ p := fun w => fr.no j z (by rw [← w]; exact a1) e
      exact ⟨q', rfl, (upd_ne qp).trans b2, b3.mono g fun _ w => w⟩
    | box => exact a2
    | exc z =>
      obtain ⟨a, cls, d, w1, w2, w3⟩ := a2
      exact ⟨a, cls, d, w1, w2, w3.mono g⟩
/-- what slot i owns is settled -/
theorem Gd.settle (G : Gd K mg xc R r B ft F H σ ρ s) {i : Nat} {x : D} (h2 : ρ[i]? = some (some (.own x))) :
    ∃ v F', σ[i]? = some (some v) ∧ Same F F' ∧ Has K mg F' v x ∧ Gd K mg xc R r B ft F' H σ (ρ.set i (some (.d x))) s := by
  obtain ⟨v, h1, q, e, fp, ho⟩ := G.sl i _ h2
  subst e
  obtain ⟨o, e1, e2⟩ := ho.settle fp
  obtain ⟨bp, nf⟩ := G.own i q x h1 h2
  have g : Same F (upd F q o) := fun b u e => (upd_ne (ne_of_none e fp)).trans e
  have il : i < ρ.length := (List.getElem?_eq_some_iff.mp h2).1
  refine ⟨_, upd F q o, h1, g, e2, { st := ⟨fun b u z => ?_, G.st.grow.trans g, fun a z => ?_, G.st.keep, G.st.alive⟩, foot := fun a z => ⟨?_, (G.foot a z).2⟩, reg := R.stab G.reg g fun _ _ _ e => e, len := by rw [List.length_set, G.len], sl := fun j c e => ?_, own := fun j p z a1 a2 => ?_, dist := fun j k p z w a1 a2 a3 a4 => ?_ }⟩
  · by_cases hb : b = q
    · subst hb; rw [upd_same] at z; cases z; exact e1
    · rw [upd_ne hb] at z; exact G.sub b u z
  · by_cases hb : a = q
    · subst hb; exact .inr (bp.symm.imp .inl id)
    · rw [upd_ne hb] at z; exact G.st.fresh a z
  · exact (upd_ne (show a ≠ q from fun w => nf (by rw [← w]; exact z))).trans (G.foot a z).1
  · rw [get_set] at e
    by_cases hij : i = j
    · rw [if_pos hij, if_pos il] at e
      cases e
      subst hij
      exact ⟨_, h1, e2⟩
    · rw [if_neg hij] at e
      obtain ⟨v, a1, a2⟩ := G.sl j c e
      refine ⟨v, a1, ?_⟩
      cases c with
      | d z => exact Has.mono g a2
      | own z =>
        obtain ⟨q', b1, b2, b3⟩ := a2
        subst b1
        have qp : q' ≠ q := fun w => hij (G.dist i j q x z h1 h2 (w ▸ a1) e)
        exact ⟨q', rfl, (upd_ne qp).trans b2, b3.mono g fun _ w => w⟩
      | box => exact a2
      | exc z =>
        obtain ⟨a, cls, d, w1, w2, w3⟩ := a2
        exact ⟨a, cls, d, w1, w2, w3.mono g⟩
  · rw [get_set] at a2
    by_cases hij : i = j
    · rw [if_pos hij, if_pos il] at a2
      cases a2
    · rw [if_neg hij] at a2
      exact G.own j p z a1 a2
  · rw [get_set] at a2 a4
    by_cases hij : i = j
    · rw [if_pos hij, if_pos il] at a2
      cases a2
    · by_cases hik : i = k
      · rw [if_pos hik, if_pos il] at a4
        cases a4
      · rw [if_neg hij] at a2
        rw [if_neg hik] at a4
        exact G.dist j k p z w a1 a2 a3 a4
end
end DL

set_option linter.all false
set_option maxRecDepth 100000
set_option maxHeartbeats 2000000
/-! judgements: a reading over heaps follows from one over data -/
namespace DL
open PySem PySem.Spec PyProof.Rows L2
abbrev EK (S : Type) := Exc → S → En → Prop
abbrev DX (S : Type) := S → En → (D → S → En → Prop) → EK S → Prop
abbrev DT (S : Type) := S → En → (Bool → S → En → Prop) → EK S → Prop
abbrev DA (S : Type) := S → En → (List C → S → En → Prop) → EK S → Prop
structure DEnds (S : Type) where
  nx : S → En → Prop
  rt : D → S → Prop
  bk : S → En → Prop
  ct : S → En → Prop
  ex : EK S
abbrev DS (S : Type) := DEnds S → S → En → Prop
structure DEnds.Le {S : Type} (a b : DEnds S) : Prop where
  nx : ∀ s ρ, a.nx s ρ → b.nx s ρ
  rt : ∀ d s, a.rt d s → b.rt d s
  bk : ∀ s ρ, a.bk s ρ → b.bk s ρ
  ct : ∀ s ρ, a.ct s ρ → b.ct s ρ
  ex : ∀ e s ρ, a.ex e s ρ → b.ex e s ρ
/-- what an argument is -/
def Ar (K : PySem.W.Frag) (mg : Str → Option Value) (r : Addr) (F : Hp) (v : V) : C → Prop
  | .d x => Has K mg F v x
  | .box => v = .ref r
  | _ => False
abbrev ArL (K : PySem.W.Frag) (mg : Str → Option Value) (r : Addr) (F : Hp) : List V → List C → Prop := Paired (Ar K mg r F)
theorem Ar.mono {K : PySem.W.Frag} {mg : Str → Option Value} {r : Addr} {F F' : Hp} (e : Same F F') {v : V} {c : C} (h : Ar K mg r F v c) : Ar K mg r F' v c := by
  cases c <;> first | exact h | exact Has.mono e h
theorem ArL.mono {K : PySem.W.Frag} {mg : Str → Option Value} {r : Addr} {F F' : Hp} (e : Same F F') {vs : List V} {cs : List C} (h : ArL K mg r F vs cs) : ArL K mg r F' vs cs := Paired.mapP h fun _ _ => Ar.mono e
section
variable {S : Type} (K : PySem.W.Frag) (mg : Str → Option Value) (xc : XC) (R : Reg S) (W : WX)
def WOk (r : Addr) (B : Bs) (σ : L2.St) (EX : EK S) : Prop := ∀ ft F H ρ s cls d e, Gd K mg xc R r B ft F H σ ρ s → ExcAt K mg F cls d e → EX e s ρ → W cls d σ H
structure SimE (te : TE) (de : DX S) : Prop where
  mono : ∀ {s ρ Q Q' E E'}, (∀ x s ρ, Q x s ρ → Q' x s ρ) → (∀ e s ρ, E e s ρ → E' e s ρ) → de s ρ Q E → de s ρ Q' E'
  run : ∀ {r B ft F H σ ρ s EX} {Q : VK}, Gd K mg xc R r B ft F H σ ρ s → WOk K mg xc R W r B σ EX →
    de s ρ (fun x s' ρ' => ∀ v ft' F' H', Gd K mg xc R r B ft' F' H' σ ρ' s' → Same F F' → Has K mg F' v x → Q v H') EX → te σ H Q
structure SimT (tt : TT) (dt : DT S) : Prop where
  mono : ∀ {s ρ Q Q' E E'}, (∀ x s ρ, Q x s ρ → Q' x s ρ) → (∀ e s ρ, E e s ρ → E' e s ρ) → dt s ρ Q E → dt s ρ Q' E'
  run : ∀ {r B ft F H σ ρ s EX} {Q : Bool → Hp → Prop}, Gd K mg xc R r B ft F H σ ρ s → WOk K mg xc R W r B σ EX →
    dt s ρ (fun b s' ρ' => ∀ ft' F' H', Gd K mg xc R r B ft' F' H' σ ρ' s' → Same F F' → Q b H') EX → tt σ H Q
structure SimA (ta : TA) (da : DA S) : Prop where
  mono : ∀ {s ρ Q Q' E E'}, (∀ x s ρ, Q x s ρ → Q' x s ρ) → (∀ e s ρ, E e s ρ → E' e s ρ) → da s ρ Q E → da s ρ Q' E'
  run : ∀ {r B ft F H σ ρ s EX} {Q : List V → Hp → Prop}, Gd K mg xc R r B ft F H σ ρ s → WOk K mg xc R W r B σ EX →
    da s ρ (fun cs s' ρ' => ∀ vs ft' F' H', Gd K mg xc R r B ft' F' H' σ ρ' s' → Same F F' → ArL K mg r F' vs cs → Q vs H') EX → ta σ H Q
/-- a new object of its own -/
structure SimF (te : TE) (de : DX S) : Prop where
  mono : ∀ {s ρ Q Q' E E'}, (∀ x s ρ, Q x s ρ → Q' x s ρ) → (∀ e s ρ, E e s ρ → E' e s ρ) → de s ρ Q E → de s ρ Q' E'
  run : ∀ {r B ft F H σ ρ s EX} {Q : VK}, Gd K mg xc R r B ft F H σ ρ s → WOk K mg xc R W r B σ EX →
    de s ρ (fun x s' ρ' => ∀ p ft' F' H', Gd K mg xc R r B ft' F' H' σ ρ' s' → Same F F' → F' p = none → OwnHas K mg F' H' p x → Free B ft' σ ρ' p → Q (.ref p) H') EX → te σ H Q
structure EndsOk (r : Addr) (B : Bs) (Dn : Ends) (DE : DEnds S) : Prop where
  nx : ∀ ft F H σ ρ s, Gd K mg xc R r B ft F H σ ρ s → DE.nx s ρ → Dn.nx σ H
  rt : ∀ ft F H σ ρ s v x, Gd K mg xc R r B ft F H σ ρ s → Has K mg F v x → DE.rt x s → Dn.rt v H
  bk : ∀ ft F H σ ρ s, Gd K mg xc R r B ft F H σ ρ s → DE.bk s ρ → Dn.bk σ H
  ct : ∀ ft F H σ ρ s, Gd K mg xc R r B ft F H σ ρ s → DE.ct s ρ → Dn.ct σ H
  ex : ∀ σ, WOk K mg xc R W r B σ DE.ex
structure SimS (ts : TS) (ds : DS S) : Prop where
  mono : ∀ {s ρ DE DE'}, DE.Le DE' → ds DE s ρ → ds DE' s ρ
  run : ∀ {r B ft F H σ ρ s Dn DE}, Gd K mg xc R r B ft F H σ ρ s → EndsOk K mg xc R W r B Dn DE → ds DE s ρ → ts Dn σ H
end
abbrev DO2 := D → D → (D → Prop) → Prop
abbrev DO1 := D → (D → Prop) → Prop
abbrev DOA := List C → (D → Prop) → Prop
section
variable (K : PySem.W.Frag) (mg : Str → Option Value)
structure SimR (r : R2) (f : DO2) : Prop where
  mono : ∀ {x y Q Q'}, (∀ z, Q z → Q' z) → f x y Q → f x y Q'
  run : ∀ {F H x y dx dy} {Q : VK}, Same F H → Has K mg F x dx → Has K mg F y dy → f dx dy (fun z => ∀ v F' H', PStep F H F' H' → Has K mg F' v z → Q v H') → r x y H Q
structure SimU (r : V → Hp → VK → Prop) (f : DO1) : Prop where
  mono : ∀ {x Q Q'}, (∀ z, Q z → Q' z) → f x Q → f x Q'
  run : ∀ {F H x dx} {Q : VK}, Same F H → Has K mg F x dx → f dx (fun z => ∀ v F' H', PStep F H F' H' → Has K mg F' v z → Q v H') → r x H Q
structure SimB (r : List V → Hp → VK → Prop) (f : DOA) : Prop where
  mono : ∀ {cs Q Q'}, (∀ z, Q z → Q' z) → f cs Q → f cs Q'
  run : ∀ {q F H vs cs} {Q : VK}, Same F H → ArL K mg q F vs cs → f cs (fun z => ∀ v F' H', PStep F H F' H' → Has K mg F' v z → Q v H') → r vs H Q
structure SimM (T : String) (r : V → List V → Hp → VK → Prop) (ty : D → Prop) (f : D → DOA) : Prop where
  ty : ∀ {F H x dx}, Same F H → Has K mg F x dx → ty dx → tyV K T x H
  mono : ∀ {x cs Q Q'}, (∀ z, Q z → Q' z) → f x cs Q → f x cs Q'
  run : ∀ {q F H x dx vs cs} {Q : VK}, Same F H → Has K mg F x dx → ArL K mg q F vs cs → f dx cs (fun z => ∀ v F' H', PStep F H F' H' → Has K mg F' v z → Q v H') → r x vs H Q
end
/-! ### the syntax, the reading over heaps, the reading over data -/
section
variable {S : Type} (X : Cx) (xc : XC) (R : Reg S) (W : WX)
/-- what the rules ask of the place: what is raised is taken, and passes -/
structure TkOk : Prop where
  tk : Takes X W
  po : PassesOwn (model X.prog X.w) X.A X.env X.xe
structure QE (e : Expr) (te : TE) (de : DX S) : Prop where
  pe : TkOk X W → PE X e te
  sim : SimE X.K X.mg xc R W te de
structure QF (e : Expr) (te : TE) (de : DX S) : Prop where
  pe : TkOk X W → PE X e te
  sim : SimF X.K X.mg xc R W te de
structure QT (e : Expr) (tt : TT) (dt : DT S) : Prop where
  pt : TkOk X W → PT X e tt
  sim : SimT X.K X.mg xc R W tt dt
structure QW (e : Expr) (tt : TT) (dt : DT S) : Prop where
  pw : TkOk X W → PW X e tt
  sim : SimT X.K X.mg xc R W tt dt
structure QA (es : List Expr) (ta : TA) (da : DA S) : Prop where
  pa : TkOk X W → PA X es ta
  sim : SimA X.K X.mg xc R W ta da
structure QS (st : Stmt) (ts : TS) (ds : DS S) : Prop where
  ps : TkOk X W → PS X st ts
  sim : SimS X.K X.mg xc R W ts ds
structure QSs (st : List Stmt) (ts : TS) (ds : DS S) : Prop where
  ps : TkOk X W → PSs X st ts
  sim : SimS X.K X.mg xc R W ts ds
end
section
variable {S : Type} {K : PySem.W.Frag} {mg : Str → Option Value} {xc : XC} {R : Reg S} {W : WX}
/-! ### readings over data -/
def dGet (i : Nat) (ρ : En) (Q : D → En → Prop) : Prop := match ρ[i]? with
  | some (some (.d x)) => Q x ρ
  | some (some (.own x)) => Q x (ρ.set i (some (.d x)))
  | _ => False
def dVar (i : Nat) : DX S := fun s ρ Q _ => dGet i ρ fun x ρ => Q x s ρ
def dC (x : D) : DX S := fun s ρ Q _ => Q x s ρ
def dOp (f : DO2) (da db : DX S) : DX S := fun s ρ Q E => da s ρ (fun x s1 ρ1 => db s1 ρ1 (fun y s2 ρ2 => f x y fun z => Q z s2 ρ2) E) E
def dUn (f : DO1) (da : DX S) : DX S := fun s ρ Q E => da s ρ (fun x s1 ρ1 => f x fun z => Q z s1 ρ1) E
def dNil : DA S := fun s ρ Q _ => Q [] s ρ
def dCons (da : DX S) (dr : DA S) : DA S := fun s ρ Q E => da s ρ (fun x s1 ρ1 => dr s1 ρ1 (fun cs s2 ρ2 => Q (.d x :: cs) s2 ρ2) E) E
/-- a name that may be the box -/
def dConsV (i : Nat) (dr : DA S) : DA S := fun s ρ Q E => match ρ[i]? with
  | some (some .box) => dr s ρ (fun cs s2 ρ2 => Q (.box :: cs) s2 ρ2) E
  | _ => dGet i ρ fun x ρ1 => dr s ρ1 (fun cs s2 ρ2 => Q (.d x :: cs) s2 ρ2) E
def asD : List C → (List D → Prop) → Prop
  | [], Q => Q []
  | .d x :: cs, Q => asD cs fun ds => Q (x :: ds)
  | _ :: _, _ => False
def dTup (da : DA S) : DX S := fun s ρ Q E => da s ρ (fun cs s1 ρ1 => asD cs fun ds => ds.length ≤ 1000 ∧ Q (.tup ds) s1 ρ1) E
def dLst (da : DA S) : DX S := fun s ρ Q E => da s ρ (fun cs s1 ρ1 => asD cs fun ds => ds.length ≤ 1000 ∧ Q (.lst ds) s1 ρ1) E
def dB (f : DOA) (da : DA S) : DX S := fun s ρ Q E => da s ρ (fun cs s1 ρ1 => f cs fun z => Q z s1 ρ1) E
def dM (ty : D → Prop) (f : D → DOA) (dx : DX S) (da : DA S) : DX S := fun s ρ Q E => dx s ρ (fun x s1 ρ1 => ty x ∧ da s1 ρ1 (fun cs s2 ρ2 => f x cs fun z => Q z s2 ρ2) E) E
/-- a value's truth -/
def truD : D → (Bool → Prop) → Prop
  | .non, Q => Q false
  | .bl b, Q => Q b
  | .int i, Q => Q (i != 0)
  | .str x, Q => Q ((x.length : Int) != 0)
  | .lst xs, Q => Q (!xs.isEmpty)
  | .tup xs, Q => Q (!xs.isEmpty)
  | .dct ks _, Q => Q (!ks.isEmpty)
  | .dtt _ _, _ => False
  | .tpd _, _ => False
  | .obj _ _ _, _ => False
  | .hdl _, _ => False
def dOr (da db : DX S) : DX S := fun s ρ Q E => da s ρ (fun x s1 ρ1 => truD x fun k => if k = true then Q x s1 ρ1 else db s1 ρ1 Q E) E
def dAnd (da db : DX S) : DX S := fun s ρ Q E => da s ρ (fun x s1 ρ1 => truD x fun k => if k = true then db s1 ρ1 Q E else Q x s1 ρ1) E
def dNot (da : DX S) : DX S := fun s ρ Q E => da s ρ (fun x s1 ρ1 => truD x fun k => Q (.bl (!k)) s1 ρ1) E
def dIfE (dt : DT S) (da db : DX S) : DX S := fun s ρ Q E => dt s ρ (fun b s1 ρ1 => if b = true then da s1 ρ1 Q E else db s1 ρ1 Q E) E
def isB : D → (Bool → Prop) → Prop
  | .bl b, Q => Q b
  | _, _ => False
def dTru (da : DX S) : DT S := fun s ρ Q E => da s ρ (fun x s1 ρ1 => truD x fun k => Q k s1 ρ1) E
def dTst (da : DX S) : DT S := fun s ρ Q E => da s ρ (fun x s1 ρ1 => isB x fun k => Q k s1 ρ1) E
def dTAnd (da db : DT S) : DT S := fun s ρ Q E => da s ρ (fun b s1 ρ1 => if b = true then db s1 ρ1 Q E else Q false s1 ρ1) E
def dTOr (da db : DT S) : DT S := fun s ρ Q E => da s ρ (fun b s1 ρ1 => if b = true then Q true s1 ρ1 else db s1 ρ1 Q E) E
def dTNot (da : DT S) : DT S := fun s ρ Q E => da s ρ (fun b s1 ρ1 => Q (!b) s1 ρ1) E
def dChain (f g : DO2) (da db dc : DX S) : DX S := fun s ρ Q E => da s ρ (fun x s1 ρ1 => db s1 ρ1 (fun y s2 ρ2 => f x y fun z => isB z fun k => if k = true then dc s2 ρ2 (fun w s3 ρ3 => g y w fun u => Q u s3 ρ3) E else Q (.bl false) s2 ρ2) E) E
/-! ### they do -/
theorem dGet_mono {i : Nat} {ρ : En} {Q Q' : D → En → Prop} (h : ∀ x ρ, Q x ρ → Q' x ρ) (z : dGet i ρ Q) : dGet i ρ Q' := by
  unfold dGet at z ⊢
  split at z
  · exact h _ _ z
  · exact h _ _ z
  · exact z.elim
theorem dGet_run {i : Nat} {r : Addr} {B : Bs} {ft : Addr → Prop} {F H : Hp} {σ : L2.St} {ρ : En} {s : S} {Q : D → En → Prop} (G : Gd K mg xc R r B ft F H σ ρ s) (h : dGet i ρ Q) :
    ∃ v x ρ' F', σ[i]? = some (some v) ∧ Same F F' ∧ Has K mg F' v x ∧ Gd K mg xc R r B ft F' H σ ρ' s ∧ Q x ρ' := by
  unfold dGet at h
  split at h
  · rename_i x e
    obtain ⟨v, h1, h2⟩ := G.sl i _ e
    exact ⟨v, x, ρ, F, h1, Same.refl F, h2, G, h⟩
  · rename_i x e
    obtain ⟨v, F', h1, h2, h3, h4⟩ := G.settle e
    exact ⟨v, x, _, F', h1, h2, h3, h4, h⟩
  · exact h.elim
theorem sim_var (i : Nat) : SimE K mg xc R W (tVar i) (dVar i) where
  mono := fun h _ z => dGet_mono (fun x ρ => h x _ ρ) z
  run := fun G _ h => by
    obtain ⟨v, x, ρ', F', h1, h2, h3, h4, h5⟩ := dGet_run G h
    exact ⟨v, h1, h5 v _ F' _ h4 h2 h3⟩
theorem sim_c {v : V} {x : D} (h : ∀ F, Has K mg F v x) : SimE K mg xc R W (tC v) (dC x) where
  mono := fun h _ z => h _ _ _ z
  run := fun G _ q => q v _ _ _ G (Same.refl _) (h _)
theorem sim_op {r : R2} {f : DO2} {ta tb : TE} {da db : DX S} (hr : SimR K mg r f) (ha : SimE K mg xc R W ta da) (hb : SimE K mg xc R W tb db) : SimE K mg xc R W (tOp r ta tb) (dOp f da db) where
  mono := fun h e z => ha.mono (fun x s ρ z => hb.mono (fun y s ρ z => hr.mono (fun u z => h u _ _ z) z) e z) e z
  run := fun {r' B ft F H σ ρ s EX Q} G w q => by
    refine ha.run G w (ha.mono (fun x s1 ρ1 z v ft1 F1 H1 G1 e1 a1 => ?_) (fun _ _ _ z => z) q)
    refine hb.run G1 w (hb.mono (fun y s2 ρ2 z u ft2 F2 H2 G2 e2 a2 => ?_) (fun _ _ _ z => z) z)
    refine hr.run G2.sub (Has.mono e2 a1) a2 (hr.mono (fun o z v' F' H' t hv => ?_) z)
    exact z v' _ F' H' (G2.pstep t) ((e1.trans e2).trans t.grow) hv
theorem sim_un {r : V → Hp → VK → Prop} {f : DO1} {ta : TE} {da : DX S} (hr : SimU K mg r f) (ha : SimE K mg xc R W ta da) : SimE K mg xc R W (tUn r ta) (dUn f da) where
  mono := fun h e z => ha.mono (fun x s ρ z => hr.mono (fun u z => h u _ _ z) z) e z
  run := fun G w q => by
    refine ha.run G w (ha.mono (fun x s1 ρ1 z v ft1 F1 H1 G1 e1 a1 => ?_) (fun _ _ _ z => z) q)
    refine hr.run G1.sub a1 (hr.mono (fun o z v' F' H' t hv => ?_) z)
    exact z v' _ F' H' (G1.pstep t) (e1.trans t.grow) hv
theorem sim_nil : SimA K mg xc R W tNil dNil where
  mono := fun h _ z => h _ _ _ z
  run := fun G _ q => q [] _ _ _ G (Same.refl _) .nil
theorem sim_cons {ta : TE} {tr : TA} {da : DX S} {dr : DA S} (ha : SimE K mg xc R W ta da) (hr : SimA K mg xc R W tr dr) : SimA K mg xc R W (tCons ta tr) (dCons da dr) where
  mono := fun h e z => ha.mono (fun x s ρ z => hr.mono (fun u s ρ z => h _ _ _ z) e z) e z
  run := fun G w q => by
    refine ha.run G w (ha.mono (fun x s1 ρ1 z v ft1 F1 H1 G1 e1 a1 => ?_) (fun _ _ _ z => z) q)
    refine hr.run G1 w (hr.mono (fun cs s2 ρ2 z vs ft2 F2 H2 G2 e2 a2 => ?_) (fun _ _ _ z => z) z)
    exact z (v :: vs) _ F2 H2 G2 (e1.trans e2) (.cons (Has.mono e2 a1) a2)
theorem sim_consV {i : Nat} {tr : TA} {dr : DA S} (hr : SimA K mg xc R W tr dr) : SimA K mg xc R W (tCons (tVar i) tr) (dConsV i dr) where
  mono := fun h e z => by
    unfold dConsV at z ⊢
    split at z
    · exact hr.mono (fun u s ρ z => h _ _ _ z) e z
    · exact dGet_mono (fun x ρ z => hr.mono (fun u s ρ z => h _ _ _ z) e z) z
  run := fun {r' B ft F H σ ρ s EX Q} G w q => by
    unfold dConsV at q
    split at q
    · rename_i e
      obtain ⟨v, h1, h2⟩ := G.sl i _ e
      refine ⟨v, h1, ?_⟩
      refine hr.run G w (hr.mono (fun cs s2 ρ2 z vs ft2 F2 H2 G2 e2 a2 => ?_) (fun _ _ _ z => z) q)
      exact z (v :: vs) _ F2 H2 G2 e2 (.cons h2 a2)
    · obtain ⟨v, x, ρ', F', h1, h2, h3, h4, h5⟩ := dGet_run G q
      refine ⟨v, h1, ?_⟩
      refine hr.run h4 w (hr.mono (fun cs s2 ρ2 z vs ft2 F2 H2 G2 e2 a2 => ?_) (fun _ _ _ z => z) h5)
      exact z (v :: vs) _ F2 H2 G2 (h2.trans e2) (.cons (Has.mono e2 h3) a2)
theorem asD_mono : ∀ {cs : List C} {Q Q' : List D → Prop}, (∀ ds, Q ds → Q' ds) → asD cs Q → asD cs Q'
  | [], _, _, h, z => h _ z
  | .d x :: cs, Q, Q', h, z => asD_mono (cs := cs) (Q := fun ds => Q (x :: ds)) (Q' := fun ds => Q' (x :: ds)) (fun ds => h _) z
  | .own _ :: _, _, _, _, z => (show False from z).elim
  | .box :: _, _, _, _, z => (show False from z).elim
  | .exc _ :: _, _, _, _, z => (show False from z).elim
theorem asD_has {r : Addr} {F : Hp} : ∀ {cs : List C} {vs : List V} {Q : List D → Prop}, ArL K mg r F vs cs → asD cs Q → ∃ ds, HasL K mg F vs ds ∧ Q ds
  | [], _, _, .nil, z => ⟨[], .nil, z⟩
  | .d x :: cs, _, _, .cons a t, z => by
    obtain ⟨ds, h1, h2⟩ := asD_has t (show asD _ _ from z)
    exact ⟨x :: ds, .cons a h1, h2⟩
  | .own _ :: _, _, _, _, z => (show False from z).elim
  | .box :: _, _, _, _, z => (show False from z).elim
  | .exc _ :: _, _, _, _, z => (show False from z).elim
theorem line_ge : (1000 : Nat) ≤ sizeLine := by decide
theorem sim_tup {ta : TA} {da : DA S} (ha : SimA K mg xc R W ta da) : SimE K mg xc R W (tTup ta) (dTup da) where
  mono := fun h e z => ha.mono (fun x s ρ z => asD_mono (fun ds z => ⟨z.1, h _ _ _ z.2⟩) z) e z
  run := fun G w q => by
    refine ha.run G w (ha.mono (fun x s1 ρ1 z vs ft1 F1 H1 G1 e1 a1 => ?_) (fun _ _ _ z => z) q)
    obtain ⟨ds, hd, hl, q⟩ := asD_has a1 z
    refine ⟨by rw [hd.length]; exact Nat.le_trans hl line_ge, fun p hp => ?_⟩
    have t := PStep.new (o := .tup vs) G1.sub hp
    exact q _ _ _ _ (G1.pstep t) (e1.trans t.grow) (.tup (.inl (.inl upd_same)) (hd.mono t.grow))
/-- a new object, settled at once -/
theorem sim_of {te : TE} {de : DX S} (h : SimF K mg xc R W te de) : SimE K mg xc R W te de where
  mono := h.mono
  run := fun G w q => by
    refine h.run G w (h.mono (fun x s1 ρ1 z p ft1 F1 H1 G1 e1 fp ho fr => ?_) (fun _ _ _ z => z) q)
    obtain ⟨F2, g, e2, G2⟩ := G1.settleF fp ho fr
    exact z _ _ _ _ G2 (e1.trans g) e2
theorem simf_lst {ta : TA} {da : DA S} (ha : SimA K mg xc R W ta da) : SimF K mg xc R W (tLst ta) (dLst da) where
  mono := fun h e z => ha.mono (fun x s ρ z => asD_mono (fun ds z => ⟨z.1, h _ _ _ z.2⟩) z) e z
  run := fun G w q => by
    refine ha.run G w (ha.mono (fun x s1 ρ1 z vs ft1 F1 H1 G1 e1 a1 => ?_) (fun _ _ _ z => z) q)
    obtain ⟨ds, hd, hl, q⟩ := asD_has a1 z
    refine ⟨by rw [hd.length]; exact Nat.le_trans hl line_ge, fun p hp => ?_⟩
    obtain ⟨G2, fp, fr⟩ := G1.born (.lst vs) hp
    exact q p _ _ _ G2 e1 fp ⟨vs, upd_same, hd⟩ fr
theorem sim_B {r : List V → Hp → VK → Prop} {f : DOA} {ta : TA} {da : DA S} (hr : SimB K mg r f) (ha : SimA K mg xc R W ta da) : SimE K mg xc R W (tCB r ta) (dB f da) where
  mono := fun h e z => ha.mono (fun x s ρ z => hr.mono (fun u z => h u _ _ z) z) e z
  run := fun G w q => by
    refine ha.run G w (ha.mono (fun x s1 ρ1 z vs ft1 F1 H1 G1 e1 a1 => ?_) (fun _ _ _ z => z) q)
    refine hr.run G1.sub a1 (hr.mono (fun o z v' F' H' t hv => ?_) z)
    exact z v' _ F' H' (G1.pstep t) (e1.trans t.grow) hv
theorem sim_M {T : String} {r : V → List V → Hp → VK → Prop} {ty : D → Prop} {f : D → DOA} {to : TE} {ta : TA} {dx : DX S} {da : DA S} (hr : SimM K mg T r ty f) (ho : SimE K mg xc R W to dx) (ha : SimA K mg xc R W ta da) : SimE K mg xc R W (tBM K T r to ta) (dM ty f dx da) where
  mono := fun h e z => ho.mono (fun x s ρ z => ⟨z.1, ha.mono (fun x s ρ z => hr.mono (fun u z => h u _ _ z) z) e z.2⟩) e z
  run := fun G w q => by
    refine ho.run G w (ho.mono (fun x s1 ρ1 z v ft1 F1 H1 G1 e1 a1 => ⟨hr.ty G1.sub a1 z.1, ?_⟩) (fun _ _ _ z => z) q)
    refine ha.run G1 w (ha.mono (fun cs s2 ρ2 z vs ft2 F2 H2 G2 e2 a2 => ?_) (fun _ _ _ z => z) z.2)
    refine hr.run G2.sub (Has.mono e2 a1) a2 (hr.mono (fun o z v' F' H' t hv => ?_) z)
    exact z v' _ F' H' (G2.pstep t) ((e1.trans e2).trans t.grow) hv
theorem sim_M0 {T : String} {r : V → List V → Hp → VK → Prop} {ty : D → Prop} {f : D → DOA} {to : TE} {dx : DX S} (hr : SimM K mg T r ty f) (ho : SimE K mg xc R W to dx) : SimE K mg xc R W (tBM0 K T r to) (dM ty f dx dNil) where
  mono := fun h e z => ho.mono (fun x s ρ z => ⟨z.1, hr.mono (fun u z => h u _ _ z) z.2⟩) e z
  run := fun {r' B ft F H σ ρ s EX Q} G w q => by
    refine ho.run G w (ho.mono (fun x s1 ρ1 z v ft1 F1 H1 G1 e1 a1 => ⟨hr.ty G1.sub a1 z.1, ?_⟩) (fun _ _ _ z => z) q)
    refine hr.run (q := r') G1.sub a1 .nil (hr.mono (fun o z v' F' H' t hv => ?_) z.2)
    exact z v' _ F' H' (G1.pstep t) (e1.trans t.grow) hv
theorem tru_of {F H : Hp} {v : V} {x : D} {Q : Bool → Prop} (e : Same F H) (h : Has K mg F v x) (q : truD x Q) : ∃ k, TruV K v H k ∧ Q k := by
  cases h with
  | non => exact ⟨_, rfl, q⟩
  | bl b => exact ⟨_, rfl, q⟩
  | int i => exact ⟨_, rfl, q⟩
  | str x hx => exact ⟨_, ⟨hx.2, rfl⟩, q⟩
  | lst ha hs =>
    refine ⟨_, .inl ⟨_, .inl (.inl (e _ _ ha)), rfl⟩, ?_⟩
    cases hs <;> exact q
  | tup ha hs =>
    refine ⟨_, .inr (.inl ⟨_, sqT_mono e ha, rfl⟩), ?_⟩
    cases hs <;> exact q
  | @dct a kvs ks ds ha hk hs =>
    refine ⟨_, .inr (.inr ⟨_, e _ _ ha, rfl⟩), ?_⟩
    have z : Q (!ks.isEmpty) := q
    cases ks <;> cases kvs <;> first | exact z | cases hk.1
  | obj _ _ _ _ => exact q.elim
  | hdl _ => exact q.elim
  | tpd _ _ => exact q.elim
  | dtt _ _ _ => exact q.elim
theorem truD_mono {x : D} {Q Q' : Bool → Prop} (h : ∀ b, Q b → Q' b) (z : truD x Q) : truD x Q' := by
  cases x <;> first | exact h _ z | exact (show False from z).elim
theorem isB_mono {x : D} {Q Q' : Bool → Prop} (h : ∀ b, Q b → Q' b) (z : isB x Q) : isB x Q' := by
  cases x <;> first | exact h _ z | exact (show False from z).elim
theorem isB_of {F : Hp} {v : V} {x : D} {Q : Bool → Prop} (h : Has K mg F v x) (q : isB x Q) : ∃ k, v = .bl k ∧ Q k := by
  cases h <;> first | exact ⟨_, rfl, q⟩ | exact (show False from q).elim
theorem ite_mono {b : Bool} {A B A' B' : Prop} (h1 : A → A') (h2 : B → B') (z : if b = true then A else B) : if b = true then A' else B' := by
  cases b
  · exact h2 z
  · exact h1 z
theorem sim_or {ta tb : TE} {da db : DX S} (ha : SimE K mg xc R W ta da) (hb : SimE K mg xc R W tb db) : SimE K mg xc R W (tOrT K ta tb) (dOr da db) where
  mono := fun h e z => ha.mono (fun x s ρ z => truD_mono (fun b => ite_mono (h _ _ _) (hb.mono h e)) z) e z
  run := fun G w q => by
    refine ha.run G w (ha.mono (fun x s1 ρ1 z v ft1 F1 H1 G1 e1 a1 => ?_) (fun _ _ _ z => z) q)
    obtain ⟨k, hk, z⟩ := tru_of G1.sub a1 z
    refine ⟨k, hk, ?_⟩
    cases k
    · exact hb.run G1 w (hb.mono (fun y s2 ρ2 z u ft2 F2 H2 G2 e2 a2 => z u _ _ _ G2 (e1.trans e2) a2) (fun _ _ _ z => z) z)
    · exact z v _ _ _ G1 e1 a1
theorem sim_and {ta tb : TE} {da db : DX S} (ha : SimE K mg xc R W ta da) (hb : SimE K mg xc R W tb db) : SimE K mg xc R W (tAndT K ta tb) (dAnd da db) where
  mono := fun h e z => ha.mono (fun x s ρ z => truD_mono (fun b => ite_mono (hb.mono h e) (h _ _ _)) z) e z
  run := fun G w q => by
    refine ha.run G w (ha.mono (fun x s1 ρ1 z v ft1 F1 H1 G1 e1 a1 => ?_) (fun _ _ _ z => z) q)
    obtain ⟨k, hk, z⟩ := tru_of G1.sub a1 z
    refine ⟨k, hk, ?_⟩
    cases k
    · exact z v _ _ _ G1 e1 a1
    · exact hb.run G1 w (hb.mono (fun y s2 ρ2 z u ft2 F2 H2 G2 e2 a2 => z u _ _ _ G2 (e1.trans e2) a2) (fun _ _ _ z => z) z)
theorem sim_not {ta : TE} {da : DX S} (ha : SimE K mg xc R W ta da) : SimE K mg xc R W (tNotT K ta) (dNot da) where
  mono := fun h e z => ha.mono (fun x s ρ z => truD_mono (fun b => h _ _ _) z) e z
  run := fun G w q => by
    refine ha.run G w (ha.mono (fun x s1 ρ1 z v ft1 F1 H1 G1 e1 a1 => ?_) (fun _ _ _ z => z) q)
    obtain ⟨k, hk, z⟩ := tru_of G1.sub a1 z
    exact ⟨k, hk, z _ _ _ _ G1 e1 (.bl _)⟩
theorem sim_ifE {tt : TT} {ta tb : TE} {dt : DT S} {da db : DX S} (ht : SimT K mg xc R W tt dt) (ha : SimE K mg xc R W ta da) (hb : SimE K mg xc R W tb db) : SimE K mg xc R W (tIf tt ta tb) (dIfE dt da db) where
  mono := fun h e z => ht.mono (fun x s ρ => ite_mono (ha.mono h e) (hb.mono h e)) e z
  run := fun G w q => by
    refine ht.run G w (ht.mono (fun b s1 ρ1 z ft1 F1 H1 G1 e1 => ?_) (fun _ _ _ z => z) q)
    cases b
    · exact hb.run G1 w (hb.mono (fun y s2 ρ2 z u ft2 F2 H2 G2 e2 a2 => z u _ _ _ G2 (e1.trans e2) a2) (fun _ _ _ z => z) z)
    · exact ha.run G1 w (ha.mono (fun y s2 ρ2 z u ft2 F2 H2 G2 e2 a2 => z u _ _ _ G2 (e1.trans e2) a2) (fun _ _ _ z => z) z)
theorem simt_tru {ta : TE} {da : DX S} (ha : SimE K mg xc R W ta da) : SimT K mg xc R W (fun σ H Q => ta σ H fun x H' => ∃ k, TruV K x H' k ∧ Q k H') (dTru da) where
  mono := fun h e z => ha.mono (fun x s ρ z => truD_mono (fun b => h _ _ _) z) e z
  run := fun G w q => by
    refine ha.run G w (ha.mono (fun x s1 ρ1 z v ft1 F1 H1 G1 e1 a1 => ?_) (fun _ _ _ z => z) q)
    obtain ⟨k, hk, z⟩ := tru_of G1.sub a1 z
    exact ⟨k, hk, z _ _ _ G1 e1⟩
theorem simt_tst {ta : TE} {da : DX S} (ha : SimE K mg xc R W ta da) : SimT K mg xc R W (tTest ta) (dTst da) where
  mono := fun h e z => ha.mono (fun x s ρ z => isB_mono (fun b => h _ _ _) z) e z
  run := fun G w q => by
    refine ha.run G w (ha.mono (fun x s1 ρ1 z v ft1 F1 H1 G1 e1 a1 => ?_) (fun _ _ _ z => z) q)
    obtain ⟨k, hk, z⟩ := isB_of a1 z
    exact ⟨k, hk, z _ _ _ G1 e1⟩
theorem simt_and {ta tb : TT} {da db : DT S} (ha : SimT K mg xc R W ta da) (hb : SimT K mg xc R W tb db) : SimT K mg xc R W (tAnd ta tb) (dTAnd da db) where
  mono := fun h e z => ha.mono (fun x s ρ => ite_mono (hb.mono h e) (h _ _ _)) e z
  run := fun G w q => by
    refine ha.run G w (ha.mono (fun b s1 ρ1 z ft1 F1 H1 G1 e1 => ?_) (fun _ _ _ z => z) q)
    cases b
    · exact z _ _ _ G1 e1
    · exact hb.run G1 w (hb.mono (fun y s2 ρ2 z ft2 F2 H2 G2 e2 => z _ _ _ G2 (e1.trans e2)) (fun _ _ _ z => z) z)
theorem simt_or {ta tb : TT} {da db : DT S} (ha : SimT K mg xc R W ta da) (hb : SimT K mg xc R W tb db) : SimT K mg xc R W (tOr ta tb) (dTOr da db) where
  mono := fun h e z => ha.mono (fun x s ρ => ite_mono (h _ _ _) (hb.mono h e)) e z
  run := fun G w q => by
    refine ha.run G w (ha.mono (fun b s1 ρ1 z ft1 F1 H1 G1 e1 => ?_) (fun _ _ _ z => z) q)
    cases b
    · exact hb.run G1 w (hb.mono (fun y s2 ρ2 z ft2 F2 H2 G2 e2 => z _ _ _ G2 (e1.trans e2)) (fun _ _ _ z => z) z)
    · exact z _ _ _ G1 e1
theorem simt_not {ta : TT} {da : DT S} (ha : SimT K mg xc R W ta da) : SimT K mg xc R W (tNot ta) (dTNot da) where
  mono := fun h e z => ha.mono (fun x s ρ => h _ _ _) e z
  run := fun G w q => ha.run G w (ha.mono (fun b s1 ρ1 z ft1 F1 H1 G1 e1 => z _ _ _ G1 e1) (fun _ _ _ z => z) q)
theorem sim_chain {r r' : R2} {f g : DO2} {ta tb tc : TE} {da db dc : DX S} (hr : SimR K mg r f) (hr' : SimR K mg r' g) (ha : SimE K mg xc R W ta da) (hb : SimE K mg xc R W tb db) (hc : SimE K mg xc R W tc dc) : SimE K mg xc R W (tChain r r' ta tb tc) (dChain f g da db dc) where
  mono := fun h e z => ha.mono (fun x s ρ z => hb.mono (fun y s ρ z => hr.mono (fun u z => isB_mono (fun k => ite_mono (hc.mono (fun w s ρ z => hr'.mono (fun u z => h _ _ _ z) z) e) (h _ _ _)) z) z) e z) e z
  run := fun {r' B ft F H σ ρ s EX Q} G w q => by
    refine ha.run G w (ha.mono (fun x s1 ρ1 z v ft1 F1 H1 G1 e1 a1 => ?_) (fun _ _ _ z => z) q)
    refine hb.run G1 w (hb.mono (fun y s2 ρ2 z u ft2 F2 H2 G2 e2 a2 => ?_) (fun _ _ _ z => z) z)
    refine hr.run G2.sub (Has.mono e2 a1) a2 (hr.mono (fun o z v' F' H' t hv => ?_) z)
    obtain ⟨k, rfl, z⟩ := isB_of hv z
    refine ⟨k, rfl, ?_⟩
    have G3 := G2.pstep t
    cases k
    · exact z _ _ _ _ G3 ((e1.trans e2).trans t.grow) (.bl _)
    · refine hc.run G3 w (hc.mono (fun y' s4 ρ4 z u4 ft4 F4 H4 G4 e4 a4 => ?_) (fun _ _ _ z => z) z)
      refine hr'.run G4.sub (Has.mono (t.grow.trans e4) a2) a4 (hr'.mono (fun o z v' F' H' t' hv => ?_) z)
      exact z v' _ F' H' (G4.pstep t') ((((e1.trans e2).trans t.grow).trans e4).trans t'.grow) hv
end
end DL

set_option linter.all false
set_option maxRecDepth 100000
set_option maxHeartbeats 2000000
/-! statements, loops, comprehensions -/
namespace DL
open PySem PySem.Spec PyProof.Rows L2
section
variable {S : Type} {K : PySem.W.Frag} {mg : Str → Option Value} {xc : XC} {R : Reg S} {W : WX}
def dNext : DS S := fun DE s ρ => DE.nx s ρ
def dBrk : DS S := fun DE s ρ => DE.bk s ρ
def dCnt : DS S := fun DE s ρ => DE.ct s ρ
def dNever : DS S := fun _ _ _ => False
def dSeq (t u : DS S) : DS S := fun DE s ρ => t { DE with nx := u DE } s ρ
def dAsg (i : Nat) (dx : DX S) : DS S := fun DE s ρ => dx s ρ (fun x s ρ => DE.nx s (ρ.set i (some (.d x)))) DE.ex
def dAsgF (i : Nat) (dx : DX S) : DS S := fun DE s ρ => dx s ρ (fun x s ρ => DE.nx s (ρ.set i (some (.own x)))) DE.ex
def dDrop (dx : DX S) : DS S := fun DE s ρ => dx s ρ (fun _ s ρ => DE.nx s ρ) DE.ex
def dRet (dx : DX S) : DS S := fun DE s ρ => dx s ρ (fun x s _ => DE.rt x s) DE.ex
def dRetN : DS S := fun DE s _ => DE.rt .non s
def dIf (dt : DT S) (a b : DS S) : DS S := fun DE s ρ => dt s ρ (fun c s ρ => if c = true then a DE s ρ else b DE s ρ) DE.ex
def dAug (i : Nat) (f : Int → Int → Int) (dx : DX S) : DS S := fun DE s ρ => dGet i ρ fun x ρ => dx s ρ (fun y s ρ => match x, y with
  | .int a, .int b => DE.nx s (ρ.set i (some (.d (.int (f a b)))))
  | _, _ => False) DE.ex
/-- i's own list -/
def ownL (i : Nat) (ρ : En) (k : List D → Prop) : Prop := match ρ[i]? with
  | some (some (.own (.lst xs))) => k xs
  | _ => False
/-- i's list gets one more -/
def dApp (i : Nat) (dx : DX S) : DS S := fun DE s ρ => ownL i ρ fun _ => dx s ρ (fun x s ρ => ownL i ρ fun xs => xs.length < 16777216 ∧ DE.nx s (ρ.set i (some (.own (.lst (xs ++ [x])))))) DE.ex
/-- i's list: the item at dj is dx's -/
def isInt : D → (Int → Prop) → Prop
  | .int i, k => k i
  | _, _ => False
def dPut (i : Nat) (dj dx : DX S) : DS S := fun DE s ρ => dx s ρ (fun x s ρ => ownL i ρ fun _ => dj s ρ (fun y s ρ => isInt y fun k => ownL i ρ fun xs => ∃ j, ixN xs.length k = some j ∧ DE.nx s (ρ.set i (some (.own (.lst (xs.set j x)))))) DE.ex) DE.ex
/-- i's list gets all of a list -/
def isL : D → (List D → Prop) → Prop
  | .lst xs, k => k xs
  | _, _ => False
def dExt (i : Nat) (dx : DX S) : DS S := fun DE s ρ => ownL i ρ fun _ => dx s ρ (fun x s ρ => isL x fun ys => ownL i ρ fun xs => xs.length + ys.length ≤ 16777216 ∧ DE.nx s (ρ.set i (some (.own (.lst (xs ++ ys)))))) DE.ex
/-! targets -/
abbrev DG := D → En → (En → Prop) → Prop
def gNm (i : Nat) : DG := fun x ρ Q => Q (ρ.set i (some (.d x)))
def setAll (ρ : En) : List Nat → List D → En
  | i :: is, d :: ds => setAll (ρ.set i (some (.d d))) is ds
  | _, _ => ρ
def gTp (is : List Nat) : DG := fun x ρ Q => match x with
  | .tup ds => ds.length = is.length ∧ Q (setAll ρ is ds)
  | _ => False
def gNms : List Nat → TGs
  | [] => gNil
  | i :: is => gCons (gName i) (gNms is)
def dAsgG (g : DG) (dx : DX S) : DS S := fun DE s ρ => dx s ρ (fun x s ρ => g x ρ fun ρ => DE.nx s ρ) DE.ex
def dLoop (g : DG) (tb : DS S) : List D → DS S
  | [], DE, s, ρ => DE.nx s ρ
  | x :: xs, DE, s, ρ => g x ρ fun ρ => tb { DE with nx := dLoop g tb xs DE, ct := dLoop g tb xs DE, bk := DE.nx } s ρ
abbrev DI (S : Type) := S → En → (List D → S → En → Prop) → EK S → Prop
def dFor (di : DI S) (g : DG) (tb : DS S) : DS S := fun DE s ρ => di s ρ (fun xs s ρ => dLoop g tb xs DE s ρ) DE.ex
def dWhile (dt : DT S) (tb : DS S) : DS S := fun DE s ρ => ∃ W : Nat → S → En → Prop, (∃ m, W m s ρ) ∧ ∀ m s ρ, W m s ρ →
  dt s ρ (fun c s ρ => if c = true then tb { DE with nx := fun s ρ => ∃ m', m' < m ∧ W m' s ρ, ct := fun s ρ => ∃ m', m' < m ∧ W m' s ρ, bk := DE.nx } s ρ else DE.nx s ρ) DE.ex
def wipeD (ρ : En) : List Nat → En
  | [] => ρ
  | v :: vs => (wipeD ρ vs).set v none
/-- the comprehension's turns: what is made so far -/
def dTurns (g : DG) (dt : DT S) (de : DX S) (vs : List Nat) (Q : List D → S → En → Prop) : List D → List D → S → En → Prop
  | [], acc, s, ρ => Q acc s ρ
  | x :: xs, acc, s, ρ => g x ρ fun ρ' => dt s ρ' (fun b s ρ' => if b = true then de s ρ' (fun y s ρ' => dTurns g dt de vs Q xs (acc ++ [y]) s (wipeD ρ' vs)) (fun _ _ _ => False) else dTurns g dt de vs Q xs acc s (wipeD ρ' vs)) (fun _ _ _ => False)
def dLc (di : DI S) (g : DG) (dt : DT S) (de : DX S) (vs : List Nat) : DX S := fun s ρ Q E => di s ρ (fun xs s ρ => xs.length < 16777216 ∧ dTurns g dt de vs (fun acc s ρ => Q (.lst acc) s ρ) xs [] s (wipeD ρ vs)) E
def dYes : DT S := fun s ρ Q _ => Q true s ρ
/-! ### what is walked -/
def Itd (K : PySem.W.Frag) (mg : Str → Option Value) (F : Hp) (J : It) (ds : List D) : Prop := ∀ F1 H, Same F F1 → Same F1 H → (∀ i, i < ds.length → J.go i H) ∧ J.stop ds.length H ∧
  ∀ (i : Nat) x H' d, ds[i]? = some d → J.yld i H x H' → ∃ F2, PStep F1 H F2 H' ∧ Has K mg F2 x d
theorem Itd.mono {F F' : Hp} {J : It} {ds : List D} (h : Itd K mg F J ds) (e : Same F F') : Itd K mg F' J ds := fun F1 H a b => h F1 H (e.trans a) b
end
section
variable {S : Type} (K : PySem.W.Frag) (mg : Str → Option Value) (xc : XC) (R : Reg S) (W : WX)
structure SimI (wi : TI) (di : DI S) : Prop where
  mono : ∀ {s ρ Q Q' E E'}, (∀ x s ρ, Q x s ρ → Q' x s ρ) → (∀ e s ρ, E e s ρ → E' e s ρ) → di s ρ Q E → di s ρ Q' E'
  run : ∀ {r B ft F H σ ρ s EX} {Q : It → Hp → Prop}, Gd K mg xc R r B ft F H σ ρ s → WOk K mg xc R W r B σ EX →
    di s ρ (fun ds s' ρ' => ∀ J ft' F' H', Gd K mg xc R r B ft' F' H' σ ρ' s' → Same F F' → Itd K mg F' J ds → Q J H') EX → wi σ H Q
structure SimG (tg : TG) (dg : DG) (is : List Nat) : Prop where
  mono : ∀ {x ρ Q Q'}, (∀ ρ, Q ρ → Q' ρ) → dg x ρ Q → dg x ρ Q'
  run : ∀ {r B ft F H σ ρ} {s : S} {v x} {Q : L2.St → Hp → Prop}, Gd K mg xc R r B ft F H σ ρ s → Has K mg F v x → dg x ρ (fun ρ' => ∀ σ', (σ'.length = σ.length ∧ ∀ i, i ∉ is → σ'[i]? = σ[i]?) → Gd K mg xc R r B ft F H σ' ρ' s → Q σ' H) → tg v σ H Q
end
section
variable {S : Type} (X : Cx) (xc : XC) (R : Reg S) (W : WX)
structure QI (tg iter : Expr) (wi : TI) (di : DI S) : Prop where
  pi : TkOk X W → PI X tg iter wi
  sim : SimI X.K X.mg xc R W wi di
structure QG (tg : Expr) (g : TG) (dg : DG) (is : List Nat) : Prop where
  pg : PG X tg g
  sim : SimG X.K X.mg xc R g dg is
end
section
variable {S : Type} {K : PySem.W.Frag} {mg : Str → Option Value} {xc : XC} {R : Reg S} {W : WX}
theorem WOk.rebase {r : Addr} {B : Bs} {σ σ1 : L2.St} {ρ1 : En} {s1 : S} {EX : EK S} {ft : Addr → Prop} {F H : Hp} (G : Gd K mg xc R r B ft F H σ1 ρ1 s1) (w : WOk K mg xc R W r B σ EX) : WOk K mg xc R W r (bsOf ft F H σ1 ρ1) σ EX :=
  fun ft' F' H' ρ' s' cls d e G' => w ft' F' H' ρ' s' cls d e (G.rebase G')
theorem EndsOk.rebase {r : Addr} {B : Bs} {σ1 : L2.St} {ρ1 : En} {s1 : S} {Dn : Ends} {DE : DEnds S} {ft : Addr → Prop} {F H : Hp} (G : Gd K mg xc R r B ft F H σ1 ρ1 s1) (w : EndsOk K mg xc R W r B Dn DE) : EndsOk K mg xc R W r (bsOf ft F H σ1 ρ1) Dn DE where
  nx := fun _ _ _ _ _ _ g => w.nx _ _ _ _ _ _ (G.rebase g)
  rt := fun _ _ _ _ _ _ _ _ g => w.rt _ _ _ _ _ _ _ _ (G.rebase g)
  bk := fun _ _ _ _ _ _ g => w.bk _ _ _ _ _ _ (G.rebase g)
  ct := fun _ _ _ _ _ _ g => w.ct _ _ _ _ _ _ (G.rebase g)
  ex := fun σ => (w.ex σ).rebase G
theorem sims_next : SimS K mg xc R W tNext (dNext (S := S)) := ⟨fun h z => h.nx _ _ z, fun G w q => w.nx _ _ _ _ _ _ G q⟩
theorem sims_brk : SimS K mg xc R W tBreak (dBrk (S := S)) := ⟨fun h z => h.bk _ _ z, fun G w q => w.bk _ _ _ _ _ _ G q⟩
theorem sims_cnt : SimS K mg xc R W tCont (dCnt (S := S)) := ⟨fun h z => h.ct _ _ z, fun G w q => w.ct _ _ _ _ _ _ G q⟩
theorem sims_never {ts : TS} : SimS K mg xc R W ts (dNever (S := S)) := ⟨fun _ z => z, fun _ _ q => (show False from q).elim⟩
theorem DEnds.Le.refl (a : DEnds S) : a.Le a := ⟨fun _ _ z => z, fun _ _ z => z, fun _ _ z => z, fun _ _ z => z, fun _ _ _ z => z⟩
theorem sims_seq {t u : TS} {a b : DS S} (ha : SimS K mg xc R W t a) (hb : SimS K mg xc R W u b) : SimS K mg xc R W (tSeq t u) (dSeq a b) where
  mono := fun {s ρ DE DE'} h z => ha.mono (DE := { DE with nx := b DE }) (DE' := { DE' with nx := b DE' }) ⟨fun _ _ z => hb.mono h z, h.rt, h.bk, h.ct, h.ex⟩ z
  run := fun {r B ft F H σ ρ s Dn DE} G w q => ha.run (Dn := { Dn with nx := u Dn }) (DE := { DE with nx := b DE }) G ⟨fun _ _ _ _ _ _ g z => hb.run g w z, w.rt, w.bk, w.ct, w.ex⟩ q
theorem sims_asg {i : Nat} {te : TE} {dx : DX S} (hx : SimE K mg xc R W te dx) : SimS K mg xc R W (tAsg te (gName i)) (dAsg i dx) where
  mono := fun h z => hx.mono (fun _ _ _ z => h.nx _ _ z) h.ex z
  run := fun G w q => hx.run G (w.ex _) (hx.mono (fun _ _ _ z _ _ _ _ G1 _ a1 => w.nx _ _ _ _ _ _ (G1.setD i a1) z) (fun _ _ _ z => z) q)
theorem sims_asgF {i : Nat} {te : TE} {dx : DX S} (hx : SimF K mg xc R W te dx) : SimS K mg xc R W (tAsg te (gName i)) (dAsgF i dx) where
  mono := fun h z => hx.mono (fun _ _ _ z => h.nx _ _ z) h.ex z
  run := fun G w q => hx.run G (w.ex _) (hx.mono (fun _ _ _ z _ _ _ _ G1 _ fp ho fr => w.nx _ _ _ _ _ _ (G1.adopt i fp ho fr) z) (fun _ _ _ z => z) q)
theorem sims_drop {te : TE} {dx : DX S} (hx : SimE K mg xc R W te dx) : SimS K mg xc R W (tDrop te) (dDrop dx) where
  mono := fun h z => hx.mono (fun _ _ _ z => h.nx _ _ z) h.ex z
  run := fun G w q => hx.run G (w.ex _) (hx.mono (fun _ _ _ z _ _ _ _ G1 _ _ => w.nx _ _ _ _ _ _ G1 z) (fun _ _ _ z => z) q)
theorem sims_ret {te : TE} {dx : DX S} (hx : SimE K mg xc R W te dx) : SimS K mg xc R W (tRet te) (dRet dx) where
  mono := fun h z => hx.mono (fun _ _ _ z => h.rt _ _ z) h.ex z
  run := fun G w q => hx.run G (w.ex _) (hx.mono (fun _ _ _ z _ _ _ _ G1 _ a1 => w.rt _ _ _ _ _ _ _ _ G1 a1 z) (fun _ _ _ z => z) q)
theorem sims_retN : SimS K mg xc R W tRetN (dRetN (S := S)) := ⟨fun h z => h.rt _ _ z, fun G w q => w.rt _ _ _ _ _ _ _ _ G .non q⟩
theorem sims_if {tt : TT} {t u : TS} {dt : DT S} {a b : DS S} (ht : SimT K mg xc R W tt dt) (ha : SimS K mg xc R W t a) (hb : SimS K mg xc R W u b) : SimS K mg xc R W (tIfS tt t u) (dIf dt a b) where
  mono := fun h z => ht.mono (fun c _ _ => ite_mono (ha.mono h) (hb.mono h)) h.ex z
  run := fun G w q => ht.run G (w.ex _) (ht.mono (fun c s1 ρ1 z ft1 F1 H1 G1 e1 => by
    cases c
    · exact hb.run G1 w z
    · exact ha.run G1 w z) (fun _ _ _ z => z) q)
theorem has_int {F : Hp} {v : V} {i : Int} (h : Has K mg F v (.int i)) : v = .int i := by cases h; rfl
theorem sims_aug {i : Nat} {f : Int → Int → Int} {te : TE} {dx : DX S} (hx : SimE K mg xc R W te dx) : SimS K mg xc R W (tAug i te (ipI f)) (dAug i f dx) where
  mono := fun h z => dGet_mono (fun x ρ z => hx.mono (fun y s ρ z => by
    split at z
    · exact h.nx _ _ z
    · exact z.elim) h.ex z) z
  run := fun G w q => by
    obtain ⟨v, x, ρ', F', h1, h2, h3, h4, h5⟩ := dGet_run G q
    refine ⟨v, h1, hx.run h4 (w.ex _) (hx.mono (fun y s1 ρ1 z u ft1 F1 H1 G1 e1 a1 => ?_) (fun _ _ _ z => z) h5)⟩
    split at z
    · cases has_int h3
      cases has_int a1
      exact ⟨_, _, rfl, rfl, w.nx _ _ _ _ _ _ (G1.setD i (.int _)) z⟩
    · exact z.elim
theorem ownL_mono {i : Nat} {ρ : En} {k k' : List D → Prop} (h : ∀ xs, k xs → k' xs) (z : ownL i ρ k) : ownL i ρ k' := by
  unfold ownL at z ⊢
  split at z
  · exact h _ z
  · exact z.elim
theorem ownL_at {i : Nat} {ρ : En} {k : List D → Prop} (z : ownL i ρ k) : ∃ xs, ρ[i]? = some (some (.own (.lst xs))) ∧ k xs := by
  unfold ownL at z
  split at z
  · rename_i xs e; exact ⟨xs, e, z⟩
  · exact z.elim
theorem isInt_mono {x : D} {k k' : Int → Prop} (h : ∀ i, k i → k' i) (z : isInt x k) : isInt x k' := by
  cases x <;> first | exact h _ z | exact (show False from z).elim
theorem isL_mono {x : D} {k k' : List D → Prop} (h : ∀ i, k i → k' i) (z : isL x k) : isL x k' := by
  cases x <;> first | exact h _ z | exact (show False from z).elim
theorem isInt_of {F : Hp} {v : V} {x : D} {k : Int → Prop} (h : Has K mg F v x) (z : isInt x k) : ∃ i, v = .int i ∧ k i := by
  cases h <;> first | exact ⟨_, rfl, z⟩ | exact (show False from z).elim
theorem isL_of {F : Hp} {v : V} {x : D} {k : List D → Prop} (h : Has K mg F v x) (z : isL x k) : ∃ a ds xs, v = .ref a ∧ F a = some (.lst xs) ∧ HasL K mg F xs ds ∧ k ds := by
  cases h <;> first | exact ⟨_, _, _, rfl, ‹_›, ‹_›, z⟩ | exact (show False from z).elim
theorem own_there {i : Nat} {r : Addr} {B : Bs} {ft : Addr → Prop} {F H : Hp} {σ : L2.St} {ρ : En} {s : S} {xs : List D} (G : Gd K mg xc R r B ft F H σ ρ s) (e : ρ[i]? = some (some (.own (.lst xs)))) : ∃ p zs, σ[i]? = some (some (.ref p)) ∧ F p = none ∧ H p = some (.lst zs) ∧ HasL K mg F zs xs := by
  obtain ⟨v, g1, p', e', fp, zs, hz, hzs⟩ := G.sl i _ e
  subst e'
  exact ⟨p', zs, g1, fp, hz, hzs⟩
theorem sims_app {i : Nat} {te : TE} {dx : DX S} (hx : SimE K mg xc R W te dx) : SimS K mg xc R W (tDrop (tBM K "list" rAppend (tVar i) (tCons te tNil))) (dApp i dx) where
  mono := fun h z => ownL_mono (fun _ z => hx.mono (fun y s ρ z => ownL_mono (fun xs z => ⟨z.1, h.nx _ _ z.2⟩) z) h.ex z) z
  run := fun {r B ft F H σ ρ s Dn DE} G w q => by
    obtain ⟨xs0, e0, q⟩ := ownL_at q
    obtain ⟨p, zs0, h1, _, h2, _⟩ := own_there G e0
    refine ⟨_, h1, .inl ⟨rfl, _, .inl (.inl h2)⟩, ?_⟩
    refine hx.run G (w.ex _) (hx.mono (fun y s1 ρ1 z u ft1 F1 H1 G1 e1 a1 => ?_) (fun _ _ _ z => z) q)
    obtain ⟨ys, e, hl, z⟩ := ownL_at z
    obtain ⟨p', zs, g1, fp, hz, hzs⟩ := own_there G1 e
    rw [h1] at g1
    cases g1
    refine ⟨_, zs, u, rfl, rfl, hz, by rw [hzs.length, sizeLine_eq]; exact hl, ?_⟩
    exact w.nx _ _ _ _ _ _ (G1.mut (y := .lst (ys ++ [y])) h1 e ⟨zs ++ [u], upd_same, hzs.snoc a1⟩) z
theorem sims_ext {i : Nat} {te : TE} {dx : DX S} (hx : SimE K mg xc R W te dx) : SimS K mg xc R W (tDrop (tBM K "list" rExtend (tVar i) (tCons te tNil))) (dExt i dx) where
  mono := fun h z => ownL_mono (fun _ z => hx.mono (fun y s ρ z => isL_mono (fun ys z => ownL_mono (fun xs z => ⟨z.1, h.nx _ _ z.2⟩) z) z) h.ex z) z
  run := fun {r B ft F H σ ρ s Dn DE} G w q => by
    obtain ⟨xs0, e0, q⟩ := ownL_at q
    obtain ⟨p, zs0, h1, _, h2, _⟩ := own_there G e0
    refine ⟨_, h1, .inl ⟨rfl, _, .inl (.inl h2)⟩, ?_⟩
    refine hx.run G (w.ex _) (hx.mono (fun y s1 ρ1 z u ft1 F1 H1 G1 e1 a1 => ?_) (fun _ _ _ z => z) q)
    obtain ⟨b, ds, ws, rfl, hb, hw, z⟩ := isL_of a1 z
    obtain ⟨ys, e, hl, z⟩ := ownL_at z
    obtain ⟨p', zs, g1, fp, hz, hzs⟩ := own_there G1 e
    rw [h1] at g1
    cases g1
    refine ⟨_, b, zs, ws, rfl, rfl, hz, G1.sub _ _ hb, by rw [hzs.length, hw.length, sizeLine_eq]; exact hl, ?_⟩
    exact w.nx _ _ _ _ _ _ (G1.mut (y := .lst (ys ++ ds)) h1 e ⟨zs ++ ws, upd_same, hzs.append hw⟩) z
theorem sims_put {i : Nat} {tj te : TE} {dj dx : DX S} (hj : SimE K mg xc R W tj dj) (hx : SimE K mg xc R W te dx) : SimS K mg xc R W (tAsg te (gSub (tVar i) tj rSetL)) (dPut i dj dx) where
  mono := fun h z => hx.mono (fun y s ρ z => ownL_mono (fun _ z => hj.mono (fun y s ρ z => isInt_mono (fun k z => ownL_mono (fun xs ⟨j, a, z⟩ => ⟨j, a, h.nx _ _ z⟩) z) z) h.ex z) z) h.ex z
  run := fun {r B ft F H σ ρ s Dn DE} G w q => by
    refine hx.run G (w.ex _) (hx.mono (fun y s1 ρ1 z u ft1 F1 H1 G1 e1 a1 => ?_) (fun _ _ _ z => z) q)
    obtain ⟨xs0, e0, z⟩ := ownL_at z
    obtain ⟨p, zs0, h1, _, h2, _⟩ := own_there G1 e0
    refine ⟨_, h1, ?_⟩
    refine hj.run G1 (w.ex _) (hj.mono (fun yj s2 ρ2 z uj ft2 F2 H2 G2 e2 a2 => ?_) (fun _ _ _ z => z) z)
    obtain ⟨k, rfl, z⟩ := isInt_of a2 z
    obtain ⟨ys, e, j, hl, z⟩ := ownL_at z
    obtain ⟨p', zs, g1, fp, hz, hzs⟩ := own_there G2 e
    rw [h1] at g1
    cases g1
    refine ⟨_, zs, k, j, rfl, rfl, hz, by rw [hzs.length]; exact hl, ?_⟩
    exact w.nx _ _ _ _ _ _ (G2.mut (y := .lst (ys.set j y)) h1 e ⟨zs.set j u, upd_same, hzs.set j (a1.mono e2)⟩) z
/-! targets -/
theorem simg_nm (i : Nat) : SimG (S := S) K mg xc R (gName i) (gNm i) [i] := ⟨fun h z => h _ z, fun G hv q => q _ ⟨List.length_set .., fun j hj => by rw [get_set, if_neg (fun z => hj (by rw [z]; exact List.mem_singleton.mpr rfl))]⟩ (G.setD i hv)⟩
theorem nms_run : ∀ (is : List Nat) {r : Addr} {B : Bs} {ft : Addr → Prop} {F H : Hp} {σ : L2.St} {ρ : En} {s : S} {vs : List V} {ds : List D} {Q : L2.St → Hp → Prop}, Gd K mg xc R r B ft F H σ ρ s → HasL K mg F vs ds → ds.length = is.length →
    (∀ σ', (σ'.length = σ.length ∧ ∀ i, i ∉ is → σ'[i]? = σ[i]?) → Gd K mg xc R r B ft F H σ' (setAll ρ is ds) s → Q σ' H) → gNms is vs σ H Q
  | [], _, _, _, _, _, _, _, _, _, _, _, G, .nil, _, q => ⟨rfl, q _ ⟨rfl, fun _ _ => rfl⟩ G⟩
  | [], _, _, _, _, _, _, _, _, _, _, _, _, .cons _ _, e, _ => nomatch e
  | i :: is, _, _, _, _, _, _, _, _, _, _, _, G, .nil, e, _ => nomatch e
  | i :: is, _, _, _, _, _, _, _, _, _, _, _, G, .cons a t, e, q => ⟨_, _, rfl, nms_run is (G.setD i a) t (by simpa using e) fun σ' hl G' => q σ' ⟨hl.1.trans (List.length_set ..), fun j hj => (hl.2 j fun z => hj (List.mem_cons_of_mem _ z)).trans (by rw [get_set, if_neg (fun z => hj (by rw [z]; exact List.mem_cons_self))])⟩ G'⟩
theorem simg_tp (is : List Nat) {n : Nat} (hn : is.length = n) : SimG (S := S) K mg xc R (gTup K n (gNms is)) (gTp is) is where
  mono := fun {x ρ Q Q'} h z => by
    unfold gTp at z ⊢
    split at z
    · exact ⟨z.1, h _ z.2⟩
    · exact z.elim
  run := fun {r B ft F H σ ρ s v x Q} G hv q => by
    cases hv <;> first | (exact (show False from q).elim) | skip
    rename_i a xs ds hs hd
    obtain ⟨hl, q⟩ : ds.length = is.length ∧ _ := q
    refine ⟨_, xs, rfl, sqT_mono G.sub hs, by rw [hd.length, hl, hn], nms_run is G hd hl fun σ' z G' => q σ' z G'⟩
theorem sims_asgG {te : TE} {g : TG} {dx : DX S} {dg : DG} {is : List Nat} (hx : SimE K mg xc R W te dx) (hg : SimG (S := S) K mg xc R g dg is) : SimS K mg xc R W (tAsg te g) (dAsgG dg dx) where
  mono := fun h z => hx.mono (fun _ _ _ z => hg.mono (fun _ z => h.nx _ _ z) z) h.ex z
  run := fun G w q => hx.run G (w.ex _) (hx.mono (fun _ _ _ z _ _ _ _ G1 _ a1 => hg.run G1 a1 (hg.mono (fun _ z σ' _ G' => w.nx _ _ _ _ _ _ G' z) z)) (fun _ _ _ z => z) q)
theorem loop_mono {tb : TS} {db : DS S} {g : TG} {dg : DG} {is : List Nat} (hb : SimS K mg xc R W tb db) (hg : SimG (S := S) K mg xc R g dg is) : ∀ (ds : List D) {s : S} {ρ : En} {DE DE' : DEnds S}, DE.Le DE' → dLoop dg db ds DE s ρ → dLoop dg db ds DE' s ρ
  | [], _, _, _, _, h, z => h.nx _ _ z
  | x :: xs, s, ρ, DE, DE', h, z => hg.mono (fun ρ z => hb.mono (DE := { DE with nx := dLoop dg db xs DE, ct := dLoop dg db xs DE, bk := DE.nx }) (DE' := { DE' with nx := dLoop dg db xs DE', ct := dLoop dg db xs DE', bk := DE'.nx })
      ⟨fun _ _ z => loop_mono hb hg xs h z, h.rt, h.nx, fun _ _ z => loop_mono hb hg xs h z, h.ex⟩ z) z
theorem drop_cons_of {α : Type} {l : List α} {i : Nat} {x : α} (h : l[i]? = some x) : l.drop i = x :: l.drop (i + 1) := by
  obtain ⟨hl, e⟩ := List.getElem?_eq_some_iff.mp h
  rw [List.drop_eq_getElem_cons hl, e]
theorem sims_for {wi : TI} {g : TG} {tb : TS} {di : DI S} {dg : DG} {is : List Nat} {db : DS S} (hi : SimI K mg xc R W wi di) (hg : SimG (S := S) K mg xc R g dg is) (hb : SimS K mg xc R W tb db) : SimS K mg xc R W (tFor wi g tb) (dFor di dg db) where
  mono := fun h z => hi.mono (fun xs _ _ z => loop_mono hb hg xs h z) h.ex z
  run := fun {r B ft F H σ ρ s Dn DE} G w q => by
    refine hi.run G (w.ex _) (hi.mono (fun ds s1 ρ1 z J ft1 F1 H1 G1 e1 hJ => ?_) (fun _ _ _ z => z) q)
    have w' := w.rebase G1
    refine ⟨fun i m σ' H' => i + m = ds.length ∧ ∃ ft' F' ρ' s', Gd K mg xc R r (bsOf ft1 F1 H1 σ ρ1) ft' F' H' σ' ρ' s' ∧ dLoop dg db (ds.drop i) DE s' ρ', ⟨ds.length, Nat.zero_add _, ft1, F1, ρ1, s1, G1.here, z⟩, ?_⟩
    rintro i m σ' H' ⟨hm, ft', F', ρ', s', G', z⟩
    obtain ⟨j1, j2, j3⟩ := hJ F' H' G'.st.grow G'.sub
    by_cases hlt : i < ds.length
    · obtain ⟨d, hd⟩ : ∃ d, ds[i]? = some d := ⟨_, List.getElem?_eq_getElem hlt⟩
      rw [drop_cons_of hd] at z
      refine .inr ⟨j1 i hlt, fun σ2 H2 => ∃ ft2 F2 ρ2 s2, Gd K mg xc R r (bsOf ft1 F1 H1 σ ρ1) ft2 F2 H2 σ2 ρ2 s2 ∧ dLoop dg db (ds.drop (i + 1)) DE s2 ρ2, fun σ2 H2 ⟨ft2, F2, ρ2, s2, G2, z2⟩ => ⟨m - 1, by omega, by omega, ft2, F2, ρ2, s2, G2, z2⟩, fun x Hy hy => ?_⟩
      obtain ⟨F2, t2, hx⟩ := j3 i x Hy d hd hy
      have G2 := G'.pstep t2
      refine hg.run G2 hx (hg.mono (fun ρ3 z σ3 _ G3 => ?_) z)
      refine hb.run (DE := { DE with nx := dLoop dg db (ds.drop (i + 1)) DE, ct := dLoop dg db (ds.drop (i + 1)) DE, bk := DE.nx }) G3 ⟨fun _ _ _ _ _ _ g z => ⟨_, _, _, _, g, z⟩, w'.rt, w'.nx, fun _ _ _ _ _ _ g z => ⟨_, _, _, _, g, z⟩, w'.ex⟩ z
    · have e : i = ds.length := by omega
      subst e
      rw [List.drop_length] at z
      exact .inl ⟨j2, w'.nx _ _ _ _ _ _ G' z⟩
theorem sims_while {tt : TT} {tb : TS} {dt : DT S} {db : DS S} (ht : SimT K mg xc R W tt dt) (hb : SimS K mg xc R W tb db) : SimS K mg xc R W (tWhile tt tb) (dWhile dt db) where
  mono := fun {s ρ DE DE'} h z => by
    obtain ⟨Wd, h0, hs⟩ := z
    refine ⟨Wd, h0, fun m s ρ hw => ht.mono (fun c s ρ => ite_mono (hb.mono (DE := { DE with nx := fun s ρ => ∃ m', m' < m ∧ Wd m' s ρ, ct := fun s ρ => ∃ m', m' < m ∧ Wd m' s ρ, bk := DE.nx }) (DE' := { DE' with nx := fun s ρ => ∃ m', m' < m ∧ Wd m' s ρ, ct := fun s ρ => ∃ m', m' < m ∧ Wd m' s ρ, bk := DE'.nx }) ⟨fun _ _ z => z, h.rt, h.nx, fun _ _ z => z, h.ex⟩) (h.nx _ _)) h.ex (hs m s ρ hw)⟩
  run := fun {r B ft F H σ ρ s Dn DE} G w q => by
    obtain ⟨Wd, ⟨m0, h0⟩, hs⟩ := q
    refine ⟨fun m σ' H' => ∃ ft' F' ρ' s', Gd K mg xc R r B ft' F' H' σ' ρ' s' ∧ Wd m s' ρ', ⟨m0, ft, F, ρ, s, G, h0⟩, ?_⟩
    rintro m σ' H' ⟨ft', F', ρ', s', G', hw⟩
    refine ht.run G' (w.ex _) (ht.mono (fun c s1 ρ1 z ft1 F1 H1 G1 e1 => ?_) (fun _ _ _ z => z) (hs m s' ρ' hw))
    cases c
    · exact w.nx _ _ _ _ _ _ G1 z
    · rw [if_pos rfl] at z ⊢
      refine ⟨fun σ2 H2 => ∃ m', m' < m ∧ ∃ ft' F' ρ' s', Gd K mg xc R r B ft' F' H2 σ2 ρ' s' ∧ Wd m' s' ρ', fun σ2 H2 ⟨m', hm, z⟩ => ⟨m', hm, z⟩, ?_⟩
      exact hb.run (DE := { DE with nx := fun s ρ => ∃ m', m' < m ∧ Wd m' s ρ, ct := fun s ρ => ∃ m', m' < m ∧ Wd m' s ρ, bk := DE.nx }) G1 ⟨fun _ _ _ _ _ _ g ⟨m', hm, z⟩ => ⟨m', hm, _, _, _, _, g, z⟩, w.rt, w.nx, fun _ _ _ _ _ _ g ⟨m', hm, z⟩ => ⟨m', hm, _, _, _, _, g, z⟩, w.ex⟩ z
/-! comprehensions -/
theorem wipe_len (ρ : En) : ∀ vs : List Nat, (wipeD ρ vs).length = ρ.length
  | [] => rfl
  | v :: vs => by unfold wipeD; rw [List.length_set, wipe_len ρ vs]
theorem Gd.wipe {r : Addr} {B : Bs} {ft : Addr → Prop} {F H : Hp} {σ : L2.St} {ρ : En} {s : S} (G : Gd K mg xc R r B ft F H σ ρ s) : ∀ vs : List Nat, Gd K mg xc R r B ft F H (L2.wipe σ vs) (wipeD ρ vs) s
  | [] => G
  | v :: vs => (Gd.wipe G vs).gone v none
theorem simt_yes : SimT K mg xc R W tYes (dYes (S := S)) := ⟨fun h _ z => h _ _ _ z, fun G _ q => q _ _ _ G (Same.refl _)⟩
theorem turns_mono {tt : TT} {te : TE} {g : TG} {dt : DT S} {de : DX S} {dg : DG} {is vs : List Nat} (hg : SimG (S := S) K mg xc R g dg is) (ht : SimT K mg xc R W tt dt) (he : SimE K mg xc R W te de) {Q Q' : List D → S → En → Prop} (h : ∀ x s ρ, Q x s ρ → Q' x s ρ) :
    ∀ (xs acc : List D) (s : S) (ρ : En), dTurns dg dt de vs Q xs acc s ρ → dTurns dg dt de vs Q' xs acc s ρ
  | [], acc, s, ρ, z => h _ _ _ z
  | x :: xs, acc, s, ρ, z => hg.mono (fun ρ' z => ht.mono (fun b s ρ' => ite_mono (he.mono (fun y s ρ' z => turns_mono hg ht he h xs _ _ _ z) (fun _ _ _ z => z)) (turns_mono hg ht he h xs _ _ _)) (fun _ _ _ z => z) z) z
theorem wipe_get : ∀ (τ : L2.St) (ws : List Nat) (i : Nat), (L2.wipe τ ws)[i]? = if i ∈ ws then (if i < τ.length then some none else none) else τ[i]? := by
  intro τ ws
  induction ws with
  | nil => intro i; simp [L2.wipe]
  | cons w ws ih =>
    intro i
    unfold L2.wipe
    rw [get_set, ih i, L2.wipe_length]
    by_cases hw : w = i
    · subst hw
      simp
    · rw [if_neg hw]
      have : (i ∈ w :: ws) ↔ i ∈ ws := by simp [Ne.symm hw]
      by_cases hi : i ∈ ws
      · rw [if_pos hi, if_pos (this.mpr hi)]
      · rw [if_neg hi, if_neg (fun z => hi (this.mp z))]
theorem wipe_eq {σ σ' : L2.St} {vs : List Nat} (hl : σ'.length = σ.length) (h : ∀ i, i ∉ vs → σ'[i]? = σ[i]?) : L2.wipe σ' vs = L2.wipe σ vs := by
  refine List.ext_getElem? fun i => ?_
  rw [wipe_get, wipe_get, hl]
  by_cases hi : i ∈ vs
  · rw [if_pos hi, if_pos hi]
  · rw [if_neg hi, if_neg hi, h i hi]
theorem wipe_wipe (σ : L2.St) (vs : List Nat) : L2.wipe (L2.wipe σ vs) vs = L2.wipe σ vs := wipe_eq (L2.wipe_length σ vs) fun i hi => by rw [wipe_get, if_neg hi]
theorem wipeD_get : ∀ (τ : En) (ws : List Nat) (i : Nat) (c : C), (wipeD τ ws)[i]? = some (some c) → i ∉ ws ∧ τ[i]? = some (some c)
  | τ, [], i, c, h => ⟨List.not_mem_nil, h⟩
  | τ, w :: ws, i, c, h => by
    unfold wipeD at h
    rw [get_set] at h
    by_cases hw : w = i
    · rw [if_pos hw] at h
      by_cases hl : w < (wipeD τ ws).length
      · rw [if_pos hl] at h; cases h
      · rw [if_neg hl] at h; cases h
    · rw [if_neg hw] at h
      obtain ⟨h1, h2⟩ := wipeD_get τ ws i c h
      exact ⟨fun z => (List.mem_cons.mp z).elim (fun y => hw y.symm) h1, h2⟩
theorem simf_lc {W0 : WX} {wi : TI} {g : TG} {tt : TT} {te : TE} {di : DI S} {dg : DG} {dt : DT S} {de : DX S} {is vs : List Nat} (hi : SimI K mg xc R W wi di) (hg : SimG (S := S) K mg xc R g dg is) (ht : SimT K mg xc R W0 tt dt) (he : SimE K mg xc R W0 te de) (hv : ∀ i ∈ is, i ∈ vs) :
    SimF K mg xc R W (tLc wi g tt te vs) (dLc di dg dt de vs) where
  mono := fun h e z => hi.mono (fun xs s ρ z => ⟨z.1, turns_mono hg ht he (fun acc s ρ => h _ s ρ) _ _ _ _ z.2⟩) e z
  run := fun {r B ft F H σ ρ s EX Q} G w q => by
    refine hi.run G w (hi.mono (fun xs s1 ρ1 z J ft1 F1 H1 G1 e1 hJ Dl hD => ?_) (fun _ _ _ z => z) q)
    obtain ⟨hz, z⟩ := z
    obtain ⟨Qd, hQd⟩ : ∃ Qd : List D → S → En → Prop, Qd = fun acc s' ρ' => ∀ (p : Addr) (ft' : Addr → Prop) (F' H' : Hp), Gd K mg xc R r B ft' F' H' σ ρ' s' → Same F F' → F' p = none → OwnHas K mg F' H' p (.lst acc) → Free B ft' σ ρ' p → Q (.ref p) H' := ⟨_, rfl⟩
    have z : dTurns dg dt de vs Qd xs [] s1 (wipeD ρ1 vs) := by rw [hQd]; exact z
    obtain ⟨G2, fp, fr⟩ := G1.born (.lst []) hD
    refine ⟨fun i m H' => i + m = xs.length ∧ ∃ ft' F' ρ' s' acc zs, Gd K mg xc R r B ft' F' H' (L2.wipe σ vs) ρ' s' ∧ Free B ft' (L2.wipe σ vs) ρ' Dl ∧ F' Dl = none ∧ H' Dl = some (.lst zs) ∧ HasL K mg F' zs acc ∧ acc.length ≤ i ∧ Same F1 F' ∧ (∀ (j : Nat) c, ρ'[j]? = some (some c) → j ∉ vs) ∧ dTurns dg dt de vs Qd (xs.drop i) acc s' ρ',
      ⟨xs.length, Nat.zero_add _, ft1, F1, wipeD ρ1 vs, s1, [], [], G2.wipe vs, ⟨fr.ch, fr.nf, fun i x a b => ?_⟩, fp, upd_same, .nil, Nat.le_refl _, Same.refl _, fun j c e => (wipeD_get _ _ _ _ e).1, z⟩, ?_⟩
    · have := wipeD_get _ _ _ _ b
      rw [wipe_get, if_neg this.1] at a
      exact fr.no i x a this.2
    rintro i m H' ⟨hm, ft', F', ρ', s', acc, zs, G', fr', fp', hl, hzs, hacc, hF, hvs, z⟩
    obtain ⟨j1, j2, j3⟩ := hJ F' H' hF G'.sub
    by_cases hlt : i < xs.length
    · obtain ⟨d, hd⟩ : ∃ d, xs[i]? = some d := ⟨_, List.getElem?_eq_getElem hlt⟩
      rw [drop_cons_of hd] at z
      refine .inr ⟨j1 i hlt, fun H2 => ∃ ft' F' ρ' s' acc zs, Gd K mg xc R r B ft' F' H2 (L2.wipe σ vs) ρ' s' ∧ Free B ft' (L2.wipe σ vs) ρ' Dl ∧ F' Dl = none ∧ H2 Dl = some (.lst zs) ∧ HasL K mg F' zs acc ∧ acc.length ≤ i + 1 ∧ Same F1 F' ∧ (∀ (j : Nat) c, ρ'[j]? = some (some c) → j ∉ vs) ∧ dTurns dg dt de vs Qd (xs.drop (i + 1)) acc s' ρ',
        fun H2 z => ⟨m - 1, by omega, by omega, z⟩, fun x Hy hy => ?_⟩
      obtain ⟨F2, t2, hx⟩ := j3 i x Hy d hd hy
      have G2 := G'.pstep t2
      have hl2 : Hy Dl = some (.lst zs) := t2.keep _ _ hl
      have fp2 : F2 Dl = none := t2.none fp' (nw_no hl fun _ z => nomatch z)
      have nch : ¬ chOf ft' (L2.wipe σ vs) ρ' Dl := fun y => y.elim fr'.nf fun ⟨j, x, a, b⟩ => fr'.no j x a b
      refine hg.run G2.here hx (hg.mono (fun ρ3 z σ3 hσ G3 => ?_) z)
      have hw3 : L2.wipe σ3 vs = L2.wipe σ vs := (wipe_eq hσ.1 fun j hj => hσ.2 j fun y => hj (hv j y)).trans (wipe_wipe σ vs)
      refine ⟨hw3, ?_⟩
      -- what is left behind a turn
      have fin : ∀ {ft5 F5 H5 ρ5 s5 acc' zs'}, Gd K mg xc R r (bsOf ft' F2 Hy (L2.wipe σ vs) ρ') ft5 F5 H5 σ3 ρ5 s5 → ∀ H6, (H6 = H5 ∧ zs' = zs ∨ H6 = upd H5 Dl (.lst zs')) → HasL K mg F5 zs' acc' → acc'.length ≤ i + 1 → dTurns dg dt de vs Qd (xs.drop (i + 1)) acc' s5 (wipeD ρ5 vs) →
          ∃ ft' F' ρ' s' acc zs, Gd K mg xc R r B ft' F' H6 (L2.wipe σ vs) ρ' s' ∧ Free B ft' (L2.wipe σ vs) ρ' Dl ∧ F' Dl = none ∧ H6 Dl = some (.lst zs) ∧ HasL K mg F' zs acc ∧ acc.length ≤ i + 1 ∧ Same F1 F' ∧ (∀ (j : Nat) c, ρ'[j]? = some (some c) → j ∉ vs) ∧ dTurns dg dt de vs Qd (xs.drop (i + 1)) acc s' ρ' := by
        intro ft5 F5 H5 ρ5 s5 acc' zs' G5 H6 h6 ha hle z5
        obtain ⟨a1, a2, a3, a4⟩ := G5.apart (p := Dl) nch hl2 fp2
        have G6 := G2.rebase G5
        have fr6 : Free B ft5 σ3 ρ5 Dl := ⟨fr'.ch, a3, a4⟩
        have frw : Free B ft5 (L2.wipe σ vs) (wipeD ρ5 vs) Dl := ⟨fr'.ch, a3, fun j x a b => by
          have y := wipeD_get _ _ _ _ b
          rw [← hw3, wipe_get, if_neg y.1] at a
          exact a4 j x a y.2⟩
        have sm : Same F1 F5 := (hF.trans t2.grow).trans G5.st.grow
        rcases h6 with ⟨rfl, rfl⟩ | rfl
        · exact ⟨ft5, F5, wipeD ρ5 vs, s5, acc', _, hw3 ▸ G6.wipe vs, frw, a2, a1, ha, hle, sm, fun j c e => (wipeD_get _ _ _ _ e).1, z5⟩
        · exact ⟨ft5, F5, wipeD ρ5 vs, s5, acc', _, hw3 ▸ (G6.poke (.lst zs') a2 fr6).wipe vs, frw, a2, upd_same, ha, hle, sm, fun j c e => (wipeD_get _ _ _ _ e).1, z5⟩
      refine ht.run G3 (EX := fun _ _ _ => False) (fun _ _ _ _ _ _ _ _ _ _ y => y.elim) (ht.mono (fun b s4 ρ4 z ft4 F4 H4 G4 e4 => ?_) (fun _ _ _ z => z) z)
      have e24 : Same F2 F4 := G4.st.grow
      cases b
      · exact fin G4 H4 (.inl ⟨rfl, rfl⟩) (hzs.mono (t2.grow.trans e24)) (by omega) z
      · refine he.run G4 (EX := fun _ _ _ => False) (fun _ _ _ _ _ _ _ _ _ _ y => y.elim) (he.mono (fun y s5 ρ5 z u ft5 F5 H5 G5 e5 a5 => ?_) (fun _ _ _ z => z) z)
        have e25 : Same F2 F5 := G5.st.grow
        obtain ⟨b1, _⟩ := G5.apart (p := Dl) nch hl2 fp2
        refine ⟨zs, b1, by rw [hzs.length, sizeLine_eq]; omega, ?_⟩
        exact fin G5 _ (.inr rfl) ((hzs.mono (t2.grow.trans e25)).snoc a5) (by rw [List.length_append, List.length_singleton]; omega) z
    · have e : i = xs.length := by omega
      subst e
      rw [List.drop_length] at z
      refine .inl ⟨j2, ?_⟩
      have low : ∀ (j : Nat) c, ρ'[j]? = some (some c) → (L2.wipe σ vs)[j]? = σ[j]? := fun j c e => by rw [wipe_get, if_neg (hvs j c e)]
      have G3 : Gd K mg xc R r B ft' F' H' σ ρ' s' := G'.less (by rw [← G'.len, L2.wipe_length]) fun j c e => ⟨e, (low j c e).symm⟩
      rw [hQd] at z
      exact z Dl _ _ _ G3 (e1.trans hF) fp' ⟨zs, hl, hzs⟩ ⟨fr'.ch, fr'.nf, fun j x a b => fr'.no j x ((low j _ b).trans a) b⟩
end
end DL

set_option linter.all false
set_option maxRecDepth 100000
set_option maxHeartbeats 2000000
/-! contracts of defs over data; calls -/
namespace DL
open PySem PySem.Spec PyProof.Rows L2 GR
abbrev DSp (S : Type) := List C → S → (D → S → Prop) → (Exc → S → Prop) → Prop
def MonoSp {S : Type} (sp : DSp S) : Prop := ∀ cs s Q Q' E E', (∀ x s, Q x s → Q' x s) → (∀ e s, E e s → E' e s) → sp cs s Q E → sp cs s Q' E'
/-- arguments by a parameter, what is asked of it, what comes out, what may be raised -/
def dsp {α : Type} (args : α → List C) (pre : α → Prop) (post : α → D → Prop) (exn : α → Exc → Prop) : DSp Unit := fun cs _ Q E => ∃ a, cs = args a ∧ pre a ∧ (∀ x, post a x → Q x ()) ∧ ∀ e, exn a e → E e ()
theorem dsp_mono {α : Type} {args : α → List C} {pre : α → Prop} {post : α → D → Prop} {exn : α → Exc → Prop} : MonoSp (dsp args pre post exn) :=
  fun _ _ _ _ _ _ hq he ⟨a, e, p, q, x⟩ => ⟨a, e, p, fun y z => hq _ _ (q y z), fun y z => he _ _ (x y z)⟩
section
variable (K : PySem.W.Frag) (mg : Str → Option Value)
def lift {S : Type} (R : Reg S) (n : Nat) (sp : DSp S) : Sp := fun vs H Q E => vs.length = n ∧ ∃ r ft F s cs, Same F H ∧ (∀ a, ft a → F a = none) ∧ R.ok ft r F H s ∧ ArL K mg r F vs cs ∧
  sp cs s (fun x s' => ∀ v ft' F' H', CStep ft F H ft' F' H' → R.ok ft' r F' H' s' → Has K mg F' v x → Q v H')
    (fun e s' => ∀ cls d ft' F' H', CStep ft F H ft' F' H' → R.ok ft' r F' H' s' → ExcAt K mg F' cls d e → E cls d H')
/-- a def that may be called: dcs fill up its arguments -/
structure DCal {S : Type} (P : Program) (w : World) (base : Heap) (R : Reg S) (k : Nat) (x : Str) (ps : List Str) (dcs : List C) (sp : DSp S) : Prop where
  mono : MonoSp sp
  ex : ∃ f fd ds dvs, FnG P w K mg base (L2.CX P w) k f fd ps (lift K mg R ps.length sp) ∧ Binds K fd ps ds ∧ Vals dvs ds ∧ (∀ r F, ArL K mg r F dvs dcs) ∧ mg x = some (.ref f) ∧ PySem.W.keepIn K (.ref f) = true
end
theorem ArL.app {K : PySem.W.Frag} {mg : Str → Option Value} {r : Addr} {F : Hp} : ∀ {vs ws : List V} {cs ds : List C}, ArL K mg r F vs cs → ArL K mg r F ws ds → ArL K mg r F (vs ++ ws) (cs ++ ds)
  | _, _, _, _, .nil, h => h
  | _, _, _, _, .cons a b, h => .cons a (ArL.app b h)
theorem PE.imp {X : Cx} {e : Expr} {t t' : TE} (h : PE X e t) (i : ∀ σ H Q, t' σ H Q → t σ H Q) : PE X e t' := ⟨fun pins s σ H Q I q => h.run pins s σ H Q I (i _ _ _ q)⟩
section
variable {X : Cx} {CX : CXT} {k : Nat} {f : Addr} {fd : FuncData} {ps : List Str} {sp : Sp} {dvs : List V} {ds : List Value} {E : L2.St → XK} {x : Str} {p pos : Pos} {e : Expr} {es : List Expr} {t : TA}
theorem run_fnG {pins : List (Addr × Obj)} {σ : L2.St} {H : Hp} {s : Shared} {Q : VK} {us : List Value} {vs : List V} (F : FnG X.prog X.w X.K X.mg X.base CX k f fd ps sp) (hgd : X.A.guards = some []) (hr : Room k X.A) (hb : Binds X.K fd ps ds) (hd : Vals dvs ds) (hx : PassesAt CX X σ (E σ))
    (I : Inv X pins σ H s) (r : Vals vs us) (h : sp (vs ++ dvs) H Q (E σ)) : wpAny (model X.prog X.w) X.A (call (.ref f) us) (EP X pins σ Q) X.xe s := by
  have r2 : Vals (vs ++ dvs) (us ++ ds) := r.append hd
  have hl : (us ++ ds).length = ps.length := by rw [← r2.length]; exact F.many _ _ _ _ h
  refine wpAny_call (codeAny_mono (F.runs X.A X.stack s H ⟨us, []⟩ (us ++ ds) (vs ++ dvs) Q (E σ) hgd hr I.env0 (hb s us I.kIn hl) r2 h) fun r s' hq => ?_)
  cases r with
  | error e => exact hx pins H s e s' I hq
  | ok fl =>
    cases fl with
    | ret u => exact I.after hq
    | next => exact False.elim hq
    | brk => exact False.elim hq
    | cont => exact False.elim hq
theorem pe_callGD {sp' : Sp} (i : ∀ vs H Q E, sp' vs H Q E → sp (vs ++ dvs) H Q E) (F : FnG X.prog X.w X.K X.mg X.base CX k f fd ps sp) (hgd : X.A.guards = some []) (hr : Room k X.A) (hg : Gl X x) (hm : X.mg x = some (.ref f)) (hk : PySem.W.keepIn X.K (.ref f) = true) (hb : Binds X.K fd ps ds) (hd : Vals dvs ds) (hx : ∀ σ, PassesAt CX X σ (E σ))
    (ha : PA X (e :: es) t) (hdb : (x == ("__debug__" : Str)) = false := by decide) (he : starEach (e :: es) X.env = (false, eval e X.env) :: starEach es X.env := by rfl) (hpl : (backTo pos (starEach es X.env)).any (·.1) = false := by rfl) :
    PE X (.Call (.Name x p) (e :: es) [] pos) (tCallS sp' E t) := by
  refine ⟨fun pins s σ H Q I h => ?_⟩
  refine wpAny_Call_Name_kw (ld_glob I hg hm ?_ hdb)
  refine PySem.W.callWith_K (h₀ := X.base) I.ok.mod.kin hk (thn (ha.run pos pins s σ H _ I h) fun us s1 ⟨vs, H1, I1, r, q⟩ => ⟨I1.kIn, ?_⟩) he hpl
  exact run_fnG F hgd hr hb hd (hx σ) I1 r (i _ _ _ _ q)
theorem pe_callGD0 {sp' : Sp} (i : ∀ vs H Q E, sp' vs H Q E → sp (vs ++ dvs) H Q E) (F : FnG X.prog X.w X.K X.mg X.base CX k f fd ps sp) (hgd : X.A.guards = some []) (hr : Room k X.A) (hg : Gl X x) (hm : X.mg x = some (.ref f)) (hk : PySem.W.keepIn X.K (.ref f) = true) (hb : Binds X.K fd ps ds) (hd : Vals dvs ds) (hx : ∀ σ, PassesAt CX X σ (E σ))
    (hdb : (x == ("__debug__" : Str)) = false := by decide) : PE X (.Call (.Name x p) [] [] pos) (tCallS sp' E tNil) := by
  refine ⟨fun pins s σ H Q I h => ?_⟩
  refine wpAny_Call_Name_kw (ld_glob I hg hm ?_ hdb)
  exact PySem.W.callWith_K0 I.kIn hk (run_fnG (us := []) F hgd hr hb hd (hx σ) I .nil (i [] _ _ _ h))
end
/-! ### the reading of a call -/
section
variable {S S' : Type} {K : PySem.W.Frag} {mg : Str → Option Value} {xc : XC} {R : Reg S} {W : WX}
def tCalD (K : PySem.W.Frag) (mg : Str → Option Value) (R : Reg S) (n : Nat) (sp : DSp S) (W : WX) (t : TA) : TE := fun σ H Q => t σ H fun vs H1 => lift K mg R n sp vs H1 Q (WE W σ)
/-- a callee over the same region -/
def dCal (n : Nat) (sp : DSp S) (dcs : List C) (da : DA S) : DX S := fun s ρ Q E => da s ρ (fun cs s1 ρ1 => cs.length = n ∧ sp (cs ++ dcs) s1 (fun x s2 => Q x s2 ρ1) (fun e s2 => E e s2 ρ1)) E
/-- a callee over none -/
def dCalP (n : Nat) (sp : DSp Unit) (dcs : List C) (da : DA S) : DX S := fun s ρ Q E => da s ρ (fun cs s1 ρ1 => cs.length = n ∧ sp (cs ++ dcs) () (fun x _ => Q x s1 ρ1) (fun e _ => E e s1 ρ1)) E
theorem sim_cal {n : Nat} {sp : DSp S} {dcs : List C} {ta : TA} {da : DA S} (hm : MonoSp sp) (ha : SimA K mg xc R W ta da) : SimE K mg xc R W (tCalD K mg R n (fun cs => sp (cs ++ dcs)) W ta) (dCal n sp dcs da) where
  mono := fun h e z => ha.mono (fun cs s ρ z => ⟨z.1, hm _ _ _ _ _ _ (fun _ _ z => h _ _ _ z) (fun _ _ z => e _ _ _ z) z.2⟩) e z
  run := fun {r B ft F H σ ρ s EX Q} G w q => by
    refine ha.run G w (ha.mono (fun cs s1 ρ1 z vs ft1 F1 H1 G1 e1 a1 => ?_) (fun _ _ _ z => z) q)
    refine ⟨by rw [a1.length]; exact z.1, r, ft1, F1, s1, cs, G1.sub, fun a h => (G1.foot a h).1, G1.reg, a1, hm _ _ _ _ _ _ (fun x s2 z v ft' F' H' c rg hv => ?_) (fun e s2 z cls d ft' F' H' c rg hx => ?_) z.2⟩
    · exact z v _ _ _ (G1.step c rg) (e1.trans c.st.grow) hv
    · exact w _ _ _ _ _ _ _ _ (G1.step c rg) hx z
theorem cstep_pure {F H F' H' : Hp} {ft' : Addr → Prop} (c : CStep (fun _ => False) F H ft' F' H') : PStep F H F' H' where
  sub := c.st.sub
  grow := c.st.grow
  fresh := fun a h => (c.st.fresh a h).imp id fun z => z.elim id False.elim
  keep := fun a o h => c.st.keep a o h fun z => z
theorem sim_calP {n : Nat} {sp : DSp Unit} {dcs : List C} {ta : TA} {da : DA S} (hm : MonoSp sp) (ha : SimA K mg xc R W ta da) : SimE K mg xc R W (tCalD K mg nul n (fun cs => sp (cs ++ dcs)) W ta) (dCalP n sp dcs da) where
  mono := fun h e z => ha.mono (fun cs s ρ z => ⟨z.1, hm _ _ _ _ _ _ (fun _ _ z => h _ _ _ z) (fun _ _ z => e _ _ _ z) z.2⟩) e z
  run := fun {r B ft F H σ ρ s EX Q} G w q => by
    refine ha.run G w (ha.mono (fun cs s1 ρ1 z vs ft1 F1 H1 G1 e1 a1 => ?_) (fun _ _ _ z => z) q)
    refine ⟨by rw [a1.length]; exact z.1, r, fun _ => False, F1, (), cs, G1.sub, fun a h => h.elim, fun a h => h, a1, hm _ _ _ _ _ _ (fun x s2 z v ft' F' H' c rg hv => ?_) (fun e s2 z cls d ft' F' H' c rg hx => ?_) z.2⟩
    · exact z v _ _ _ (G1.pstep (cstep_pure c)) (e1.trans c.st.grow) hv
    · exact w _ _ _ _ _ _ _ _ (G1.pstep (cstep_pure c)) hx z
end
section
variable {S S' : Type} {X : Cx} {xc : XC} {R : Reg S} {W : WX} {k j : Nat} {x : Str} {ps : List Str} {dcs : List C} {p pos : Pos} {e : Expr} {es : List Expr} {ta : TA} {da : DA S}
theorem lift_app {K : PySem.W.Frag} {mg : Str → Option Value} {R' : Reg S'} {sp : DSp S'} {n m : Nat} {dvs : List V} (hdc : ∀ r F, ArL K mg r F dvs dcs) (hn : n + dcs.length = m) : ∀ vs H Q E, lift K mg R' n (fun cs => sp (cs ++ dcs)) vs H Q E → lift K mg R' m sp (vs ++ dvs) H Q E := by
  rintro vs H1 Q E ⟨hl, r, ft, F1, s, cs, h1, h2, h3, h4, h5⟩
  refine ⟨?_, r, ft, F1, s, cs ++ dcs, h1, h2, h3, h4.app (hdc _ _), h5⟩
  have := (hdc r F1).length
  rw [List.length_append, hl, this, hn]
theorem pe_calD {R' : Reg S'} {sp : DSp S'} {n : Nat} (c : DCal X.K X.mg X.prog X.w X.base R' k x ps dcs sp) (hgd : X.A.guards = some []) (hr : Room j X.A) (hj : k ≤ j) (tk : Takes X W) (hg : Gl X x) (ha : PA X (e :: es) ta) (hn : n + dcs.length = ps.length)
    (hdb : (x == ("__debug__" : Str)) = false := by decide) (he : starEach (e :: es) X.env = (false, eval e X.env) :: starEach es X.env := by rfl) (hpl : (backTo pos (starEach es X.env)).any (·.1) = false := by rfl) :
    PE X (.Call (.Name x p) (e :: es) [] pos) (tCalD X.K X.mg R' n (fun cs => sp (cs ++ dcs)) W ta) := by
  obtain ⟨f, fd, ds, dvs, F, hb, hd, hdc, hm, hk⟩ := c.ex
  refine pe_callGD (E := WE W) (sp' := lift X.K X.mg R' n (fun cs => sp (cs ++ dcs))) ?_ F hgd (hr.mono hj) hg hm hk hb hd (fun σ => passAt tk σ) ha hdb he hpl
  exact lift_app hdc hn
theorem pe_calD0 {R' : Reg S'} {sp : DSp S'} {n : Nat} (c : DCal X.K X.mg X.prog X.w X.base R' k x ps dcs sp) (hgd : X.A.guards = some []) (hr : Room j X.A) (hj : k ≤ j) (tk : Takes X W) (hg : Gl X x) (hn : n + dcs.length = ps.length)
    (hdb : (x == ("__debug__" : Str)) = false := by decide) : PE X (.Call (.Name x p) [] [] pos) (tCalD X.K X.mg R' n (fun cs => sp (cs ++ dcs)) W tNil) := by
  obtain ⟨f, fd, ds, dvs, F, hb, hd, hdc, hm, hk⟩ := c.ex
  refine pe_callGD0 (E := WE W) (sp' := lift X.K X.mg R' n (fun cs => sp (cs ++ dcs))) ?_ F hgd (hr.mono hj) hg hm hk hb hd (fun σ => passAt tk σ) hdb
  exact lift_app hdc hn
theorem qe_cal {sp : DSp S} (n : Nat) (c : DCal X.K X.mg X.prog X.w X.base R k x ps dcs sp) (hgd : X.A.guards = some []) (hr : Room j X.A) (hj : k ≤ j) (hg : Gl X x) (ha : QA X xc R W (e :: es) ta da) (hn : n + dcs.length = ps.length)
    (hdb : (x == ("__debug__" : Str)) = false := by decide) (he : starEach (e :: es) X.env = (false, eval e X.env) :: starEach es X.env := by rfl) (hpl : (backTo pos (starEach es X.env)).any (·.1) = false := by rfl) :
    QE X xc R W (.Call (.Name x p) (e :: es) [] pos) (tCalD X.K X.mg R n (fun cs => sp (cs ++ dcs)) W ta) (dCal n sp dcs da) := ⟨fun k => pe_calD c hgd hr hj k.tk hg (ha.pa k) hn hdb he hpl, sim_cal c.mono ha.sim⟩
theorem qe_calP {sp : DSp Unit} (n : Nat) (c : DCal X.K X.mg X.prog X.w X.base nul k x ps dcs sp) (hgd : X.A.guards = some []) (hr : Room j X.A) (hj : k ≤ j) (hg : Gl X x) (ha : QA X xc R W (e :: es) ta da) (hn : n + dcs.length = ps.length)
    (hdb : (x == ("__debug__" : Str)) = false := by decide) (he : starEach (e :: es) X.env = (false, eval e X.env) :: starEach es X.env := by rfl) (hpl : (backTo pos (starEach es X.env)).any (·.1) = false := by rfl) :
    QE X xc R W (.Call (.Name x p) (e :: es) [] pos) (tCalD X.K X.mg nul n (fun cs => sp (cs ++ dcs)) W ta) (dCalP n sp dcs da) := ⟨fun k => pe_calD c hgd hr hj k.tk hg (ha.pa k) hn hdb he hpl, sim_calP c.mono ha.sim⟩
theorem qe_calP0 {sp : DSp Unit} (c : DCal X.K X.mg X.prog X.w X.base nul k x ps dcs sp) (hgd : X.A.guards = some []) (hr : Room j X.A) (hj : k ≤ j) (hg : Gl X x) (hn : 0 + dcs.length = ps.length)
    (hdb : (x == ("__debug__" : Str)) = false := by decide) :
    QE X xc R W (.Call (.Name x p) [] [] pos) (tCalD X.K X.mg nul 0 (fun cs => sp (cs ++ dcs)) W tNil) (dCalP 0 sp dcs dNil) := ⟨fun k => pe_calD0 c hgd hr hj k.tk hg hn hdb, sim_calP c.mono sim_nil⟩
end
/-! ### a def by its body -/
section
variable {P : Program} {w : World} {K : PySem.W.Frag} {mg : Str → Option Value} {base : Heap} {Z : CXT} {k : Nat} {f : Addr} {fd : FuncData} {ps : List Str} {sp : Sp} {x qual : Str} {params : Arguments} {bd : List Stmt} {scope : Scope} {dvs : List V} {kws : List (Str × V)} {N : List Str}
theorem fngD (F : FunD K x qual params bd scope dvs kws f fd) (S : FnScope N ps scope) (many : ∀ vs H Q E, sp vs H Q E → vs.length = ps.length)
    (body : ∀ (cdv : Value) (B : Around) (out : List Env) (s : Shared) (G : Hp) (vs : List V) (Q : VK) (E : XK), B.guards = some [] → Room k (B.deeper (envOfC qual scope s.heap.objs.size f cdv)) → sp vs G Q E →
      ∃ t, PSs (cxOf Z P w K mg base N qual scope f cdv B out s G E) bd t ∧ t { nx := fun _ H' => Q .non H', rt := Q } (start N vs) G) : FnG P w K mg base Z (k + 1) f fd ps sp := by
  obtain ⟨oc, od, dV, kV, doc, pm, an, cdv, ct, osl, rfl, lk, hcd, _, _⟩ := F.ex
  refine ⟨many, fun B out st0 G as us vs Q E hgd hroom env hbd rvs hs => ?_⟩
  have inK : K.In st0.heap := env.mod.kin.keeps fun b o z => (env.bs b o z).1
  have nolim : st0.heap.NoLimit := env.mod.nolimit.keeps fun b o z => (env.bs b o z).1
  refine codeAny_call_function hroom.depth (inK _ _ lk) rfl S.co S.gen rfl (PySem.W.codeRec_of inK hcd) (hbd _ _ _ _ (wpAny_newFunctionEnv_cells S.kind (par_kinds S us _) fun e he s1 made => ?_))
  subst he
  refine ⟨nolim.keeps made.toInCall.keep, codeAny_func ?_⟩
  obtain ⟨t, ht, hend⟩ := body cdv B out st0 G vs Q E hgd (hroom.deeper _) hs
  refine wpAny_mono (ht.run [] s1 (start N vs) G _ (inv_start S hroom.hd env (many _ _ _ _ hs) rvs made) hend) (fun fl s' hfl => ?_) fun _ _ hx => hx
  cases fl with
  | brk => exact (show False from let ⟨_, _, _, q⟩ := hfl; q).elim
  | cont => exact (show False from let ⟨_, _, _, q⟩ := hfl; q).elim
  | next => exact let ⟨_, _, J, q⟩ := hfl; ce_of (v := .non) (u := .none) J rfl q
  | ret u => exact let ⟨_, _, _, J, rv, q⟩ := hfl; ce_of J rv q
theorem argsCs {r : Addr} {F : Hp} {xc : XC} {H : Hp} : ∀ {vs : List V} {cs : List C}, ArL K mg r F vs cs → ∀ (i : Nat) c, (cs.map some)[i]? = some (some c) → ∃ v, (vs.map some)[i]? = some (some v) ∧ Sl K mg xc r F H v c ∧ ∀ y, c ≠ .own y
  | _, _, .nil, i, c, h => by simp at h
  | _, _, .cons (a := v) (b := c') a t, 0, c, h => by
    have e : c' = c := by simpa using h
    subst e
    refine ⟨v, rfl, ?_, ?_⟩
    · cases c' <;> first | exact a | exact (show False from a).elim
    · intro y z; subst z; exact (show False from a).elim
  | _, _, .cons a t, i + 1, c, h => by
    obtain ⟨v, h1, h2⟩ := argsCs t i c (by simpa using h)
    exact ⟨v, by simpa using h1, h2⟩
theorem ddef {S : Type} {R : Reg S} {sp : DSp S} {ds : DS S} (F : FunD K x qual params bd scope dvs kws f fd) (Sc : FnScope N ps scope)
    (hb : ∀ (cdv : Value) (A : Around) (outer : List Env) (s : Shared) (H : Hp) (E : XK), Room k (A.deeper (envOfC qual scope s.heap.objs.size f cdv)) → (A.deeper (envOfC qual scope s.heap.objs.size f cdv)).guards = some [] →
      ∃ ts, QSs (cxOf (L2.CX P w) P w K mg base N qual scope f cdv A outer s H E) none R (fun cls d _ H => E cls d H) bd ts ds)
    (hs : ∀ cs s Q E, sp cs s Q E → cs.length = ps.length → ds ⟨fun s _ => Q .non s, Q, fun _ _ => False, fun _ _ => False, fun e s _ => E e s⟩ s (cs.map some ++ List.replicate (N.length - cs.length) none)) :
    FnG P w K mg base (L2.CX P w) (k + 1) f fd ps (lift K mg R ps.length sp) := by
  refine fngD F Sc (fun vs H Q E h => h.1) fun cdv B out s H vs Q E hgd hr h => ?_
  obtain ⟨hl, r, ft, F0, s0, cs, h1, h2, h3, h4, h5⟩ := h
  obtain ⟨ts, hts⟩ := hb cdv B out s H E hr hgd
  have hlc : cs.length = ps.length := by rw [← h4.length]; exact hl
  have hlv : vs.length = cs.length := h4.length
  refine ⟨ts, hts.ps ⟨takes_of rfl rfl rfl rfl, passes_of rfl⟩, hts.sim.run (r := r) (B := ⟨ft, F0, H⟩) (ft := ft) (F := F0) (ρ := cs.map some ++ List.replicate (N.length - cs.length) none) (s := s0) ?_ ?_ (hs cs s0 _ _ h5 hlc)⟩
  · have at_ : ∀ (i : Nat) c, (cs.map some ++ List.replicate (N.length - cs.length) none)[i]? = some (some c) → (cs.map some)[i]? = some (some c) := fun i c e => by
      by_cases hi : i < cs.length
      · rw [List.getElem?_append_left (by simpa using hi)] at e; exact e
      · rw [List.getElem?_append_right (by simpa using hi), List.getElem?_replicate] at e
        split at e <;> cases e
    refine { st := Step.refl h1, foot := fun a z => ⟨h2 a z, .inl z⟩, reg := h3, len := ?_, sl := fun i c e => ?_, own := fun i p y e1 e2 => ?_, dist := fun i j p y z e1 e2 e3 e4 => ?_ }
    · unfold L2.start; rw [List.length_append, List.length_append, List.length_map, List.length_map, List.length_replicate, List.length_replicate, hlv]
    · obtain ⟨v, e1, e2, _⟩ := argsCs (xc := none) (H := H) h4 i c (at_ i c e)
      refine ⟨v, ?_, e2⟩
      unfold L2.start
      have hi : i < (vs.map some).length := (List.getElem?_eq_some_iff.mp e1).1
      rw [List.getElem?_append_left hi]; exact e1
    · obtain ⟨v, _, _, e3⟩ := argsCs (xc := none) (H := H) h4 i _ (at_ i _ e2)
      exact absurd rfl (e3 y)
    · obtain ⟨v, _, _, e5⟩ := argsCs (xc := none) (H := H) h4 i _ (at_ i _ e2)
      exact absurd rfl (e5 y)
  · have cs' : ∀ {ft' F' H' σ' ρ' s'}, Gd K mg none R r ⟨ft, F0, H⟩ ft' F' H' σ' ρ' s' → CStep ft F0 H ft' F' H' := fun G => ⟨G.st, fun a z => G.foot a z⟩
    exact ⟨fun ft' F' H' σ' ρ' s' G z => z .non _ _ _ (cs' G) G.reg .non, fun ft' F' H' σ' ρ' s' v x' G hv z => z v _ _ _ (cs' G) G.reg hv, fun _ _ _ _ _ _ _ z => z, fun _ _ _ _ _ _ _ z => z,
      fun σ' ft' F' H' ρ' s' cls d e G hx z => z cls d _ _ _ (cs' G) G.reg hx⟩
end
end DL

set_option linter.all false
set_option maxRecDepth 100000
set_option maxHeartbeats 2000000
/-! data as the library's data; operands -/
namespace DL
open PySem PySem.Spec PyProof.Rows L2 GR
mutual
def D.py : D → PyData
  | .non => .none | .bl b => .bool b | .int i => .int i | .str x => .str x | .lst xs => .list (D.pyL xs) | .tup xs => .tuple (D.pyL xs) | .dct _ _ => .none | .obj _ _ _ => .none | .hdl _ => .none | .tpd xs => .tuple (D.pyL xs) | .dtt _ _ => .none
def D.pyL : List D → List PyData
  | [] => []
  | x :: xs => D.py x :: D.pyL xs
end
mutual
/-- no dict, no instance, no deeper than so -/
def D.fit : Nat → D → Bool
  | _, .non => true | _, .bl _ => true | _, .int _ => true | _, .str _ => true
  | n + 1, .lst xs => D.fitL n xs | n + 1, .tup xs => D.fitL n xs
  | 0, .lst _ => false | 0, .tup _ => false | n + 1, .tpd xs => D.fitL n xs | 0, .tpd _ => false | _, .dct _ _ => false | _, .obj _ _ _ => false | _, .hdl _ => false | _, .dtt _ _ => false
def D.fitL : Nat → List D → Bool
  | _, [] => true
  | n, x :: xs => D.fit n x && D.fitL n xs
end
def D.eqv (x y : D) : Bool := PyData.eqv x.py y.py
theorem pyL_map : ∀ xs : List D, D.pyL xs = xs.map D.py
  | [] => rfl
  | x :: xs => by rw [D.pyL, pyL_map xs]; rfl
theorem fitL_iff {n : Nat} : ∀ {xs : List D}, D.fitL n xs = true ↔ ∀ x ∈ xs, D.fit n x = true
  | [] => by simp [D.fitL]
  | x :: xs => by rw [D.fitL, Bool.and_eq_true, fitL_iff]; simp
mutual
theorem fit_mono : ∀ {n m : Nat} {x : D}, n ≤ m → D.fit n x = true → D.fit m x = true
  | _, _, .non, _, _ => by rw [D.fit]
  | _, _, .bl _, _, _ => by rw [D.fit]
  | _, _, .int _, _, _ => by rw [D.fit]
  | _, _, .str _, _, _ => by rw [D.fit]
  | n + 1, m + 1, .lst xs, h, z => by rw [D.fit] at z ⊢; exact fitL_mono (Nat.le_of_succ_le_succ h) z
  | n + 1, m + 1, .tup xs, h, z => by rw [D.fit] at z ⊢; exact fitL_mono (Nat.le_of_succ_le_succ h) z
  | 0, _, .lst _, _, z => by rw [D.fit] at z; cases z
  | 0, _, .tup _, _, z => by rw [D.fit] at z; cases z
  | n + 1, m + 1, .tpd xs, h, z => by rw [D.fit] at z ⊢; exact fitL_mono (Nat.le_of_succ_le_succ h) z
  | 0, _, .tpd _, _, z => by rw [D.fit] at z; cases z
  | n, _, .dct _ _, _, z => by cases n <;> (rw [D.fit] at z; cases z)
  | n, _, .obj _ _ _, _, z => by cases n <;> (rw [D.fit] at z; cases z)
  | n, _, .hdl _, _, z => by cases n <;> (rw [D.fit] at z; cases z)
  | n, _, .dtt _ _, _, z => by cases n <;> (rw [D.fit] at z; cases z)
theorem fitL_mono : ∀ {n m : Nat} {xs : List D}, n ≤ m → D.fitL n xs = true → D.fitL m xs = true
  | _, _, [], _, _ => by rw [D.fitL]
  | n, m, x :: xs, h, z => by
    rw [D.fitL, Bool.and_eq_true] at z ⊢
    exact ⟨fit_mono h z.1, fitL_mono h z.2⟩
end
section
variable {K : PySem.W.Frag} {mg : Str → Option Value} {F H : Hp}
mutual
theorem has_dp (e : Same F H) : ∀ {n : Nat} {d : D} {v : V}, Has K mg F v d → D.fit n d = true → Dp K H v d.py
  | _, .non, _, .non, _ => by rw [D.py]; exact .non
  | _, .bl _, _, .bl b, _ => by rw [D.py]; exact .bl b
  | _, .int _, _, .int i, _ => by rw [D.py]; exact .int i
  | _, .str _, _, .str x _, _ => by rw [D.py]; exact .str x
  | n, .lst _, _, .lst h hs, z => by
    cases n with
    | zero => rw [D.fit] at z; cases z
    | succ n => rw [D.fit] at z; rw [D.py]; exact .lst (.inl (.inl (e _ _ h))) (has_dpL e hs z)
  | n, .tup _, _, .tup h hs, z => by
    cases n with
    | zero => rw [D.fit] at z; cases z
    | succ n => rw [D.fit] at z; rw [D.py]; exact .tup (sqT_mono e h) (has_dpL e hs z)
  | n, .tpd _, _, .tpd h hs, z => by
    cases n with
    | zero => rw [D.fit] at z; cases z
    | succ n => rw [D.fit] at z; rw [D.py]; exact .tup (.inl (.inl (e _ _ h))) (has_dpL e hs z)
  | n, .dct _ _, _, _, z => by cases n <;> (rw [D.fit] at z; cases z)
  | n, .obj _ _ _, _, _, z => by cases n <;> (rw [D.fit] at z; cases z)
  | n, .hdl _, _, _, z => by cases n <;> (rw [D.fit] at z; cases z)
  | n, .dtt _ _, _, _, z => by cases n <;> (rw [D.fit] at z; cases z)
theorem has_dpL (e : Same F H) : ∀ {n : Nat} {ds : List D} {vs : List V}, HasL K mg F vs ds → D.fitL n ds = true → DpAll K H vs (D.pyL ds)
  | _, [], _, .nil, _ => by rw [D.pyL]; exact .nil
  | n, d :: ds, _, .cons h hs, z => by
    rw [D.fitL, Bool.and_eq_true] at z
    rw [D.pyL]
    exact .cons (has_dp e h z.1) (has_dpL e hs z.2)
end
mutual
theorem has_lay : ∀ {n : Nat} {d : D} {v : V}, Has K mg F v d → D.fit n d = true → d.py.canLay0 = true ∧ d.py.depth ≤ n
  | _, .non, _, .non, _ => by rw [D.py]; exact ⟨rfl, Nat.zero_le _⟩
  | _, .bl _, _, .bl b, _ => by rw [D.py]; exact ⟨rfl, Nat.zero_le _⟩
  | _, .int _, _, .int i, _ => by rw [D.py]; exact ⟨rfl, Nat.zero_le _⟩
  | _, .str _, _, .str x o, _ => by rw [D.py]; exact ⟨o.1, Nat.zero_le _⟩
  | n, .lst _, _, .lst h hs, z => by
    cases n with
    | zero => rw [D.fit] at z; cases z
    | succ n =>
      rw [D.fit] at z; rw [D.py, PyData.canLay0, PyData.depth]
      obtain ⟨a, b⟩ := has_layL hs z
      exact ⟨a, Nat.succ_le_succ b⟩
  | n, .tup _, _, .tup h hs, z => by
    cases n with
    | zero => rw [D.fit] at z; cases z
    | succ n =>
      rw [D.fit] at z; rw [D.py, PyData.canLay0, PyData.depth]
      obtain ⟨a, b⟩ := has_layL hs z
      exact ⟨a, Nat.succ_le_succ b⟩
  | n, .tpd _, _, .tpd h hs, z => by
    cases n with
    | zero => rw [D.fit] at z; cases z
    | succ n =>
      rw [D.fit] at z; rw [D.py, PyData.canLay0, PyData.depth]
      obtain ⟨a, b⟩ := has_layL hs z
      exact ⟨a, Nat.succ_le_succ b⟩
  | n, .dct _ _, _, _, z => by cases n <;> (rw [D.fit] at z; cases z)
  | n, .obj _ _ _, _, _, z => by cases n <;> (rw [D.fit] at z; cases z)
  | n, .hdl _, _, _, z => by cases n <;> (rw [D.fit] at z; cases z)
  | n, .dtt _ _, _, _, z => by cases n <;> (rw [D.fit] at z; cases z)
theorem has_layL : ∀ {n : Nat} {ds : List D} {vs : List V}, HasL K mg F vs ds → D.fitL n ds = true → PyData.canLayAll0 (D.pyL ds) = true ∧ PyData.depthAll (D.pyL ds) ≤ n
  | _, [], _, .nil, _ => by rw [D.pyL]; exact ⟨rfl, Nat.zero_le _⟩
  | n, d :: ds, _, .cons h hs, z => by
    rw [D.fitL, Bool.and_eq_true] at z
    rw [D.pyL, PyData.canLayAll0, PyData.depthAll]
    obtain ⟨a, b⟩ := has_lay h z.1
    obtain ⟨c, d⟩ := has_layL hs z.2
    exact ⟨by rw [a, c]; rfl, Nat.max_le.mpr ⟨b, d⟩⟩
end
theorem has_shaped {v : V} {d : D} (h : Has K mg F v d) (z : D.fit 64 d = true) : SeqAt.shaped d.py = true := by
  obtain ⟨a, b⟩ := has_lay h z
  unfold SeqAt.shaped
  rw [a, decide_eq_true b]
  rfl
end
/-! ### operands: a value, or a slot that is only looked at -/
inductive Rd where
  | val (x : D) | slot (i : Nat) | cel (a : Addr)
/-- what a region's state tells of an address -/
class Pk (S : Type) where
  pk : S → Addr → Option D
instance : Pk Unit := ⟨fun _ _ => none⟩
def peek (i : Nat) (ρ : En) (k : D → Prop) : Prop := match ρ[i]? with
  | some (some (.d x)) => k x
  | some (some (.own x)) => k x
  | _ => False
def rdv {S : Type} [Pk S] (s : S) (ρ : En) (k : D → Prop) : Rd → Prop
  | .val x => k x
  | .slot i => peek i ρ k
  | .cel a => ∃ x, Pk.pk s a = some x ∧ k x
abbrev DOp (S : Type) := S → En → (Rd → S → En → Prop) → EK S → Prop
def dOV {S : Type} (dx : DX S) : DOp S := fun s ρ Q E => dx s ρ (fun x s ρ => Q (.val x) s ρ) E
def dOS {S : Type} (i : Nat) : DOp S := fun s ρ Q _ => peek i ρ (fun _ => True) ∧ Q (.slot i) s ρ
theorem peek_mono {i : Nat} {ρ : En} {k k' : D → Prop} (h : ∀ x, k x → k' x) (z : peek i ρ k) : peek i ρ k' := by
  unfold peek at z ⊢
  split at z
  · exact h _ z
  · exact h _ z
  · exact z.elim
theorem rdv_mono {S : Type} [Pk S] {s : S} {ρ : En} {k k' : D → Prop} (h : ∀ x, k x → k' x) {r : Rd} (z : rdv s ρ k r) : rdv s ρ k' r := by
  cases r with
  | val x => exact h _ z
  | slot i => exact peek_mono h z
  | cel a => obtain ⟨x, e, z⟩ := z; exact ⟨x, e, h _ z⟩
/-- settled, or somebody's own -/
def Hs (K : PySem.W.Frag) (mg : Str → Option Value) (F H : Hp) (v : V) (x : D) : Prop := Has K mg F v x ∨ ∃ p, v = .ref p ∧ F p = none ∧ OwnHas K mg F H p x
/-- what the state tells is so -/
class RegS {S : Type} [Pk S] (K : PySem.W.Frag) (mg : Str → Option Value) (R : Reg S) : Prop where
  at_ : ∀ {ft : Addr → Prop} {r : Addr} {F H : Hp} {s : S} {a : Addr} {x : D}, R.ok ft r F H s → (∀ b, ft b → F b = none) → Pk.pk s a = some x → F a = none ∧ OwnHas K mg F H a x
instance {K : PySem.W.Frag} {mg : Str → Option Value} {R : Reg Unit} : RegS K mg R := ⟨fun _ _ h => nomatch h⟩
instance {X : Cx} {s : Shared} {H : Hp} {scope : Scope} {env : Env} {fp : List Addr} {S : Type} [Pk S] {R : Reg S} [h : RegS X.K X.mg R] : RegS (X.blk s H scope env fp).K (X.blk s H scope env fp).mg R := h
def RdAt (K : PySem.W.Frag) (mg : Str → Option Value) (F : Hp) (σ : L2.St) (v : V) : Rd → Prop
  | .val x => Has K mg F v x
  | .slot i => σ[i]? = some (some v)
  | .cel a => v = .ref a
section
variable {S : Type} [Pk S] {K : PySem.W.Frag} {mg : Str → Option Value} {xc : XC} {R : Reg S} [RegS K mg R] {W : WX}
theorem RdAt.mono {F F' : Hp} {σ : L2.St} {v : V} {r : Rd} (e : Same F F') (h : RdAt K mg F σ v r) : RdAt K mg F' σ v r := by
  cases r with
  | val x => exact Has.mono e h
  | slot i => exact h
  | cel a => exact h
theorem rd_res {r : Addr} {B : Bs} {ft : Addr → Prop} {F H : Hp} {σ : L2.St} {ρ : En} {s : S} {v : V} {rd : Rd} {k : D → Prop} (G : Gd K mg xc R r B ft F H σ ρ s) (h : RdAt K mg F σ v rd) (z : rdv s ρ k rd) : ∃ x, Hs K mg F H v x ∧ k x := by
  cases rd with
  | cel a =>
    obtain ⟨x, e, z⟩ := z
    obtain ⟨h1, h2⟩ := RegS.at_ (K := K) (mg := mg) G.reg (fun b hb => (G.foot b hb).1) e
    exact ⟨x, .inr ⟨a, h, h1, h2⟩, z⟩
  | val x => exact ⟨x, .inl h, z⟩
  | slot i =>
    have z : peek i ρ k := z
    have h : σ[i]? = some (some v) := h
    unfold peek at z
    split at z
    · rename_i x e
      obtain ⟨w, h1, h2⟩ := G.sl i _ e
      rw [h] at h1; cases h1
      exact ⟨x, .inl h2, z⟩
    · rename_i x e
      obtain ⟨w, h1, p, e1, e2, e3⟩ := G.sl i _ e
      rw [h] at h1; cases h1
      exact ⟨x, .inr ⟨p, e1, e2, e3⟩, z⟩
    · exact z.elim
variable (K mg xc R W)
structure SimO (te : TE) (dx : DOp S) : Prop where
  mono : ∀ {s ρ Q Q' E E'}, (∀ x s ρ, Q x s ρ → Q' x s ρ) → (∀ e s ρ, E e s ρ → E' e s ρ) → dx s ρ Q E → dx s ρ Q' E'
  run : ∀ {r B ft F H σ ρ s EX} {Q : VK}, Gd K mg xc R r B ft F H σ ρ s → WOk K mg xc R W r B σ EX →
    dx s ρ (fun x s' ρ' => ∀ v ft' F' H', Gd K mg xc R r B ft' F' H' σ ρ' s' → Same F F' → RdAt K mg F' σ v x → Q v H') EX → te σ H Q
end
section
variable {S : Type} [Pk S] {K : PySem.W.Frag} {mg : Str → Option Value} {xc : XC} {R : Reg S} [RegS K mg R] {W : WX}
theorem simo_val {te : TE} {dx : DX S} (h : SimE K mg xc R W te dx) : SimO K mg xc R W te (dOV dx) where
  mono := fun hq e z => h.mono (fun _ _ _ z => hq _ _ _ z) e z
  run := fun G w q => h.run G w (h.mono (fun x s1 ρ1 z v ft1 F1 H1 G1 e1 a1 => z v _ _ _ G1 e1 a1) (fun _ _ _ z => z) q)
theorem simo_slot (i : Nat) : SimO K mg xc R W (tVar i) (dOS (S := S) i) where
  mono := fun hq _ z => ⟨z.1, hq _ _ _ z.2⟩
  run := fun {r B ft F H σ ρ s EX Q} G w q => by
    obtain ⟨q1, q2⟩ := q
    have : ∃ v, σ[i]? = some (some v) := by
      unfold peek at q1
      split at q1
      · rename_i x e; obtain ⟨v, h, _⟩ := G.sl i _ e; exact ⟨v, h⟩
      · rename_i x e; obtain ⟨v, h, _⟩ := G.sl i _ e; exact ⟨v, h⟩
      · exact q1.elim
    obtain ⟨v, h⟩ := this
    exact ⟨v, h, q2 v _ _ _ G (Same.refl _) h⟩
end
/-! binary operators over operands -/
section
variable (K : PySem.W.Frag) (mg : Str → Option Value)
/-- what an operator makes of two operands -/
structure SimH (r : R2) (f : DO2) : Prop where
  mono : ∀ {x y Q Q'}, (∀ z, Q z → Q' z) → f x y Q → f x y Q'
  run : ∀ {F H x y dx dy} {Q : VK}, Same F H → Hs K mg F H x dx → Hs K mg F H y dy → f dx dy (fun z => ∀ v F' H', PStep F H F' H' → Has K mg F' v z → Q v H') → r x y H Q
structure SimH1 (r : V → Hp → VK → Prop) (f : DO1) : Prop where
  mono : ∀ {x Q Q'}, (∀ z, Q z → Q' z) → f x Q → f x Q'
  run : ∀ {F H x dx} {Q : VK}, Same F H → Hs K mg F H x dx → f dx (fun z => ∀ v F' H', PStep F H F' H' → Has K mg F' v z → Q v H') → r x H Q
end
section
variable {S : Type} [Pk S] {K : PySem.W.Frag} {mg : Str → Option Value} {xc : XC} {R : Reg S} [RegS K mg R] {W : WX}
def dOpO (f : DO2) (da db : DOp S) : DX S := fun s ρ Q E => da s ρ (fun ra s1 ρ1 => db s1 ρ1 (fun rb s2 ρ2 => rdv s2 ρ2 (fun x => rdv s2 ρ2 (fun y => f x y fun z => Q z s2 ρ2) rb) ra) E) E
theorem sim_opO {r : R2} {f : DO2} {ta tb : TE} {da db : DOp S} (hr : SimH K mg r f) (ha : SimO K mg xc R W ta da) (hb : SimO K mg xc R W tb db) : SimE K mg xc R W (tOp r ta tb) (dOpO f da db) where
  mono := fun h e z => ha.mono (fun x s ρ z => hb.mono (fun y s ρ z => rdv_mono (fun x z => rdv_mono (fun y z => hr.mono (fun u z => h u _ _ z) z) z) z) e z) e z
  run := fun {r' B ft F H σ ρ s EX Q} G w q => by
    refine ha.run G w (ha.mono (fun x s1 ρ1 z v ft1 F1 H1 G1 e1 a1 => ?_) (fun _ _ _ z => z) q)
    refine hb.run G1 w (hb.mono (fun y s2 ρ2 z u ft2 F2 H2 G2 e2 a2 => ?_) (fun _ _ _ z => z) z)
    obtain ⟨dx, h1, z⟩ := rd_res G2 (a1.mono e2) z
    obtain ⟨dy, h2, z⟩ := rd_res G2 a2 z
    refine hr.run G2.sub h1 h2 (hr.mono (fun o z v' F' H' t hv => ?_) z)
    exact z v' _ F' H' (G2.pstep t) ((e1.trans e2).trans t.grow) hv
def dUnO (f : DO1) (da : DOp S) : DX S := fun s ρ Q E => da s ρ (fun ra s1 ρ1 => rdv s1 ρ1 (fun x => f x fun z => Q z s1 ρ1) ra) E
theorem sim_unO {r : V → Hp → VK → Prop} {f : DO1} {ta : TE} {da : DOp S} (hr : SimH1 K mg r f) (ha : SimO K mg xc R W ta da) : SimE K mg xc R W (fun σ H Q => ta σ H fun x H1 => r x H1 Q) (dUnO f da) where
  mono := fun h e z => ha.mono (fun x s ρ z => rdv_mono (fun x z => hr.mono (fun u z => h u _ _ z) z) z) e z
  run := fun {r' B ft F H σ ρ s EX Q} G w q => by
    refine ha.run G w (ha.mono (fun x s1 ρ1 z v ft1 F1 H1 G1 e1 a1 => ?_) (fun _ _ _ z => z) q)
    obtain ⟨dx, h1, z⟩ := rd_res G1 a1 z
    refine hr.run G1.sub h1 (hr.mono (fun o z v' F' H' t hv => ?_) z)
    exact z v' _ F' H' (G1.pstep t) (e1.trans t.grow) hv
/-- an atom: it leans on nothing -/
def D.atom : D → Bool
  | .non | .bl _ | .int _ | .str _ => true
  | _ => false
theorem atom_has {F F' : Hp} {v : V} {z : D} (h : Has K mg F v z) (a : z.atom = true) : Has K mg F' v z := by
  cases h <;> first | exact .non | exact .bl _ | exact .int _ | exact .str _ ‹_› | exact absurd a (by decide) | (exact Bool.noConfusion a)
/-- both operands settled for a while -/
theorem hs_settle {F H : Hp} {v : V} {x : D} (e : Same F H) (h : Hs K mg F H v x) : ∃ F1, Same F F1 ∧ Same F1 H ∧ Has K mg F1 v x ∧ ∀ {w : V} {y : D}, Hs K mg F H w y → Hs K mg F1 H w y := by
  rcases h with h | ⟨p, rfl, hp, ho⟩
  · exact ⟨F, Same.refl F, e, h, fun z => z⟩
  · obtain ⟨o, e1, e2⟩ := ho.settle hp
    have g : Same F (upd F p o) := fun b u e => (upd_ne (ne_of_none e hp)).trans e
    refine ⟨upd F p o, g, fun b u z => ?_, e2, fun {w y} z => ?_⟩
    · by_cases hb : b = p
      · subst hb; rw [upd_same] at z; cases z; exact e1
      · rw [upd_ne hb] at z; exact e b u z
    · rcases z with z | ⟨q, rfl, hq, hw⟩
      · exact .inl (Has.mono g z)
      · by_cases hqp : q = p
        · subst hqp
          -- the same object
          left
          cases y <;> first | exact hw.elim | skip
          · obtain ⟨xs, a, b⟩ := hw
            rw [e1] at a; cases a
            exact .lst upd_same (b.mono g)
          · obtain ⟨xs, a, b, c⟩ := hw
            rw [e1] at a; cases a
            exact .dct upd_same b (c.mono g)
          · obtain ⟨xs, a, b, c⟩ := hw
            rw [e1] at a; cases a
            exact .dtt upd_same b (c.mono g)
        · exact .inr ⟨q, rfl, (upd_ne hqp).trans hq, hw.mono g fun _ z => z⟩
/-- an operator whose answer is an atom and which changes nothing -/
theorem simh_atom {r : R2} {f : DO2} {g : D → D → D → Prop} (hf : ∀ x y Q, f x y Q → ∃ z, z.atom = true ∧ g x y z ∧ Q z) (mono : ∀ {x y : D} {Q Q' : D → Prop}, (∀ z, Q z → Q' z) → f x y Q → f x y Q')
    (hr : ∀ {F H x y dx dy dz} {Q : VK}, Same F H → Has K mg F x dx → Has K mg F y dy → g dx dy dz → (∀ v, Has K mg F v dz → Q v H) → r x y H Q) : SimH K mg r f where
  mono := mono
  run := fun {F H x y dx dy Q} e hx hy q => by
    obtain ⟨z, ha, hg, hq⟩ := hf _ _ _ q
    obtain ⟨F1, s1, e1, h1, up⟩ := hs_settle e hx
    obtain ⟨F2, s2, e2, h2, up2⟩ := hs_settle e1 (up hy)
    refine hr e2 (Has.mono s2 h1) h2 hg fun v hv => hq v F H ⟨e, Same.refl F, fun _ z => .inl z, Same.refl H⟩ (atom_has hv ha)
end
end DL

set_option linter.all false
set_option maxRecDepth 100000
set_option maxHeartbeats 2000000
/-! operators over data -/
namespace DL
open PySem PySem.Spec PyProof.Rows L2 GR N01
def AllC (p : Nat → Bool) (t : Str) : Prop := ∀ c ∈ t.cps.toList, p c = true
theorem allc_app {p : Nat → Bool} {a b : Str} (ha : AllC p a) (hb : AllC p b) : AllC p (a ++ b) := by
  intro c hc
  have e : (a ++ b).cps.toList = a.cps.toList ++ b.cps.toList := Array.toList_append
  rw [e] at hc
  exact (List.mem_append.mp hc).elim (ha c) (hb c)
theorem allc_one {p : Nat → Bool} {c : Nat} (h : p c = true) : AllC p ⟨#[c]⟩ := by
  intro d hd
  obtain rfl : d = c := by simpa using hd
  exact h
theorem allc_mul {p : Nat → Bool} {z : Str} (n : Int) (hz : AllC p z) : AllC p (Txt.mul z n) := by
  intro c hc
  unfold Txt.mul at hc
  split at hc
  · exact absurd hc (by decide +revert)
  · split at hc
    · exact hz c hc
    · exact (mem_reps z.cps n.toNat #[] c hc).elim (fun h => nomatch h) (hz c)
theorem allc_asc {p : Nat → Bool} {t : Str} (hp : ∀ c, p c = true → c < 128) (h : AllC p t) : Asc t := fun c hc => hp c (h c hc)
def rOr (a b : R2) : R2 := fun x y H Q => a x y H Q ∨ b x y H Q
theorem opr_or {X : Cx} {f : Value → Value → Sem Value} {a b : R2} (ha : OpR X f a) (hb : OpR X f b) : OpR X f (rOr a b) := fun pins s σ H x y v u Q I rx ry q => q.elim (ha pins s σ H x y v u Q I rx ry) (hb pins s σ H x y v u Q I rx ry)
abbrev BIG : Nat := 16777216
theorem big_eq : sizeLine = BIG := sizeLine_eq
theorem strOk_app {a b : Str} (ha : PyData.strOk a = true) (hb : PyData.strOk b = true) : PyData.strOk (a ++ b) = true := by
  unfold PyData.strOk at *
  obtain ⟨a⟩ := a
  obtain ⟨b⟩ := b
  show (a ++ b).all _ = true
  rw [Array.all_append, ha, hb]
  rfl
theorem OkS.app {a b : Str} (ha : OkS a) (hb : OkS b) (h : a.length + b.length ≤ BIG) : OkS (a ++ b) := ⟨strOk_app ha.1 hb.1, by rw [strLen_append, big_eq]; exact h⟩
def rAddU (K : PySem.W.Frag) : R2 := rOr (rI0 fun i j => .int (i + j)) (rOr (fun x y H Q => ∃ i j, x = .str i ∧ y = .str j ∧ i.length + j.length ≤ sizeLine ∧ Q (.str (i ++ j)) H) (rOr (rCatA K) rCat))
theorem op_addU {X : Cx} : OpR X (binaryOp .Add) (rAddU X.K) := opr_or op_add (opr_or op_add_str (opr_or op_catA op_cat))
def oAdd : DO2 := fun x y Q => match x, y with
  | .int i, .int j => Q (.int (i + j))
  | .str a, .str b => a.length + b.length ≤ BIG ∧ Q (.str (a ++ b))
  | .tup xs, .tup ys => xs.length + ys.length ≤ BIG ∧ Q (.tup (xs ++ ys))
  | .lst xs, .lst ys => xs.length + ys.length ≤ BIG ∧ Q (.lst (xs ++ ys))
  | _, _ => False
section
variable {K : PySem.W.Frag} {mg : Str → Option Value} {F H : Hp}
theorem hs_int {v : V} {i : Int} (h : Hs K mg F H v (.int i)) : v = .int i := by
  rcases h with h | ⟨p, _, _, ho⟩
  · exact has_int h
  · exact ho.elim
theorem hs_bl {v : V} {b : Bool} (h : Hs K mg F H v (.bl b)) : v = .bl b := by
  rcases h with h | ⟨p, _, _, ho⟩
  · cases h; rfl
  · exact ho.elim
theorem hs_non {v : V} (h : Hs K mg F H v .non) : v = .non := by
  rcases h with h | ⟨p, _, _, ho⟩
  · cases h; rfl
  · exact ho.elim
theorem hs_str {v : V} {x : Str} (h : Hs K mg F H v (.str x)) : v = .str x ∧ OkS x := by
  rcases h with h | ⟨p, _, _, ho⟩
  · cases h; exact ⟨rfl, ‹_›⟩
  · exact ho.elim
theorem hs_lst {v : V} {ds : List D} (e : Same F H) (h : Hs K mg F H v (.lst ds)) : ∃ p xs, v = .ref p ∧ H p = some (.lst xs) ∧ HasL K mg F xs ds := by
  rcases h with h | ⟨p, rfl, _, xs, h1, h2⟩
  · cases h; exact ⟨_, _, rfl, e _ _ ‹_›, ‹_›⟩
  · exact ⟨p, xs, rfl, h1, h2⟩
theorem hs_tup {v : V} {ds : List D} (e : Same F H) (h : Hs K mg F H v (.tup ds)) : ∃ p xs, v = .ref p ∧ SqT K H p xs ∧ SqT K F p xs ∧ HasL K mg F xs ds := by
  rcases h with h | ⟨p, _, _, ho⟩
  · cases h; exact ⟨_, _, rfl, sqT_mono e ‹_›, ‹_›, ‹_›⟩
  · exact ho.elim
theorem hs_tpd {v : V} {ds : List D} (e : Same F H) (h : Hs K mg F H v (.tpd ds)) : ∃ p xs, v = .ref p ∧ H p = some (.tup xs) ∧ F p = some (.tup xs) ∧ HasL K mg F xs ds := by
  rcases h with h | ⟨p, _, _, ho⟩
  · cases h; exact ⟨_, _, rfl, e _ _ ‹_›, ‹_›, ‹_›⟩
  · exact ho.elim
theorem hs_dct {v : V} {ks : List Str} {ds : List D} (e : Same F H) (h : Hs K mg F H v (.dct ks ds)) : ∃ p kvs, v = .ref p ∧ H p = some (.dK kvs) ∧ KsOk kvs ks ∧ HasL K mg F (kvs.map (·.2)) ds := by
  rcases h with h | ⟨p, rfl, _, kvs, h1, h2, h3⟩
  · cases h; exact ⟨_, _, rfl, e _ _ ‹_›, ‹_›, ‹_›⟩
  · exact ⟨p, kvs, rfl, h1, h2, h3⟩
theorem sizeLine_big : sizeLine = 16777216 := sizeLine_eq
theorem sim_add : SimH K mg (rAddU K) oAdd where
  mono := fun {x y Q Q'} h z => by
    unfold oAdd at z ⊢
    split at z
    · exact h _ z
    · exact ⟨z.1, h _ z.2⟩
    · exact ⟨z.1, h _ z.2⟩
    · exact ⟨z.1, h _ z.2⟩
    · exact z.elim
  run := fun {F H x y dx dy Q} e hx hy q => by
    unfold oAdd at q
    split at q
    · cases hs_int hx; cases hs_int hy
      exact .inl ⟨_, _, rfl, rfl, q _ F H (.refl e) (.int _)⟩
    · obtain ⟨rfl, o1⟩ := hs_str hx
      obtain ⟨rfl, o2⟩ := hs_str hy
      exact .inr (.inl ⟨_, _, rfl, rfl, by rw [big_eq]; exact q.1, q.2 _ F H (.refl e) (.str _ (o1.app o2 q.1))⟩)
    · obtain ⟨a, xs, rfl, h1, h1', h2⟩ := hs_tup e hx
      obtain ⟨b, ys, rfl, h3, h3', h4⟩ := hs_tup e hy
      obtain ⟨ql, q⟩ := q
      refine .inr (.inr (.inl ⟨a, b, xs, ys, rfl, rfl, h1, h3, by rw [big_eq, h2.length, h4.length]; exact ql, fun z => ?_, fun _ z => ?_, fun _ _ p hp => ?_⟩))
      · subst z
        cases h2
        exact q _ F H (.refl e) (.tup h3' h4)
      · subst z
        cases h4
        rw [List.append_nil] at q
        exact q _ F H (.refl e) (.tup h1' h2)
      · have t := PStep.new (o := .tup (xs ++ ys)) e hp
        exact q _ _ _ t (.tup (.inl (.inl upd_same)) ((h2.mono t.grow).append (h4.mono t.grow)))
    · obtain ⟨a, xs, rfl, h1, h2⟩ := hs_lst e hx
      obtain ⟨b, ys, rfl, h3, h4⟩ := hs_lst e hy
      obtain ⟨ql, q⟩ := q
      refine .inr (.inr (.inr ⟨a, b, xs, ys, rfl, rfl, h1, h3, by rw [big_eq, h2.length, h4.length]; exact ql, fun p hp => ?_⟩))
      have t := PStep.new (o := .lst (xs ++ ys)) e hp
      exact q _ _ _ t (.lst upd_same ((h2.mono t.grow).append (h4.mono t.grow)))
    · exact q.elim
/-! ints -/
def oII (f : Int → Int → D) (c : Int → Int → Prop) : DO2 := fun x y Q => match x, y with
  | .int i, .int j => c i j ∧ Q (f i j)
  | _, _ => False
theorem oII_mono {f : Int → Int → D} {c : Int → Int → Prop} {x y : D} {Q Q' : D → Prop} (h : ∀ z, Q z → Q' z) (z : oII f c x y Q) : oII f c x y Q' := by
  unfold oII at z ⊢
  split at z
  · exact ⟨z.1, h _ z.2⟩
  · exact z.elim
theorem oII_inv {f : Int → Int → D} {c : Int → Int → Prop} {x y : D} {Q : D → Prop} (z : oII f c x y Q) : ∃ i j, x = .int i ∧ y = .int j ∧ c i j ∧ Q (f i j) := by
  unfold oII at z
  split at z
  · exact ⟨_, _, rfl, rfl, z.1, z.2⟩
  · exact z.elim
theorem sim_sub : SimH K mg (rI0 fun i j => .int (i - j)) (oII (fun i j => .int (i - j)) fun _ _ => True) where
  mono := oII_mono
  run := fun {F H x y dx dy Q} e hx hy q => by
    obtain ⟨i, j, rfl, rfl, _, q⟩ := oII_inv q
    cases hs_int hx; cases hs_int hy
    exact ⟨_, _, rfl, rfl, q _ F H (.refl e) (.int _)⟩
theorem sim_mod : SimH K mg (rI (fun _ j => 0 < j) fun i j => .int (i % j)) (oII (fun i j => .int (i % j)) fun _ j => 0 < j) where
  mono := oII_mono
  run := fun {F H x y dx dy Q} e hx hy q => by
    obtain ⟨i, j, rfl, rfl, c, q⟩ := oII_inv q
    cases hs_int hx; cases hs_int hy
    exact ⟨_, _, rfl, rfl, c, q _ F H (.refl e) (.int _)⟩
theorem sim_fdiv : SimH K mg (rI CDiv fun i j => .int (i / j)) (oII (fun i j => .int (i / j)) CDiv) where
  mono := oII_mono
  run := fun {F H x y dx dy Q} e hx hy q => by
    obtain ⟨i, j, rfl, rfl, c, q⟩ := oII_inv q
    cases hs_int hx; cases hs_int hy
    exact ⟨_, _, rfl, rfl, c, q _ F H (.refl e) (.int _)⟩
/-! times -/
def rMulU : R2 := rOr (rI CMul fun i j => .int (i * j)) (fun x y H Q => ∃ z n, x = .str z ∧ y = .int n ∧ z.length ≤ 1000 ∧ n ≤ 16000 ∧ -1000 ≤ n ∧ Q (.str (Txt.mul z n)) H)
theorem mulOk_any {z : Str} {n : Int} (h1 : z.length ≤ 1000) (h2 : n ≤ 16000) (h3 : -1000 ≤ n) : MulOk z n := by
  refine ⟨?_, fun hn hc => ?_, fun hn hc => ?_⟩
  · rw [decide_eq_false (by omega), decide_eq_false (by omega)] <;> rfl
  · have hz : (z.length : Int) ≤ 1000 := by omega
    have : (1000 : Int) ≤ (2 ^ 63 - 1) / n := by
      refine (Int.le_ediv_iff_mul_le (by omega)).mpr ?_
      omega
    omega
  · have hb : z.length * n.toNat ≤ 1000 * 16000 := Nat.mul_le_mul h1 (by omega)
    have hs : sizeLine = 16777216 := sizeLine_eq
    exact decide_eq_false (show ¬ (z.length * n.toNat > sizeLine) by omega)
theorem op_mulU {X : Cx} : OpR X (binaryOp .Mult) rMulU := opr_or op_mul (by
  intro pins s σ H x y v u Q I rx ry h
  obtain ⟨z, n, rfl, rfl, h1, h2, h3, q⟩ := h
  obtain ⟨t, rfl⟩ := rx
  obtain ⟨t', rfl⟩ := ry
  exact SB.mul (mulOk_any h1 h2 h3) fun t' k => ⟨.str _, H, I.tok _, ⟨_, rfl⟩, q⟩)
/-- a text several times -/
def mulS (a : Str) (n : Int) : Str := Txt.mul a n
theorem strOk_iff {a : Str} : PyData.strOk a = true ↔ ∀ c ∈ a.cps.toList, c < 1114112 := by
  unfold PyData.strOk
  rw [Array.all_eq_true_iff_forall_mem]
  simp
theorem OkS.mul {a : Str} {n : Int} (h : OkS a) (h1 : a.length ≤ 1000) (h2 : n ≤ 16000) : OkS (Txt.mul a n) := ⟨strOk_iff.mpr fun c hc => of_decide_eq_true (allc_mul (p := fun c => decide (c < 1114112)) n (fun d hd => decide_eq_true (strOk_iff.mp h.1 d hd)) c hc), by
  have hb : a.length * n.toNat ≤ 1000 * 16000 := Nat.mul_le_mul h1 (by omega)
  have hz : sizeLine = 16777216 := sizeLine_eq
  rw [mul_len]; omega⟩
def oMul : DO2 := fun x y Q => match x, y with
  | .int i, .int j => (-(2 ^ 64) < i ∧ i < 2 ^ 64 ∨ -(2 ^ 64) < j ∧ j < 2 ^ 64) ∧ Q (.int (i * j))
  | .str a, .int n => a.length ≤ 1000 ∧ n ≤ 16000 ∧ -1000 ≤ n ∧ Q (.str (Txt.mul a n))
  | _, _ => False
theorem sim_mul : SimH K mg rMulU oMul where
  mono := fun {x y Q Q'} h z => by
    unfold oMul at z ⊢
    split at z
    · exact ⟨z.1, h _ z.2⟩
    · exact ⟨z.1, z.2.1, z.2.2.1, h _ z.2.2.2⟩
    · exact z.elim
  run := fun {F H x y dx dy Q} e hx hy q => by
    unfold oMul at q
    split at q
    · cases hs_int hx; cases hs_int hy
      exact .inl ⟨_, _, rfl, rfl, q.1, q.2 _ F H (.refl e) (.int _)⟩
    · obtain ⟨rfl, o1⟩ := hs_str hx
      cases hs_int hy
      exact .inr ⟨_, _, rfl, rfl, q.1, q.2.1, q.2.2.1, q.2.2.2 _ F H (.refl e) (.str _ (o1.mul q.1 q.2.1))⟩
    · exact q.elim
end
end DL

set_option linter.all false
set_option maxRecDepth 100000
set_option maxHeartbeats 2000000
/-! comparisons over data -/
namespace DL
open PySem PySem.Spec PyProof.Rows L2 GR N01
section
variable {X : Cx}
/-! x in a tuple of data -/
def rInDT (K : PySem.W.Frag) (neg : Bool) : R2 := fun x y H Q => ∃ d ds, Dp K H x d ∧ Dp K H y (.tuple ds) ∧ SeqAt.shaped d = true ∧ SeqAt.shaped (.tuple ds) = true ∧ Q (.bl (if neg then !ds.any fun z => PyData.eqv z d else ds.any fun z => PyData.eqv z d)) H
theorem op_inDT (hu : X.A.units + 65 < cLine) : OpR X (compareOp .In) (rInDT X.K false) := by
  intro pins s σ H x y v u Q I rx ry h
  obtain ⟨d, ds, hd, he, sd, se, q⟩ := h
  obtain ⟨as, r1⟩ := Dp.reads I d x v hd rx
  obtain ⟨bs, r2⟩ := Dp.reads I (.tuple ds) y u he ry
  exact SeqAt.in_tuple_reads r2 r1 (SeqAt.canLay_of_shaped se) (SeqAt.canLay_of_shaped sd) (room_in_shaped sd hu) ⟨.bl _, H, I, rfl, q⟩
theorem op_notInDT (hu : X.A.units + 65 < cLine) : OpR X (compareOp .NotIn) (rInDT X.K true) := by
  intro pins s σ H x y v u Q I rx ry h
  obtain ⟨d, ds, hd, he, sd, se, q⟩ := h
  obtain ⟨as, r1⟩ := Dp.reads I d x v hd rx
  obtain ⟨bs, r2⟩ := Dp.reads I (.tuple ds) y u he ry
  exact SeqAt.notIn_tuple_reads r2 r1 (SeqAt.canLay_of_shaped se) (SeqAt.canLay_of_shaped sd) (room_in_shaped sd hu) ⟨.bl _, H, I, rfl, q⟩
def rDIn (neg : Bool) : R2 := fun y x H Q => ∃ a o, x = .ref a ∧ DGet H a y o ∧ Q (.bl (if neg then !o.isSome else o.isSome)) H
theorem op_din (hu : X.A.units + 1 < cLine) : OpR X (compareOp .In) (rDIn false) := by
  intro pins s σ H y x v u Q I ry rx h
  obtain ⟨a, o, rfl, g, q⟩ := h
  obtain rfl : u = Value.ref a := rx
  exact d_in hu I g ry fun s3 I3 => ⟨.bl o.isSome, H, I3, rfl, q⟩
theorem op_dnotin (hu : X.A.units + 1 < cLine) : OpR X (compareOp .NotIn) (rDIn true) := by
  intro pins s σ H y x v u Q I ry rx h
  obtain ⟨a, o, rfl, g, q⟩ := h
  obtain rfl : u = Value.ref a := rx
  exact d_notIn hu I g ry fun s3 I3 => ⟨.bl (!o.isSome), H, I3, rfl, q⟩
def rInSg (neg : Bool) : R2 := fun x y H Q => ∃ (c : Nat) (z : Str), x = .str ⟨#[c]⟩ ∧ y = .str z ∧ Q (.bl (if neg then !decide (c ∈ z.cps.toList) else decide (c ∈ z.cps.toList))) H
def rInU (K : PySem.W.Frag) (neg : Bool) : R2 := rOr (if neg then rNotInD K else rInD K) (rOr (rInDT K neg) (rOr (rDIn neg) (rInSg neg)))
theorem op_inU (hu : X.A.units + 65 < cLine) : OpR X (compareOp .In) (rInU X.K false) := opr_or (op_inD hu) (opr_or (op_inDT hu) (opr_or (op_din (by omega)) fun pins s σ H x y v u Q I rx ry q => op_in_sign pins s σ H x y v u Q I rx ry q))
theorem op_notInU (hu : X.A.units + 65 < cLine) : OpR X (compareOp .NotIn) (rInU X.K true) := opr_or (op_notInD hu) (opr_or (op_notInDT hu) (opr_or (op_dnotin (by omega)) fun pins s σ H x y v u Q I rx ry q => op_notIn_sign pins s σ H x y v u Q I rx ry q))
end
/-! readings over data -/
def ng (neg b : Bool) : Bool := if neg then !b else b
def memD (x : D) (xs : List D) : Bool := xs.any fun z => z.eqv x
def oIn (neg : Bool) : DO2 := fun x y Q => match x, y with
  | x, .lst xs => D.fit 64 x = true ∧ D.fitL 63 xs = true ∧ Q (.bl (ng neg (memD x xs)))
  | x, .tup xs => D.fit 64 x = true ∧ D.fitL 63 xs = true ∧ Q (.bl (ng neg (memD x xs)))
  | .str k, .dct ks _ => Q (.bl (ng neg (decide (k ∈ ks))))
  | .str a, .str b => ∃ c, a = ⟨#[c]⟩ ∧ Q (.bl (ng neg (decide (c ∈ b.cps.toList))))
  | _, _ => False
def oEq (neg : Bool) : DO2 := fun x y Q => D.fit 64 x = true ∧ D.fit 64 y = true ∧ Q (.bl (ng neg (x.eqv y)))
def rEqU (K : PySem.W.Frag) (neg : Bool) : R2 := fun x y H Q => ∃ d e, Dp K H x d ∧ Dp K H y e ∧ SeqAt.shaped d = true ∧ SeqAt.shaped e = true ∧ Q (.bl (if neg then !PyData.eqv d e else PyData.eqv d e)) H
theorem op_eqU {X : Cx} (hu : X.A.units + 64 < cLine) : OpR X (compareOp .Eq) (rEqU X.K false) := op_eqD hu
theorem op_neU {X : Cx} (hu : X.A.units + 64 < cLine) : OpR X (compareOp .NotEq) (rEqU X.K true) := op_neD hu
def oIs (neg : Bool) : DO2 := fun x y Q => match y with
  | .non => Q (.bl (ng neg (match x with | .non => true | _ => false)))
  | _ => False
def rIsN (neg : Bool) : R2 := fun x y H Q => y = .non ∧ Q (.bl (if neg then !decide (x = .non) else decide (x = .non))) H
theorem op_isU {X : Cx} : OpR X (compareOp .Is) (rIsN false) := op_isN
theorem op_isnotU {X : Cx} : OpR X (compareOp .IsNot) (rIsN true) := op_notN
/-- the order of texts -/
def ltS (a b : Str) : Bool := decide (a.cps.toList < b.cps.toList)
/-- a key: a number, then a plain value -/
def keyOf : D → Option (Int × D)
  | .tup [.int r, .bl b] => some (r, .bl b)
  | .tup [.int r, .int i] => some (r, .int i)
  | .tup [.int r, .str x] => some (r, .str x)
  | _ => none
def oLt : DO2 := fun x y Q => match x, y with
  | .int i, .int j => Q (.bl (decide (i < j)))
  | .str a, .str b => Q (.bl (ltS a b))
  | .tup [.int r, a], .tup [.int r', b] => (∃ p q, keyOf (.tup [.int r, a]) = some p ∧ keyOf (.tup [.int r', b]) = some q) ∧ (r = r' → PySem.W.alike a.py b.py = true) ∧ Q (.bl (PySem.W.dataLt (SQ.kyd r a.py) (SQ.kyd r' b.py)))
  | _, _ => False
def rLtKD (K : PySem.W.Frag) : R2 := fun x y H Q => ∃ r r' d d', Dp K H x (SQ.kyd r d) ∧ Dp K H y (SQ.kyd r' d') ∧ SQ.Pl d ∧ (r = r' → PySem.W.alike d d' = true) ∧ Q (.bl (PySem.W.dataLt (SQ.kyd r d) (SQ.kyd r' d'))) H
theorem op_ltKD {X : Cx} (hu : X.A.units + 3 < cLine) : OpR X (compareOp .Lt) (rLtKD X.K) := by
  intro pins s σ H x y v u Q I rx ry h
  obtain ⟨r, r', d, d', ka, kb, p, al, q⟩ := h
  obtain ⟨as, ra⟩ := Dp.reads I _ _ _ ka rx
  obtain ⟨bs, rb⟩ := Dp.reads I _ _ _ kb ry
  exact SQ.kyd_rc p ra rb al hu X.prog X.w _ _ ⟨.bl _, H, I, rfl, q⟩
def rLtU (K : PySem.W.Frag) : R2 := rOr (rI0 fun i j => .bl (decide (i < j))) (rOr (fun x y H Q => ∃ i j, x = .str i ∧ y = .str j ∧ Q (.bl (decide (i.cps.toList < j.cps.toList))) H) (rLtKD K))
theorem op_ltU {X : Cx} (hu : X.A.units + 65 < cLine) : OpR X (compareOp .Lt) (rLtU X.K) := opr_or op_lt (opr_or op_lt_str (op_ltKD (by omega)))
/-- the other orders -/
def oCmp (f : Int → Int → Bool) (g : Str → Str → Bool) : DO2 := fun x y Q => match x, y with
  | .int i, .int j => Q (.bl (f i j))
  | .str a, .str b => Q (.bl (g a b))
  | _, _ => False
def rCmpU (f : Int → Int → Bool) (g : Str → Str → Bool) : R2 := rOr (rI0 fun i j => .bl (f i j)) (fun x y H Q => ∃ i j, x = .str i ∧ y = .str j ∧ Q (.bl (g i j)) H)
theorem op_leU {X : Cx} : OpR X (compareOp .LtE) (rCmpU (fun i j => decide (i ≤ j)) fun a b => !ltS b a) := opr_or op_le op_le_str
theorem op_gtU {X : Cx} : OpR X (compareOp .Gt) (rCmpU (fun i j => decide (j < i)) fun a b => ltS b a) := opr_or op_gt op_gt_str
theorem op_geU {X : Cx} : OpR X (compareOp .GtE) (rCmpU (fun i j => decide (j ≤ i)) fun a b => !ltS a b) := opr_or op_ge op_ge_str
section
variable {K : PySem.W.Frag} {mg : Str → Option Value}
theorem ans {F H : Hp} {Q : VK} {b : Bool} (e : Same F H) (q : ∀ v F' H', PStep F H F' H' → Has K mg F' v (.bl b) → Q v H') : Q (.bl b) H := q _ F H (.refl e) (.bl b)
theorem sim_cmp {f : Int → Int → Bool} {g : Str → Str → Bool} : SimH K mg (rCmpU f g) (oCmp f g) where
  mono := fun {x y Q Q'} h z => by
    unfold oCmp at z ⊢
    split at z <;> first | exact h _ z | exact z.elim
  run := fun {F H x y dx dy Q} e hx hy q => by
    unfold oCmp at q
    split at q
    · cases hs_int hx; cases hs_int hy
      exact .inl ⟨_, _, rfl, rfl, ans e q⟩
    · obtain ⟨rfl, _⟩ := hs_str hx
      obtain ⟨rfl, _⟩ := hs_str hy
      exact .inr ⟨_, _, rfl, rfl, ans e q⟩
    · exact q.elim
theorem sim_is {neg : Bool} : SimH K mg (rIsN neg) (oIs neg) where
  mono := fun {x y Q Q'} h z => by
    unfold oIs at z ⊢
    split at z <;> first | exact h _ z | exact z.elim
  run := fun {F H x y dx dy Q} e hx hy q => by
    unfold oIs at q
    split at q
    · refine ⟨hs_non hy, ?_⟩
      have q := ans e q
      unfold ng at q
      rcases hx with hx | ⟨p, rfl, _, ho⟩
      · cases hx <;> exact q
      · cases dx <;> first | exact ho.elim | exact q
    · exact q.elim
theorem key_pl {r : Int} {a : D} {p : Int × D} (h : keyOf (.tup [.int r, a]) = some p) : SQ.Pl a.py ∧ D.fit 1 (.tup [.int r, a]) = true := by
  cases a <;> first | (simp [keyOf] at h; done) | skip
  · exact ⟨by rw [D.py]; exact .bl _, by simp [D.fit, D.fitL]⟩
  · exact ⟨by rw [D.py]; exact .int _, by simp [D.fit, D.fitL]⟩
  · exact ⟨by rw [D.py]; exact .str _, by simp [D.fit, D.fitL]⟩
theorem key_py {r : Int} {a : D} : D.py (.tup [.int r, a]) = SQ.kyd r a.py := by
  rw [D.py, D.pyL, D.pyL, D.pyL, D.py]; rfl
/-- an own one is none of these -/
theorem hs_has {F H : Hp} {v : V} {x : D} (h : Hs K mg F H v x) (e : Same F H) : ∃ F1, Same F F1 ∧ Same F1 H ∧ Has K mg F1 v x := by
  obtain ⟨F1, a, b, c, _⟩ := hs_settle e h
  exact ⟨F1, a, b, c⟩
theorem sim_lt : SimH K mg (rLtU K) oLt where
  mono := fun {x y Q Q'} h z => by
    unfold oLt at z ⊢
    split at z
    · exact h _ z
    · exact h _ z
    · exact ⟨z.1, z.2.1, h _ z.2.2⟩
    · exact z.elim
  run := fun {F H x y dx dy Q} e hx hy q => by
    unfold oLt at q
    split at q
    · cases hs_int hx; cases hs_int hy
      exact .inl ⟨_, _, rfl, rfl, ans e q⟩
    · obtain ⟨rfl, _⟩ := hs_str hx
      obtain ⟨rfl, _⟩ := hs_str hy
      exact .inr (.inl ⟨_, _, rfl, rfl, ans e q⟩)
    · obtain ⟨⟨p, p', k1, k2⟩, al, q⟩ := q
      obtain ⟨l1, f1⟩ := key_pl k1
      obtain ⟨l2, f2⟩ := key_pl k2
      obtain ⟨F1, _, b1, c1⟩ := hs_has hx e
      obtain ⟨F2, _, b2, c2⟩ := hs_has hy e
      exact .inr (.inr ⟨_, _, _, _, key_py ▸ has_dp b1 c1 f1, key_py ▸ has_dp b2 c2 f2, l1, al, ans e q⟩)
    · exact q.elim
theorem sim_eq {neg : Bool} : SimH K mg (rEqU K neg) (oEq neg) where
  mono := fun h z => ⟨z.1, z.2.1, h _ z.2.2⟩
  run := fun {F H x y dx dy Q} e hx hy q => by
    obtain ⟨f1, f2, q⟩ := q
    obtain ⟨F1, _, b1, c1⟩ := hs_has hx e
    obtain ⟨F2, _, b2, c2⟩ := hs_has hy e
    exact ⟨_, _, has_dp b1 c1 f1, has_dp b2 c2 f2, has_shaped c1 f1, has_shaped c2 f2, ans e q⟩
theorem any_py (x : D) (xs : List D) : ((D.pyL xs).any fun z => PyData.eqv z x.py) = memD x xs := by
  rw [pyL_map, List.any_map]; rfl
theorem valV_str {kvs : List (Key × V)} {ks : List Str} (h : kvs.map (·.1) = ks.map Sum.inr) (k : Str) : (valV kvs (Sum.inr k)).isSome = decide (k ∈ ks) := by
  induction kvs generalizing ks with
  | nil =>
    cases ks with
    | nil => rfl
    | cons _ _ => cases h
  | cons p r ih =>
    cases ks with
    | nil => cases h
    | cons k' ks =>
      obtain ⟨k0, v⟩ := p
      simp only [List.map_cons, List.cons.injEq] at h
      obtain ⟨rfl, h⟩ := h
      by_cases e : k = k'
      · subst e
        simp [valV]
      · have e' : ¬ (Sum.inr k' : Key) = Sum.inr k := fun z => e (Sum.inr.inj z).symm
        have e2 := ih h
        have e3 : valV ((Sum.inr k', v) :: r) (Sum.inr k : Key) = valV r (Sum.inr k) := by
          unfold valV
          rw [List.find?_cons_of_neg (by simpa using e')]
        rw [e3, e2]
        simp [e]
theorem sim_in {neg : Bool} : SimH K mg (rInU K neg) (oIn neg) where
  mono := fun {x y Q Q'} h z => by
    unfold oIn at z ⊢
    split at z
    · exact ⟨z.1, z.2.1, h _ z.2.2⟩
    · exact ⟨z.1, z.2.1, h _ z.2.2⟩
    · exact h _ z
    · obtain ⟨c, e, z⟩ := z; exact ⟨c, e, h _ z⟩
    · exact z.elim
  run := fun {F H x y dx dy Q} e hx hy q => by
    obtain ⟨F1, _, b1, c1⟩ := hs_has hx e
    obtain ⟨F2, _, b2, c2⟩ := hs_has hy e
    unfold oIn at q
    split at q
    · obtain ⟨f1, f2, q⟩ := q
      have f2' := (show D.fit 64 (.lst _) = D.fitL 63 _ by rw [D.fit]).trans f2
      have d2 := has_dp b2 c2 f2'
      have s2 := has_shaped c2 f2'
      rw [D.py] at d2 s2
      have q := ans e q
      left
      cases neg
      · exact ⟨_, _, has_dp b1 c1 f1, d2, has_shaped c1 f1, s2, by rw [any_py]; exact q⟩
      · exact ⟨_, _, has_dp b1 c1 f1, d2, has_shaped c1 f1, s2, by rw [any_py]; exact q⟩
    · obtain ⟨f1, f2, q⟩ := q
      have f2' := (show D.fit 64 (.tup _) = D.fitL 63 _ by rw [D.fit]).trans f2
      have d2 := has_dp b2 c2 f2'
      have s2 := has_shaped c2 f2'
      rw [D.py] at d2 s2
      have q := ans e q
      exact .inr (.inl ⟨_, _, has_dp b1 c1 f1, d2, has_shaped c1 f1, s2, by rw [any_py]; exact q⟩)
    · obtain ⟨rfl, _⟩ := hs_str hx
      obtain ⟨p, kvs, rfl, h1, h2, _⟩ := hs_dct e hy
      refine .inr (.inr (.inl ⟨p, _, rfl, DGet.k (k := Sum.inr _) h1, ?_⟩))
      rw [valV_str h2.1]
      exact ans e q
    · obtain ⟨rfl, _⟩ := hs_str hx
      obtain ⟨rfl, _⟩ := hs_str hy
      obtain ⟨c, rfl, q⟩ := q
      exact .inr (.inr (.inr ⟨c, _, rfl, rfl, ans e q⟩))
    · exact q.elim
end
end DL

set_option linter.all false
set_option maxRecDepth 100000
set_option maxHeartbeats 2000000
/-! subscripts, slices, built-ins over data -/
namespace DL
open PySem PySem.Spec PyProof.Rows L2 GR N01
section
variable {K : PySem.W.Frag} {mg : Str → Option Value}
/-! texts -/
theorem strSub_mem {x : Str} {i j c : Nat} (h : c ∈ (Builtin.Str.strSub x i j).cps.toList) : c ∈ x.cps.toList := by
  unfold Builtin.Str.strSub at h
  have h' : c ∈ List.take (j - i) (List.drop i x.cps.toList) := by simpa using h
  exact List.mem_of_mem_drop (List.mem_of_mem_take h')
theorem split_mem {x z y : Str} (h : y ∈ Txt.split x z) {c : Nat} (hc : c ∈ y.cps.toList) : c ∈ x.cps.toList := by
  unfold Txt.split at h
  split at h
  · rw [List.mem_singleton.mp h] at hc; exact hc
  · split at h
    · rw [List.mem_singleton.mp h] at hc; exact hc
    · unfold Builtin.Str.partsBetween at h
      obtain ⟨p, _, e⟩ := List.mem_map.mp h
      rw [← e] at hc
      exact strSub_mem hc
theorem OkS.split {x z y : Str} (o : OkS x) (h : y ∈ Txt.split x z) : OkS y := ⟨strOk_iff.mpr fun c hc => strOk_iff.mp o.1 c (split_mem h hc), Nat.le_trans (split_len y h) o.2⟩
theorem cutS_mem {t : Str} {lo hi : Option Int} {c : Nat} (hc : c ∈ (cutS t lo hi).cps.toList) : c ∈ t.cps.toList := by
  unfold cutS at hc
  have hc' : c ∈ (t.cps.toList.drop (HT.sIx t.length 0 lo)).take (HT.sIx t.length t.length hi - HT.sIx t.length 0 lo) := by simpa using hc
  exact List.mem_of_mem_drop (List.mem_of_mem_take hc')
theorem OkS.cut {x : Str} {lo hi : Option Int} (o : OkS x) : OkS (cutS x lo hi) := ⟨strOk_iff.mpr fun c hc => strOk_iff.mp o.1 c (cutS_mem hc), Nat.le_trans (cutS_length _ _ _) o.2⟩
theorem OkS.one {x : Str} {c : Nat} (o : OkS x) (h : c ∈ x.cps.toList) : OkS ⟨#[c]⟩ := ⟨strOk_iff.mpr fun d hd => by
  have : d = c := by simpa using hd
  subst this; exact strOk_iff.mp o.1 d h, by show 1 ≤ sizeLine; decide⟩
theorem hasL_strs {F : Hp} : ∀ {ys : List Str}, (∀ y ∈ ys, OkS y) → HasL K mg F (ys.map V.str) (ys.map D.str)
  | [], _ => .nil
  | y :: ys, h => .cons (.str y (h y List.mem_cons_self)) (hasL_strs fun z hz => h z (List.mem_cons_of_mem _ hz))
theorem strs_of {F : Hp} : ∀ {ys : List Str} {vs : List V}, HasL K mg F vs (ys.map D.str) → vs = ys.map V.str ∧ ∀ y ∈ ys, OkS y
  | [], _, .nil => ⟨rfl, fun _ h => nomatch h⟩
  | y :: ys, _, .cons h t => by
    obtain ⟨e, o⟩ := strs_of t
    cases h
    exact ⟨by rw [e]; rfl, fun z hz => by
      rcases List.mem_cons.mp hz with rfl | hz
      · assumption
      · exact o z hz⟩
/-! a[i] -/
def oIx : DO2 := fun x y Q => match x, y with
  | .lst xs, .int i => ∃ z, atI xs i = some z ∧ Q z
  | .tup xs, .int i => ∃ z, atI xs i = some z ∧ Q z
  | .str s, .int i => ∃ c, atI s.cps.toList i = some c ∧ Q (.str ⟨#[c]⟩)
  | .tpd xs, .int i => ∃ z, atI xs i = some z ∧ Q z
  | _, _ => False
theorem hasL_at {F : Hp} {vs : List V} {ds : List D} {i : Int} {d : D} (h : HasL K mg F vs ds) (e : atI ds i = some d) : ∃ v, atI vs i = some v ∧ Has K mg F v d := by
  unfold atI at e ⊢
  rw [h.length]
  cases q : ixN ds.length i with
  | none => rw [q] at e; cases e
  | some j =>
    rw [q] at e
    exact h.get e
theorem sim_ix : SimH K mg (rIx K) oIx where
  mono := fun {x y Q Q'} h z => by
    unfold oIx at z ⊢
    split at z
    · obtain ⟨a, b, c⟩ := z; exact ⟨a, b, h _ c⟩
    · obtain ⟨a, b, c⟩ := z; exact ⟨a, b, h _ c⟩
    · obtain ⟨a, b, c⟩ := z; exact ⟨a, b, h _ c⟩
    · obtain ⟨a, b, c⟩ := z; exact ⟨a, b, h _ c⟩
    · exact z.elim
  run := fun {F H x y dx dy Q} e hx hy q => by
    unfold oIx at q
    split at q
    · cases hs_int hy
      obtain ⟨p, xs, rfl, h1, h2⟩ := hs_lst e hx
      obtain ⟨z, e1, q⟩ := q
      obtain ⟨v, e2, hv⟩ := hasL_at h2 e1
      exact .inl ⟨p, xs, _, v, rfl, rfl, .inl (.inl h1), e2, q v F H (.refl e) hv⟩
    · cases hs_int hy
      obtain ⟨p, xs, rfl, h1, _, h2⟩ := hs_tup e hx
      obtain ⟨z, e1, q⟩ := q
      obtain ⟨v, e2, hv⟩ := hasL_at h2 e1
      exact .inr (.inl ⟨p, xs, _, v, rfl, rfl, h1, e2, q v F H (.refl e) hv⟩)
    · cases hs_int hy
      obtain ⟨rfl, o⟩ := hs_str hx
      obtain ⟨c, e1, q⟩ := q
      obtain ⟨j, _, e3, _⟩ := atI_get e1
      exact .inr (.inr ⟨_, _, c, rfl, rfl, o.2, e1, q _ F H (.refl e) (.str _ (o.one (List.mem_of_getElem? e3)))⟩)
    · cases hs_int hy
      obtain ⟨p, xs, rfl, h1, _, h2⟩ := hs_tpd e hx
      obtain ⟨z, e1, q⟩ := q
      obtain ⟨v, e2, hv⟩ := hasL_at h2 e1
      exact .inr (.inl ⟨p, xs, _, v, rfl, rfl, .inl (.inl h1), e2, q v F H (.refl e) hv⟩)
    · exact q.elim
/-! a[lo:hi] -/
def cutG {α : Type} (xs : List α) (lo hi : Option Int) : List α := (xs.drop (HT.sIx xs.length 0 lo)).take (HT.sIx xs.length xs.length hi - HT.sIx xs.length 0 lo)
theorem hasL_cut {F : Hp} {vs : List V} {ds : List D} {lo hi : Option Int} (h : HasL K mg F vs ds) : HasL K mg F (cutV vs lo hi) (cutG ds lo hi) := by
  unfold cutV cutG
  rw [h.length]
  exact (h.drop _).take _
def rSlU (K : PySem.W.Frag) : V → Option Int → Option Int → Hp → VK → Prop := fun x lo hi H Q => rSlL K x lo hi H Q ∨ (fun x lo hi H Q => rSlA K x lo hi H Q ∨ rSlS x lo hi H Q) x lo hi H Q
theorem sl_U {X : Cx} : SlR X (rSlU X.K) := SlR.or sl_list (SlR.or sl_tupA sl_str)
def oSl (lo hi : Option Int) : DO1 := fun x Q => match x with
  | .lst xs => Q (.lst (cutG xs lo hi))
  | .tup xs => Q (.tup (cutG xs lo hi))
  | .str z => Q (.str (cutS z lo hi))
  | _ => False
theorem cutG_whole {α : Type} {xs : List α} {lo hi : Option Int} (h : HT.sIx xs.length 0 lo = 0 ∧ HT.sIx xs.length xs.length hi = xs.length) : cutG xs lo hi = xs := by
  unfold cutG; rw [h.1, h.2]; simp
theorem sim_sl {lo hi : Option Int} : SimH1 K mg (fun x H Q => rSlU K x lo hi H Q) (oSl lo hi) where
  mono := fun {x Q Q'} h z => by
    unfold oSl at z ⊢
    split at z <;> first | exact h _ z | exact z.elim
  run := fun {F H x dx Q} e hx q => by
    unfold oSl at q
    split at q
    · obtain ⟨p, xs, rfl, h1, h2⟩ := hs_lst e hx
      refine .inl ⟨p, xs, rfl, .inl (.inl h1), fun l hl => ?_⟩
      have t := PStep.new (o := .lst (cutV xs lo hi)) e hl
      exact q _ _ _ t (.lst upd_same ((hasL_cut h2).mono t.grow))
    · obtain ⟨p, xs, rfl, h1, h1', h2⟩ := hs_tup e hx
      refine .inr (.inl ⟨p, xs, rfl, h1, fun z => ?_, fun _ l hl => ?_⟩)
      · rw [h2.length] at z
        refine q _ F H (.refl e) (.tup h1' ?_)
        rw [cutG_whole z]; exact h2
      · have t := PStep.new (o := .tup (cutV xs lo hi)) e hl
        exact q _ _ _ t (.tup (.inl (.inl upd_same)) ((hasL_cut h2).mono t.grow))
    · obtain ⟨rfl, o⟩ := hs_str hx
      exact .inr (.inr ⟨_, rfl, o.2, q _ F H (.refl e) (.str _ o.cut)⟩)
    · exact q.elim
/-! one-argument built-ins: their answers -/
def r1 (r : List V → Hp → VK → Prop) : V → Hp → VK → Prop := fun x H Q => r [x] H Q
def lenD : D → (Nat → Prop) → Prop
  | .str x, k => k x.length
  | .lst xs, k => k xs.length
  | .tup xs, k => k xs.length
  | .dct ks _, k => k ks.length
  | _, _ => False
def oLen : DO1 := fun x Q => lenD x fun n => Q (.int n)
def rLenU (K : PySem.W.Frag) : List V → Hp → VK → Prop := fun xs H Q => (∃ x n, xs = [x] ∧ LenV K x H n ∧ Q (.int n) H) ∨ ∃ a kvs, xs = [V.ref a] ∧ H a = some (.dK kvs) ∧ Q (.int kvs.length) H
theorem call_lenU {X : Cx} : CallR X (.builtin "len") (rLenU X.K) := CallR.or call_len call_lenD
theorem sim_len : SimH1 K mg (r1 (rLenU K)) oLen where
  mono := fun {x Q Q'} h z => by
    unfold oLen lenD at z ⊢
    split at z <;> first | exact h _ z | exact z.elim
  run := fun {F H x dx Q} e hx q => by
    have ai : ∀ {n : Int}, (∀ v F' H', PStep F H F' H' → Has K mg F' v (.int n) → Q v H') → Q (.int n) H := fun q => q _ F H (.refl e) (.int _)
    unfold oLen lenD at q
    split at q
    · obtain ⟨rfl, o⟩ := hs_str hx
      exact .inl ⟨_, _, rfl, ⟨o.2, rfl⟩, ai q⟩
    · obtain ⟨p, xs, rfl, h1, h2⟩ := hs_lst e hx
      exact .inl ⟨_, _, rfl, .inl ⟨xs, .inl (.inl h1), h2.length.symm⟩, ai q⟩
    · obtain ⟨p, xs, rfl, h1, _, h2⟩ := hs_tup e hx
      exact .inl ⟨_, _, rfl, .inr ⟨xs, h1, h2.length.symm⟩, ai q⟩
    · obtain ⟨p, kvs, rfl, h1, h2, h3⟩ := hs_dct e hx
      refine .inr ⟨p, kvs, rfl, h1, ?_⟩
      have hl : kvs.length = (_ : List Str).length := (by simpa using congrArg List.length h2.1)
      rw [hl]
      exact ai q
    · exact q.elim
def oInt : DO1 := fun x Q => match x with
  | .int i => Q (.int i)
  | .bl b => Q (.int (if b then 1 else 0))
  | _ => False
def rIntU : List V → Hp → VK → Prop := fun xs H Q => (∃ i, xs = [.int i] ∧ Q (.int i) H) ∨ ∃ k, xs = [.bl k] ∧ Q (.int (if k then 1 else 0)) H
theorem call_intU {X : Cx} : CallR X (.type "int") rIntU := call_int1
theorem sim_int : SimH1 K mg (r1 rIntU) oInt where
  mono := fun {x Q Q'} h z => by
    unfold oInt at z ⊢
    split at z <;> first | exact h _ z | exact z.elim
  run := fun {F H x dx Q} e hx q => by
    unfold oInt at q
    split at q
    · cases hs_int hx; exact .inl ⟨_, rfl, q _ F H (.refl e) (.int _)⟩
    · cases hs_bl hx; exact .inr ⟨_, rfl, q _ F H (.refl e) (.int _)⟩
    · exact q.elim
def oStr : DO1 := fun x Q => match x with
  | .int i => i.natAbs.log2 < 1920 ∧ OkS (Str.ofString (toString i)) ∧ Q (.str (Str.ofString (toString i)))
  | _ => False
def rStrU : List V → Hp → VK → Prop := fun xs H Q => ∃ i, xs = [.int i] ∧ i.natAbs.log2 < 1920 ∧ Q (.str (toString i)) H
theorem call_strU {X : Cx} : CallR X (.type "str") rStrU := call_str_int
theorem sim_str : SimH1 K mg (r1 rStrU) oStr where
  mono := fun {x Q Q'} h z => by
    unfold oStr at z ⊢
    split at z <;> first | exact ⟨z.1, z.2.1, h _ z.2.2⟩ | exact z.elim
  run := fun {F H x dx Q} e hx q => by
    unfold oStr at q
    split at q
    · cases hs_int hx
      exact ⟨_, rfl, q.1, q.2.2 _ F H (.refl e) (.str _ q.2.1)⟩
    · exact q.elim
def oOrd : DO1 := fun x Q => match x with
  | .str a => ∃ c, a = ⟨#[c]⟩ ∧ Q (.int (c : Nat))
  | _ => False
def rOrd : List V → Hp → VK → Prop := fun xs H Q => ∃ x, xs = [.str x] ∧ x.length = 1 ∧ Q (.int (x.cps.getD 0 0 : Nat)) H
theorem call_ordU {X : Cx} : CallR X (.builtin "ord") rOrd := call_ord
theorem sim_ord : SimH1 K mg (r1 rOrd) oOrd where
  mono := fun {x Q Q'} h z => by
    unfold oOrd at z ⊢
    split at z
    · obtain ⟨c, e, z⟩ := z; exact ⟨c, e, h _ z⟩
    · exact z.elim
  run := fun {F H x dx Q} e hx q => by
    unfold oOrd at q
    split at q
    · obtain ⟨rfl, _⟩ := hs_str hx
      obtain ⟨c, rfl, q⟩ := q
      exact ⟨_, rfl, rfl, q _ F H (.refl e) (.int _)⟩
    · exact q.elim
def oTuple : DO1 := fun x Q => match x with
  | .lst xs => Q (.tup xs)
  | .tup xs => Q (.tup xs)
  | _ => False
def rTupU (K : PySem.W.Frag) : List V → Hp → VK → Prop := fun xs H Q => ∃ p ys, xs = [.ref p] ∧ ((SqL K H p ys ∧ ∀ l, H l = none → Q (.ref l) (upd H l (.tup ys))) ∨ (SqT K H p ys ∧ Q (.ref p) H))
theorem call_tupU {X : Cx} : CallR X (.type "tuple") (rTupU X.K) := call_tuple_of
theorem sim_tuple : SimH1 K mg (r1 (rTupU K)) oTuple where
  mono := fun {x Q Q'} h z => by
    unfold oTuple at z ⊢
    split at z <;> first | exact h _ z | exact z.elim
  run := fun {F H x dx Q} e hx q => by
    unfold oTuple at q
    split at q
    · obtain ⟨p, xs, rfl, h1, h2⟩ := hs_lst e hx
      refine ⟨p, xs, rfl, .inl ⟨.inl (.inl h1), fun l hl => ?_⟩⟩
      have t := PStep.new (o := .tup xs) e hl
      exact q _ _ _ t (.tup (.inl (.inl upd_same)) (h2.mono t.grow))
    · obtain ⟨p, xs, rfl, h1, h1', h2⟩ := hs_tup e hx
      exact ⟨p, xs, rfl, .inr ⟨h1, q _ F H (.refl e) (.tup h1' h2)⟩⟩
    · exact q.elim
def boolsD : List D → Option (List Bool)
  | [] => some []
  | .bl b :: ds => (boolsD ds).map (b :: ·)
  | _ :: _ => none
theorem bools_of {F : Hp} : ∀ {ds : List D} {vs : List V} {bs : List Bool}, HasL K mg F vs ds → boolsD ds = some bs → vs = bs.map V.bl
  | [], _, _, .nil, e => by cases e; rfl
  | d :: ds, _, bs, .cons h t, e => by
    cases d <;> first | (simp [boolsD] at e; done) | skip
    rename_i b
    cases h
    simp only [boolsD, Option.map_eq_some_iff] at e
    obtain ⟨cs, e1, rfl⟩ := e
    rw [bools_of t e1]; rfl
def oAll (any : Bool) : DO1 := fun x Q => match x with
  | .lst xs => ∃ bs, boolsD xs = some bs ∧ Q (.bl (if any then bs.any id else bs.all id))
  | _ => False
theorem sim_all : SimH1 K mg (r1 (rAll K)) (oAll false) where
  mono := fun {x Q Q'} h z => by
    unfold oAll at z ⊢
    split at z
    · obtain ⟨a, b, c⟩ := z; exact ⟨a, b, h _ c⟩
    · exact z.elim
  run := fun {F H x dx Q} e hx q => by
    unfold oAll at q
    split at q
    · obtain ⟨p, xs, rfl, h1, h2⟩ := hs_lst e hx
      obtain ⟨bs, e1, q⟩ := q
      have := bools_of h2 e1
      subst this
      exact ⟨p, bs, rfl, .inl (.inl h1), ans e q⟩
    · exact q.elim
theorem sim_any : SimH1 K mg (r1 (rAny K)) (oAll true) where
  mono := fun {x Q Q'} h z => by
    unfold oAll at z ⊢
    split at z
    · obtain ⟨a, b, c⟩ := z; exact ⟨a, b, h _ c⟩
    · exact z.elim
  run := fun {F H x dx Q} e hx q => by
    unfold oAll at q
    split at q
    · obtain ⟨p, xs, rfl, h1, h2⟩ := hs_lst e hx
      obtain ⟨bs, e1, q⟩ := q
      have := bools_of h2 e1
      subst this
      exact ⟨p, bs, rfl, .inl (.inl h1), ans e q⟩
    · exact q.elim
def oNeg : DO1 := fun x Q => match x with
  | .int i => Q (.int (-i))
  | _ => False
theorem sim_neg : SimH1 K mg (rU fun i => .int (-i)) oNeg where
  mono := fun {x Q Q'} h z => by
    unfold oNeg at z ⊢
    split at z <;> first | exact h _ z | exact z.elim
  run := fun {F H x dx Q} e hx q => by
    unfold oNeg at q
    split at q
    · cases hs_int hx; exact ⟨_, rfl, q _ F H (.refl e) (.int _)⟩
    · exact q.elim
end
end DL

set_option linter.all false
set_option maxRecDepth 100000
set_option maxHeartbeats 2000000
/-! what is walked -/
namespace DL
open PySem PySem.Spec PyProof.Rows L2 GR N01 RZ
def charsD (z : Str) : List D := z.cps.toList.map fun c => .str ⟨#[c]⟩
def itD : D → (List D → Prop) → Prop
  | .lst xs, k => k xs
  | .tup xs, k => k xs
  | .str z, k => k (charsD z)
  | _, _ => False
theorem itD_mono {x : D} {k k' : List D → Prop} (h : ∀ xs, k xs → k' xs) (z : itD x k) : itD x k' := by
  cases x <;> first | exact h _ z | exact (show False from z).elim
def iU (K : PySem.W.Frag) (te : TE) : TI := fun σ H R => te σ H fun x H1 => (∃ a, x = .ref a ∧ (∃ xs, SqL K H1 a xs) ∧ R (Itl K a) H1) ∨ (∃ a, x = .ref a ∧ (∃ xs, SqT K H1 a xs) ∧ R (Itt K a) H1) ∨ ∃ z, x = .str z ∧ R (Its z) H1
theorem pi_U {X : Cx} {tg e : Expr} {te : TE} (he : PE X e te) : PI X tg e (iU X.K te) := by
  refine ⟨fun pins s σ H R I h => ?_⟩
  refine thn (he.run pins s σ H _ I h) fun v s1 ⟨x, H1, I1, r1, q1⟩ => ?_
  rcases q1 with ⟨a, rfl, ⟨xs, hq⟩, q⟩ | ⟨a, rfl, ⟨xs, hq⟩, q⟩ | ⟨z, rfl, q⟩
  · cases r1
    obtain ⟨its, rv, p, hz⟩ := I1.list hq
    refine wpAny_pyIter_list p.isList ?_
    refine ⟨s1.heap.objs.size, [s1.heap.objs.size], _, _, H1, rfl, I1.kept (t' := s1.toks) fun b o e => Heap.get?_push_of_some _ e, turn_list a _, ⟨_, Heap.get?_push_size _ rfl, rfl, rfl⟩, fun b hb => ?_, q⟩
    have e : b = s1.heap.objs.size := by simpa using hb
    subst e
    exact I1.fpOk (Nat.le_refl _) (I1.hok.fresh (Nat.le_refl _))
  · cases r1
    obtain ⟨its, rv, p, hz⟩ := I1.tuple hq
    refine wpAny_pyIter_tuple (show s1.heap.IsTuple a its.toArray from p) ?_
    refine ⟨s1.heap.objs.size, [s1.heap.objs.size], _, _, H1, rfl, I1.kept (t' := s1.toks) fun b o e => Heap.get?_push_of_some _ e, turn_tuple a _, ⟨_, Heap.get?_push_size _ rfl, rfl, rfl⟩, fun b hb => ?_, q⟩
    have e : b = s1.heap.objs.size := by simpa using hb
    subst e
    exact I1.fpOk (Nat.le_refl _) (I1.hok.fresh (Nat.le_refl _))
  · obtain ⟨t, rfl⟩ := r1
    cases ha : z.cps.all (· < 128)
    · exact wpAny_pyIter_wide ha (pi_one (tk := s1.toks) I1 _ (turn_str _ z t "str_iterator" (.inr rfl)) ⟨_, Heap.get?_push_size _ rfl, rfl, rfl⟩ q)
    · exact wpAny_pyIter_ascii ha (pi_one (tk := s1.toks) I1 _ (turn_str _ z t "str_ascii_iterator" (.inl rfl)) ⟨_, Heap.get?_push_size _ rfl, rfl, rfl⟩ q)
section
variable {S : Type} [Pk S] {K : PySem.W.Frag} {mg : Str → Option Value} {xc : XC} {R : Reg S} [RegS K mg R] {W : WX}
theorem get_lt {α : Type} {l : List α} {i : Nat} (h : i < l.length) : ∃ x, l[i]? = some x := ⟨_, List.getElem?_eq_getElem h⟩
/-- H' may have grown: a list stands where it stood -/
theorem sqL_fun {H : Hp} {a : Addr} {xs ys : List V} (h : H a = some (.lst xs)) (h2 : SqL K H a ys) (hk : ∀ its, K.lookup a = some its → H a = none) : ys = xs := by
  rcases h2 with (h2 | ⟨o, h2⟩) | ⟨o, its, n, h2, _⟩
  · rw [h] at h2; cases h2; rfl
  · rw [h] at h2; cases h2
  · rw [hk _ h2] at h; cases h
theorem itd_lst {F : Hp} {a : Addr} {xs : List V} {ds : List D} (h : F a = some (.lst xs)) (hs : HasL K mg F xs ds) : Itd K mg F (Itl K a) ds := fun F1 H s1 s2 => by
  have hH : H a = some (.lst xs) := s2 _ _ (s1 _ _ h)
  have sq : SqL K H a xs := .inl (.inl hH)
  refine ⟨fun i hi => ?_, ⟨xs, sq, by rw [hs.length]; exact Nat.le_refl _⟩, fun i x H' d hd hy => ?_⟩
  · obtain ⟨x, hx⟩ := get_lt (show i < xs.length by rw [hs.length]; exact hi)
    exact ⟨xs, x, sq, hx⟩
  · obtain ⟨rfl, hy⟩ := hy
    obtain ⟨v, e1, e2⟩ := hs.get hd
    have := hy xs sq
    rw [e1] at this; cases this
    exact ⟨F1, .refl s2, Has.mono s1 e2⟩
theorem itd_tup {F : Hp} {a : Addr} {xs : List V} {ds : List D} (h : SqT K F a xs) (hs : HasL K mg F xs ds) : Itd K mg F (Itt K a) ds := fun F1 H s1 s2 => by
  have sq : SqT K H a xs := sqT_mono (s1.trans s2) h
  refine ⟨fun i hi => ?_, ⟨xs, sq, by rw [hs.length]; exact Nat.le_refl _⟩, fun i x H' d hd hy => ?_⟩
  · obtain ⟨x, hx⟩ := get_lt (show i < xs.length by rw [hs.length]; exact hi)
    exact ⟨xs, x, sq, hx⟩
  · obtain ⟨rfl, hy⟩ := hy
    obtain ⟨v, e1, e2⟩ := hs.get hd
    have := hy xs sq
    rw [e1] at this; cases this
    exact ⟨F1, .refl s2, Has.mono s1 e2⟩
theorem itd_str {F : Hp} {z : Str} (o : OkS z) : Itd K mg F (Its z) (charsD z) := fun F1 H s1 s2 => by
  have hl : (charsD z).length = z.cps.size := by unfold charsD; simp
  refine ⟨fun i hi => by rw [hl] at hi; exact hi, by rw [hl]; exact Nat.le_refl _, fun i x H' d hd hy => ?_⟩
  obtain ⟨rfl, c, hc, rfl⟩ := hy
  have : d = .str ⟨#[c]⟩ := by
    unfold charsD at hd
    rw [List.getElem?_map, Array.getElem?_toList, hc] at hd
    exact (Option.some.inj hd).symm
  subst this
  refine ⟨F1, .refl s2, .str _ (o.one ?_)⟩
  exact Array.mem_toList_iff.mpr (Array.mem_of_getElem? hc)
/-- a value walked: settled first -/
def dIt (dx : DX S) : DI S := fun s ρ Q E => dx s ρ (fun x s ρ => itD x fun ds => Q ds s ρ) E
theorem simi_U {te : TE} {dx : DX S} (hx : SimE K mg xc R W te dx) : SimI K mg xc R W (iU K te) (dIt dx) where
  mono := fun h e z => hx.mono (fun x s ρ z => itD_mono (fun ds z => h _ _ _ z) z) e z
  run := fun {r B ft F H σ ρ s EX Q} G w q => by
    refine hx.run G w (hx.mono (fun x s1 ρ1 z v ft1 F1 H1 G1 e1 a1 => ?_) (fun _ _ _ z => z) q)
    cases a1 <;> first | exact (show False from z).elim | skip
    · rename_i y o
      exact .inr (.inr ⟨y, rfl, z _ _ _ _ G1 e1 (itd_str o)⟩)
    · rename_i a xs ds h hs
      exact .inl ⟨a, rfl, ⟨xs, .inl (.inl (G1.sub _ _ h))⟩, z _ _ _ _ G1 e1 (itd_lst h hs)⟩
    · rename_i a xs ds h hs
      exact .inr (.inl ⟨a, rfl, ⟨xs, sqT_mono G1.sub h⟩, z _ _ _ _ G1 e1 (itd_tup h hs)⟩)
/-! range -/
def rangeD (lo : Int) (n : Nat) : List D := (List.range n).map fun i => .int (lo + (i : Nat))
theorem itd_rng {F : Hp} {lo : Int} {n : Nat} : Itd K mg F (Itr lo n) (rangeD lo n) := fun F1 H s1 s2 => by
  have hl : (rangeD lo n).length = n := by unfold rangeD; simp
  refine ⟨fun i hi => by rw [hl] at hi; exact hi, by rw [hl]; exact Nat.le_refl _, fun i x H' d hd hy => ?_⟩
  obtain ⟨rfl, rfl⟩ := hy
  have hi : i < n := by rw [← hl]; exact (List.getElem?_eq_some_iff.mp hd).1
  have : d = .int (lo + (i : Nat)) := by
    unfold rangeD at hd
    rw [List.getElem?_map, List.getElem?_range hi] at hd
    exact (Option.some.inj hd).symm
  subst this
  exact ⟨F1, .refl s2, .int _⟩
def dRng1 (dx : DX S) : DI S := fun s ρ Q E => dx s ρ (fun x s ρ => isInt x fun n => -(2 ^ 62) ≤ n ∧ n < 2 ^ 62 ∧ Q (rangeD 0 n.toNat) s ρ) E
theorem simi_rng1 {te : TE} {dx : DX S} (hx : SimE K mg xc R W te dx) : SimI K mg xc R W (iRng1 (tCons te tNil)) (dRng1 dx) where
  mono := fun h e z => hx.mono (fun x s ρ z => isInt_mono (fun n z => ⟨z.1, z.2.1, h _ _ _ z.2.2⟩) z) e z
  run := fun {r B ft F H σ ρ s EX Q} G w q => by
    refine hx.run G w (hx.mono (fun x s1 ρ1 z v ft1 F1 H1 G1 e1 a1 => ?_) (fun _ _ _ z => z) q)
    obtain ⟨n, rfl, z⟩ := isInt_of a1 z
    exact ⟨n, rfl, z.1, z.2.1, z.2.2 _ _ _ _ G1 e1 itd_rng⟩
def dRng2 (dx dy : DX S) : DI S := fun s ρ Q E => dx s ρ (fun x s ρ => isInt x fun i => dy s ρ (fun y s ρ => isInt y fun j => (-(2 ^ 62) ≤ i ∧ i < 2 ^ 62 ∧ -(2 ^ 62) ≤ j ∧ j < 2 ^ 62) ∧ Q (rangeD i (j - i).toNat) s ρ) E) E
theorem simi_rng2 {te tf : TE} {dx dy : DX S} (hx : SimE K mg xc R W te dx) (hy : SimE K mg xc R W tf dy) : SimI K mg xc R W (iRng2 (tCons te (tCons tf tNil))) (dRng2 dx dy) where
  mono := fun h e z => hx.mono (fun x s ρ z => isInt_mono (fun i z => hy.mono (fun y s ρ z => isInt_mono (fun n z => ⟨z.1, h _ _ _ z.2⟩) z) e z) z) e z
  run := fun {r B ft F H σ ρ s EX Q} G w q => by
    refine hx.run G w (hx.mono (fun x s1 ρ1 z v ft1 F1 H1 G1 e1 a1 => ?_) (fun _ _ _ z => z) q)
    obtain ⟨i, rfl, z⟩ := isInt_of a1 z
    refine hy.run G1 w (hy.mono (fun x s2 ρ2 z v ft2 F2 H2 G2 e2 a2 => ?_) (fun _ _ _ z => z) z)
    obtain ⟨j, rfl, z⟩ := isInt_of a2 z
    exact ⟨i, j, rfl, z.1, z.2 _ _ _ _ G2 (e1.trans e2) itd_rng⟩
/-! enumerate(a list), zip, reversed(a list) -/
def enumD (xs : List D) : List D := xs.mapIdx fun i x => .tup [.int (i : Nat), x]
theorem itd_enum {F : Hp} {a : Addr} {xs : List V} {ds : List D} (h : F a = some (.lst xs)) (hs : HasL K mg F xs ds) : Itd K mg F (Ite K a) (enumD ds) := fun F1 H s1 s2 => by
  have hH : H a = some (.lst xs) := s2 _ _ (s1 _ _ h)
  have sq : SqL K H a xs := .inl (.inl hH)
  have hl : (enumD ds).length = ds.length := by unfold enumD; simp
  refine ⟨fun i hi => ?_, ⟨xs, sq, by rw [hl, hs.length]; exact Nat.le_refl _⟩, fun i x H' d hd hy => ?_⟩
  · obtain ⟨x, hx⟩ := get_lt (show i < xs.length by rw [hs.length, ← hl]; exact hi)
    exact ⟨xs, x, sq, hx⟩
  · obtain ⟨T, x', rfl, hT, rfl, hy⟩ := hy
    have hi : i < ds.length := by rw [← hl]; exact (List.getElem?_eq_some_iff.mp hd).1
    obtain ⟨d', hd'⟩ := get_lt hi
    have : d = .tup [.int (i : Nat), d'] := by
      unfold enumD at hd
      rw [List.getElem?_mapIdx, hd'] at hd
      exact (Option.some.inj hd).symm
    subst this
    obtain ⟨v, e1, e2⟩ := hs.get hd'
    have := hy xs sq
    rw [e1] at this
    obtain rfl : v = x' := Option.some.inj this
    have t := PStep.new (o := .tup [.int (i : Nat), v]) s2 hT
    exact ⟨_, t, .tup (.inl (.inl upd_same)) (.cons (.int _) (.cons (Has.mono (s1.trans t.grow) e2) .nil))⟩
def isLs (x : D) (k : List D → Prop) : Prop := isL x k
def dEnum (dx : DX S) : DI S := fun s ρ Q E => dx s ρ (fun x s ρ => isL x fun ds => Q (enumD ds) s ρ) E
theorem simi_enum {te : TE} {dx : DX S} (hx : SimE K mg xc R W te dx) : SimI K mg xc R W (iEnum K (tCons te tNil)) (dEnum dx) where
  mono := fun h e z => hx.mono (fun x s ρ z => isL_mono (fun n z => h _ _ _ z) z) e z
  run := fun {r B ft F H σ ρ s EX Q} G w q => by
    refine hx.run G w (hx.mono (fun x s1 ρ1 z v ft1 F1 H1 G1 e1 a1 => ?_) (fun _ _ _ z => z) q)
    obtain ⟨a, ds, xs, rfl, h, hs, z⟩ := isL_of a1 z
    exact ⟨a, xs, rfl, .inl (.inl (G1.sub _ _ h)), z _ _ _ _ G1 e1 (itd_enum h hs)⟩
def revD (xs : List D) : List D := xs.reverse
theorem itd_rev {F : Hp} {a : Addr} {xs : List V} {ds : List D} (h : F a = some (.lst xs)) (hs : HasL K mg F xs ds) : Itd K mg F (Itv K a xs.length) ds.reverse := fun F1 H s1 s2 => by
  have hH : H a = some (.lst xs) := s2 _ _ (s1 _ _ h)
  have sq : SqL K H a xs := .inl (.inl hH)
  have hl := hs.length
  refine ⟨fun i hi => ?_, by rw [List.length_reverse, hl]; exact Nat.le_refl _, fun i x H' d hd hy => ?_⟩
  · rw [List.length_reverse] at hi
    obtain ⟨x, hx⟩ := get_lt (show xs.length - 1 - i < xs.length by omega)
    exact ⟨by omega, xs, x, sq, hx⟩
  · obtain ⟨rfl, hy⟩ := hy
    have hi : i < ds.length := by rw [← List.length_reverse]; exact (List.getElem?_eq_some_iff.mp hd).1
    rw [List.getElem?_reverse hi] at hd
    obtain ⟨v, e1, e2⟩ := hs.get hd
    have := hy xs sq
    rw [hl, e1] at this; cases this
    exact ⟨F1, .refl s2, Has.mono s1 e2⟩
def dRev (dx : DX S) : DI S := fun s ρ Q E => dx s ρ (fun x s ρ => isL x fun ds => Q ds.reverse s ρ) E
theorem simi_rev {te : TE} {dx : DX S} (hx : SimE K mg xc R W te dx) : SimI K mg xc R W (iRev K (tCons te tNil)) (dRev dx) where
  mono := fun h e z => hx.mono (fun x s ρ z => isL_mono (fun n z => h _ _ _ z) z) e z
  run := fun {r B ft F H σ ρ s EX Q} G w q => by
    refine hx.run G w (hx.mono (fun x s1 ρ1 z v ft1 F1 H1 G1 e1 a1 => ?_) (fun _ _ _ z => z) q)
    obtain ⟨a, ds, xs, rfl, h, hs, z⟩ := isL_of a1 z
    exact ⟨a, xs, rfl, .inl (.inl (G1.sub _ _ h)), z _ _ _ _ G1 e1 (itd_rev h hs)⟩
def zipD (xs ys : List D) : List D := (xs.zip ys).map fun p => .tup [p.1, p.2]
theorem zip_yld {F F1 H : Hp} {xs ys : List V} {ds es : List D} {i : Nat} {d : D} {T : Addr} {x y : V} (s1 : Same F F1) (s2 : Same F1 H) (hx : HasL K mg F xs ds) (hy : HasL K mg F ys es) (hd : (zipD ds es)[i]? = some d) (hT : H T = none)
    (ex : xs[i]? = some x) (ey : ys[i]? = some y) : ∃ F2, PStep F1 H F2 (upd H T (.tup [x, y])) ∧ Has K mg F2 (.ref T) d := by
  unfold zipD at hd
  rw [List.getElem?_map, Option.map_eq_some_iff] at hd
  obtain ⟨⟨d1, d2⟩, hz, rfl⟩ := hd
  rw [List.getElem?_zip_eq_some] at hz
  obtain ⟨v, a1, a2⟩ := hx.get hz.1
  obtain ⟨u, b1, b2⟩ := hy.get hz.2
  rw [ex] at a1; cases a1
  rw [ey] at b1; cases b1
  have t := PStep.new (o := .tup [x, y]) s2 hT
  exact ⟨_, t, .tup (.inl (.inl upd_same)) (.cons (Has.mono (s1.trans t.grow) a2) (.cons (Has.mono (s1.trans t.grow) b2) .nil))⟩
theorem zip_len (ds es : List D) : (zipD ds es).length = min ds.length es.length := by unfold zipD; simp
theorem itd_zipL {F : Hp} {a b : Addr} {xs ys : List V} {ds es : List D} (h : F a = some (.lst xs)) (hs : HasL K mg F xs ds) (h' : F b = some (.lst ys)) (hs' : HasL K mg F ys es) : Itd K mg F (Itz K a b) (zipD ds es) := fun F1 H s1 s2 => by
  have sq : SqL K H a xs := .inl (.inl (s2 _ _ (s1 _ _ h)))
  have sq' : SqL K H b ys := .inl (.inl (s2 _ _ (s1 _ _ h')))
  have l1 := hs.length
  have l2 := hs'.length
  refine ⟨fun i hi => ?_, ⟨xs, ys, sq, sq', by rw [zip_len]; omega⟩, fun i x H' d hd hy => ?_⟩
  · rw [zip_len] at hi
    obtain ⟨x, hx⟩ := get_lt (show i < xs.length by omega)
    obtain ⟨y, hy⟩ := get_lt (show i < ys.length by omega)
    exact ⟨xs, ys, x, y, sq, sq', hx, hy⟩
  · obtain ⟨T, u, v, rfl, hT, rfl, e1, e2⟩ := hy
    exact zip_yld s1 s2 hs hs' hd hT (e1 _ sq) (e2 _ sq')
theorem itd_zipT {F : Hp} {a b : Addr} {xs ys : List V} {ds es : List D} (h : SqT K F a xs) (hs : HasL K mg F xs ds) (h' : SqT K F b ys) (hs' : HasL K mg F ys es) : Itd K mg F (ItzT K a b) (zipD ds es) := fun F1 H s1 s2 => by
  have sq : SqT K H a xs := sqT_mono (s1.trans s2) h
  have sq' : SqT K H b ys := sqT_mono (s1.trans s2) h'
  have l1 := hs.length
  have l2 := hs'.length
  refine ⟨fun i hi => ?_, ⟨xs, ys, sq, sq', by rw [zip_len]; omega⟩, fun i x H' d hd hy => ?_⟩
  · rw [zip_len] at hi
    obtain ⟨x, hx⟩ := get_lt (show i < xs.length by omega)
    obtain ⟨y, hy⟩ := get_lt (show i < ys.length by omega)
    exact ⟨xs, ys, x, y, sq, sq', hx, hy⟩
  · obtain ⟨T, u, v, rfl, hT, rfl, e1, e2⟩ := hy
    exact zip_yld s1 s2 hs hs' hd hT (e1 _ sq) (e2 _ sq')
def zipK (x y : D) (k : List D → Prop) : Prop := match x, y with
  | .lst xs, .lst ys => k (zipD xs ys)
  | .tup xs, .tup ys => k (zipD xs ys)
  | _, _ => False
def dZip (dx dy : DX S) : DI S := fun s ρ Q E => dx s ρ (fun x s ρ => dy s ρ (fun y s ρ => zipK x y fun ds => Q ds s ρ) E) E
theorem simi_zip {te tf : TE} {dx dy : DX S} (hx : SimE K mg xc R W te dx) (hy : SimE K mg xc R W tf dy) : SimI K mg xc R W (iZipA K (tCons te (tCons tf tNil))) (dZip dx dy) where
  mono := fun h e z => hx.mono (fun x s ρ z => hy.mono (fun y s ρ z => by
    unfold zipK at z ⊢
    split at z <;> first | exact h _ _ _ z | exact z.elim) e z) e z
  run := fun {r B ft F H σ ρ s EX Q} G w q => by
    refine hx.run G w (hx.mono (fun x s1 ρ1 z v ft1 F1 H1 G1 e1 a1 => ?_) (fun _ _ _ z => z) q)
    refine hy.run G1 w (hy.mono (fun y s2 ρ2 z u ft2 F2 H2 G2 e2 a2 => ?_) (fun _ _ _ z => z) z)
    have a1 := Has.mono e2 a1
    unfold zipK at z
    split at z
    · cases a1 with
      | lst h hs => cases a2 with
        | lst h' hs' => exact ⟨_, _, _, _, rfl, .inl ⟨.inl (.inl (G2.sub _ _ h)), .inl (.inl (G2.sub _ _ h')), z _ _ _ _ G2 (e1.trans e2) (itd_zipL h hs h' hs')⟩⟩
    · cases a1 with
      | tup h hs => cases a2 with
        | tup h' hs' => exact ⟨_, _, _, _, rfl, .inr ⟨sqT_mono G2.sub h, sqT_mono G2.sub h', z _ _ _ _ G2 (e1.trans e2) (itd_zipT h hs h' hs')⟩⟩
    · exact z.elim
end
end DL

set_option linter.all false
set_option maxRecDepth 100000
set_option maxHeartbeats 2000000
/-! the rules: a piece of syntax, its reading over heaps, its reading over data -/
namespace DL
open PySem PySem.Spec PyProof.Rows L2 GR N01 RZ
/-- nothing is let out -/
abbrev WF : WX := fun _ _ _ _ => False
theorem kF {X : Cx} (h : X.xe = fun _ _ => False) : TkOk X WF := ⟨takes0, by rw [h]; exact PassesOwn.never⟩
theorem okS_of {x : Str} (h1 : PyData.strOk x = true) (h2 : decide (x.length ≤ BIG) = true) : OkS x := ⟨h1, by rw [big_eq]; exact of_decide_eq_true h2⟩
/-- a constant of the module -/
def GlobD (K : PySem.W.Frag) (mg : Str → Option Value) (x : Str) (d : D) : Prop := ∃ v u, mg x = some u ∧ RelV v u ∧ ∀ F, Has K mg F v d
section
variable {S : Type} [Pk S] (X : Cx) (xc : XC) (R : Reg S) (W : WX)
structure QO (e : Expr) (te : TE) (dx : DOp S) : Prop where
  pe : TkOk X W → PE X e te
  sim : SimO X.K X.mg xc R W te dx
end
section
variable {S : Type} [Pk S] {K : PySem.W.Frag} {mg : Str → Option Value} {xc : XC} {R : Reg S} [RegS K mg R] {W : WX}
theorem simR_of {r : R2} {f : DO2} (h : SimH K mg r f) : SimR K mg r f := ⟨h.mono, fun e a b q => h.run e (.inl a) (.inl b) q⟩
def dTruO (da : DOp S) : DT S := fun s ρ Q E => da s ρ (fun r s1 ρ1 => rdv s1 ρ1 (fun x => truD x fun k => Q k s1 ρ1) r) E
theorem tru_hs {F H : Hp} {v : V} {x : D} {Q : Bool → Prop} (e : Same F H) (h : Hs K mg F H v x) (q : truD x Q) : ∃ k, TruV K v H k ∧ Q k := by
  obtain ⟨F1, _, b1, c1⟩ := hs_has h e
  exact tru_of b1 c1 q
theorem simt_truO {ta : TE} {da : DOp S} (ha : SimO K mg xc R W ta da) : SimT K mg xc R W (fun σ H Q => ta σ H fun x H' => ∃ k, TruV K x H' k ∧ Q k H') (dTruO da) where
  mono := fun h e z => ha.mono (fun x s ρ z => rdv_mono (fun y z => truD_mono (fun b => h _ _ _) z) z) e z
  run := fun G w q => by
    refine ha.run G w (ha.mono (fun x s1 ρ1 z v ft1 F1 H1 G1 e1 a1 => ?_) (fun _ _ _ z => z) q)
    obtain ⟨x, h1, z⟩ := rd_res G1 a1 z
    obtain ⟨k, hk, z⟩ := tru_hs G1.sub h1 z
    exact ⟨k, hk, z _ _ _ G1 e1⟩
/-- a fresh copy of a list or tuple -/
def oList : DO1 := fun x Q => match x with
  | .lst xs => Q (.lst xs)
  | .tup xs => Q (.lst xs)
  | _ => False
def rLstU (K : PySem.W.Frag) : List V → Hp → VK → Prop := fun xs H Q => ∃ p ys, xs = [.ref p] ∧ (SqL K H p ys ∨ SqT K H p ys) ∧ ∀ l, H l = none → Q (.ref l) (upd H l (.lst ys))
theorem call_lstU {X : Cx} : CallR X (.type "list") (rLstU X.K) := call_list_of
theorem simf_list {ta : TE} {da : DOp S} (ha : SimO K mg xc R W ta da) : SimF K mg xc R W (tCB (rLstU K) (tCons ta tNil)) (dUnO oList da) where
  mono := fun h e z => ha.mono (fun x s ρ z => rdv_mono (fun y z => by
    unfold oList at z ⊢
    split at z <;> first | exact h _ _ _ z | exact z.elim) z) e z
  run := fun {r' B ft F H σ ρ s EX Q} G w q => by
    refine ha.run G w (ha.mono (fun x s1 ρ1 z v ft1 F1 H1 G1 e1 a1 => ?_) (fun _ _ _ z => z) q)
    obtain ⟨dx, h1, z⟩ := rd_res G1 a1 z
    unfold oList at z
    split at z
    · obtain ⟨p, xs, rfl, h2, h3⟩ := hs_lst G1.sub h1
      refine ⟨p, xs, rfl, .inl (.inl (.inl h2)), fun l hl => ?_⟩
      obtain ⟨G2, fp, fr⟩ := G1.born (.lst xs) hl
      exact z l _ _ _ G2 e1 fp ⟨xs, upd_same, h3⟩ fr
    · obtain ⟨p, xs, rfl, h2, _, h3⟩ := hs_tup G1.sub h1
      refine ⟨p, xs, rfl, .inr h2, fun l hl => ?_⟩
      obtain ⟨G2, fp, fr⟩ := G1.born (.lst xs) hl
      exact z l _ _ _ G2 e1 fp ⟨xs, upd_same, h3⟩ fr
    · exact z.elim
/-- one + another, new -/
def oCat : DO2 := fun x y Q => match x, y with
  | .lst xs, .lst ys => xs.length + ys.length ≤ BIG ∧ Q (.lst (xs ++ ys))
  | _, _ => False
theorem simf_cat {ta tb : TE} {da db : DOp S} (ha : SimO K mg xc R W ta da) (hb : SimO K mg xc R W tb db) : SimF K mg xc R W (tOp (rAddU K) ta tb) (dOpO oCat da db) where
  mono := fun h e z => ha.mono (fun x s ρ z => hb.mono (fun y s ρ z => rdv_mono (fun x z => rdv_mono (fun y z => by
    unfold oCat at z ⊢
    split at z
    · exact ⟨z.1, h _ _ _ z.2⟩
    · exact z.elim) z) z) e z) e z
  run := fun {r' B ft F H σ ρ s EX Q} G w q => by
    refine ha.run G w (ha.mono (fun x s1 ρ1 z v ft1 F1 H1 G1 e1 a1 => ?_) (fun _ _ _ z => z) q)
    refine hb.run G1 w (hb.mono (fun y s2 ρ2 z u ft2 F2 H2 G2 e2 a2 => ?_) (fun _ _ _ z => z) z)
    obtain ⟨dx, h1, z⟩ := rd_res G2 (a1.mono e2) z
    obtain ⟨dy, h2, z⟩ := rd_res G2 a2 z
    unfold oCat at z
    split at z
    · obtain ⟨a, xs, rfl, h3, h4⟩ := hs_lst G2.sub h1
      obtain ⟨b, ys, rfl, h5, h6⟩ := hs_lst G2.sub h2
      refine .inr (.inr (.inr ⟨a, b, xs, ys, rfl, rfl, h3, h5, by rw [big_eq, h4.length, h6.length]; exact z.1, fun p hp => ?_⟩))
      obtain ⟨G3, fp, fr⟩ := G2.born (.lst (xs ++ ys)) hp
      exact z.2 p _ _ _ G3 (e1.trans e2) fp ⟨_, upd_same, h4.append h6⟩ fr
    · exact z.elim
/-- parts of slices -/
abbrev DPO (S : Type) := S → En → (Option Int → S → En → Prop) → EK S → Prop
def dpN : DPO S := fun s ρ Q _ => Q none s ρ
def dpS (dx : DX S) : DPO S := fun s ρ Q E => dx s ρ (fun x s ρ => isInt x fun i => Q (some i) s ρ) E
def dSl (da : DOp S) (dl du : DPO S) : DX S := fun s ρ Q E => da s ρ (fun ra s ρ => dl s ρ (fun lo s ρ => du s ρ (fun hi s ρ => rdv s ρ (fun x => oSl lo hi x fun z => Q z s ρ) ra) E) E) E
structure SimP (K : PySem.W.Frag) (mg : Str → Option Value) (xc : XC) (R : Reg S) (W : WX) (to : TO) (dx : DPO S) : Prop where
  mono : ∀ {s ρ Q Q' E E'}, (∀ x s ρ, Q x s ρ → Q' x s ρ) → (∀ e s ρ, E e s ρ → E' e s ρ) → dx s ρ Q E → dx s ρ Q' E'
  run : ∀ {r B ft F H σ ρ s EX} {Q : Option Int → Hp → Prop}, Gd K mg xc R r B ft F H σ ρ s → WOk K mg xc R W r B σ EX →
    dx s ρ (fun x s' ρ' => ∀ ft' F' H', Gd K mg xc R r B ft' F' H' σ ρ' s' → Same F F' → Q x H') EX → to σ H Q
theorem simp_n : SimP K mg xc R W tNoPart (dpN (S := S)) := ⟨fun h _ z => h _ _ _ z, fun G _ q => q _ _ _ G (Same.refl _)⟩
theorem simp_s {te : TE} {dx : DX S} (h : SimE K mg xc R W te dx) : SimP K mg xc R W (tPart te) (dpS dx) where
  mono := fun hq e z => h.mono (fun _ _ _ z => isInt_mono (fun i z => hq _ _ _ z) z) e z
  run := fun G w q => h.run G w (h.mono (fun x s1 ρ1 z v ft1 F1 H1 G1 e1 a1 => by
    obtain ⟨i, rfl, z⟩ := isInt_of a1 z
    exact ⟨i, rfl, z _ _ _ G1 e1⟩) (fun _ _ _ z => z) q)
theorem sim_slO {ta : TE} {tl tu : TO} {da : DOp S} {dl du : DPO S} (ha : SimO K mg xc R W ta da) (hl : SimP K mg xc R W tl dl) (hu : SimP K mg xc R W tu du) : SimE K mg xc R W (tSl (rSlU K) ta tl tu) (dSl da dl du) where
  mono := fun h e z => ha.mono (fun _ _ _ z => hl.mono (fun _ _ _ z => hu.mono (fun _ _ _ z => rdv_mono (fun x z => (sim_sl (K := K) (mg := mg)).mono (fun u z => h _ _ _ z) z) z) e z) e z) e z
  run := fun {r' B ft F H σ ρ s EX Q} G w q => by
    refine ha.run G w (ha.mono (fun x s1 ρ1 z v ft1 F1 H1 G1 e1 a1 => ?_) (fun _ _ _ z => z) q)
    refine hl.run G1 w (hl.mono (fun lo s2 ρ2 z ft2 F2 H2 G2 e2 => ?_) (fun _ _ _ z => z) z)
    refine hu.run G2 w (hu.mono (fun hi s3 ρ3 z ft3 F3 H3 G3 e3 => ?_) (fun _ _ _ z => z) z)
    obtain ⟨dx, h1, z⟩ := rd_res G3 (a1.mono (e2.trans e3)) z
    refine (sim_sl (K := K) (mg := mg) (lo := lo) (hi := hi)).run G3.sub h1 ((sim_sl (K := K) (mg := mg)).mono (fun o z v' F' H' t hv => ?_) z)
    exact z v' _ F' H' (G3.pstep t) (((e1.trans e2).trans e3).trans t.grow) hv
end
section
variable {S : Type} [Pk S] {X : Cx} {xc : XC} {R : Reg S} [RegS X.K X.mg R] {W : WX} {e a b c : Expr} {es rest : List Expr} {te ta tb tc : TE} {tA : TA} {da db dc : DOp S} {dx dy dz : DX S} {dA : DA S} {tt tu : TT} {dt du : DT S} {pos : Pos}
theorem qv (i : Nat) {x : Str} (hN : X.N[i]? = some x := by rfl) (hv : Vis X.env.scope x := by first | exact Or.inl rfl | exact Or.inr (Or.inl rfl) | exact Or.inr (Or.inr rfl)) (hd : (x == ("__debug__" : Str)) = false := by decide) (hcd : (x == ("__classdict__" : Str)) = false := by decide) :
    QE X xc R W (.Name x pos) (tVar i) (dVar i) := ⟨fun k => pe_var hN hv hd hcd, sim_var i⟩
theorem ov (i : Nat) {x : Str} (hN : X.N[i]? = some x := by rfl) (hv : Vis X.env.scope x := by first | exact Or.inl rfl | exact Or.inr (Or.inl rfl) | exact Or.inr (Or.inr rfl)) (hd : (x == ("__debug__" : Str)) = false := by decide) (hcd : (x == ("__classdict__" : Str)) = false := by decide) :
    QO X xc R W (.Name x pos) (tVar i) (dOS i) := ⟨fun k => pe_var hN hv hd hcd, simo_slot i⟩
theorem oe (h : QE X xc R W e te dx) : QO X xc R W e te (dOV dx) := ⟨fun k => (h.pe k), simo_val h.sim⟩
theorem of (h : QF X xc R W e te dx) : QO X xc R W e te (dOV dx) := ⟨fun k => (h.pe k), simo_val (sim_of h.sim)⟩
theorem qf (h : QF X xc R W e te dx) : QE X xc R W e te dx := ⟨fun k => (h.pe k), sim_of h.sim⟩
theorem qint {i : Int} {j} : QE X xc R W (.Constant (.int i) j pos) (tC (.int i)) (dC (.int i)) := ⟨fun k => pe_int, sim_c fun _ => .int i⟩
theorem qbl {i : Bool} {j} : QE X xc R W (.Constant (.bool i) j pos) (tC (.bl i)) (dC (.bl i)) := ⟨fun k => pe_bl, sim_c fun _ => .bl i⟩
theorem qnon {j} : QE X xc R W (.Constant .none j pos) (tC .non) (dC .non) := ⟨fun k => pe_non, sim_c fun _ => .non⟩
theorem qstr {x : Str} {j} (o : OkS x := by exact okS_of (by decide +kernel) (by decide +kernel)) : QE X xc R W (.Constant (.str x) j pos) (tC (.str x)) (dC (.str x)) := ⟨fun k => pe_str, sim_c fun _ => .str x o⟩
def tGl (K : PySem.W.Frag) (mg : Str → Option Value) (d : D) : TE := fun _ H Q => ∀ v, (∀ F, Has K mg F v d) → Q v H
theorem qglob {x : Str} {d : D} (g : GlobD X.K X.mg x d) (hg : Gl X x := by rfl) (hd : (x == ("__debug__" : Str)) = false := by decide) : QE X xc R W (.Name x pos) (tGl X.K X.mg d) (dC d) := by
  obtain ⟨v, u, hm, r, h⟩ := g
  refine ⟨fun _ => PE.imp (pe_glob hg hm r hd) fun σ H Q q => q v h, ⟨fun h _ z => h _ _ _ z, fun G _ q => fun v hv => q v _ _ _ G (Same.refl _) (hv _)⟩⟩
theorem qbin {op : Operator} {r : R2} {f : DO2} (ho : OpR X (binaryOp op) r) (hr : SimH X.K X.mg r f) (ha : QO X xc R W a ta da) (hb : QO X xc R W b tb db) : QE X xc R W (.BinOp a op b pos) (tOp r ta tb) (dOpO f da db) := ⟨fun k => pe_op ho (ha.pe k) (hb.pe k), sim_opO hr ha.sim hb.sim⟩
theorem qcat (ha : QO X xc R W a ta da) (hb : QO X xc R W b tb db) : QF X xc R W (.BinOp a .Add b pos) (tOp (rAddU X.K) ta tb) (dOpO oCat da db) := ⟨fun k => pe_op op_addU (ha.pe k) (hb.pe k), simf_cat ha.sim hb.sim⟩
theorem qneg (ha : QO X xc R W a ta da) : QE X xc R W (.UnaryOp .USub a pos) (tUn (rU fun i => .int (-i)) ta) (dUnO oNeg da) := ⟨fun k => pe_un un_neg (ha.pe k), sim_unO (r := rU fun i => .int (-i)) (ta := ta) sim_neg ha.sim⟩
theorem qcmp {op : CmpOp} {r : R2} {f : DO2} (ho : OpR X (compareOp op) r) (hr : SimH X.K X.mg r f) (ha : QO X xc R W a ta da) (hb : QO X xc R W b tb db) (hm : behindInMarks op b = false) : QE X xc R W (.Compare a [op] [b] pos) (tOp r ta tb) (dOpO f da db) := ⟨fun k => pe_cmpR ho (ha.pe k) (hb.pe k) hm, sim_opO hr ha.sim hb.sim⟩
theorem tcmp {op : CmpOp} {r : R2} {f : DO2} (ho : OpR X (compareOp op) r) (hr : SimH X.K X.mg r f) (ha : QO X xc R W a ta da) (hb : QO X xc R W b tb db) (hm : behindInMarks op b = false) : QT X xc R W (.Compare a [op] [b] pos) (tTest (tOp r ta tb)) (dTst (dOpO f da db)) := ⟨fun k => pt_cmpR ho (ha.pe k) (hb.pe k) hm, simt_tst (sim_opO hr ha.sim hb.sim)⟩
theorem qchain {op op' : CmpOp} {r r' : R2} {f g : DO2} (ho : OpR X (compareOp op) r) (hr : SimH X.K X.mg r f) (ho' : OpR X (compareOp op') r') (hr' : SimH X.K X.mg r' g) (ha : QE X xc R W a ta dx) (hb : QE X xc R W b tb dy) (hc : QE X xc R W c tc dz) (hm : lastMarks [op, op'] [b, c] = false := by with_unfolding_all rfl) :
    QE X xc R W (.Compare a [op, op'] [b, c] pos) (tChain r r' ta tb tc) (dChain f g dx dy dz) := ⟨fun k => pe_chain ho ho' (ha.pe k) (hb.pe k) (hc.pe k) hm, sim_chain (simR_of hr) (simR_of hr') ha.sim hb.sim hc.sim⟩
theorem tchain {op op' : CmpOp} {r r' : R2} {f g : DO2} (ho : OpR X (compareOp op) r) (hr : SimH X.K X.mg r f) (ho' : OpR X (compareOp op') r') (hr' : SimH X.K X.mg r' g) (ha : QE X xc R W a ta dx) (hb : QE X xc R W b tb dy) (hc : QE X xc R W c tc dz) (hm : lastMarks [op, op'] [b, c] = false := by with_unfolding_all rfl) :
    QT X xc R W (.Compare a [op, op'] [b, c] pos) (tTest (tChain r r' ta tb tc)) (dTst (dChain f g dx dy dz)) := ⟨fun k => pt_chain ho ho' (ha.pe k) (hb.pe k) (hc.pe k) hm, simt_tst (sim_chain (simR_of hr) (simR_of hr') ha.sim hb.sim hc.sim)⟩
/-! tests -/
theorem tru (ha : QO X xc R W a ta da) (he : ∀ whole, isTrue a X.env whole = (do let v ← whole; standAt a.pos; holding [v] (truthy v)) := by intro _; rfl) : QT X xc R W a (fun σ H Q => ta σ H fun x H' => ∃ k, TruV X.K x H' k ∧ Q k H') (dTruO da) := ⟨fun k => pt_truth (ha.pe k) he, simt_truO ha.sim⟩
theorem wand1 (ha : QT X xc R W a tt dt) : QW X xc R W (.BoolOp .And [a] pos) tt dt := ⟨fun k => pw_and1 (ha.pt k), ha.sim⟩
theorem wor1 (ha : QT X xc R W a tt dt) : QW X xc R W (.BoolOp .Or [a] pos) tt dt := ⟨fun k => pw_or1 (ha.pt k), ha.sim⟩
theorem wand (ha : QT X xc R W a tt dt) (hb : QW X xc R W (.BoolOp .And (b :: rest) pos) tu du) : QW X xc R W (.BoolOp .And (a :: b :: rest) pos) (tAnd tt tu) (dTAnd dt du) := ⟨fun k => pw_and (ha.pt k) (hb.pw k), simt_and ha.sim hb.sim⟩
theorem wor (ha : QT X xc R W a tt dt) (hb : QW X xc R W (.BoolOp .Or (b :: rest) pos) tu du) : QW X xc R W (.BoolOp .Or (a :: b :: rest) pos) (tOr tt tu) (dTOr dt du) := ⟨fun k => pw_or (ha.pt k) (hb.pw k), simt_or ha.sim hb.sim⟩
theorem tw (h : QW X xc R W e tt dt) : QT X xc R W e tt dt := ⟨fun k => (h.pw k).pt, h.sim⟩
theorem tnot (ha : QT X xc R W a tt dt) : QT X xc R W (.UnaryOp .Not a pos) (tNot tt) (dTNot dt) := ⟨fun k => pt_not (ha.pt k), simt_not ha.sim⟩
/-! by truth, as values -/
theorem qone {op} (h : QE X xc R W a ta dx) : QE X xc R W (.BoolOp op [a] pos) ta dx := ⟨fun k => pe_one (h.pe k), h.sim⟩
theorem qand (ha : QE X xc R W a ta dx) (hb : QE X xc R W (.BoolOp .And (b :: rest) pos) tb dy) : QE X xc R W (.BoolOp .And (a :: b :: rest) pos) (tAndT X.K ta tb) (dAnd dx dy) := ⟨fun k => pe_andT (ha.pe k) (hb.pe k), sim_and ha.sim hb.sim⟩
theorem qor (ha : QE X xc R W a ta dx) (hb : QE X xc R W (.BoolOp .Or (b :: rest) pos) tb dy) : QE X xc R W (.BoolOp .Or (a :: b :: rest) pos) (tOrT X.K ta tb) (dOr dx dy) := ⟨fun k => pe_orT (ha.pe k) (hb.pe k), sim_or ha.sim hb.sim⟩
theorem qnot (ha : QE X xc R W a ta dx) : QE X xc R W (.UnaryOp .Not a pos) (tNotT X.K ta) (dNot dx) := ⟨fun k => pe_notT (ha.pe k), sim_not ha.sim⟩
theorem qif (hc : QT X xc R W c tt dt) (ha : QE X xc R W a ta dx) (hb : QE X xc R W b tb dy) : QE X xc R W (.IfExp c a b pos) (tIf tt ta tb) (dIfE dt dx dy) := ⟨fun k => pe_ifExp (hc.pt k) (ha.pe k) (hb.pe k), sim_ifE hc.sim ha.sim hb.sim⟩
/-! arguments, displays -/
theorem an : QA X xc R W [] tNil dNil := ⟨fun k => pa_nil, sim_nil⟩
theorem ac (ha : QE X xc R W e te dx) (hr : QA X xc R W es tA dA) (hs : starEach (e :: es) X.env = (false, eval e X.env) :: starEach es X.env := by rfl) : QA X xc R W (e :: es) (tCons te tA) (dCons dx dA) := ⟨fun k => pa_cons (ha.pe k) (hr.pa k) hs, sim_cons ha.sim hr.sim⟩
/-- a name: perhaps the box -/
theorem av (i : Nat) {x : Str} (hr : QA X xc R W es tA dA) (hs : starEach (.Name x pos :: es) X.env = (false, eval (.Name x pos) X.env) :: starEach es X.env := by rfl) (hN : X.N[i]? = some x := by rfl)
    (hv : Vis X.env.scope x := by first | exact Or.inl rfl | exact Or.inr (Or.inl rfl) | exact Or.inr (Or.inr rfl)) (hd : (x == ("__debug__" : Str)) = false := by decide) (hcd : (x == ("__classdict__" : Str)) = false := by decide) :
    QA X xc R W (.Name x pos :: es) (tCons (tVar i) tA) (dConsV i dA) := ⟨fun k => pa_cons (pe_var hN hv hd hcd) (hr.pa k) hs, sim_consV hr.sim⟩
theorem qtup {k} (h : QA X xc R W es tA dA) : QE X xc R W (.Tuple es k pos) (tTup tA) (dTup dA) := ⟨fun k => pe_tup (h.pa k), sim_tup h.sim⟩
theorem qlst (h : QA X xc R W es tA dA) : QF X xc R W (.List es pos) (tLst tA) (dLst dA) := ⟨fun k => pe_lst (h.pa k), simf_lst h.sim⟩
theorem qix (ha : QO X xc R W a ta da) (hb : QO X xc R W b tb db) (hs : PlainIx b := by intro _ _; rfl) : QE X xc R W (.Subscript a b pos) (tOp (rIx X.K) ta tb) (dOpO oIx da db) := ⟨fun k => pe_ix ix_seq (ha.pe k) (hb.pe k) hs, sim_opO sim_ix ha.sim hb.sim⟩
structure QP (X : Cx) (xc : XC) (R : Reg S) (W : WX) (e : Option Expr) (to : TO) (dx : DPO S) : Prop where
  po : TkOk X W → PO X e to
  sim : SimP X.K X.mg xc R W to dx
theorem pn : QP X xc R W none tNoPart (dpN (S := S)) := ⟨fun k => po_none, simp_n⟩
theorem psm (h : QE X xc R W e te dx) : QP X xc R W (some e) (tPart te) (dpS dx) := ⟨fun k => po_some (h.pe k), simp_s h.sim⟩
theorem qsl {lo hi : Option Expr} {tl tu : TO} {dl du : DPO S} {p2 : Pos} (ha : QO X xc R W a ta da) (hl : QP X xc R W lo tl dl) (hu : QP X xc R W hi tu du) : QE X xc R W (.Subscript a (.Slice lo hi none p2) pos) (tSl (rSlU X.K) ta tl tu) (dSl da dl du) := ⟨fun k => pe_slice sl_U (ha.pe k) (hl.po k) (hu.po k), sim_slO ha.sim hl.sim hu.sim⟩
/-! built-ins of one argument -/
theorem qbi {x : Str} {id : String} {r : List V → Hp → VK → Prop} {f : DO1} {p : Pos} (hc : CallR X (.builtin id) r) (hs : SimH1 X.K X.mg (r1 r) f) (hm : X.mg x = none) (hv : bootBuiltins x = some (.builtin id)) (ha : QO X xc R W e te da) (hg : Gl X x := by rfl) (hn : x ≠ "__name__" := by decide)
    (hdb : (x == ("__debug__" : Str)) = false := by decide) (he : starEach [e] X.env = (false, eval e X.env) :: starEach [] X.env := by rfl) (hpl : (backTo pos (starEach [] X.env)).any (·.1) = false := by rfl) :
    QE X xc R W (.Call (.Name x p) [e] [] pos) (tCB r (tCons te tNil)) (dUnO f da) := ⟨fun k => pe_callB hc hg hm hv (pa_cons (ha.pe k) pa_nil he) hn hdb he hpl, sim_unO (r := r1 r) (ta := te) hs ha.sim⟩
theorem qty {x : Str} {T : String} {r : List V → Hp → VK → Prop} {f : DO1} {p : Pos} (hc : CallR X (.type T) r) (hs : SimH1 X.K X.mg (r1 r) f) (hm : X.mg x = none) (hv : bootBuiltins x = some (.type T)) (ha : QO X xc R W e te da) (hg : Gl X x := by rfl) (hn : x ≠ "__name__" := by decide)
    (hdb : (x == ("__debug__" : Str)) = false := by decide) (he : starEach [e] X.env = (false, eval e X.env) :: starEach [] X.env := by rfl) (hpl : (backTo pos (starEach [] X.env)).any (·.1) = false := by rfl) :
    QE X xc R W (.Call (.Name x p) [e] [] pos) (tCB r (tCons te tNil)) (dUnO f da) := ⟨fun k => pe_callTy hc hg hm hv (pa_cons (ha.pe k) pa_nil he) hn hdb he hpl, sim_unO (r := r1 r) (ta := te) hs ha.sim⟩
theorem qlist {p : Pos} (hm : X.mg "list" = none) (ha : QO X xc R W e te da) (hg : Gl X "list" := by rfl) (he : starEach [e] X.env = (false, eval e X.env) :: starEach [] X.env := by rfl) (hpl : (backTo pos (starEach [] X.env)).any (·.1) = false := by rfl) :
    QF X xc R W (.Call (.Name "list" p) [e] [] pos) (tCB (rLstU X.K) (tCons te tNil)) (dUnO oList da) := ⟨fun k => pe_callTy call_lstU hg hm (by decide +kernel) (pa_cons (ha.pe k) pa_nil he) (by decide) (by decide) he hpl, simf_list ha.sim⟩
/-! comprehensions -/
theorem qlc {elt tg iter : Expr} {scope : Scope} {wi : TI} {g : TG} {di : DI S} {dg : DG} {is : List Nat} (own : List (Str × Nat)) (nd : X.N.Nodup) (hi : QI X xc R W tg iter wi di) (ok : BlkOk X.N X.env.scope scope own)
    (hg : ∀ (s : Shared) (H : Hp) (C : Addr) (cl : List (Str × Addr)) (fp : List Addr), QG (X.blk s H scope (compEnvC scope cl C X.env) fp) xc R tg g dg is) (hv : ∀ i ∈ is, i ∈ own.map (·.2))
    (he : ∀ (s : Shared) (H : Hp) (C : Addr) (cl : List (Str × Addr)) (fp : List Addr), QE (X.blk s H scope (compEnvC scope cl C X.env) fp) xc R WF elt te dx) (hc : X.calm = true := by rfl) (hs : ∀ x, foldedSetIterable iter X.env x = pure x := by intro _; rfl) :
    QF X xc R W (.ListComp elt [⟨tg, iter, [], 0⟩] scope pos) (tLc wi g tYes te (own.map (·.2))) (dLc di dg dYes dx (own.map (·.2))) :=
  ⟨fun k => pe_lc hc nd (hi.pi k) ok (fun s H C cl fp => (hg s H C cl fp).pg) (fun _ _ _ _ _ => pts_nil) (fun s H C cl fp => (he s H C cl fp).pe (kF rfl)) hs, simf_lc (W0 := WF) hi.sim (hg X.s_0 X.H_0 0 [] []).sim simt_yes (he X.s_0 X.H_0 0 [] []).sim hv⟩
theorem qlcIf {elt tg iter cd : Expr} {scope : Scope} {wi : TI} {g : TG} {di : DI S} {dg : DG} {is : List Nat} (own : List (Str × Nat)) (nd : X.N.Nodup) (hi : QI X xc R W tg iter wi di) (ok : BlkOk X.N X.env.scope scope own)
    (hg : ∀ (s : Shared) (H : Hp) (C : Addr) (cl : List (Str × Addr)) (fp : List Addr), QG (X.blk s H scope (compEnvC scope cl C X.env) fp) xc R tg g dg is) (hv : ∀ i ∈ is, i ∈ own.map (·.2))
    (ht : ∀ (s : Shared) (H : Hp) (C : Addr) (cl : List (Str × Addr)) (fp : List Addr), QT (X.blk s H scope (compEnvC scope cl C X.env) fp) xc R WF cd tt dt)
    (he : ∀ (s : Shared) (H : Hp) (C : Addr) (cl : List (Str × Addr)) (fp : List Addr), QE (X.blk s H scope (compEnvC scope cl C X.env) fp) xc R WF elt te dx) (hc : X.calm = true := by rfl) (hs : ∀ x, foldedSetIterable iter X.env x = pure x := by intro _; rfl) :
    QF X xc R W (.ListComp elt [⟨tg, iter, [cd], 0⟩] scope pos) (tLc wi g tt te (own.map (·.2))) (dLc di dg dt dx (own.map (·.2))) :=
  ⟨fun k => pe_lc hc nd (hi.pi k) ok (fun s H C cl fp => (hg s H C cl fp).pg) (fun s H C cl fp => pts_one ((ht s H C cl fp).pt (kF rfl))) (fun s H C cl fp => (he s H C cl fp).pe (kF rfl)) hs, simf_lc (W0 := WF) hi.sim (hg X.s_0 X.H_0 0 [] []).sim (ht X.s_0 X.H_0 0 [] []).sim (he X.s_0 X.H_0 0 [] []).sim hv⟩
/-! what is walked; targets -/
theorem iu {tg : Expr} (h : QE X xc R W e te dx) : QI X xc R W tg e (iU X.K te) (dIt dx) := ⟨fun k => pi_U (h.pe k), simi_U h.sim⟩
theorem ir1 {tg : Expr} {p : Pos} (hm : X.mg "range" = none) (h : QE X xc R W e te dx) (hg : Gl X "range" := by rfl) (hs : starEach [e] X.env = [(false, eval e X.env)] := by rfl) : QI X xc R W tg (.Call (.Name "range" p) [e] [] pos) (iRng1 (tCons te tNil)) (dRng1 dx) := ⟨fun k => pi_range1 hg hm (pa_cons (h.pe k) pa_nil hs) hs, simi_rng1 h.sim⟩
theorem ir2 {tg : Expr} {p : Pos} (hm : X.mg "range" = none) (h : QE X xc R W a ta dx) (h' : QE X xc R W b tb dy) (hg : Gl X "range" := by rfl) (hs : starEach [a, b] X.env = [(false, eval a X.env), (false, eval b X.env)] := by rfl) (hs2 : starEach [b] X.env = [(false, eval b X.env)] := by rfl) :
    QI X xc R W tg (.Call (.Name "range" p) [a, b] [] pos) (iRng2 (tCons ta (tCons tb tNil))) (dRng2 dx dy) := ⟨fun k => pi_range2 hg hm (pa_cons (h.pe k) (pa_cons (h'.pe k) pa_nil hs2) (by rw [hs, hs2])) hs hs2, simi_rng2 h.sim h'.sim⟩
theorem ien {elts : List Expr} {kk : Nat} {p tpos : Pos} (hm : X.mg "enumerate" = none) (h : QE X xc R W e te dx) (hg : Gl X "enumerate" := by rfl) (hs : starEach [e] X.env = [(false, eval e X.env)] := by rfl) : QI X xc R W (.Tuple elts kk tpos) (.Call (.Name "enumerate" p) [e] [] pos) (iEnum X.K (tCons te tNil)) (dEnum dx) := ⟨fun k => pi_enum hg hm (pa_cons (h.pe k) pa_nil hs) hs, simi_enum h.sim⟩
theorem irev {tg : Expr} {p : Pos} (hm : X.mg "reversed" = none) (h : QE X xc R W e te dx) (hg : Gl X "reversed" := by rfl) (hs : starEach [e] X.env = [(false, eval e X.env)] := by rfl) : QI X xc R W tg (.Call (.Name "reversed" p) [e] [] pos) (iRev X.K (tCons te tNil)) (dRev dx) := ⟨fun k => pi_reversed hg hm (pa_cons (h.pe k) pa_nil hs) hs, simi_rev h.sim⟩
theorem izip {elts : List Expr} {kk : Nat} {p tpos : Pos} (hm : X.mg "zip" = none) (h : QE X xc R W a ta dx) (h' : QE X xc R W b tb dy) (hg : Gl X "zip" := by rfl) (hs : starEach [a, b] X.env = (false, eval a X.env) :: starEach [b] X.env := by rfl) (hs2 : starEach [b] X.env = (false, eval b X.env) :: starEach [] X.env := by rfl) (hpl : (backTo pos (starEach [b] X.env)).any (·.1) = false := by rfl) :
    QI X xc R W (.Tuple elts kk tpos) (.Call (.Name "zip" p) [a, b] [] pos) (iZipA X.K (tCons ta (tCons tb tNil))) (dZip dx dy) := ⟨fun k => pi_zipA hg hm (pa_cons (h.pe k) (pa_cons (h'.pe k) pa_nil hs2) hs) hs hpl, simi_zip h.sim h'.sim⟩
theorem gn (i : Nat) {x : Str} (nd : X.N.Nodup) (hi : X.N[i]? = some x := by rfl) (hx : Loc X.env.scope x := by first | exact Or.inl rfl | exact Or.inr rfl) (hf : X.fn x = true ∨ X.env.scope.names.lookup x = some .local := by first | exact .inl rfl | exact .inr rfl | assumption) : QG X xc R (.Name x pos) (gName i) (gNm i) [i] := ⟨pg_name nd hi hx hf, simg_nm i⟩
structure QNs (X : Cx) (es : List Expr) (is : List Nat) : Prop where
  pgs : PGs X es (gNms is)
theorem nn : QNs X [] [] := ⟨pgs_nil⟩
theorem ncs (i : Nat) {x : Str} {is : List Nat} (nd : X.N.Nodup) (hr : QNs X es is) (hi : X.N[i]? = some x := by rfl) (hx : Loc X.env.scope x := by first | exact Or.inl rfl | exact Or.inr rfl) (hf : X.fn x = true ∨ X.env.scope.names.lookup x = some .local := by first | exact .inl rfl | exact .inr rfl | assumption)
    (hs : (assignEach (.Name x pos :: es) X.env).map (·.2) = assign (.Name x pos) X.env :: (assignEach es X.env).map (·.2) := by rfl) : QNs X (.Name x pos :: es) (i :: is) := ⟨pgs_cons (pg_name nd hi hx hf) hr.pgs hs⟩
theorem gt {k} {is : List Nat} (n : Nat) (h : QNs X es is) (hl : is.length = n := by rfl) (hc : X.calm = true := by rfl) (hn : (assignEach es X.env).length = n := by rfl) (hst : (assignEach es X.env).findIdx? (·.1) = none := by rfl) : QG X xc R (.Tuple es k pos) (gTup X.K n (gNms is)) (gTp is) is := ⟨pg_tup hc h.pgs hn hst, simg_tp is hl⟩
end
end DL

set_option linter.all false
set_option maxRecDepth 100000
set_option maxHeartbeats 2000000
/-! statements -/
namespace DL
open PySem PySem.Spec PyProof.Rows L2 GR N01 RZ
section
variable {S : Type} [Pk S] {X : Cx} {xc : XC} {R : Reg S} [RegS X.K X.mg R] {W : WX} {e a b c : Expr} {es rest : List Expr} {te ta tb tc : TE} {tA : TA} {da db dc : DOp S} {dx dy dz : DX S} {dA : DA S} {tt tu : TT} {dt du : DT S} {pos : Pos} {st : Stmt} {sts ss : List Stmt} {ts us : TS} {ds dr : DS S}
theorem ssn : QSs X xc R W [] tNext (dNext (S := S)) := ⟨fun k => pss_nil, sims_next⟩
theorem ssc (h : QS X xc R W st ts ds) (hr : QSs X xc R W sts us dr) : QSs X xc R W (st :: sts) (tSeq ts us) (dSeq ds dr) := ⟨fun k => pss_cons (h.ps k) (hr.ps k), sims_seq h.sim hr.sim⟩
theorem sso (h : QS X xc R W st ts ds) : QSs X xc R W [st] ts ds := ⟨fun k => pss_one (h.ps k), h.sim⟩
theorem spass : QS X xc R W (.Pass pos) tNext (dNext (S := S)) := ⟨fun k => ps_pass, sims_next⟩
theorem sbreak : QS X xc R W (.Break pos) tBreak (dBrk (S := S)) := ⟨fun k => ps_break, sims_brk⟩
theorem scont : QS X xc R W (.Continue pos) tCont (dCnt (S := S)) := ⟨fun k => ps_continue, sims_cnt⟩
theorem sset (i : Nat) {x : Str} {pos' : Pos} (nd : X.N.Nodup) (h : QE X xc R W e te dx) (hi : X.N[i]? = some x := by rfl) (hx : Loc X.env.scope x := by first | exact Or.inl rfl | exact Or.inr rfl) (hs : swapsWith e (some (.Name x pos')) pos.line X.env = pure false := by rfl) (hf : X.fn x = true ∨ X.env.scope.names.lookup x = some .local := by first | exact .inl rfl | exact .inr rfl | assumption) :
    QS X xc R W (.Assign [.Name x pos'] e pos) (tAsg te (gName i)) (dAsg i dx) := ⟨fun k => ps_set nd hi hx (h.pe k) hs hf, sims_asg h.sim⟩
theorem ssetF (i : Nat) {x : Str} {pos' : Pos} (nd : X.N.Nodup) (h : QF X xc R W e te dx) (hi : X.N[i]? = some x := by rfl) (hx : Loc X.env.scope x := by first | exact Or.inl rfl | exact Or.inr rfl) (hs : swapsWith e (some (.Name x pos')) pos.line X.env = pure false := by rfl) (hf : X.fn x = true ∨ X.env.scope.names.lookup x = some .local := by first | exact .inl rfl | exact .inr rfl | assumption) :
    QS X xc R W (.Assign [.Name x pos'] e pos) (tAsg te (gName i)) (dAsgF i dx) := ⟨fun k => ps_set nd hi hx (h.pe k) hs hf, sims_asgF h.sim⟩
/-- name = [.. for ..] -/
theorem slc (i : Nat) {y : Str} {py spos : Pos} {elt tg iter : Expr} {scope : Scope} {wi : TI} {g : TG} {di : DI S} {dg : DG} {is : List Nat} (own : List (Str × Nat)) (nd : X.N.Nodup) (hi : QI X xc R W tg iter wi di) (ok : BlkOk X.N X.env.scope scope own)
    (hg : ∀ (s : Shared) (H : Hp) (C : Addr) (cl : List (Str × Addr)) (fp : List Addr), QG (X.blk s H scope (compEnvC scope cl C X.env) fp) xc R tg g dg is) (hv : ∀ i ∈ is, i ∈ own.map (·.2))
    (he : ∀ (s : Shared) (H : Hp) (C : Addr) (cl : List (Str × Addr)) (fp : List Addr), QE (X.blk s H scope (compEnvC scope cl C X.env) fp) xc R WF elt te dx)
    (hsw : swapsWith (.ListComp elt [⟨tg, iter, [], 0⟩] scope pos) (some (.Name y py)) spos.line X.env = pure true) (hy : X.N[i]? = some y := by rfl) (hyl : X.env.scope.names.lookup y = some .local := by rfl) (hc : X.calm = true := by rfl) (hs : ∀ x, foldedSetIterable iter X.env x = pure x := by intro _; rfl) :
    QS X xc R W (.Assign [.Name y py] (.ListComp elt [⟨tg, iter, [], 0⟩] scope pos) spos) (tAsg (tLc wi g tYes te (own.map (·.2))) (gName i)) (dAsgF i (dLc di dg dYes dx (own.map (·.2)))) :=
  ⟨fun k => ps_setLc hc nd hy hyl hsw (hi.pi k) ok (fun s H C cl fp => (hg s H C cl fp).pg) (fun _ _ _ _ _ => pts_nil) (fun s H C cl fp => (he s H C cl fp).pe (kF rfl)) hs, sims_asgF (simf_lc (W0 := WF) hi.sim (hg X.s_0 X.H_0 0 [] []).sim simt_yes (he X.s_0 X.H_0 0 [] []).sim hv)⟩
theorem slcIf (i : Nat) {y : Str} {py spos : Pos} {elt tg iter cd : Expr} {scope : Scope} {wi : TI} {g : TG} {di : DI S} {dg : DG} {is : List Nat} (own : List (Str × Nat)) (nd : X.N.Nodup) (hi : QI X xc R W tg iter wi di) (ok : BlkOk X.N X.env.scope scope own)
    (hg : ∀ (s : Shared) (H : Hp) (C : Addr) (cl : List (Str × Addr)) (fp : List Addr), QG (X.blk s H scope (compEnvC scope cl C X.env) fp) xc R tg g dg is) (hv : ∀ i ∈ is, i ∈ own.map (·.2))
    (ht : ∀ (s : Shared) (H : Hp) (C : Addr) (cl : List (Str × Addr)) (fp : List Addr), QT (X.blk s H scope (compEnvC scope cl C X.env) fp) xc R WF cd tt dt)
    (he : ∀ (s : Shared) (H : Hp) (C : Addr) (cl : List (Str × Addr)) (fp : List Addr), QE (X.blk s H scope (compEnvC scope cl C X.env) fp) xc R WF elt te dx)
    (hsw : swapsWith (.ListComp elt [⟨tg, iter, [cd], 0⟩] scope pos) (some (.Name y py)) spos.line X.env = pure true) (hy : X.N[i]? = some y := by rfl) (hyl : X.env.scope.names.lookup y = some .local := by rfl) (hc : X.calm = true := by rfl) (hs : ∀ x, foldedSetIterable iter X.env x = pure x := by intro _; rfl) :
    QS X xc R W (.Assign [.Name y py] (.ListComp elt [⟨tg, iter, [cd], 0⟩] scope pos) spos) (tAsg (tLc wi g tt te (own.map (·.2))) (gName i)) (dAsgF i (dLc di dg dt dx (own.map (·.2)))) :=
  ⟨fun k => ps_setLc hc nd hy hyl hsw (hi.pi k) ok (fun s H C cl fp => (hg s H C cl fp).pg) (fun s H C cl fp => pts_one ((ht s H C cl fp).pt (kF rfl))) (fun s H C cl fp => (he s H C cl fp).pe (kF rfl)) hs, sims_asgF (simf_lc (W0 := WF) hi.sim (hg X.s_0 X.H_0 0 [] []).sim (ht X.s_0 X.H_0 0 [] []).sim (he X.s_0 X.H_0 0 [] []).sim hv)⟩
/-- a, b = a tuple -/
theorem sunp {tg : Expr} {g : TG} {dg : DG} {is : List Nat} (hg : QG X xc R tg g dg is) (h : QE X xc R W e te dx) (hs : swapsWithSole [tg] e pos.line X.env = pure false := by rfl) (hw : swappedStores [tg] e X.env = pure none := by rfl)
    (h1 : (assignEach [tg] X.env).map (·.2) = [assign tg X.env] := by rfl) : QS X xc R W (.Assign [tg] e pos) (tAsg te g) (dAsgG dg dx) := ⟨fun k => ps_asg (h.pe k) hg.pg hs hw h1, sims_asgG h.sim hg.sim⟩
/-- xs[j] = e, xs one's own -/
theorem sput (i : Nat) {x : Str} {px ps : Pos} (hj : QE X xc R W b tb dy) (h : QE X xc R W e te dx) (hN : X.N[i]? = some x := by rfl) (hv : Vis X.env.scope x := by first | exact Or.inl rfl | exact Or.inr (Or.inl rfl) | exact Or.inr (Or.inr rfl)) (hd : (x == ("__debug__" : Str)) = false := by decide) (hcd : (x == ("__classdict__" : Str)) = false := by decide)
    (ha : ∀ v, assign (.Subscript (.Name x px) b ps) X.env v = (do
      let ov ← holding [v] (eval (.Name x px) X.env)
      let iv ← holding [v, ov] (eval b X.env)
      standAt ps
      holding [v, ov, iv] (setItem ov iv v)
      release [v, ov, iv] []) := by intro _; rfl) (hs : swapsWithSole [.Subscript (.Name x px) b ps] e pos.line X.env = pure false := by rfl) (hw : swappedStores [.Subscript (.Name x px) b ps] e X.env = pure none := by rfl)
    (h1 : (assignEach [.Subscript (.Name x px) b ps] X.env).map (·.2) = [assign (.Subscript (.Name x px) b ps) X.env] := by rfl) :
    QS X xc R W (.Assign [.Subscript (.Name x px) b ps] e pos) (tAsg te (gSub (tVar i) tb rSetL)) (dPut i dy dx) := ⟨fun k => ps_asg (h.pe k) (pg_sub (pe_var hN hv hd hcd) (hj.pe k) set_list ha) hs hw h1, sims_put hj.sim h.sim⟩
theorem saug {op : Operator} {f : Int → Int → Int} (i : Nat) {x : Str} {px : Pos} (nd : X.N.Nodup) (hp : PIp X op (ipI f)) (h : QE X xc R W e te dx) (hi : X.N[i]? = some x := by rfl) (hx : Loc X.env.scope x := by first | exact Or.inl rfl | exact Or.inr rfl) (hf : X.fn x = true ∨ X.env.scope.names.lookup x = some .local := by first | exact .inl rfl | exact .inr rfl | assumption) :
    QS X xc R W (.AugAssign (.Name x px) op e pos) (tAug i te (ipI f)) (dAug i f dx) := ⟨fun k => ps_aug nd hi hx (h.pe k) hp hf, sims_aug h.sim⟩
theorem sexpr (h : QE X xc R W e te dx) (hs : swapsWith e none pos.line X.env = pure false := by rfl) : QS X xc R W (.Expr e pos) (tDrop te) (dDrop dx) := ⟨fun k => ps_expr (h.pe k) hs, sims_drop h.sim⟩
theorem sret (h : QE X xc R W e te dx) : QS X xc R W (.Return (some e) pos) (tRet te) (dRet dx) := ⟨fun k => ps_ret (h.pe k), sims_ret h.sim⟩
theorem sretN : QS X xc R W (.Return none pos) tRetN (dRetN (S := S)) := ⟨fun k => ps_retN, sims_retN⟩
theorem sif (hc : QT X xc R W c tt dt) (ha : QSs X xc R W sts ts ds) (hb : QSs X xc R W ss us dr) : QS X xc R W (.If c sts ss pos) (tIfS tt ts us) (dIf dt ds dr) := ⟨fun k => ps_if (hc.pt k) (ha.ps k) (hb.ps k), sims_if hc.sim ha.sim hb.sim⟩
theorem sfor {tg iter : Expr} {wi : TI} {g : TG} {di : DI S} {dg : DG} {is : List Nat} (hi : QI X xc R W tg iter wi di) (hg : QG X xc R tg g dg is) (hb : QSs X xc R W sts ts ds) (hc : X.calm = true := by rfl) (hs : ∀ x, foldedSetIterable iter X.env x = pure x := by intro _; rfl) :
    QS X xc R W (.For tg iter sts [] pos) (tFor wi g ts) (dFor di dg ds) := ⟨fun k => ps_for k.po hc (hi.pi k) hg.pg (hb.ps k) hs, sims_for hi.sim hg.sim hb.sim⟩
theorem swhile (hc : QT X xc R W c tt dt) (hb : QSs X xc R W sts ts ds) : QS X xc R W (.While c sts [] pos) (tWhile tt ts) (dWhile dt ds) := ⟨fun k => ps_while k.po (hc.pt k) (hb.ps k), sims_while hc.sim hb.sim⟩
/-! a list of one's own grows -/
theorem sapp (i : Nat) {x : Str} {px apos cpos : Pos} (h : QE X xc R W e te dx) (hN : X.N[i]? = some x := by rfl) (hv : Vis X.env.scope x := by first | exact Or.inl rfl | exact Or.inr (Or.inl rfl) | exact Or.inr (Or.inr rfl)) (hd : (x == ("__debug__" : Str)) = false := by decide) (hcd : (x == ("__classdict__" : Str)) = false := by decide)
    (hbase : attributeBase (.Name x px) "append" X.env (eval (.Name x px) X.env) = eval (.Name x px) X.env := by rfl)
    (hfew : ((backTo cpos (starEach [e] X.env)).all (fun x => !x.1) && (backToKw cpos (keywordEach [] X.env)).all (fun x => x.1.isSome) && decide ([e].length + ([] : List Keyword).length + (if ([] : List Keyword).isEmpty then 0 else 1) < 30)) = true := by rfl)
    (hline : (apos.endLine == cpos.line) = true := by rfl) (hse : starEach [e] X.env = (false, eval e X.env) :: starEach [] X.env := by rfl) (hpl : (backTo cpos (starEach [] X.env)).any (·.1) = false := by rfl)
    (hs : swapsWith (.Call (.Attribute (.Name x px) "append" apos) [e] [] cpos) none pos.line X.env = pure false := by rfl) :
    QS X xc R W (.Expr (.Call (.Attribute (.Name x px) "append" apos) [e] [] cpos) pos) (tDrop (tBM X.K "list" rAppend (tVar i) (tCons te tNil))) (dApp i dx) :=
  ⟨fun k => ps_expr (pe_bm PySem.F.plainAttrs_list PySem.F.slot_list_append PySem.F.type_list_append mt_append (pe_var hN hv hd hcd) (pa_cons (h.pe k) pa_nil hse) hbase hfew hline hse hpl) hs, sims_app h.sim⟩
theorem sextend (i : Nat) {x : Str} {px apos cpos : Pos} (h : QE X xc R W e te dx) (hN : X.N[i]? = some x := by rfl) (hv : Vis X.env.scope x := by first | exact Or.inl rfl | exact Or.inr (Or.inl rfl) | exact Or.inr (Or.inr rfl)) (hd : (x == ("__debug__" : Str)) = false := by decide) (hcd : (x == ("__classdict__" : Str)) = false := by decide)
    (hbase : attributeBase (.Name x px) "extend" X.env (eval (.Name x px) X.env) = eval (.Name x px) X.env := by rfl)
    (hfew : ((backTo cpos (starEach [e] X.env)).all (fun x => !x.1) && (backToKw cpos (keywordEach [] X.env)).all (fun x => x.1.isSome) && decide ([e].length + ([] : List Keyword).length + (if ([] : List Keyword).isEmpty then 0 else 1) < 30)) = true := by rfl)
    (hline : (apos.endLine == cpos.line) = true := by rfl) (hse : starEach [e] X.env = (false, eval e X.env) :: starEach [] X.env := by rfl) (hpl : (backTo cpos (starEach [] X.env)).any (·.1) = false := by rfl)
    (hs : swapsWith (.Call (.Attribute (.Name x px) "extend" apos) [e] [] cpos) none pos.line X.env = pure false := by rfl) :
    QS X xc R W (.Expr (.Call (.Attribute (.Name x px) "extend" apos) [e] [] cpos) pos) (tDrop (tBM X.K "list" rExtend (tVar i) (tCons te tNil))) (dExt i dx) :=
  ⟨fun k => ps_expr (pe_bm PySem.F.plainAttrs_list PySem.F.slot_list_extend PySem.F.type_list_extend mt_extend (pe_var hN hv hd hcd) (pa_cons (h.pe k) pa_nil hse) hbase hfew hline hse hpl) hs, sims_ext h.sim⟩
/-! methods of texts and lists -/
theorem qm {T id : String} {name : Str} {r : V → List V → Hp → VK → Prop} {ty : D → Prop} {f : D → DOA} {apos cpos : Pos} (pa : PlainAttrs T) (slot : Slot T name id) (hty : typeOf (.builtin id) = pure (.type "method_descriptor")) (hm : MtR X id r) (hs : SimM X.K X.mg T r ty f)
    (ho : QE X xc R W a ta dx) (h : QA X xc R W (e :: es) tA dA) (hbase : attributeBase a name X.env (eval a X.env) = eval a X.env := by rfl)
    (hfew : ((backTo cpos (starEach (e :: es) X.env)).all (fun x => !x.1) && (backToKw cpos (keywordEach [] X.env)).all (fun x => x.1.isSome) && decide ((e :: es).length + ([] : List Keyword).length + (if ([] : List Keyword).isEmpty then 0 else 1) < 30)) = true := by rfl)
    (hline : (apos.endLine == cpos.line) = true := by rfl) (hse : starEach (e :: es) X.env = (false, eval e X.env) :: starEach es X.env := by rfl) (hpl : (backTo cpos (starEach es X.env)).any (·.1) = false := by rfl) :
    QE X xc R W (.Call (.Attribute a name apos) (e :: es) [] cpos) (tBM X.K T r ta tA) (dM ty f dx dA) := ⟨fun k => pe_bm pa slot hty hm (ho.pe k) (h.pa k) hbase hfew hline hse hpl, sim_M hs ho.sim h.sim⟩
theorem qm0 {T id : String} {name : Str} {r : V → List V → Hp → VK → Prop} {ty : D → Prop} {f : D → DOA} {apos cpos : Pos} (pa : PlainAttrs T) (slot : Slot T name id) (hty : typeOf (.builtin id) = pure (.type "method_descriptor")) (hm : MtR X id r) (hs : SimM X.K X.mg T r ty f)
    (ho : QE X xc R W a ta dx) (hbase : attributeBase a name X.env (eval a X.env) = eval a X.env := by rfl) (hline : (apos.endLine == cpos.line) = true := by rfl) :
    QE X xc R W (.Call (.Attribute a name apos) [] [] cpos) (tBM0 X.K T r ta) (dM ty f dx dNil) := ⟨fun k => pe_bm0 pa slot hty hm (ho.pe k) hbase hline, sim_M0 hs ho.sim⟩
end
/-! what the methods answer -/
def isStr : D → Prop
  | .str _ => True
  | _ => False
section
variable {K : PySem.W.Frag} {mg : Str → Option Value}
theorem has_str {F : Hp} {v : V} {x : Str} (h : Has K mg F v (.str x)) : v = .str x ∧ OkS x := by cases h; exact ⟨rfl, ‹_›⟩
theorem ty_str {F H : Hp} {x : V} {dx : D} (e : Same F H) (h : Has K mg F x dx) (t : isStr dx) : tyV K "str" x H := by
  cases h <;> first | rfl | exact (show False from t).elim
/-- x.split(y) -/
def mSplit : D → DOA := fun x cs Q => match x, cs with
  | .str a, [.d (.str b)] => (b.length == 0) = false ∧ a.length + 2 ≤ BIG ∧ Q (.lst ((Txt.split a b).map D.str))
  | _, _ => False
def rSplit : V → List V → Hp → VK → Prop := fun x xs H Q => ∃ a b, x = .str a ∧ xs = [.str b] ∧ (b.length == 0) = false ∧ a.length + 2 ≤ sizeLine ∧ rNewStrs (Txt.split a b) H Q
theorem mt_splitD {X : Cx} : MtR X "str.split" rSplit := mt_split
theorem args1 {r : Addr} {F : Hp} {vs : List V} {x : D} (h : ArL K mg r F vs [.d x]) : ∃ v, vs = [v] ∧ Has K mg F v x := by
  cases h with
  | cons a t => cases t; exact ⟨_, rfl, a⟩
theorem args2 {r : Addr} {F : Hp} {vs : List V} {x y : D} (h : ArL K mg r F vs [.d x, .d y]) : ∃ v u, vs = [v, u] ∧ Has K mg F v x ∧ Has K mg F u y := by
  cases h with
  | cons a t =>
    obtain ⟨u, rfl, h2⟩ := args1 t
    exact ⟨_, _, rfl, a, h2⟩
theorem sim_split : SimM K mg "str" rSplit isStr mSplit where
  ty := ty_str
  mono := fun {x cs Q Q'} h z => by
    unfold mSplit at z ⊢
    split at z
    · exact ⟨z.1, z.2.1, h _ z.2.2⟩
    · exact z.elim
  run := fun {q F H x dx vs cs Q} e hx ha z => by
    unfold mSplit at z
    split at z
    · rename_i a b
      obtain ⟨rfl, o1⟩ := has_str hx
      obtain ⟨v, rfl, hv⟩ := args1 ha
      obtain ⟨rfl, o2⟩ := has_str hv
      refine ⟨_, _, rfl, rfl, z.1, by rw [big_eq]; exact z.2.1, fun p hp => ?_⟩
      have t := PStep.new (o := .lst ((Txt.split a b).map V.str)) e hp
      exact z.2.2 _ _ _ t (.lst upd_same (hasL_strs fun y hy => o1.split hy))
    · exact z.elim
end
end DL

set_option linter.all false
set_option maxRecDepth 100000
set_option maxHeartbeats 2000000
/-! exceptions -/
namespace DL
open PySem PySem.Spec PyProof.Rows L2 GR N01 RZ
/-- no caught error is in a slot -/
def clearX (ρ : En) : En := ρ.map fun o => match o with
  | some (.exc _) => none
  | o => o
theorem clearX_get {ρ : En} {i : Nat} {c : C} (h : (clearX ρ)[i]? = some (some c)) : ρ[i]? = some (some c) ∧ ∀ e, c ≠ .exc e := by
  unfold clearX at h
  rw [List.getElem?_map] at h
  cases q : ρ[i]? with
  | none => rw [q] at h; cases h
  | some o =>
    rw [q] at h
    simp only [Option.map_some, Option.some.injEq] at h
    split at h
    · cases h
    · rename_i hne
      subst h
      exact ⟨rfl, fun e z => hne e (by rw [z])⟩
theorem clearX_len (ρ : En) : (clearX ρ).length = ρ.length := by unfold clearX; simp
section
variable {S : Type} [Pk S] {K : PySem.W.Frag} {mg : Str → Option Value} {xc : XC} {R : Reg S} [RegS K mg R] {W : WX}
theorem Sl.noexc {r : Addr} {F H : Hp} {v : V} {c : C} {xc' : XC} (h : Sl K mg xc r F H v c) (n : ∀ e, c ≠ .exc e) : Sl K mg xc' r F H v c := by
  cases c with
  | exc e => exact absurd rfl (n e)
  | d x => exact h
  | own x => exact h
  | box => exact h
theorem Gd.xcOut {r : Addr} {B : Bs} {ft : Addr → Prop} {F H : Hp} {σ : L2.St} {ρ : En} {s : S} {xc' : XC} (G : Gd K mg xc R r B ft F H σ ρ s) : Gd K mg xc' R r B ft F H σ (clearX ρ) s where
  st := G.st
  foot := G.foot
  reg := G.reg
  len := by rw [clearX_len]; exact G.len
  sl := fun i c h => by
    obtain ⟨h1, h2⟩ := clearX_get h
    obtain ⟨v, e1, e2⟩ := G.sl i c h1
    exact ⟨v, e1, e2.noexc h2⟩
  own := fun i p x h1 h2 => G.own i p x h1 (clearX_get h2).1
  dist := fun i j p x y h1 h2 h3 h4 => G.dist i j p x y h1 (clearX_get h2).1 h3 (clearX_get h4).1
theorem Gd.xcIn {r : Addr} {B : Bs} {ft : Addr → Prop} {F H : Hp} {σ : L2.St} {ρ : En} {s : S} {xc' : XC} (G : Gd K mg none R r B ft F H σ ρ s) : Gd K mg xc' R r B ft F H σ ρ s where
  st := G.st
  foot := G.foot
  reg := G.reg
  len := G.len
  sl := fun i c h => by
    obtain ⟨v, e1, e2⟩ := G.sl i c h
    refine ⟨v, e1, e2.noexc fun e z => ?_⟩
    subst z
    obtain ⟨_, _, _, z, _⟩ := e2
    cases z
  own := G.own
  dist := G.dist
/-- which errors a clause takes -/
def Catch (K : PySem.W.Frag) (mg : Str → Option Value) (c : Value) (ct : Str → Option Bool) : Prop := ∀ n Cx b, ct n = some b → mg n = some (.ref Cx) → PySem.W.exmOne K (.ref Cx) c = some b
def suiteEnds (i : Nat) (DE : DEnds S) : DEnds S := ⟨fun s ρ => DE.nx s ((clearX ρ).set i none), DE.rt, fun s ρ => DE.bk s ((clearX ρ).set i none), fun s ρ => DE.ct s ((clearX ρ).set i none), fun _ _ _ => False⟩
def suiteEnds0 (DE : DEnds S) : DEnds S := ⟨fun s ρ => DE.nx s (clearX ρ), DE.rt, fun s ρ => DE.bk s (clearX ρ), fun s ρ => DE.ct s (clearX ρ), fun _ _ _ => False⟩
def tryEnds (ct : Str → Option Bool) (i : Nat) (dsu : DS S) (DE : DEnds S) : DEnds S := { DE with ex := fun e s ρ => match ct e.name with
  | some true => dsu (suiteEnds i DE) s (ρ.set i (some (.exc e)))
  | some false => DE.ex e s ρ
  | none => False }
def dTryAs (ct : Str → Option Bool) (i : Nat) (db dsu : DS S) : DS S := fun DE s ρ => db (tryEnds ct i dsu DE) s ρ
theorem sims_tryAs {W0 : WX} {c : Value} {ct : Str → Option Bool} {i : Nat} {tb : WX → TS} {ts : Addr → Value → Option Addr → TS} {db dsu : DS S} (hct : Catch K mg c ct) (hb : ∀ W, SimS K mg none R W (tb W) db) (hsu : ∀ a cls d, SimS K mg (some (a, cls, d)) R W0 (ts a cls d) dsu) :
    SimS K mg none R W (fun D σ H => tb (wAs K c i ts W D) D σ H) (dTryAs ct i db dsu) where
  mono := fun {s ρ DE DE'} h z => (hb W).mono (DE := tryEnds ct i dsu DE) (DE' := tryEnds ct i dsu DE') ⟨h.nx, h.rt, h.bk, h.ct, fun e s ρ z => by
    dsimp only [tryEnds] at z ⊢
    split at z
    · exact (hsu 0 .none none).mono (DE := suiteEnds i DE) (DE' := suiteEnds i DE') ⟨fun _ _ z => h.nx _ _ z, h.rt, fun _ _ z => h.bk _ _ z, fun _ _ z => h.ct _ _ z, fun _ _ _ z => z⟩ z
    · exact h.ex _ _ _ z
    · exact z.elim⟩ z
  run := fun {r B ft F H σ ρ s Dn DE} G w q => by
    refine (hb _).run (DE := tryEnds ct i dsu DE) G ⟨w.nx, w.rt, w.bk, w.ct, fun σ' ft' F' H' ρ' s' cls d e G' hx z => ?_⟩ q
    dsimp only [tryEnds] at z
    obtain ⟨Cx, m1, rfl, _⟩ := id hx
    split at z
    · rename_i hc
      refine ⟨true, hct _ _ _ hc m1, fun _ a na => ?_, fun q => Bool.noConfusion q⟩
      have G2 : Gd K mg (some (a, .ref Cx, d)) R r B ft' F' H' (σ'.set i (some (.ref a))) (ρ'.set i (some (.exc e))) s' := (G'.xcIn (xc' := some (a, .ref Cx, d))).set i ⟨a, _, _, rfl, rfl, hx⟩ fun _ z => nomatch z
      refine (hsu a (.ref Cx) d).run (DE := suiteEnds i DE) G2 ⟨fun ft F H σ ρ s G z => ?_, fun ft F H σ ρ s v x G hv z => ?_, fun ft F H σ ρ s G z => ?_, fun ft F H σ ρ s G z => ?_, fun _ _ _ _ _ _ _ _ _ _ _ z => (show False from z).elim⟩ z
      · exact w.nx _ _ _ _ _ _ (G.xcOut.gone i none) z
      · exact w.rt _ _ _ _ _ _ _ _ (G.xcOut (xc' := none)) hv z
      · exact w.bk _ _ _ _ _ _ (G.xcOut.gone i none) z
      · exact w.ct _ _ _ _ _ _ (G.xcOut.gone i none) z
    · rename_i hc
      exact ⟨false, hct _ _ _ hc m1, fun q => Bool.noConfusion q, fun _ => w.ex _ _ _ _ _ _ _ _ _ G' hx z⟩
    · exact z.elim
/-- .. without a name -/
def onEnds (ct : Str → Option Bool) (dsu : DS S) (DE : DEnds S) : DEnds S := { DE with ex := fun e s ρ => match ct e.name with
  | some true => dsu (suiteEnds0 DE) s ρ
  | some false => DE.ex e s ρ
  | none => False }
def dTryOn (ct : Str → Option Bool) (db dsu : DS S) : DS S := fun DE s ρ => db (onEnds ct dsu DE) s ρ
theorem sims_tryOn {W0 : WX} {c : Value} {ct : Str → Option Bool} {tb : WX → TS} {ts : Addr → Value → Option Addr → TS} {db dsu : DS S} (hct : Catch K mg c ct) (hb : ∀ W, SimS K mg none R W (tb W) db) (hsu : ∀ a cls d, SimS K mg (some (a, cls, d)) R W0 (ts a cls d) dsu) :
    SimS K mg none R W (fun D σ H => tb (wOnly K c ts W D) D σ H) (dTryOn ct db dsu) where
  mono := fun {s ρ DE DE'} h z => (hb W).mono (DE := onEnds ct dsu DE) (DE' := onEnds ct dsu DE') ⟨h.nx, h.rt, h.bk, h.ct, fun e s ρ z => by
    dsimp only [onEnds] at z ⊢
    split at z
    · exact (hsu 0 .none none).mono (DE := suiteEnds0 DE) (DE' := suiteEnds0 DE') ⟨fun _ _ z => h.nx _ _ z, h.rt, fun _ _ z => h.bk _ _ z, fun _ _ z => h.ct _ _ z, fun _ _ _ z => z⟩ z
    · exact h.ex _ _ _ z
    · exact z.elim⟩ z
  run := fun {r B ft F H σ ρ s Dn DE} G w q => by
    refine (hb _).run (DE := onEnds ct dsu DE) G ⟨w.nx, w.rt, w.bk, w.ct, fun σ' ft' F' H' ρ' s' cls d e G' hx z => ?_⟩ q
    dsimp only [onEnds] at z
    obtain ⟨Cx, m1, rfl, _⟩ := id hx
    split at z
    · rename_i hc
      refine ⟨true, hct _ _ _ hc m1, fun _ a na => ?_, fun q => Bool.noConfusion q⟩
      have G2 : Gd K mg (some (a, .ref Cx, d)) R r B ft' F' H' σ' ρ' s' := G'.xcIn
      refine (hsu a (.ref Cx) d).run (DE := suiteEnds0 DE) G2 ⟨fun ft F H σ ρ s G z => ?_, fun ft F H σ ρ s v x G hv z => ?_, fun ft F H σ ρ s G z => ?_, fun ft F H σ ρ s G z => ?_, fun _ _ _ _ _ _ _ _ _ _ _ z => (show False from z).elim⟩ z
      · exact w.nx _ _ _ _ _ _ G.xcOut z
      · exact w.rt _ _ _ _ _ _ _ _ (G.xcOut (xc' := none)) hv z
      · exact w.bk _ _ _ _ _ _ G.xcOut z
      · exact w.ct _ _ _ _ _ _ G.xcOut z
    · rename_i hc
      exact ⟨false, hct _ _ _ hc m1, fun q => Bool.noConfusion q, fun _ => w.ex _ _ _ _ _ _ _ _ _ G' hx z⟩
    · exact z.elim
/-- e.f of the caught error in slot i -/
def excF (ns : List Str) (xs : List D) (f : Str) : Option D := List.lookup f (ns.zip xs)
def dXf (cn f : Str) (i : Nat) : DX S := fun s ρ Q _ => match ρ[i]? with
  | some (some (.exc e)) => e.name = cn ∧ ∃ x, excF e.ns e.xs f = some x ∧ Q x s ρ
  | _ => False
theorem excF_has {F : Hp} {f : Str} {x : D} : ∀ {fs : List (Str × V)} {xs : List D}, HasL K mg F (fs.map (·.2)) xs → excF (fs.map (·.1)) xs f = some x → ∃ v, fs.lookup f = some v ∧ Has K mg F v x
  | [], xs, _, h => by unfold excF at h; simp at h
  | (g, v) :: fs, xs, hx, h => by
    cases xs with
    | nil => unfold excF at h; simp at h
    | cons y ys =>
      cases hx with
      | cons a t =>
        unfold excF at h
        simp only [List.map_cons, List.zip_cons_cons, List.lookup_cons] at h ⊢
        by_cases e : (f == g) = true
        · rw [e] at h ⊢
          cases h
          exact ⟨v, rfl, a⟩
        · rw [Bool.not_eq_true] at e
          rw [e] at h ⊢
          exact excF_has t h
theorem sim_xf {a C : Addr} {cls : Value} {d : Option Addr} {cn f : Str} {i : Nat} (hC : mg cn = some (.ref C)) : SimE K mg (some (a, cls, d)) R W (tXf a cls d C f (tVar i)) (dXf cn f i) where
  mono := fun h e z => by
    unfold dXf at z ⊢
    split at z
    · obtain ⟨z1, x, z2, z3⟩ := z
      exact ⟨z1, x, z2, h _ _ _ z3⟩
    · exact z.elim
  run := fun {r B ft F H σ ρ s EX Q} G w q => by
    unfold dXf at q
    split at q
    · rename_i ex hex
      obtain ⟨rfl, x, q2, q3⟩ := q
      obtain ⟨v, h1, a', cls', d', h2, h3, h4⟩ := G.sl i _ hex
      cases h2
      subst h3
      obtain ⟨Cx, m1, rfl, m3⟩ := h4
      rw [hC] at m1
      cases m1
      refine ⟨_, h1, rfl, rfl, ?_⟩
      rcases m3 with ⟨n1, n2, _⟩ | ⟨dd, fs, rfl, n2, n3, n4⟩
      · rw [n1, n2] at q2
        cases q2
      · rw [← n3] at q2
        obtain ⟨v, e1, e2⟩ := excF_has n4 q2
        exact ⟨dd, fs, v, rfl, G.sub _ _ n2, e1, q3 v _ _ _ G (Same.refl _) e2⟩
    · exact q.elim
/-! raise X(a) of a class with one field -/
def tMk1 (C : Addr) (f : Str) (ta : TA) : L2.St → Hp → XK → Prop := fun σ H Q => ta σ H fun vs H1 => ∃ nm : Str, vs = [.str nm] ∧ nm.length ≤ 1000 ∧ ∀ d, H1 d = none → Q (.ref C) (some d) (upd H1 d (.xd [(f, .str nm)]))
def dRaise1 (x f : Str) (dx : DX S) : DS S := fun DE s ρ => dx s ρ (fun y s ρ => match y with
  | .str nm => nm.length ≤ 1000 ∧ DE.ex ⟨x, [f], [.str nm]⟩ s ρ
  | _ => False) DE.ex
theorem sims_raise1 {C : Addr} {x f : Str} {te : TE} {dx : DX S} (hC : mg x = some (.ref C)) (h : SimE K mg xc R W te dx) : SimS K mg xc R W (fun _ σ H => tMk1 C f (tCons te tNil) σ H fun cls d H' => W cls d σ H') (dRaise1 x f dx) where
  mono := fun hd z => h.mono (fun y s ρ z => by
    split at z
    · exact ⟨z.1, hd.ex _ _ _ z.2⟩
    · exact z.elim) hd.ex z
  run := fun {r B ft F H σ ρ s Dn DE} G w q => by
    refine h.run G (w.ex _) (h.mono (fun y s1 ρ1 z v ft1 F1 H1 G1 e1 a1 => ?_) (fun _ _ _ z => z) q)
    split at z
    · rename_i nm
      obtain ⟨rfl, o⟩ := has_str a1
      refine ⟨_, rfl, z.1, fun d hd => ?_⟩
      have t := PStep.new (o := .xd [(f, .str nm)]) G1.sub hd
      exact w.ex σ _ _ _ _ _ _ _ _ (G1.pstep t) ⟨C, hC, rfl, .inr ⟨d, _, rfl, upd_same, rfl, .cons (.str _ o) .nil⟩⟩ z.2
    · exact z.elim
end
section
variable {S : Type} [Pk S] {X : Cx} {xc : XC} {R : Reg S} [RegS X.K X.mg R] {W : WX} {e a b : Expr} {te ta : TE} {dx : DX S} {sts ss : List Stmt} {b₀ : Stmt} {db dsu : DS S} {pos pos' np p pos2 : Pos}
theorem stryAs {x n : Str} {c : Value} {ct : Str → Option Bool} (i : Nat) {tb : WX → TS} {ts : Addr → Value → Option Addr → TS} (nd : X.N.Nodup) (hC : X.mg x = some c) (hct : Catch X.K X.mg c ct)
    (hb : ∀ (W : WX) (pn : List (Addr × Obj)) (xe : Value → Shared → Prop), QSs (X.tr pn xe) none R W sts (tb W) db)
    (hsu : ∀ (a : Addr) (oe : Obj) (cls : Value) (d : Option Addr) (pn : List (Addr × Obj)), Zc cls d oe → (∃ vs, oe.data = .fields vs) → QSs (X.suite a ((a, oe) :: pn)) (some (a, cls, d)) R WF (b₀ :: ss) (ts a cls d) dsu)
    (hs : X.stack = X.env :: X.outer := by rfl) (hf : X.env.frame = some X.env.locals := by rfl) (hi : X.N[i]? = some n := by rfl) (hln : X.env.kindOf n = some .local := by rfl) (hg : Gl X x := by rfl) (hdb : (x == ("__debug__" : Str)) = false := by decide) :
    QS X none R W (.Try sts [.ExceptHandler (some (.Name x np)) (some n) (b₀ :: ss) pos'] [] [] pos) (fun D σ H => tb (wAs X.K c i ts W D) D σ H) (dTryAs ct i db dsu) :=
  ⟨fun k => ps_try_as hs hf nd hi hln ⟨hg, hdb, .inl hC⟩ k.tk (fun W pn xe t p => (hb W pn xe).ps ⟨t, p⟩) (fun a oe cls d pn hz hd => (hsu a oe cls d pn hz hd).ps (kF rfl)), sims_tryAs hct (fun W => (hb W [] (fun _ _ => True)).sim) fun a cls d => (hsu a { cls := cls, dict := d, data := .fields #[] } cls d [] ⟨rfl, rfl⟩ ⟨_, rfl⟩).sim⟩
theorem stryOn {x : Str} {c : Value} {ct : Str → Option Bool} {tb : WX → TS} {ts : Addr → Value → Option Addr → TS} (hC : X.mg x = some c) (hct : Catch X.K X.mg c ct)
    (hb : ∀ (W : WX) (pn : List (Addr × Obj)) (xe : Value → Shared → Prop), QSs (X.tr pn xe) none R W sts (tb W) db)
    (hsu : ∀ (a : Addr) (oe : Obj) (cls : Value) (d : Option Addr) (pn : List (Addr × Obj)), Zc cls d oe → (∃ vs, oe.data = .fields vs) → QSs (X.suite a ((a, oe) :: pn)) (some (a, cls, d)) R WF (b₀ :: ss) (ts a cls d) dsu)
    (hs : X.stack = X.env :: X.outer := by rfl) (hf : X.env.frame = some X.env.locals := by rfl) (hg : Gl X x := by rfl) (hdb : (x == ("__debug__" : Str)) = false := by decide) :
    QS X none R W (.Try sts [.ExceptHandler (some (.Name x np)) none (b₀ :: ss) pos'] [] [] pos) (fun D σ H => tb (wOnly X.K c ts W D) D σ H) (dTryOn ct db dsu) :=
  ⟨fun k => ps_try_only hs hf ⟨hg, hdb, .inl hC⟩ k.tk (fun W pn xe t p => (hb W pn xe).ps ⟨t, p⟩) (fun a oe cls d pn hz hd => (hsu a oe cls d pn hz hd).ps (kF rfl)), sims_tryOn hct (fun W => (hb W [] (fun _ _ => True)).sim) fun a cls d => (hsu a { cls := cls, dict := d, data := .fields #[] } cls d [] ⟨rfl, rfl⟩ ⟨_, rfl⟩).sim⟩
/-- n.f in an except suite -/
theorem qxf {a C : Addr} {oe : Obj} {cls : Value} {d : Option Addr} {pn : List (Addr × Obj)} {cn f x : Str} {px : Pos} (i : Nat) (hC : X.mg cn = some (.ref C)) (T : XfC X.K C) (hno : PySem.W.findIn X.K (.ref C) f = some none) (hz : Zc cls d oe) (hf : ∃ vs, oe.data = .fields vs)
    (hN : X.N[i]? = some x := by rfl) (hv : Vis X.env.scope x := by first | exact Or.inl rfl | exact Or.inr (Or.inl rfl) | exact Or.inr (Or.inr rfl)) (hd : (x == ("__debug__" : Str)) = false := by decide) (hcd : (x == ("__classdict__" : Str)) = false := by decide)
    (hb : attributeBase (.Name x px) f X.env (eval (.Name x px) X.env) = eval (.Name x px) X.env := by rfl) : QE (X.suite a ((a, oe) :: pn)) (some (a, cls, d)) R W (.Attribute (.Name x px) f pos) (tXf a cls d C f (tVar i)) (dXf cn f i) :=
  ⟨fun _ => pe_xf T hno hz hf (pe_var hN hv hd hcd) hb, sim_xf hC⟩
theorem sraise1 {x f : Str} {C : Addr} (hc : X.calm = true) (hC : X.mg x = some (.ref C)) (hm : PMk X (.Call (.Name x p) [a] [] pos) (tMk1 C f (tCons ta tNil))) (h : SimE X.K X.mg xc R W ta dx) :
    QS X xc R W (.Raise (some (.Call (.Name x p) [a] [] pos)) none pos2) (fun _ σ H => tMk1 C f (tCons ta tNil) σ H fun cls d H' => W cls d σ H') (dRaise1 x f dx) := ⟨fun k => ps_raise hc k.tk hm, sims_raise1 hC h⟩
end
end DL

set_option linter.all false
set_option maxRecDepth 100000
set_option maxHeartbeats 2000000
/-! repr -/
namespace DL
open PySem PySem.Spec PyProof.Rows L2 GR N01 RZ
theorem char_ok (c : Char) : c.toNat < 1114112 := by
  rcases c.valid with h | ⟨_, h⟩
  · have : c.toNat < 55296 := h
    omega
  · exact h
def OkL (l : List Nat) : Prop := ∀ c ∈ l, c < 1114112
theorem OkL.app {a b : List Nat} (ha : OkL a) (hb : OkL b) : OkL (a ++ b) := fun c hc => (List.mem_append.mp hc).elim (ha c) (hb c)
theorem okl_chars (l : List Char) : OkL (l.map Char.toNat) := fun c hc => by
  obtain ⟨ch, _, rfl⟩ := List.mem_map.mp hc
  exact char_ok ch
theorem okl_rep (n c : Nat) (h : c < 1114112) : OkL (List.replicate n c) := fun d hd => by rw [List.eq_of_mem_replicate hd]; exact h
theorem okl_cons {c : Nat} {l : List Nat} (h : c < 1114112) (hl : OkL l) : OkL (c :: l) := fun d hd => by
  rcases List.mem_cons.mp hd with rfl | z
  · exact h
  · exact hl d z
theorem okl_nil : OkL [] := fun _ h => nomatch h
theorem reprChar_ok (q c : Nat) (hc : c < 1114112) : OkL (Builtin.Str.reprChar q c) := by
  have hx : ∀ n, OkL (List.replicate (n - ((Nat.toDigits 16 c).map Char.toNat).length) 48 ++ (Nat.toDigits 16 c).map Char.toNat) := fun n => (okl_rep _ _ (by decide)).app (okl_chars _)
  unfold Builtin.Str.reprChar
  dsimp only
  repeat' split
  · exact okl_cons (by decide) (okl_cons hc okl_nil)
  · exact okl_cons (by decide) (okl_cons (by decide) okl_nil)
  · exact okl_cons (by decide) (okl_cons (by decide) okl_nil)
  · exact okl_cons (by decide) (okl_cons (by decide) okl_nil)
  · exact okl_cons hc okl_nil
  · exact OkL.app (okl_cons (by decide) (okl_cons (by decide) okl_nil)) (hx 2)
  · exact OkL.app (okl_cons (by decide) (okl_cons (by decide) okl_nil)) (hx 4)
  · exact OkL.app (okl_cons (by decide) (okl_cons (by decide) okl_nil)) (hx 8)
theorem repr_fold (q : Nat) : ∀ (l : List Nat) (acc : Array Nat), OkL l → OkL acc.toList → OkL (l.foldl (fun out c => out ++ (Builtin.Str.reprChar q c).toArray) acc).toList
  | [], _, _, h => h
  | c :: l, acc, hl, h => by
    rw [List.foldl_cons]
    refine repr_fold q l _ (fun d hd => hl d (List.mem_cons_of_mem _ hd)) ?_
    rw [Array.toList_append]
    exact h.app (reprChar_ok q c (hl c List.mem_cons_self))
theorem okl_of {x : Str} (h : PyData.strOk x = true) : OkL x.cps.toList := strOk_iff.mp h
theorem okl_to {x : Str} (h : OkL x.cps.toList) : PyData.strOk x = true := strOk_iff.mpr h
theorem reprText_ok {x : Str} (h : PyData.strOk x = true) : PyData.strOk (reprText x) = true := by
  refine okl_to ?_
  unfold reprText
  have hq : reprQuote x < 1114112 := by unfold reprQuote; split <;> decide
  show OkL ((x.cps.foldl (fun out c => out ++ (Builtin.Str.reprChar (reprQuote x) c).toArray) #[reprQuote x]).push (reprQuote x)).toList
  rw [Array.toList_push, ← Array.foldl_toList]
  exact (repr_fold _ _ _ (okl_of h) (okl_cons hq okl_nil)).app (okl_cons hq okl_nil)
theorem strOk_of (s : String) : PyData.strOk (Str.ofString s) = true := okl_to (by
  have : (Str.ofString s).cps.toList = s.toList.map Char.toNat := by rw [Str.ofString_eq_toList]
  rw [this]
  exact okl_chars _)
theorem textFrom_ok : ∀ (ts : List Str) (k : Nat) (acc : Str), PyData.strOk acc = true → (∀ t ∈ ts, PyData.strOk t = true) → PyData.strOk (textFrom k acc ts) = true
  | [], _, _, h, _ => h
  | t :: ts, k, acc, h, ht => by
    rw [textFrom]
    refine textFrom_ok ts _ _ (strOk_app (strOk_app h (strOk_of _)) (ht t List.mem_cons_self)) fun u hu => ht u (List.mem_cons_of_mem _ hu)
theorem join_ok {sep : Str} (hs : PyData.strOk sep = true) : ∀ {ts : List Str}, (∀ t ∈ ts, PyData.strOk t = true) → PyData.strOk (Str.join sep ts) = true
  | [], _ => by rw [Str.join]; decide +kernel
  | [x], h => by rw [Str.join]; exact h x List.mem_cons_self
  | x :: y :: r, h => by
    rw [Str.join]
    · exact strOk_app (strOk_app (h x List.mem_cons_self) hs) (join_ok hs fun t ht => h t (List.mem_cons_of_mem _ ht))
    · exact fun z => nomatch z
theorem strOk_ite {c : Prop} [Decidable c] {a b : String} : PyData.strOk (Str.ofString (if c then a else b)) = true := strOk_of _
mutual
theorem shown_ok : ∀ d : PyData, d.canLay0 = true → PyData.strOk d.shown = true
  | .none, _ => by rw [PyData.shown]; exact strOk_of _
  | .bool b, _ => by rw [PyData.shown]; split <;> exact strOk_of _
  | .int i, _ => by rw [PyData.shown]; exact strOk_of _
  | .str x, h => by rw [PyData.shown]; exact reprText_ok h
  | .list xs, h => by
    rw [PyData.shown]
    unfold listText
    exact strOk_app (textFrom_ok _ _ _ (strOk_of _) (shownAll_ok xs h)) (strOk_of _)
  | .tuple xs, h => by
    rw [PyData.shown]
    unfold tupleText
    exact strOk_app (strOk_app (strOk_of _) (join_ok (strOk_of _) (shownAll_ok xs h))) (strOk_of _)
  | .dict _, h => nomatch h
theorem shownAll_ok : ∀ xs : List PyData, PyData.canLayAll0 xs = true → ∀ t ∈ PyData.shownAll xs, PyData.strOk t = true
  | [], _, t, ht => by rw [PyData.shownAll] at ht; cases ht
  | x :: xs, h, t, ht => by
    rw [PyData.canLayAll0, Bool.and_eq_true] at h
    rw [PyData.shownAll] at ht
    rcases List.mem_cons.mp ht with rfl | z
    · exact shown_ok x h.1
    · exact shownAll_ok xs h.2 t z
end
/-! what is asked of the data -/
mutual
def D.sml : D → Bool
  | .int i => decide (i.natAbs < 10 ^ 12)
  | .lst xs => D.smlL xs | .tup xs => D.smlL xs | .tpd xs => D.smlL xs
  | .non => true | .bl _ => true | .str _ => true | .dct _ _ => false | .obj _ _ _ => false | .hdl _ => false | .dtt _ _ => false
def D.smlL : List D → Bool
  | [] => true
  | x :: xs => D.sml x && D.smlL xs
end
theorem smlL_iff : ∀ {xs : List D}, D.smlL xs = true ↔ ∀ x ∈ xs, D.sml x = true
  | [] => by simp [D.smlL]
  | x :: xs => by rw [D.smlL, Bool.and_eq_true, smlL_iff]; simp
theorem log_small {i : Int} (h : i.natAbs < 10 ^ 12) : i.natAbs.log2 < 1920 := by
  by_cases z : i.natAbs = 0
  · rw [z]; decide
  · have h1 : 2 ^ i.natAbs.log2 ≤ i.natAbs := Nat.log2_self_le z
    have h2 : 2 ^ i.natAbs.log2 < 2 ^ 40 := Nat.lt_of_le_of_lt h1 (Nat.lt_of_lt_of_le h (by decide))
    have := (Nat.pow_lt_pow_iff_right (a := 2) (by decide)).mp h2
    omega
mutual
theorem sml_py : ∀ {x : D}, D.sml x = true → x.py.showable = true ∧ x.py.intsShort 13 = true
  | .non, _ => by rw [D.py]; exact ⟨rfl, rfl⟩
  | .bl _, _ => by rw [D.py]; exact ⟨rfl, rfl⟩
  | .int i, h => by
    rw [D.sml] at h
    have h := of_decide_eq_true h
    rw [D.py, PyData.showable, PyData.intsShort]
    exact ⟨decide_eq_true (log_small h), decide_eq_true (PyData.shown_int_le h)⟩
  | .str _, _ => by rw [D.py]; exact ⟨rfl, rfl⟩
  | .lst xs, h => by rw [D.sml] at h; rw [D.py, PyData.showable, PyData.intsShort]; exact smlL_py h
  | .tup xs, h => by rw [D.sml] at h; rw [D.py, PyData.showable, PyData.intsShort]; exact smlL_py h
  | .tpd xs, h => by rw [D.sml] at h; rw [D.py, PyData.showable, PyData.intsShort]; exact smlL_py h
  | .dct _ _, h => by rw [D.sml] at h; cases h
  | .obj _ _ _, h => by rw [D.sml] at h; cases h
  | .hdl _, h => by rw [D.sml] at h; cases h
  | .dtt _ _, h => by rw [D.sml] at h; cases h
theorem smlL_py : ∀ {xs : List D}, D.smlL xs = true → PyData.showableAll (D.pyL xs) = true ∧ PyData.intsShortAll 13 (D.pyL xs) = true
  | [], _ => by rw [D.pyL]; exact ⟨rfl, rfl⟩
  | x :: xs, h => by
    rw [D.smlL, Bool.and_eq_true] at h
    rw [D.pyL, PyData.showableAll, PyData.intsShortAll]
    obtain ⟨a, b⟩ := sml_py h.1
    obtain ⟨c, d⟩ := smlL_py h.2
    rw [a, b, c, d]; exact ⟨rfl, rfl⟩
end
/-- what repr shows -/
def rep (x : D) : Str := x.py.shown
def oRepr : DO1 := fun x Q => D.fit 32 x = true ∧ D.sml x = true ∧ x.py.weight ≤ 2 ^ 20 ∧ Q (.str (rep x))
def rReprU (K : PySem.W.Frag) : List V → Hp → VK → Prop := fun xs H Q => ∃ x d, xs = [x] ∧ Dp K H x d ∧ d.canLay0 = true ∧ d.showable = true ∧ d.depth ≤ 32 ∧ d.shown.length ≤ sizeLine ∧ Q (.str d.shown) H
theorem call_reprU {X : Cx} (hgd : X.A.guards = some []) (hu : X.A.units + 64 < cLine) : CallR X (.builtin "repr") (rReprU X.K) := by
  intro pins s σ H xs us Q I r h
  obtain ⟨x, d, rfl, dp, hl, hs, hz, hn, q⟩ := h
  have hd : d.hasDict = false := PyData.hasDict_of_canLay _ hl
  obtain ⟨u, rfl, rx⟩ := vals1 r
  cases dp with
  | non => cases rx; rw [PyData.shown] at q; exact PySem.P.repr_of_none ⟨.str _, H, I.tok _, ⟨_, rfl⟩, q⟩
  | bl b => cases rx; rw [PyData.shown] at q; exact PySem.P.repr_of_bool ⟨.str _, H, I.tok _, ⟨_, rfl⟩, q⟩
  | int i => obtain ⟨t, rfl⟩ := rx; rw [PyData.shown] at q; exact PySem.P.repr_of_int (by simpa [PyData.showable] using hs) ⟨.str _, H, I.tok _, ⟨_, rfl⟩, q⟩
  | str z => obtain ⟨t, rfl⟩ := rx; rw [PyData.shown] at q hn; exact PySem.P.repr_of_str ⟨.str _, H, I.tok _, ⟨_, rfl⟩, q⟩ hn
  | lst a b =>
    cases rx
    obtain ⟨as, rd⟩ := Dp.reads I _ _ _ (.lst a b) rfl
    exact repr_of_reads' rd hs (fun z => absurd z (by rw [hd]; simp)) hgd (by omega) (fun _ _ z => z) (fun h' u tk hk => ⟨.str _, H, I.kept (t' := tk) hk, ⟨u, rfl⟩, q⟩) hn
  | tup a b =>
    cases rx
    obtain ⟨as, rd⟩ := Dp.reads I _ _ _ (.tup a b) rfl
    exact repr_of_reads' rd hs (fun z => absurd z (by rw [hd]; simp)) hgd (by omega) (fun _ _ z => z) (fun h' u tk hk => ⟨.str _, H, I.kept (t' := tk) hk, ⟨u, rfl⟩, q⟩) hn
section
variable {K : PySem.W.Frag} {mg : Str → Option Value}
theorem sim_repr : SimH1 K mg (r1 (rReprU K)) oRepr where
  mono := fun h z => ⟨z.1, z.2.1, z.2.2.1, h _ z.2.2.2⟩
  run := fun {F H x dx Q} e hx q => by
    obtain ⟨f1, f2, f3, q⟩ := q
    obtain ⟨F1, _, b1, c1⟩ := hs_has hx e
    obtain ⟨l1, l2⟩ := has_lay c1 f1
    obtain ⟨s1, s2⟩ := sml_py f2
    have ly : PyData.layable0 dx.py = true := by
      unfold PyData.layable0
      rw [l1, decide_eq_true (Nat.le_trans l2 (by decide)), decide_eq_true f3]
      rfl
    have sz : dx.py.shown.length ≤ sizeLine := PyData.shown_fits_of_layable0 (by decide) (by decide) ly s2
    exact ⟨_, _, rfl, has_dp b1 c1 f1, l1, s1, l2, sz, q _ F H (.refl e) (.str _ ⟨shown_ok _ l1, sz⟩)⟩
end
end DL

set_option linter.all false
set_option maxRecDepth 100000
set_option maxHeartbeats 2000000
/-! sorted, index -/
namespace DL
open PySem PySem.Spec PyProof.Rows L2 GR N01 RZ
section
variable {P : Program} {w : World} {K : PySem.W.Frag} {mg : Str → Option Value} {base : Heap} {k : Nat} {f : Addr} {fd : FuncData} {ps : List Str} {x qual : Str} {params : Arguments} {bd : List Stmt} {scope : Scope} {dvs : List V} {kws : List (Str × V)} {N : List Str}
/-- a def that raises nothing and stands anywhere -/
theorem ddef0 {S : Type} {R : Reg S} {sp : DSp S} {ds : DS S} (F : FunD K x qual params bd scope dvs kws f fd) (Sc : FnScope N ps scope)
    (hb : ∀ (cdv : Value) (A : Around) (outer : List Env) (s : Shared) (H : Hp) (E : XK), Room k (A.deeper (envOfC qual scope s.heap.objs.size f cdv)) →
      ∃ ts, QSs (cxOf CX0 P w K mg base N qual scope f cdv A outer s H E) none R WF bd ts ds)
    (hs : ∀ cs s Q E, sp cs s Q E → cs.length = ps.length → ds ⟨fun s _ => Q .non s, Q, fun _ _ => False, fun _ _ => False, fun _ _ _ => False⟩ s (cs.map some ++ List.replicate (N.length - cs.length) none)) :
    FnOk P w K mg base CX0 (k + 1) f fd ps (lift K mg R ps.length sp) := by
  refine F.ok (CX := CX0) Sc (fun vs H Q E h => h.1) fun cdv B out s H vs Q E hr h => ?_
  obtain ⟨hl, r, ft, F0, s0, cs, h1, h2, h3, h4, h5⟩ := h
  obtain ⟨ts, hts⟩ := hb cdv B out s H E hr
  have hlc : cs.length = ps.length := by rw [← h4.length]; exact hl
  have hlv : vs.length = cs.length := h4.length
  refine ⟨ts, hts.ps ⟨takes0, passes_of rfl⟩, hts.sim.run (r := r) (B := ⟨ft, F0, H⟩) (ft := ft) (F := F0) (ρ := cs.map some ++ List.replicate (N.length - cs.length) none) (s := s0) ?_ ?_ (hs cs s0 _ _ h5 hlc)⟩
  · have at_ : ∀ (i : Nat) c, (cs.map some ++ List.replicate (N.length - cs.length) none)[i]? = some (some c) → (cs.map some)[i]? = some (some c) := fun i c e => by
      by_cases hi : i < cs.length
      · rw [List.getElem?_append_left (by simpa using hi)] at e; exact e
      · rw [List.getElem?_append_right (by simpa using hi), List.getElem?_replicate] at e
        split at e <;> cases e
    refine { st := Step.refl h1, foot := fun a z => ⟨h2 a z, .inl z⟩, reg := h3, len := ?_, sl := fun i c e => ?_, own := fun i p y e1 e2 => ?_, dist := fun i j p y z e1 e2 e3 e4 => ?_ }
    · unfold L2.start; rw [List.length_append, List.length_append, List.length_map, List.length_map, List.length_replicate, List.length_replicate, hlv]
    · obtain ⟨v, e1, e2, _⟩ := argsCs (xc := none) (H := H) h4 i c (at_ i c e)
      refine ⟨v, ?_, e2⟩
      unfold L2.start
      have hi : i < (vs.map some).length := (List.getElem?_eq_some_iff.mp e1).1
      rw [List.getElem?_append_left hi]; exact e1
    · obtain ⟨v, _, _, e3⟩ := argsCs (xc := none) (H := H) h4 i _ (at_ i _ e2)
      exact absurd rfl (e3 y)
    · obtain ⟨v, _, _, e5⟩ := argsCs (xc := none) (H := H) h4 i _ (at_ i _ e2)
      exact absurd rfl (e5 y)
  · have cs' : ∀ {ft' F' H' σ' ρ' s'}, Gd K mg none R r ⟨ft, F0, H⟩ ft' F' H' σ' ρ' s' → CStep ft F0 H ft' F' H' := fun G => ⟨G.st, fun a z => G.foot a z⟩
    exact ⟨fun ft' F' H' σ' ρ' s' G z => z .non _ _ _ (cs' G) G.reg .non, fun ft' F' H' σ' ρ' s' v x' G hv z => z v _ _ _ (cs' G) G.reg hv, fun _ _ _ _ _ _ _ z => z, fun _ _ _ _ _ _ _ z => z,
      fun _ _ _ _ _ _ _ _ _ _ _ z => z.elim⟩
/-- what raises nothing, as a def that may raise -/
theorem fnOk_G {Z : CXT} {sp : Sp} (F : FnOk P w K mg base CX0 k f fd ps sp) : FnG P w K mg base Z k f fd ps sp where
  many := F.len
  runs := fun B out st G as us vs Q E _ hr e0 hb r h => codeAny_mono (F.run B out st G as us vs Q E hr e0 hb r h) fun r s' z => by
    cases r with
    | error e => exact (show False from z).elim
    | ok fl => cases fl <;> exact z
end
/-- a key: what is called for each item -/
structure DKey (P : Program) (w : World) (K : PySem.W.Frag) (mg : Str → Option Value) (base : Heap) (k : Nat) (x : Str) (q : Addr) (sp : DSp Unit) : Prop where
  mono : MonoSp sp
  fn : FnR P w K mg base CX0 k q (lift K mg nul 1 sp)
  at_ : mg x = some (.ref q)
theorem DKey.of {P : Program} {w : World} {K : PySem.W.Frag} {mg : Str → Option Value} {base : Heap} {k : Nat} {x p : Str} {sp : DSp Unit} {f : Addr} {fd : FuncData} (m : MonoSp sp) (F : FnOk P w K mg base CX0 k f fd [p] (lift K mg nul 1 sp)) (hb : Binds K fd [p] []) (hg : mg x = some (.ref f)) : DKey P w K mg base k x f sp :=
  ⟨m, (F.raw hb .nil).imp fun vs H Q E z => by rw [List.append_nil]; exact z, hg⟩
theorem paired_get {α β : Type} {F : α → β → Prop} : ∀ {xs : List α} {ys : List β}, Paired F xs ys → ∀ {i : Nat} {x : α}, xs[i]? = some x → ∃ y, ys[i]? = some y ∧ F x y
  | _, _, .cons h t, 0, _, e => by cases e; exact ⟨_, rfl, h⟩
  | _, _, .cons _ t, i + 1, _, e => paired_get t (i := i) e
theorem paired_len {α β : Type} {F : α → β → Prop} : ∀ {xs : List α} {ys : List β}, Paired F xs ys → xs.length = ys.length
  | _, _, .nil => rfl
  | _, _, .cons _ t => by rw [List.length_cons, List.length_cons, paired_len t]
/-- the keys of items -/
def KeysD (sp : DSp Unit) : List D → List D → Prop := Paired fun x y => sp [.d x] () (fun z _ => z = y) (fun _ _ => True) ∧ ∃ p, keyOf y = some p
def sortKD (xs ys : List D) : List D := ((xs.zip ys).mergeSort (PySem.W.dataLe false fun p : D × D => p.2.py)).map (·.1)
def oSortK (sp : DSp Unit) : DO1 := fun x Q => match x with
  | .lst xs => ∃ ys, KeysD sp xs ys ∧ SQ.Coh (ys.map D.py) ∧ Q (.lst (sortKD xs ys))
  | _ => False
theorem key_at {K : PySem.W.Frag} {mg : Str → Option Value} {F H : Hp} {v : V} {y : D} {p : Int × D} (e : Same F H) (h : Has K mg F v y) (k : keyOf y = some p) : SQ.KeyAt K H v y.py := by
  unfold keyOf at k
  split at k
  all_goals first | (cases k; done) | skip
  all_goals
    cases h with
    | tup h hs =>
      rw [D.py, D.pyL, D.pyL, D.pyL]
      cases hs with
      | cons a t => cases t with
        | cons b t =>
          cases t; cases a; cases b
          refine .inr ⟨_, _, _, rfl, rfl, sqT_mono e h, ?_⟩
          rw [D.py, D.py]
          first | exact .cons (.int _) (.cons (.bl _) .nil) | exact .cons (.int _) (.cons (.int _) .nil) | exact .cons (.int _) (.cons (.str _) .nil)
theorem keys_at {K : PySem.W.Frag} {mg : Str → Option Value} {sp : DSp Unit} (hm : MonoSp sp) {F H : Hp} (e : Same F H) : ∀ {xs ys : List D} {vs : List V}, HasL K mg F vs xs → KeysD sp xs ys → SQ.Keys K (lift K mg nul 1 sp) H vs (ys.map D.py)
  | xs, ys, vs, hv, hk => by
    have l1 : xs.length = ys.length := paired_len hk
    refine ⟨by rw [List.length_map, hv.length, l1], fun i x d hx hd H' s => ?_⟩
    obtain ⟨dx, e1, e2⟩ := hv.getV hx
    obtain ⟨y, e3, e4, p, e5⟩ := paired_get hk e1
    rw [List.getElem?_map, e3] at hd
    cases hd
    refine ⟨fun _ _ _ => True, rfl, 0, fun _ => False, F, (), [.d dx], e.trans s, fun _ z => z.elim, fun _ z => z, .cons e2 .nil, hm _ _ _ _ _ _ (fun z _ hz v ft' F' H'' c _ hv => ?_) (fun _ _ _ _ _ _ _ _ _ _ _ => trivial) e4⟩
    subst hz
    exact ⟨(cstep_pure c).keep, key_at (cstep_pure c).sub hv e5⟩
theorem sort_has {K : PySem.W.Frag} {mg : Str → Option Value} {F : Hp} {vs : List V} {xs ys : List D} (h : HasL K mg F vs xs) (hl : xs.length = ys.length) : HasL K mg F (SQ.sortK false vs (ys.map D.py)) (sortKD xs ys) := by
  have e : PySem.W.EachIs (fun (p : V × PyData) (c : D × D) => Has K mg F p.1 c.1 ∧ p.2 = c.2.py) (vs.zip (ys.map D.py)) (xs.zip ys) := by
    induction xs generalizing vs ys with
    | nil => cases h; exact .nil
    | cons x xs ih =>
      cases h with
      | cons a t =>
        cases ys with
        | nil => cases hl
        | cons y ys => exact .cons ⟨a, rfl⟩ (ih t (by simpa using hl))
  have z := PySem.W.sort_each (r := PySem.W.dataLe false fun p : V × PyData => p.2) (s := PySem.W.dataLe false fun p : D × D => p.2.py) e (fun p hp q hq => by
    have e1 := (e.zip p hp).2
    have e2 := (e.zip q hq).2
    show (!PySem.W.dataLt q.1.2 p.1.2) = (!PySem.W.dataLt q.2.2.py p.2.2.py)
    rw [e1, e2])
  have go : ∀ {as : List (V × PyData)} {bs : List (D × D)}, PySem.W.EachIs (fun (p : V × PyData) (c : D × D) => Has K mg F p.1 c.1 ∧ p.2 = c.2.py) as bs → HasL K mg F (as.map (·.1)) (bs.map (·.1)) := by
    intro as bs h
    induction h with
    | nil => exact .nil
    | cons q t ih => exact .cons q.1 ih
  exact go z
section
variable {S : Type} [Pk S] {K : PySem.W.Frag} {mg : Str → Option Value} {xc : XC} {R : Reg S} [RegS K mg R] {W : WX}
def tSortK (K : PySem.W.Frag) (mg : Str → Option Value) (q : Addr) (sp : DSp Unit) (ta : TE) : TE := tCKw (SQ.rSortF K SQ.Coh q (lift K mg nul 1 sp)) (tCons ta tNil) (tCons (tC (.ref q)) tNil)
theorem simf_sortK {q : Addr} {sp : DSp Unit} (hm : MonoSp sp) {ta : TE} {da : DOp S} (ha : SimO K mg xc R W ta da) : SimF K mg xc R W (tSortK K mg q sp ta) (dUnO (oSortK sp) da) where
  mono := fun h e z => ha.mono (fun x s ρ z => rdv_mono (fun y z => by
    unfold oSortK at z ⊢
    split at z
    · obtain ⟨ys, a, b, c⟩ := z; exact ⟨ys, a, b, h _ _ _ c⟩
    · exact z.elim) z) e z
  run := fun {r' B ft F H σ ρ s EX Q} G w qq => by
    refine ha.run G w (ha.mono (fun x s1 ρ1 z v ft1 F1 H1 G1 e1 a1 => ?_) (fun _ _ _ z => z) qq)
    obtain ⟨dx, h1, z⟩ := rd_res G1 a1 z
    unfold oSortK at z
    split at z
    · obtain ⟨ys, k1, k2, z⟩ := z
      obtain ⟨a, xs, rfl, h2, h3⟩ := hs_lst G1.sub h1
      refine ⟨a, xs, ys.map D.py, rfl, rfl, .inl (.inl h2), keys_at hm G1.sub h3 k1, k2, fun p H' sm hp => ?_⟩
      have G2 := G1.pstep (F' := F1) (H' := H') ⟨G1.sub.trans sm, Same.refl _, fun _ z => .inl z, sm⟩
      obtain ⟨G3, fp, fr⟩ := G2.born (.lst (SQ.sortK false xs (ys.map D.py))) hp
      exact z p _ _ _ G3 e1 fp ⟨_, upd_same, sort_has h3 (paired_len k1)⟩ fr
    · exact z.elim
def oSortS : DO1 := fun x Q => match x with
  | .lst xs => ∃ ss : List Str, xs = ss.map D.str ∧ ss.length < 64 ∧ ∀ ys : List Str, ys.Perm ss → sortedS ys = true → Q (.lst (ys.map D.str))
  | _ => False
theorem simf_sortS {ta : TE} {da : DOp S} (ha : SimO K mg xc R W ta da) : SimF K mg xc R W (tCB (rSortedS K) (tCons ta tNil)) (dUnO oSortS da) where
  mono := fun h e z => ha.mono (fun x s ρ z => rdv_mono (fun y z => by
    unfold oSortS at z ⊢
    split at z
    · obtain ⟨ys, a, b, c⟩ := z; exact ⟨ys, a, b, fun zs d e => h _ _ _ (c zs d e)⟩
    · exact z.elim) z) e z
  run := fun {r' B ft F H σ ρ s EX Q} G w qq => by
    refine ha.run G w (ha.mono (fun x s1 ρ1 z v ft1 F1 H1 G1 e1 a1 => ?_) (fun _ _ _ z => z) qq)
    obtain ⟨dx, h1, z⟩ := rd_res G1 a1 z
    unfold oSortS at z
    split at z
    · obtain ⟨ss, rfl, k2, z⟩ := z
      obtain ⟨a, xs, rfl, h2, h3⟩ := hs_lst G1.sub h1
      obtain ⟨rfl, ok⟩ := strs_of h3
      refine ⟨a, ss, rfl, .inl (.inl h2), k2, fun ys p pm so hp => ?_⟩
      obtain ⟨G3, fp, fr⟩ := G1.born (.lst (ys.map V.str)) hp
      exact z ys pm so p _ _ _ G3 e1 fp ⟨_, upd_same, hasL_strs fun y hy => ok y (pm.mem_iff.mp hy)⟩ fr
    · exact z.elim
end
section
variable {S : Type} [Pk S] {X : Cx} {xc : XC} {R : Reg S} [RegS X.K X.mg R] {W : WX} {e a b : Expr} {te ta : TE} {da : DOp S} {pos p kp p2 : Pos}
theorem pe_sortK {k j : Nat} {kx : Str} {q : Addr} {sp : DSp Unit} (c : DKey X.prog X.w X.K X.mg X.base k kx q sp) (hr : Room j X.A) (hj : k + 2 ≤ j) (hm : X.mg "sorted" = none) (ha : PE X e te) (hg : Gl X "sorted") (hgk : Gl X kx) (hdk : (kx == ("__debug__" : Str)) = false)
    (he : backTo pos (starEach [e] X.env) = (false, eval e X.env) :: backTo pos (starEach [] X.env)) (hse : starEach [e] X.env = (false, eval e X.env) :: starEach [] X.env) (hpl : (backTo pos (starEach [e] X.env)).any (·.1) = false)
    (hall : (backToKw pos (keywordEach [⟨some "key", .Name kx p2, kp⟩] X.env)).all (·.1.isSome) = true) (hnone : (backToKw pos (keywordEach [⟨some "key", .Name kx p2, kp⟩] X.env)).any (·.1.isNone) = false) (hks : (backToKw pos (keywordEach [⟨some "key", .Name kx p2, kp⟩] X.env)).filterMap (·.1) = [Str.ofString "key"]) :
    PE X (.Call (.Name "sorted" p) [e] [⟨some "key", .Name kx p2, kp⟩] pos) (tSortK X.K X.mg q sp te) := by
  have SB : ∀ ds, SQ.Coh ds → SQ.Srtb X.prog X.w X.A.in1.in1 ds := fun ds C => SQ.Srtb.coh C (by
    have := hr.units
    show X.A.units + 1 + 1 + 2 < cLine
    omega)
  exact pe_callBK (SQ.cr_sortF (Sb := SQ.Coh) c.fn (fun _ _ _ _ _ _ z => z) (hr.mono hj) SB) hg hm (show bootBuiltins "sorted" = some (.builtin "sorted") by decide +kernel) (pa_cons ha pa_nil hse) (pk_cons (nm := some "key") (kpos := kp) (pe_glob (pos := p2) (v := .ref q) hgk c.at_ rfl hdk) pk_nil) (by decide) (by decide) he hpl hall hnone hks (p := p)
end
end DL

set_option linter.all false
set_option maxRecDepth 100000
set_option maxHeartbeats 2000000
/-! more rows: a range with a step, max, min, abs, join, a list several times, a list taken apart, isinstance -/
namespace DL
open PySem PySem.Spec PyProof.Rows L2 GR N01 RZ
section
variable {S : Type} [Pk S] {K : PySem.W.Frag} {mg : Str → Option Value} {xc : XC} {R : Reg S} [RegS K mg R] {W : WX}
def rangeC (lo c : Int) (n : Nat) : List D := (List.range n).map fun i => .int (lo + (i : Nat) * c)
theorem itd_rngC {F : Hp} {lo c : Int} {n : Nat} : Itd K mg F (Itc lo c n) (rangeC lo c n) := fun F1 H s1 s2 => by
  have hl : (rangeC lo c n).length = n := by unfold rangeC; simp
  refine ⟨fun i hi => by rw [hl] at hi; exact hi, by rw [hl]; exact Nat.le_refl _, fun i x H' d hd hy => ?_⟩
  obtain ⟨rfl, rfl⟩ := hy
  have hi : i < n := by rw [← hl]; exact (List.getElem?_eq_some_iff.mp hd).1
  have : d = .int (lo + (i : Nat) * c) := by
    unfold rangeC at hd
    rw [List.getElem?_map, List.getElem?_range hi] at hd
    exact (Option.some.inj hd).symm
  subst this
  exact ⟨F1, .refl s2, .int _⟩
def dRng3 (dx dy dz : DX S) : DI S := fun s ρ Q E => dx s ρ (fun x s ρ => isInt x fun i => dy s ρ (fun y s ρ => isInt y fun j => dz s ρ (fun z s ρ => isInt z fun c => ∃ n, RgC i j c n ∧ Q (rangeC i c n) s ρ) E) E) E
theorem simi_rng3 {te tf tg : TE} {dx dy dz : DX S} (hx : SimE K mg xc R W te dx) (hy : SimE K mg xc R W tf dy) (hz : SimE K mg xc R W tg dz) : SimI K mg xc R W (iRng3 (tCons te (tCons tf (tCons tg tNil)))) (dRng3 dx dy dz) where
  mono := fun h e z => hx.mono (fun x s ρ z => isInt_mono (fun i z => hy.mono (fun y s ρ z => isInt_mono (fun j z => hz.mono (fun w s ρ z => isInt_mono (fun n ⟨m, a, b⟩ => ⟨m, a, h _ _ _ b⟩) z) e z) z) e z) z) e z
  run := fun {r B ft F H σ ρ s EX Q} G w q => by
    refine hx.run G w (hx.mono (fun x s1 ρ1 z v ft1 F1 H1 G1 e1 a1 => ?_) (fun _ _ _ z => z) q)
    obtain ⟨i, rfl, z⟩ := isInt_of a1 z
    refine hy.run G1 w (hy.mono (fun x s2 ρ2 z v ft2 F2 H2 G2 e2 a2 => ?_) (fun _ _ _ z => z) z)
    obtain ⟨j, rfl, z⟩ := isInt_of a2 z
    refine hz.run G2 w (hz.mono (fun x s3 ρ3 z v ft3 F3 H3 G3 e3 a3 => ?_) (fun _ _ _ z => z) z)
    obtain ⟨c, rfl, n, z1, z2⟩ := isInt_of a3 z
    exact ⟨i, j, c, n, rfl, z1, z2 _ _ _ _ G3 ((e1.trans e2).trans e3) itd_rngC⟩
/-! built-ins of several arguments -/
def oInts2 (f : Int → Int → Int) : DOA := fun cs Q => match cs with
  | [.d (.int i), .d (.int j)] => Q (.int (f i j))
  | _ => False
def rInts2 (f : Int → Int → Int) : List V → Hp → VK → Prop := fun xs H Q => ∃ i j, xs = [.int i, .int j] ∧ Q (.int (f i j)) H
theorem sim_ints2 {f : Int → Int → Int} : SimB K mg (rInts2 f) (oInts2 f) where
  mono := fun {cs Q Q'} h z => by
    unfold oInts2 at z ⊢
    split at z <;> first | exact h _ z | exact z.elim
  run := fun {q F H vs cs Q} e ha z => by
    unfold oInts2 at z
    split at z
    · obtain ⟨v, u, rfl, h1, h2⟩ := args2 ha
      cases has_int h1; cases has_int h2
      exact ⟨_, _, rfl, z _ F H (.refl e) (.int _)⟩
    · exact z.elim
def maxI (i j : Int) : Int := if j > i then j else i
def minI (i j : Int) : Int := if j < i then j else i
theorem call_maxD {X : Cx} (hc : X.calm = true) : CallR X (.builtin "max") (rInts2 maxI) := call_max2 hc
theorem call_minD {X : Cx} (hc : X.calm = true) : CallR X (.builtin "min") (rInts2 minI) := call_min2 hc
def oAbs : DO1 := fun x Q => match x with
  | .int i => Q (.int (if i < 0 then -i else i))
  | _ => False
def rAbsU : List V → Hp → VK → Prop := fun xs H Q => ∃ i, xs = [.int i] ∧ Q (.int (if i < 0 then -i else i)) H
theorem call_absU {X : Cx} : CallR X (.builtin "abs") rAbsU := call_abs
theorem sim_abs : SimH1 K mg (r1 rAbsU) oAbs where
  mono := fun {x Q Q'} h z => by
    unfold oAbs at z ⊢
    split at z <;> first | exact h _ z | exact z.elim
  run := fun {F H x dx Q} e hx q => by
    unfold oAbs at q
    split at q
    · cases hs_int hx; exact ⟨_, rfl, q _ F H (.refl e) (.int _)⟩
    · exact q.elim
/-! isinstance(x, T) of a built-in T -/
def tyD : D → Option String
  | .non => some "NoneType" | .bl _ => some "bool" | .int _ => some "int" | .str _ => some "str" | .lst _ => some "list" | .tup _ => some "tuple" | .dct _ _ => some "dict" | .obj _ _ _ => none | .hdl _ => none | .tpd _ => some "tuple" | .dtt _ _ => none
/-- .. which answers are written down -/
def subT (t T : String) : Bool := t == T || (t == "bool" && T == "int")
def IsiT (K : PySem.W.Frag) (T : String) : Prop := ∀ t ∈ ["NoneType", "bool", "int", "str", "list", "tuple", "dict"], PySem.W.kitOne K (.type t) (.type T) = some (subT t T)
def oIsi (T : String) : DO1 := fun x Q => ∃ t, tyD x = some t ∧ Q (.bl (subT t T))
theorem tyx_of {F H : Hp} {v : V} {x : D} {t : String} (e : Same F H) (h : Has K mg F v x) (ht : tyD x = some t) : TyX K H v (.type t) := by
  cases h with
  | non => cases ht; exact .base .non
  | bl b => cases ht; exact .base (.bl b)
  | int i => cases ht; exact .base (.int i)
  | str x _ => cases ht; exact .base (.str x)
  | lst h hs => cases ht; exact .base (.lst (e _ _ h))
  | tup h hs =>
    cases ht
    rcases h with (h | ⟨o, h⟩) | ⟨o, its, n, h, c, _⟩
    · exact .base (.tup (e _ _ h))
    · exact .fTuple (e _ _ h)
    · exact .kTuple h c
  | dct h hk hs => cases ht; exact .base (.dK (e _ _ h))
  | obj _ _ _ _ => cases ht
  | hdl _ => cases ht
  | tpd h hs => cases ht; exact .base (.tup (e _ _ h))
  | dtt _ _ _ => cases ht
theorem ty_mem {x : D} {t : String} (ht : tyD x = some t) : t ∈ ["NoneType", "bool", "int", "str", "list", "tuple", "dict"] := by
  cases x <;> first | (cases ht; done) | (cases ht; decide)
theorem sim_isi {T : String} {ta : TE} {da : DOp S} (hT : IsiT K T) (ha : SimO K mg xc R W ta da) : SimE K mg xc R W (tCB (rIsi K) (tCons ta (tCons (tC (.ty T)) tNil))) (dUnO (oIsi T) da) where
  mono := fun h e z => ha.mono (fun x s ρ z => rdv_mono (fun y ⟨t, a, b⟩ => ⟨t, a, h _ _ _ b⟩) z) e z
  run := fun {r' B ft F H σ ρ s EX Q} G w q => by
    refine ha.run G w (ha.mono (fun x s1 ρ1 z v ft1 F1 H1 G1 e1 a1 => ?_) (fun _ _ _ z => z) q)
    obtain ⟨dx, h1, t, z1, z2⟩ := rd_res G1 a1 z
    obtain ⟨F2, s2, e2, h2⟩ := hs_has h1 G1.sub
    exact ⟨v, .ty T, .type t, .type T, subT t T, rfl, .ty T, tyx_of e2 h2 z1, hT t (ty_mem z1), z2 _ _ _ _ G1 e1 (.bl _)⟩
/-! a list or a tuple taken apart -/
def gTpU (is : List Nat) : DG := fun x ρ Q => match x with
  | .tup ds => ds.length = is.length ∧ Q (setAll ρ is ds)
  | .lst ds => ds.length = is.length ∧ Q (setAll ρ is ds)
  | _ => False
def gTupU (K : PySem.W.Frag) (n : Nat) (t : TGs) : TG := fun v σ H Q => gTup K n t v σ H Q ∨ gUnl K n t v σ H Q
theorem simg_tpU (is : List Nat) {n : Nat} (hn : is.length = n) : SimG (S := S) K mg xc R (gTupU K n (gNms is)) (gTpU is) is where
  mono := fun {x ρ Q Q'} h z => by
    unfold gTpU at z ⊢
    split at z
    · exact ⟨z.1, h _ z.2⟩
    · exact ⟨z.1, h _ z.2⟩
    · exact z.elim
  run := fun {r B ft F H σ ρ s v x Q} G hv q => by
    cases hv <;> first | (exact (show False from q).elim) | skip
    · rename_i a xs ds hs hd
      obtain ⟨hl, q⟩ : ds.length = is.length ∧ _ := q
      exact .inr ⟨_, xs, rfl, .inl (.inl (G.sub _ _ hs)), by rw [hd.length, hl, hn], nms_run is G hd hl fun σ' z G' => q σ' z G'⟩
    · rename_i a xs ds hs hd
      obtain ⟨hl, q⟩ : ds.length = is.length ∧ _ := q
      exact .inl ⟨_, xs, rfl, sqT_mono G.sub hs, by rw [hd.length, hl, hn], nms_run is G hd hl fun σ' z G' => q σ' z G'⟩
/-! join -/
def mJoin : D → DOA := fun x cs Q => match x, cs with
  | .str a, [.d (.lst xs)] => ∃ ys : List Str, xs = ys.map D.str ∧ (ys.map (·.length)).sum + ys.length * a.length ≤ 16777216 ∧ Q (.str (Str.join a ys))
  | .str a, [.d (.tup xs)] => ∃ ys : List Str, xs = ys.map D.str ∧ (ys.map (·.length)).sum + ys.length * a.length ≤ 16777216 ∧ Q (.str (Str.join a ys))
  | _, _ => False
def rJoin (K : PySem.W.Frag) : V → List V → Hp → VK → Prop := fun x xs H Q => ∃ a p, ∃ ys : List Str, x = .str a ∧ xs = [.ref p] ∧ (SqL K H p (ys.map V.str) ∨ SqT K H p (ys.map V.str)) ∧ (ys.map (·.length)).sum + ys.length * a.length ≤ 16777216 ∧ Q (.str (Txt.join a ys)) H
theorem mt_joinD {X : Cx} : MtR X "str.join" (rJoin X.K) := mt_join
theorem okS_join {a : Str} {ys : List Str} (ha : OkS a) (hy : ∀ y ∈ ys, OkS y) (hl : (ys.map (·.length)).sum + ys.length * a.length ≤ 16777216) : OkS (Str.join a ys) :=
  ⟨join_ok ha.1 fun t ht => (hy t ht).1, by rw [big_eq]; exact Nat.le_trans (StrLaws.join_length_le a ys) hl⟩
theorem sim_join : SimM K mg "str" (rJoin K) isStr mJoin where
  ty := ty_str
  mono := fun {x cs Q Q'} h z => by
    unfold mJoin at z ⊢
    split at z
    · obtain ⟨ys, a, b, c⟩ := z; exact ⟨ys, a, b, h _ c⟩
    · obtain ⟨ys, a, b, c⟩ := z; exact ⟨ys, a, b, h _ c⟩
    · exact z.elim
  run := fun {q F H x dx vs cs Q} e hx ha z => by
    unfold mJoin at z
    split at z
    · obtain ⟨rfl, o1⟩ := has_str hx
      obtain ⟨v, rfl, hv⟩ := args1 ha
      obtain ⟨ys, rfl, hl, z⟩ := z
      cases hv with
      | lst hs hd =>
        obtain ⟨rfl, ok⟩ := strs_of hd
        exact ⟨_, _, ys, rfl, rfl, .inl (.inl (.inl (e _ _ hs))), hl, by rw [TL.join_eq]; exact z _ F H (.refl e) (.str _ (okS_join o1 ok hl))⟩
    · obtain ⟨rfl, o1⟩ := has_str hx
      obtain ⟨v, rfl, hv⟩ := args1 ha
      obtain ⟨ys, rfl, hl, z⟩ := z
      cases hv with
      | tup hs hd =>
        obtain ⟨rfl, ok⟩ := strs_of hd
        exact ⟨_, _, ys, rfl, rfl, .inr (sqT_mono e hs), hl, by rw [TL.join_eq]; exact z _ F H (.refl e) (.str _ (okS_join o1 ok hl))⟩
    · exact z.elim
/-! a list several times -/
def repD {α : Type} (xs : List α) (n : Int) : List α := (List.replicate n.toNat xs).flatten
def oMulL : DO2 := fun x y Q => match x, y with
  | .lst xs, .int n => -(2 ^ 63) ≤ n ∧ n < 2 ^ 63 ∧ xs.length * n.toNat ≤ BIG ∧ Q (.lst (repD xs n))
  | _, _ => False
def oMulV : DO2 := fun x y Q => match x, y with
  | .lst xs, .int n => -(2 ^ 63) ≤ n ∧ n < 2 ^ 63 ∧ xs.length * n.toNat ≤ BIG ∧ Q (.lst (repD xs n))
  | x, y => oMul x y Q
def rMulV : R2 := rOr rMulU rRep
theorem op_mulV {X : Cx} : OpR X (binaryOp .Mult) rMulV := opr_or op_mulU op_rep
theorem hasL_flat {F : Hp} {vs : List V} {ds : List D} (h : HasL K mg F vs ds) : ∀ n : Nat, HasL K mg F (List.replicate n vs).flatten (List.replicate n ds).flatten
  | 0 => .nil
  | n + 1 => by
    rw [List.replicate_succ, List.replicate_succ, List.flatten_cons, List.flatten_cons]
    exact h.append (hasL_flat h n)
theorem sim_mulV : SimH K mg rMulV oMulV where
  mono := fun {x y Q Q'} h z => by
    unfold oMulV at z ⊢
    split at z
    · exact ⟨z.1, z.2.1, z.2.2.1, h _ z.2.2.2⟩
    · exact (sim_mul (K := K) (mg := mg)).mono h z
  run := fun {F H x y dx dy Q} e hx hy q => by
    unfold oMulV at q
    split at q
    · rename_i xs n
      obtain ⟨a, zs, rfl, h1, h2⟩ := hs_lst e hx
      cases hs_int hy
      refine .inr ⟨a, _, zs, rfl, rfl, h1, q.1, q.2.1, by rw [big_eq, h2.length]; exact q.2.2.1, fun p hp => ?_⟩
      have t := PStep.new (o := .lst (List.replicate n.toNat zs).flatten) e hp
      exact q.2.2.2 _ _ _ t (.lst upd_same (hasL_flat (h2.mono t.grow) _))
    · exact .inl ((sim_mul (K := K) (mg := mg)).run e hx hy q)
theorem simf_rep {ta tb : TE} {da db : DOp S} (ha : SimO K mg xc R W ta da) (hb : SimO K mg xc R W tb db) : SimF K mg xc R W (tOp rMulV ta tb) (dOpO oMulL da db) where
  mono := fun h e z => ha.mono (fun x s ρ z => hb.mono (fun y s ρ z => rdv_mono (fun x z => rdv_mono (fun y z => by
    unfold oMulL at z ⊢
    split at z
    · exact ⟨z.1, z.2.1, z.2.2.1, h _ _ _ z.2.2.2⟩
    · exact z.elim) z) z) e z) e z
  run := fun {r' B ft F H σ ρ s EX Q} G w q => by
    refine ha.run G w (ha.mono (fun x s1 ρ1 z v ft1 F1 H1 G1 e1 a1 => ?_) (fun _ _ _ z => z) q)
    refine hb.run G1 w (hb.mono (fun y s2 ρ2 z u ft2 F2 H2 G2 e2 a2 => ?_) (fun _ _ _ z => z) z)
    obtain ⟨dx, h1, z⟩ := rd_res G2 (a1.mono e2) z
    obtain ⟨dy, h2, z⟩ := rd_res G2 a2 z
    unfold oMulL at z
    split at z
    · obtain ⟨a, zs, rfl, h3, h4⟩ := hs_lst G2.sub h1
      cases hs_int h2
      refine .inr ⟨a, _, zs, rfl, rfl, h3, z.1, z.2.1, by rw [big_eq, h4.length]; exact z.2.2.1, fun p hp => ?_⟩
      have fin : ∀ (ws : List V), _ → Q (.ref p) (upd H2 p (.lst ws)) := fun ws (hw : HasL K mg F2 ws _) => by
        obtain ⟨G3, fp, fr⟩ := G2.born (.lst ws) hp
        exact z.2.2.2 p _ _ _ G3 (e1.trans e2) fp ⟨_, upd_same, hw⟩ fr
      exact fin _ (hasL_flat h4 _)
    · exact z.elim
end
theorem pg_or {X : Cx} {e : Expr} {g g' : TG} (h : PG X e g) (h' : PG X e g') : PG X e (fun v σ H Q => g v σ H Q ∨ g' v σ H Q) := ⟨fun pins s σ H v u Q I r hw => hw.elim (h.run pins s σ H v u Q I r) (h'.run pins s σ H v u Q I r)⟩
section
variable {S : Type} [Pk S] {X : Cx} {xc : XC} {R : Reg S} [RegS X.K X.mg R] {W : WX} {e a b c : Expr} {es rest : List Expr} {te ta tb tc : TE} {tA : TA} {da db dc : DOp S} {dx dy dz : DX S} {dA : DA S} {pos : Pos}
theorem ir3 {tg : Expr} {p : Pos} (hm : X.mg "range" = none) (h : QE X xc R W a ta dx) (h' : QE X xc R W b tb dy) (h'' : QE X xc R W c tc dz) (hg : Gl X "range" := by rfl) (hs : starEach [a, b, c] X.env = (false, eval a X.env) :: starEach [b, c] X.env := by rfl) (hpl : (backTo pos (starEach [b, c] X.env)).any (·.1) = false := by rfl)
    (hs2 : starEach [b, c] X.env = (false, eval b X.env) :: starEach [c] X.env := by rfl) (hs3 : starEach [c] X.env = (false, eval c X.env) :: starEach [] X.env := by rfl) :
    QI X xc R W tg (.Call (.Name "range" p) [a, b, c] [] pos) (iRng3 (tCons ta (tCons tb (tCons tc tNil)))) (dRng3 dx dy dz) := ⟨fun k => pi_range3 hg hm (pa_cons (h.pe k) (pa_cons (h'.pe k) (pa_cons (h''.pe k) pa_nil hs3) hs2) hs) hs hpl, simi_rng3 h.sim h'.sim h''.sim⟩
/-- a built-in of some arguments -/
theorem qbn {x : Str} {id : String} {r : List V → Hp → VK → Prop} {f : DOA} {p : Pos} (hc : CallR X (.builtin id) r) (hs : SimB X.K X.mg r f) (hm : X.mg x = none) (hv : bootBuiltins x = some (.builtin id)) (ha : QA X xc R W (e :: es) tA dA) (hg : Gl X x := by rfl) (hn : x ≠ "__name__" := by decide)
    (hdb : (x == ("__debug__" : Str)) = false := by decide) (he : starEach (e :: es) X.env = (false, eval e X.env) :: starEach es X.env := by rfl) (hpl : (backTo pos (starEach es X.env)).any (·.1) = false := by rfl) :
    QE X xc R W (.Call (.Name x p) (e :: es) [] pos) (tCB r tA) (dB f dA) := ⟨fun k => pe_callB hc hg hm hv (ha.pa k) hn hdb he hpl, sim_B hs ha.sim⟩
/-- isinstance(e, T) -/
theorem qisi {T : Str} {TS : String} {p pT : Pos} (hT : IsiT X.K TS) (hm : X.mg "isinstance" = none) (hmT : X.mg T = none) (hvT : bootBuiltins T = some (.type TS)) (ha : QO X xc R W e te da) (hg : Gl X "isinstance" := by rfl) (hgT : Gl X T := by rfl)
    (hnT : T ≠ "__name__" := by decide) (hdT : (T == ("__debug__" : Str)) = false := by decide)
    (he : starEach [e, .Name T pT] X.env = (false, eval e X.env) :: starEach [.Name T pT] X.env := by rfl) (he2 : starEach [.Name T pT] X.env = (false, eval (.Name T pT) X.env) :: starEach [] X.env := by rfl) (hpl : (backTo pos (starEach [.Name T pT] X.env)).any (·.1) = false := by rfl) :
    QE X xc R W (.Call (.Name "isinstance" p) [e, .Name T pT] [] pos) (tCB (rIsi X.K) (tCons te (tCons (tC (.ty TS)) tNil))) (dUnO (oIsi TS) da) :=
  ⟨fun k => pe_callB call_isi hg hm (by decide +kernel) (pa_cons (ha.pe k) (pa_cons (pe_bltn hgT hmT hvT rfl hnT hdT) pa_nil he2) he) (by decide) (by decide) he hpl, sim_isi hT ha.sim⟩
/-- a, b = a list or a tuple -/
theorem gtU {k} {is : List Nat} (n : Nat) (h : QNs X es is) (hl : is.length = n := by rfl) (hc : X.calm = true := by rfl) (hn : (assignEach es X.env).length = n := by rfl) (hst : (assignEach es X.env).findIdx? (·.1) = none := by rfl) : QG X xc R (.Tuple es k pos) (gTupU X.K n (gNms is)) (gTpU is) is := ⟨pg_or (pg_tup hc h.pgs hn hst) (pg_unl hc h.pgs hn hst), simg_tpU is hl⟩
theorem qrep (ha : QO X xc R W a ta da) (hb : QO X xc R W b tb db) : QF X xc R W (.BinOp a .Mult b pos) (tOp rMulV ta tb) (dOpO oMulL da db) := ⟨fun k => pe_op op_mulV (ha.pe k) (hb.pe k), simf_rep ha.sim hb.sim⟩
end
end DL

set_option linter.all false
set_option maxRecDepth 100000
set_option maxHeartbeats 2000000
/-! the box of digits, and a law's own def -/
namespace DL
open PySem PySem.Spec PyProof.Rows L2 GR N01 RZ
section
variable {P : Program} {w : World} {K : PySem.W.Frag} {mg : Str → Option Value} {base : Heap} {Z : CXT} {k : Nat} {f : Addr} {fd : FuncData} {ps : List Str} {x qual : Str} {params : Arguments} {bd : List Stmt} {scope : Scope} {dvs : List V} {kws : List (Str × V)} {N : List Str}
theorem fnG_imp {sp sp' : Sp} (F : FnG P w K mg base Z k f fd ps sp) (many : ∀ vs H Q E, sp' vs H Q E → vs.length = ps.length) (h : ∀ vs H Q E, sp' vs H Q E → sp vs H Q E) : FnG P w K mg base Z k f fd ps sp' :=
  ⟨many, fun B out st G as us vs Q E hgd hr e0 hb r q => F.runs B out st G as us vs Q E hgd hr e0 hb r (h _ _ _ _ q)⟩
/-- a list of the script, digits of it -/
def spCell (K : PySem.W.Frag) : Sp := fun vs H Q _ => ∃ (l : Addr) (ns : List Int) (j : Nat), vs = [.ref l, .int j] ∧ SqL K H l (ns.map V.int) ∧ ∀ n, Q (.int n) H
def spDig (K : PySem.W.Frag) : Sp := fun vs H Q _ => ∃ (l : Addr) (ns : List Int), vs = [.ref l, .int 0, .int 63] ∧ SqL K H l (ns.map V.int) ∧ ∀ (H' : Hp) (p : Addr) (ms : List Int), Same H H' → H p = none → H' p = some (.lst (ms.map V.int)) → ms.length ≤ 4000 → Q (.ref p) H'
def BoxAt (H : Hp) (b : Addr) : Prop := ∃ (d : Addr) (ns : List Int) (k : Nat), H b = some (.lst [.ref d, .int k]) ∧ H d = some (.lst (ns.map V.int)) ∧ ns.length ≤ 4000
structure Kept (b : Addr) (H H' : Hp) : Prop where
  all : ∀ c o, H c = some o → c ≠ b → H' c = some o
  box : ∀ (d : Addr) (j : Nat), H b = some (.lst [.ref d, .int j]) → ∃ j' : Nat, H' b = some (.lst [.ref d, .int j'])
def spDraw : Sp := fun vs H Q _ => ∃ (b : Addr) (m : Int), vs = [.ref b, .int m] ∧ 0 < m ∧ BoxAt H b ∧ ∀ (n : Int) (H' : Hp), 0 ≤ n → n < m → BoxAt H' b → Kept b H H' → Q (.int n) H'
/-- a draw: some number below m -/
def spDrw : DSp Unit := dsp (fun m : Int => [C.box, C.d (.int m)]) (fun m => 0 < m) (fun m x => ∃ n : Int, x = .int n ∧ 0 ≤ n ∧ n < m) (fun _ _ => False)
theorem draw_lift : ∀ vs H Q E, lift K mg box 2 spDrw vs H Q E → spDraw vs H Q E := by
  rintro vs H Q E ⟨_, r, ft, F, s, cs, h1, h2, ⟨hf, d, ns, k, b1, b2, b3⟩, ha, m, rfl, hm, hq, _⟩
  cases ha with
  | cons a1 ha =>
    cases ha with
    | cons a2 ha =>
      cases ha
      cases (show _ = V.ref r from a1)
      cases has_int a2
      have fr : F r = none := h2 r ((hf r).mpr rfl)
      have dr : d ≠ r := fun e => by rw [e, fr] at b2; cases b2
      refine ⟨r, m, rfl, hm, ⟨d, ns, k, b1, h1 _ _ b2, b3⟩, fun n H' n0 n1 B' kp => hq (.int n) ⟨n, rfl, n0, n1⟩ _ ft F H' ⟨⟨fun a o e => ?_, Same.refl F, fun a z => .inl z, fun a o e z => kp.all a o e fun y => z ((hf a).mpr y), fun a z => ?_⟩, fun a z => ⟨h2 a z, .inl z⟩⟩ ⟨hf, ?_⟩ (.int n)⟩
      · exact kp.all a o (h1 _ _ e) fun y => by rw [y, fr] at e; cases e
      · by_cases ea : a = r
        · subst ea
          obtain ⟨_, _, _, q, _⟩ := B'
          rw [q]; exact fun y => nomatch y
        · obtain ⟨o, e⟩ := some_of_ne z
          exact ne_of_some (kp.all a o e ea)
      · obtain ⟨k', e⟩ := kp.box d k b1
        exact ⟨d, ns, k', e, b2, b3⟩
theorem draw_cal {n : Nat} (F : FnOk P w K mg base CX0 n f fd ["box", "many"] spDraw) (hb : Binds K fd ["box", "many"] []) (hg : mg "_law_draw" = some (.ref f)) (hk : PySem.W.keepIn K (.ref f) = true) : DCal K mg P w base box n "_law_draw" ["box", "many"] [] spDrw :=
  ⟨dsp_mono, f, fd, [], [], fnG_imp (fnOk_G F) (fun vs H Q E h => h.1) draw_lift, hb, .nil, fun _ _ => .nil, hg, hk⟩
/-! a law's def -/
def spLaw (K : PySem.W.Frag) : Sp := fun vs H Q _ => ∃ (a : Addr) (ns : List Int), vs = [.ref a] ∧ SqL K H a (ns.map V.int) ∧ ns.length ≤ 63 ∧ ∀ H', Q (.bl true) H'
def tBox (K : PySem.W.Frag) : TS := tAsg (tLst (tCons (tCall (spDig K) [] E0 (tCons (tVar 0) (tCons (tC (.int 0)) (tCons (tC (.int 63)) tNil)))) (tCons (tC (.int 0)) tNil))) (gName 1)
def boxEnv (n : Nat) : En := none :: some .box :: List.replicate n none
theorem lawdef {y : Str} {n : Nat} {s0 : Stmt} {rest : List Stmt} {ds : DS Unit} (F : FunD K x qual params bd scope [] [] f fd) (hbd : bd = s0 :: rest) (Sc : FnScope N [y] scope) (hN : N.length = n + 2)
    (h0 : ∀ (cdv : Value) (A : Around) (outer : List Env) (s : Shared) (H : Hp) (E : XK), Room k (A.deeper (envOfC qual scope s.heap.objs.size f cdv)) → PS (cxOf CX0 P w K mg base N qual scope f cdv A outer s H E) s0 (tBox K))
    (hb : ∀ (cdv : Value) (A : Around) (outer : List Env) (s : Shared) (H : Hp) (E : XK), Room k (A.deeper (envOfC qual scope s.heap.objs.size f cdv)) → (A.deeper (envOfC qual scope s.heap.objs.size f cdv)).guards = some [] →
      ∃ ts, QSs (cxOf CX0 P w K mg base N qual scope f cdv A outer s H E) none box WF rest ts ds)
    (hs : ds ⟨fun _ _ => False, fun x _ => x = .bl true, fun _ _ => False, fun _ _ => False, fun _ _ _ => False⟩ () (boxEnv n)) :
    FnG P w K mg base CX0 (k + 1) f fd [y] (spLaw K) := by
  subst hbd
  refine fngD F Sc (fun vs H Q E h => by obtain ⟨a, ns, rfl, _⟩ := h; rfl) fun cdv B out s H vs Q E hgd hr h => ?_
  obtain ⟨a, ns, rfl, hsq, hl, q⟩ := h
  obtain ⟨ts, hts⟩ := hb cdv B out s H E hr hgd
  refine ⟨_, pss_cons (h0 cdv B out s H E hr) (hts.ps ⟨takes0, passes_of rfl⟩), ?_⟩
  have hz : start N [.ref a] = some (.ref a) :: none :: List.replicate n none := by
    unfold L2.start
    rw [hN]; rfl
  rw [hz]
  refine ⟨_, rfl, a, ns, rfl, hsq, fun H1 p ms sm hp hm hlen => ?_⟩
  refine ⟨(show 2 ≤ sizeLine by decide), fun b hb1 => ?_⟩
  have pb : p ≠ b := fun e => by rw [e, hb1] at hm; cases hm
  have Fp : ∀ {c : Addr} {o : HO}, (upd (fun _ => none) p (.lst (ms.map V.int)) : Hp) c = some o → c = p ∧ o = .lst (ms.map V.int) := fun {c o} e => by
    by_cases hc : c = p
    · subst hc; rw [upd_same] at e; cases e; exact ⟨rfl, rfl⟩
    · rw [upd_ne hc] at e; cases e
  have sub : Same (upd (fun _ => none) p (.lst (ms.map V.int)) : Hp) (upd H1 b (.lst [.ref p, .int 0])) := fun c o e => by
    obtain ⟨rfl, rfl⟩ := Fp e
    rw [upd_ne pb]; exact hm
  have Fb : (upd (fun _ => none) p (.lst (ms.map V.int)) : Hp) b = none := upd_ne (Ne.symm pb)
  refine hts.sim.run (r := b) (B := ⟨fun c => c = b, _, _⟩) (ft := fun c => c = b) (F := upd (fun _ => none) p (.lst (ms.map V.int))) (ρ := boxEnv n) (s := ()) (DE := ⟨fun _ _ => False, fun x _ => x = .bl true, fun _ _ => False, fun _ _ => False, fun _ _ _ => False⟩)
    { st := Step.refl sub, foot := fun c z => ⟨by rw [show c = b from z]; exact Fb, .inl z⟩, reg := ⟨fun c => .rfl, p, ms, 0, upd_same, upd_same, hlen⟩, len := ?_, sl := fun i c e => ?_, own := fun i c z e1 e2 => ?_, dist := fun i j c y z e1 e2 e3 e4 => ?_ }
    ⟨fun _ _ _ _ _ _ _ z => (show False from z).elim, fun ft' F' H' σ' ρ' s' v x G hv z => ?_, fun _ _ _ _ _ _ _ z => (show False from z).elim, fun _ _ _ _ _ _ _ z => (show False from z).elim, fun _ _ _ _ _ _ _ _ _ _ _ z => (show False from z).elim⟩ hs
  · simp [boxEnv]
  · have none2 : ∀ (j : Nat) (c : C), (List.replicate n (none : Option C))[j]? = some (some c) → False := fun j c e => by
      rw [List.getElem?_replicate] at e
      split at e <;> cases e
    match i, e with
    | 0, e => cases e
    | 1, e => cases e; exact ⟨.ref b, rfl, rfl⟩
    | i + 2, e => exact (none2 i c e).elim
  · have none2 : ∀ (j : Nat) (c : C), (List.replicate n (none : Option C))[j]? = some (some c) → False := fun j c e => by
      rw [List.getElem?_replicate] at e
      split at e <;> cases e
    match i, e2 with
    | 0, e => cases e
    | 1, e => cases e
    | i + 2, e => exact (none2 i _ e).elim
  · have none2 : ∀ (j : Nat) (c : C), (List.replicate n (none : Option C))[j]? = some (some c) → False := fun j c e => by
      rw [List.getElem?_replicate] at e
      split at e <;> cases e
    match i, e2 with
    | 0, e => cases e
    | 1, e => cases e
    | i + 2, e => exact (none2 i _ e).elim
  · cases (show x = .bl true from z)
    cases hv
    exact q H'
end
end DL

set_option linter.all false
set_option maxRecDepth 100000
set_option maxHeartbeats 2000000
/-! words for the generated bodies; loops and comprehensions by invariants -/
namespace DL
open PySem PySem.Spec PyProof.Rows L2 GR N01 RZ
abbrev oSub : DO2 := oII (fun i j => .int (i - j)) fun _ _ => True
abbrev oMod : DO2 := oII (fun i j => .int (i % j)) fun _ j => 0 < j
abbrev oFdv : DO2 := oII (fun i j => .int (i / j)) CDiv
abbrev oLe : DO2 := oCmp (fun i j => decide (i ≤ j)) (fun a b => !ltS b a)
abbrev oGt : DO2 := oCmp (fun i j => decide (j < i)) (fun a b => ltS b a)
abbrev oGe : DO2 := oCmp (fun i j => decide (j ≤ i)) (fun a b => !ltS a b)
theorem hu65 {k : Nat} {A : Around} (r : Room k A) : A.units + 65 < cLine := by have := r.un; omega
theorem hu64 {k : Nat} {A : Around} (r : Room k A) : A.units + 64 < cLine := by have := r.un; omega
/-- the ends of a body -/
abbrev fin (Q : D → Unit → Prop) (E : Exc → Unit → Prop) : DEnds Unit := ⟨fun s _ => Q .non s, Q, fun _ _ => False, fun _ _ => False, fun e s _ => E e s⟩
def args0 (cs : List C) (n : Nat) : En := cs.map some ++ List.replicate (n - cs.length) none
/-- a def by the answer that it gives, or what it raises -/
def fsp {α : Type} (args : α → List C) (pre : α → Prop) (f : α → Except Exc D) : DSp Unit := fun cs _ Q E => ∃ a, cs = args a ∧ pre a ∧ (∀ x, f a = .ok x → Q x ()) ∧ ∀ e, f a = .error e → E e ()
theorem fsp_mono {α : Type} {args : α → List C} {pre : α → Prop} {f : α → Except Exc D} : MonoSp (fsp args pre f) :=
  fun _ _ _ _ _ _ hq he ⟨a, e, p, q, x⟩ => ⟨a, e, p, fun y z => hq _ _ (q y z), fun y z => he _ _ (x y z)⟩
/-- a def that answers -/
def psp {α : Type} (args : α → List C) (pre : α → Prop) (f : α → D) : DSp Unit := fun cs _ Q _ => ∃ a, cs = args a ∧ pre a ∧ Q (f a) ()
theorem psp_mono {α : Type} {args : α → List C} {pre : α → Prop} {f : α → D} : MonoSp (psp args pre f) :=
  fun _ _ _ _ _ _ hq _ ⟨a, e, p, q⟩ => ⟨a, e, p, hq _ _ q⟩
/-- a def whose answers are told -/
def rsp {α : Type} (args : α → List C) (pre : α → Prop) (post : α → D → Prop) : DSp Unit := fun cs _ Q _ => ∃ a, cs = args a ∧ pre a ∧ ∀ x, post a x → Q x ()
theorem rsp_mono {α : Type} {args : α → List C} {pre : α → Prop} {post : α → D → Prop} : MonoSp (rsp args pre post) :=
  fun _ _ _ _ _ _ hq _ ⟨a, e, p, q⟩ => ⟨a, e, p, fun x z => hq _ _ (q x z)⟩
section
variable {S : Type} [Pk S]
theorem loop_inv {g : DG} {tb : DS S} {DE : DEnds S} (I : Nat → S → En → Prop) : ∀ (xs : List D) (k : Nat) (s : S) (ρ : En), I k s ρ →
    (∀ i x s ρ (P : S → En → Prop), xs[i]? = some x → (∀ s ρ, I (k + i + 1) s ρ → P s ρ) → I (k + i) s ρ → g x ρ fun ρ => tb { DE with nx := P, ct := P, bk := DE.nx } s ρ) → (∀ s ρ, I (k + xs.length) s ρ → DE.nx s ρ) → dLoop g tb xs DE s ρ
  | [], k, s, ρ, h0, _, he => he s ρ h0
  | x :: xs, k, s, ρ, h0, hs, he => by
    refine hs 0 x s ρ (dLoop g tb xs DE) rfl (fun s ρ w => ?_) h0
    refine loop_inv I xs (k + 1) s ρ w (fun i y s ρ P hy hP hI => ?_) fun s ρ w => he s ρ (by rw [List.length_cons]; rw [Nat.add_right_comm] at w; exact w)
    exact hs (i + 1) y s ρ P hy (fun s ρ z => hP s ρ (by rw [show k + 1 + i + 1 = k + (i + 1) + 1 by omega]; exact z)) (by rw [← Nat.add_assoc, Nat.add_right_comm]; exact hI)
/-- the turns of a comprehension -/
theorem turns_inv {g : DG} {dt : DT S} {de : DX S} {vs : List Nat} {Q : List D → S → En → Prop} (I : List D → List D → S → En → Prop)
    (step : ∀ x xs acc s ρ (P : List D → S → En → Prop), (∀ acc s ρ, I xs acc s ρ → P acc s ρ) → I (x :: xs) acc s ρ → g x ρ fun ρ' => dt s ρ' (fun b s ρ' => if b = true then de s ρ' (fun y s ρ' => P (acc ++ [y]) s (wipeD ρ' vs)) (fun _ _ _ => False) else P acc s (wipeD ρ' vs)) fun _ _ _ => False) (he : ∀ acc s ρ, I [] acc s ρ → Q acc s ρ) :
    ∀ (xs acc : List D) (s : S) (ρ : En), I xs acc s ρ → dTurns g dt de vs Q xs acc s ρ
  | [], acc, s, ρ, h => he _ _ _ h
  | x :: xs, acc, s, ρ, h => step x xs acc s ρ (dTurns g dt de vs Q xs) (fun acc s ρ w => turns_inv I step he xs acc s ρ w) h
/-- each turn one answer, the slots as they were -/
theorem turns_map {g : DG} {de : DX S} {vs : List Nat} {Q : List D → S → En → Prop} {s : S} {ρ : En} (f : D → D) :
    ∀ (xs acc : List D), (∀ x ∈ xs, ∀ P : D → S → En → Prop, (∀ ρ', wipeD ρ' vs = ρ → P (f x) s ρ') → g x ρ fun ρ' => de s ρ' P fun _ _ _ => False) → Q (acc ++ xs.map f) s ρ → dTurns g dYes de vs Q xs acc s ρ
  | [], acc, _, q => by rw [List.map_nil, List.append_nil] at q; exact q
  | x :: xs, acc, h, q => by
    refine h x List.mem_cons_self (fun y s ρ' => dTurns g dYes de vs Q xs (acc ++ [y]) s (wipeD ρ' vs)) fun ρ' e => ?_
    rw [e]
    exact turns_map f xs _ (fun y hy => h y (List.mem_cons_of_mem _ hy)) (by rw [List.append_assoc]; exact q)
end
end DL

set_option linter.all false
set_option maxRecDepth 100000
set_option maxHeartbeats 2000000
/-! comprehensions, the places of their own names apart -/
namespace DL
open PySem PySem.Spec PyProof.Rows L2 GR N01 RZ
section
variable {S : Type} [Pk S] {X : Cx} {xc : XC} {R : Reg S} [RegS X.K X.mg R] {W : WX} {te : TE} {dx : DX S} {tt : TT} {dt : DT S} {pos : Pos}
theorem qlcV {elt tg iter : Expr} {scope : Scope} {wi : TI} {g : TG} {di : DI S} {dg : DG} {is vs : List Nat} (own : List (Str × Nat)) (nd : X.N.Nodup) (hi : QI X xc R W tg iter wi di) (ok : BlkOk X.N X.env.scope scope own)
    (hg : ∀ (s : Shared) (H : Hp) (C : Addr) (cl : List (Str × Addr)) (fp : List Addr), QG (X.blk s H scope (compEnvC scope cl C X.env) fp) xc R tg g dg is) (hv : ∀ i ∈ is, i ∈ own.map (·.2))
    (he : ∀ (s : Shared) (H : Hp) (C : Addr) (cl : List (Str × Addr)) (fp : List Addr), QE (X.blk s H scope (compEnvC scope cl C X.env) fp) xc R WF elt te dx) (hvs : own.map (·.2) = vs := by rfl) (hc : X.calm = true := by rfl) (hs : ∀ x, foldedSetIterable iter X.env x = pure x := by intro _; rfl) :
    QF X xc R W (.ListComp elt [⟨tg, iter, [], 0⟩] scope pos) (tLc wi g tYes te (own.map (·.2))) (dLc di dg dYes dx vs) := by
  subst hvs
  exact qlc own nd hi ok hg hv he hc hs
theorem qlcIfV {elt tg iter cd : Expr} {scope : Scope} {wi : TI} {g : TG} {di : DI S} {dg : DG} {is vs : List Nat} (own : List (Str × Nat)) (nd : X.N.Nodup) (hi : QI X xc R W tg iter wi di) (ok : BlkOk X.N X.env.scope scope own)
    (hg : ∀ (s : Shared) (H : Hp) (C : Addr) (cl : List (Str × Addr)) (fp : List Addr), QG (X.blk s H scope (compEnvC scope cl C X.env) fp) xc R tg g dg is) (hv : ∀ i ∈ is, i ∈ own.map (·.2))
    (ht : ∀ (s : Shared) (H : Hp) (C : Addr) (cl : List (Str × Addr)) (fp : List Addr), QT (X.blk s H scope (compEnvC scope cl C X.env) fp) xc R WF cd tt dt)
    (he : ∀ (s : Shared) (H : Hp) (C : Addr) (cl : List (Str × Addr)) (fp : List Addr), QE (X.blk s H scope (compEnvC scope cl C X.env) fp) xc R WF elt te dx) (hvs : own.map (·.2) = vs := by rfl) (hc : X.calm = true := by rfl) (hs : ∀ x, foldedSetIterable iter X.env x = pure x := by intro _; rfl) :
    QF X xc R W (.ListComp elt [⟨tg, iter, [cd], 0⟩] scope pos) (tLc wi g tt te (own.map (·.2))) (dLc di dg dt dx vs) := by
  subst hvs
  exact qlcIf own nd hi ok hg hv ht he hc hs
theorem slcV (i : Nat) {y : Str} {py spos : Pos} {elt tg iter : Expr} {scope : Scope} {wi : TI} {g : TG} {di : DI S} {dg : DG} {is vs : List Nat} (own : List (Str × Nat)) (nd : X.N.Nodup) (hi : QI X xc R W tg iter wi di) (ok : BlkOk X.N X.env.scope scope own)
    (hg : ∀ (s : Shared) (H : Hp) (C : Addr) (cl : List (Str × Addr)) (fp : List Addr), QG (X.blk s H scope (compEnvC scope cl C X.env) fp) xc R tg g dg is) (hv : ∀ i ∈ is, i ∈ own.map (·.2))
    (he : ∀ (s : Shared) (H : Hp) (C : Addr) (cl : List (Str × Addr)) (fp : List Addr), QE (X.blk s H scope (compEnvC scope cl C X.env) fp) xc R WF elt te dx)
    (hsw : swapsWith (.ListComp elt [⟨tg, iter, [], 0⟩] scope pos) (some (.Name y py)) spos.line X.env = pure true) (hvs : own.map (·.2) = vs := by rfl) (hy : X.N[i]? = some y := by rfl) (hyl : X.env.scope.names.lookup y = some .local := by rfl) (hc : X.calm = true := by rfl) (hs : ∀ x, foldedSetIterable iter X.env x = pure x := by intro _; rfl) :
    QS X xc R W (.Assign [.Name y py] (.ListComp elt [⟨tg, iter, [], 0⟩] scope pos) spos) (tAsg (tLc wi g tYes te (own.map (·.2))) (gName i)) (dAsgF i (dLc di dg dYes dx vs)) := by
  subst hvs
  exact slc i own nd hi ok hg hv he hsw hy hyl hc hs
theorem slcIfV (i : Nat) {y : Str} {py spos : Pos} {elt tg iter cd : Expr} {scope : Scope} {wi : TI} {g : TG} {di : DI S} {dg : DG} {is vs : List Nat} (own : List (Str × Nat)) (nd : X.N.Nodup) (hi : QI X xc R W tg iter wi di) (ok : BlkOk X.N X.env.scope scope own)
    (hg : ∀ (s : Shared) (H : Hp) (C : Addr) (cl : List (Str × Addr)) (fp : List Addr), QG (X.blk s H scope (compEnvC scope cl C X.env) fp) xc R tg g dg is) (hv : ∀ i ∈ is, i ∈ own.map (·.2))
    (ht : ∀ (s : Shared) (H : Hp) (C : Addr) (cl : List (Str × Addr)) (fp : List Addr), QT (X.blk s H scope (compEnvC scope cl C X.env) fp) xc R WF cd tt dt)
    (he : ∀ (s : Shared) (H : Hp) (C : Addr) (cl : List (Str × Addr)) (fp : List Addr), QE (X.blk s H scope (compEnvC scope cl C X.env) fp) xc R WF elt te dx)
    (hsw : swapsWith (.ListComp elt [⟨tg, iter, [cd], 0⟩] scope pos) (some (.Name y py)) spos.line X.env = pure true) (hvs : own.map (·.2) = vs := by rfl) (hy : X.N[i]? = some y := by rfl) (hyl : X.env.scope.names.lookup y = some .local := by rfl) (hc : X.calm = true := by rfl) (hs : ∀ x, foldedSetIterable iter X.env x = pure x := by intro _; rfl) :
    QS X xc R W (.Assign [.Name y py] (.ListComp elt [⟨tg, iter, [cd], 0⟩] scope pos) spos) (tAsg (tLc wi g tt te (own.map (·.2))) (gName i)) (dAsgF i (dLc di dg dt dx vs)) := by
  subst hvs
  exact slcIf i own nd hi ok hg hv ht he hsw hy hyl hc hs
end
end DL
namespace DL
open PySem PySem.Spec PyProof.Rows L2 GR N01 RZ
abbrev tTru (K : PySem.W.Frag) (ta : TE) : TT := fun σ H Q => ta σ H fun x H' => ∃ k, TruV K x H' k ∧ Q k H'
end DL

set_option linter.all false
set_option maxRecDepth 100000
set_option maxHeartbeats 2000000
/-! readings over data, unfolded by simp; what goes on behind a stop is hidden in an instance -/
namespace DL
open PySem PySem.Spec PyProof.Rows L2 GR N01 RZ
class Kn (A : Type) where
  k : A
def c1 {A B : Type} (f : A → (B → Prop) → Prop) (x : A) [q : Kn (B → Prop)] : Prop := f x q.k
def c2 {A B G : Type} (f : A → B → (G → Prop) → Prop) (x : A) (y : B) [q : Kn (G → Prop)] : Prop := f x y q.k
def gI (i : Nat) (ρ : En) [q : Kn (D → En → Prop)] : Prop := dGet i ρ q.k
def pI (i : Nat) (ρ : En) [q : Kn (D → Prop)] : Prop := peek i ρ q.k
def oLI (i : Nat) (ρ : En) [q : Kn (List D → Prop)] : Prop := ownL i ρ q.k
def callI {S : Type} (sp : DSp S) (cs : List C) (s : S) [q : Kn (D → S → Prop)] [e : Kn (Exc → S → Prop)] : Prop := sp cs s q.k e.k
def cVI {S : Type} (i : Nat) (dr : DA S) (s : S) (ρ : En) [q : Kn (List C → S → En → Prop)] [e : Kn (EK S)] : Prop := dConsV i dr s ρ q.k e.k
def xfI {S : Type} (cn f : Str) (i : Nat) (s : S) (ρ : En) [q : Kn (D → S → En → Prop)] : Prop := (dXf cn f i : DX S) s ρ q.k fun _ _ _ => False
def loopI {S : Type} (g : DG) (tb : DS S) (xs : List D) (s : S) (ρ : En) [de : Kn (DEnds S)] : Prop := dLoop g tb xs de.k s ρ
def whileI {S : Type} (dt : DT S) (tb : DS S) (s : S) (ρ : En) [de : Kn (DEnds S)] : Prop := dWhile dt tb de.k s ρ
def turnsI {S : Type} (g : DG) (dt : DT S) (de : DX S) (vs : List Nat) (xs acc : List D) (s : S) (ρ : En) [q : Kn (List D → S → En → Prop)] : Prop := dTurns g dt de vs q.k xs acc s ρ
def gtI (is : List Nat) (x : D) (ρ : En) [q : Kn (En → Prop)] : Prop := gTpU is x ρ q.k
def gt0 (is : List Nat) (x : D) (ρ : En) [q : Kn (En → Prop)] : Prop := gTp is x ρ q.k
section
variable {S : Type} [Pk S] {s : S} {ρ : En} {Q : D → S → En → Prop} {QT : Bool → S → En → Prop} {QA : List C → S → En → Prop} {QI QL : List D → S → En → Prop} {E : EK S} {DE : DEnds S} {i : Nat} {x y z : D} {P : D → Prop}
@[simp ↓] theorem x_next : (dNext : DS S) DE s ρ = DE.nx s ρ := rfl
@[simp ↓] theorem x_brk : (dBrk : DS S) DE s ρ = DE.bk s ρ := rfl
@[simp ↓] theorem x_cnt : (dCnt : DS S) DE s ρ = DE.ct s ρ := rfl
@[simp ↓] theorem x_seq {t u : DS S} : dSeq t u DE s ρ = t { DE with nx := u DE } s ρ := rfl
@[simp ↓] theorem x_asg {dx : DX S} : dAsg i dx DE s ρ = dx s ρ (fun x s ρ => DE.nx s (ρ.set i (some (.d x)))) DE.ex := rfl
@[simp ↓] theorem x_asgF {dx : DX S} : dAsgF i dx DE s ρ = dx s ρ (fun x s ρ => DE.nx s (ρ.set i (some (.own x)))) DE.ex := rfl
@[simp ↓] theorem x_drop {dx : DX S} : dDrop dx DE s ρ = dx s ρ (fun _ s ρ => DE.nx s ρ) DE.ex := rfl
@[simp ↓] theorem x_ret {dx : DX S} : dRet dx DE s ρ = dx s ρ (fun x s _ => DE.rt x s) DE.ex := rfl
@[simp ↓] theorem x_retN : (dRetN : DS S) DE s ρ = DE.rt .non s := rfl
@[simp ↓] theorem x_if {dt : DT S} {a b : DS S} : dIf dt a b DE s ρ = dt s ρ (fun c s ρ => if c = true then a DE s ρ else b DE s ρ) DE.ex := rfl
@[simp ↓] theorem x_app {dx : DX S} : dApp i dx DE s ρ = oLI i ρ (q := ⟨fun _ => dx s ρ (fun x s ρ => oLI i ρ (q := ⟨fun xs => xs.length < 16777216 ∧ DE.nx s (ρ.set i (some (.own (.lst (xs ++ [x])))))⟩)) DE.ex⟩) := rfl
@[simp ↓] theorem x_ext {dx : DX S} : dExt i dx DE s ρ = oLI i ρ (q := ⟨fun _ => dx s ρ (fun x s ρ => c1 isL x (q := ⟨fun ys => oLI i ρ (q := ⟨fun xs => xs.length + ys.length ≤ 16777216 ∧ DE.nx s (ρ.set i (some (.own (.lst (xs ++ ys)))))⟩)⟩)) DE.ex⟩) := rfl
@[simp ↓] theorem x_put {dj dx : DX S} : dPut i dj dx DE s ρ = dx s ρ (fun x s ρ => oLI i ρ (q := ⟨fun _ => dj s ρ (fun y s ρ => c1 isInt y (q := ⟨fun k => oLI i ρ (q := ⟨fun xs => ∃ j, ixN xs.length k = some j ∧ DE.nx s (ρ.set i (some (.own (.lst (xs.set j x)))))⟩)⟩)) DE.ex⟩)) DE.ex := rfl
@[simp ↓] theorem x_asgG {g : DG} {dx : DX S} : dAsgG g dx DE s ρ = dx s ρ (fun x s ρ => g x ρ fun ρ => DE.nx s ρ) DE.ex := rfl
@[simp ↓] theorem x_while {dt : DT S} {tb : DS S} : dWhile dt tb DE s ρ = whileI dt tb s ρ (de := ⟨DE⟩) := rfl
@[simp ↓] theorem x_hV {dr : DA S} : dConsV i dr s ρ QA E = cVI i dr s ρ (q := ⟨QA⟩) (e := ⟨E⟩) := rfl
theorem xf_E {cn f : Str} {E' : EK S} : (dXf cn f i : DX S) s ρ Q E = dXf cn f i s ρ Q E' := rfl
@[simp ↓] theorem x_hX {cn f : Str} : (dXf cn f i : DX S) s ρ Q E = xfI cn f i s ρ (q := ⟨Q⟩) := xf_E
@[simp ↓] theorem x_hU {is : List Nat} {Qe : En → Prop} : gTpU is x ρ Qe = gtI is x ρ (q := ⟨Qe⟩) := rfl
@[simp ↓] theorem x_hT {is : List Nat} {Qe : En → Prop} : gTp is x ρ Qe = gt0 is x ρ (q := ⟨Qe⟩) := rfl
@[simp ↓] theorem x_for {di : DI S} {g : DG} {tb : DS S} : dFor di g tb DE s ρ = di s ρ (fun xs s ρ => loopI g tb xs s ρ (de := ⟨DE⟩)) DE.ex := rfl
@[simp ↓] theorem x_gnm {Qe : En → Prop} : gNm i x ρ Qe = Qe (ρ.set i (some (.d x))) := rfl
@[simp] theorem x_gtp {is : List Nat} {ds : List D} {q : Kn (En → Prop)} : gt0 is (.tup ds) ρ (q := q) = (ds.length = is.length ∧ q.k (setAll ρ is ds)) := rfl
@[simp] theorem x_gtpU {is : List Nat} {ds : List D} {q : Kn (En → Prop)} : gtI is (.tup ds) ρ (q := q) = (ds.length = is.length ∧ q.k (setAll ρ is ds)) := rfl
@[simp] theorem x_gtpL {is : List Nat} {ds : List D} {q : Kn (En → Prop)} : gtI is (.lst ds) ρ (q := q) = (ds.length = is.length ∧ q.k (setAll ρ is ds)) := rfl
@[simp] theorem x_setAll {is : List Nat} {ds : List D} : setAll ρ (i :: is) (x :: ds) = setAll (ρ.set i (some (.d x))) is ds := rfl
@[simp] theorem x_setAll0 {ds : List D} : setAll ρ [] ds = ρ := rfl
@[simp] theorem x_wipe0 : wipeD ρ [] = ρ := rfl
@[simp] theorem x_wipe {vs : List Nat} : wipeD ρ (i :: vs) = (wipeD ρ vs).set i none := rfl
/-! values -/
@[simp ↓] theorem x_var : (dVar i : DX S) s ρ Q E = gI i ρ (q := ⟨fun x ρ => Q x s ρ⟩) := rfl
@[simp ↓] theorem x_c : (dC x : DX S) s ρ Q E = Q x s ρ := rfl
@[simp ↓] theorem x_opO {f : DO2} {da db : DOp S} : dOpO f da db s ρ Q E = da s ρ (fun ra s1 ρ1 => db s1 ρ1 (fun rb s2 ρ2 => rdv s2 ρ2 (fun x => rdv s2 ρ2 (fun y => c2 f x y (q := ⟨fun z => Q z s2 ρ2⟩)) rb) ra) E) E := rfl
@[simp ↓] theorem x_unO {f : DO1} {da : DOp S} : dUnO f da s ρ Q E = da s ρ (fun ra s1 ρ1 => rdv s1 ρ1 (fun x => c1 f x (q := ⟨fun z => Q z s1 ρ1⟩)) ra) E := rfl
@[simp ↓] theorem x_oV {dx : DX S} {Qr : Rd → S → En → Prop} : dOV dx s ρ Qr E = dx s ρ (fun x s ρ => Qr (.val x) s ρ) E := rfl
@[simp ↓] theorem x_oS {Qr : Rd → S → En → Prop} : (dOS i : DOp S) s ρ Qr E = (pI i ρ (q := ⟨fun _ => True⟩) ∧ Qr (.slot i) s ρ) := rfl
@[simp ↓] theorem x_rdV : rdv s ρ P (.val x) = P x := rfl
@[simp ↓] theorem x_rdS : rdv s ρ P (.slot i) = pI i ρ (q := ⟨P⟩) := rfl
@[simp ↓] theorem x_nil : (dNil : DA S) s ρ QA E = QA [] s ρ := rfl
@[simp ↓] theorem x_cons {da : DX S} {dr : DA S} : dCons da dr s ρ QA E = da s ρ (fun x s1 ρ1 => dr s1 ρ1 (fun cs s2 ρ2 => QA (.d x :: cs) s2 ρ2) E) E := rfl
@[simp ↓] theorem x_asD0 {Pl : List D → Prop} : asD [] Pl = Pl [] := rfl
@[simp ↓] theorem x_asD {cs : List C} {Pl : List D → Prop} : asD (.d x :: cs) Pl = asD cs fun ds => Pl (x :: ds) := rfl
@[simp ↓] theorem x_tup {da : DA S} : dTup da s ρ Q E = da s ρ (fun cs s1 ρ1 => asD cs fun ds => ds.length ≤ 1000 ∧ Q (.tup ds) s1 ρ1) E := rfl
@[simp ↓] theorem x_lst {da : DA S} : dLst da s ρ Q E = da s ρ (fun cs s1 ρ1 => asD cs fun ds => ds.length ≤ 1000 ∧ Q (.lst ds) s1 ρ1) E := rfl
@[simp ↓] theorem x_B {f : DOA} {da : DA S} : dB f da s ρ Q E = da s ρ (fun cs s1 ρ1 => c1 f cs (q := ⟨fun z => Q z s1 ρ1⟩)) E := rfl
@[simp ↓] theorem x_M {ty : D → Prop} {f : D → DOA} {dx : DX S} {da : DA S} : dM ty f dx da s ρ Q E = dx s ρ (fun x s1 ρ1 => ty x ∧ da s1 ρ1 (fun cs s2 ρ2 => c2 f x cs (q := ⟨fun z => Q z s2 ρ2⟩)) E) E := rfl
@[simp ↓] theorem x_or {da db : DX S} : dOr da db s ρ Q E = da s ρ (fun x s1 ρ1 => c1 truD x (q := ⟨fun k => if k = true then Q x s1 ρ1 else db s1 ρ1 Q E⟩)) E := rfl
@[simp ↓] theorem x_and {da db : DX S} : dAnd da db s ρ Q E = da s ρ (fun x s1 ρ1 => c1 truD x (q := ⟨fun k => if k = true then db s1 ρ1 Q E else Q x s1 ρ1⟩)) E := rfl
@[simp ↓] theorem x_not {da : DX S} : dNot da s ρ Q E = da s ρ (fun x s1 ρ1 => c1 truD x (q := ⟨fun k => Q (.bl (!k)) s1 ρ1⟩)) E := rfl
@[simp ↓] theorem x_ifE {dt : DT S} {da db : DX S} : dIfE dt da db s ρ Q E = dt s ρ (fun b s1 ρ1 => if b = true then da s1 ρ1 Q E else db s1 ρ1 Q E) E := rfl
@[simp ↓] theorem x_tst {da : DX S} : dTst da s ρ QT E = da s ρ (fun x s1 ρ1 => c1 isB x (q := ⟨fun k => QT k s1 ρ1⟩)) E := rfl
@[simp ↓] theorem x_truO {da : DOp S} : dTruO da s ρ QT E = da s ρ (fun r s1 ρ1 => rdv s1 ρ1 (fun x => c1 truD x (q := ⟨fun k => QT k s1 ρ1⟩)) r) E := rfl
@[simp ↓] theorem x_tand {da db : DT S} : dTAnd da db s ρ QT E = da s ρ (fun b s1 ρ1 => if b = true then db s1 ρ1 QT E else QT false s1 ρ1) E := rfl
@[simp ↓] theorem x_tor {da db : DT S} : dTOr da db s ρ QT E = da s ρ (fun b s1 ρ1 => if b = true then QT true s1 ρ1 else db s1 ρ1 QT E) E := rfl
@[simp ↓] theorem x_tnot {da : DT S} : dTNot da s ρ QT E = da s ρ (fun b s1 ρ1 => QT (!b) s1 ρ1) E := rfl
@[simp ↓] theorem x_yes : (dYes : DT S) s ρ QT E = QT true s ρ := rfl
@[simp ↓] theorem x_chain {f g : DO2} {da db dc : DX S} : dChain f g da db dc s ρ Q E = da s ρ (fun x s1 ρ1 => db s1 ρ1 (fun y s2 ρ2 => c2 f x y (q := ⟨fun z => c1 isB z (q := ⟨fun k => if k = true then dc s2 ρ2 (fun w s3 ρ3 => c2 g y w (q := ⟨fun u => Q u s3 ρ3⟩)) E else Q (.bl false) s2 ρ2⟩)⟩)) E) E := rfl
@[simp ↓] theorem x_sl {da : DOp S} {dl du : DPO S} : dSl da dl du s ρ Q E = da s ρ (fun ra s ρ => dl s ρ (fun lo s ρ => du s ρ (fun hi s ρ => rdv s ρ (fun x => c1 (oSl lo hi) x (q := ⟨fun z => Q z s ρ⟩)) ra) E) E) E := rfl
@[simp ↓] theorem x_pN {Qo : Option Int → S → En → Prop} : (dpN : DPO S) s ρ Qo E = Qo none s ρ := rfl
@[simp ↓] theorem x_pS {dx : DX S} {Qo : Option Int → S → En → Prop} : dpS dx s ρ Qo E = dx s ρ (fun x s ρ => c1 isInt x (q := ⟨fun i => Qo (some i) s ρ⟩)) E := rfl
@[simp ↓] theorem x_calP {n : Nat} {sp : DSp Unit} {dcs : List C} {da : DA S} : dCalP n sp dcs da s ρ Q E = da s ρ (fun cs s1 ρ1 => cs.length = n ∧ callI sp (cs ++ dcs) () (q := ⟨fun x _ => Q x s1 ρ1⟩) (e := ⟨fun e _ => E e s1 ρ1⟩)) E := rfl
@[simp ↓] theorem x_cal {n : Nat} {sp : DSp S} {dcs : List C} {da : DA S} : dCal n sp dcs da s ρ Q E = da s ρ (fun cs s1 ρ1 => cs.length = n ∧ callI sp (cs ++ dcs) s1 (q := ⟨fun x s2 => Q x s2 ρ1⟩) (e := ⟨fun e s2 => E e s2 ρ1⟩)) E := rfl
@[simp ↓] theorem x_lc {di : DI S} {g : DG} {dt : DT S} {de : DX S} {vs : List Nat} : dLc di g dt de vs s ρ Q E = di s ρ (fun xs s ρ => xs.length < 16777216 ∧ turnsI g dt de vs xs [] s (wipeD ρ vs) (q := ⟨fun acc s ρ => Q (.lst acc) s ρ⟩)) E := rfl
@[simp ↓] theorem x_it {dx : DX S} : dIt dx s ρ QI E = dx s ρ (fun x s ρ => c1 itD x (q := ⟨fun ds => QI ds s ρ⟩)) E := rfl
@[simp ↓] theorem x_rng1 {dx : DX S} : dRng1 dx s ρ QI E = dx s ρ (fun x s ρ => c1 isInt x (q := ⟨fun n => -(2 ^ 62) ≤ n ∧ n < 2 ^ 62 ∧ QI (rangeD 0 n.toNat) s ρ⟩)) E := rfl
@[simp ↓] theorem x_rng2 {dx dy : DX S} : dRng2 dx dy s ρ QI E = dx s ρ (fun x s ρ => c1 isInt x (q := ⟨fun i => dy s ρ (fun y s ρ => c1 isInt y (q := ⟨fun j => (-(2 ^ 62) ≤ i ∧ i < 2 ^ 62 ∧ -(2 ^ 62) ≤ j ∧ j < 2 ^ 62) ∧ QI (rangeD i (j - i).toNat) s ρ⟩)) E⟩)) E := rfl
@[simp ↓] theorem x_rng3 {dx dy dz : DX S} : dRng3 dx dy dz s ρ QI E = dx s ρ (fun x s ρ => c1 isInt x (q := ⟨fun i => dy s ρ (fun y s ρ => c1 isInt y (q := ⟨fun j => dz s ρ (fun z s ρ => c1 isInt z (q := ⟨fun c => ∃ n, RgC i j c n ∧ QI (rangeC i c n) s ρ⟩)) E⟩)) E⟩)) E := rfl
@[simp ↓] theorem x_enum {dx : DX S} : dEnum dx s ρ QI E = dx s ρ (fun x s ρ => c1 isL x (q := ⟨fun ds => QI (enumD ds) s ρ⟩)) E := rfl
@[simp ↓] theorem x_rev {dx : DX S} : dRev dx s ρ QI E = dx s ρ (fun x s ρ => c1 isL x (q := ⟨fun ds => QI ds.reverse s ρ⟩)) E := rfl
@[simp ↓] theorem x_zip {dx dy : DX S} : dZip dx dy s ρ QI E = dx s ρ (fun x s ρ => dy s ρ (fun y s ρ => c2 zipK x y (q := ⟨fun ds => QI ds s ρ⟩)) E) E := rfl
@[simp ↓] theorem x_raise {cn f : Str} {dx : DX S} : dRaise1 cn f dx DE s ρ = dx s ρ (fun y s ρ => match y with
  | .str nm => nm.length ≤ 1000 ∧ DE.ex ⟨cn, [f], [.str nm]⟩ s ρ
  | _ => False) DE.ex := rfl
@[simp ↓] theorem x_tryAs {ct : Str → Option Bool} {db dsu : DS S} : dTryAs ct i db dsu DE s ρ = db { DE with ex := fun e s ρ => match ct e.name with
  | some true => dsu (suiteEnds i DE) s (ρ.set i (some (.exc e)))
  | some false => DE.ex e s ρ
  | none => False } s ρ := rfl
@[simp ↓] theorem x_tryOn {ct : Str → Option Bool} {db dsu : DS S} : dTryOn ct db dsu DE s ρ = db { DE with ex := fun e s ρ => match ct e.name with
  | some true => dsu (suiteEnds0 DE) s ρ
  | some false => DE.ex e s ρ
  | none => False } s ρ := rfl
@[simp ↓] theorem x_suite_nx : (suiteEnds i DE).nx s ρ = DE.nx s ((clearX ρ).set i none) := rfl
@[simp ↓] theorem x_suite_rt : (suiteEnds i DE).rt = DE.rt := rfl
@[simp ↓] theorem x_suite0_nx : (suiteEnds0 DE).nx s ρ = DE.nx s (clearX ρ) := rfl
@[simp ↓] theorem x_suite0_rt : (suiteEnds0 DE).rt = DE.rt := rfl
/-! slots, seen -/
@[simp] theorem x_a0 : args0 [] 0 = [] := rfl
@[simp] theorem x_a1 {n : Nat} : args0 [] (n + 1) = none :: args0 [] n := rfl
@[simp] theorem x_a2 {n : Nat} {x : C} {cs : List C} : args0 (x :: cs) (n + 1) = some x :: args0 cs n := by
  show (x :: cs).map some ++ List.replicate (n + 1 - (x :: cs).length) none = _
  rw [List.length_cons, Nat.add_sub_add_right]; rfl
def nones : Nat → En
  | 0 => []
  | n + 1 => none :: nones n
theorem rep_nones : ∀ n, (List.replicate n none : En) = nones n
  | 0 => rfl
  | n + 1 => by rw [List.replicate_succ, rep_nones n]; rfl
@[simp] theorem x_n0 : nones 0 = [] := rfl
@[simp] theorem x_n1 {n : Nat} : nones (n + 1) = none :: nones n := rfl
@[simp] theorem x_box {n : Nat} : boxEnv n = none :: some .box :: nones n := by unfold boxEnv; rw [rep_nones]
variable {c v : Option C} {xs : List D} {qg : Kn (D → En → Prop)} {qp : Kn (D → Prop)} {ql : Kn (List D → Prop)} {qa : Kn (List C → S → En → Prop)} {qe : Kn (EK S)} {qx : Kn (D → S → En → Prop)}
theorem gS {Qd : D → En → Prop} : dGet (i + 1) (c :: ρ) Qd = dGet i ρ fun x ρ' => Qd x (c :: ρ') := by
  unfold dGet
  rw [List.getElem?_cons_succ]
  split <;> rename_i h <;> simp only [h, List.set_cons_succ]
@[simp ↓] theorem x_g0 : gI 0 (some (.d x) :: ρ) (q := qg) = qg.k x (some (.d x) :: ρ) := rfl
@[simp ↓] theorem x_g0o : gI 0 (some (.own x) :: ρ) (q := qg) = qg.k x (some (.d x) :: ρ) := rfl
@[simp ↓] theorem x_gS : gI (i + 1) (c :: ρ) (q := qg) = gI i ρ (q := ⟨fun x ρ' => qg.k x (c :: ρ')⟩) := gS
@[simp ↓] theorem x_p0 : pI 0 (some (.d x) :: ρ) (q := qp) = qp.k x := rfl
@[simp ↓] theorem x_p0o : pI 0 (some (.own x) :: ρ) (q := qp) = qp.k x := rfl
@[simp ↓] theorem x_pSS : pI (i + 1) (c :: ρ) (q := qp) = pI i ρ (q := qp) := rfl
@[simp ↓] theorem x_o0 : oLI 0 (some (.own (.lst xs)) :: ρ) (q := ql) = ql.k xs := rfl
@[simp ↓] theorem x_oSS : oLI (i + 1) (c :: ρ) (q := ql) = oLI i ρ (q := ql) := rfl
@[simp ↓] theorem x_v0 {dr : DA S} : cVI 0 dr s (some .box :: ρ) (q := qa) (e := qe) = dr s (some .box :: ρ) (fun cs s2 ρ2 => qa.k (.box :: cs) s2 ρ2) qe.k := rfl
@[simp ↓] theorem x_v1 {dr : DA S} : cVI 1 dr s (c :: some .box :: ρ) (q := qa) (e := qe) = dr s (c :: some .box :: ρ) (fun cs s2 ρ2 => qa.k (.box :: cs) s2 ρ2) qe.k := rfl
@[simp] theorem y_g0 : gI 0 (some (.d x) :: ρ) (q := qg) = qg.k x (some (.d x) :: ρ) := rfl
@[simp] theorem y_g0o : gI 0 (some (.own x) :: ρ) (q := qg) = qg.k x (some (.d x) :: ρ) := rfl
@[simp] theorem y_gS : gI (i + 1) (c :: ρ) (q := qg) = gI i ρ (q := ⟨fun x ρ' => qg.k x (c :: ρ')⟩) := gS
@[simp] theorem y_p0 : pI 0 (some (.d x) :: ρ) (q := qp) = qp.k x := rfl
@[simp] theorem y_p0o : pI 0 (some (.own x) :: ρ) (q := qp) = qp.k x := rfl
@[simp] theorem y_pSS : pI (i + 1) (c :: ρ) (q := qp) = pI i ρ (q := qp) := rfl
@[simp] theorem y_o0 : oLI 0 (some (.own (.lst xs)) :: ρ) (q := ql) = ql.k xs := rfl
@[simp] theorem y_oSS : oLI (i + 1) (c :: ρ) (q := ql) = oLI i ρ (q := ql) := rfl
@[simp] theorem y_v0 {dr : DA S} : cVI 0 dr s (some .box :: ρ) (q := qa) (e := qe) = dr s (some .box :: ρ) (fun cs s2 ρ2 => qa.k (.box :: cs) s2 ρ2) qe.k := rfl
@[simp] theorem y_v1 {dr : DA S} : cVI 1 dr s (c :: some .box :: ρ) (q := qa) (e := qe) = dr s (c :: some .box :: ρ) (fun cs s2 ρ2 => qa.k (.box :: cs) s2 ρ2) qe.k := rfl
@[simp] theorem y_xf0 {cn f : Str} {e : Exc} : xfI cn f 0 s (some (.exc e) :: ρ) (q := qx) = (e.name = cn ∧ ∃ x, excF e.ns e.xs f = some x ∧ qx.k x s (some (.exc e) :: ρ)) := rfl
theorem xfS {cn f : Str} {Qx : D → S → En → Prop} {E : EK S} : (dXf cn f (i + 1) : DX S) s (c :: ρ) Qx E = (dXf cn f i : DX S) s ρ (fun x s ρ' => Qx x s (c :: ρ')) E := rfl
@[simp] theorem y_xfS {cn f : Str} : xfI cn f (i + 1) s (c :: ρ) (q := qx) = xfI cn f i s ρ (q := ⟨fun x s ρ' => qx.k x s (c :: ρ')⟩) := rfl
end
/-! what values are -/
section
variable {i j : Int} {a b : Str} {xs ys : List D} {k : Kn (Bool → Prop)} {ki : Kn (Int → Prop)} {kl : Kn (List D → Prop)} {Q : Kn (D → Prop)} {c : Bool} {x y : D}
@[simp ↓] theorem v_isB : c1 isB (.bl c) (q := k) = (k.k c) := rfl
@[simp] theorem v_isB_ : c1 isB (.bl c) (q := k) = (k.k c) := rfl
@[simp ↓] theorem v_isInt : c1 isInt (.int i) (q := ki) = (ki.k i) := rfl
@[simp] theorem v_isInt_ : c1 isInt (.int i) (q := ki) = (ki.k i) := rfl
@[simp ↓] theorem v_isL : c1 isL (.lst xs) (q := kl) = (kl.k xs) := rfl
@[simp] theorem v_isL_ : c1 isL (.lst xs) (q := kl) = (kl.k xs) := rfl
@[simp] theorem v_isStr : isStr (.str a) = True := rfl
@[simp ↓] theorem v_itL : c1 itD (.lst xs) (q := kl) = (kl.k xs) := rfl
@[simp] theorem v_itL_ : c1 itD (.lst xs) (q := kl) = (kl.k xs) := rfl
@[simp ↓] theorem v_itT : c1 itD (.tup xs) (q := kl) = (kl.k xs) := rfl
@[simp] theorem v_itT_ : c1 itD (.tup xs) (q := kl) = (kl.k xs) := rfl
@[simp ↓] theorem v_itS : c1 itD (.str a) (q := kl) = (kl.k (charsD a)) := rfl
@[simp] theorem v_itS_ : c1 itD (.str a) (q := kl) = (kl.k (charsD a)) := rfl
@[simp ↓] theorem v_zipL : c2 zipK (.lst xs) (.lst ys) (q := kl) = (kl.k (zipD xs ys)) := rfl
@[simp] theorem v_zipL_ : c2 zipK (.lst xs) (.lst ys) (q := kl) = (kl.k (zipD xs ys)) := rfl
@[simp ↓] theorem v_zipT : c2 zipK (.tup xs) (.tup ys) (q := kl) = (kl.k (zipD xs ys)) := rfl
@[simp] theorem v_zipT_ : c2 zipK (.tup xs) (.tup ys) (q := kl) = (kl.k (zipD xs ys)) := rfl
@[simp ↓] theorem v_truN : c1 truD .non (q := k) = (k.k false) := rfl
@[simp] theorem v_truN_ : c1 truD .non (q := k) = (k.k false) := rfl
@[simp ↓] theorem v_truB : c1 truD (.bl c) (q := k) = (k.k c) := rfl
@[simp] theorem v_truB_ : c1 truD (.bl c) (q := k) = (k.k c) := rfl
@[simp ↓] theorem v_truI : c1 truD (.int i) (q := k) = (k.k (i != 0)) := rfl
@[simp] theorem v_truI_ : c1 truD (.int i) (q := k) = (k.k (i != 0)) := rfl
@[simp ↓] theorem v_truS : c1 truD (.str a) (q := k) = (k.k ((a.length : Int) != 0)) := rfl
@[simp] theorem v_truS_ : c1 truD (.str a) (q := k) = (k.k ((a.length : Int) != 0)) := rfl
@[simp ↓] theorem v_truL : c1 truD (.lst xs) (q := k) = (k.k (!xs.isEmpty)) := rfl
@[simp] theorem v_truL_ : c1 truD (.lst xs) (q := k) = (k.k (!xs.isEmpty)) := rfl
@[simp ↓] theorem v_truT : c1 truD (.tup xs) (q := k) = (k.k (!xs.isEmpty)) := rfl
@[simp] theorem v_truT_ : c1 truD (.tup xs) (q := k) = (k.k (!xs.isEmpty)) := rfl
@[simp ↓] theorem v_addI : c2 oAdd (.int i) (.int j) (q := Q) = (Q.k (.int (i + j))) := rfl
@[simp] theorem v_addI_ : c2 oAdd (.int i) (.int j) (q := Q) = (Q.k (.int (i + j))) := rfl
@[simp ↓] theorem v_addS : c2 oAdd (.str a) (.str b) (q := Q) = ((a.length + b.length ≤ 16777216 ∧ Q.k (.str (a ++ b)))) := rfl
@[simp] theorem v_addS_ : c2 oAdd (.str a) (.str b) (q := Q) = ((a.length + b.length ≤ 16777216 ∧ Q.k (.str (a ++ b)))) := rfl
@[simp ↓] theorem v_addT : c2 oAdd (.tup xs) (.tup ys) (q := Q) = ((xs.length + ys.length ≤ 16777216 ∧ Q.k (.tup (xs ++ ys)))) := rfl
@[simp] theorem v_addT_ : c2 oAdd (.tup xs) (.tup ys) (q := Q) = ((xs.length + ys.length ≤ 16777216 ∧ Q.k (.tup (xs ++ ys)))) := rfl
@[simp ↓] theorem v_addL : c2 oAdd (.lst xs) (.lst ys) (q := Q) = ((xs.length + ys.length ≤ 16777216 ∧ Q.k (.lst (xs ++ ys)))) := rfl
@[simp] theorem v_addL_ : c2 oAdd (.lst xs) (.lst ys) (q := Q) = ((xs.length + ys.length ≤ 16777216 ∧ Q.k (.lst (xs ++ ys)))) := rfl
@[simp ↓] theorem v_cat : c2 oCat (.lst xs) (.lst ys) (q := Q) = ((xs.length + ys.length ≤ 16777216 ∧ Q.k (.lst (xs ++ ys)))) := rfl
@[simp] theorem v_cat_ : c2 oCat (.lst xs) (.lst ys) (q := Q) = ((xs.length + ys.length ≤ 16777216 ∧ Q.k (.lst (xs ++ ys)))) := rfl
@[simp ↓] theorem v_ii {f : Int → Int → D} {cd : Int → Int → Prop} : c2 (oII f cd) (.int i) (.int j) (q := Q) = ((cd i j ∧ Q.k (f i j))) := rfl
@[simp] theorem v_ii_ {f : Int → Int → D} {cd : Int → Int → Prop} : c2 (oII f cd) (.int i) (.int j) (q := Q) = ((cd i j ∧ Q.k (f i j))) := rfl
@[simp] theorem v_cdiv : CDiv i j = (0 < j ∧ j < 1073741824) := rfl
@[simp ↓] theorem v_mulI : c2 oMulV (.int i) (.int j) (q := Q) = (((-(2 ^ 64) < i ∧ i < 2 ^ 64 ∨ -(2 ^ 64) < j ∧ j < 2 ^ 64) ∧ Q.k (.int (i * j)))) := rfl
@[simp] theorem v_mulI_ : c2 oMulV (.int i) (.int j) (q := Q) = (((-(2 ^ 64) < i ∧ i < 2 ^ 64 ∨ -(2 ^ 64) < j ∧ j < 2 ^ 64) ∧ Q.k (.int (i * j)))) := rfl
@[simp ↓] theorem v_mulS : c2 oMulV (.str a) (.int j) (q := Q) = ((a.length ≤ 1000 ∧ j ≤ 16000 ∧ -1000 ≤ j ∧ Q.k (.str (Txt.mul a j)))) := rfl
@[simp] theorem v_mulS_ : c2 oMulV (.str a) (.int j) (q := Q) = ((a.length ≤ 1000 ∧ j ≤ 16000 ∧ -1000 ≤ j ∧ Q.k (.str (Txt.mul a j)))) := rfl
@[simp ↓] theorem v_mulL : c2 oMulV (.lst xs) (.int j) (q := Q) = ((-(2 ^ 63) ≤ j ∧ j < 2 ^ 63 ∧ xs.length * j.toNat ≤ 16777216 ∧ Q.k (.lst (repD xs j)))) := rfl
@[simp] theorem v_mulL_ : c2 oMulV (.lst xs) (.int j) (q := Q) = ((-(2 ^ 63) ≤ j ∧ j < 2 ^ 63 ∧ xs.length * j.toNat ≤ 16777216 ∧ Q.k (.lst (repD xs j)))) := rfl
@[simp ↓] theorem v_rep : c2 oMulL (.lst xs) (.int j) (q := Q) = ((-(2 ^ 63) ≤ j ∧ j < 2 ^ 63 ∧ xs.length * j.toNat ≤ 16777216 ∧ Q.k (.lst (repD xs j)))) := rfl
@[simp] theorem v_rep_ : c2 oMulL (.lst xs) (.int j) (q := Q) = ((-(2 ^ 63) ≤ j ∧ j < 2 ^ 63 ∧ xs.length * j.toNat ≤ 16777216 ∧ Q.k (.lst (repD xs j)))) := rfl
@[simp ↓] theorem v_ltI : c2 oLt (.int i) (.int j) (q := Q) = (Q.k (.bl (decide (i < j)))) := rfl
@[simp] theorem v_ltI_ : c2 oLt (.int i) (.int j) (q := Q) = (Q.k (.bl (decide (i < j)))) := rfl
@[simp ↓] theorem v_ltS : c2 oLt (.str a) (.str b) (q := Q) = (Q.k (.bl (ltS a b))) := rfl
@[simp] theorem v_ltS_ : c2 oLt (.str a) (.str b) (q := Q) = (Q.k (.bl (ltS a b))) := rfl
@[simp ↓] theorem v_cmpI {f : Int → Int → Bool} {g : Str → Str → Bool} : c2 (oCmp f g) (.int i) (.int j) (q := Q) = (Q.k (.bl (f i j))) := rfl
@[simp] theorem v_cmpI_ {f : Int → Int → Bool} {g : Str → Str → Bool} : c2 (oCmp f g) (.int i) (.int j) (q := Q) = (Q.k (.bl (f i j))) := rfl
@[simp ↓] theorem v_cmpS {f : Int → Int → Bool} {g : Str → Str → Bool} : c2 (oCmp f g) (.str a) (.str b) (q := Q) = (Q.k (.bl (g a b))) := rfl
@[simp] theorem v_cmpS_ {f : Int → Int → Bool} {g : Str → Str → Bool} : c2 (oCmp f g) (.str a) (.str b) (q := Q) = (Q.k (.bl (g a b))) := rfl
@[simp ↓] theorem v_eq {n : Bool} : c2 (oEq n) x y (q := Q) = ((D.fit 64 x = true ∧ D.fit 64 y = true ∧ Q.k (.bl (ng n (x.eqv y))))) := rfl
@[simp] theorem v_eq_ {n : Bool} : c2 (oEq n) x y (q := Q) = ((D.fit 64 x = true ∧ D.fit 64 y = true ∧ Q.k (.bl (ng n (x.eqv y))))) := rfl
@[simp ↓] theorem v_is {n : Bool} : c2 (oIs n) x .non (q := Q) = (Q.k (.bl (ng n (match x with | .non => true | _ => false)))) := rfl
@[simp] theorem v_is_ {n : Bool} : c2 (oIs n) x .non (q := Q) = (Q.k (.bl (ng n (match x with | .non => true | _ => false)))) := rfl
@[simp ↓] theorem v_inT {n : Bool} : c2 (oIn n) x (.tup xs) (q := Q) = ((D.fit 64 x = true ∧ D.fitL 63 xs = true ∧ Q.k (.bl (ng n (memD x xs))))) := by cases x <;> rfl
@[simp] theorem v_inT_ {n : Bool} : c2 (oIn n) x (.tup xs) (q := Q) = ((D.fit 64 x = true ∧ D.fitL 63 xs = true ∧ Q.k (.bl (ng n (memD x xs))))) := by cases x <;> rfl
@[simp ↓] theorem v_inL {n : Bool} : c2 (oIn n) x (.lst xs) (q := Q) = ((D.fit 64 x = true ∧ D.fitL 63 xs = true ∧ Q.k (.bl (ng n (memD x xs))))) := by cases x <;> rfl
@[simp] theorem v_inL_ {n : Bool} : c2 (oIn n) x (.lst xs) (q := Q) = ((D.fit 64 x = true ∧ D.fitL 63 xs = true ∧ Q.k (.bl (ng n (memD x xs))))) := by cases x <;> rfl
@[simp] theorem v_ng0 : ng false c = c := rfl
@[simp] theorem v_ng1 : ng true c = !c := rfl
@[simp ↓] theorem v_ixL : c2 oIx (.lst xs) (.int i) (q := Q) = (∃ z, atI xs i = some z ∧ Q.k z) := rfl
@[simp] theorem v_ixL_ : c2 oIx (.lst xs) (.int i) (q := Q) = (∃ z, atI xs i = some z ∧ Q.k z) := rfl
@[simp ↓] theorem v_ixT : c2 oIx (.tup xs) (.int i) (q := Q) = (∃ z, atI xs i = some z ∧ Q.k z) := rfl
@[simp] theorem v_ixT_ : c2 oIx (.tup xs) (.int i) (q := Q) = (∃ z, atI xs i = some z ∧ Q.k z) := rfl
@[simp ↓] theorem v_ixS : c2 oIx (.str a) (.int i) (q := Q) = (∃ z, atI a.cps.toList i = some z ∧ Q.k (.str ⟨#[z]⟩)) := rfl
@[simp] theorem v_ixS_ : c2 oIx (.str a) (.int i) (q := Q) = (∃ z, atI a.cps.toList i = some z ∧ Q.k (.str ⟨#[z]⟩)) := rfl
@[simp ↓] theorem v_slL {lo hi : Option Int} : c1 (oSl lo hi) (.lst xs) (q := Q) = (Q.k (.lst (cutG xs lo hi))) := rfl
@[simp] theorem v_slL_ {lo hi : Option Int} : c1 (oSl lo hi) (.lst xs) (q := Q) = (Q.k (.lst (cutG xs lo hi))) := rfl
@[simp ↓] theorem v_slT {lo hi : Option Int} : c1 (oSl lo hi) (.tup xs) (q := Q) = (Q.k (.tup (cutG xs lo hi))) := rfl
@[simp] theorem v_slT_ {lo hi : Option Int} : c1 (oSl lo hi) (.tup xs) (q := Q) = (Q.k (.tup (cutG xs lo hi))) := rfl
@[simp ↓] theorem v_slS {lo hi : Option Int} : c1 (oSl lo hi) (.str a) (q := Q) = (Q.k (.str (cutS a lo hi))) := rfl
@[simp] theorem v_slS_ {lo hi : Option Int} : c1 (oSl lo hi) (.str a) (q := Q) = (Q.k (.str (cutS a lo hi))) := rfl
@[simp ↓] theorem v_lenS : c1 oLen (.str a) (q := Q) = (Q.k (.int a.length)) := rfl
@[simp] theorem v_lenS_ : c1 oLen (.str a) (q := Q) = (Q.k (.int a.length)) := rfl
@[simp ↓] theorem v_lenL : c1 oLen (.lst xs) (q := Q) = (Q.k (.int xs.length)) := rfl
@[simp] theorem v_lenL_ : c1 oLen (.lst xs) (q := Q) = (Q.k (.int xs.length)) := rfl
@[simp ↓] theorem v_lenT : c1 oLen (.tup xs) (q := Q) = (Q.k (.int xs.length)) := rfl
@[simp] theorem v_lenT_ : c1 oLen (.tup xs) (q := Q) = (Q.k (.int xs.length)) := rfl
@[simp ↓] theorem v_int : c1 oInt (.int i) (q := Q) = (Q.k (.int i)) := rfl
@[simp] theorem v_int_ : c1 oInt (.int i) (q := Q) = (Q.k (.int i)) := rfl
@[simp ↓] theorem v_ord {n : Nat} : c1 oOrd (.str ⟨#[n]⟩) (q := Q) = (∃ c, (⟨#[n]⟩ : Str) = ⟨#[c]⟩ ∧ Q.k (.int (c : Nat))) := rfl
@[simp] theorem v_ord_ {n : Nat} : c1 oOrd (.str ⟨#[n]⟩) (q := Q) = (∃ c, (⟨#[n]⟩ : Str) = ⟨#[c]⟩ ∧ Q.k (.int (c : Nat))) := rfl
@[simp ↓] theorem v_tupL : c1 oTuple (.lst xs) (q := Q) = (Q.k (.tup xs)) := rfl
@[simp] theorem v_tupL_ : c1 oTuple (.lst xs) (q := Q) = (Q.k (.tup xs)) := rfl
@[simp ↓] theorem v_tupT : c1 oTuple (.tup xs) (q := Q) = (Q.k (.tup xs)) := rfl
@[simp] theorem v_tupT_ : c1 oTuple (.tup xs) (q := Q) = (Q.k (.tup xs)) := rfl
@[simp ↓] theorem v_listL : c1 oList (.lst xs) (q := Q) = (Q.k (.lst xs)) := rfl
@[simp] theorem v_listL_ : c1 oList (.lst xs) (q := Q) = (Q.k (.lst xs)) := rfl
@[simp ↓] theorem v_listT : c1 oList (.tup xs) (q := Q) = (Q.k (.lst xs)) := rfl
@[simp] theorem v_listT_ : c1 oList (.tup xs) (q := Q) = (Q.k (.lst xs)) := rfl
@[simp ↓] theorem v_all {any : Bool} : c1 (oAll any) (.lst xs) (q := Q) = (∃ bs, boolsD xs = some bs ∧ Q.k (.bl (if any then bs.any id else bs.all id))) := rfl
@[simp] theorem v_all_ {any : Bool} : c1 (oAll any) (.lst xs) (q := Q) = (∃ bs, boolsD xs = some bs ∧ Q.k (.bl (if any then bs.any id else bs.all id))) := rfl
@[simp ↓] theorem v_neg : c1 oNeg (.int i) (q := Q) = (Q.k (.int (-i))) := rfl
@[simp] theorem v_neg_ : c1 oNeg (.int i) (q := Q) = (Q.k (.int (-i))) := rfl
@[simp ↓] theorem v_abs : c1 oAbs (.int i) (q := Q) = (Q.k (.int (if i < 0 then -i else i))) := rfl
@[simp] theorem v_abs_ : c1 oAbs (.int i) (q := Q) = (Q.k (.int (if i < 0 then -i else i))) := rfl
@[simp ↓] theorem v_ints2 {f : Int → Int → Int} : c1 (oInts2 f) [.d (.int i), .d (.int j)] (q := Q) = (Q.k (.int (f i j))) := rfl
@[simp] theorem v_ints2_ {f : Int → Int → Int} : c1 (oInts2 f) [.d (.int i), .d (.int j)] (q := Q) = (Q.k (.int (f i j))) := rfl
@[simp ↓] theorem v_isi {T : String} : c1 (oIsi T) x (q := Q) = (∃ t, tyD x = some t ∧ Q.k (.bl (subT t T))) := rfl
@[simp] theorem v_isi_ {T : String} : c1 (oIsi T) x (q := Q) = (∃ t, tyD x = some t ∧ Q.k (.bl (subT t T))) := rfl
@[simp] theorem v_tyN : tyD .non = some "NoneType" := rfl
@[simp] theorem v_tyB : tyD (.bl c) = some "bool" := rfl
@[simp] theorem v_tyI : tyD (.int i) = some "int" := rfl
@[simp] theorem v_tyS : tyD (.str a) = some "str" := rfl
@[simp] theorem v_tyL : tyD (.lst xs) = some "list" := rfl
@[simp] theorem v_tyT : tyD (.tup xs) = some "tuple" := rfl
@[simp ↓] theorem v_joinL : c2 mJoin (.str a) [.d (.lst xs)] (q := Q) = (∃ ys : List Str, xs = ys.map D.str ∧ (ys.map (·.length)).sum + ys.length * a.length ≤ 16777216 ∧ Q.k (.str (Str.join a ys))) := rfl
@[simp] theorem v_joinL_ : c2 mJoin (.str a) [.d (.lst xs)] (q := Q) = (∃ ys : List Str, xs = ys.map D.str ∧ (ys.map (·.length)).sum + ys.length * a.length ≤ 16777216 ∧ Q.k (.str (Str.join a ys))) := rfl
/-! how deep they are -/
@[simp] theorem fit_n {n : Nat} : D.fit n .non = true := by cases n <;> rfl
@[simp] theorem fit_b {n : Nat} : D.fit n (.bl c) = true := by cases n <;> rfl
@[simp] theorem fit_i {n : Nat} : D.fit n (.int i) = true := by cases n <;> rfl
@[simp] theorem fit_s {n : Nat} : D.fit n (.str a) = true := by cases n <;> rfl
@[simp] theorem fit_l {n : Nat} : D.fit (n + 1) (.lst xs) = D.fitL n xs := rfl
@[simp] theorem fit_t {n : Nat} : D.fit (n + 1) (.tup xs) = D.fitL n xs := rfl
@[simp] theorem fitL_n {n : Nat} : D.fitL n [] = true := rfl
@[simp] theorem fitL_c {n : Nat} : D.fitL n (x :: xs) = (D.fit n x && D.fitL n xs) := rfl
theorem fitL_app {n : Nat} : D.fitL n (xs ++ ys) = (D.fitL n xs && D.fitL n ys) := by
  induction xs with
  | nil => simp
  | cons x xs ih => simp [ih, Bool.and_assoc]
theorem fitL_map {α : Type} {n : Nat} {f : α → D} {l : List α} (h : ∀ x ∈ l, D.fit n (f x) = true) : D.fitL n (l.map f) = true := fitL_iff.mpr fun x hx => by
  obtain ⟨y, hy, rfl⟩ := List.mem_map.mp hx
  exact h y hy
/-! equal -/
@[simp] theorem eqv_ii : D.eqv (.int i) (.int j) = decide (i = j) := by
  show PyData.eqv (.int i) (.int j) = _
  rw [PyData.eqv]
  first | rfl | simp
@[simp] theorem eqv_ss : D.eqv (.str a) (.str b) = decide (a = b) := by
  show PyData.eqv (.str a) (.str b) = _
  rw [PyData.eqv]
  first | rfl | simp
end
end DL

set_option linter.all false
set_option maxRecDepth 100000
set_option maxHeartbeats 2000000
/-! lists of ints, places, cuts -/
namespace DL
open PySem PySem.Spec PyProof.Rows L2 GR N01 RZ
theorem atI_int {α : Type} {xs : List α} {i : Int} (h0 : 0 ≤ i) (h1 : i < xs.length) : atI xs i = xs[i.toNat]? := by
  unfold atI ixN
  rw [if_pos h0, if_pos h1]; rfl
theorem atI_nat' {α : Type} {xs : List α} {i : Nat} (h1 : i < xs.length) : atI xs (i : Int) = xs[i]? := by rw [atI_int (by omega) (by omega), Int.toNat_natCast]
theorem atI_neg {α : Type} {xs : List α} {i : Int} (h0 : i < 0) (h1 : -(xs.length : Int) ≤ i) : atI xs i = xs[(i + xs.length).toNat]? := by
  unfold atI ixN
  rw [if_neg (by omega), if_pos h1]; rfl
theorem ixN_nat {n i : Nat} (h : i < n) : ixN n (i : Int) = some i := by
  unfold ixN
  rw [if_pos (by omega), if_pos (by omega), Int.toNat_natCast]
theorem ixN_int {n : Nat} {i : Int} (h0 : 0 ≤ i) (h : i < n) : ixN n i = some i.toNat := by
  unfold ixN
  rw [if_pos h0, if_pos h]
def intsD (xs : List Int) : List D := xs.map D.int
@[simp] theorem intsD_len {xs : List Int} : (intsD xs).length = xs.length := List.length_map ..
theorem intsD_app {xs ys : List Int} : intsD (xs ++ ys) = intsD xs ++ intsD ys := List.map_append
theorem intsD_nil : intsD [] = [] := rfl
theorem intsD_cons {x : Int} {xs : List Int} : intsD (x :: xs) = .int x :: intsD xs := rfl
theorem intsD_get {xs : List Int} {i : Nat} : (intsD xs)[i]? = (xs[i]?).map D.int := List.getElem?_map ..
@[simp] theorem intsD_fit {xs : List Int} {n : Nat} : D.fitL n (intsD xs) = true := fitL_map fun _ _ => fit_i
theorem intsD_rep {n : Nat} {x : Int} : intsD (List.replicate n x) = List.replicate n (.int x) := List.map_replicate ..
theorem intsD_take {n : Nat} {xs : List Int} : intsD (xs.take n) = (intsD xs).take n := List.map_take ..
theorem intsD_drop {n : Nat} {xs : List Int} : intsD (xs.drop n) = (intsD xs).drop n := List.map_drop ..
theorem intsD_set {n : Nat} {x : Int} {xs : List Int} : intsD (xs.set n x) = (intsD xs).set n (.int x) := List.map_set ..
theorem repD_one {α : Type} {x : α} {n : Int} : repD [x] n = List.replicate n.toNat x := by
  unfold repD
  generalize n.toNat = k
  induction k with
  | zero => rfl
  | succ k ih => rw [List.replicate_succ, List.replicate_succ, List.flatten_cons, ih]; rfl
theorem cut_nn {α : Type} {xs : List α} {a b : Nat} : cutG xs (some (a : Int)) (some (b : Int)) = (xs.drop a).take (b - a) := by
  unfold cutG
  rw [HT.sIx_nat, HT.sIx_nat]
  refine List.ext_getElem? fun i => ?_
  rw [List.getElem?_take, List.getElem?_take, List.getElem?_drop, List.getElem?_drop]
  by_cases ha : a ≤ xs.length
  · rw [Nat.min_eq_left ha]
    by_cases hb : b ≤ xs.length
    · rw [Nat.min_eq_left hb]
    · rw [Nat.min_eq_right (by omega)]
      by_cases hi : i < xs.length - a
      · rw [if_pos hi, if_pos (by omega)]
      · rw [if_neg hi]
        split
        · rw [List.getElem?_eq_none (by omega)]
        · rfl
  · have e1 : min a xs.length = xs.length := by omega
    rw [e1, if_neg (by omega)]
    split
    · rw [List.getElem?_eq_none (by omega)]
    · rfl
theorem cut_0n {α : Type} {xs : List α} {b : Nat} : cutG xs none (some (b : Int)) = xs.take b := by
  have := cut_nn (xs := xs) (a := 0) (b := b)
  unfold cutG at this ⊢
  rw [HT.sIx_none, HT.sIx_nat]
  rw [HT.sIx_nat, HT.sIx_nat, Nat.zero_min] at this
  simpa using this
theorem cut_n0 {α : Type} {xs : List α} {a : Nat} : cutG xs (some (a : Int)) none = xs.drop a := by
  unfold cutG
  rw [HT.sIx_none, HT.sIx_nat]
  by_cases ha : a ≤ xs.length
  · rw [Nat.min_eq_left ha, List.take_of_length_le (by rw [List.length_drop]; omega)]
  · rw [Nat.min_eq_right (by omega), List.drop_eq_nil_of_le (Nat.le_refl _), List.drop_eq_nil_of_le (by omega)]; simp
theorem cut_nm {α : Type} {xs : List α} {a k : Nat} (hk : 0 < k) (h : k ≤ xs.length) (ha : a ≤ xs.length) : cutG xs (some (a : Int)) (some (-(k : Int))) = (xs.drop a).take (xs.length - k - a) := by
  unfold cutG
  rw [HT.sIx_nat, Nat.min_eq_left ha]
  have e : HT.sIx xs.length xs.length (some (-(k : Int))) = xs.length - k := by
    show (if -(k : Int) < 0 then (-(k : Int) + (xs.length : Int)).toNat else _) = _
    rw [if_pos (by omega)]; omega
  rw [e]
theorem cut_m0 {α : Type} {xs : List α} {k : Nat} (hk : 0 < k) (h : k ≤ xs.length) : cutG xs (some (-(k : Int))) none = xs.drop (xs.length - k) := by
  unfold cutG
  have e : HT.sIx xs.length 0 (some (-(k : Int))) = xs.length - k := by
    show (if -(k : Int) < 0 then (-(k : Int) + (xs.length : Int)).toNat else _) = _
    rw [if_pos (by omega)]; omega
  rw [HT.sIx_none, e, List.take_of_length_le (by rw [List.length_drop]; omega)]
/-! texts by their codes -/
def codes (t : Str) : List Int := t.cps.toList.map fun c : Nat => (c : Int)
@[simp] theorem codes_len {t : Str} : (codes t).length = t.length := by unfold codes Str.length; simp
theorem cutS_toList {t : Str} {lo hi : Option Int} : (cutS t lo hi).cps.toList = cutG t.cps.toList lo hi := by
  unfold cutS cutG
  have : t.length = t.cps.toList.length := by unfold Str.length; simp
  rw [this]
theorem codes_cut {t : Str} {a b : Nat} : codes (cutS t (some (a : Int)) (some (b : Int))) = ((codes t).drop a).take (b - a) := by
  unfold codes
  rw [cutS_toList, cut_nn, List.map_take, List.map_drop]
theorem str_ext {s t : Str} (h : s.cps.toList = t.cps.toList) : s = t := by
  obtain ⟨a⟩ := s
  obtain ⟨b⟩ := t
  have : a = b := by
    have := congrArg List.toArray h
    simpa using this
  rw [this]
theorem charsD_len {t : Str} : (charsD t).length = t.length := by unfold charsD Str.length; simp
theorem rangeD_len {a : Int} {n : Nat} : (rangeD a n).length = n := by unfold rangeD; simp
theorem rangeC_len {a c : Int} {n : Nat} : (rangeC a c n).length = n := by unfold rangeC; simp
theorem rangeD_get {a : Int} {n i : Nat} {x : D} (h : (rangeD a n)[i]? = some x) : x = .int (a + i) ∧ i < n := by
  have hi : i < n := by rw [← rangeD_len (a := a) (n := n)]; exact (List.getElem?_eq_some_iff.mp h).1
  unfold rangeD at h
  rw [List.getElem?_map, List.getElem?_range hi] at h
  exact ⟨(Option.some.inj h).symm, hi⟩
theorem rangeD_mem {a : Int} {n : Nat} {x : D} (h : x ∈ rangeD a n) : ∃ i : Nat, x = .int (a + i) ∧ i < n := by
  obtain ⟨i, hi⟩ := List.mem_iff_getElem?.mp h
  exact ⟨i, rangeD_get hi⟩
theorem rangeC_mem {a c : Int} {n : Nat} {x : D} (h : x ∈ rangeC a c n) : ∃ i : Nat, x = .int (a + i * c) ∧ i < n := by
  unfold rangeC at h
  obtain ⟨i, hi, rfl⟩ := List.mem_map.mp h
  exact ⟨i, rfl, List.mem_range.mp hi⟩
theorem enumD_len {xs : List D} : (enumD xs).length = xs.length := by unfold enumD; simp
theorem enumD_get {xs : List D} {i : Nat} {x : D} (h : (enumD xs)[i]? = some x) : ∃ y, xs[i]? = some y ∧ x = .tup [.int (i : Nat), y] := by
  unfold enumD at h
  rw [List.getElem?_mapIdx] at h
  obtain ⟨y, e1, e2⟩ := Option.map_eq_some_iff.mp h
  exact ⟨y, e1, e2.symm⟩
/-! a value equals itself -/
mutual
theorem py_refl : ∀ {n : Nat} {x : D}, D.fit n x = true → PyData.eqv x.py x.py = true
  | _, .non, _ => by rw [D.py, PyData.eqv]
  | _, .bl b, _ => by rw [D.py, PyData.eqv]; simp
  | _, .int i, _ => by rw [D.py, PyData.eqv]; simp
  | _, .str s, _ => by rw [D.py, PyData.eqv]; simp
  | 0, .lst xs, h => by rw [D.fit] at h; cases h
  | 0, .tup xs, h => by rw [D.fit] at h; cases h
  | 0, .tpd xs, h => by rw [D.fit] at h; cases h
  | n + 1, .tpd xs, h => by rw [D.py, PyData.eqv]; rw [D.fit] at h; exact pyL_refl h
  | n + 1, .lst xs, h => by rw [D.py, PyData.eqv]; rw [D.fit] at h; exact pyL_refl h
  | n + 1, .tup xs, h => by rw [D.py, PyData.eqv]; rw [D.fit] at h; exact pyL_refl h
  | n, .dct _ _, h => by cases n <;> (rw [D.fit] at h; cases h)
  | n, .obj _ _ _, h => by cases n <;> (rw [D.fit] at h; cases h)
  | n, .hdl _, h => by cases n <;> (rw [D.fit] at h; cases h)
  | n, .dtt _ _, h => by cases n <;> (rw [D.fit] at h; cases h)
theorem pyL_refl : ∀ {n : Nat} {xs : List D}, D.fitL n xs = true → PyData.eqvAll (D.pyL xs) (D.pyL xs) = true
  | _, [], _ => by rw [D.pyL, PyData.eqvAll]
  | n, x :: xs, h => by
    rw [D.fitL, Bool.and_eq_true] at h
    rw [D.pyL, PyData.eqvAll, py_refl h.1, pyL_refl h.2]; rfl
end
theorem eqv_refl {x : D} (h : D.fit 64 x = true) : x.eqv x = true := py_refl h
end DL

set_option linter.all false
set_option maxRecDepth 100000
set_option maxHeartbeats 2000000
/-! rows: index, partition, sorted -/
namespace DL
open PySem PySem.Spec PyProof.Rows L2 GR N01 RZ
section
variable {S : Type} [Pk S] {K : PySem.W.Frag} {mg : Str → Option Value} {xc : XC} {R : Reg S} [RegS K mg R] {W : WX}
/-! a tuple of texts that the module has, .index -/
def GlobT (K : PySem.W.Frag) (mg : Str → Option Value) (x : Str) (ys : List Str) : Prop := ∃ (p : Addr) (o : Obj) (its : Array Value) (n : Nat), mg x = some (.ref p) ∧ K.lookup p = some o ∧ o.cls = .type "tuple" ∧ o.dict = none ∧ o.data = .seq its n ∧ its.size ≤ sizeLine ∧ Vals (ys.map V.str) its.toList
def rTix (K : PySem.W.Frag) : V → List V → Hp → VK → Prop := fun x xs H Q => ∃ p, ∃ ys : List Str, ∃ z j, x = .ref p ∧ xs = [.str z] ∧ SqT K H p (ys.map V.str) ∧ ys[j]? = some z ∧ (∀ m, m < j → ys[m]? ≠ some z) ∧ Q (.int (j : Nat)) H
theorem mt_tixD {X : Cx} : MtR X "tuple.index" (rTix X.K) := mt_tup_index
def tix (ys : List Str) : D → (Int → Prop) → Prop := fun x k => match x with
  | .str z => ∃ j, ys.findIdx? (fun y => decide (y = z)) = some j ∧ k (j : Nat)
  | _ => False
def dTix (ys : List Str) (dx : DX S) : DX S := fun s ρ Q E => dx s ρ (fun x s ρ => tix ys x fun j => Q (.int j) s ρ) E
theorem tix_mono {ys : List Str} {x : D} {k k' : Int → Prop} (h : ∀ i, k i → k' i) (z : tix ys x k) : tix ys x k' := by
  cases x <;> first | (obtain ⟨j, a, b⟩ := z; exact ⟨j, a, h _ b⟩) | exact (show False from z).elim
def tTix (K : PySem.W.Frag) (mg : Str → Option Value) (x : Str) (te : TE) : TE := fun σ H Q => ∀ p, mg x = some (.ref p) → tBM K "tuple" (rTix K) (tC (.ref p)) (tCons te tNil) σ H Q
theorem find_first {ys : List Str} {z : Str} {j : Nat} (h : ys.findIdx? (fun y => decide (y = z)) = some j) : ys[j]? = some z ∧ ∀ m, m < j → ys[m]? ≠ some z := by
  rw [List.findIdx?_eq_some_iff_getElem] at h
  obtain ⟨hj, h1, h2⟩ := h
  refine ⟨by rw [List.getElem?_eq_getElem hj, of_decide_eq_true h1], fun m hm e => ?_⟩
  have hml : m < ys.length := Nat.lt_trans hm hj
  rw [List.getElem?_eq_getElem hml] at e
  exact h2 m hm (decide_eq_true (Option.some.inj e))
theorem sim_tix {x : Str} {ys : List Str} {te : TE} {dx : DX S} (g : GlobT K mg x ys) (h : SimE K mg xc R W te dx) : SimE K mg xc R W (tTix K mg x te) (dTix ys dx) where
  mono := fun hq e z => h.mono (fun x s ρ z => tix_mono (fun j z => hq _ _ _ z) z) e z
  run := fun {r B ft F H σ ρ s EX Q} G w q => by
    obtain ⟨p, o, its, n, hm, hl, hc, hd, ha, hs, hv⟩ := g
    intro p' hp'
    rw [hm] at hp'
    cases hp'
    refine ⟨.inr (.inl ⟨rfl, o, hl, hc, hd⟩), ?_⟩
    refine h.run G w (h.mono (fun x s1 ρ1 z v ft1 F1 H1 G1 e1 a1 => ?_) (fun _ _ _ z => z) q)
    cases x <;> first | exact (show False from z).elim | skip
    rename_i zs
    obtain ⟨j, hj, z⟩ := (show ∃ j, _ ∧ _ from z)
    obtain ⟨rfl, _⟩ := has_str a1
    obtain ⟨f1, f2⟩ := find_first hj
    exact ⟨p, ys, zs, j, rfl, rfl, .inr ⟨o, its, n, hl, hc, ha, hs, hv⟩, f1, f2, z _ _ _ _ G1 e1 (.int _)⟩
/-! list.index -/
def isLst : D → Prop
  | .lst _ => True
  | _ => False
theorem ty_lst {F H : Hp} {x : V} {dx : D} (e : Same F H) (h : Has K mg F x dx) (t : isLst dx) : tyV K "list" x H := by
  cases h <;> first | exact (show False from t).elim | skip
  rename_i h hs
  exact .inl ⟨rfl, _, .inl (.inl (e _ _ h))⟩
def mIndex : D → DOA := fun x cs Q => match x, cs with
  | .lst xs, [.d y] => D.fit 64 y = true ∧ D.fitL 63 xs = true ∧ ∃ j, xs.findIdx? (fun z => z.eqv y) = some j ∧ Q (.int (j : Nat))
  | _, _ => False
theorem sim_index : SimM K mg "list" (rIndexD K) isLst mIndex where
  ty := ty_lst
  mono := fun {x cs Q Q'} h z => by
    unfold mIndex at z ⊢
    split at z
    · obtain ⟨a, b, j, c, d⟩ := z; exact ⟨a, b, j, c, h _ d⟩
    · exact z.elim
  run := fun {q F H x dx vs cs Q} e hx ha z => by
    unfold mIndex at z
    split at z
    · rename_i xs y
      obtain ⟨f1, f2, j, hj, z⟩ := z
      obtain ⟨v, rfl, hv⟩ := args1 ha
      have f2' := (show D.fit 64 (.lst xs) = D.fitL 63 xs by rw [D.fit]).trans f2
      have d2 := has_dp e hx f2'
      have s2 := has_shaped hx f2'
      rw [D.py] at d2 s2
      cases hx with
      | lst hs hd =>
        rw [List.findIdx?_eq_some_iff_getElem] at hj
        obtain ⟨hl, h1, h2⟩ := hj
        refine ⟨_, v, y.py, D.pyL xs, j, (xs[j]).py, rfl, rfl, d2, has_dp e hv f1, s2, has_shaped hv f1, ?_, h1, fun m z' hm hz => ?_, z _ F H (.refl e) (.int _)⟩
        · rw [pyL_map, List.getElem?_map, List.getElem?_eq_getElem hl]; rfl
        · have hml : m < xs.length := Nat.lt_trans hm hl
          rw [pyL_map, List.getElem?_map, List.getElem?_eq_getElem hml] at hz
          cases hz
          have := h2 m hm
          rw [Bool.not_eq_true] at this
          exact this
    · exact z.elim
/-! partition -/
def mPart : D → DOA := fun x cs Q => match x, cs with
  | .str a, [.d (.str b)] => (b.length == 0) = false ∧ Q (.tup [.str (Txt.partition a b).1, .str (Txt.partition a b).2.1, .str (Txt.partition a b).2.2])
  | _, _ => False
def rPart : V → List V → Hp → VK → Prop := fun x xs H Q => ∃ a b, x = .str a ∧ xs = [.str b] ∧ (b.length == 0) = false ∧ a.length ≤ sizeLine ∧ ∀ p, H p = none → Q (.ref p) (upd H p (.tup [.str (Txt.partition a b).1, .str (Txt.partition a b).2.1, .str (Txt.partition a b).2.2]))
theorem mt_partD {X : Cx} : MtR X "str.partition" rPart := mt_partition
theorem sub_len {x : Str} {i j : Nat} : (Builtin.Str.strSub x i j).length ≤ x.length := le_strSub x _ _
theorem OkS.sub {x : Str} {i j : Nat} (o : OkS x) : OkS (Builtin.Str.strSub x i j) := ⟨strOk_iff.mpr fun c hc => strOk_iff.mp o.1 c (strSub_mem hc), Nat.le_trans sub_len o.2⟩
theorem okS_empty : OkS Str.empty := ⟨by decide +kernel, by decide +kernel⟩
theorem part_ok {a b : Str} (ha : OkS a) (hb : OkS b) : OkS (Txt.partition a b).1 ∧ OkS (Txt.partition a b).2.1 ∧ OkS (Txt.partition a b).2.2 := by
  unfold Txt.partition
  repeat' split
  all_goals first
    | exact ⟨ha, okS_empty, okS_empty⟩
    | exact ⟨ha.sub, hb, ha.sub⟩
    | exact ⟨ha.sub, ha.sub, ha.sub⟩
theorem sim_part : SimM K mg "str" rPart isStr mPart where
  ty := ty_str
  mono := fun {x cs Q Q'} h z => by
    unfold mPart at z ⊢
    split at z
    · exact ⟨z.1, h _ z.2⟩
    · exact z.elim
  run := fun {q F H x dx vs cs Q} e hx ha z => by
    unfold mPart at z
    split at z
    · rename_i a b
      obtain ⟨rfl, o1⟩ := has_str hx
      obtain ⟨v, rfl, hv⟩ := args1 ha
      obtain ⟨rfl, o2⟩ := has_str hv
      refine ⟨_, _, rfl, rfl, z.1, o1.2, fun p hp => ?_⟩
      obtain ⟨k1, k2, k3⟩ := part_ok o1 o2
      have t := PStep.new (o := .tup [.str (Txt.partition a b).1, .str (Txt.partition a b).2.1, .str (Txt.partition a b).2.2]) e hp
      exact z.2 _ _ _ t (.tup (.inl (.inl upd_same)) (.cons (.str _ k1) (.cons (.str _ k2) (.cons (.str _ k3) .nil))))
    · exact z.elim
end
section
variable {S : Type} [Pk S] {X : Cx} {xc : XC} {R : Reg S} [RegS X.K X.mg R] {W : WX} {e a b : Expr} {te ta : TE} {da : DOp S} {dx : DX S} {pos p kp p2 : Pos}
theorem qtix {C : Str} {ys : List Str} {pC apos cpos : Pos} (g : GlobT X.K X.mg C ys) (h : QE X xc R W e te dx) (hg : Gl X C := by rfl) (hd : (C == ("__debug__" : Str)) = false := by decide)
    (hbase : attributeBase (.Name C pC) "index" X.env (eval (.Name C pC) X.env) = eval (.Name C pC) X.env := by rfl)
    (hfew : ((backTo cpos (starEach [e] X.env)).all (fun x => !x.1) && (backToKw cpos (keywordEach [] X.env)).all (fun x => x.1.isSome) && decide ([e].length + ([] : List Keyword).length + (if ([] : List Keyword).isEmpty then 0 else 1) < 30)) = true := by rfl)
    (hline : (apos.endLine == cpos.line) = true := by rfl) (hse : starEach [e] X.env = (false, eval e X.env) :: starEach [] X.env := by rfl) (hpl : (backTo cpos (starEach [] X.env)).any (·.1) = false := by rfl) :
    QE X xc R W (.Call (.Attribute (.Name C pC) "index" apos) [e] [] cpos) (tTix X.K X.mg C te) (dTix ys dx) := by
  obtain ⟨p, o, its, n, hm, hl⟩ := id g
  exact ⟨fun k => PE.imp (pe_bm PySem.F.plainAttrs_tuple PySem.F.slot_tuple_index PySem.F.type_tuple_index mt_tixD (pe_glob (v := .ref p) hg hm rfl hd) (pa_cons (h.pe k) pa_nil hse) hbase hfew hline hse hpl) fun σ H Q q => q p hm, sim_tix g h.sim⟩
theorem qsortS {p : Pos} (hm : X.mg "sorted" = none) (ha : QO X xc R W e te da) (hg : Gl X "sorted" := by rfl) (he : starEach [e] X.env = (false, eval e X.env) :: starEach [] X.env := by rfl) (hpl : (backTo pos (starEach [] X.env)).any (·.1) = false := by rfl) :
    QF X xc R W (.Call (.Name "sorted" p) [e] [] pos) (tCB (rSortedS X.K) (tCons te tNil)) (dUnO oSortS da) := ⟨fun k => pe_callB cr_sortedS hg hm (by decide +kernel) (pa_cons (ha.pe k) pa_nil he) (by decide) (by decide) he hpl, simf_sortS ha.sim⟩
def tSortKG (K : PySem.W.Frag) (mg : Str → Option Value) (kx : Str) (sp : DSp Unit) (te : TE) : TE := fun σ H Q => ∀ q, mg kx = some (.ref q) → tSortK K mg q sp te σ H Q
theorem simf_sortKG {K : PySem.W.Frag} {mg : Str → Option Value} [RegS K mg R] {kx : Str} {q : Addr} {sp : DSp Unit} (hq : mg kx = some (.ref q)) (hm : MonoSp sp) (ha : SimO K mg xc R W te da) : SimF K mg xc R W (tSortKG K mg kx sp te) (dUnO (oSortK sp) da) where
  mono := (simf_sortK (q := q) hm ha).mono
  run := fun G w z => fun q' hq' => by
    rw [hq] at hq'
    cases hq'
    exact (simf_sortK hm ha).run G w z
theorem qsortK {k j : Nat} {kx : Str} {sp : DSp Unit} (c : ∃ q, DKey X.prog X.w X.K X.mg X.base k kx q sp) (hr : Room j X.A) (hj : k + 2 ≤ j) (hm : X.mg "sorted" = none) (ha : QO X xc R W e te da) (hg : Gl X "sorted" := by rfl) (hgk : Gl X kx := by rfl) (hdk : (kx == ("__debug__" : Str)) = false := by decide)
    (he : backTo pos (starEach [e] X.env) = (false, eval e X.env) :: backTo pos (starEach [] X.env) := by rfl) (hse : starEach [e] X.env = (false, eval e X.env) :: starEach [] X.env := by rfl) (hpl : (backTo pos (starEach [e] X.env)).any (·.1) = false := by rfl)
    (hall : (backToKw pos (keywordEach [⟨some "key", .Name kx p2, kp⟩] X.env)).all (·.1.isSome) = true := by rfl) (hnone : (backToKw pos (keywordEach [⟨some "key", .Name kx p2, kp⟩] X.env)).any (·.1.isNone) = false := by rfl) (hks : (backToKw pos (keywordEach [⟨some "key", .Name kx p2, kp⟩] X.env)).filterMap (·.1) = [Str.ofString "key"] := by rfl) :
    QF X xc R W (.Call (.Name "sorted" p) [e] [⟨some "key", .Name kx p2, kp⟩] pos) (tSortKG X.K X.mg kx sp te) (dUnO (oSortK sp) da) := by
  obtain ⟨q, c⟩ := c
  exact ⟨fun k => PE.imp (pe_sortK c hr hj hm (ha.pe k) hg hgk hdk he hse hpl hall hnone hks) fun σ H Q z => z q c.at_, simf_sortKG c.at_ c.mono ha.sim⟩
end
/-! unfolded -/
section
variable {S : Type} [Pk S] {s : S} {ρ : En} {Q : D → S → En → Prop} {E : EK S} {xs ys : List D} {x y : D} {a b z : Str} {q : Kn (D → Prop)} {ki : Kn (Int → Prop)}
@[simp ↓] theorem x_tix {ts : List Str} {dx : DX S} : dTix ts dx s ρ Q E = dx s ρ (fun x s ρ => c1 (tix ts) x (q := ⟨fun j => Q (.int j) s ρ⟩)) E := rfl
@[simp] theorem v_tix {ts : List Str} : c1 (tix ts) (.str z) (q := ki) = (∃ j, ts.findIdx? (fun y => decide (y = z)) = some j ∧ ki.k (j : Nat)) := rfl
@[simp] theorem v_index : c2 mIndex (.lst xs) [.d y] (q := q) = (D.fit 64 y = true ∧ D.fitL 63 xs = true ∧ ∃ j, xs.findIdx? (fun z => z.eqv y) = some j ∧ q.k (.int (j : Nat))) := rfl
@[simp] theorem v_part : c2 mPart (.str a) [.d (.str b)] (q := q) = ((b.length == 0) = false ∧ q.k (.tup [.str (Txt.partition a b).1, .str (Txt.partition a b).2.1, .str (Txt.partition a b).2.2])) := rfl
@[simp] theorem v_split : c2 mSplit (.str a) [.d (.str b)] (q := q) = ((b.length == 0) = false ∧ a.length + 2 ≤ 16777216 ∧ q.k (.lst ((Txt.split a b).map D.str))) := rfl
@[simp] theorem v_isLst : isLst (.lst xs) = True := rfl
/-- a number, shown -/
def numTxt (i : Int) : Str := Str.ofString (toString i)
@[simp] theorem v_str {i : Int} : c1 oStr (.int i) (q := q) = (i.natAbs.log2 < 1920 ∧ OkS (numTxt i) ∧ q.k (.str (numTxt i))) := rfl
@[simp] theorem v_repr : c1 oRepr x (q := q) = (D.fit 32 x = true ∧ D.sml x = true ∧ x.py.weight ≤ 2 ^ 20 ∧ q.k (.str (rep x))) := rfl
@[simp] theorem v_sortS : c1 oSortS (.lst xs) (q := q) = (∃ ss : List Str, xs = ss.map D.str ∧ ss.length < 64 ∧ ∀ ys : List Str, ys.Perm ss → sortedS ys = true → q.k (.lst (ys.map D.str))) := rfl
@[simp] theorem v_sortK {sp : DSp Unit} : c1 (oSortK sp) (.lst xs) (q := q) = (∃ ys, KeysD sp xs ys ∧ SQ.Coh (ys.map D.py) ∧ q.k (.lst (sortKD xs ys))) := rfl
theorem v_inS {n : Bool} {c : Nat} : c2 (oIn n) (.str ⟨#[c]⟩) (.str b) (q := q) = (∃ d, (⟨#[c]⟩ : Str) = ⟨#[d]⟩ ∧ q.k (.bl (ng n (decide (d ∈ b.cps.toList))))) := rfl
/-- a sign is in a text -/
def memS (c : Nat) (b : Str) : Bool := decide (c ∈ b.cps.toList)
@[simp] theorem v_inS' {n : Bool} {c : Nat} : c2 (oIn n) (.str ⟨#[c]⟩) (.str b) (q := q) = q.k (.bl (ng n (memS c b))) := by
  rw [v_inS]
  unfold memS
  refine propext ⟨fun ⟨d, e, h⟩ => ?_, fun h => ⟨c, rfl, h⟩⟩
  have : c = d := by injection e with e; injection e with e; injection e
  subst this; exact h
@[simp] theorem v_ord' {n : Nat} : c1 oOrd (.str ⟨#[n]⟩) (q := q) = q.k (.int (n : Nat)) := by
  show (∃ c, (⟨#[n]⟩ : Str) = ⟨#[c]⟩ ∧ q.k (.int (c : Nat))) = _
  refine propext ⟨fun ⟨d, e, h⟩ => ?_, fun h => ⟨n, rfl, h⟩⟩
  have : n = d := by injection e with e; injection e with e; injection e
  subst this; exact h
theorem ltS_one {c d : Nat} : ltS ⟨#[c]⟩ ⟨#[d]⟩ = decide (c < d) := by
  show decide ([c] < [d]) = _
  refine decide_eq_decide.mpr ?_
  constructor
  · intro h
    cases h with
    | rel h => exact h
    | cons h => cases h
  · exact fun h => .rel h
end
end DL

set_option linter.all false
set_option maxRecDepth 100000
set_option maxHeartbeats 2000000
/-! draws, signs, places -/
namespace DL
open PySem PySem.Spec PyProof.Rows L2 GR N01 RZ
theorem drawE {m : Int} (hm : 0 < m) {q : Kn (D → Unit → Prop)} {e : Kn (Exc → Unit → Prop)} (h : ∀ n : Int, 0 ≤ n → n < m → q.k (.int n) ()) : callI spDrw [.box, .d (.int m)] () (q := q) (e := e) :=
  ⟨m, rfl, hm, fun x ⟨n, e, n0, n1⟩ => by subst e; exact h n n0 n1, fun _ z => z.elim⟩
@[simp] theorem atI_0 {α : Type} {x : α} {xs : List α} : atI (x :: xs) 0 = some x := by
  rw [atI_int (by decide) (by simp <;> omega)]; rfl
@[simp] theorem atI_1 {α : Type} {x y : α} {xs : List α} : atI (x :: y :: xs) 1 = some y := by
  rw [atI_int (by decide) (by simp <;> omega)]; rfl
@[simp] theorem atI_2 {α : Type} {x y z : α} {xs : List α} : atI (x :: y :: z :: xs) 2 = some z := by
  rw [atI_int (by decide) (by simp <;> omega)]; rfl
@[simp] theorem atI_3 {α : Type} {x y z w : α} {xs : List α} : atI (x :: y :: z :: w :: xs) 3 = some w := by
  rw [atI_int (by decide) (by simp <;> omega)]; rfl
@[simp] theorem atI_4 {α : Type} {x y z w v : α} {xs : List α} : atI (x :: y :: z :: w :: v :: xs) 4 = some v := by
  rw [atI_int (by decide) (by simp <;> omega)]; rfl
@[simp] theorem atI_map {α β : Type} {f : α → β} {xs : List α} {i : Int} : atI (xs.map f) i = (atI xs i).map f := by
  unfold atI
  rw [List.length_map]
  cases ixN xs.length i with
  | none => rfl
  | some j => show (xs.map f)[j]? = (xs[j]?).map f; rw [List.getElem?_map]
theorem atI_some {α : Type} {xs : List α} {i : Int} (h0 : 0 ≤ i) (h1 : i < xs.length) : ∃ x, atI xs i = some x ∧ x ∈ xs := by
  rw [atI_int h0 h1]
  have hl : i.toNat < xs.length := by omega
  exact ⟨_, List.getElem?_eq_getElem hl, List.getElem_mem hl⟩
/-! over the signs of a text -/
def chF (f : Nat → D) : D → D
  | .str a => f (a.cps.toList.getD 0 0)
  | d => d
theorem chars_chF {f : Nat → D} {t : Str} : (charsD t).map (chF f) = t.cps.toList.map f := by
  unfold charsD
  rw [List.map_map]
  exact List.map_congr_left fun c _ => rfl
theorem bools_nat {α : Type} {l : List α} {f : α → Bool} : boolsD (l.map fun c => .bl (f c)) = some (l.map f) := by
  induction l with
  | nil => rfl
  | cons x xs ih => rw [List.map_cons, boolsD, ih]; rfl
theorem chars_get {t : Str} {i : Nat} {x : D} (h : (charsD t)[i]? = some x) : ∃ c, t.cps.toList[i]? = some c ∧ x = .str ⟨#[c]⟩ := by
  unfold charsD at h
  rw [List.getElem?_map, Option.map_eq_some_iff] at h
  obtain ⟨c, h1, h2⟩ := h
  exact ⟨c, h1, h2.symm⟩
theorem chars_mem {t : Str} {x : D} (h : x ∈ charsD t) : ∃ c ∈ t.cps.toList, x = .str ⟨#[c]⟩ := by
  unfold charsD at h
  obtain ⟨c, h1, h2⟩ := List.mem_map.mp h
  exact ⟨c, h1, h2.symm⟩
@[simp] theorem len_toList {t : Str} : t.cps.toList.length = t.length := by unfold Str.length; simp
theorem app_toList {a b : Str} : (a ++ b).cps.toList = a.cps.toList ++ b.cps.toList := Array.toList_append
@[simp] theorem app_len {a b : Str} : (a ++ b).length = a.length + b.length := strLen_append ..
@[simp] theorem one_len {c : Nat} : (⟨#[c]⟩ : Str).length = 1 := rfl
theorem colon_len : (Str.ofString ":").length = 1 := by decide +kernel
/-- a loop that may answer early: each turn either goes on or is done -/
theorem all_take {α : Type} {l : List α} {f : α → Bool} {i : Nat} {x : α} (h : l[i]? = some x) (h1 : (l.take i).all f = true) (h2 : f x = true) : (l.take (i + 1)).all f = true := by
  rw [List.take_succ, h, List.all_append, h1]; simp [h2]
theorem all_bad {α : Type} {l : List α} {f : α → Bool} {i : Nat} {x : α} (h : l[i]? = some x) (h2 : f x = false) : l.all f = false := by
  rw [List.all_eq_false]
  exact ⟨x, List.mem_of_getElem? h, by rw [h2]; decide⟩
/-- the truth of a sum of two -/
theorem find_lit {xs : List Str} {z : Str} {j : Nat} (h : xs.findIdx? (fun y => decide (y = z)) = some j) : (xs.map D.str).findIdx? (fun w => w.eqv (.str z)) = some j := by
  rw [List.findIdx?_map]
  have : ((fun w : D => w.eqv (.str z)) ∘ D.str) = fun y => decide (y = z) := by
    funext y
    exact eqv_ss
  rw [this]; exact h
end DL

set_option linter.all false
set_option maxRecDepth 100000
set_option maxHeartbeats 2000000
/-! comprehensions and loops over what a list of data stands for -/
namespace DL
open PySem PySem.Spec PyProof.Rows L2 GR N01 RZ
section
variable {S : Type} [Pk S] {α : Type}
theorem turns_mapE {g : DG} {de : DX S} {vs : List Nat} {Q : List D → S → En → Prop} {s : S} {ρ : En} (e f : α → D) :
    ∀ (l : List α) (acc : List D), (∀ a ∈ l, ∀ P : D → S → En → Prop, (∀ ρ', wipeD ρ' vs = ρ → P (f a) s ρ') → g (e a) ρ fun ρ' => de s ρ' P fun _ _ _ => False) → Q (acc ++ l.map f) s ρ → dTurns g dYes de vs Q (l.map e) acc s ρ
  | [], acc, _, q => by rw [List.map_nil, List.append_nil] at q; exact q
  | x :: xs, acc, h, q => by
    refine h x List.mem_cons_self (fun y s ρ' => dTurns g dYes de vs Q (xs.map e) (acc ++ [y]) s (wipeD ρ' vs)) fun ρ' er => ?_
    rw [er]
    exact turns_mapE e f xs _ (fun y hy => h y (List.mem_cons_of_mem _ hy)) (by rw [List.append_assoc]; exact q)
/-- .. with a condition -/
theorem turns_filE {g : DG} {dt : DT S} {de : DX S} {vs : List Nat} {Q : List D → S → En → Prop} {s : S} {ρ : En} (e f : α → D) (p : α → Bool) :
    ∀ (l : List α) (acc : List D), (∀ a ∈ l, ∀ (P : D → S → En → Prop) (N : S → En → Prop), (p a = true → ∀ ρ', wipeD ρ' vs = ρ → P (f a) s ρ') → (p a = false → ∀ ρ', wipeD ρ' vs = ρ → N s ρ') →
      g (e a) ρ fun ρ' => dt s ρ' (fun b s ρ' => if b = true then de s ρ' P (fun _ _ _ => False) else N s ρ') fun _ _ _ => False) → Q (acc ++ (l.filter p).map f) s ρ → dTurns g dt de vs Q (l.map e) acc s ρ
  | [], acc, _, q => by rw [List.filter_nil, List.map_nil, List.append_nil] at q; exact q
  | x :: xs, acc, h, q => by
    refine h x List.mem_cons_self (fun y s' ρ' => dTurns g dt de vs Q (xs.map e) (acc ++ [y]) s' (wipeD ρ' vs)) (fun s' ρ' => dTurns g dt de vs Q (xs.map e) acc s' (wipeD ρ' vs)) (fun hp ρ' er => ?_) (fun hp ρ' er => ?_)
    · rw [er]
      exact turns_filE e f p xs _ (fun y hy => h y (List.mem_cons_of_mem _ hy)) (by rw [List.append_assoc]; rw [List.filter_cons_of_pos hp] at q; exact q)
    · rw [er]
      exact turns_filE e f p xs _ (fun y hy => h y (List.mem_cons_of_mem _ hy)) (by rw [List.filter_cons_of_neg (by rw [hp]; decide)] at q; exact q)
/-- a loop over a list of data, by what holds before each turn -/
theorem loop_invE {g : DG} {tb : DS S} {DE : DEnds S} (e : α → D) (I : Nat → S → En → Prop) (l : List α) (s : S) (ρ : En) (h0 : I 0 s ρ)
    (hs : ∀ i a s ρ (P : S → En → Prop), l[i]? = some a → (∀ s ρ, I (i + 1) s ρ → P s ρ) → I i s ρ → g (e a) ρ fun ρ => tb { DE with nx := P, ct := P, bk := DE.nx } s ρ) (he : ∀ s ρ, I l.length s ρ → DE.nx s ρ) : dLoop g tb (l.map e) DE s ρ := by
  refine loop_inv I (l.map e) 0 s ρ h0 (fun i x s ρ P hx hP hI => ?_) fun s ρ z => he s ρ (by rw [List.length_map, Nat.zero_add] at z; exact z)
  rw [List.getElem?_map, Option.map_eq_some_iff] at hx
  obtain ⟨a, ha, rfl⟩ := hx
  exact hs i a s ρ P ha (fun s ρ z => hP s ρ (by rw [Nat.zero_add]; exact z)) (by rw [Nat.zero_add] at hI; exact hI)
end
end DL

set_option linter.all false
set_option maxRecDepth 100000
set_option maxHeartbeats 2000000
/-! dicts with texts as keys, of one name's own; tuple(d), list(d) -/
namespace DL
open PySem PySem.Spec PyProof.Rows L2 GR N01 RZ
section
variable {prog : Program} {w : World} {A : Around} {E : Value → Shared → Prop} {s : Shared} {T : String} {r d : Addr} {n : Nat} {P : Nat → Value → Prop} {OK : Heap → Prop}
theorem code_tuple_new_src {Q₁ : Value → Shared → Prop} (KS : PySem.W.KdlSrc prog w T r d n P OK) (hh : A.handled = none) (hok : OK s.heap) (hn : n ≤ sizeLine)
    (h : ∀ (h' : Heap) (tk : Nat) (acc : Array Value), (∀ b o, s.heap.get? b = some o → h'.get? b = some o) → ItemsOf P acc n →
      Q₁ (.ref h'.objs.size) { s with heap := h'.push { cls := .type "tuple", data := .seq acc }, toks := tk }) :
    codeAny (model prog w) A (.call (.builtin "tuple.__new__") ⟨[.type "tuple", .ref r], []⟩) (wants Q₁ E) s := by
  refine codeAny_of_tree ?_
  show wpAny _ A.in1 (do checkBuiltinCall "tuple.__new__" ⟨[.type "tuple", .ref r], []⟩; again (.builtin "tuple.__new__" ⟨[.type "tuple", .ref r], []⟩)) _ _ s
  refine wpAny_bind (wpAny_of_eq (F.newCall_tuple_1 _) (wpAny_pure ⟨plainId_quiet F.plain_tuple_new _, codeAny_builtin F.entry_tuple_new ?_⟩))
  rw [Around.under_plainId F.plain_tuple_new _]
  have hsub := sub_tuple_self
  have hinit := init_tuple_lookup
  have hmh := madeHere_tuple
  have hTI : s.TypeIs (.ref r) T := KS.type _ hok
  have hnt := KS.notTuple
  have hh1 : A.in1.handled = none := hh
  wp_walk using wpAny_typeOf hTI, PySem.W.kdu_collect (A := A.in1) KS hh1 hok hn
  intro h' tk acc hk hacc
  show wpAny _ _ (Builtin.Tuple.tupleExact acc.toList.toArray >>= fun v => ret v) _ _ _
  unfold Builtin.Tuple.tupleExact
  refine wpAny_bind (wpAny_newObj_type ?_ (by show acc.toList.toArray.size ≤ sizeLine; simp only [Array.toArray_toList]; rw [hacc.1]; exact hn))
  refine wpAny_pure ?_
  have e : acc.toList.toArray = acc := by simp
  rw [e]
  exact h h' tk acc hk hacc
theorem call_tuple_src {Q : Value → Shared → Prop} (KS : PySem.W.KdlSrc prog w T r d n P OK) (hh : A.handled = none) (hok : OK s.heap) (hn : n ≤ sizeLine)
    (hQ : ∀ (h' : Heap) (tk : Nat) (acc : Array Value), (∀ b o, s.heap.get? b = some o → h'.get? b = some o) → ItemsOf P acc n →
      Q (.ref h'.objs.size) { s with heap := h'.push { cls := .type "tuple", data := .seq acc }, toks := tk }) :
    wpAny (model prog w) A (call (.type "tuple") [.ref r]) Q E s := by
  refine callType_codes (Q₁ := fun obj s₁ => s₁.TypeIs obj "tuple" ∧ Q obj s₁) F.called_tuple (F.typeCall_tuple_1 _) F.entry_object_init
    (code_tuple_new_src (A := A.in1) KS hh hok hn fun h' tk acc hk hacc => ⟨⟨_, Heap.get?_push_size _ rfl, rfl⟩, hQ h' tk acc hk hacc⟩) fun obj s₁ h₁ => ?_
  exact ⟨h₁.1, F.args_object_init_2 obj _, object_init_meets F.called_tuple.init.lookup F.called_tuple.made (by decide) prog w A.in1 _ s₁ ⟨h₁.1, rfl, h₁.2⟩⟩
end
def rTupD : List V → Hp → VK → Prop := fun xs H Q => ∃ p kvs, xs = [.ref p] ∧ H p = some (.dK kvs) ∧ ∀ q, H q = none → Q (.ref q) (upd H q (.tup (kvs.map fun kv => kV kv.1)))
theorem keys_vals {kvs : List (Key × V)} {vs : List (Key × Value)} {acc : Array Value} {P : Program} {w : World} (rk : KV kvs vs) (hacc : ItemsOf (fun i v => ∃ k x, vs[i]? = some (k, x) ∧ (mixKind P w).is k v = true) acc vs.length) : Vals (kvs.map fun kv => kV kv.1) acc.toList := by
  have hl : kvs.length = vs.length := Paired.length rk
  have el : acc.toList.length = acc.size := by simp
  refine vals_of_at (by rw [List.length_map, el, hacc.1, hl]) fun j x w h1 h2 => ?_
  obtain ⟨k, y, hky, hi⟩ := hacc.2 j w (by rw [← Array.getElem?_toList]; exact h2)
  have e1 : (kvs.map (·.1))[j]? = some k := by
    rw [KV.keys rk, List.getElem?_map, hky] <;> rfl
  have e2 : (kvs.map fun kv => kV kv.1)[j]? = some (kV k) := by
    have e3 : (kvs.map fun kv => kV kv.1) = (kvs.map (·.1)).map kV := by rw [List.map_map] <;> rfl
    rw [e3, List.getElem?_map, e1] <;> rfl
  rw [e2] at h1
  cases h1
  exact keyIs_rel hi
theorem call_tuple_dK {X : Cx} (hc : X.calm = true) : CallR X (.type "tuple") rTupD := by
  intro pins s σ H xs us Q I r h
  obtain ⟨p, kvs, e, hk, q⟩ := h
  subst e
  obtain ⟨u, eu, rx⟩ := vals1 r
  subst eu
  obtain rfl : u = Value.ref p := rx
  obtain ⟨z, lo, vs, rk, hd⟩ := (show ObjOk X.prog X.w H s.heap p (.dK kvs) from I.hok p _ hk)
  obtain ⟨ep, hat⟩ := hd.dictAt
  have hl : kvs.length = vs.length := Paired.length rk
  refine call_tuple_src (PySem.W.kdl_dict (knd := mixKind X.prog X.w) (kvs := vs) (ep := ep) lo) (I.ok.hd hc) hat (by rw [← hl]; exact z) fun h' tk acc hkeep hacc => ?_
  have I1 : Inv X pins σ H { s with heap := h', toks := tk } := I.kept hkeep
  refine ⟨.ref h'.objs.size, upd H h'.objs.size (.tup (kvs.map fun kv => kV kv.1)), I1.laid (t' := tk) (fun b o e => Heap.get?_push_of_some _ e) (Nat.le_refl _) (show ObjOk X.prog X.w _ _ _ (.tup _) from ⟨?_, acc.toList, keys_vals rk hacc, ?_⟩), rfl, q _ (I1.hok.fresh (Nat.le_refl _))⟩
  · rw [List.length_map]; exact z
  · rw [Array.toArray_toList]; exact IsTup.new _ _
section
variable {S : Type} [Pk S] {K : PySem.W.Frag} {mg : Str → Option Value} {xc : XC} {R : Reg S} [RegS K mg R] {W : WX}
/-! what a dict's keys are -/
theorem keys_v {kvs : List (Key × V)} {ks : List Str} (h : kvs.map (·.1) = ks.map Sum.inr) : (kvs.map fun kv => kV kv.1) = ks.map V.str := by
  have e3 : (kvs.map fun kv => kV kv.1) = (kvs.map (·.1)).map kV := by rw [List.map_map]; rfl
  rw [e3, h, List.map_map]; rfl
theorem keys_has {F : Hp} : ∀ {ks : List Str}, (∀ k ∈ ks, OkS k) → HasL K mg F (ks.map V.str) (ks.map D.str)
  | [], _ => .nil
  | k :: ks, h => .cons (.str k (h k List.mem_cons_self)) (keys_has fun x hx => h x (List.mem_cons_of_mem _ hx))
def oTupD : DO1 := fun x Q => match x with
  | .dct ks _ => Q (.tup (ks.map D.str))
  | _ => False
theorem sim_tupD : SimH1 K mg (r1 rTupD) oTupD where
  mono := fun {x Q Q'} h z => by
    unfold oTupD at z ⊢
    split at z <;> first | exact h _ z | exact z.elim
  run := fun {F H x dx Q} e hx q => by
    unfold oTupD at q
    split at q
    · rename_i ks xs
      obtain ⟨p, kvs, rfl, h1, h2, _⟩ := hs_dct e hx
      refine ⟨p, kvs, rfl, h1, fun l hl => ?_⟩
      rw [keys_v h2.1]
      have t := PStep.new (o := .tup (ks.map V.str)) e hl
      exact q _ _ _ t (.tup (.inl (.inl upd_same)) (keys_has h2.2))
    · exact q.elim
/-! a new, empty dict -/
def dDct : DX S := fun s ρ Q _ => Q (.dct [] []) s ρ
theorem simf_dct : SimF (S := S) K mg xc R W tDNewK dDct where
  mono := fun h _ z => h _ _ _ z
  run := fun G w q => fun p hp => by
    obtain ⟨G2, fp, fr⟩ := G.born (.dK []) hp
    exact q p _ _ _ G2 (Same.refl _) fp ⟨[], upd_same, ⟨rfl, fun _ h => nomatch h⟩, .nil⟩ fr
/-! d[k] = x -/
def ownD (i : Nat) (ρ : En) (k : List Str → List D → Prop) : Prop := match ρ[i]? with
  | some (some (.own (.dct ks xs))) => k ks xs
  | _ => False
theorem ownD_mono {i : Nat} {ρ : En} {k k' : List Str → List D → Prop} (h : ∀ ks xs, k ks xs → k' ks xs) (z : ownD i ρ k) : ownD i ρ k' := by
  unfold ownD at z ⊢
  split at z
  · exact h _ _ z
  · exact z.elim
theorem ownD_at {i : Nat} {ρ : En} {k : List Str → List D → Prop} (z : ownD i ρ k) : ∃ ks xs, ρ[i]? = some (some (.own (.dct ks xs))) ∧ k ks xs := by
  unfold ownD at z
  split at z
  · rename_i ks xs e; exact ⟨ks, xs, e, z⟩
  · exact z.elim
theorem ownD_there {i : Nat} {r : Addr} {B : Bs} {ft : Addr → Prop} {F H : Hp} {σ : L2.St} {ρ : En} {s : S} {ks : List Str} {xs : List D} (G : Gd K mg xc R r B ft F H σ ρ s) (e : ρ[i]? = some (some (.own (.dct ks xs)))) :
    ∃ p kvs, σ[i]? = some (some (.ref p)) ∧ F p = none ∧ H p = some (.dK kvs) ∧ KsOk kvs ks ∧ HasL K mg F (kvs.map (·.2)) xs := by
  obtain ⟨v, g1, p', e', fp, kvs, hz, hk, hzs⟩ := G.sl i _ e
  subst e'
  exact ⟨p', kvs, g1, fp, hz, hk, hzs⟩
def isS : D → (Str → Prop) → Prop
  | .str k, q => q k
  | _, _ => False
theorem isS_mono {x : D} {k k' : Str → Prop} (h : ∀ i, k i → k' i) (z : isS x k) : isS x k' := by
  cases x <;> first | exact h _ z | exact (show False from z).elim
theorem isS_of {x : D} {k : Str → Prop} (z : isS x k) : ∃ t, x = .str t ∧ k t := by
  cases x <;> first | exact ⟨_, rfl, z⟩ | exact (show False from z).elim
def putD (ks : List Str) (xs : List D) (k : Str) (x : D) : D := if k ∈ ks then .dct ks ((ks.zip xs).map fun p => if p.1 = k then x else p.2) else .dct (ks ++ [k]) (xs ++ [x])
theorem inr_iff {a b : Str} : (Sum.inr a : Key) = Sum.inr b ↔ a = b := ⟨fun e => by cases e; rfl, fun e => by rw [e]⟩
theorem put_any : ∀ {kvs : List (Key × V)} {ks : List Str} {k : Str}, kvs.map (·.1) = ks.map Sum.inr → (kvs.any fun kv => decide (kv.1 = Sum.inr k)) = decide (k ∈ ks)
  | [], [], k, _ => by simp
  | [], _ :: _, _, h => by cases h
  | _ :: _, [], _, h => by cases h
  | p :: kvs, a :: ks, k, h => by
    rw [List.map_cons, List.map_cons] at h
    injection h with h1 h2
    rw [List.any_cons, put_any h2, h1]
    by_cases e : a = k
    · subst e; simp
    · have e' : ¬ k = a := fun z => e z.symm
      simp [inr_iff, e, e']
theorem put_keys {k : Key} {u : V} : ∀ {kvs : List (Key × V)}, (kvs.map fun kv => if kv.1 = k then (kv.1, u) else kv).map (·.1) = kvs.map (·.1)
  | [] => rfl
  | p :: kvs => by
    rw [List.map_cons, List.map_cons, List.map_cons, put_keys]
    split <;> rfl
theorem put_vals {F : Hp} {k : Str} {u : V} {x : D} (hu : Has K mg F u x) : ∀ {kvs : List (Key × V)} {ks : List Str} {xs : List D}, kvs.map (·.1) = ks.map Sum.inr → HasL K mg F (kvs.map (·.2)) xs →
    HasL K mg F ((kvs.map fun kv => if kv.1 = Sum.inr k then (kv.1, u) else kv).map (·.2)) ((ks.zip xs).map fun p => if p.1 = k then x else p.2)
  | [], [], [], _, _ => .nil
  | [], _ :: _, _, h, _ => by cases h
  | _ :: _, [], _, h, _ => by cases h
  | [], [], _ :: _, _, h => by cases h
  | p :: kvs, a :: ks, xs, h, hv => by
    rw [List.map_cons, List.map_cons] at h
    injection h with h1 h2
    rw [List.map_cons] at hv
    cases hv with
    | @cons _ y _ ys h3 h4 =>
    rw [List.map_cons, List.map_cons, List.zip_cons_cons, List.map_cons]
    refine .cons ?_ (put_vals hu h2 h4)
    rw [h1]
    by_cases e : a = k
    · rw [if_pos (inr_iff.mpr e), if_pos e]; exact hu
    · rw [if_neg (fun z => e (inr_iff.mp z)), if_neg e]; exact h3
theorem hasL_app {F : Hp} : ∀ {vs ws : List V} {xs ys : List D}, HasL K mg F vs xs → HasL K mg F ws ys → HasL K mg F (vs ++ ws) (xs ++ ys)
  | _, _, _, _, .nil, h => h
  | _, _, _, _, .cons a t, h => .cons a (hasL_app t h)
theorem put_own {F H : Hp} {p : Addr} {kvs : List (Key × V)} {ks : List Str} {xs : List D} {k : Str} {u : V} {x : D} (hk : KsOk kvs ks) (hv : HasL K mg F (kvs.map (·.2)) xs) (hu : Has K mg F u x) (ok : OkS k) :
    OwnHas K mg F (upd H p (.dK (putK kvs (Sum.inr k) u))) p (putD ks xs k x) := by
  unfold putD putK
  rw [put_any hk.1]
  by_cases e : k ∈ ks
  · rw [if_pos e, if_pos (decide_eq_true e)]
    exact ⟨_, upd_same, ⟨put_keys.trans hk.1, hk.2⟩, put_vals hu hk.1 hv⟩
  · rw [if_neg e, if_neg (by simpa using e)]
    refine ⟨_, upd_same, ⟨by rw [List.map_append, hk.1, List.map_append]; rfl, fun z hz => ?_⟩, by rw [List.map_append]; exact hasL_app hv (.cons hu .nil)⟩
    rcases List.mem_append.mp hz with hz | hz
    · exact hk.2 z hz
    · rw [List.mem_singleton.mp hz]; exact ok
def dDPut (i : Nat) (dk dx : DX S) : DS S := fun DE s ρ => dx s ρ (fun x s ρ => ownD i ρ fun _ _ => dk s ρ (fun y s ρ => isS y fun k => ownD i ρ fun ks xs => ks.length < 16777216 ∧ DE.nx s (ρ.set i (some (.own (putD ks xs k x))))) DE.ex) DE.ex
theorem sims_dput {i : Nat} {tk te : TE} {dk dx : DX S} (hk : SimE K mg xc R W tk dk) (hx : SimE K mg xc R W te dx) : SimS K mg xc R W (sDPut (tVar i) tk te) (dDPut i dk dx) where
  mono := fun h z => hx.mono (fun y s ρ z => ownD_mono (fun _ _ z => hk.mono (fun y s ρ z => isS_mono (fun k z => ownD_mono (fun ks xs z => ⟨z.1, h.nx _ _ z.2⟩) z) z) h.ex z) z) h.ex z
  run := fun {r B ft F H σ ρ s Dn DE} G w q => by
    refine hx.run G (w.ex _) (hx.mono (fun y s1 ρ1 z u ft1 F1 H1 G1 e1 a1 => ?_) (fun _ _ _ z => z) q)
    obtain ⟨ks0, xs0, e0, z⟩ := ownD_at z
    obtain ⟨p, kvs0, h1, _, h2, _⟩ := ownD_there G1 e0
    refine ⟨_, h1, ?_⟩
    refine hk.run G1 (w.ex _) (hk.mono (fun yj s2 ρ2 z uj ft2 F2 H2 G2 e2 a2 => ?_) (fun _ _ _ z => z) z)
    obtain ⟨k, rfl, z⟩ := isS_of z
    obtain ⟨rfl, ok⟩ := has_str a2
    obtain ⟨ks, xs, e, hl, z⟩ := ownD_at z
    obtain ⟨p', kvs, g1, fp, hz, hks, hzs⟩ := ownD_there G2 e
    rw [h1] at g1
    cases g1
    have hn : kvs.length < sizeLine := by
      have : kvs.length = ks.length := by simpa using congrArg List.length hks.1
      rw [this, sizeLine_eq]; exact hl
    refine ⟨_, _, rfl, DPut.k (k := Sum.inr k) hz hn, ?_⟩
    exact w.nx _ _ _ _ _ _ (G2.mut (y := putD ks xs k y) h1 e (put_own hks hzs (a1.mono e2) ok)) z
end
section
variable {S : Type} [Pk S] {X : Cx} {xc : XC} {R : Reg S} [RegS X.K X.mg R] {W : WX} {e a b : Expr} {te ta tb : TE} {dx dy : DX S} {da : DOp S} {pos p px ps : Pos}
theorem qdct : QF X xc R W (.Dict [] [] pos) tDNewK dDct := ⟨fun _ => pe_dnewK, simf_dct⟩
theorem qtupD {to : TE} (hm : X.mg "tuple" = none) (ha : QO X xc R W e to da) (hc : X.calm = true := by rfl) (hg : Gl X "tuple" := by rfl) (he : starEach [e] X.env = (false, eval e X.env) :: starEach [] X.env := by rfl) (hpl : (backTo pos (starEach [] X.env)).any (·.1) = false := by rfl) :
    QE X xc R W (.Call (.Name "tuple" p) [e] [] pos) (tCB rTupD (tCons to tNil)) (dUnO oTupD da) := qty (call_tuple_dK hc) sim_tupD hm (by decide +kernel) ha hg (by decide) (by decide) he hpl
theorem sdput (i : Nat) {x : Str} (hu : X.A.units + 1 < cLine) (hj : QE X xc R W b tb dy) (h : QE X xc R W e te dx) (hN : X.N[i]? = some x := by rfl) (hv : Vis X.env.scope x := by first | exact Or.inl rfl | exact Or.inr (Or.inl rfl) | exact Or.inr (Or.inr rfl)) (hd : (x == ("__debug__" : Str)) = false := by decide)
    (hcd : (x == ("__classdict__" : Str)) = false := by decide) (hs : swapsWith e (some (.Subscript (.Name x px) b ps)) pos.line X.env = pure false := by rfl) :
    QS X xc R W (.Assign [.Subscript (.Name x px) b ps] e pos) (sDPut (tVar i) tb te) (dDPut i dy dx) := ⟨fun k => ps_dput hu (pe_var hN hv hd hcd) (hj.pe k) (h.pe k) hs, sims_dput hj.sim h.sim⟩
/-! readings -/
def oDI (i : Nat) (ρ : En) [q : Kn (List Str → List D → Prop)] : Prop := ownD i ρ q.k
variable {s : S} {ρ : En} {i : Nat} {Q : D → S → En → Prop} {E : EK S} {DE : DEnds S} {ks : List Str} {xs : List D} {c : Option C} {ql : Kn (List Str → List D → Prop)} {qs : Kn (Str → Prop)} {qd : Kn (D → Prop)} {t : Str}
@[simp ↓] theorem x_dct : (dDct : DX S) s ρ Q E = Q (.dct [] []) s ρ := rfl
@[simp ↓] theorem x_dput {dj dx : DX S} : dDPut i dj dx DE s ρ = dx s ρ (fun x s ρ => oDI i ρ (q := ⟨fun _ _ => dj s ρ (fun y s ρ => c1 isS y (q := ⟨fun k => oDI i ρ (q := ⟨fun ks xs => ks.length < 16777216 ∧ DE.nx s (ρ.set i (some (.own (putD ks xs k x))))⟩)⟩)) DE.ex⟩)) DE.ex := rfl
@[simp ↓] theorem x_d0 : oDI 0 (some (.own (.dct ks xs)) :: ρ) (q := ql) = ql.k ks xs := rfl
@[simp ↓] theorem x_dSS : oDI (i + 1) (c :: ρ) (q := ql) = oDI i ρ (q := ql) := rfl
@[simp] theorem y_d0 : oDI 0 (some (.own (.dct ks xs)) :: ρ) (q := ql) = ql.k ks xs := rfl
@[simp] theorem y_dSS : oDI (i + 1) (c :: ρ) (q := ql) = oDI i ρ (q := ql) := rfl
@[simp ↓] theorem v_isS : c1 isS (.str t) (q := qs) = qs.k t := rfl
@[simp] theorem v_isS_ : c1 isS (.str t) (q := qs) = qs.k t := rfl
@[simp ↓] theorem v_tupD : c1 oTupD (.dct ks xs) (q := qd) = qd.k (.tup (ks.map D.str)) := rfl
@[simp] theorem v_tupD_ : c1 oTupD (.dct ks xs) (q := qd) = qd.k (.tup (ks.map D.str)) := rfl
end
end DL
namespace DL
theorem hu_of {k : Nat} {A : PySem.Around} (r : L2.Room k A) : A.units + 1 < PySem.cLine := by
  have := r.un
  omega
end DL

set_option linter.all false
set_option maxRecDepth 100000
set_option maxHeartbeats 2000000
/-! a list of one's own, lent to a callee that gives back data without lists -/
namespace DL
open PySem PySem.Spec PyProof.Rows L2 GR N01 RZ
mutual
def D.noL : D → Bool
  | .lst _ => false | .dct _ _ => false | .obj _ _ _ => false | .hdl _ => false | .dtt _ _ => false | .tup xs => D.noLL xs | .tpd xs => D.noLL xs
  | .non => true | .bl _ => true | .int _ => true | .str _ => true
def D.noLL : List D → Bool
  | [] => true
  | x :: xs => D.noL x && D.noLL xs
end
def without (F : Hp) (p : Addr) : Hp := fun a => if a = p then none else F a
theorem without_ne {F : Hp} {p a : Addr} (h : a ≠ p) : without F p a = F a := if_neg h
section
variable {K : PySem.W.Frag} {mg : Str → Option Value} {F : Hp} {p : Addr} {zs : List V}
theorem sqT_less {a : Addr} {xs : List V} (hp : F p = some (.lst zs)) (h : SqT K F a xs) : SqT K (without F p) a xs := by
  rcases h with (h | ⟨o, h⟩) | h
  · exact .inl (.inl ((without_ne fun e => by rw [e, hp] at h; cases h).trans h))
  · exact .inl (.inr ⟨o, (without_ne fun e => by rw [e, hp] at h; cases h).trans h⟩)
  · exact .inr h
mutual
theorem has_less (hp : F p = some (.lst zs)) : ∀ {y : D} {v : V}, D.noL y = true → Has K mg F v y → Has K mg (without F p) v y
  | .non, _, _, .non => .non
  | .bl _, _, _, .bl _ => .bl _
  | .int _, _, _, .int _ => .int _
  | .str _, _, _, .str _ o => .str _ o
  | .tup ds, _, h, .tup s hs => .tup (sqT_less hp s) (hasL_less hp (by rw [D.noL] at h; exact h) hs)
  | .tpd ds, _, h, .tpd s hs => .tpd ((without_ne fun e => by rw [e, hp] at s; cases s).trans s) (hasL_less hp (by rw [D.noL] at h; exact h) hs)
  | .lst _, _, h, _ => by rw [D.noL] at h; cases h
  | .dct _ _, _, h, _ => by rw [D.noL] at h; cases h
  | .obj _ _ _, _, h, _ => by rw [D.noL] at h; cases h
  | .hdl _, _, h, _ => by rw [D.noL] at h; cases h
  | .dtt _ _, _, h, _ => by rw [D.noL] at h; cases h
theorem hasL_less (hp : F p = some (.lst zs)) : ∀ {ys : List D} {vs : List V}, D.noLL ys = true → HasL K mg F vs ys → HasL K mg (without F p) vs ys
  | [], _, _, .nil => .nil
  | y :: ys, _, h, .cons a t => by
    rw [D.noLL, Bool.and_eq_true] at h
    exact .cons (has_less hp h.1 a) (hasL_less hp h.2 t)
end
end
section
variable {S : Type} [Pk S] {K : PySem.W.Frag} {mg : Str → Option Value} {xc : XC} {R : Reg S} [RegS K mg R] {W : WX}
def dCalB (sp : DSp Unit) (i : Nat) (dx : DX S) : DX S := fun s ρ Q E => dx s ρ (fun x s1 ρ1 => ownL i ρ1 fun xs => sp [.d x, .d (.lst xs)] () (fun y _ => D.noL y = true ∧ Q y s1 ρ1) (fun _ _ => False)) E
theorem sim_calB {sp : DSp Unit} {i : Nat} {te : TE} {dx : DX S} (hm : MonoSp sp) (hx : SimE K mg xc R W te dx) : SimE K mg xc R W (tCalD K mg nul 2 (fun cs => sp (cs ++ [])) W (tCons te (tCons (tVar i) tNil))) (dCalB sp i dx) where
  mono := fun h e z => hx.mono (fun x s ρ z => ownL_mono (fun xs z => hm _ _ _ _ _ _ (fun _ _ z => ⟨z.1, h _ _ _ z.2⟩) (fun _ _ z => z) z) z) e z
  run := fun {r B ft F H σ ρ s EX Q} G w q => by
    refine hx.run G w (hx.mono (fun x s1 ρ1 z v ft1 F1 H1 G1 e1 a1 => ?_) (fun _ _ _ z => z) q)
    obtain ⟨xs, e, z⟩ := ownL_at z
    obtain ⟨p, zs, g1, fp, hz, hzs⟩ := own_there G1 e
    refine ⟨_, g1, ?_⟩
    have gr : Same F1 (upd F1 p (.lst zs)) := fun b u h => (upd_ne (ne_of_none h fp)).trans h
    have sub : Same (upd F1 p (.lst zs)) H1 := fun b u h => by
      by_cases hb : b = p
      · subst hb
        rw [upd_same] at h; rw [← h]; exact hz
      · rw [upd_ne hb] at h; exact G1.sub b u h
    refine ⟨rfl, r, fun _ => False, upd F1 p (.lst zs), (), [.d x, .d (.lst xs)], sub, fun a h => h.elim, fun a h => h, .cons (Has.mono gr a1) (.cons (.lst upd_same (hzs.mono gr)) .nil), hm _ _ _ _ _ _ (fun y s2 z v ft' F' H' c rg hv => ?_) (fun e s2 z => z.elim) z⟩
    have P := cstep_pure c
    have fl : F' p = some (.lst zs) := P.grow _ _ upd_same
    have g3 : Same F1 (without F' p) := fun b u h => (without_ne (ne_of_none h fp)).trans (P.grow _ _ (gr b u h))
    have P3 : PStep F1 H1 (without F' p) H' := by
      refine ⟨fun b u h => ?_, g3, fun a h => ?_, P.keep⟩
      · by_cases hb : b = p
        · subst hb; unfold without at h; rw [if_pos rfl] at h; cases h
        · rw [without_ne hb] at h; exact P.sub b u h
      · have hb : a ≠ p := fun z => by subst z; unfold without at h; rw [if_pos rfl] at h; exact h rfl
        rw [without_ne hb] at h
        rcases P.fresh a h with q | q
        · rw [upd_ne hb] at q; exact .inl q
        · exact .inr q
    exact z.2 v _ _ _ (G1.pstep P3) (e1.trans g3) (has_less fl z.1 hv)
end
section
variable {S : Type} [Pk S] {X : Cx} {xc : XC} {R : Reg S} [RegS X.K X.mg R] {W : WX} {k j : Nat} {x : Str} {ps : List Str} {p pos : Pos} {a b : Expr} {te : TE} {dx : DX S}
theorem qe_calB {sp : DSp Unit} (i : Nat) {y : Str} {px : Pos} (c : DCal X.K X.mg X.prog X.w X.base nul k x ps [] sp) (hgd : X.A.guards = some []) (hr : Room j X.A) (hj : k ≤ j) (hg : Gl X x) (ha : QE X xc R W a te dx) (hn : 2 + ([] : List C).length = ps.length)
    (hN : X.N[i]? = some y := by rfl) (hv : Vis X.env.scope y := by first | exact Or.inl rfl | exact Or.inr (Or.inl rfl) | exact Or.inr (Or.inr rfl)) (hd : (y == ("__debug__" : Str)) = false := by decide) (hcd : (y == ("__classdict__" : Str)) = false := by decide)
    (hdb : (x == ("__debug__" : Str)) = false := by decide) (he : starEach [a, .Name y px] X.env = (false, eval a X.env) :: starEach [.Name y px] X.env := by rfl) (hpl : (backTo pos (starEach [.Name y px] X.env)).any (·.1) = false := by rfl)
    (he2 : starEach [.Name y px] X.env = (false, eval (.Name y px) X.env) :: starEach [] X.env := by rfl) :
    QE X xc R W (.Call (.Name x p) [a, .Name y px] [] pos) (tCalD X.K X.mg nul 2 (fun cs => sp (cs ++ [])) W (tCons te (tCons (tVar i) tNil))) (dCalB sp i dx) :=
  ⟨fun k => pe_calD c hgd hr hj k.tk hg (pa_cons (ha.pe k) (pa_cons (pe_var hN hv hd hcd) pa_nil he2) he) hn hdb he hpl, sim_calB c.mono ha.sim⟩
variable {s : S} {ρ : En} {i : Nat} {Q : D → S → En → Prop} {E : EK S}
@[simp ↓] theorem x_calB {sp : DSp Unit} : dCalB sp i dx s ρ Q E = dx s ρ (fun x s1 ρ1 => oLI i ρ1 (q := ⟨fun xs => callI sp [.d x, .d (.lst xs)] () (q := ⟨fun y _ => D.noL y = true ∧ Q y s1 ρ1⟩) (e := ⟨fun _ _ => False⟩)⟩)) E := rfl
@[simp] theorem noL_t {xs : List D} : D.noL (.tup xs) = D.noLL xs := by rw [D.noL]
@[simp] theorem noL_s {t : Str} : D.noL (.str t) = true := by rw [D.noL]
theorem noL_strs : ∀ {l : List Str}, D.noLL (l.map D.str) = true
  | [] => by rw [List.map_nil, D.noLL]
  | x :: l => by rw [List.map_cons, D.noLL, noL_s, noL_strs]; rfl
end
end DL

set_option linter.all false
set_option maxRecDepth 100000
set_option maxHeartbeats 2000000
/-! xs.extend(tuple) -/
namespace DL
open PySem PySem.Spec PyProof.Rows L2 GR N01 RZ
theorem meets_extend_tup (l : Addr) (items : Array Value) (n : Nat) (b : Addr) (items2 : Array Value) (n2 : Nat) (dd : Option Addr) (sl : Array (Option Value)) (hs0 : ¬(!items.isEmpty && Builtin.List.listTooLong (items.size + items2.size)) = true) (hs1 : items.size ≤ sizeLine) (hs2 : items.size + items2.size ≤ sizeLine + 1) :
    Meets (Builtin.«list.extend» ⟨[.ref l, .ref b], []⟩) (fun _ R s => s.heap.get? l = some { cls := .type "list", dict := none, data := .seq items n, slots := #[] } ∧ s.heap.get? b = some { cls := .type "tuple", dict := dd, data := .seq items2 n2, slots := sl } ∧ R (.ok (.ret Value.none)) { s with heap := s.heap.update l (Obj.mapSeq fun x => x ++ items2), toks := s.toks }) :=
  .of_wp fun prog w A R s h => by
    obtain ⟨hp, g, d, tk, os⟩ := s; obtain ⟨hl, hb, h⟩ := h; have f1 := AutoSeq1.idx_int; have f2 := AutoSeq1.sub_tuple_tuple; have f3 := AutoSeq1.sub_list_list; have f4 := AutoSeq1.sub_tuple_list; have f5 := AutoSeq1.sub_list_tuple;
    have hz' : (items ++ items2).size ≤ sizeLine + 1 := by rw [Array.size_append]; exact hs2
    wp_walk using (wpAny_updateSeq hl rfl (hz := hs1) (_hz' := hz')), wpAny_loadPart' hl, wpAny_loadPart' hb; exact ⟨_, rfl, h⟩
def rExtA (K : PySem.W.Frag) : V → List V → Hp → VK → Prop := fun x vs H Q => ∃ l b xs zs, x = .ref l ∧ vs = [.ref b] ∧ H l = some (.lst xs) ∧ (H b = some (.lst zs) ∨ SqT K H b zs) ∧ xs.length + zs.length ≤ sizeLine ∧ Q .non (upd H l (.lst (xs ++ zs)))
theorem mt_extA {X : Cx} : MtM X "list.extend" (rExtA X.K) := by
  intro pins s σ H x vs v us Q I rx rv h
  obtain ⟨l, b, xs, zs, rfl, rfl, hH, hB, hz, q⟩ := h
  rcases hB with hB | hB
  · exact mt_extend pins s σ H _ _ v us Q I rx rv ⟨l, b, xs, zs, rfl, rfl, hH, hB, hz, q⟩
  cases rx
  obtain ⟨u, rfl, ru⟩ := rv.one
  cases ru
  obtain ⟨z, its, n, r, hl, e⟩ := I.lstM hH
  obtain ⟨its2, r2, ⟨⟨cl, dd, da, sl⟩, e2, hc, n2, hd⟩, z2⟩ := I.tuple hB
  simp only at hc hd
  subst hc hd
  have hl2 := r2.length
  have hsz : its.toArray.size + its2.toArray.size ≤ sizeLine := by rw [List.size_toArray, List.size_toArray]; omega
  have hlong : ¬ (!its.toArray.isEmpty && Builtin.List.listTooLong (its.toArray.size + its2.toArray.size)) = true := by
    rw [notLongL hsz, Bool.and_false]
    exact Bool.false_ne_true
  refine call_meets F.slot_list_extend ⟨_, e, rfl⟩ F.entry_list_extend (F.args_list_extend_2 _ _)
    (meets_extend_tup l its.toArray n b its2.toArray n2 dd sl hlong (by rw [List.size_toArray]; omega) (by omega)) ⟨e, e2, ?_⟩
  refine ⟨.non, _, I.lset (its' := its ++ its2) hH e (by simp) (r.append r2) ?_, rfl, q⟩
  rw [List.length_append]
  omega
def isLT : D → (List D → Prop) → Prop
  | .lst xs, k => k xs
  | .tup xs, k => k xs
  | _, _ => False
theorem isLT_mono {x : D} {k k' : List D → Prop} (h : ∀ i, k i → k' i) (z : isLT x k) : isLT x k' := by
  cases x <;> first | exact h _ z | exact (show False from z).elim
section
variable {S : Type} [Pk S] {K : PySem.W.Frag} {mg : Str → Option Value} {xc : XC} {R : Reg S} [RegS K mg R] {W : WX}
theorem isLT_of {F : Hp} {x : D} {v : V} {k : List D → Prop} (h : Has K mg F v x) (z : isLT x k) : ∃ b ds ws, v = .ref b ∧ (F b = some (.lst ws) ∨ SqT K F b ws) ∧ HasL K mg F ws ds ∧ k ds := by
  cases h <;> first | exact (show False from z).elim | skip
  · exact ⟨_, _, _, rfl, .inl ‹_›, ‹_›, z⟩
  · exact ⟨_, _, _, rfl, .inr ‹_›, ‹_›, z⟩
def dExtA (i : Nat) (dx : DX S) : DS S := fun DE s ρ => ownL i ρ fun _ => dx s ρ (fun x s ρ => isLT x fun ys => ownL i ρ fun xs => xs.length + ys.length ≤ 16777216 ∧ DE.nx s (ρ.set i (some (.own (.lst (xs ++ ys)))))) DE.ex
theorem sims_extA {i : Nat} {te : TE} {dx : DX S} (hx : SimE K mg xc R W te dx) : SimS K mg xc R W (tDrop (tBM K "list" (rExtA K) (tVar i) (tCons te tNil))) (dExtA i dx) where
  mono := fun h z => ownL_mono (fun _ z => hx.mono (fun y s ρ z => isLT_mono (fun ys z => ownL_mono (fun xs z => ⟨z.1, h.nx _ _ z.2⟩) z) z) h.ex z) z
  run := fun {r B ft F H σ ρ s Dn DE} G w q => by
    obtain ⟨xs0, e0, q⟩ := ownL_at q
    obtain ⟨p, zs0, h1, _, h2, _⟩ := own_there G e0
    refine ⟨_, h1, .inl ⟨rfl, _, .inl (.inl h2)⟩, ?_⟩
    refine hx.run G (w.ex _) (hx.mono (fun y s1 ρ1 z u ft1 F1 H1 G1 e1 a1 => ?_) (fun _ _ _ z => z) q)
    obtain ⟨b, ds, ws, rfl, hb, hw, z⟩ := isLT_of a1 z
    obtain ⟨ys, e, hl, z⟩ := ownL_at z
    obtain ⟨p', zs, g1, fp, hz, hzs⟩ := own_there G1 e
    rw [h1] at g1
    cases g1
    refine ⟨_, b, zs, ws, rfl, rfl, hz, hb.imp (G1.sub _ _) (sqT_mono G1.sub), by rw [hzs.length, hw.length, sizeLine_eq]; exact hl, ?_⟩
    exact w.nx _ _ _ _ _ _ (G1.mut (y := .lst (ys ++ ds)) h1 e ⟨zs ++ ws, upd_same, hzs.append hw⟩) z
end
section
variable {S : Type} [Pk S] {X : Cx} {xc : XC} {R : Reg S} [RegS X.K X.mg R] {W : WX} {e : Expr} {te : TE} {dx : DX S} {pos : Pos}
theorem sextA (i : Nat) {x : Str} {px apos cpos : Pos} (h : QE X xc R W e te dx) (hN : X.N[i]? = some x := by rfl) (hv : Vis X.env.scope x := by first | exact Or.inl rfl | exact Or.inr (Or.inl rfl) | exact Or.inr (Or.inr rfl)) (hd : (x == ("__debug__" : Str)) = false := by decide) (hcd : (x == ("__classdict__" : Str)) = false := by decide)
    (hbase : attributeBase (.Name x px) "extend" X.env (eval (.Name x px) X.env) = eval (.Name x px) X.env := by rfl)
    (hfew : ((backTo cpos (starEach [e] X.env)).all (fun x => !x.1) && (backToKw cpos (keywordEach [] X.env)).all (fun x => x.1.isSome) && decide ([e].length + ([] : List Keyword).length + (if ([] : List Keyword).isEmpty then 0 else 1) < 30)) = true := by rfl)
    (hline : (apos.endLine == cpos.line) = true := by rfl) (hse : starEach [e] X.env = (false, eval e X.env) :: starEach [] X.env := by rfl) (hpl : (backTo cpos (starEach [] X.env)).any (·.1) = false := by rfl)
    (hs : swapsWith (.Call (.Attribute (.Name x px) "extend" apos) [e] [] cpos) none pos.line X.env = pure false := by rfl) :
    QS X xc R W (.Expr (.Call (.Attribute (.Name x px) "extend" apos) [e] [] cpos) pos) (tDrop (tBM X.K "list" (rExtA X.K) (tVar i) (tCons te tNil))) (dExtA i dx) :=
  ⟨fun k => ps_expr (pe_bm PySem.F.plainAttrs_list PySem.F.slot_list_extend PySem.F.type_list_extend mt_extA (pe_var hN hv hd hcd) (pa_cons (h.pe k) pa_nil hse) hbase hfew hline hse hpl) hs, sims_extA h.sim⟩
variable {s : S} {ρ : En} {i : Nat} {DE : DEnds S} {xs : List D} {kl : Kn (List D → Prop)}
@[simp ↓] theorem x_extA : dExtA i dx DE s ρ = oLI i ρ (q := ⟨fun _ => dx s ρ (fun x s ρ => c1 isLT x (q := ⟨fun ys => oLI i ρ (q := ⟨fun xs => xs.length + ys.length ≤ 16777216 ∧ DE.nx s (ρ.set i (some (.own (.lst (xs ++ ys)))))⟩)⟩)) DE.ex⟩) := rfl
@[simp ↓] theorem v_isLTl : c1 isLT (.lst xs) (q := kl) = (kl.k xs) := rfl
@[simp] theorem v_isLTl_ : c1 isLT (.lst xs) (q := kl) = (kl.k xs) := rfl
@[simp ↓] theorem v_isLTt : c1 isLT (.tup xs) (q := kl) = (kl.k xs) := rfl
@[simp] theorem v_isLTt_ : c1 isLT (.tup xs) (q := kl) = (kl.k xs) := rfl
end
end DL

set_option linter.all false
set_option maxRecDepth 100000
set_option maxHeartbeats 2000000
/-! max of a list of numbers, with a default and without; words that are written down differ -/
namespace DL
open PySem PySem.Spec PyProof.Rows L2 GR N01 RZ
theorem int_reads {h : Heap} : ∀ {vs : List Value} {ns : List Int}, PyProof.Rows.IntsAre vs ns → ReadsAll h vs (ns.map PyData.int) []
  | _, _, .nil => .nil
  | _, _, .cons n t r => .cons (.int n t) (int_reads r)
theorem depth_ints : ∀ ns : List Int, PyData.depthAll (ns.map PyData.int) = 0
  | [] => rfl
  | n :: ns => by
    rw [List.map_cons, PyData.depthAll, depth_ints ns]
    rfl
theorem foldl_max : ∀ (ns : List Int) (n : Int), ns.foldl max n ∈ n :: ns ∧ ∀ y ∈ n :: ns, y ≤ ns.foldl max n
  | [], n => ⟨List.mem_cons_self, fun y hy => by rw [List.mem_singleton.mp hy]; exact Int.le_refl _⟩
  | m :: ns, n => by
    obtain ⟨h1, h2⟩ := foldl_max ns (max n m)
    rw [List.foldl_cons]
    refine ⟨?_, fun y hy => ?_⟩
    · rcases List.mem_cons.mp h1 with h | h
      · rw [h]
        by_cases c : n ≤ m
        · rw [Int.max_eq_right c]; simp
        · rw [Int.max_eq_left (by omega)]; simp
      · exact List.mem_cons_of_mem _ (List.mem_cons_of_mem _ h)
    · have := h2 _ List.mem_cons_self
      rcases List.mem_cons.mp hy with rfl | hy
      · omega
      · rcases List.mem_cons.mp hy with rfl | hy
        · omega
        · exact h2 y (List.mem_cons_of_mem _ hy)
def rMaxDf (K : PySem.W.Frag) (k : Int) : List V → List V → Hp → VK → Prop := fun vs zs H Q => ∃ (a : Addr) (ns : List Int), vs = [V.ref a] ∧ zs = [.int k] ∧ SqL K H a (ns.map V.int) ∧ (ns = [] → Q (.int k) H) ∧ ∀ m, m ∈ ns → (∀ y, y ∈ ns → y ≤ m) → Q (.int m) H
theorem cr_maxDf {X : Cx} {k : Int} (hc : X.calm = true) (hu : X.A.units + 1 < cLine) : CallRK X (.builtin "max") [Str.ofString "default"] (rMaxDf X.K k) := by
  intro pins s σ H vs zs us ws Q I r rz h
  obtain ⟨a, ns, rfl, rfl, hs, q0, q⟩ := h
  obtain ⟨its, rv, hl, _⟩ := I.list hs
  obtain ⟨w, rfl, t, rfl⟩ := vals1 rz
  rw [Vals.ref1 r]
  refine PySem.W.max_list_default (I.ok.hd hc) hl.isList (int_reads rv.ints) ⟨fun x hx y hy => ?_, fun x hx => ?_⟩ (by rw [depth_ints]; exact hu) (fun hz h' tk hk => ⟨.int k, H, I.kept hk, ⟨_, rfl⟩, q0 (by simpa using hz)⟩) fun y ys i v h' tk bs e hv hr hk => ?_
  · obtain ⟨n, _, rfl⟩ := List.mem_map.mp hx
    obtain ⟨m, _, rfl⟩ := List.mem_map.mp hy
    rfl
  · obtain ⟨n, _, rfl⟩ := List.mem_map.mp hx
    exact fun z => nomatch z
  · cases ns with
    | nil => cases e
    | cons n ns =>
      rw [List.map_cons] at e
      injection e with e1 e2
      subst e1 e2
      rw [PySem.W.maxD_ints] at hr
      cases hr
      obtain ⟨m1, m2⟩ := foldl_max ns n
      exact ⟨.int _, H, I.kept hk, ⟨_, rfl⟩, q _ m1 m2⟩
def isMax (ns : List Int) (m : Int) : Prop := m ∈ ns ∧ ∀ y ∈ ns, y ≤ m
def oMax1 : DO1 := fun x Q => match x with
  | .lst xs => ∃ ns : List Int, xs = ns.map D.int ∧ 0 < ns.length ∧ ∀ m, isMax ns m → Q (.int m)
  | _ => False
def oMaxDf (k : Int) : DO1 := fun x Q => match x with
  | .lst xs => ∃ ns : List Int, xs = ns.map D.int ∧ (ns = [] → Q (.int k)) ∧ ∀ m, isMax ns m → Q (.int m)
  | _ => False
section
variable {K : PySem.W.Frag} {mg : Str → Option Value}
theorem ints_of {F : Hp} : ∀ {ys : List Int} {vs : List V}, HasL K mg F vs (ys.map D.int) → vs = ys.map V.int
  | [], _, .nil => rfl
  | y :: ys, _, .cons h t => by
    have e := ints_of t
    cases h
    rw [e]; rfl
theorem sim_max1 : SimH1 K mg (r1 (rMax K)) oMax1 where
  mono := fun {x Q Q'} h z => by
    unfold oMax1 at z ⊢
    split at z
    · obtain ⟨ns, a, b, c⟩ := z
      exact ⟨ns, a, b, fun m hm => h _ (c m hm)⟩
    · exact z.elim
  run := fun {F H x dx Q} e hx q => by
    unfold oMax1 at q
    split at q
    · obtain ⟨ns, rfl, h0, q⟩ := q
      obtain ⟨p, xs, rfl, h1, h2⟩ := hs_lst e hx
      obtain rfl := ints_of h2
      exact ⟨p, ns, rfl, .inl (.inl h1), h0, fun m a b => q m ⟨a, b⟩ _ F H (.refl e) (.int _)⟩
    · exact q.elim
theorem sim_maxDf {k : Int} : SimH1 K mg (fun x H Q => rMaxDf K k [x] [.int k] H Q) (oMaxDf k) where
  mono := fun {x Q Q'} h z => by
    unfold oMaxDf at z ⊢
    split at z
    · obtain ⟨ns, a, b, c⟩ := z
      exact ⟨ns, a, fun z => h _ (b z), fun m hm => h _ (c m hm)⟩
    · exact z.elim
  run := fun {F H x dx Q} e hx q => by
    unfold oMaxDf at q
    split at q
    · obtain ⟨ns, rfl, h0, q⟩ := q
      obtain ⟨p, xs, rfl, h1, h2⟩ := hs_lst e hx
      obtain rfl := ints_of h2
      exact ⟨p, ns, rfl, rfl, .inl (.inl h1), fun z => h0 z _ F H (.refl e) (.int _), fun m a b => q m ⟨a, b⟩ _ F H (.refl e) (.int _)⟩
    · exact q.elim
end
section
variable {S : Type} [Pk S] {X : Cx} {xc : XC} {R : Reg S} [RegS X.K X.mg R] {W : WX} {e : Expr} {te : TE} {da : DOp S} {pos p kp p2 : Pos}
theorem qmaxDf {k : Int} {j} (hm : X.mg "max" = none) (hu : X.A.units + 65 < cLine) (ha : QO X xc R W e te da) (hc : X.calm = true := by rfl) (hg : Gl X "max" := by rfl)
    (he : backTo pos (starEach [e] X.env) = (false, eval e X.env) :: backTo pos (starEach [] X.env) := by rfl) (hse : starEach [e] X.env = (false, eval e X.env) :: starEach [] X.env := by rfl) (hpl : (backTo pos (starEach [e] X.env)).any (·.1) = false := by rfl)
    (hall : (backToKw pos (keywordEach [⟨some "default", .Constant (.int k) j p2, kp⟩] X.env)).all (·.1.isSome) = true := by rfl) (hnone : (backToKw pos (keywordEach [⟨some "default", .Constant (.int k) j p2, kp⟩] X.env)).any (·.1.isNone) = false := by rfl) (hks : (backToKw pos (keywordEach [⟨some "default", .Constant (.int k) j p2, kp⟩] X.env)).filterMap (·.1) = [Str.ofString "default"] := by rfl) :
    QE X xc R W (.Call (.Name "max" p) [e] [⟨some "default", .Constant (.int k) j p2, kp⟩] pos) (tCKw (rMaxDf X.K k) (tCons te tNil) (tCons (tC (.int k)) tNil)) (dUnO (oMaxDf k) da) :=
  ⟨fun tk => pe_callBK (cr_maxDf hc (by omega)) hg hm (by decide +kernel) (pa_cons (ha.pe tk) pa_nil hse) (pk_cons (nm := some "default") (kpos := kp) pe_int pk_nil) (by decide) (by decide) he hpl hall hnone hks, sim_unO (r := fun x H Q => rMaxDf X.K k [x] [.int k] H Q) (ta := te) sim_maxDf ha.sim⟩
end
section
variable {xs : List D} {q : Kn (D → Prop)} {k : Int}
@[simp] theorem v_max1 : c1 oMax1 (.lst xs) (q := q) = (∃ ns : List Int, xs = ns.map D.int ∧ 0 < ns.length ∧ ∀ m, isMax ns m → q.k (.int m)) := rfl
@[simp] theorem v_maxDf : c1 (oMaxDf k) (.lst xs) (q := q) = (∃ ns : List Int, xs = ns.map D.int ∧ (ns = [] → q.k (.int k)) ∧ ∀ m, isMax ns m → q.k (.int m)) := rfl
end
/-! words -/
theorem ofS_list (a : String) : (Str.ofString a).cps.toList = a.toList.map Char.toNat := by
  rw [Str.ofString_eq_toList]
theorem ofS_inj {a b : String} (h : Str.ofString a = Str.ofString b) : a = b := by
  have := congrArg (fun s : Str => s.cps.toList) h
  simp only [ofS_list] at this
  exact String.toList_inj.mp ((List.map_inj_right fun x y e => Char.toNat_inj.mp e).mp this)
@[simp] theorem ofS_eq {a b : String} : (Str.ofString a = Str.ofString b) = (a = b) := propext ⟨ofS_inj, fun e => by rw [e]⟩
end DL

set_option linter.all false
set_option maxRecDepth 100000
set_option maxHeartbeats 4000000
/-! several except clauses, with names or without; errors of classes that have no text and no fields of their own -/
namespace DL
open PySem PySem.Spec PyProof.Rows L2 GR N01 RZ
abbrev HW := Value × Option Nat × (Addr → Value → Option Addr → TS)
def offEnds (D : Ends) (i : Nat) : Ends := { nx := fun σ' H' => D.nx (σ'.set i none) H', rt := D.rt, bk := fun σ' H' => D.bk (σ'.set i none) H', ct := fun σ' H' => D.ct (σ'.set i none) H' }
/-- what the clauses wish of an exception of the body, one after the other -/
def wMix (K : PySem.W.Frag) (Wout : WX) (D : Ends) : List HW → WX
  | [] => Wout
  | (c, none, ts) :: r => fun cls d σ H => ∃ b, PySem.W.exmOne K cls c = some b ∧ (b = true → ∀ a, H a = none → ts a cls d D σ H) ∧ (b = false → wMix K Wout D r cls d σ H)
  | (c, some i, ts) :: r => fun cls d σ H => ∃ b, PySem.W.exmOne K cls c = some b ∧ (b = true → ∀ a, H a = none → ts a cls d (offEnds D i) (σ.set i (some (.ref a))) H) ∧ (b = false → wMix K Wout D r cls d σ H)
inductive HdsMix (X : Cx) : List ExceptHandler → List HW → Prop
  | nil : HdsMix X [] []
  | on {x : Str} {c : Value} {ts : Addr → Value → Option Addr → TS} {b₀ : Stmt} {suite : List Stmt} {np pos' : Pos} {hds : List ExceptHandler} {l : List HW} (hc : Names X x c)
      (hsu : ∀ (a : Addr) (oe : Obj) (cls : Value) (d : Option Addr) (pn : List (Addr × Obj)), Zc cls d oe → (∃ vs, oe.data = .fields vs) → PSs (X.suite a ((a, oe) :: pn)) (b₀ :: suite) (ts a cls d)) (r : HdsMix X hds l) :
      HdsMix X (.ExceptHandler (some (.Name x np)) none (b₀ :: suite) pos' :: hds) ((c, none, ts) :: l)
  | as {x n : Str} {c : Value} {i : Nat} {ts : Addr → Value → Option Addr → TS} {b₀ : Stmt} {suite : List Stmt} {np pos' : Pos} {hds : List ExceptHandler} {l : List HW} (hc : Names X x c) (hi : X.N[i]? = some n) (hln : X.env.kindOf n = some .local)
      (hsu : ∀ (a : Addr) (oe : Obj) (cls : Value) (d : Option Addr) (pn : List (Addr × Obj)), Zc cls d oe → (∃ vs, oe.data = .fields vs) → PSs (X.suite a ((a, oe) :: pn)) (b₀ :: suite) (ts a cls d)) (r : HdsMix X hds l) :
      HdsMix X (.ExceptHandler (some (.Name x np)) (some n) (b₀ :: suite) pos' :: hds) ((c, some i, ts) :: l)
section
variable {X : Cx} {body : List Stmt} {h₀ : ExceptHandler} {hds : List ExceptHandler} {l : List HW} {pos : Pos} {tb : WX → TS} {Wout : WX}
theorem ps_try_mix (hs : X.stack = X.env :: X.outer) (hf : X.env.frame = some X.env.locals) (hN : X.N.Nodup) (tk : Takes X Wout)
    (hb : ∀ (W : WX) (pn : List (Addr × Obj)) (xe : Value → Shared → Prop), Takes (X.tr pn xe) W → PassesOwn (model X.prog X.w) X.A X.env xe → PSs (X.tr pn xe) body (tb W))
    (hh : HdsMix X (h₀ :: hds) l) : PS X (.Try body (h₀ :: hds) [] [] pos) (fun D σ H => tb (wMix X.K Wout D l) D σ H) := by
  refine ⟨fun pins s σ H D I h => ?_⟩
  have ok := I.ok
  have hfr : X.A.frames = some (X.env :: X.outer) := by rw [ok.frames, hs]
  refine wpAny_Try_except ?_
  refine wpAny_mono ((hb (wMix X.K Wout D l) (X.pn ++ pins) (fun e s₁ => wpAny (model X.prog X.w) X.A (noteFrame e X.env) (fun _ s₂ => wpAny (model X.prog X.w) X.A (setFlight e none) (fun _ s₃ =>
    wpAny (model X.prog X.w) X.A (handleBy e X.env (h₀ :: hds)) (SP X pins D) X.xe s₃) X.xe s₂) X.xe s₁) (fun u s' xx => ?_) PassesOwn.looking).run [] s σ H D (I.toTry _) h) (fun f s1 hsp => ?_) (fun e s1 he => he)
  · obtain ⟨a, B, sI, pins', σ', H', cls, d, rfl, J', nb, up, sky, na, os, ag, w⟩ := xx
    have J : Inv X pins σ' H' sI := J'.ofTry ok
    have sky' : Sky B (X.env :: X.outer) a (Zc cls d) X.env.locals s'.heap := by rw [← hs]; exact sky
    show wpAny (model X.prog X.w) X.A (noteFrame (.ref a) X.env) _ _ _
    refine Sky.land Zc.steady hfr hf sky' fun h3 fl3 up3 => ?_
    have J3 : Inv X pins σ' H' { s' with heap := h3 } := J.landed nb fl3.1 (up.trans up3) os ag
    obtain ⟨oe3, vs3, he3, hz3, hd3⟩ := fl3.there
    have notFr : ∀ {h : Heap} {o : Obj} {vs : Array Value}, h.FunFrames B (X.env :: X.outer) → h.get? a = some o → o.data = .fields vs → a ∉ frs (X.env :: X.outer) := fun {h o vs} ff e dd hm => by
      obtain ⟨_, o', e', hnf⟩ := ff.mem hm
      rw [e] at e'; cases e'
      exact hnf _ dd
    have nfr := notFr fl3.2.2.1 he3 hd3
    have nL : a ≠ X.env.locals := fun z => nfr (List.mem_filterMap.mpr ⟨X.env, List.mem_cons_self, by rw [hf, z]⟩)
    have nF : a ∉ X.fs := fun hm => by
      obtain ⟨e, he, q⟩ := List.mem_filterMap.mp hm
      exact nfr (List.mem_filterMap.mpr ⟨e, List.mem_cons_of_mem _ he, q⟩)
    have S3 := J3.suite he3 hd3 na nL nF
    have LT : PySem.W.Looks (model X.prog X.w) h3 (typeOf (.ref a)) cls := fun A Q E s k q => wpAny_typeOf_ref (k _ _ he3) (by rw [hz3.1]; exact q)
    have test : ∀ (x : Str) (c : Value) (np : Pos) (hc : Names X x c) (Q : Value → Shared → Prop) (E : Value → Shared → Prop), Q c { s' with heap := h3 } → wpAny (model X.prog X.w) (X.A.mark (some (.ref a))) (eval (.Name x np) X.env) Q E { s' with heap := h3 } := by
      intro x c np hc Q E q
      rcases hc with ⟨hg, hdbg, hm | ⟨hm, hv, hnn⟩⟩
      · exact ld_glob (X := X.suite a ((a, oe3) :: (X.pn ++ pins))) S3 hg hm q hdbg
      · exact ld_blt (X := X.suite a ((a, oe3) :: (X.pn ++ pins))) S3 hg hm hv q hnn hdbg
    have go : ∀ {hds' : List ExceptHandler} {l' : List HW}, HdsMix X hds' l' → wMix X.K Wout D l' cls d σ' H' →
        wpAny (model X.prog X.w) X.A (handleBy (.ref a) X.env hds') (SP X pins D) X.xe { s' with heap := h3 } := by
      intro hds' l' hk
      induction hk with
      | nil =>
        intro w
        refine wpAny_handleBy_nil ?_
        obtain ⟨k1, k2, k3, oe, vs, T, oT, ts', he, hz, hd, h1, hr⟩ := id fl3
        unfold PySem.passOn
        refine wpAny_bind (wpAny_field he hd h1 ?_)
        rw [if_neg (show ¬ ((Value.ref T == Value.none) = true) from by simp)]
        have fin : wpAny (model X.prog X.w) X.A (setFlight (.ref a) X.env.frame) (fun _ s4 => wpAny (model X.prog X.w) X.A (throw (.ref a) : Sem Flow) (SP X pins D) X.xe s4) X.xe { s' with heap := h3 } := by
          rw [hf]
          refine HandSPX.setFlight_upZ fl3 fun h4 hh4 up4 => wpAny_throw (tk _ _ ?_)
          exact ⟨a, B, sI, pins, σ', H', cls, d, rfl, J, nb, (up.trans up3).trans up4, .inr (.inr (by rw [hs]; exact hh4)), na, os, ag, w⟩
        first
          | exact wpAny_bind (wpAny_pure (wpAny_bind fin))
          | exact wpAny_bind fin
      | @on x c ts b₀ suite np pos' hds2 l2 hc hsu r ih =>
        intro w
        obtain ⟨b, hb1, hyes, hno⟩ := w
        refine wpAny_handleBy_cons (codeAny_handlers_test ?_) (by intro q; cases q)
        have LM := PySem.W.exm_one (M := model X.prog X.w) (J3.kIn) LT hb1
        refine test _ _ _ hc _ _ (LM.here ?_)
        cases b with
        | true =>
          refine codeAny_handlers_suite ?_
          refine HandSPX.lands_againZ fl3 fun h4 fl4 up4 => ?_
          have J4 : Inv X pins σ' H' { s' with heap := h4 } := J.landed nb fl4.1 ((up.trans up3).trans up4) os ag
          obtain ⟨oe4, vs4, he4, hz4, hd4⟩ := fl4.there
          have S4 := J4.suite he4 hd4 na nL nF
          refine wpAny_mono ((hsu a oe4 cls d (X.pn ++ pins) hz4 ⟨_, hd4⟩).run [] _ _ H' _ S4 (hyes rfl a na)) (fun f s6 hsp => ?_) (fun _ _ z => False.elim z)
          cases f with
          | next =>
            obtain ⟨σ6, H6, S6, q6⟩ := hsp
            exact ⟨_, _, S6.unsuite ok, q6⟩
          | brk =>
            obtain ⟨σ6, H6, S6, q6⟩ := hsp
            exact ⟨_, _, S6.unsuite ok, q6⟩
          | cont =>
            obtain ⟨σ6, H6, S6, q6⟩ := hsp
            exact ⟨_, _, S6.unsuite ok, q6⟩
          | ret u =>
            obtain ⟨v6, σ6, H6, S6, r6, q6⟩ := hsp
            exact ⟨_, _, _, S6.unsuite ok, r6, q6⟩
        | false =>
          show wpAny _ X.A (handleBy (.ref a) X.env hds2) _ _ _
          exact ih (hno rfl)
      | @as x n c i ts b₀ suite np pos' hds2 l2 hc hi hln hsu r ih =>
        intro w
        obtain ⟨b, hb1, hyes, hno⟩ := w
        refine wpAny_handleBy_cons (codeAny_handlers_test ?_) (by intro q; cases q)
        have LM := PySem.W.exm_one (M := model X.prog X.w) (J3.kIn) LT hb1
        have hloc : Loc X.env.scope n := .inl hln
        refine test _ _ _ hc _ _ (LM.here ?_)
        cases b with
        | true =>
          refine codeAny_handlers_suite_as ?_
          refine HandSPX.lands_againZ fl3 fun h4 fl4 up4 => ?_
          have J4 : Inv X pins σ' H' { s' with heap := h4 } := J.landed nb fl4.1 ((up.trans up3).trans up4) os ag
          obtain ⟨oe4, vs4, he4, hz4, hd4⟩ := fl4.there
          have S4 := J4.suite he4 hd4 na nL nF
          refine store_ok (X := X.suite a ((a, oe4) :: (X.pn ++ pins))) (v := .ref a) S4 hN hi hloc rfl (fun s5 S5 => ?_) (.inr hln)
          refine wpAny_mono ((hsu a oe4 cls d (X.pn ++ pins) hz4 ⟨_, hd4⟩).run [] s5 _ H' _ S5 (hyes rfl a na)) (fun f s6 hsp => ?_) (fun _ _ z => False.elim z)
          have end_ : ∀ {σ6 : L2.St} {H6 : Hp} {Q : Shared → Prop}, Inv (X.suite a ((a, oe4) :: (X.pn ++ pins))) [] σ6 H6 s6 → (∀ s7, Inv X pins (σ6.set i none) H6 s7 → Q s7) →
              wpAny (model X.prog X.w) X.A (do bindName X.env n .none; unbindBehindTheSuite X.env n pos') (fun _ s7 => Q s7) X.xe s6 := fun {σ6 H6 Q} S6 hq => gone_ok (S6.unsuite ok) hN hi hln hq
          cases f with
          | next =>
            obtain ⟨σ6, H6, S6, q6⟩ := hsp
            exact end_ S6 fun s7 J7 => ⟨_, _, J7, q6⟩
          | brk =>
            obtain ⟨σ6, H6, S6, q6⟩ := hsp
            exact end_ S6 fun s7 J7 => ⟨_, _, J7, q6⟩
          | cont =>
            obtain ⟨σ6, H6, S6, q6⟩ := hsp
            exact end_ S6 fun s7 J7 => ⟨_, _, J7, q6⟩
          | ret u =>
            obtain ⟨v6, σ6, H6, S6, r6, q6⟩ := hsp
            exact end_ S6 fun s7 J7 => ⟨_, _, _, J7, r6, q6⟩
        | false =>
          show wpAny _ X.A (handleBy (.ref a) X.env hds2) _ _ _
          exact ih (hno rfl)
    exact go hh w
  · cases f with
    | next =>
      obtain ⟨σ', H', J', q⟩ := hsp
      exact wpAny_execs_nil ⟨σ', H', J'.ofTry ok, q⟩
    | brk =>
      obtain ⟨σ', H', J', q⟩ := hsp
      exact ⟨σ', H', J'.ofTry ok, q⟩
    | cont =>
      obtain ⟨σ', H', J', q⟩ := hsp
      exact ⟨σ', H', J'.ofTry ok, q⟩
    | ret u =>
      obtain ⟨v, σ', H', J', r, q⟩ := hsp
      exact ⟨v, σ', H', J'.ofTry ok, r, q⟩
end
/-! over data -/
abbrev HD (S : Type) := (Str → Option Bool) × Option Nat × DS S
section
variable {S : Type} [Pk S] {K : PySem.W.Frag} {mg : Str → Option Value} {R : Reg S} [RegS K mg R] {W : WX}
def mixEx (DE : DEnds S) : List (HD S) → EK S
  | [], e, s, ρ => DE.ex e s ρ
  | (ct, o, dsu) :: r, e, s, ρ => match ct e.name with
    | some true => (match o with
      | none => dsu (suiteEnds0 DE) s ρ
      | some i => dsu (suiteEnds i DE) s (ρ.set i (some (.exc e))))
    | some false => mixEx DE r e s ρ
    | none => False
def mixEnds (l : List (HD S)) (DE : DEnds S) : DEnds S := { DE with ex := mixEx DE l }
def dTryMix (l : List (HD S)) (db : DS S) : DS S := fun DE s ρ => db (mixEnds l DE) s ρ
inductive SimHds (K : PySem.W.Frag) (mg : Str → Option Value) (R : Reg S) : List HW → List (HD S) → Prop
  | nil : SimHds K mg R [] []
  | cons {c : Value} {o : Option Nat} {ts : Addr → Value → Option Addr → TS} {ct : Str → Option Bool} {dsu : DS S} {l : List HW} {ld : List (HD S)} {W0 : WX} (hct : Catch K mg c ct) (hsu : ∀ a cls d, SimS K mg (some (a, cls, d)) R W0 (ts a cls d) dsu) (r : SimHds K mg R l ld) : SimHds K mg R ((c, o, ts) :: l) ((ct, o, dsu) :: ld)
theorem mixEx_mono {l : List HW} {ld : List (HD S)} (hh : SimHds K mg R l ld) {DE DE' : DEnds S} (h : DE.Le DE') : ∀ e s ρ, mixEx DE ld e s ρ → mixEx DE' ld e s ρ := by
  induction hh with
  | nil => exact h.ex
  | @cons c o ts ct dsu l ld W0 hct hsu r ih =>
    intro e s ρ z
    unfold mixEx at z ⊢
    split at z
    · cases o with
      | none => exact (hsu 0 .none none).mono (DE := suiteEnds0 DE) (DE' := suiteEnds0 DE') ⟨fun _ _ z => h.nx _ _ z, h.rt, fun _ _ z => h.bk _ _ z, fun _ _ z => h.ct _ _ z, fun _ _ _ z => z⟩ z
      | some i => exact (hsu 0 .none none).mono (DE := suiteEnds i DE) (DE' := suiteEnds i DE') ⟨fun _ _ z => h.nx _ _ z, h.rt, fun _ _ z => h.bk _ _ z, fun _ _ z => h.ct _ _ z, fun _ _ _ z => z⟩ z
    · exact ih _ _ _ z
    · exact z.elim
theorem sims_tryMix {l : List HW} {ld : List (HD S)} {tb : WX → TS} {db : DS S} (hb : ∀ W, SimS K mg none R W (tb W) db) (hh : SimHds K mg R l ld) :
    SimS K mg none R W (fun D σ H => tb (wMix K W D l) D σ H) (dTryMix ld db) where
  mono := fun {s ρ DE DE'} h z => (hb W).mono (DE := mixEnds ld DE) (DE' := mixEnds ld DE') ⟨h.nx, h.rt, h.bk, h.ct, mixEx_mono hh h⟩ z
  run := fun {r B ft F H σ ρ s Dn DE} G w q => by
    refine (hb _).run (DE := mixEnds ld DE) G ⟨w.nx, w.rt, w.bk, w.ct, fun σ' ft' F' H' ρ' s' cls d e G' hx z0 => ?_⟩ q
    have z : mixEx DE ld e s' ρ' := z0
    clear q hb z0
    induction hh with
    | nil => exact w.ex _ _ _ _ _ _ _ _ _ G' hx z
    | @cons c o ts ct dsu l ld W0 hct hsu rr ih =>
      unfold mixEx at z
      obtain ⟨Cx, m1, ec, _⟩ := id hx
      subst ec
      split at z
      · rename_i hc
        cases o with
        | none =>
          refine ⟨true, hct _ _ _ hc m1, fun _ a na => ?_, fun q => Bool.noConfusion q⟩
          have G2 : Gd K mg (some (a, .ref Cx, d)) R r B ft' F' H' σ' ρ' s' := G'.xcIn
          refine (hsu a (.ref Cx) d).run (DE := suiteEnds0 DE) G2 ⟨fun ft F H σ ρ s G z => ?_, fun ft F H σ ρ s v x G hv z => ?_, fun ft F H σ ρ s G z => ?_, fun ft F H σ ρ s G z => ?_, fun _ _ _ _ _ _ _ _ _ _ _ z => (show False from z).elim⟩ z
          · exact w.nx _ _ _ _ _ _ G.xcOut z
          · exact w.rt _ _ _ _ _ _ _ _ (G.xcOut (xc' := none)) hv z
          · exact w.bk _ _ _ _ _ _ G.xcOut z
          · exact w.ct _ _ _ _ _ _ G.xcOut z
        | some i =>
          refine ⟨true, hct _ _ _ hc m1, fun _ a na => ?_, fun q => Bool.noConfusion q⟩
          have G2 : Gd K mg (some (a, .ref Cx, d)) R r B ft' F' H' (σ'.set i (some (.ref a))) (ρ'.set i (some (.exc e))) s' := (G'.xcIn (xc' := some (a, .ref Cx, d))).set i ⟨a, _, _, rfl, rfl, hx⟩ fun _ z => nomatch z
          refine (hsu a (.ref Cx) d).run (DE := suiteEnds i DE) G2 ⟨fun ft F H σ ρ s G z => ?_, fun ft F H σ ρ s v x G hv z => ?_, fun ft F H σ ρ s G z => ?_, fun ft F H σ ρ s G z => ?_, fun _ _ _ _ _ _ _ _ _ _ _ z => (show False from z).elim⟩ z
          · exact w.nx _ _ _ _ _ _ (G.xcOut.gone i none) z
          · exact w.rt _ _ _ _ _ _ _ _ (G.xcOut (xc' := none)) hv z
          · exact w.bk _ _ _ _ _ _ (G.xcOut.gone i none) z
          · exact w.ct _ _ _ _ _ _ (G.xcOut.gone i none) z
      · rename_i hc
        cases o with
        | none => exact ⟨false, hct _ _ _ hc m1, fun q => Bool.noConfusion q, fun _ => ih z⟩
        | some i => exact ⟨false, hct _ _ _ hc m1, fun q => Bool.noConfusion q, fun _ => ih z⟩
      · exact z.elim
/-! raise X(a) of a class that keeps nothing -/
def dRaise0 (x : Str) (dx : DX S) : DS S := fun DE s ρ => dx s ρ (fun _ s ρ => DE.ex ⟨x, [], []⟩ s ρ) DE.ex
theorem sims_raise0 {xc : XC} {C : Addr} {x : Str} {te : TE} {dx : DX S} (hC : mg x = some (.ref C)) (h : SimE K mg xc R W te dx) : SimS K mg xc R W (fun _ σ H => te σ H fun _ H' => W (.ref C) none σ H') (dRaise0 x dx) where
  mono := fun hd z => h.mono (fun y s ρ z => hd.ex _ _ _ z) hd.ex z
  run := fun {r B ft F H σ ρ s Dn DE} G w q => by
    refine h.run G (w.ex _) (h.mono (fun y s1 ρ1 z v ft1 F1 H1 G1 e1 a1 => ?_) (fun _ _ _ z => z) q)
    exact w.ex σ _ _ _ _ _ _ _ _ G1 ⟨C, hC, rfl, .inl ⟨rfl, rfl, rfl⟩⟩ z
end
abbrev VEM : List Value := [.type "ValueError", .type "Exception", .type "BaseException", .type "object"]
/-- an own class of errors without an __init__ of its own -/
structure RxC (K : PySem.W.Frag) (mg : Str → Option Value) (x : Str) (C : Addr) : Prop where
  at_ : mg x = some (.ref C)
  exc : PySem.W.excIn K C VEM "ValueError.__new__" = true
  keep : PySem.W.keepIn K (.ref C) = true
  sub : PySem.W.subIn K (.ref C) (.type "BaseException") = some true
  ty : PySem.W.typeIn K (.ref C) = some (.type "type")
section
variable {S : Type} [Pk S] {X : Cx} {xc : XC} {R : Reg S} [RegS X.K X.mg R] {W : WX} {e a b : Expr} {te ta : TE} {dx : DX S} {sts ss : List Stmt} {b₀ : Stmt} {db dsu : DS S} {pos pos' np p pos2 : Pos} {hds : List ExceptHandler} {h₀ : ExceptHandler} {l : List HW} {ld : List (HD S)}
theorem sraise0 {x : Str} {C : Addr} (hc : X.calm = true) (T : RxC X.K X.mg x C) (h : QE X xc R W a ta dx) (hg : Gl X x := by rfl) (hs : starEach [a] X.env = (false, eval a X.env) :: starEach [] X.env := by rfl) (hdb : (x == ("__debug__" : Str)) = false := by decide) :
    QS X xc R W (.Raise (some (.Call (.Name x p) [a] [] pos)) none pos2) (fun _ σ H => ta σ H fun _ H' => W (.ref C) none σ H') (dRaise0 x dx) :=
  ⟨fun k => ps_raise hc k.tk (SkE.pmk_own1 PySem.F.excBase_ValueError T.exc T.at_ T.keep (raises_own T.sub T.ty) hg (h.pe k) hs hdb), sims_raise0 T.at_ h.sim⟩
structure QHds (X : Cx) (R : Reg S) (hds : List ExceptHandler) (l : List HW) (ld : List (HD S)) : Prop where
  h : HdsMix X hds l
  s : SimHds X.K X.mg R l ld
theorem hnil : QHds X R [] [] [] := ⟨.nil, .nil⟩
theorem hon {x : Str} {c : Value} {ct : Str → Option Bool} {ts : Addr → Value → Option Addr → TS} (hC : X.mg x = some c) (hct : Catch X.K X.mg c ct)
    (hsu : ∀ (a : Addr) (oe : Obj) (cls : Value) (d : Option Addr) (pn : List (Addr × Obj)), Zc cls d oe → (∃ vs, oe.data = .fields vs) → QSs (X.suite a ((a, oe) :: pn)) (some (a, cls, d)) R WF (b₀ :: ss) (ts a cls d) dsu) (r : QHds X R hds l ld)
    (hg : Gl X x := by rfl) (hdb : (x == ("__debug__" : Str)) = false := by decide) : QHds X R (.ExceptHandler (some (.Name x np)) none (b₀ :: ss) pos' :: hds) ((c, none, ts) :: l) ((ct, none, dsu) :: ld) :=
  ⟨.on ⟨hg, hdb, .inl hC⟩ (fun a oe cls d pn hz hd => (hsu a oe cls d pn hz hd).ps (kF rfl)) r.h, .cons hct (fun a cls d => (hsu a { cls := cls, dict := d, data := .fields #[] } cls d [] ⟨rfl, rfl⟩ ⟨_, rfl⟩).sim) r.s⟩
theorem has {x n : Str} {c : Value} {ct : Str → Option Bool} (i : Nat) {ts : Addr → Value → Option Addr → TS} (hC : X.mg x = some c) (hct : Catch X.K X.mg c ct)
    (hsu : ∀ (a : Addr) (oe : Obj) (cls : Value) (d : Option Addr) (pn : List (Addr × Obj)), Zc cls d oe → (∃ vs, oe.data = .fields vs) → QSs (X.suite a ((a, oe) :: pn)) (some (a, cls, d)) R WF (b₀ :: ss) (ts a cls d) dsu) (r : QHds X R hds l ld)
    (hi : X.N[i]? = some n := by rfl) (hln : X.env.kindOf n = some .local := by rfl) (hg : Gl X x := by rfl) (hdb : (x == ("__debug__" : Str)) = false := by decide) : QHds X R (.ExceptHandler (some (.Name x np)) (some n) (b₀ :: ss) pos' :: hds) ((c, some i, ts) :: l) ((ct, some i, dsu) :: ld) :=
  ⟨.as ⟨hg, hdb, .inl hC⟩ hi hln (fun a oe cls d pn hz hd => (hsu a oe cls d pn hz hd).ps (kF rfl)) r.h, .cons hct (fun a cls d => (hsu a { cls := cls, dict := d, data := .fields #[] } cls d [] ⟨rfl, rfl⟩ ⟨_, rfl⟩).sim) r.s⟩
theorem stryMix {tb : WX → TS} (nd : X.N.Nodup) (hb : ∀ (W : WX) (pn : List (Addr × Obj)) (xe : Value → Shared → Prop), QSs (X.tr pn xe) none R W sts (tb W) db) (hh : QHds X R (h₀ :: hds) l ld)
    (hs : X.stack = X.env :: X.outer := by rfl) (hf : X.env.frame = some X.env.locals := by rfl) :
    QS X none R W (.Try sts (h₀ :: hds) [] [] pos) (fun D σ H => tb (wMix X.K W D l) D σ H) (dTryMix ld db) :=
  ⟨fun k => ps_try_mix hs hf nd k.tk (fun W pn xe t p => (hb W pn xe).ps ⟨t, p⟩) hh.h, sims_tryMix (fun W => (hb W [] (fun _ _ => True)).sim) hh.s⟩
end
/-! unfolded -/
section
variable {S : Type} [Pk S] {s : S} {ρ : En} {DE : DEnds S} {e : Exc}
@[simp ↓] theorem x_raise0 {x : Str} {dx : DX S} : dRaise0 x dx DE s ρ = dx s ρ (fun _ s ρ => DE.ex ⟨x, [], []⟩ s ρ) DE.ex := rfl
def mixI (l : List (HD S)) (e : Exc) (s : S) (ρ : En) [de : Kn (DEnds S)] : Prop := mixEx de.k l e s ρ
@[simp ↓] theorem x_tryMix {l : List (HD S)} {db : DS S} : dTryMix l db DE s ρ = db { DE with ex := fun e s ρ => mixI l e s ρ (de := ⟨DE⟩) } s ρ := rfl
variable {de : Kn (DEnds S)} {ct : Str → Option Bool} {dsu : DS S} {r : List (HD S)} {i : Nat}
@[simp] theorem x_mix0 : mixI [] e s ρ (de := de) = de.k.ex e s ρ := rfl
@[simp] theorem x_mixOn : mixI ((ct, none, dsu) :: r) e s ρ (de := de) = (match ct e.name with
  | some true => dsu (suiteEnds0 de.k) s ρ
  | some false => mixI r e s ρ (de := de)
  | none => False) := rfl
@[simp] theorem x_mixAs : mixI ((ct, some i, dsu) :: r) e s ρ (de := de) = (match ct e.name with
  | some true => dsu (suiteEnds i de.k) s (ρ.set i (some (.exc e)))
  | some false => mixI r e s ρ (de := de)
  | none => False) := rfl
end
end DL

set_option linter.all false
set_option maxRecDepth 100000
set_option maxHeartbeats 2000000
/-! a dict that the module has, with texts as keys; enumerate over a tuple; pop(at) and insert on a list of one's own -/
namespace DL
open PySem PySem.Spec PyProof.Rows L2 GR N01 RZ
/-! ### a dict of the module -/
def lk : List (Str × D) → Str → Option D
  | [], _ => none
  | (k, d) :: r, z => if k = z then some d else lk r z
/-- what the module's dict x holds -/
def GlobK (w : World) (K : PySem.W.Frag) (mg : Str → Option Value) (x : Str) (kvs : List (Str × D)) : Prop :=
  ∃ p es n, mg x = some (.ref p) ∧ KDict K w p es n ∧ (∀ z, lk kvs z = none → PySem.W.nsIn K p z = some none) ∧ ∀ z d, lk kvs z = some d → ∃ v u, PySem.W.nsIn K p z = some (some u) ∧ RelV v u ∧ ∀ F, Has K mg F v d
inductive EntD (w : World) (K : PySem.W.Frag) (mg : Str → Option Value) : List DictEntry → List (Str × D) → Prop where
  | nil : EntD w K mg [] []
  | cons {k : Str} {t : Tok} {u : Value} {v : V} {d : D} {e : DictEntry} {es : List DictEntry} {kvs : List (Str × D)} : e = ⟨PyData.keyHash w.params k, .str k t, u⟩ → RelV v u → (∀ F, Has K mg F v d) → EntD w K mg es kvs → EntD w K mg (e :: es) ((k, d) :: kvs)
theorem EntD.lit {w : World} {K : PySem.W.Frag} {mg : Str → Option Value} : ∀ {es : List DictEntry} {kvs : List (Str × D)}, EntD w K mg es kvs → PySem.W.KeysLit w.params es
  | _, _, .nil => trivial
  | _, _, .cons e _ _ r => by
    subst e
    exact ⟨⟨_, _, rfl, rfl⟩, r.lit⟩
theorem EntD.noref {w : World} {K : PySem.W.Frag} {mg : Str → Option Value} : ∀ {es : List DictEntry} {kvs : List (Str × D)}, EntD w K mg es kvs → es.any (·.refKey) = false
  | _, _, .nil => rfl
  | _, _, .cons e _ _ r => by
    subst e
    rw [List.any_cons, r.noref, Bool.or_false]
    rfl
theorem EntD.find {w : World} {K : PySem.W.Frag} {mg : Str → Option Value} {z : Str} : ∀ {es : List DictEntry} {kvs : List (Str × D)}, EntD w K mg es kvs →
    (lk kvs z = none → es.find? (·.key.isStr z) = none) ∧ ∀ d, lk kvs z = some d → ∃ e v, es.find? (·.key.isStr z) = some e ∧ RelV v e.val ∧ ∀ F, Has K mg F v d
  | _, _, .nil => ⟨fun _ => rfl, fun d h => by cases h⟩
  | _, _, .cons (k := k) (t := t) (u := u) (v := v) (d := d) (kvs := kvs) e r1 r2 r => by
    subst e
    have i := r.find (z := z)
    have h1 : (Value.str k t).isStr z = decide (k = z) := by
      show (k == z) = _
      by_cases c : k = z <;> simp [c]
    by_cases c : k = z
    · refine ⟨fun h => ?_, fun d' h => ?_⟩
      · rw [lk, if_pos c] at h; cases h
      · rw [lk, if_pos c] at h
        cases h
        refine ⟨_, v, by rw [List.find?_cons_of_pos]; rw [h1]; exact decide_eq_true c, r1, r2⟩
    · have e1 : lk ((k, d) :: kvs) z = lk kvs z := by rw [lk, if_neg c]
      rw [e1]
      refine ⟨fun h => ?_, fun d' h => ?_⟩
      · rw [List.find?_cons_of_neg]
        · exact i.1 h
        · rw [h1]; exact fun h => c (of_decide_eq_true h)
      · obtain ⟨e', v', a, b⟩ := i.2 d' h
        refine ⟨e', v', ?_, b⟩
        rw [List.find?_cons_of_neg]
        · exact a
        · rw [h1]; exact fun h => c (of_decide_eq_true h)
theorem globK_of {w : World} {K : PySem.W.Frag} {mg : Str → Option Value} {x : Str} {p : Addr} {es : List DictEntry} {n : Nat} {kvs : List (Str × D)} (hm : mg x = some (.ref p)) (hl : K.lookup p = some ⟨.type "dict", none, .dict es.toArray n, #[]⟩) (hp : (p == sysModules) = false) (he : EntD w K mg es kvs) : GlobK w K mg x kvs := by
  refine ⟨p, es.toArray, n, hm, ⟨hl, he.lit, hp⟩, fun z h => ?_, fun z d h => ?_⟩
  · unfold PySem.W.nsIn
    rw [hl]
    show (match es.find? (·.key.isStr z) with
      | some e => some (some e.val)
      | none => if es.any (·.refKey) then none else some none) = _
    rw [he.find.1 h, he.noref]
    rfl
  · obtain ⟨e, v, a, b, c⟩ := he.find.2 d h
    refine ⟨v, e.val, ?_, b, c⟩
    unfold PySem.W.nsIn
    rw [hl]
    show (match es.find? (·.key.isStr z) with
      | some e => some (some e.val)
      | none => if es.any (·.refKey) then none else some none) = _
    rw [a]
def oKin (kvs : List (Str × D)) (n : Bool) : DO1 := fun x Q => match x with
  | .str z => Q (.bl (ng n (lk kvs z).isSome))
  | _ => False
def oKix (kvs : List (Str × D)) : DO1 := fun x Q => match x with
  | .str z => ∃ d, lk kvs z = some d ∧ Q d
  | _ => False
def rKin (K : PySem.W.Frag) (n : Bool) : R2 := fun x y H Q => ∃ (z : Str) (p : Addr) (r : Option Value), x = .str z ∧ y = .ref p ∧ PySem.W.nsIn K p z = some r ∧ Q (.bl (ng n r.isSome)) H
/-- the dict x of the module, by what is asked of it -/
def tKin (K : PySem.W.Frag) (mg : Str → Option Value) (x : Str) (n : Bool) (te : TE) : TE := fun σ H Q => ∀ p, mg x = some (.ref p) → tOp (fun a b H Q => b = .ref p ∧ rKin K n a b H Q) te (tC (.ref p)) σ H Q
def tKix (w : World) (K : PySem.W.Frag) (mg : Str → Option Value) (x : Str) (te : TE) : TE := fun σ H Q => ∀ p, mg x = some (.ref p) → tOp (rIxD K w) (tC (.ref p)) te σ H Q
section
variable {S : Type} [Pk S] {w : World} {K : PySem.W.Frag} {mg : Str → Option Value} {xc : XC} {R : Reg S} [RegS K mg R] {W : WX} {x : Str} {kvs : List (Str × D)} {n : Bool} {ta : TE} {da : DOp S}
theorem oKin_mono {y : D} {Q Q' : D → Prop} (h : ∀ d, Q d → Q' d) (z : oKin kvs n y Q) : oKin kvs n y Q' := by
  cases y <;> first | exact h _ z | exact (show False from z).elim
theorem oKix_mono {y : D} {Q Q' : D → Prop} (h : ∀ d, Q d → Q' d) (z : oKix kvs y Q) : oKix kvs y Q' := by
  cases y <;> first | (obtain ⟨d, a, b⟩ := z; exact ⟨d, a, h _ b⟩) | exact (show False from z).elim
theorem sim_kin (g : GlobK w K mg x kvs) (h : SimO K mg xc R W ta da) : SimE K mg xc R W (tKin K mg x n ta) (dUnO (oKin kvs n) da) where
  mono := fun hq e z => h.mono (fun x s ρ z => rdv_mono (fun y z => oKin_mono (fun d z => hq _ _ _ z) z) z) e z
  run := fun {r B ft F H σ ρ s EX Q} G w q => by
    obtain ⟨p, es, m, hm, _, h0, h1⟩ := g
    intro p' hp'
    rw [hm] at hp'
    cases hp'
    refine h.run G w (h.mono (fun x s1 ρ1 z v ft1 F1 H1 G1 e1 a1 => ?_) (fun _ _ _ z => z) q)
    obtain ⟨dx, a2, z⟩ := rd_res G1 a1 z
    cases dx <;> first | exact (show False from z).elim | skip
    rename_i zs
    obtain ⟨F2, _, b2, c2⟩ := hs_has a2 G1.sub
    obtain ⟨rfl, _⟩ := has_str c2
    refine ⟨rfl, zs, p, (lk kvs zs).elim none (fun _ => (PySem.W.nsIn K p zs).join), rfl, rfl, ?_, ?_⟩
    · cases e : lk kvs zs with
      | none => exact h0 _ e
      | some d =>
        obtain ⟨v, u, e1, _⟩ := h1 _ _ e
        rw [e1]; rfl
    · have e : ((lk kvs zs).elim none (fun _ => (PySem.W.nsIn K p zs).join) : Option Value).isSome = (lk kvs zs).isSome := by
        cases e : lk kvs zs with
        | none => rfl
        | some d =>
          obtain ⟨v, u, e1, _⟩ := h1 _ _ e
          rw [e1]; rfl
      rw [e]
      exact z _ _ _ _ G1 e1 (.bl _)
theorem sim_kix (g : GlobK w K mg x kvs) (h : SimO K mg xc R W ta da) : SimE K mg xc R W (tKix w K mg x ta) (dUnO (oKix kvs) da) where
  mono := fun hq e z => h.mono (fun x s ρ z => rdv_mono (fun y z => oKix_mono (fun d z => hq _ _ _ z) z) z) e z
  run := fun {r B ft F H σ ρ s EX Q} G w' q => by
    obtain ⟨p, es, m, hm, hk, h0, h1⟩ := g
    intro p' hp'
    rw [hm] at hp'
    cases hp'
    refine h.run G w' (h.mono (fun x s1 ρ1 z v ft1 F1 H1 G1 e1 a1 => ?_) (fun _ _ _ z => z) q)
    obtain ⟨dx, a2, z⟩ := rd_res G1 a1 z
    cases dx <;> first | exact (show False from z).elim | skip
    rename_i zs
    obtain ⟨F2, _, b2, c2⟩ := hs_has a2 G1.sub
    obtain ⟨rfl, _⟩ := has_str c2
    obtain ⟨d, hd, z⟩ := (show ∃ d, _ ∧ _ from z)
    obtain ⟨v, u, e1', r, hh⟩ := h1 _ _ hd
    exact ⟨p, zs, v, rfl, rfl, ⟨es, m, u, hk.at_, hk.lit, e1', r⟩, z _ _ _ _ G1 e1 (hh _)⟩
end
section
variable {S : Type} [Pk S] {X : Cx} {xc : XC} {R : Reg S} [RegS X.K X.mg R] {W : WX} {e : Expr} {te : TE} {da : DOp S} {C : Str} {kvs : List (Str × D)} {pos pC : Pos}
theorem op_kin {p : Addr} {es : Array DictEntry} {m : Nat} (D : KDict X.K X.w p es m) : OpR X (compareOp .In) (fun a b H Q => b = .ref p ∧ rKin X.K false a b H Q) := by
  intro pins s σ H x y v u Q I rx ry h
  obtain ⟨e, z, p', r, e1, e2, e3, q⟩ := h
  rw [e] at e2
  cases e2
  exact op_in_kd D pins s σ H x y v u Q I rx ry ⟨z, r, e1, e, e3, q⟩
theorem op_knin {p : Addr} {es : Array DictEntry} {m : Nat} (D : KDict X.K X.w p es m) : OpR X (compareOp .NotIn) (fun a b H Q => b = .ref p ∧ rKin X.K true a b H Q) := by
  intro pins s σ H x y v u Q I rx ry h
  obtain ⟨e, z, p', r, e1, e2, e3, q⟩ := h
  rw [e] at e2
  cases e2
  exact op_notIn_kd D pins s σ H x y v u Q I rx ry ⟨z, r, e1, e, e3, q⟩
theorem qkin (g : GlobK X.w X.K X.mg C kvs) (ha : QO X xc R W e te da) (hg : Gl X C := by rfl) (hd : (C == ("__debug__" : Str)) = false := by decide) :
    QE X xc R W (.Compare e [.In] [.Name C pC] pos) (tKin X.K X.mg C false te) (dUnO (oKin kvs false) da) := by
  obtain ⟨p, es, m, hm, hk, _⟩ := id g
  exact ⟨fun k => PE.imp (pe_cmpR (op_kin hk) (ha.pe k) (pe_glob (v := .ref p) hg hm rfl hd) rfl) fun σ H Q q => q p hm, sim_kin g ha.sim⟩
theorem qknin (g : GlobK X.w X.K X.mg C kvs) (ha : QO X xc R W e te da) (hg : Gl X C := by rfl) (hd : (C == ("__debug__" : Str)) = false := by decide) :
    QE X xc R W (.Compare e [.NotIn] [.Name C pC] pos) (tKin X.K X.mg C true te) (dUnO (oKin kvs true) da) := by
  obtain ⟨p, es, m, hm, hk, _⟩ := id g
  exact ⟨fun k => PE.imp (pe_cmpR (op_knin hk) (ha.pe k) (pe_glob (v := .ref p) hg hm rfl hd) rfl) fun σ H Q q => q p hm, sim_kin g ha.sim⟩
theorem PT.imp {X : Cx} {e : Expr} {t t' : TT} (h : PT X e t) (i : ∀ σ H Q, t' σ H Q → t σ H Q) : PT X e t' := ⟨fun pins s σ H Q I q => h.run pins s σ H Q I (i _ _ _ q)⟩
theorem tkin (g : GlobK X.w X.K X.mg C kvs) (ha : QO X xc R W e te da) (hg : Gl X C := by rfl) (hd : (C == ("__debug__" : Str)) = false := by decide) :
    QT X xc R W (.Compare e [.In] [.Name C pC] pos) (tTest (tKin X.K X.mg C false te)) (dTst (dUnO (oKin kvs false) da)) := by
  obtain ⟨p, es, m, hm, hk, _⟩ := id g
  exact ⟨fun k => PT.imp (pt_cmpR (op_kin hk) (ha.pe k) (pe_glob (v := .ref p) hg hm rfl hd) rfl) fun σ H Q q => q p hm, simt_tst (sim_kin g ha.sim)⟩
theorem tknin (g : GlobK X.w X.K X.mg C kvs) (ha : QO X xc R W e te da) (hg : Gl X C := by rfl) (hd : (C == ("__debug__" : Str)) = false := by decide) :
    QT X xc R W (.Compare e [.NotIn] [.Name C pC] pos) (tTest (tKin X.K X.mg C true te)) (dTst (dUnO (oKin kvs true) da)) := by
  obtain ⟨p, es, m, hm, hk, _⟩ := id g
  exact ⟨fun k => PT.imp (pt_cmpR (op_knin hk) (ha.pe k) (pe_glob (v := .ref p) hg hm rfl hd) rfl) fun σ H Q q => q p hm, simt_tst (sim_kin g ha.sim)⟩
theorem qkix (g : GlobK X.w X.K X.mg C kvs) (ha : QO X xc R W e te da) (hg : Gl X C := by rfl) (hd : (C == ("__debug__" : Str)) = false := by decide) (hs : PlainIx e := by intro _ _; rfl) :
    QE X xc R W (.Subscript (.Name C pC) e pos) (tKix X.w X.K X.mg C te) (dUnO (oKix kvs) da) := by
  obtain ⟨p, es, m, hm, hk, _⟩ := id g
  exact ⟨fun k => PE.imp (pe_ix ix_kdict (pe_glob (v := .ref p) hg hm rfl hd) (ha.pe k) hs) fun σ H Q q => q p hm, sim_kix g ha.sim⟩
end
section
variable {kvs : List (Str × D)} {z : Str} {q : Kn (D → Prop)} {n : Bool}
@[simp] theorem v_kin : c1 (oKin kvs n) (.str z) (q := q) = q.k (.bl (ng n (lk kvs z).isSome)) := rfl
@[simp] theorem v_kix : c1 (oKix kvs) (.str z) (q := q) = (∃ d, lk kvs z = some d ∧ q.k d) := rfl
end
end DL

set_option linter.all false
set_option maxRecDepth 100000
set_option maxHeartbeats 4000000
/-! enumerate over a list or a tuple; pop(at) and insert on a list of one's own -/
namespace PySem
open Sem (wp)
open AutoSeq1 (wpAny_loadPart')
set_option maxHeartbeats 8000000 in
theorem meets_enumerate_newT (l : Addr) (items : Array Value) (n : Nat) (dct : Option Addr) (sl : Array (Option Value)) :
    Meets (Builtin.«enumerate.__new__» ⟨[.type "enumerate", .ref l], []⟩) (fun _ R s => s.heap.get? l = some { cls := .type "tuple", dict := dct, data := .seq items n, slots := sl } ∧
      R (.ok (.ret (.ref (s.heap.push { cls := .type "tuple_iterator", data := .fields #[.ref l, .int 0 0] }).objs.size)))
        { s with heap := (s.heap.push { cls := .type "tuple_iterator", data := .fields #[.ref l, .int 0 0] }).push { cls := .type "enumerate", data := .fields #[.none, .bool false, .ref s.heap.objs.size, rawInt 0, .none, .none] } }) :=
  .of_wp fun prog w A R s h => by
    obtain ⟨hp, g, d, tk, os⟩ := s; obtain ⟨hl, h⟩ := h
    have hsub := sub_enumerate
    have hL : Heap.IsTuple (Shared.heap ⟨hp, g, d, tk, os⟩) l items := ⟨_, hl, rfl, n, rfl⟩
    wp_walk using wpAny_loadPart' hl
    refine wpAny_stack_any fun st => wpAny_pure ?_
    split
    · rename_i c _ _ _ _ _
      cases (c == Value.type "enumerate")
      · wp_walk using wpAny_loadPart' hl, wpAny_pyIter_tuple hL
        exact ⟨_, rfl, h⟩
      · wp_walk using wpAny_loadPart' hl, wpAny_pyIter_tuple hL
        exact ⟨_, rfl, h⟩
    · wp_walk using wpAny_loadPart' hl, wpAny_pyIter_tuple hL
      exact ⟨_, rfl, h⟩
section
variable {prog : Program} {w : World} {A : Around} {E : Value → Shared → Prop} {s : Shared}
theorem call_enumerate_tuple {l : Addr} {items : Array Value} {Q : Value → Shared → Prop} (hL : s.heap.IsTuple l items)
    (h : ∀ h', IsEnum h' (s.heap.objs.size + 1) s.heap.objs.size 0 .none → h'.IsTupleIter s.heap.objs.size l 0 → h'.objs.size = s.heap.objs.size + 2 →
      (∀ b o, s.heap.get? b = some o → h'.get? b = some o) → Q (.ref (s.heap.objs.size + 1)) { s with heap := h' }) :
    wpAny (model prog w) A (call (.type "enumerate") [.ref l]) Q E s := by
  obtain ⟨⟨c, dct, dt, sl⟩, hl, hc, n, hd⟩ := hL
  replace hc : c = .type "tuple" := hc
  replace hd : dt = .seq items n := hd
  subst hc hd
  refine callType_new F.called_enumerate (by decide) (F.typeCall_enumerate_1 _) (F.newCall_enumerate_1 _) (fun obj => F.args_object_init_2 obj _) F.entry_enumerate_new
    (meets_enumerate_newT l items n dct sl) ⟨hl, ?_⟩
  have hz : (s.heap.push { cls := .type "tuple_iterator", data := .fields #[.ref l, .int 0 0] }).objs.size = s.heap.objs.size + 1 := Heap.size_push ..
  show _ ∧ _
  rw [hz]
  have he : IsEnum ((s.heap.push { cls := .type "tuple_iterator", data := .fields #[.ref l, .int 0 0] }).push
      { cls := .type "enumerate", data := .fields #[.none, .bool false, .ref s.heap.objs.size, rawInt 0, .none, .none] }) (s.heap.objs.size + 1) s.heap.objs.size 0 .none := by
    have := Heap.get?_push_size (s.heap.push { cls := .type "tuple_iterator", data := .fields #[.ref l, .int 0 0] })
      (o := { cls := .type "enumerate", data := .fields #[.none, .bool false, .ref s.heap.objs.size, rawInt 0, .none, .none] }) rfl
    rw [hz] at this; exact this
  refine ⟨⟨_, he, rfl⟩, h _ he ⟨_, Heap.get?_push_of_some _ (Heap.get?_push_size _ rfl), rfl, rfl⟩ (by rw [Heap.size_push, hz]) fun b o x => Heap.get?_push_of_some _ (Heap.get?_push_of_some _ x)⟩
end
end PySem
namespace DL
open PySem PySem.Spec PyProof.Rows L2 GR N01 RZ
/-- the tuple at a, each item in a new pair -/
def IteT (K : PySem.W.Frag) (a : Addr) : It :=
  ⟨fun i H => ∃ (xs : List V) (x : V), SqT K H a xs ∧ xs[i]? = some x, fun i H v H' => ∃ T x, v = .ref T ∧ H T = none ∧ H' = upd H T (.tup [.int (i : Nat), x]) ∧ ∀ xs, SqT K H a xs → xs[i]? = some x, fun i H => ∃ xs : List V, SqT K H a xs ∧ xs.length = i⟩
theorem turn_enumT {P : Program} {w : World} {K : PySem.W.Frag} {elts : List Expr} {kk : Nat} {tpos : Pos} (a e it : Addr) :
    Turn P w K (.Tuple elts kk tpos) (IteT K a) [e, it] e (fun i h => (∃ old, IsEnum h e it ((i : Nat) : Int) old) ∧ h.IsTupleIter it a i ∧ e ≠ it) where
  mem := by simp
  obj := fun i h st b hb => by
    obtain ⟨⟨old, he⟩, ⟨o, ho, hc, hd⟩, _⟩ := st
    have e' : b = e ∨ b = it := by simpa using hb
    rcases e' with z | z
    · rw [z]; exact ⟨_, he, fun v q => nomatch q⟩
    · rw [z]; exact ⟨o, ho, fun v q => by rw [hd] at q; cases q⟩
  keep := fun i h h' st k => let ⟨⟨old, he⟩, hi, hne⟩ := st; ⟨⟨old, k e (by simp) _ he⟩, hi.at fun o q => k it (by simp) o q, hne⟩
  item := by
    intro X hP hw hK hc i pins s σ H E I hf st hg
    subst hP hw hK
    obtain ⟨⟨old, he⟩, hit, hne⟩ := st
    obtain ⟨xs, x, hq, hx⟩ := hg
    obtain ⟨its, rv, p, hz⟩ := I.tuple hq
    obtain ⟨u, hu, ru⟩ := rv.get hx
    have hel : e < s.heap.objs.size := Heap.lt_size he
    have hil : it < s.heap.objs.size := by obtain ⟨_, q, _⟩ := hit; exact Heap.lt_size q
    have hea : e ≠ a := fun z => by
      obtain ⟨o, h1, h2, _⟩ := p
      rw [← z, he] at h1
      cases h1
      injection h2 with h2
      exact absurd h2 (by decide)
    have hia : a ≠ it := fun z => by
      obtain ⟨o, h1, h2, _⟩ := p
      obtain ⟨o', h1', h2', _⟩ := hit
      rw [z, h1'] at h1
      cases h1
      rw [h2'] at h2
      injection h2 with h2
      exact absurd h2 (by decide)
    have hi : i < its.toArray.size := by
      have := (List.getElem?_eq_some_iff.mp hu).1
      simpa using this
    refine wpAny_pyNext_enum_itemD (Draws.tuple (prog := X.prog) (w := X.w) (A := X.A.in1) (show X.A.in1.handled = none from I.ok.hd hc) it a hia its.toArray) he ⟨hit, p⟩ hi hne (by simp [hne, hea]) fun x' h' tk hP ho hs' hT hsz hk => ?_
    have hx' : x' = u := by
      have h1 : its.toArray[i]? = some x' := hP
      have h2 : its.toArray[i]? = some u := by simpa using hu
      rw [h2] at h1
      exact (Option.some.inj h1).symm
    subst hx'
    refine ⟨_, rfl, wpAny_letOwnedTupleGo_enum (s := { s with heap := h', toks := tk + 1 }) ho fun h'' he' sb => ?_⟩
    have hT2 : h''.get? s.heap.objs.size = some { cls := .type "tuple", data := .seq #[.int i tk, x'] } := (sb.2 _ (Nat.ne_of_gt hel)).trans hT
    have new : ObjOk X.prog X.w (upd H s.heap.objs.size (.tup [.int (i : Nat), x])) h'' s.heap.objs.size (.tup [.int (i : Nat), x]) :=
      ⟨by show 2 ≤ sizeLine; decide, [.int i tk, x'], .cons ⟨_, rfl⟩ (.cons ru .nil), ⟨_, hT2, rfl, _, rfl⟩⟩
    have I1 : Inv X pins σ (upd H s.heap.objs.size (.tup [.int (i : Nat), x])) { s with heap := h'', toks := tk + 1 } :=
      I.turnedNew (ch := [e, it]) (fun b ob hb q => (sb.2 b (fun z => hb (by simp [z]))).trans (hk b ob (fun z => hb (by simp [z])) (fun z => hb (by simp [z])) q)) hf (Nat.le_refl _) new
    refine ⟨.ref s.heap.objs.size, _, I1, rfl, ⟨_, x, rfl, I.hok.fresh (Nat.le_refl _), rfl, fun ys hy => by rw [I.tuple_inj hy hq]; exact hx⟩, ⟨⟨x', ?_⟩, hs'.1.at fun o q => (sb.2 it (Ne.symm hne)).trans q, hne⟩, fun b hb => ?_⟩
    · have e1 : ((i + 1 : Nat) : Int) = (i : Int) + 1 := by omega
      rw [e1]; exact he'
    · have hb' : b < s.heap.objs.size := by
        have e' : b = e ∨ b = it := by simpa using hb
        rcases e' with z | z
        · rw [z]; exact hel
        · rw [z]; exact hil
      rw [upd_ne (Nat.ne_of_lt hb')]
      exact (hf b hb).1
  done := by
    intro X hP hw hK hc i pins s σ H E I hf st hg
    subst hP hw hK
    obtain ⟨⟨old, he⟩, hit, hne⟩ := st
    obtain ⟨xs, hq, hx⟩ := hg
    obtain ⟨its, rv, p, hz⟩ := I.tuple hq
    obtain ⟨f0, f1, f2, f3, f4, f5⟩ := hf it (by simp)
    have hl := rv.length
    have hia : a ≠ it := fun z => by
      obtain ⟨o, h1, h2, _⟩ := p
      obtain ⟨o', h1', h2', _⟩ := hit
      rw [z, h1'] at h1
      cases h1
      rw [h2'] at h2
      injection h2 with h2
      exact absurd h2 (by decide)
    have hi : i = its.toArray.size := by simp; omega
    have hit' : s.heap.IsTupleIter it a its.toArray.size := by rw [← hi]; exact hit
    exact wpAny_pyNext_enum_endD (Draws.tuple (prog := X.prog) (w := X.w) (A := X.A.in1) (show X.A.in1.handled = none from I.ok.hd hc) it a hia its.toArray) he ⟨hit', p⟩ fun h' eb => ⟨rfl, I.turned (t' := s.toks) (fun b o hb q => eb b o hb q) f0 f1 f3 f4 f5⟩
  self := fun A i s Q E st h => let ⟨⟨_, he⟩, _⟩ := st; wpAny_pyIter_enum he h
def iEnumU (K : PySem.W.Frag) (ta : TA) : TI := fun σ H R => ta σ H fun vs H1 => ∃ a xs, vs = [.ref a] ∧ ((SqL K H1 a xs ∧ R (Ite K a) H1) ∨ (SqT K H1 a xs ∧ R (IteT K a) H1))
theorem pi_enumU {X : Cx} {e : Expr} {ta : TA} {p pos tpos : Pos} {elts : List Expr} {kk : Nat} (hg : Gl X "enumerate") (hm : X.mg "enumerate" = none) (ha : PA X [e] ta) (hs : starEach [e] X.env = [(false, eval e X.env)] := by rfl) :
    PI X (.Tuple elts kk tpos) (.Call (.Name "enumerate" p) [e] [] pos) (iEnumU X.K ta) := by
  refine ⟨fun pins s σ H R I h => ?_⟩
  refine Call_ (ld_blt I hg hm boot_enumerate (PyProof.Rows.callWith_type1 (thn (ha.run pos pins s σ H _ I h) fun us s1 ⟨vs, H1, I1, r1, q1⟩ => ?_) hs rfl))
  obtain ⟨a, xs, ex, q⟩ := q1
  subst ex
  have hfp : ∀ b ∈ [s1.heap.objs.size + 1, s1.heap.objs.size], FpOk X pins H1 b := fun b hb => by
    have e' : b = s1.heap.objs.size + 1 ∨ b = s1.heap.objs.size := by simpa using hb
    have hle : s1.heap.objs.size ≤ b := by
      rcases e' with z | z
      · rw [z]; exact Nat.le_add_right _ _
      · rw [z]; exact Nat.le_refl _
    exact I1.fpOk hle (I1.hok.fresh hle)
  cases r1 with
  | cons r rr =>
    cases rr
    cases r
    rcases q with ⟨hq, q⟩ | ⟨hq, q⟩
    · obtain ⟨its, rv, p', hz⟩ := I1.list hq
      refine call_enumerate_list p'.isList fun h' he hit hsz hk => wpAny_pyIter_enum he ?_
      have I2 : Inv X pins σ H1 { s1 with heap := h' } := I1.kept (t' := s1.toks) hk
      exact ⟨s1.heap.objs.size + 1, [s1.heap.objs.size + 1, s1.heap.objs.size], _, _, H1, rfl, I2, turn_enum a (s1.heap.objs.size + 1) s1.heap.objs.size, ⟨⟨.none, he⟩, hit, Nat.succ_ne_self _⟩, hfp, q⟩
    · obtain ⟨its, rv, p', hz⟩ := I1.tuple hq
      refine call_enumerate_tuple p' fun h' he hit hsz hk => wpAny_pyIter_enum he ?_
      have I2 : Inv X pins σ H1 { s1 with heap := h' } := I1.kept (t' := s1.toks) hk
      exact ⟨s1.heap.objs.size + 1, [s1.heap.objs.size + 1, s1.heap.objs.size], _, _, H1, rfl, I2, turn_enumT a (s1.heap.objs.size + 1) s1.heap.objs.size, ⟨⟨.none, he⟩, hit, Nat.succ_ne_self _⟩, hfp, q⟩
section
variable {S : Type} [Pk S] {K : PySem.W.Frag} {mg : Str → Option Value} {xc : XC} {R : Reg S} [RegS K mg R] {W : WX}
theorem itd_enumT {F : Hp} {a : Addr} {xs : List V} {ds : List D} (h : SqT K F a xs) (hs : HasL K mg F xs ds) : Itd K mg F (IteT K a) (enumD ds) := fun F1 H s1 s2 => by
  have sq : SqT K H a xs := sqT_mono (s1.trans s2) h
  have hl : (enumD ds).length = ds.length := by unfold enumD; simp
  refine ⟨fun i hi => ?_, ⟨xs, sq, by rw [hl, hs.length]⟩, fun i x H' d hd hy => ?_⟩
  · obtain ⟨x, hx⟩ := get_lt (show i < xs.length by rw [hs.length, ← hl]; exact hi)
    exact ⟨xs, x, sq, hx⟩
  · obtain ⟨T, x', rfl, hT, rfl, hy⟩ := hy
    have hi : i < ds.length := by rw [← hl]; exact (List.getElem?_eq_some_iff.mp hd).1
    obtain ⟨d', hd'⟩ := get_lt hi
    have : d = .tup [.int (i : Nat), d'] := by
      unfold enumD at hd
      rw [List.getElem?_mapIdx, hd'] at hd
      exact (Option.some.inj hd).symm
    subst this
    obtain ⟨v, e1, e2⟩ := hs.get hd'
    have := hy xs sq
    rw [e1] at this
    obtain rfl : v = x' := Option.some.inj this
    have t := PStep.new (o := .tup [.int (i : Nat), v]) s2 hT
    exact ⟨_, t, .tup (.inl (.inl upd_same)) (.cons (.int _) (.cons (Has.mono (s1.trans t.grow) e2) .nil))⟩
def dEnumU (dx : DX S) : DI S := fun s ρ Q E => dx s ρ (fun x s ρ => isLT x fun ds => Q (enumD ds) s ρ) E
theorem simi_enumU {te : TE} {dx : DX S} (hx : SimE K mg xc R W te dx) : SimI K mg xc R W (iEnumU K (tCons te tNil)) (dEnumU dx) where
  mono := fun h e z => hx.mono (fun x s ρ z => isLT_mono (fun n z => h _ _ _ z) z) e z
  run := fun {r B ft F H σ ρ s EX Q} G w q => by
    refine hx.run G w (hx.mono (fun x s1 ρ1 z v ft1 F1 H1 G1 e1 a1 => ?_) (fun _ _ _ z => z) q)
    obtain ⟨a, ds, xs, rfl, h, hs, z⟩ := isLT_of a1 z
    rcases h with h | h
    · exact ⟨a, xs, rfl, .inl ⟨.inl (.inl (G1.sub _ _ h)), z _ _ _ _ G1 e1 (itd_enum h hs)⟩⟩
    · exact ⟨a, xs, rfl, .inr ⟨sqT_mono G1.sub h, z _ _ _ _ G1 e1 (itd_enumT h hs)⟩⟩
/-! ### pop(at), insert -/
theorem HasL.erase {F : Hp} : ∀ {vs : List V} {ds : List D} (i : Nat), HasL K mg F vs ds → HasL K mg F (vs.eraseIdx i) (ds.eraseIdx i)
  | _, _, _, .nil => .nil
  | _, _, 0, .cons _ h => h
  | _, _, i + 1, .cons h1 h => .cons h1 (HasL.erase i h)
def dPopAt (i : Nat) (dx : DX S) : DS S := fun DE s ρ => ownL i ρ fun _ => dx s ρ (fun x s ρ => isInt x fun n => ownL i ρ fun xs => 0 ≤ n ∧ n.toNat < xs.length ∧ xs.length ≤ 16777216 ∧ DE.nx s (ρ.set i (some (.own (.lst (xs.eraseIdx n.toNat)))))) DE.ex
theorem seqIx {n : Int} {l : Nat} (h0 : 0 ≤ n) (h1 : n.toNat < l) : seqIndex? n l = some n.toNat := by
  unfold seqIndex?
  have a : ¬ n < 0 := by omega
  have b : n < (l : Int) := by omega
  simp [a, h0, b]
theorem sims_popAt {i : Nat} {te : TE} {dx : DX S} (hx : SimE K mg xc R W te dx) : SimS K mg xc R W (tDrop (tBM K "list" rPopAt (tVar i) (tCons te tNil))) (dPopAt i dx) where
  mono := fun h z => ownL_mono (fun _ z => hx.mono (fun y s ρ z => isInt_mono (fun ys z => ownL_mono (fun xs z => ⟨z.1, z.2.1, z.2.2.1, h.nx _ _ z.2.2.2⟩) z) z) h.ex z) z
  run := fun {r B ft F H σ ρ s Dn DE} G w q => by
    obtain ⟨xs0, e0, q⟩ := ownL_at q
    obtain ⟨p, zs0, h1, _, h2, _⟩ := own_there G e0
    refine ⟨_, h1, .inl ⟨rfl, _, .inl (.inl h2)⟩, ?_⟩
    refine hx.run G (w.ex _) (hx.mono (fun y s1 ρ1 z u ft1 F1 H1 G1 e1 a1 => ?_) (fun _ _ _ z => z) q)
    obtain ⟨n, rfl, z⟩ := isInt_of a1 z
    obtain ⟨ys, e, n0, n1, hl, z⟩ := ownL_at z
    obtain ⟨p', zs, g1, fp, hz, hzs⟩ := own_there G1 e
    rw [h1] at g1
    cases g1
    have hn : n.toNat < zs.length := by rw [hzs.length]; exact n1
    obtain ⟨y, hy⟩ := get_lt hn
    refine ⟨_, zs, n, n.toNat, y, rfl, rfl, hz, by omega, ?_, seqIx n0 hn, hy, ?_⟩
    · have := hzs.length
      have e3 : (2 : Int) ^ 63 = 9223372036854775808 := by decide
      omega
    · exact w.nx _ _ _ _ _ _ (G1.mut (y := .lst (ys.eraseIdx n.toNat)) h1 e ⟨zs.eraseIdx n.toNat, upd_same, hzs.erase _⟩) z
def rInsert : V → List V → Hp → VK → Prop := fun x vs H Q => ∃ (l : Addr) (xs : List V) (i : Int) (y : V), x = .ref l ∧ vs = [.int i, y] ∧ H l = some (.lst xs) ∧ xs.length < sizeLine ∧ 0 ≤ i ∧ i < 2 ^ 63 ∧
    Q .non (upd H l (.lst (xs.take i.toNat ++ [y] ++ xs.drop i.toNat)))
theorem mt_insertD {X : Cx} : MtR X "list.insert" rInsert := mt_insert
def dInsert (i : Nat) (dx dy : DX S) : DS S := fun DE s ρ => ownL i ρ fun _ => dx s ρ (fun x s ρ => isInt x fun n => dy s ρ (fun y s ρ => ownL i ρ fun xs => 0 ≤ n ∧ n < 2 ^ 62 ∧ xs.length < 16777216 ∧ DE.nx s (ρ.set i (some (.own (.lst (xs.take n.toNat ++ [y] ++ xs.drop n.toNat)))))) DE.ex) DE.ex
theorem sims_insert {i : Nat} {te tf : TE} {dx dy : DX S} (hx : SimE K mg xc R W te dx) (hy : SimE K mg xc R W tf dy) : SimS K mg xc R W (tDrop (tBM K "list" rInsert (tVar i) (tCons te (tCons tf tNil)))) (dInsert i dx dy) where
  mono := fun h z => ownL_mono (fun _ z => hx.mono (fun y s ρ z => isInt_mono (fun ys z => hy.mono (fun y s ρ z => ownL_mono (fun xs z => ⟨z.1, z.2.1, z.2.2.1, h.nx _ _ z.2.2.2⟩) z) h.ex z) z) h.ex z) z
  run := fun {r B ft F H σ ρ s Dn DE} G w q => by
    obtain ⟨xs0, e0, q⟩ := ownL_at q
    obtain ⟨p, zs0, h1, _, h2, _⟩ := own_there G e0
    refine ⟨_, h1, .inl ⟨rfl, _, .inl (.inl h2)⟩, ?_⟩
    refine hx.run G (w.ex _) (hx.mono (fun y s1 ρ1 z u ft1 F1 H1 G1 e1 a1 => ?_) (fun _ _ _ z => z) q)
    obtain ⟨n, rfl, z⟩ := isInt_of a1 z
    refine hy.run G1 (w.ex _) (hy.mono (fun y s2 ρ2 z u2 ft2 F2 H2 G2 e2 a2 => ?_) (fun _ _ _ z => z) z)
    obtain ⟨ys, e, n0, n1, hl, z⟩ := ownL_at z
    obtain ⟨p', zs, g1, fp, hz, hzs⟩ := own_there G2 e
    rw [h1] at g1
    cases g1
    refine ⟨_, zs, n, u2, rfl, rfl, hz, by rw [hzs.length, sizeLine_eq]; exact hl, n0, ?_, ?_⟩
    · exact Int.lt_trans n1 (by decide)
    · exact w.nx _ _ _ _ _ _ (G2.mut (y := .lst (ys.take n.toNat ++ [y] ++ ys.drop n.toNat)) h1 e ⟨zs.take n.toNat ++ [u2] ++ zs.drop n.toNat, upd_same, ((hzs.take _).snoc a2).append (hzs.drop _)⟩) z
end
section
variable {S : Type} [Pk S] {X : Cx} {xc : XC} {R : Reg S} [RegS X.K X.mg R] {W : WX} {e f : Expr} {te tf : TE} {dx dy : DX S} {pos : Pos}
theorem ienU {elts : List Expr} {kk : Nat} {p tpos : Pos} (hm : X.mg "enumerate" = none) (h : QE X xc R W e te dx) (hg : Gl X "enumerate" := by rfl) (hs : starEach [e] X.env = [(false, eval e X.env)] := by rfl) : QI X xc R W (.Tuple elts kk tpos) (.Call (.Name "enumerate" p) [e] [] pos) (iEnumU X.K (tCons te tNil)) (dEnumU dx) := ⟨fun k => pi_enumU hg hm (pa_cons (h.pe k) pa_nil hs) hs, simi_enumU h.sim⟩
theorem spopAt (i : Nat) {x : Str} {px apos cpos : Pos} (h : QE X xc R W e te dx) (hN : X.N[i]? = some x := by rfl) (hv : Vis X.env.scope x := by first | exact Or.inl rfl | exact Or.inr (Or.inl rfl) | exact Or.inr (Or.inr rfl)) (hd : (x == ("__debug__" : Str)) = false := by decide) (hcd : (x == ("__classdict__" : Str)) = false := by decide)
    (hbase : attributeBase (.Name x px) "pop" X.env (eval (.Name x px) X.env) = eval (.Name x px) X.env := by rfl)
    (hfew : ((backTo cpos (starEach [e] X.env)).all (fun x => !x.1) && (backToKw cpos (keywordEach [] X.env)).all (fun x => x.1.isSome) && decide ([e].length + ([] : List Keyword).length + (if ([] : List Keyword).isEmpty then 0 else 1) < 30)) = true := by rfl)
    (hline : (apos.endLine == cpos.line) = true := by rfl) (hse : starEach [e] X.env = (false, eval e X.env) :: starEach [] X.env := by rfl) (hpl : (backTo cpos (starEach [] X.env)).any (·.1) = false := by rfl)
    (hs : swapsWith (.Call (.Attribute (.Name x px) "pop" apos) [e] [] cpos) none pos.line X.env = pure false := by rfl) :
    QS X xc R W (.Expr (.Call (.Attribute (.Name x px) "pop" apos) [e] [] cpos) pos) (tDrop (tBM X.K "list" rPopAt (tVar i) (tCons te tNil))) (dPopAt i dx) :=
  ⟨fun k => ps_expr (pe_bm PySem.F.plainAttrs_list PySem.F.slot_list_pop PySem.F.type_list_pop mt_popAt (pe_var hN hv hd hcd) (pa_cons (h.pe k) pa_nil hse) hbase hfew hline hse hpl) hs, sims_popAt h.sim⟩
theorem sinsert (i : Nat) {x : Str} {px apos cpos : Pos} (h : QE X xc R W e te dx) (h' : QE X xc R W f tf dy) (hN : X.N[i]? = some x := by rfl) (hv : Vis X.env.scope x := by first | exact Or.inl rfl | exact Or.inr (Or.inl rfl) | exact Or.inr (Or.inr rfl)) (hd : (x == ("__debug__" : Str)) = false := by decide) (hcd : (x == ("__classdict__" : Str)) = false := by decide)
    (hbase : attributeBase (.Name x px) "insert" X.env (eval (.Name x px) X.env) = eval (.Name x px) X.env := by rfl)
    (hfew : ((backTo cpos (starEach [e, f] X.env)).all (fun x => !x.1) && (backToKw cpos (keywordEach [] X.env)).all (fun x => x.1.isSome) && decide ([e, f].length + ([] : List Keyword).length + (if ([] : List Keyword).isEmpty then 0 else 1) < 30)) = true := by rfl)
    (hline : (apos.endLine == cpos.line) = true := by rfl) (hse : starEach [e, f] X.env = (false, eval e X.env) :: starEach [f] X.env := by rfl) (hse2 : starEach [f] X.env = (false, eval f X.env) :: starEach [] X.env := by rfl) (hpl : (backTo cpos (starEach [f] X.env)).any (·.1) = false := by rfl)
    (hs : swapsWith (.Call (.Attribute (.Name x px) "insert" apos) [e, f] [] cpos) none pos.line X.env = pure false := by rfl) :
    QS X xc R W (.Expr (.Call (.Attribute (.Name x px) "insert" apos) [e, f] [] cpos) pos) (tDrop (tBM X.K "list" rInsert (tVar i) (tCons te (tCons tf tNil)))) (dInsert i dx dy) :=
  ⟨fun k => ps_expr (pe_bm PySem.F.plainAttrs_list PySem.F.slot_list_insert PySem.F.type_list_insert mt_insertD (pe_var hN hv hd hcd) (pa_cons (h.pe k) (pa_cons (h'.pe k) pa_nil hse2) hse) hbase hfew hline hse hpl) hs, sims_insert h.sim h'.sim⟩
variable {s : S} {ρ : En} {i : Nat} {DE : DEnds S} {QI : List D → S → En → Prop} {E : EK S}
@[simp ↓] theorem x_enumU : dEnumU dx s ρ QI E = dx s ρ (fun x s ρ => c1 isLT x (q := ⟨fun ds => QI (enumD ds) s ρ⟩)) E := rfl
@[simp ↓] theorem x_popAt : dPopAt i dx DE s ρ = oLI i ρ (q := ⟨fun _ => dx s ρ (fun x s ρ => c1 isInt x (q := ⟨fun n => oLI i ρ (q := ⟨fun xs => 0 ≤ n ∧ n.toNat < xs.length ∧ xs.length ≤ 16777216 ∧ DE.nx s (ρ.set i (some (.own (.lst (xs.eraseIdx n.toNat)))))⟩)⟩)) DE.ex⟩) := rfl
@[simp ↓] theorem x_insert : dInsert i dx dy DE s ρ = oLI i ρ (q := ⟨fun _ => dx s ρ (fun x s ρ => c1 isInt x (q := ⟨fun n => dy s ρ (fun y s ρ => oLI i ρ (q := ⟨fun xs => 0 ≤ n ∧ n < 2 ^ 62 ∧ xs.length < 16777216 ∧ DE.nx s (ρ.set i (some (.own (.lst (xs.take n.toNat ++ [y] ++ xs.drop n.toNat)))))⟩)) DE.ex⟩)) DE.ex⟩) := rfl
end
end DL

set_option linter.all false
set_option maxRecDepth 100000
set_option maxHeartbeats 4000000
/-! calls with keywords: every parameter is given, the positional ones first -/
namespace DL
open PySem PySem.Spec PyProof.Rows L2 GR N01 RZ
/-- a def that may be called with n values and the keywords ks, in the parameters' order -/
structure DCalK {S : Type} (P : Program) (w : World) (K : PySem.W.Frag) (mg : Str → Option Value) (base : Heap) (R : Reg S) (k : Nat) (x : Str) (ps : List Str) (n : Nat) (ks : List Str) (sp : DSp S) : Prop where
  mono : MonoSp sp
  ex : ∃ f fd, FnG P w K mg base (L2.CX P w) k f fd ps (lift K mg R ps.length sp) ∧ KBn K fd ps n ks (fun us ws => us ++ ws) (fun vs zs => vs ++ zs) ∧ mg x = some (.ref f) ∧ PySem.W.keepIn K (.ref f) = true
section
variable {X : Cx} {CX : CXT} {k n : Nat} {f : Addr} {fd : FuncData} {ps ks : List Str} {sp : Sp} {E : L2.St → XK} {x : Str} {p pos : Pos} {e : Expr} {es : List Expr} {kws : List Keyword} {t tk : TA} {g : List Value → List Value → List Value} {gV : List V → List V → List V}
theorem run_fnGK {pins : List (Addr × Obj)} {σ : L2.St} {H : Hp} {s : Shared} {Q : VK} {us ws : List Value} {vs zs : List V} (F : FnG X.prog X.w X.K X.mg X.base CX k f fd ps sp) (hgd : X.A.guards = some []) (hr : Room k X.A) (hb : KBn X.K fd ps n ks g gV) (hx : PassesAt CX X σ (E σ))
    (I : Inv X pins σ H s) (r : Vals vs us) (rz : Vals zs ws) (l1 : vs.length = n) (l2 : zs.length = ks.length) (h : sp (gV vs zs) H Q (E σ)) : wpAny (model X.prog X.w) X.A (call (.ref f) us (ks.zip ws)) (EP X pins σ Q) X.xe s := by
  have r2 := hb.rel r rz
  refine wpAny_call (codeAny_mono (F.runs X.A X.stack s H ⟨us, ks.zip ws⟩ (g us ws) (gV vs zs) Q (E σ) hgd hr I.env0 (hb.to s us ws I.kIn (r.length.symm.trans l1) (rz.length.symm.trans l2)) r2 h) fun r s' hq => ?_)
  cases r with
  | error e => exact hx pins H s e s' I hq
  | ok fl =>
    cases fl with
    | ret u => exact I.after hq
    | next => exact False.elim hq
    | brk => exact False.elim hq
    | cont => exact False.elim hq
def tCallNS (n m : Nat) (sp : Sp) (gV : List V → List V → List V) (E : L2.St → XK) (t tk : TA) : TE := fun σ H Q => t σ H fun vs H1 => tk σ H1 fun zs H2 => vs.length = n ∧ zs.length = m ∧ sp (gV vs zs) H2 Q (E σ)
theorem pe_callGN (F : FnG X.prog X.w X.K X.mg X.base CX k f fd ps sp) (hgd : X.A.guards = some []) (hr : Room k X.A) (hg : Gl X x) (hm : X.mg x = some (.ref f)) (hk : PySem.W.keepIn X.K (.ref f) = true) (hb : KBn X.K fd ps n ks g gV) (hx : ∀ σ, PassesAt CX X σ (E σ))
    (ha : PA X (e :: es) t) (hkw : PK X kws tk) (hall : (backToKw pos (keywordEach kws X.env)).all (·.1.isSome) = true := by rfl) (hks : (backToKw pos (keywordEach kws X.env)).filterMap (·.1) = ks := by rfl)
    (hdb : (x == ("__debug__" : Str)) = false := by decide) (he : starEach (e :: es) X.env = (false, eval e X.env) :: starEach es X.env := by rfl)
    (hpl : ((backTo pos (starEach (e :: es) X.env)).any (·.1) || (backToKw pos (keywordEach kws X.env)).any (·.1.isNone)) = false := by rfl) :
    PE X (.Call (.Name x p) (e :: es) kws pos) (tCallNS n ks.length sp gV E t tk) := by
  refine ⟨fun pins s σ H Q I h => ?_⟩
  refine wpAny_Call_Name_kw (ld_glob I hg hm ?_ hdb)
  refine PySem.W.callWith_KW (h₀ := X.base) I.ok.mod.kin hk hall (thn (ha.run pos pins s σ H _ I h) fun us s1 ⟨vs, H1, I1, r, q⟩ => ?_) hpl he
  refine thn (hkw.run pos pins s1 σ H1 _ I1 q) fun ws s2 ⟨zs, H2, I2, rz, l1, l2, q2⟩ => ⟨I2.kIn, ?_⟩
  rw [hks]
  exact run_fnGK F hgd hr hb (hx σ) I2 r rz l1 l2 q2
end
section
variable {S : Type} [Pk S] {K : PySem.W.Frag} {mg : Str → Option Value} {xc : XC} {R : Reg S} [RegS K mg R] {W : WX}
def tCalK (K : PySem.W.Frag) (mg : Str → Option Value) (n m N : Nat) (sp : DSp Unit) (W : WX) (t tk : TA) : TE := fun σ H Q => t σ H fun vs H1 => tk σ H1 fun zs H2 => vs.length = n ∧ zs.length = m ∧ lift K mg nul N sp (vs ++ zs) H2 Q (WE W σ)
def dCalK (n m : Nat) (sp : DSp Unit) (da dk : DA S) : DX S := fun s ρ Q E => da s ρ (fun cs s1 ρ1 => dk s1 ρ1 (fun ks s2 ρ2 => cs.length = n ∧ ks.length = m ∧ sp (cs ++ ks) () (fun x _ => Q x s2 ρ2) (fun e _ => E e s2 ρ2)) E) E
theorem sim_calK {n m N : Nat} {sp : DSp Unit} {ta tk : TA} {da dk : DA S} (hm : MonoSp sp) (ha : SimA K mg xc R W ta da) (hk : SimA K mg xc R W tk dk) (hn : n + m = N) : SimE K mg xc R W (tCalK K mg n m N sp W ta tk) (dCalK n m sp da dk) where
  mono := fun h e z => ha.mono (fun cs s ρ z => hk.mono (fun ks s ρ z => ⟨z.1, z.2.1, hm _ _ _ _ _ _ (fun _ _ z => h _ _ _ z) (fun _ _ z => e _ _ _ z) z.2.2⟩) e z) e z
  run := fun {r B ft F H σ ρ s EX Q} G w q => by
    refine ha.run G w (ha.mono (fun cs s1 ρ1 z vs ft1 F1 H1 G1 e1 a1 => ?_) (fun _ _ _ z => z) q)
    refine hk.run G1 w (hk.mono (fun ks s2 ρ2 z zs ft2 F2 H2 G2 e2 a2 => ?_) (fun _ _ _ z => z) z)
    have a3 := (ArL.mono e2 a1).app a2
    refine ⟨by rw [a1.length]; exact z.1, by rw [a2.length]; exact z.2.1, ?_, r, fun _ => False, F2, (), cs ++ ks, G2.sub, fun a h => h.elim, fun a h => h, a3, hm _ _ _ _ _ _ (fun x s2 z v ft' F' H' c rg hv => ?_) (fun e s2 z cls d ft' F' H' c rg hx => ?_) z.2.2⟩
    · rw [List.length_append, a1.length, a2.length, z.1, z.2.1, hn]
    · exact z v _ _ _ (G2.pstep (cstep_pure c)) ((e1.trans e2).trans c.st.grow) hv
    · exact w _ _ _ _ _ _ _ _ (G2.pstep (cstep_pure c)) hx z
end
section
variable {S : Type} [Pk S] {X : Cx} {xc : XC} {R : Reg S} [RegS X.K X.mg R] {W : WX} {k j : Nat} {x : Str} {ps ks : List Str} {p pos kpos : Pos} {e a : Expr} {es : List Expr} {kws : List Keyword} {te : TE} {ta tk : TA} {dx : DX S} {da dk : DA S} {nm : Option Str}
structure QK (X : Cx) (xc : XC) (R : Reg S) (W : WX) (kws : List Keyword) (t : TA) (d : DA S) : Prop where
  pk : TkOk X W → PK X kws t
  sim : SimA X.K X.mg xc R W t d
theorem kn : QK X xc R W [] tNil dNil := ⟨fun _ => pk_nil, sim_nil⟩
theorem kc (ha : QE X xc R W a te dx) (hr : QK X xc R W kws tk dk) : QK X xc R W (⟨nm, a, kpos⟩ :: kws) (tCons te tk) (dCons dx dk) := ⟨fun k => pk_cons (ha.pe k) (hr.pk k), sim_cons ha.sim hr.sim⟩
theorem qe_calK {sp : DSp Unit} (n m N : Nat) (c : DCalK X.prog X.w X.K X.mg X.base nul k x ps n ks sp) (hgd : X.A.guards = some []) (hr : Room j X.A) (hj : k ≤ j) (hg : Gl X x) (ha : QA X xc R W (e :: es) ta da) (hk : QK X xc R W kws tk dk) (hm : ks.length = m) (hN : ps.length = N) (hn : n + m = N)
    (hall : (backToKw pos (keywordEach kws X.env)).all (·.1.isSome) = true := by rfl) (hks : (backToKw pos (keywordEach kws X.env)).filterMap (·.1) = ks := by rfl)
    (hdb : (x == ("__debug__" : Str)) = false := by decide) (he : starEach (e :: es) X.env = (false, eval e X.env) :: starEach es X.env := by rfl)
    (hpl : ((backTo pos (starEach (e :: es) X.env)).any (·.1) || (backToKw pos (keywordEach kws X.env)).any (·.1.isNone)) = false := by rfl) :
    QE X xc R W (.Call (.Name x p) (e :: es) kws pos) (tCalK X.K X.mg n m N sp W ta tk) (dCalK n m sp da dk) := by
  subst hm hN
  refine ⟨fun t => ?_, sim_calK c.mono ha.sim hk.sim hn⟩
  obtain ⟨f, fd, F, hb, hm, hkp⟩ := c.ex
  exact pe_callGN (E := WE W) F hgd (hr.mono hj) hg hm hkp hb (fun σ => passAt t.tk σ) (ha.pa t) (hk.pk t) hall hks hdb he hpl
end
section
variable {S : Type} [Pk S] {s : S} {ρ : En} {Q : D → S → En → Prop} {E : EK S} {n m : Nat} {sp : DSp Unit} {da dk : DA S}
@[simp ↓] theorem x_calK : dCalK n m sp da dk s ρ Q E = da s ρ (fun cs s1 ρ1 => dk s1 ρ1 (fun ks s2 ρ2 => cs.length = n ∧ ks.length = m ∧ callI sp (cs ++ ks) () (q := ⟨fun x _ => Q x s2 ρ2⟩) (e := ⟨fun e _ => E e s2 ρ2⟩)) E) E := rfl
end
/-! min of a list of numbers -/
def isMin (ns : List Int) (m : Int) : Prop := m ∈ ns ∧ ∀ y ∈ ns, m ≤ y
def oMin1 : DO1 := fun x Q => match x with
  | .lst xs => ∃ ns : List Int, xs = ns.map D.int ∧ 0 < ns.length ∧ ∀ m, isMin ns m → Q (.int m)
  | _ => False
section
variable {K : PySem.W.Frag} {mg : Str → Option Value}
theorem sim_min1 : SimH1 K mg (r1 (rMin K)) oMin1 where
  mono := fun {x Q Q'} h z => by
    unfold oMin1 at z ⊢
    split at z
    · obtain ⟨ns, a, b, c⟩ := z
      exact ⟨ns, a, b, fun m hm => h _ (c m hm)⟩
    · exact z.elim
  run := fun {F H x dx Q} e hx q => by
    unfold oMin1 at q
    split at q
    · obtain ⟨ns, rfl, h0, q⟩ := q
      obtain ⟨p, xs, rfl, h1, h2⟩ := hs_lst e hx
      obtain rfl := ints_of h2
      exact ⟨p, ns, rfl, .inl (.inl h1), h0, fun m a b => q m ⟨a, b⟩ _ F H (.refl e) (.int _)⟩
    · exact q.elim
end
section
variable {xs : List D} {q : Kn (D → Prop)}
@[simp] theorem v_min1 : c1 oMin1 (.lst xs) (q := q) = (∃ ns : List Int, xs = ns.map D.int ∧ 0 < ns.length ∧ ∀ m, isMin ns m → q.k (.int m)) := rfl
end
end DL

set_option linter.all false
set_option maxRecDepth 100000
set_option maxHeartbeats 4000000
/-! a list of one's own, lent to a callee of one argument; an element of a fresh list of lists, as a list of one's own -/
namespace DL
open PySem PySem.Spec PyProof.Rows L2 GR N01 RZ
section
variable {S : Type} [Pk S] {K : PySem.W.Frag} {mg : Str → Option Value} {xc : XC} {R : Reg S} [RegS K mg R] {W : WX}
def dCalB1 (sp : DSp Unit) (i : Nat) : DX S := fun s ρ Q E => ownL i ρ fun xs => sp [.d (.lst xs)] () (fun y _ => D.noL y = true ∧ Q y s ρ) (fun _ _ => False)
theorem sim_calB1 {sp : DSp Unit} {i : Nat} (hm : MonoSp sp) : SimE K mg xc R W (tCalD K mg nul 1 (fun cs => sp (cs ++ [])) W (tCons (tVar i) tNil)) (dCalB1 (S := S) sp i) where
  mono := fun h e z => ownL_mono (fun xs z => hm _ _ _ _ _ _ (fun _ _ z => ⟨z.1, h _ _ _ z.2⟩) (fun _ _ z => z) z) z
  run := fun {r B ft F1 H1 σ ρ s EX Q} G1 w q => by
    obtain ⟨xs, e, z⟩ := ownL_at q
    obtain ⟨p, zs, g1, fp, hz, hzs⟩ := own_there G1 e
    refine ⟨_, g1, ?_⟩
    have gr : Same F1 (upd F1 p (.lst zs)) := fun b u h => (upd_ne (ne_of_none h fp)).trans h
    have sub : Same (upd F1 p (.lst zs)) H1 := fun b u h => by
      by_cases hb : b = p
      · subst hb
        rw [upd_same] at h; rw [← h]; exact hz
      · rw [upd_ne hb] at h; exact G1.sub b u h
    refine ⟨rfl, r, fun _ => False, upd F1 p (.lst zs), (), [.d (.lst xs)], sub, fun a h => h.elim, fun a h => h, .cons (.lst upd_same (hzs.mono gr)) .nil, hm _ _ _ _ _ _ (fun y s2 z v ft' F' H' c rg hv => ?_) (fun e s2 z => z.elim) z⟩
    have P := cstep_pure c
    have fl : F' p = some (.lst zs) := P.grow _ _ upd_same
    have g3 : Same F1 (without F' p) := fun b u h => (without_ne (ne_of_none h fp)).trans (P.grow _ _ (gr b u h))
    have P3 : PStep F1 H1 (without F' p) H' := by
      refine ⟨fun b u h => ?_, g3, fun a h => ?_, P.keep⟩
      · by_cases hb : b = p
        · subst hb; unfold without at h; rw [if_pos rfl] at h; cases h
        · rw [without_ne hb] at h; exact P.sub b u h
      · have hb : a ≠ p := fun z => by subst z; unfold without at h; rw [if_pos rfl] at h; exact h rfl
        rw [without_ne hb] at h
        rcases P.fresh a h with q | q
        · rw [upd_ne hb] at q; exact .inl q
        · exact .inr q
    exact z.2 v _ _ _ (G1.pstep P3) g3 (has_less fl z.1 hv)
/-! ### rows = f(..); row = rows[draw(box, len(rows))] -/
def C.flat : C → Bool
  | .d (.int _) => true
  | .d (.str _) => true
  | .d (.bl _) => true
  | .d .non => true
  | _ => false
theorem flat_has {r r' : Addr} {F F' : Hp} {v : V} {c : C} (h : C.flat c = true) (a : Ar K mg r F v c) : Ar K mg r' F' v c := by
  cases c with
  | d x =>
    have a : Has K mg F v x := a
    show Has K mg F' v x
    cases x <;> first | (cases a; first | exact .non | exact .bl _ | exact .int _ | exact .str _ (by assumption)) | (cases h)
  | _ => cases h
theorem flat_hasL {r r' : Addr} {F F' : Hp} : ∀ {cs : List C} {vs : List V}, cs.all C.flat = true → ArL K mg r F vs cs → ArL K mg r' F' vs cs
  | [], _, _, .nil => .nil
  | c :: cs, _, h, .cons a t => by
    rw [List.all_cons, Bool.and_eq_true] at h
    exact .cons (flat_has h.1 a) (flat_hasL h.2 t)
def rowI (l : List Int) : D := .lst (l.map D.int)
def dTake (i j b n : Nat) (sp : DSp Unit) (spD : DSp S) (da : DA S) : DS S := fun DE s ρ => da s ρ (fun cs s1 ρ1 => cs.length = n ∧ cs.all C.flat = true ∧ ρ1[b]? = some (some .box) ∧ i ≠ b ∧ i < ρ1.length ∧
  sp (cs ++ []) () (fun y _ => ∃ ls : List (List Int), y = .lst (ls.map rowI) ∧ spD ([.box, .d (.int ls.length)] ++ []) s1 (fun z s2 => ∃ d l, z = .int d ∧ atI ls d = some l ∧ DE.nx s2 ((ρ1.set i none).set j (some (.own (rowI l))))) (fun _ _ => False)) (fun _ _ => False)) DE.ex
theorem sims_take {i j b n : Nat} {sp : DSp Unit} {spD : DSp S} {ta : TA} {da : DA S} (hm : MonoSp sp) (hmD : MonoSp spD) (ha : SimA K mg xc R W ta da) :
    SimS K mg xc R W (tSeq (tAsg (tCalD K mg nul n (fun cs => sp (cs ++ [])) W ta) (gName i)) (tAsg (tOp (rIx K) (tVar i) (tCalD K mg R 2 (fun cs => spD (cs ++ [])) W (tCons (tVar b) (tCons (tCB (rLenU K) (tCons (tVar i) tNil)) tNil)))) (gName j))) (dTake i j b n sp spD da) where
  mono := fun h z => ha.mono (fun cs s1 ρ1 z => ⟨z.1, z.2.1, z.2.2.1, z.2.2.2.1, z.2.2.2.2.1, hm _ _ _ _ _ _ (fun y _ ⟨ls, e, z⟩ => ⟨ls, e, hmD _ _ _ _ _ _ (fun _ _ ⟨d, l, e1, e2, z⟩ => ⟨d, l, e1, e2, h.nx _ _ z⟩) (fun _ _ z => z) z⟩) (fun _ _ z => z) z.2.2.2.2.2⟩) h.ex z
  run := fun {r B ft F H σ ρ s Dn DE} G w q => by
    refine ha.run G (w.ex _) (ha.mono (fun cs s1 ρ1 z vs ft1 F1 H1 G1 e1 a1 => ?_) (fun _ _ _ z => z) q)
    obtain ⟨hl, hp, hb, hib, hil, z⟩ := z
    refine ⟨by rw [a1.length]; exact hl, r, fun _ => False, fun _ => none, (), cs, (fun a u h => nomatch h), (fun a h => h.elim), (fun a h => h), flat_hasL hp a1, hm _ _ _ _ _ _ (fun y s2 z v ft' F' H' c rg hv => ?_) (fun e s2 z => z.elim) z⟩
    obtain ⟨ls, rfl, z⟩ := z
    have P := cstep_pure c
    cases hv with
    | @lst a xs _ hF hs =>
      have k : Same H1 H' := P.keep
      have new : ∀ p o, F' p = some o → (∀ xs, o ≠ HO.tup xs) → H1 p = none ∧ H' p = some o := fun p o h hn => ⟨(P.fresh p (ne_of_some h)).elim (fun z => (z rfl).elim) fun z => z.elim id fun ⟨xs, z⟩ => by
        have := P.keep p _ z
        rw [P.sub p o h] at this
        cases this
        exact (hn xs rfl).elim, P.sub p o h⟩
      have nf : ∀ p, H1 p = none → ¬ ft1 p := fun p h z => R.alive G1.reg p z h
      have t : CStep ft1 F1 H1 ft1 F1 H' := ⟨⟨G1.sub.trans k, Same.refl F1, fun _ z => .inl z, fun a u e _ => k a u e, fun a z => Same.ne k z⟩, fun a z => ⟨(G1.foot a z).1, .inl z⟩⟩
      have G3 := (G1.step t (R.stab G1.reg (Same.refl F1) fun a u _ e => k a u e)).gone i (some (.ref a))
      obtain ⟨ha1, ha2⟩ := new a _ hF (fun _ y => nomatch y)
      have hsi : (σ.set i (some (V.ref a)))[i]? = some (some (.ref a)) := by
        rw [get_set, if_pos rfl, if_pos (by rw [G1.len]; exact hil)]
      have hbx : ∃ v, (σ.set i (some (V.ref a)))[b]? = some (some v) ∧ v = .ref r := by
        obtain ⟨v, g1, g2⟩ := G1.sl b _ hb
        exact ⟨v, by rw [get_set, if_neg hib]; exact g1, g2⟩
      obtain ⟨bv, hb1, rfl⟩ := hbx
      refine ⟨_, hsi, _, hb1, _, hsi, .inl ⟨_, _, rfl, .inl ⟨xs, .inl (.inl ha2), rfl⟩, ?_⟩⟩
      have hlen : xs.length = ls.length := by rw [hs.length, List.length_map]
      rw [hlen]
      refine ⟨rfl, r, ft1, F1, s1, [.box, .d (.int ls.length)], G3.sub, (fun a h => (G3.foot a h).1), G3.reg, .cons rfl (.cons (.int _) .nil), hmD _ _ _ _ _ _ (fun z s2 z' v ft2 F2 H2 c2 rg2 hv2 => ?_) (fun e s2 z => z.elim) z⟩
      obtain ⟨d, l, rfl, hat, z⟩ := z'
      cases hv2
      have up : ∀ p o, F' p = some o → H2 p = some o := fun p o h => c2.st.keep p o (P.sub p o h) fun z => R.solid G1.reg p z ((P.fresh p (ne_of_some h)).resolve_left fun y => y rfl)
      obtain ⟨v, e2, hvv⟩ := hasL_at hs (show atI (ls.map rowI) d = some (rowI l) by rw [atI_map, hat]; rfl)
      unfold rowI at hvv
      cases hvv with
      | @lst p ws _ hF2 hs2 =>
        have hws := ints_of hs2
        subst hws
        obtain ⟨hp1, hp2⟩ := new p _ hF2 (fun _ y => nomatch y)
        refine .inl ⟨a, xs, d, .ref p, rfl, rfl, .inl (.inl (up a _ hF)), e2, ?_⟩
        have hInts : ∀ l : List Int, HasL K mg F2 (l.map V.int) (l.map D.int) := fun l => by
          induction l with
          | nil => exact .nil
          | cons x l ih => exact .cons (.int x) ih
        have f2p : F2 p = none := by
          cases e : F2 p with
          | none => rfl
          | some o =>
            exfalso
            rcases c2.st.fresh p (ne_of_some e) with h | h | h
            · obtain ⟨o', ho'⟩ := some_of_ne h
              rw [G1.sub p o' ho'] at hp1; cases hp1
            · exact nw_no hp2 (fun _ y => nomatch y) h
            · exact nf p hp1 h
        refine w.nx _ _ _ _ _ _ ((G3.step c2 rg2).adopt j (p := p) (x := rowI l) f2p ⟨l.map V.int, up p _ hF2, hInts l⟩ ⟨.inr (G1.st.none_of hp1), fun z => ?_, fun k' x g1 g2 => ?_⟩) z
        · rcases (c2.foot p z).2 with h | h
          · exact nf p hp1 h
          · rw [hp2] at h; cases h
        · rw [get_set] at g1 g2
          by_cases hik : i = k'
          · rw [if_pos hik] at g2
            by_cases hl' : i < ρ1.length
            · rw [if_pos hl'] at g2; cases g2
            · rw [if_neg hl'] at g2; cases g2
          · rw [if_neg hik] at g1 g2
            exact (G1.there g1 g2).2.here hp1
end
section
variable {S : Type} [Pk S] {X : Cx} {xc : XC} {R : Reg S} [RegS X.K X.mg R] {W : WX} {k j : Nat} {x : Str} {ps : List Str} {p pos cpos : Pos}
theorem qe_calB1 {sp : DSp Unit} (i : Nat) {y : Str} {px : Pos} (c : DCal X.K X.mg X.prog X.w X.base nul k x ps [] sp) (hgd : X.A.guards = some []) (hr : Room j X.A) (hj : k ≤ j) (hg : Gl X x) (hn : 1 + ([] : List C).length = ps.length)
    (hN : X.N[i]? = some y := by rfl) (hv : Vis X.env.scope y := by first | exact Or.inl rfl | exact Or.inr (Or.inl rfl) | exact Or.inr (Or.inr rfl)) (hd : (y == ("__debug__" : Str)) = false := by decide) (hcd : (y == ("__classdict__" : Str)) = false := by decide)
    (hdb : (x == ("__debug__" : Str)) = false := by decide) (he : starEach [.Name y px] X.env = (false, eval (.Name y px) X.env) :: starEach [] X.env := by rfl) (hpl : (backTo pos (starEach [] X.env)).any (·.1) = false := by rfl) :
    QE X xc R W (.Call (.Name x p) [.Name y px] [] pos) (tCalD X.K X.mg nul 1 (fun cs => sp (cs ++ [])) W (tCons (tVar i) tNil)) (dCalB1 sp i) :=
  ⟨fun k => pe_calD c hgd hr hj k.tk hg (pa_cons (pe_var hN hv hd hcd) pa_nil he) hn hdb he hpl, sim_calB1 c.mono⟩
theorem sstake {tg f e : Expr} {es : List Expr} {st2 : Stmt} {rest : List Stmt} {ta : TA} {da : DA S} {t1 t2 tr : TS} {d1 d2 dt dr : DS S}
    (hA : QA X xc R W (e :: es) ta da) (h1 : QA X xc R W (e :: es) ta da → QS X xc R W (.Assign [tg] (.Call f (e :: es) [] cpos) pos) t1 d1) (h2 : QS X xc R W st2 t2 d2) (hs : SimA X.K X.mg xc R W ta da → SimS X.K X.mg xc R W (tSeq t1 t2) dt) (hr : QSs X xc R W rest tr dr) :
    QSs X xc R W (.Assign [tg] (.Call f (e :: es) [] cpos) pos :: st2 :: rest) (tSeq t1 (tSeq t2 tr)) (dSeq dt dr) :=
  ⟨fun k => pss_cons ((h1 hA).ps k) (pss_cons (h2.ps k) (hr.ps k)), (show SimS X.K X.mg xc R W (tSeq (tSeq t1 t2) tr) (dSeq dt dr) from sims_seq (hs hA.sim) hr.sim)⟩
variable {s : S} {ρ : En} {i b n : Nat} {Q : D → S → En → Prop} {E : EK S} {DE : DEnds S} {da : DA S}
@[simp ↓] theorem x_calB1 {sp : DSp Unit} : dCalB1 sp i s ρ Q E = oLI i ρ (q := ⟨fun xs => callI sp [.d (.lst xs)] () (q := ⟨fun y _ => D.noL y = true ∧ Q y s ρ⟩) (e := ⟨fun _ _ => False⟩)⟩) := rfl
@[simp ↓] theorem x_take {sp : DSp Unit} {spD : DSp S} : dTake i j b n sp spD da DE s ρ = da s ρ (fun cs s1 ρ1 => cs.length = n ∧ cs.all C.flat = true ∧ ρ1[b]? = some (some .box) ∧ i ≠ b ∧ i < ρ1.length ∧
  callI sp (cs ++ []) () (q := ⟨fun y _ => ∃ ls : List (List Int), y = .lst (ls.map rowI) ∧ callI spD ([.box, .d (.int ls.length)] ++ []) s1 (q := ⟨fun z s2 => ∃ d l, z = .int d ∧ atI ls d = some l ∧ DE.nx s2 ((ρ1.set i none).set j (some (.own (rowI l))))⟩) (e := ⟨fun _ _ => False⟩)⟩) (e := ⟨fun _ _ => False⟩)) DE.ex := rfl
@[simp] theorem flat_i {m : Int} : C.flat (.d (.int m)) = true := rfl
@[simp] theorem flat_s {t : Str} : C.flat (.d (.str t)) = true := rfl
@[simp] theorem noL_b {c : Bool} : D.noL (.bl c) = true := by rw [D.noL]
end
end DL

set_option linter.all false
set_option maxRecDepth 100000
set_option maxHeartbeats 4000000
/-! settled objects: a field, a method that is called -/
namespace DL
open PySem PySem.Spec PyProof.Rows L2 GR N01 RZ
def lkF : List Str → List D → Str → Option D
  | n :: ns, d :: ds, f => if f = n then some d else lkF ns ds f
  | _, _, _ => none
section
variable {K : PySem.W.Frag} {mg : Str → Option Value} {F : Hp}
theorem lkF_at : ∀ {fs : List (Str × V)} {ns : List Str} {ds : List D} {f : Str} {d : D}, fs.map (·.1) = ns → HasL K mg F (fs.map (·.2)) ds → lkF ns ds f = some d → ∃ v, fs.lookup f = some v ∧ Has K mg F v d
  | [], [], _, f, d, _, _, h => by cases h
  | (n, v) :: fs, n' :: ns, d' :: ds, f, d, e, .cons h1 h2, h => by
    have e : n :: fs.map (·.1) = n' :: ns := e
    injection e with e1 e2
    subst e1
    by_cases c : f = n
    · rw [lkF, if_pos c] at h
      cases h
      subst c
      exact ⟨v, by simp [List.lookup], h1⟩
    · rw [lkF, if_neg c] at h
      obtain ⟨w, a, b⟩ := lkF_at (fs := fs) e2 h2 h
      refine ⟨w, ?_, b⟩
      rw [List.lookup_cons, show (f == n) = false by simpa using c]
      exact a
theorem lk_none : ∀ {fs : List (Str × V)} {f : Str}, f ∉ fs.map (·.1) → fs.lookup f = none
  | [], f, _ => rfl
  | (n, v) :: fs, f, h => by
    have h : f ∉ n :: fs.map (·.1) := h
    rw [List.mem_cons, not_or] at h
    rw [List.lookup_cons, show (f == n) = false by simpa using h.1]
    exact lk_none h.2
end
def oFld (c f : Str) : DO1 := fun x Q => match x with
  | .obj c' ns ds => c' = c ∧ ∃ d, lkF ns ds f = some d ∧ Q d
  | _ => False
/-- the class c has no f of its own -/
def ObjF (K : PySem.W.Frag) (mg : Str → Option Value) (c f : Str) : Prop := ∃ C, mg c = some (.ref C) ∧ Cls K C ∧ NoAttr K C f
section
variable {K : PySem.W.Frag} {mg : Str → Option Value}
theorem sim_fld {c f : Str} (g : ObjF K mg c f) : SimH1 K mg (fun x H Q => ∃ a C dx fs v, x = .ref a ∧ H a = some (.ins C dx fs) ∧ Cls K C ∧ NoAttr K C f ∧ fs.lookup f = some v ∧ Q v H) (oFld c f) where
  mono := fun {x Q Q'} h z => by
    cases x <;> first | (obtain ⟨e, d, a, b⟩ := z; exact ⟨e, d, a, h _ b⟩) | exact (show False from z).elim
  run := fun {F H x dx Q} e hx q => by
    cases dx <;> first | exact (show False from q).elim | skip
    rename_i c' ns ds
    obtain ⟨rfl, d, h1, q⟩ := (show c' = c ∧ ∃ d, lkF ns ds f = some d ∧ _ from q)
    obtain ⟨C, hm, hc, hn⟩ := g
    rcases hx with hx | ⟨p, _, _, ho⟩
    · cases hx with
      | obj hF hm' hns hs =>
        rw [hm] at hm'
        cases hm'
        obtain ⟨v, l, hv⟩ := lkF_at hns hs h1
        exact ⟨_, _, _, _, v, rfl, e _ _ hF, hc, hn, l, q v F H (.refl e) hv⟩
    · exact ho.elim
end
section
variable {S : Type} [Pk S] {X : Cx} {xc : XC} {R : Reg S} [RegS X.K X.mg R] {W : WX} {e : Expr} {te : TE} {da : DOp S} {pos : Pos}
theorem qfld {c f : Str} (g : ObjF X.K X.mg c f) (ha : QO X xc R W e te da) (hb : attributeBase e f X.env (eval e X.env) = eval e X.env := by rfl) : QE X xc R W (.Attribute e f pos) (tFld X.K te f) (dUnO (oFld c f) da) :=
  ⟨fun k => pe_fld (ha.pe k) hb, sim_unO (r := fun x H Q => ∃ a C dx fs v, x = .ref a ∧ H a = some (.ins C dx fs) ∧ Cls X.K C ∧ NoAttr X.K C f ∧ fs.lookup f = some v ∧ Q v H) (ta := te) (sim_fld g) ha.sim⟩
end
/-! ### methods -/
/-- a method of the class c -/
structure DMet {S : Type} (P : Program) (w : World) (K : PySem.W.Frag) (mg : Str → Option Value) (base : Heap) (R : Reg S) (k : Nat) (c m : Str) (ps : List Str) (dcs : List C) (sp : DSp S) : Prop where
  mono : MonoSp sp
  ex : ∃ f fd ds dvs Ca, FnG P w K mg base (L2.CX P w) k f fd ps (lift K mg R ps.length sp) ∧ Binds K fd ps ds ∧ Vals dvs ds ∧ (∀ r F, ArL K mg r F dvs dcs) ∧ mg c = some (.ref Ca) ∧ Cls K Ca ∧ Meth K Ca m f
section
variable {X : Cx} {CX : CXT} {k : Nat} {f C : Addr} {fd : FuncData} {ps : List Str} {sp : Sp} {dvs : List V} {ds : List Value} {E : L2.St → XK} {x m : Str} {p pos apos : Pos} {e o : Expr} {es : List Expr} {ta : TE} {t : TA}
def tMethS (C : Addr) (m : Str) (sp : Sp) (E : L2.St → XK) (ta : TE) (t : TA) : TE := fun σ H Q => ta σ H fun x H1 => ∃ a dx fs, x = .ref a ∧ H1 a = some (.ins C dx fs) ∧ fs.lookup m = none ∧ t σ H1 fun vs H2 => sp (x :: vs) H2 Q (E σ)
theorem pe_methG {pl : Sem Bool} {sp' : Sp} (i : ∀ vs H Q E, sp' vs H Q E → sp (vs ++ dvs) H Q E) (he : PE X o ta) (c : Cls X.K C) (hm : Meth X.K C m f) (F : FnG X.prog X.w X.K X.mg X.base CX k f fd ps sp) (hgd : X.A.guards = some []) (hr : Room k X.A) (hb : Binds X.K fd ps ds) (hd : Vals dvs ds) (hx : ∀ σ, PassesAt CX X σ (E σ)) (ha : PA X (e :: es) t)
    (hst : starEach (e :: es) X.env = (false, eval e X.env) :: starEach es X.env := by rfl) (hpl : (backTo pos (starEach es X.env)).any (·.1) = false := by rfl)
    (ht : eval (.Call (.Attribute o m apos) (e :: es) [] pos) X.env = (do
      let ov ← eval o X.env
      standAt apos.atName
      let (f, first) ← holding [ov] (getMethod ov m pl)
      callWith pos f first (backTo pos (starEach (e :: es) X.env)) (backToKw pos (keywordEach [] X.env))) := by rfl) :
    PE X (.Call (.Attribute o m apos) (e :: es) [] pos) (tMethS C m sp' E ta t) := by
  refine ⟨fun pins s σ H Q I h => ?_⟩
  refine PySem.W.methodCall_KW (pl := pl) (thn (he.run pins s σ H _ I h) fun u s1 ⟨x, H1, I1, rx, a, dx, fs, ex, ea, l, q⟩ => ?_) ht
  subst ex
  obtain rfl : u = Value.ref a := rx
  refine getmeth_ok I1 ea c hm l ?_
  refine PySem.W.callWith_K (first := [.ref a]) (h₀ := X.base) I.ok.mod.kin hm.kp (thn (ha.run pos pins s1 σ H1 _ I1 q) fun us s2 ⟨vs, H2, I2, r, q2⟩ => ⟨I2.kIn, ?_⟩) hst hpl
  exact run_fnG (us := .ref a :: us) (vs := .ref a :: vs) F hgd hr hb hd (hx σ) I2 (.cons rfl r) (i _ _ _ _ q2)
theorem pe_methG0 {pl : Sem Bool} {sp' : Sp} (i : ∀ vs H Q E, sp' vs H Q E → sp (vs ++ dvs) H Q E) (he : PE X o ta) (c : Cls X.K C) (hm : Meth X.K C m f) (F : FnG X.prog X.w X.K X.mg X.base CX k f fd ps sp) (hgd : X.A.guards = some []) (hr : Room k X.A) (hb : Binds X.K fd ps ds) (hd : Vals dvs ds) (hx : ∀ σ, PassesAt CX X σ (E σ))
    (ht : eval (.Call (.Attribute o m apos) [] [] pos) X.env = (do
      let ov ← eval o X.env
      standAt apos.atName
      let (f, first) ← holding [ov] (getMethod ov m pl)
      callWith pos f first (backTo pos (starEach [] X.env)) (backToKw pos (keywordEach [] X.env))) := by rfl) :
    PE X (.Call (.Attribute o m apos) [] [] pos) (tMethS C m sp' E ta tNil) := by
  refine ⟨fun pins s σ H Q I h => ?_⟩
  refine PySem.W.methodCall_KW (pl := pl) (thn (he.run pins s σ H _ I h) fun u s1 ⟨x, H1, I1, rx, a, dx, fs, ex, ea, l, q⟩ => ?_) ht
  subst ex
  obtain rfl : u = Value.ref a := rx
  refine getmeth_ok I1 ea c hm l ?_
  exact PySem.W.callWith_K0 (first := [.ref a]) I1.kIn hm.kp (run_fnG (us := [.ref a]) (vs := [.ref a]) F hgd hr hb hd (hx σ) I1 (.cons rfl .nil) (i _ _ _ _ q))
end
section
variable {S : Type} [Pk S] {K : PySem.W.Frag} {mg : Str → Option Value} {xc : XC} {R : Reg S} [RegS K mg R] {W : WX}
def tMet (K : PySem.W.Frag) (mg : Str → Option Value) (c m : Str) (n : Nat) (sp : DSp Unit) (W : WX) (ta : TE) (t : TA) : TE := fun σ H Q => ∀ C, mg c = some (.ref C) → tMethS C m (lift K mg nul n sp) (WE W) ta t σ H Q
def dMet (c m : Str) (n : Nat) (sp : DSp Unit) (dcs : List C) (dx : DX S) (da : DA S) : DX S := fun s ρ Q E => dx s ρ (fun x s1 ρ1 => (∃ ns ds, x = .obj c ns ds ∧ m ∉ ns) ∧ da s1 ρ1 (fun cs s2 ρ2 => cs.length = n ∧ sp (.d x :: cs ++ dcs) () (fun y _ => Q y s2 ρ2) (fun e _ => E e s2 ρ2)) E) E
theorem sim_met {c m : Str} {n : Nat} {sp : DSp Unit} {dcs : List C} {te : TE} {ta : TA} {dx : DX S} {da : DA S} (hm : MonoSp sp) (hx : SimE K mg xc R W te dx) (ha : SimA K mg xc R W ta da) :
    SimE K mg xc R W (tMet K mg c m (n + 1) (fun cs => sp (cs ++ dcs)) W te ta) (dMet c m n sp dcs dx da) where
  mono := fun h e z => hx.mono (fun x s ρ z => ⟨z.1, ha.mono (fun cs s ρ z => ⟨z.1, hm _ _ _ _ _ _ (fun _ _ z => h _ _ _ z) (fun _ _ z => e _ _ _ z) z.2⟩) e z.2⟩) e z
  run := fun {r B ft F H σ ρ s EX Q} G w q => by
    intro C hC
    refine hx.run G w (hx.mono (fun x s1 ρ1 z v ft1 F1 H1 G1 e1 a1 => ?_) (fun _ _ _ z => z) q)
    obtain ⟨⟨ns, ds, rfl, hns⟩, z⟩ := z
    cases id a1 with
    | @obj a C' dx' _ fs _ _ hF hm' hn hs =>
      rw [hC] at hm'
      cases hm'
      refine ⟨a, dx', fs, rfl, G1.sub _ _ hF, lk_none (by rw [hn]; exact hns), ?_⟩
      refine ha.run G1 w (ha.mono (fun cs s2 ρ2 z vs ft2 F2 H2 G2 e2 a2 => ?_) (fun _ _ _ z => z) z)
      refine ⟨by rw [List.length_cons, a2.length, z.1], r, fun _ => False, F2, (), .d _ :: cs, G2.sub, (fun a h => h.elim), (fun a h => h), .cons (Has.mono e2 a1) a2, hm _ _ _ _ _ _ (fun x s2 z v ft' F' H' c rg hv => ?_) (fun e s2 z cls d ft' F' H' c rg hx => ?_) z.2⟩
      · exact z v _ _ _ (G2.pstep (cstep_pure c)) ((e1.trans e2).trans c.st.grow) hv
      · exact w _ _ _ _ _ _ _ _ (G2.pstep (cstep_pure c)) hx z
end
section
variable {S : Type} [Pk S] {X : Cx} {xc : XC} {R : Reg S} [RegS X.K X.mg R] {W : WX} {k j : Nat} {c m : Str} {ps : List Str} {dcs : List C} {pos apos : Pos} {o e : Expr} {es : List Expr} {te : TE} {ta : TA} {dx : DX S} {da : DA S}
theorem qe_met {sp : DSp Unit} (n : Nat) {pl : Sem Bool} (g : DMet X.prog X.w X.K X.mg X.base nul k c m ps dcs sp) (hgd : X.A.guards = some []) (hr : Room j X.A) (hj : k ≤ j) (ho : QE X xc R W o te dx) (ha : QA X xc R W (e :: es) ta da) (hn : n + 1 + dcs.length = ps.length)
    (hst : starEach (e :: es) X.env = (false, eval e X.env) :: starEach es X.env := by rfl) (hpl : (backTo pos (starEach es X.env)).any (·.1) = false := by rfl)
    (ht : eval (.Call (.Attribute o m apos) (e :: es) [] pos) X.env = (do
      let ov ← eval o X.env
      standAt apos.atName
      let (f, first) ← holding [ov] (getMethod ov m pl)
      callWith pos f first (backTo pos (starEach (e :: es) X.env)) (backToKw pos (keywordEach [] X.env))) := by rfl) :
    QE X xc R W (.Call (.Attribute o m apos) (e :: es) [] pos) (tMet X.K X.mg c m (n + 1) (fun cs => sp (cs ++ dcs)) W te ta) (dMet c m n sp dcs dx da) := by
  refine ⟨fun t => ?_, sim_met g.mono ho.sim ha.sim⟩
  obtain ⟨f, fd, ds, dvs, Ca, F, hb, hd, hdc, hm, hc, hme⟩ := g.ex
  exact PE.imp (pe_methG (E := WE W) (sp' := lift X.K X.mg nul (n + 1) (fun cs => sp (cs ++ dcs))) (lift_app hdc hn) (ho.pe t) hc hme F hgd (hr.mono hj) hb hd (fun σ => passAt t.tk σ) (ha.pa t) hst hpl ht) fun σ H Q q => q Ca hm
theorem qe_met0 {sp : DSp Unit} {pl : Sem Bool} (g : DMet X.prog X.w X.K X.mg X.base nul k c m ps dcs sp) (hgd : X.A.guards = some []) (hr : Room j X.A) (hj : k ≤ j) (ho : QE X xc R W o te dx) (hn : 1 + dcs.length = ps.length)
    (ht : eval (.Call (.Attribute o m apos) [] [] pos) X.env = (do
      let ov ← eval o X.env
      standAt apos.atName
      let (f, first) ← holding [ov] (getMethod ov m pl)
      callWith pos f first (backTo pos (starEach [] X.env)) (backToKw pos (keywordEach [] X.env))) := by rfl) :
    QE X xc R W (.Call (.Attribute o m apos) [] [] pos) (tMet X.K X.mg c m 1 (fun cs => sp (cs ++ dcs)) W te tNil) (dMet c m 0 sp dcs dx dNil) := by
  refine ⟨fun t => ?_, sim_met (n := 0) g.mono ho.sim sim_nil⟩
  obtain ⟨f, fd, ds, dvs, Ca, F, hb, hd, hdc, hm, hc, hme⟩ := g.ex
  exact PE.imp (pe_methG0 (E := WE W) (sp' := lift X.K X.mg nul 1 (fun cs => sp (cs ++ dcs))) (lift_app hdc hn) (ho.pe t) hc hme F hgd (hr.mono hj) hb hd (fun σ => passAt t.tk σ) ht) fun σ H Q q => q Ca hm
end
section
variable {S : Type} [Pk S] {s : S} {ρ : En} {Q : D → S → En → Prop} {E : EK S} {c f m : Str} {n : Nat} {sp : DSp Unit} {dcs : List C} {dx : DX S} {da : DA S} {ns : List Str} {ds : List D} {q : Kn (D → Prop)}
@[simp] theorem v_fld : c1 (oFld c f) (.obj c ns ds) (q := q) = (∃ d, lkF ns ds f = some d ∧ q.k d) := propext ⟨fun h => h.2, fun h => ⟨rfl, h⟩⟩
@[simp ↓] theorem x_met : dMet c m n sp dcs dx da s ρ Q E = dx s ρ (fun x s1 ρ1 => (∃ ns ds, x = .obj c ns ds ∧ m ∉ ns) ∧ da s1 ρ1 (fun cs s2 ρ2 => cs.length = n ∧ callI sp (.d x :: cs ++ dcs) () (q := ⟨fun y _ => Q y s2 ρ2⟩) (e := ⟨fun e _ => E e s2 ρ2⟩)) E) E := rfl
@[simp] theorem lkF_c {x : Str} {d : D} : lkF (x :: ns) (d :: ds) f = if f = x then some d else lkF ns ds f := rfl
end
end DL

set_option linter.all false
set_option maxRecDepth 100000
set_option maxHeartbeats 4000000
/-! d[k] of a dict with texts as keys, beside lists, tuples and texts; x = xs.pop() -/
namespace DL
open PySem PySem.Spec PyProof.Rows L2 GR N01 RZ
def rDGet : R2 := fun x y H Q => ∃ a v, x = .ref a ∧ DGet H a y (some v) ∧ Q v H
theorem ix_dget {X : Cx} (hu : X.A.units + 1 < cLine) : IxR X rDGet := by
  intro value slice pins s σ H x y v u Q I rx ry h hs
  obtain ⟨a, w, rfl, g, q⟩ := h
  obtain rfl : v = Value.ref a := rx
  exact tail_any (dict_typeIs I g) PySem.F.slot_dict_getitem.lookup (d_getItem hu I g ry fun w' s3 I3 rw' => ⟨w, H, I3, rw', q⟩) hs
def rIxU (K : PySem.W.Frag) : R2 := fun x y H Q => rIx K x y H Q ∨ rDGet x y H Q
theorem ix_U {X : Cx} (hu : X.A.units + 1 < cLine) : IxR X (rIxU X.K) := by
  intro value slice pins s σ H x y v u Q I rx ry h hs
  rcases h with h | h
  · exact ix_seq value slice pins s σ H x y v u Q I rx ry h hs
  · exact ix_dget hu value slice pins s σ H x y v u Q I rx ry h hs
def oIxU : DO2 := fun x y Q => match x, y with
  | .dct ks ds, .str k => ∃ d, lkF ks ds k = some d ∧ Q d
  | x, y => oIx x y Q
section
variable {K : PySem.W.Frag} {mg : Str → Option Value}
theorem valV_at {F : Hp} : ∀ {kvs : List (Key × V)} {ks : List Str} {ds : List D} {k : Str} {d : D}, kvs.map (·.1) = ks.map Sum.inr → HasL K mg F (kvs.map (·.2)) ds → lkF ks ds k = some d → ∃ v, valV kvs (Sum.inr k) = some v ∧ Has K mg F v d
  | [], [], _, _, _, _, _, h => by cases h
  | [], _ :: _, _, _, _, e, _, _ => by cases e
  | _ :: _, [], _, _, _, e, _, _ => by cases e
  | (n, v) :: kvs, a :: ks, d' :: ds, k, d, e, .cons h1 h2, h => by
    have e : n :: kvs.map (·.1) = Sum.inr a :: ks.map Sum.inr := e
    injection e with e1 e2
    subst e1
    by_cases c : k = a
    · rw [lkF, if_pos c] at h
      cases h
      subst c
      refine ⟨v, ?_, h1⟩
      unfold valV
      rw [List.find?_cons_of_pos (by simp)]; rfl
    · rw [lkF, if_neg c] at h
      obtain ⟨w, x, y⟩ := valV_at (kvs := kvs) e2 h2 h
      refine ⟨w, ?_, y⟩
      unfold valV at x ⊢
      rw [List.find?_cons_of_neg]
      · exact x
      · simp only [decide_eq_true_eq]
        exact fun z => c (Sum.inr.inj z).symm
theorem sim_ixU : SimH K mg (rIxU K) oIxU where
  mono := fun {x y Q Q'} h z => by
    unfold oIxU at z ⊢
    split at z
    · obtain ⟨d, a, b⟩ := z; exact ⟨d, a, h _ b⟩
    · exact sim_ix.mono (K := K) (mg := mg) h z
  run := fun {F H x y dx dy Q} e hx hy q => by
    unfold oIxU at q
    split at q
    · rename_i ks ds k
      obtain ⟨rfl, _⟩ := hs_str hy
      obtain ⟨d, h1, q⟩ := q
      obtain ⟨p, kvs, rfl, h2, hk, hv⟩ := hs_dct e hx
      obtain ⟨v, e1, hd⟩ := valV_at hk.1 hv h1
      have g := DGet.k (k := Sum.inr k) h2
      rw [e1] at g
      exact .inr ⟨p, v, rfl, g, q v F H (.refl e) hd⟩
    · exact .inl (sim_ix.run e hx hy q)
end
section
variable {S : Type} [Pk S] {X : Cx} {xc : XC} {R : Reg S} [RegS X.K X.mg R] {W : WX} {a b : Expr} {ta tb : TE} {da db : DOp S} {pos : Pos}
theorem qixU (hu : X.A.units + 1 < cLine) (ha : QO X xc R W a ta da) (hb : QO X xc R W b tb db) (hs : PlainIx b := by intro _ _; rfl) : QE X xc R W (.Subscript a b pos) (tOp (rIxU X.K) ta tb) (dOpO oIxU da db) := ⟨fun k => pe_ix (ix_U hu) (ha.pe k) (hb.pe k) hs, sim_opO sim_ixU ha.sim hb.sim⟩
end
/-! ### x = xs.pop() -/
section
variable {S : Type} [Pk S] {K : PySem.W.Frag} {mg : Str → Option Value} {xc : XC} {R : Reg S} [RegS K mg R] {W : WX}
def dPop (i j : Nat) : DS S := fun DE s ρ => ownL i ρ fun xs => ∃ x, xs[xs.length - 1]? = some x ∧ DE.nx s ((ρ.set i (some (.own (.lst xs.dropLast)))).set j (some (.d x)))
theorem HasL.dropLast {F : Hp} {vs : List V} {ds : List D} (h : HasL K mg F vs ds) : HasL K mg F vs.dropLast ds.dropLast := by
  rw [List.dropLast_eq_take, List.dropLast_eq_take, h.length]
  exact h.take _
theorem sims_pop {i j : Nat} : SimS K mg xc R W (tAsg (tBM0 K "list" rPop (tVar i)) (gName j)) (dPop (S := S) i j) where
  mono := fun h z => ownL_mono (fun xs ⟨x, e, z⟩ => ⟨x, e, h.nx _ _ z⟩) z
  run := fun {r B ft F H σ ρ s Dn DE} G w q => by
    obtain ⟨xs, e0, x, hx, z⟩ := ownL_at q
    obtain ⟨p, zs, h1, fp, h2, hzs⟩ := own_there G e0
    obtain ⟨v, e1, hv⟩ := hzs.get hx
    refine ⟨_, h1, .inl ⟨rfl, _, .inl (.inl h2)⟩, p, zs, v, rfl, rfl, h2, by rw [hzs.length]; exact e1, ?_⟩
    exact w.nx _ _ _ _ _ _ ((G.mut (y := .lst xs.dropLast) h1 e0 ⟨zs.dropLast, upd_same, hzs.dropLast⟩).setD j hv) z
end
section
variable {S : Type} [Pk S] {X : Cx} {xc : XC} {R : Reg S} [RegS X.K X.mg R] {W : WX} {pos : Pos}
theorem spop (i j : Nat) {x y : Str} {px py apos cpos : Pos} (nd : X.N.Nodup) (hN : X.N[i]? = some x := by rfl) (hv : Vis X.env.scope x := by first | exact Or.inl rfl | exact Or.inr (Or.inl rfl) | exact Or.inr (Or.inr rfl)) (hd : (x == ("__debug__" : Str)) = false := by decide) (hcd : (x == ("__classdict__" : Str)) = false := by decide)
    (hj : X.N[j]? = some y := by rfl) (hl : Loc X.env.scope y := by first | exact Or.inl rfl | exact Or.inr rfl) (hf : X.fn y = true ∨ X.env.scope.names.lookup y = some .local := by first | exact .inl rfl | exact .inr rfl)
    (hbase : attributeBase (.Name x px) "pop" X.env (eval (.Name x px) X.env) = eval (.Name x px) X.env := by rfl) (hline : (apos.endLine == cpos.line) = true := by rfl)
    (hs : swapsWithSole [.Name y py] (.Call (.Attribute (.Name x px) "pop" apos) [] [] cpos) pos.line X.env = pure false := by rfl) (hw : swappedStores [.Name y py] (.Call (.Attribute (.Name x px) "pop" apos) [] [] cpos) X.env = pure none := by rfl)
    (h1 : (assignEach [.Name y py] X.env).map (·.2) = [assign (.Name y py) X.env] := by rfl) :
    QS X xc R W (.Assign [.Name y py] (.Call (.Attribute (.Name x px) "pop" apos) [] [] cpos) pos) (tAsg (tBM0 X.K "list" rPop (tVar i)) (gName j)) (dPop i j) :=
  ⟨fun k => ps_asg (pe_bm0 PySem.F.plainAttrs_list PySem.F.slot_list_pop PySem.F.type_list_pop mt_pop (pe_var hN hv hd hcd) hbase hline) (pg_name nd hj hl hf) hs hw h1, sims_pop⟩
variable {s : S} {ρ : En} {i j : Nat} {DE : DEnds S} {ks : List Str} {ds : List D} {k : Str} {q : Kn (D → Prop)}
@[simp ↓] theorem x_pop : dPop i j DE s ρ = oLI i ρ (q := ⟨fun xs => ∃ x, xs[xs.length - 1]? = some x ∧ DE.nx s ((ρ.set i (some (.own (.lst xs.dropLast)))).set j (some (.d x)))⟩) := rfl
@[simp] theorem v_ixD : c2 oIxU (.dct ks ds) (.str k) (q := q) = (∃ d, lkF ks ds k = some d ∧ q.k d) := rfl
@[simp] theorem v_ixU_l {xs : List D} {n : Int} : c2 oIxU (.lst xs) (.int n) (q := q) = c2 oIx (.lst xs) (.int n) (q := q) := rfl
@[simp] theorem v_ixU_t {xs : List D} {n : Int} : c2 oIxU (.tup xs) (.int n) (q := q) = c2 oIx (.tup xs) (.int n) (q := q) := rfl
end
end DL

set_option linter.all false
set_option maxRecDepth 100000
set_option maxHeartbeats 4000000
/-! an object under construction as a region; C(..) as a settled object -/
namespace DL
open PySem PySem.Spec PyProof.Rows L2 GR N01 RZ
/-- a field under construction: its name, whether it is the object's own (may be changed), what it shows -/
abbrev FS := Str × Bool × D
instance : Pk (List FS) := ⟨fun _ _ => none⟩
instance {K : PySem.W.Frag} {mg : Str → Option Value} {R : Reg (List FS)} : RegS K mg R := ⟨fun _ _ h => nomatch h⟩
inductive Fds (K : PySem.W.Frag) (mg : Str → Option Value) (F H : Hp) : List (Str × V) → List FS → List Addr → Prop where
  | nil : Fds K mg F H [] [] []
  | set {n : Str} {v : V} {d : D} {fs : List (Str × V)} {ss : List FS} {ps : List Addr} : Has K mg F v d → Fds K mg F H fs ss ps → Fds K mg F H ((n, v) :: fs) ((n, false, d) :: ss) ps
  | own {n : Str} {p : Addr} {d : D} {fs : List (Str × V)} {ss : List FS} {ps : List Addr} : OwnHas K mg F H p d → Fds K mg F H fs ss ps → Fds K mg F H ((n, .ref p) :: fs) ((n, true, d) :: ss) (p :: ps)
section
variable {K : PySem.W.Frag} {mg : Str → Option Value} {F H F' H' : Hp}
theorem Fds.mono (e : Same F F') : ∀ {fs : List (Str × V)} {ss : List FS} {ps : List Addr}, Fds K mg F H fs ss ps → (∀ p ∈ ps, ∀ o, H p = some o → H' p = some o) → Fds K mg F' H' fs ss ps
  | _, _, _, .nil, _ => .nil
  | _, _, _, .set h r, g => .set (Has.mono e h) (Fds.mono e r g)
  | _, _, _, .own h r, g => .own (h.mono e (g _ List.mem_cons_self)) (Fds.mono e r fun p hp => g p (List.mem_cons_of_mem _ hp))
theorem Fds.alive : ∀ {fs : List (Str × V)} {ss : List FS} {ps : List Addr}, Fds K mg F H fs ss ps → ∀ p ∈ ps, H p ≠ none
  | _, _, _, .nil, _, h => absurd h List.not_mem_nil
  | _, _, _, .set _ r, p, h => r.alive p h
  | _, _, _, .own h r, p, hp => by
    rcases List.mem_cons.mp hp with rfl | hp
    · exact h.here
    · exact r.alive p hp
theorem Fds.solid : ∀ {fs : List (Str × V)} {ss : List FS} {ps : List Addr}, Fds K mg F H fs ss ps → ∀ p ∈ ps, ¬ Nw H p
  | _, _, _, .nil, _, h => absurd h List.not_mem_nil
  | _, _, _, .set _ r, p, h => r.solid p h
  | _, _, _, .own h r, p, hp => by
    rcases List.mem_cons.mp hp with rfl | hp
    · exact h.solid
    · exact r.solid p hp
theorem Fds.names : ∀ {fs : List (Str × V)} {ss : List FS} {ps : List Addr}, Fds K mg F H fs ss ps → fs.map (·.1) = ss.map (·.1)
  | _, _, _, .nil => rfl
  | _, _, _, .set _ r => congrArg (List.cons _) r.names
  | _, _, _, .own _ r => congrArg (List.cons _) r.names
/-- all that it owns is settled -/
theorem Fds.settle (e : Same F F') : ∀ {fs : List (Str × V)} {ss : List FS} {ps : List Addr}, Fds K mg F H fs ss ps → (∀ p ∈ ps, F' p = H p) → HasL K mg F' (fs.map (·.2)) (ss.map (·.2.2))
  | _, _, _, .nil, _ => .nil
  | _, _, _, .set h r, g => .cons (Has.mono e h) (Fds.settle e r g)
  | _, _, _, .own (p := p) (d := d) h r, g => by
    refine .cons ?_ (Fds.settle e r fun p hp => g p (List.mem_cons_of_mem _ hp))
    have gp := g p List.mem_cons_self
    cases d <;> first | exact h.elim | skip
    · obtain ⟨xs, a, b⟩ := h
      exact .lst (gp.trans a) (b.mono e)
    · obtain ⟨kvs, a, b, c⟩ := h
      exact .dct (gp.trans a) b (c.mono e)
    · obtain ⟨kvs, a, b, c⟩ := h
      exact .dtt (gp.trans a) b (c.mono e)
end
def objR (K : PySem.W.Frag) (mg : Str → Option Value) (Ca : Addr) : Reg (List FS) where
  ok := fun ft r F H s => ∃ dx fs ps, (∀ a, ft a ↔ (a = r ∨ a = dx ∨ a ∈ ps)) ∧ (r :: dx :: ps).Nodup ∧ H r = some (.ins Ca dx fs) ∧ H dx = some (.own r) ∧ fs.length ≤ 100 ∧ Fds K mg F H fs s ps
  stab := fun ⟨dx, fs, ps, h, n, h1, h2, h3, h4⟩ e g => ⟨dx, fs, ps, h, n, g _ _ ((h _).mpr (.inl rfl)) h1, g _ _ ((h _).mpr (.inr (.inl rfl))) h2, h3, h4.mono e fun p hp o => g p o ((h p).mpr (.inr (.inr hp)))⟩
  solid := fun ⟨dx, fs, ps, h, n, h1, h2, h3, h4⟩ a z => by
    rcases (h a).mp z with rfl | rfl | hp
    · exact nw_no h1 fun _ y => nomatch y
    · exact nw_no h2 fun _ y => nomatch y
    · exact h4.solid a hp
section
variable {K : PySem.W.Frag} {mg : Str → Option Value}
open Classical in
theorem objR_settle {Ca r : Addr} {c : Str} {ft : Addr → Prop} {F H : Hp} {s : List FS} (hc : mg c = some (.ref Ca)) (h : (objR K mg Ca).ok ft r F H s) (sub : Same F H) (nf : ∀ a, ft a → F a = none) :
    ∃ F', Same F F' ∧ Same F' H ∧ (∀ a, F' a ≠ none → F a ≠ none ∨ ft a) ∧ Has K mg F' (.ref r) (.obj c (s.map (·.1)) (s.map (·.2.2))) := by
  obtain ⟨dx, fs, ps, hf, nd, h1, h2, h3, h4⟩ := h
  let F' : Hp := fun a => if ft a then H a else F a
  have e : Same F F' := fun a o z => by
    show (if ft a then H a else F a) = some o
    by_cases c : ft a
    · rw [nf a c] at z; cases z
    · rw [if_neg c]; exact z
  have at' : ∀ a, ft a → F' a = H a := fun a c => if_pos c
  refine ⟨F', e, fun a o z => ?_, fun a z => ?_, ?_⟩
  · have z : (if ft a then H a else F a) = some o := z
    by_cases c : ft a
    · rw [if_pos c] at z; exact z
    · rw [if_neg c] at z; exact sub _ _ z
  · by_cases c : ft a
    · exact .inr c
    · have z : (if ft a then H a else F a) ≠ none := z
      rw [if_neg c] at z
      exact .inl z
  · exact .obj ((at' r ((hf r).mpr (.inl rfl))).trans h1) hc h4.names (h4.settle e fun p hp => at' p ((hf p).mpr (.inr (.inr hp))))
end
def C.isD : C → Bool
  | .d _ => true
  | _ => false
theorem isD_ar {K : PySem.W.Frag} {mg : Str → Option Value} {r r' : Addr} {F : Hp} : ∀ {cs : List C} {vs : List V}, cs.all C.isD = true → ArL K mg r F vs cs → ArL K mg r' F vs cs
  | [], _, _, .nil => .nil
  | c :: cs, _, h, .cons a t => by
    rw [List.all_cons, Bool.and_eq_true] at h
    refine .cons ?_ (isD_ar h.2 t)
    cases c <;> first | exact a | exact absurd h.1 (by decide)
section
variable {S : Type} [Pk S] {K : PySem.W.Frag} {mg : Str → Option Value} {xc : XC} {R : Reg S} [RegS K mg R] {W : WX}
def tMakeD (K : PySem.W.Frag) (mg : Str → Option Value) (c : Str) (n : Nat) (sp : DSp (List FS)) (W : WX) (t : TA) : TE := fun σ H Q => ∀ Ca, mg c = some (.ref Ca) → t σ H fun vs H1 => ∀ x dx, H1 x = none → H1 dx = none → dx ≠ x →
  lift K mg (objR K mg Ca) n sp (.ref x :: vs) (upd (upd H1 dx (.own x)) x (.ins Ca dx [])) (fun v H2 => v = .non ∧ Q (.ref x) H2) (WE W σ)
def dMake (c : Str) (n : Nat) (sp : DSp (List FS)) (dcs : List C) (da : DA S) : DX S := fun s ρ Q E => da s ρ (fun cs s1 ρ1 => cs.length = n ∧ cs.all C.isD = true ∧ sp (.box :: cs ++ dcs) [] (fun y st => y = .non ∧ Q (.obj c (st.map (·.1)) (st.map (·.2.2))) s1 ρ1) (fun e _ => E e s1 ρ1)) E
theorem sim_make {c : Str} {n : Nat} {sp : DSp (List FS)} {dcs : List C} {ta : TA} {da : DA S} (hm : MonoSp sp) (ha : SimA K mg xc R W ta da) :
    SimE K mg xc R W (tMakeD K mg c (n + 1) (fun cs => sp (cs ++ dcs)) W ta) (dMake c n sp dcs da) where
  mono := fun h e z => ha.mono (fun cs s ρ z => ⟨z.1, z.2.1, hm _ _ _ _ _ _ (fun _ _ z => ⟨z.1, h _ _ _ z.2⟩) (fun _ _ z => e _ _ _ z) z.2.2⟩) e z
  run := fun {r B ft F H σ ρ s EX Q} G w q => by
    intro Ca hC
    refine ha.run G w (ha.mono (fun cs s1 ρ1 z vs ft1 F1 H1 G1 e1 a1 => ?_) (fun _ _ _ z => z) q)
    obtain ⟨hl, hd, z⟩ := z
    intro x dx hx hdx hne
    have up : ∀ a o, H1 a = some o → upd (upd H1 dx (.own x)) x (.ins Ca dx []) a = some o := fun a o h => by
      have n1 : a ≠ x := fun e => by rw [e, hx] at h; cases h
      have n2 : a ≠ dx := fun e => by rw [e, hdx] at h; cases h
      rw [upd_ne n1, upd_ne n2]; exact h
    have back : ∀ a, upd (upd H1 dx (.own x)) x (.ins Ca dx []) a = none → H1 a = none := fun a h => by
      cases e : H1 a with
      | none => rfl
      | some o => rw [up a o e] at h; cases h
    have backN : ∀ a, Nw (upd (upd H1 dx (.own x)) x (.ins Ca dx [])) a → Nw H1 a := fun a h => by
      rcases h with h | ⟨xs, h⟩
      · exact .inl (back a h)
      · cases e : H1 a with
        | none => exact .inl e
        | some o =>
          have := up a o e
          rw [h] at this
          cases this
          exact .inr ⟨xs, e⟩
    have ff : ∀ a, (a = x ∨ a = dx) → F1 a = none := fun a h => by
      rcases h with rfl | rfl
      · exact G1.sub.free hx
      · exact G1.sub.free hdx
    have fH : ∀ a, (a = x ∨ a = dx) → H1 a = none := fun a h => by
      rcases h with rfl | rfl
      · exact hx
      · exact hdx
    refine ⟨by rw [List.length_cons, a1.length, hl], x, fun a => a = x ∨ a = dx, F1, [], .box :: cs, fun a o h => up a o (G1.sub a o h), ff, ?_, .cons rfl (isD_ar hd a1), hm _ _ _ _ _ _ (fun y st z v ft' F' H' c' rg hv => ?_) (fun e s2 z cls d ft' F' H' c' rg hx => ?_) z⟩
    · refine ⟨dx, [], [], fun a => by simp, by simp [Ne.symm hne], upd_same, ?_, by decide, .nil⟩
      rw [upd_ne hne]
      exact upd_same
    · obtain ⟨rfl, z⟩ := z
      cases hv
      obtain ⟨F'', g1, g2, g3, g4⟩ := objR_settle hC rg c'.st.sub (fun a h => (c'.foot a h).1)
      have P : PStep F1 H1 F'' H' := ⟨g2, c'.st.grow.trans g1, fun a h => by
          rcases g3 a h with h | h
          · rcases c'.st.fresh a h with h | h | h
            · exact .inl h
            · exact .inr (backN a h)
            · exact .inr (.inl (fH a h))
          · rcases (c'.foot a h).2 with h | h
            · exact .inr (.inl (fH a h))
            · exact .inr (.inl (back a h)),
        fun a o h => c'.st.keep a o (up a o h) fun z => by rw [fH a z] at h; cases h⟩
      exact ⟨rfl, z _ _ _ _ (G1.pstep P) (e1.trans P.grow) g4⟩
    · have P : PStep F1 H1 F' H' := ⟨c'.st.sub, c'.st.grow, fun a h => by
          rcases c'.st.fresh a h with h | h | h
          · exact .inl h
          · exact .inr (backN a h)
          · exact .inr (.inl (fH a h)),
        fun a o h => c'.st.keep a o (up a o h) fun z => by rw [fH a z] at h; cases h⟩
      exact w _ _ _ _ _ _ _ _ (G1.pstep P) hx z
end
end DL

set_option linter.all false
set_option maxRecDepth 100000
set_option maxHeartbeats 4000000
/-! C(..): the call -/
namespace DL
open PySem PySem.Spec PyProof.Rows L2 GR N01 RZ
/-- a class whose __init__ is this -/
structure DMak (P : Program) (w : World) (K : PySem.W.Frag) (mg : Str → Option Value) (base : Heap) (k : Nat) (c : Str) (ps : List Str) (dcs : List C) (sp : DSp (List FS)) : Prop where
  mono : MonoSp sp
  ex : ∃ f fd ds dvs Ca, FnG P w K mg base (L2.CX P w) k f fd ps (lift K mg (objR K mg Ca) ps.length sp) ∧ Binds K fd ps ds ∧ Vals dvs ds ∧ (∀ r F, ArL K mg r F dvs dcs) ∧ mg c = some (.ref Ca) ∧ Mk K Ca f
section
variable {X : Cx} {CX : CXT} {k : Nat} {f C : Addr} {fd : FuncData} {ps : List Str} {sp : Sp} {dvs : List V} {ds : List Value} {E : L2.St → XK} {x : Str} {p pos : Pos} {e : Expr} {es : List Expr} {t : TA}
theorem run_makeG {pins : List (Addr × Obj)} {σ : L2.St} {H : Hp} {s : Shared} {Q : VK} {us : List Value} {vs : List V} (M : Mk X.K C f) (F : FnG X.prog X.w X.K X.mg X.base CX k f fd ps sp) (hgd : X.A.guards = some []) (hr : Room (k + 1) X.A) (hb : Binds X.K fd ps ds) (hd : Vals dvs ds)
    (hx : PassesAt CX X σ (E σ)) (I : Inv X pins σ H s) (r : Vals vs us)
    (h : ∀ x dx, H x = none → H dx = none → dx ≠ x → sp (.ref x :: (vs ++ dvs)) (upd (upd H dx (.own x)) x (.ins C dx [])) (fun v H2 => v = .non ∧ Q (.ref x) H2) (E σ)) :
    wpAny (model X.prog X.w) X.A (call (.ref C) us) (EP X pins σ Q) X.xe s := by
  have hq := h (s.heap.objs.size + 1) s.heap.objs.size (I.hok.fresh (Nat.le_succ _)) (I.hok.fresh (Nat.le_refl _)) (Nat.ne_of_lt (Nat.lt_succ_self _))
  have I2 := Inv.made (C := C) I
  have r2 : Vals (V.ref (s.heap.objs.size + 1) :: (vs ++ dvs)) (Value.ref (s.heap.objs.size + 1) :: (us ++ ds)) := .cons rfl (r.append hd)
  have hl : (Value.ref (s.heap.objs.size + 1) :: us ++ ds).length = ps.length := by
    have e := r2.length
    rw [F.many _ _ _ _ hq] at e
    exact e.symm
  refine wpAny_call (make_map (f := f) I.kIn M.makes M.init (beq_iff_eq.mp M.fn) (codeAny_mono (F.runs _ X.stack _ _ ⟨Value.ref (s.heap.objs.size + 1) :: us, []⟩ (Value.ref (s.heap.objs.size + 1) :: (us ++ ds)) _ _ (E σ) hgd (hr.make C us [])
    (I2.env0.make C us []) (hb _ (Value.ref (s.heap.objs.size + 1) :: us) I2.kIn hl) r2 hq) fun r s' hq' => ?_))
  cases r with
  | error e => exact hx pins _ _ e s' I2 hq'
  | ok fl =>
    cases fl with
    | ret u =>
      obtain ⟨v, H', I3, rv, ev, q3⟩ := I2.after hq'
      subst ev
      exact ⟨rv, ⟨V.ref (s.heap.objs.size + 1), H', I3, rfl, q3⟩⟩
    | next => exact False.elim hq'
    | brk => exact False.elim hq'
    | cont => exact False.elim hq'
def tMakeS (C : Addr) (sp : Sp) (E : L2.St → XK) (t : TA) : TE := fun σ H Q => t σ H fun vs H1 => ∀ x dx, H1 x = none → H1 dx = none → dx ≠ x → sp (.ref x :: vs) (upd (upd H1 dx (.own x)) x (.ins C dx [])) (fun v H2 => v = .non ∧ Q (.ref x) H2) (E σ)
theorem pe_makeG {sp' : Sp} (i : ∀ vs H Q E, sp' vs H Q E → sp (vs ++ dvs) H Q E) (M : Mk X.K C f) (F : FnG X.prog X.w X.K X.mg X.base CX k f fd ps sp) (hgd : X.A.guards = some []) (hr : Room (k + 1) X.A) (hg : Gl X x) (hm : X.mg x = some (.ref C)) (hb : Binds X.K fd ps ds) (hd : Vals dvs ds) (hx : ∀ σ, PassesAt CX X σ (E σ))
    (ha : PA X (e :: es) t) (hdb : (x == ("__debug__" : Str)) = false := by decide) (he : starEach (e :: es) X.env = (false, eval e X.env) :: starEach es X.env := by rfl) (hpl : (backTo pos (starEach es X.env)).any (·.1) = false := by rfl) :
    PE X (.Call (.Name x p) (e :: es) [] pos) (tMakeS C sp' E t) := by
  refine ⟨fun pins s σ H Q I h => ?_⟩
  refine wpAny_Call_Name_kw (ld_glob I hg hm ?_ hdb)
  refine PySem.W.callWith_K (h₀ := X.base) I.ok.mod.kin M.kp (thn (ha.run pos pins s σ H _ I h) fun us s1 ⟨vs, H1, I1, r, q⟩ => ⟨I1.kIn, ?_⟩) he hpl
  exact run_makeG M F hgd hr hb hd (hx σ) I1 r fun x dx h1 h2 h3 => i (.ref x :: vs) _ _ _ (q x dx h1 h2 h3)
end
section
variable {S : Type} [Pk S] {X : Cx} {xc : XC} {R : Reg S} [RegS X.K X.mg R] {W : WX} {k j : Nat} {c : Str} {ps : List Str} {dcs : List C} {pos p : Pos} {e : Expr} {es : List Expr} {ta : TA} {da : DA S}
theorem qe_make {sp : DSp (List FS)} (n : Nat) (g : DMak X.prog X.w X.K X.mg X.base k c ps dcs sp) (hgd : X.A.guards = some []) (hr : Room j X.A) (hj : k + 1 ≤ j) (hg : Gl X c) (ha : QA X xc R W (e :: es) ta da) (hn : n + 1 + dcs.length = ps.length)
    (hdb : (c == ("__debug__" : Str)) = false := by decide) (he : starEach (e :: es) X.env = (false, eval e X.env) :: starEach es X.env := by rfl) (hpl : (backTo pos (starEach es X.env)).any (·.1) = false := by rfl) :
    QE X xc R W (.Call (.Name c p) (e :: es) [] pos) (tMakeD X.K X.mg c (n + 1) (fun cs => sp (cs ++ dcs)) W ta) (dMake c n sp dcs da) := by
  refine ⟨fun t => ?_, sim_make g.mono ha.sim⟩
  obtain ⟨f, fd, ds, dvs, Ca, F, hb, hd, hdc, hm, M⟩ := g.ex
  exact PE.imp (pe_makeG (E := WE W) (sp' := lift X.K X.mg (objR X.K X.mg Ca) (n + 1) (fun cs => sp (cs ++ dcs))) (lift_app hdc hn) M F hgd (hr.mono hj) hg hm hb hd (fun σ => passAt t.tk σ) (ha.pa t) hdb he hpl) fun σ H Q q => q Ca hm
variable {s : S} {ρ : En} {Q : D → S → En → Prop} {E : EK S} {n : Nat} {sp : DSp (List FS)}
@[simp ↓] theorem x_make : dMake c n sp dcs da s ρ Q E = da s ρ (fun cs s1 ρ1 => cs.length = n ∧ cs.all C.isD = true ∧ callI sp (.box :: cs ++ dcs) [] (q := ⟨fun y st => y = .non ∧ Q (.obj c (st.map (·.1)) (st.map (·.2.2))) s1 ρ1⟩) (e := ⟨fun e _ => E e s1 ρ1⟩)) E := rfl
end
end DL

set_option linter.all false
set_option maxRecDepth 100000
set_option maxHeartbeats 4000000
/-! fields of an object under construction -/
namespace DL
open PySem PySem.Spec PyProof.Rows L2 GR N01 RZ
theorem putF_new : ∀ {fs : List (Str × V)} {f : Str} {v : V}, f ∉ fs.map (·.1) → putF f v fs = fs ++ [(f, v)]
  | [], _, _, _ => rfl
  | (g, x) :: r, f, v, h => by
    have h : f ∉ g :: r.map (·.1) := h
    rw [List.mem_cons, not_or] at h
    rw [putF, if_neg (Ne.symm h.1), putF_new h.2]
    rfl
section
variable {K : PySem.W.Frag} {mg : Str → Option Value} {F H : Hp}
theorem Fds.snoc {f : Str} {v : V} {x : D} (hv : Has K mg F v x) : ∀ {fs : List (Str × V)} {ss : List FS} {ps : List Addr}, Fds K mg F H fs ss ps → Fds K mg F H (fs ++ [(f, v)]) (ss ++ [(f, false, x)]) ps
  | _, _, _, .nil => .set hv .nil
  | _, _, _, .set h r => .set h (Fds.snoc hv r)
  | _, _, _, .own h r => .own h (Fds.snoc hv r)
theorem Fds.snocO {f : Str} {p : Addr} {x : D} (hv : OwnHas K mg F H p x) : ∀ {fs : List (Str × V)} {ss : List FS} {ps : List Addr}, Fds K mg F H fs ss ps → Fds K mg F H (fs ++ [(f, .ref p)]) (ss ++ [(f, true, x)]) (ps ++ [p])
  | _, _, _, .nil => .own hv .nil
  | _, _, _, .set h r => .set h (Fds.snocO hv r)
  | _, _, _, .own h r => .own h (Fds.snocO hv r)
theorem Fds.len : ∀ {fs : List (Str × V)} {ss : List FS} {ps : List Addr}, Fds K mg F H fs ss ps → fs.length = ss.length
  | _, _, _, .nil => rfl
  | _, _, _, .set _ r => congrArg Nat.succ r.len
  | _, _, _, .own _ r => congrArg Nat.succ r.len
end
section
variable {K : PySem.W.Frag} {mg : Str → Option Value} {xc : XC} {Ca r : Addr} {B : Bs} {ft : Addr → Prop} {F H : Hp} {σ : L2.St} {ρ : En} {s : List FS}
theorem root_cstep {o o' : HO} (sub : Same F H) (nf : ∀ a, ft a → F a = none) (hr : ft r) (hH : H r = some o) : CStep ft F H ft F (upd H r o') := by
  refine ⟨⟨fun a u z => ?_, Same.refl F, fun _ z => .inl z, fun a u e n => ?_, fun a z => ?_⟩, fun a z => ⟨nf a z, .inl z⟩⟩
  · have na : a ≠ r := fun e => by rw [e, nf r hr] at z; cases z
    rw [upd_ne na]; exact sub a u z
  · have na : a ≠ r := fun e => n (by rw [e]; exact hr)
    rw [upd_ne na]; exact e
  · by_cases ha : a = r
    · subst ha; rw [upd_same]; exact fun y => nomatch y
    · rw [upd_ne ha]; exact z
/-- a settled value is put into a new field -/
theorem gd_fset (G : Gd K mg xc (objR K mg Ca) r B ft F H σ ρ s) {f : Str} {v : V} {x : D} (hf : f ∉ s.map (·.1)) (hl : s.length < 100) (hv : Has K mg F v x) :
    ∃ dx fs, H r = some (.ins Ca dx fs) ∧ fs.length < 1000 ∧ Gd K mg xc (objR K mg Ca) r B ft F (upd H r (.ins Ca dx (putF f v fs))) σ ρ (s ++ [(f, false, x)]) := by
  obtain ⟨dx, fs, ps, h0, nd, h1, h2, h3, h4⟩ := id G.reg
  have len := h4.len
  have hr : ft r := (h0 r).mpr (.inl rfl)
  rw [List.nodup_cons] at nd
  have hdx : dx ≠ r := fun e => nd.1 (by rw [e]; exact List.mem_cons_self)
  have hps : ∀ p ∈ ps, p ≠ r := fun p hp e => nd.1 (by rw [← e]; exact List.mem_cons_of_mem _ hp)
  have nf : f ∉ fs.map (·.1) := by rw [h4.names]; exact hf
  refine ⟨dx, fs, h1, by omega, G.step (root_cstep G.sub (fun a z => (G.foot a z).1) hr h1) ⟨dx, _, ps, h0, List.nodup_cons.mpr nd, upd_same, by rw [upd_ne hdx]; exact h2, ?_, ?_⟩⟩
  · rw [putF_new nf, List.length_append]
    show fs.length + 1 ≤ 100
    omega
  · rw [putF_new nf]
    exact (Fds.mono (Same.refl F) h4 fun p hp o e => by rw [upd_ne (hps p hp)]; exact e).snoc hv
/-- a fresh object is put into a new field: from now on the object's own -/
theorem gd_fsetF (G : Gd K mg xc (objR K mg Ca) r B ft F H σ ρ s) {f : Str} {p : Addr} {x : D} (hf : f ∉ s.map (·.1)) (hl : s.length < 100) (fp : F p = none) (ho : OwnHas K mg F H p x) (fr : Free B ft σ ρ p) :
    ∃ dx fs ft', H r = some (.ins Ca dx fs) ∧ fs.length < 1000 ∧ Gd K mg xc (objR K mg Ca) r B ft' F (upd H r (.ins Ca dx (putF f (.ref p) fs))) σ ρ (s ++ [(f, true, x)]) := by
  obtain ⟨dx, fs, ps, h0, nd, h1, h2, h3, h4⟩ := id G.reg
  have len := h4.len
  have hr : ft r := (h0 r).mpr (.inl rfl)
  have nd' := nd
  rw [List.nodup_cons] at nd'
  have hdx : dx ≠ r := fun e => nd'.1 (by rw [e]; exact List.mem_cons_self)
  have hps : ∀ q ∈ ps, q ≠ r := fun q hq e => nd'.1 (by rw [← e]; exact List.mem_cons_of_mem _ hq)
  have nf : f ∉ fs.map (·.1) := by rw [h4.names]; exact hf
  have pn : ¬ (p = r ∨ p = dx ∨ p ∈ ps) := fun z => fr.nf ((h0 p).mpr z)
  have pr : p ≠ r := fun e => pn (.inl e)
  have c := root_cstep (o' := .ins Ca dx (putF f (.ref p) fs)) G.sub (fun a z => (G.foot a z).1) hr h1
  have G0 : Gd K mg xc (objR K mg Ca) r B ft F (upd H r (.ins Ca dx (putF f (.ref p) fs))) σ ρ s → True := fun _ => trivial
  have keep : ∀ q, q ≠ r → upd H r (.ins Ca dx (putF f (.ref p) fs)) q = H q := fun q hq => upd_ne hq
  refine ⟨dx, fs, fun a => ft a ∨ a = p, h1, by omega, { st := G.st.trans c.st fun x z => (G.foot x z).2, foot := fun a z => ?_, reg := ?_, len := G.len, sl := fun i c' h => ?_, own := fun i q y e1 e2 => ?_, dist := G.dist }⟩
  · rcases z with z | rfl
    · exact G.foot a z
    · exact ⟨fp, fr.ch⟩
  · refine ⟨dx, _, ps ++ [p], fun a => ?_, ?_, upd_same, by rw [keep dx hdx]; exact h2, ?_, ?_⟩
    · show (ft a ∨ a = p) ↔ _
      rw [h0 a]
      simp only [List.mem_append, List.mem_singleton]
      constructor
      · rintro ((h | h | h) | h)
        · exact .inl h
        · exact .inr (.inl h)
        · exact .inr (.inr (.inl h))
        · exact .inr (.inr (.inr h))
      · rintro (h | h | h | h)
        · exact .inl (.inl h)
        · exact .inl (.inr (.inl h))
        · exact .inl (.inr (.inr h))
        · exact .inr h
    · have e : r :: dx :: (ps ++ [p]) = (r :: dx :: ps) ++ [p] := rfl
      rw [e, List.nodup_append]
      refine ⟨nd, by simp, fun a ha b hb => ?_⟩
      rw [List.mem_singleton.mp hb]
      intro e
      subst e
      exact pn (by simpa using ha)
    · rw [putF_new nf, List.length_append]
      show fs.length + 1 ≤ 100
      omega
    · rw [putF_new nf]
      exact (Fds.mono (Same.refl F) h4 fun q hq o e => by rw [upd_ne (hps q hq)]; exact e).snocO (ho.mono (Same.refl F) fun o e => by rw [upd_ne pr]; exact e)
  · obtain ⟨v, e1, e2⟩ := G.sl i c' h
    refine ⟨v, e1, e2.step c.st fun q e ⟨x, ex⟩ => ?_⟩
    subst e ex
    exact (G.own i q x e1 h).2
  · refine ⟨(G.own i q y e1 e2).1, fun z => ?_⟩
    rcases z with z | rfl
    · exact (G.own i q y e1 e2).2 z
    · exact fr.no i y e1 e2
end
section
variable {K : PySem.W.Frag} {mg : Str → Option Value} {xc : XC} {Ca : Addr} {W : WX}
def dFSet (b : Nat) (f : Str) (dx : DX (List FS)) : DS (List FS) := fun DE s ρ => dx s ρ (fun x s ρ => ρ[b]? = some (some .box) ∧ f ∉ s.map (·.1) ∧ s.length < 100 ∧ DE.nx (s ++ [(f, false, x)]) ρ) DE.ex
def dFSetF (b : Nat) (f : Str) (dx : DX (List FS)) : DS (List FS) := fun DE s ρ => dx s ρ (fun x s ρ => ρ[b]? = some (some .box) ∧ f ∉ s.map (·.1) ∧ s.length < 100 ∧ DE.nx (s ++ [(f, true, x)]) ρ) DE.ex
theorem sims_fset {b : Nat} {f : Str} {te : TE} {dx : DX (List FS)} (hc : Cls K Ca) (hn : NoAttr K Ca f) (hx : SimE K mg xc (objR K mg Ca) W te dx) : SimS K mg xc (objR K mg Ca) W (sFld K (tVar b) te f) (dFSet b f dx) where
  mono := fun h z => hx.mono (fun x s ρ z => ⟨z.1, z.2.1, z.2.2.1, h.nx _ _ z.2.2.2⟩) h.ex z
  run := fun {r B ft F H σ ρ s Dn DE} G w q => by
    refine hx.run G (w.ex _) (hx.mono (fun x s1 ρ1 z v ft1 F1 H1 G1 e1 a1 => ?_) (fun _ _ _ z => z) q)
    obtain ⟨hb, hf, hl, z⟩ := z
    obtain ⟨bv, g1, g2⟩ := G1.sl b _ hb
    obtain rfl : bv = .ref r := g2
    obtain ⟨dx', fs, h1, h2, G2⟩ := gd_fset G1 hf hl a1
    exact ⟨_, g1, r, Ca, dx', fs, rfl, h1, hc, hn, h2, w.nx _ _ _ _ _ _ G2 z⟩
theorem sims_fsetF {b : Nat} {f : Str} {te : TE} {dx : DX (List FS)} (hc : Cls K Ca) (hn : NoAttr K Ca f) (hx : SimF K mg xc (objR K mg Ca) W te dx) : SimS K mg xc (objR K mg Ca) W (sFld K (tVar b) te f) (dFSetF b f dx) where
  mono := fun h z => hx.mono (fun x s ρ z => ⟨z.1, z.2.1, z.2.2.1, h.nx _ _ z.2.2.2⟩) h.ex z
  run := fun {r B ft F H σ ρ s Dn DE} G w q => by
    refine hx.run G (w.ex _) (hx.mono (fun x s1 ρ1 z p ft1 F1 H1 G1 e1 fp ho fr => ?_) (fun _ _ _ z => z) q)
    obtain ⟨hb, hf, hl, z⟩ := z
    obtain ⟨bv, g1, g2⟩ := G1.sl b _ hb
    obtain rfl : bv = .ref r := g2
    obtain ⟨dx', fs, ft', h1, h2, G2⟩ := gd_fsetF G1 hf hl fp ho fr
    exact ⟨_, g1, r, Ca, dx', fs, rfl, h1, hc, hn, h2, w.nx _ _ _ _ _ _ G2 z⟩
end
end DL

set_option linter.all false
set_option maxRecDepth 100000
set_option maxHeartbeats 4000000
/-! a dict that an object under construction has: z in self.f, self.f[k] = v; the rows -/
namespace DL
open PySem PySem.Spec PyProof.Rows L2 GR N01 RZ
def fdGet : List FS → Str → Option (Bool × D)
  | [], _ => none
  | (n, o, d) :: r, f => if f = n then some (o, d) else fdGet r f
def fdPut : List FS → Str → D → List FS
  | [], _, _ => []
  | (n, o, d) :: r, f, y => if f = n then (n, o, y) :: r else (n, o, d) :: fdPut r f y
section
variable {K : PySem.W.Frag} {mg : Str → Option Value} {F H : Hp}
theorem Fds.at : ∀ {fs : List (Str × V)} {ss : List FS} {ps : List Addr} {f : Str} {x : D}, Fds K mg F H fs ss ps → ps.Nodup → fdGet ss f = some (true, x) →
    ∃ p, fs.lookup f = some (.ref p) ∧ p ∈ ps ∧ OwnHas K mg F H p x ∧ ∀ (H' : Hp) (y : D), (∀ q ∈ ps, q ≠ p → ∀ o, H q = some o → H' q = some o) → OwnHas K mg F H' p y → Fds K mg F H' fs (fdPut ss f y) ps
  | _, _, _, f, x, .nil, _, h => by cases h
  | (_, _) :: fs, (n, _, d) :: ss, ps, f, x, .set (v := v) h0 r, nd, h => by
    by_cases c : f = n
    · rw [fdGet, if_pos c] at h; cases h
    · rw [fdGet, if_neg c] at h
      obtain ⟨p, a, b, e, g⟩ := Fds.at r nd h
      refine ⟨p, ?_, b, e, fun H' y k ho => ?_⟩
      · rw [List.lookup_cons, show (f == n) = false by simpa using c]; exact a
      · rw [fdPut, if_neg c]
        exact .set h0 (g H' y k ho)
  | (_, _) :: fs, (n, _, d) :: ss, p0 :: ps, f, x, .own h0 r, nd, h => by
    rw [List.nodup_cons] at nd
    by_cases c : f = n
    · rw [fdGet, if_pos c] at h
      cases h
      subst c
      refine ⟨p0, by simp [List.lookup], List.mem_cons_self, h0, fun H' y k ho => ?_⟩
      rw [fdPut, if_pos rfl]
      exact .own ho (Fds.mono (Same.refl F) r fun q hq o e => k q (List.mem_cons_of_mem _ hq) (fun z => nd.1 (by rw [← z]; exact hq)) o e)
    · rw [fdGet, if_neg c] at h
      obtain ⟨p, a, b, e, g⟩ := Fds.at r nd.2 h
      refine ⟨p, ?_, List.mem_cons_of_mem _ b, e, fun H' y k ho => ?_⟩
      · rw [List.lookup_cons, show (f == n) = false by simpa using c]; exact a
      · rw [fdPut, if_neg c]
        refine .own (h0.mono (Same.refl F) fun o e => k p0 List.mem_cons_self (fun z => nd.1 (by rw [z]; exact b)) o e) (g H' y (fun q hq => k q (List.mem_cons_of_mem _ hq)) ho)
end
section
variable {K : PySem.W.Frag} {mg : Str → Option Value} {xc : XC} {Ca r : Addr} {B : Bs} {ft : Addr → Prop} {F H : Hp} {σ : L2.St} {ρ : En} {s : List FS} {W : WX}
/-- what the object's own field is, and how it may change -/
theorem gd_fat (G : Gd K mg xc (objR K mg Ca) r B ft F H σ ρ s) {f : Str} {x : D} (h : fdGet s f = some (true, x)) :
    ∃ dx fs p, H r = some (.ins Ca dx fs) ∧ fs.lookup f = some (.ref p) ∧ F p = none ∧ OwnHas K mg F H p x ∧ ∀ (o : HO) (y : D), OwnHas K mg F (upd H p o) p y → Gd K mg xc (objR K mg Ca) r B ft F (upd H p o) σ ρ (fdPut s f y) := by
  obtain ⟨dx, fs, ps, h0, nd, h1, h2, h3, h4⟩ := id G.reg
  rw [List.nodup_cons, List.nodup_cons] at nd
  obtain ⟨p, a, b, e, g⟩ := Fds.at h4 nd.2.2 h
  have fp : ft p := (h0 p).mpr (.inr (.inr b))
  have pr : r ≠ p := fun z => nd.1 (by rw [z]; exact List.mem_cons_of_mem _ b)
  have pd : dx ≠ p := fun z => nd.2.1 (by rw [z]; exact b)
  obtain ⟨o0, ho0⟩ := some_of_ne e.here
  refine ⟨dx, fs, p, h1, a, (G.foot p fp).1, e, fun o y ho => G.step (root_cstep G.sub (fun a z => (G.foot a z).1) fp ho0) ?_⟩
  exact ⟨dx, fs, ps, h0, List.nodup_cons.mpr ⟨nd.1, List.nodup_cons.mpr nd.2⟩, by rw [upd_ne pr]; exact h1, by rw [upd_ne pd]; exact h2, h3, g _ y (fun q _ hq o e => by rw [upd_ne hq]; exact e) ho⟩
/-- z in self.f -/
def dFIn (n : Bool) (b : Nat) (f : Str) (da : DOp (List FS)) : DX (List FS) := fun s ρ Q E => da s ρ (fun ra s1 ρ1 => rdv s1 ρ1 (fun x => isS x fun z => ρ1[b]? = some (some .box) ∧ ∃ ks ds, fdGet s1 f = some (true, .dct ks ds) ∧ Q (.bl (ng n (decide (z ∈ ks)))) s1 ρ1) ra) E
theorem isS_mono' {x : D} {k k' : Str → Prop} (h : ∀ i, k i → k' i) (z : isS x k) : isS x k' := isS_mono h z
theorem sim_fin {n : Bool} {b : Nat} {f : Str} {ta : TE} {da : DOp (List FS)} (hc : Cls K Ca) (hn : NoAttr K Ca f) (ha : SimO K mg xc (objR K mg Ca) W ta da) : SimE K mg xc (objR K mg Ca) W (tOp (rInU K n) ta (tFld K (tVar b) f)) (dFIn n b f da) where
  mono := fun h e z => ha.mono (fun x s ρ z => rdv_mono (fun y z => isS_mono (fun k ⟨a, ks, ds, b, c⟩ => ⟨a, ks, ds, b, h _ _ _ c⟩) z) z) e z
  run := fun {r B ft F H σ ρ s EX Q} G w q => by
    refine ha.run G w (ha.mono (fun x s1 ρ1 z v ft1 F1 H1 G1 e1 a1 => ?_) (fun _ _ _ z => z) q)
    obtain ⟨dx, h1, z⟩ := rd_res G1 a1 z
    obtain ⟨k, rfl, hb, ks, ds, hg, z⟩ := isS_of z
    obtain ⟨bv, g1, g2⟩ := G1.sl b _ hb
    obtain rfl : bv = .ref r := g2
    obtain ⟨dx', fs, p, h2, h3, _, ⟨kvs, h4, h5, h6⟩, _⟩ := gd_fat G1 hg
    obtain ⟨rfl, _⟩ := hs_str h1
    refine ⟨_, g1, r, Ca, dx', fs, _, rfl, h2, hc, hn, h3, ?_⟩
    refine .inr (.inr (.inl ⟨p, _, rfl, DGet.k (k := Sum.inr k) h4, ?_⟩))
    rw [valV_str h5.1]
    exact z _ _ _ _ G1 e1 (.bl _)
/-- a key that leaves the heap as it is: a text in a slot, or an item of a tuple in a slot -/
def dKey (j : Nat) (i : Option Int) (ρ : En) (k : Str → Prop) : Prop := match i with
  | none => ∃ z, ρ[j]? = some (some (.d (.str z))) ∧ k z
  | some i => ∃ xs z, ρ[j]? = some (some (.d (.tup xs))) ∧ atI xs i = some (.str z) ∧ k z
def tKey (K : PySem.W.Frag) (j : Nat) : Option Int → TE
  | none => tVar j
  | some i => tOp (rIx K) (tVar j) (tC (.int i))
theorem key_run {S : Type} {R : Reg S} {j : Nat} {i : Option Int} {s : S} (G : Gd K mg xc R r B ft F H σ ρ s) {k : Str → Prop} (h : dKey j i ρ k) : ∃ z, k z ∧ OkS z ∧ ∀ Q : VK, Q (.str z) H → tKey K j i σ H Q := by
  cases i with
  | none =>
    obtain ⟨z, e, h⟩ := h
    obtain ⟨v, g1, g2⟩ := G.sl j _ e
    obtain ⟨rfl, ok⟩ := has_str (show Has K mg F v (.str z) from g2)
    exact ⟨z, h, ok, fun Q q => ⟨_, g1, q⟩⟩
  | some i =>
    obtain ⟨xs, z, e, hat, h⟩ := h
    obtain ⟨v, g1, g2⟩ := G.sl j _ e
    have g2 : Has K mg F v (.tup xs) := g2
    cases g2 with
    | tup hs hl =>
      obtain ⟨u, e2, hu⟩ := hasL_at hl hat
      obtain ⟨rfl, ok⟩ := has_str hu
      exact ⟨z, h, ok, fun Q q => ⟨_, g1, .inr (.inl ⟨_, _, i, _, rfl, rfl, sqT_mono G.sub hs, e2, q⟩)⟩⟩
/-- self.f[key] = v -/
def dFPut (b : Nat) (f : Str) (j : Nat) (i : Option Int) (dx : DX (List FS)) : DS (List FS) := fun DE s ρ => dx s ρ (fun x s ρ => dKey j i ρ fun k => ρ[b]? = some (some .box) ∧ ∃ ks ds, fdGet s f = some (true, .dct ks ds) ∧ ks.length < 16777216 ∧ DE.nx (fdPut s f (putD ks ds k x)) ρ) DE.ex
theorem dKey_mono {j : Nat} {i : Option Int} {k k' : Str → Prop} (h : ∀ z, k z → k' z) (z : dKey j i ρ k) : dKey j i ρ k' := by
  cases i with
  | none => obtain ⟨z, a, b⟩ := z; exact ⟨z, a, h _ b⟩
  | some i => obtain ⟨xs, z, a, b, c⟩ := z; exact ⟨xs, z, a, b, h _ c⟩
theorem sims_fput {b j : Nat} {f : Str} {i : Option Int} {te : TE} {dx : DX (List FS)} (hc : Cls K Ca) (hn : NoAttr K Ca f) (hx : SimE K mg xc (objR K mg Ca) W te dx) : SimS K mg xc (objR K mg Ca) W (sDPut (tFld K (tVar b) f) (tKey K j i) te) (dFPut b f j i dx) where
  mono := fun h z => hx.mono (fun x s ρ z => dKey_mono (fun k ⟨a, ks, ds, c, d, e⟩ => ⟨a, ks, ds, c, d, h.nx _ _ e⟩) z) h.ex z
  run := fun {r B ft F H σ ρ s Dn DE} G w q => by
    refine hx.run G (w.ex _) (hx.mono (fun x s1 ρ1 z v ft1 F1 H1 G1 e1 a1 => ?_) (fun _ _ _ z => z) q)
    obtain ⟨k, ⟨hb, ks, ds, hg, hl, z⟩, ok, kr⟩ := key_run G1 z
    obtain ⟨bv, g1, g2⟩ := G1.sl b _ hb
    obtain rfl : bv = .ref r := g2
    obtain ⟨dx', fs, p, h2, h3, _, ⟨kvs, h4, h5, h6⟩, up⟩ := gd_fat G1 hg
    refine ⟨_, g1, r, Ca, dx', fs, _, rfl, h2, hc, hn, h3, kr _ ?_⟩
    have hnl : kvs.length < sizeLine := by
      have : kvs.length = ks.length := by simpa using congrArg List.length h5.1
      rw [this, sizeLine_eq]; exact hl
    exact ⟨p, _, rfl, DPut.k (k := Sum.inr k) h4 hnl, w.nx _ _ _ _ _ _ (up _ _ (put_own h5 h6 a1 ok)) z⟩
end
end DL

set_option linter.all false
set_option maxRecDepth 100000
set_option maxHeartbeats 4000000
/-! the rows of an __init__ -/
namespace DL
open PySem PySem.Spec PyProof.Rows L2 GR N01 RZ
section
variable {X : Cx} {xc : XC} {Ca : Addr} {W : WX} {e : Expr} {te ta : TE} {dx : DX (List FS)} {da : DOp (List FS)} {pos pos' p px pk ps : Pos} {f : Str}
theorem sfset (b : Nat) {x : Str} (hc : Cls X.K Ca) (hn : NoAttr X.K Ca f) (h : QE X xc (objR X.K X.mg Ca) W e te dx) (hN : X.N[b]? = some x := by rfl) (hv : Vis X.env.scope x := by first | exact Or.inl rfl | exact Or.inr (Or.inl rfl) | exact Or.inr (Or.inr rfl)) (hd : (x == ("__debug__" : Str)) = false := by decide)
    (hcd : (x == ("__classdict__" : Str)) = false := by decide) (hs : swapsWith e (some (.Attribute (.Name x px) f pos')) pos.line X.env = pure false := by rfl) :
    QS X xc (objR X.K X.mg Ca) W (.Assign [.Attribute (.Name x px) f pos'] e pos) (sFld X.K (tVar b) te f) (dFSet b f dx) := ⟨fun k => ps_fld (pe_var hN hv hd hcd) (h.pe k) hs, sims_fset hc hn h.sim⟩
theorem sfsetF (b : Nat) {x : Str} (hc : Cls X.K Ca) (hn : NoAttr X.K Ca f) (h : QF X xc (objR X.K X.mg Ca) W e te dx) (hN : X.N[b]? = some x := by rfl) (hv : Vis X.env.scope x := by first | exact Or.inl rfl | exact Or.inr (Or.inl rfl) | exact Or.inr (Or.inr rfl)) (hd : (x == ("__debug__" : Str)) = false := by decide)
    (hcd : (x == ("__classdict__" : Str)) = false := by decide) (hs : swapsWith e (some (.Attribute (.Name x px) f pos')) pos.line X.env = pure false := by rfl) :
    QS X xc (objR X.K X.mg Ca) W (.Assign [.Attribute (.Name x px) f pos'] e pos) (sFld X.K (tVar b) te f) (dFSetF b f dx) := ⟨fun k => ps_fld (pe_var hN hv hd hcd) (h.pe k) hs, sims_fsetF hc hn h.sim⟩
theorem qfin (b : Nat) {x : Str} (hu : X.A.units + 65 < cLine) (hc : Cls X.K Ca) (hn : NoAttr X.K Ca f) (ha : QO X xc (objR X.K X.mg Ca) W e ta da) (hN : X.N[b]? = some x := by rfl) (hv : Vis X.env.scope x := by first | exact Or.inl rfl | exact Or.inr (Or.inl rfl) | exact Or.inr (Or.inr rfl)) (hd : (x == ("__debug__" : Str)) = false := by decide)
    (hcd : (x == ("__classdict__" : Str)) = false := by decide) (hb : attributeBase (.Name x px) f X.env (eval (.Name x px) X.env) = eval (.Name x px) X.env := by rfl) (hm : behindInMarks .In (.Attribute (.Name x px) f pos') = false := by (with_unfolding_all rfl)) :
    QE X xc (objR X.K X.mg Ca) W (.Compare e [.In] [.Attribute (.Name x px) f pos'] pos) (tOp (rInU X.K false) ta (tFld X.K (tVar b) f)) (dFIn false b f da) :=
  ⟨fun k => pe_cmpR (op_inU hu) (ha.pe k) (pe_fld (pe_var hN hv hd hcd) hb) hm, sim_fin hc hn ha.sim⟩
theorem tfin (b : Nat) {x : Str} (hu : X.A.units + 65 < cLine) (hc : Cls X.K Ca) (hn : NoAttr X.K Ca f) (ha : QO X xc (objR X.K X.mg Ca) W e ta da) (hN : X.N[b]? = some x := by rfl) (hv : Vis X.env.scope x := by first | exact Or.inl rfl | exact Or.inr (Or.inl rfl) | exact Or.inr (Or.inr rfl)) (hd : (x == ("__debug__" : Str)) = false := by decide)
    (hcd : (x == ("__classdict__" : Str)) = false := by decide) (hb : attributeBase (.Name x px) f X.env (eval (.Name x px) X.env) = eval (.Name x px) X.env := by rfl) (hm : behindInMarks .In (.Attribute (.Name x px) f pos') = false := by (with_unfolding_all rfl)) :
    QT X xc (objR X.K X.mg Ca) W (.Compare e [.In] [.Attribute (.Name x px) f pos'] pos) (tTest (tOp (rInU X.K false) ta (tFld X.K (tVar b) f))) (dTst (dFIn false b f da)) :=
  ⟨fun k => pt_cmpR (op_inU hu) (ha.pe k) (pe_fld (pe_var hN hv hd hcd) hb) hm, simt_tst (sim_fin hc hn ha.sim)⟩
/-- a key that leaves the heap as it is -/
structure QKey (X : Cx) (e : Expr) (j : Nat) (i : Option Int) : Prop where
  pe : PE X e (tKey X.K j i)
theorem key0 (j : Nat) {x : Str} (hN : X.N[j]? = some x := by rfl) (hv : Vis X.env.scope x := by first | exact Or.inl rfl | exact Or.inr (Or.inl rfl) | exact Or.inr (Or.inr rfl)) (hd : (x == ("__debug__" : Str)) = false := by decide) (hcd : (x == ("__classdict__" : Str)) = false := by decide) : QKey X (.Name x px) j none := ⟨pe_var hN hv hd hcd⟩
theorem key1 (j : Nat) {x : Str} {m : Int} {km} (hN : X.N[j]? = some x := by rfl) (hv : Vis X.env.scope x := by first | exact Or.inl rfl | exact Or.inr (Or.inl rfl) | exact Or.inr (Or.inr rfl)) (hd : (x == ("__debug__" : Str)) = false := by decide) (hcd : (x == ("__classdict__" : Str)) = false := by decide)
    (hs : PlainIx (.Constant (.int m) km pk) := by intro _ _; rfl) : QKey X (.Subscript (.Name x px) (.Constant (.int m) km pk) p) j (some m) := ⟨pe_ix ix_seq (pe_var hN hv hd hcd) pe_int hs⟩
theorem sfput (b : Nat) {x : Str} {kx : Expr} {j : Nat} {i : Option Int} (hu : X.A.units + 1 < cLine) (hc : Cls X.K Ca) (hn : NoAttr X.K Ca f) (hk : QKey X kx j i) (h : QE X xc (objR X.K X.mg Ca) W e te dx) (hN : X.N[b]? = some x := by rfl) (hv : Vis X.env.scope x := by first | exact Or.inl rfl | exact Or.inr (Or.inl rfl) | exact Or.inr (Or.inr rfl)) (hd : (x == ("__debug__" : Str)) = false := by decide)
    (hcd : (x == ("__classdict__" : Str)) = false := by decide) (hb : attributeBase (.Name x px) f X.env (eval (.Name x px) X.env) = eval (.Name x px) X.env := by rfl) (hs : swapsWith e (some (.Subscript (.Attribute (.Name x px) f pos') kx ps)) pos.line X.env = pure false := by rfl) :
    QS X xc (objR X.K X.mg Ca) W (.Assign [.Subscript (.Attribute (.Name x px) f pos') kx ps] e pos) (sDPut (tFld X.K (tVar b) f) (tKey X.K j i) te) (dFPut b f j i dx) := ⟨fun k => ps_dput hu (pe_fld (pe_var hN hv hd hcd) hb) hk.pe (h.pe k) hs, sims_fput hc hn h.sim⟩
variable {s : List FS} {ρ : En} {b j : Nat} {Q : D → List FS → En → Prop} {E : EK (List FS)} {DE : DEnds (List FS)}
@[simp ↓] theorem x_fset : dFSet b f dx DE s ρ = dx s ρ (fun x s ρ => ρ[b]? = some (some .box) ∧ f ∉ s.map (·.1) ∧ s.length < 100 ∧ DE.nx (s ++ [(f, false, x)]) ρ) DE.ex := rfl
@[simp ↓] theorem x_fsetF : dFSetF b f dx DE s ρ = dx s ρ (fun x s ρ => ρ[b]? = some (some .box) ∧ f ∉ s.map (·.1) ∧ s.length < 100 ∧ DE.nx (s ++ [(f, true, x)]) ρ) DE.ex := rfl
@[simp] theorem fdGet_c {n g : Str} {o : Bool} {d : D} {r : List FS} : fdGet ((n, o, d) :: r) g = if g = n then some (o, d) else fdGet r g := rfl
@[simp] theorem fdPut_c {n g : Str} {o : Bool} {d y : D} {r : List FS} : fdPut ((n, o, d) :: r) g y = if g = n then (n, o, y) :: r else (n, o, d) :: fdPut r g y := rfl
end
abbrev finF (Q : D → List FS → Prop) (E : Exc → List FS → Prop) : DEnds (List FS) := ⟨fun s _ => Q .non s, Q, fun _ _ => False, fun _ _ => False, fun e s _ => E e s⟩
/-- the contract of an __init__: what the object shows, or an error -/
def isp {α : Type} (args : α → List C) (pre : α → Prop) (f : α → Except Exc (List FS)) : DSp (List FS) := fun cs s Q E => ∃ a, cs = .box :: args a ∧ s = [] ∧ pre a ∧ (∀ st, f a = .ok st → Q .non st) ∧ ∀ e, f a = .error e → ∀ st, E e st
theorem isp_mono {α : Type} {args : α → List C} {pre : α → Prop} {f : α → Except Exc (List FS)} : MonoSp (isp args pre f) :=
  fun _ _ _ _ _ _ hq he ⟨a, e, z, p, q, x⟩ => ⟨a, e, z, p, fun st h => hq _ _ (q st h), fun y h st => he _ _ (x y h st)⟩
end DL

set_option linter.all false
set_option maxRecDepth 100000
set_option maxHeartbeats 4000000
/-! sorted(d) of a dict with texts as keys; sorted(rows) of tuples that begin with different texts -/
namespace SQ
open PySem PySem.Spec PyProof.Rows PySem.W L2 FbM SeqAt
section
variable {prog : Program} {w : World} {A : Around} {E : Value → Shared → Prop} {s : Shared} {T : String} {r d : Addr} {n : Nat} {P : Nat → Value → Prop} {OK : Heap → Prop} {Q : Value → Shared → Prop}
theorem sorted_src (KS : PySem.W.KdlSrc prog w T r d n P OK) (hh : A.handled = none) (hok : OK s.heap) (hn : n ≤ sizeLine)
    (h : ∀ (h' : Heap) (tk : Nat) (acc : Array Value), (∀ b o, s.heap.get? b = some o → h'.get? b = some o) → ItemsOf P acc n →
      wpAny (model prog w) A.in1.in1 (Builtin.«list.sort» ⟨[.ref h'.objs.size], []⟩) (fun f s' => f = .done (.ret .none) ∧ Q (.ref h'.objs.size) s') E { s with heap := h'.push (seqObj "list" acc.toList.toArray 0), toks := tk }) :
    wpAny (model prog w) A (call (.builtin "sorted") [.ref r]) Q E s := by
  refine Calls.call_function_entry kind_sorted plain_sorted entry_sorted (args_sorted1 _) ?_
  unfold Builtin.«sorted»
  refine wpAny_bind (m := checkCount "sorted" 1 1 _) (wpAny_pure ?_)
  refine wpAny_bind (PySem.W.kdu_collect (A := A.in1) KS hh hok hn fun h' tk acc hk hacc => ?_)
  have hl : acc.toList.length = n := by rw [Array.length_toList]; exact hacc.1
  refine wpAny_bind (wpAny_newList ?_ (by rw [hl]; exact hn))
  have ho : (h'.push (seqObj "list" acc.toList.toArray 0)).get? h'.objs.size = some (seqObj "list" acc.toList.toArray 0) := Heap.get?_push_size _ rfl
  refine wpAny_bind (wpAny_holding (wpAny_call_entry slot_list_sort ⟨_, ho, rfl⟩ entry_list_sort (wpAny_mono (h h' tk acc hk hacc) (fun f s' hf => ?_) fun _ _ e => e) (args_list_sort _)))
  obtain ⟨rfl, hq⟩ := hf
  exact ⟨_, rfl, wpAny_pure ⟨_, rfl, hq⟩⟩
end
/-- sorted(d) -/
def rSortedD : List V → Hp → VK → Prop := fun xs H Q => ∃ (p : Addr) (kvs : List (Key × V)) (ks : List Str), xs = [.ref p] ∧ H p = some (.dK kvs) ∧ kvs.map (·.1) = ks.map Sum.inr ∧ ∀ (ys : List Str) (q : Addr), ys.Perm ks → sortedS ys = true → H q = none → Q (.ref q) (upd H q (.lst (ys.map V.str)))
theorem call_sortedD {X : Cx} (hc : X.calm = true) : CallR X (.builtin "sorted") rSortedD := by
  intro pins s σ H xs us Q I r h
  obtain ⟨p, kvs, ks, e, hk, hks, q⟩ := h
  subst e
  obtain ⟨u, eu, rx⟩ := vals1 r
  subst eu
  obtain rfl : u = Value.ref p := rx
  obtain ⟨z, lo, vs, rk, hd⟩ := (show ObjOk X.prog X.w H s.heap p (.dK kvs) from I.hok p _ hk)
  obtain ⟨ep, hat⟩ := hd.dictAt
  have hl : kvs.length = vs.length := Paired.length rk
  refine sorted_src (PySem.W.kdl_dict (knd := mixKind X.prog X.w) (kvs := vs) (ep := ep) lo) (I.ok.hd hc) hat (by rw [← hl]; exact z) fun h' tk acc hkeep hacc => ?_
  have I1 : Inv X pins σ H { s with heap := h', toks := tk } := I.kept hkeep
  have kv := DL.keys_vals rk hacc
  rw [DL.keys_v hks] at kv
  have hS := kv.strs
  have ln : acc.toList.length ≤ sizeLine := by
    have := kv.length
    rw [List.length_map] at this
    have h2 : kvs.length = ks.length := by simpa using congrArg List.length hks
    omega
  have ho : (h'.push (seqObj "list" acc.toList.toArray 0)).get? h'.objs.size = some (seqObj "list" acc.toList.toArray 0) := Heap.get?_push_size _ rfl
  refine list_sort_treeKAny strKind_oneLt ho hS.keysOf (fun v₁ v₂ rest e => keyKind_strs (by rw [← e]; exact hS)) ln fun st' hp hs => ⟨rfl, ?_⟩
  obtain ⟨ys, h1, h2, h3⟩ := sorted_out_str hS hp hs
  obtain ⟨e, he⟩ := sortedHeap_at (out := (arrOf st').map (·.2)) ho
  refine ⟨.ref h'.objs.size, upd H h'.objs.size (.lst (ys.map V.str)), I1.laid (t' := tk) (fun b o eo => ?_) (Nat.le_refl _) (show ObjOk X.prog X.w _ _ _ (.lst _) from ⟨?_, ((arrOf st').map (·.2)).toList, e, vals_of_strs h1, ?_⟩), rfl, q ys _ h2 h3 (I1.hok.fresh (Nat.le_refl _))⟩
  · have hb : b < h'.objs.size := Heap.lt_size eo
    rw [sortedHeap_old (Nat.ne_of_lt hb) (by rw [size_push']; exact Nat.lt_succ_of_lt hb)]
    exact Heap.get?_push_of_some _ eo
  · have := kv.length
    rw [List.length_map] at this ⊢
    rw [h2.length_eq]; omega
  · rw [Array.toArray_toList]; exact he
end SQ
namespace DL
open PySem PySem.Spec PyProof.Rows L2 GR N01 RZ
section
variable {S : Type} [Pk S] {K : PySem.W.Frag} {mg : Str → Option Value} {xc : XC} {R : Reg S} [RegS K mg R] {W : WX}
def oSortD : DO1 := fun x Q => match x with
  | .dct ks _ => ∀ ys : List Str, ys.Perm ks → sortedS ys = true → Q (.lst (ys.map D.str))
  | _ => False
theorem simf_sortD {ta : TE} {da : DOp S} (ha : SimO K mg xc R W ta da) : SimF K mg xc R W (tCB SQ.rSortedD (tCons ta tNil)) (dUnO oSortD da) where
  mono := fun h e z => ha.mono (fun x s ρ z => rdv_mono (fun y z => by
    unfold oSortD at z ⊢
    split at z
    · exact fun zs d e => h _ _ _ (z zs d e)
    · exact z.elim) z) e z
  run := fun {r' B ft F H σ ρ s EX Q} G w qq => by
    refine ha.run G w (ha.mono (fun x s1 ρ1 z v ft1 F1 H1 G1 e1 a1 => ?_) (fun _ _ _ z => z) qq)
    obtain ⟨dx, h1, z⟩ := rd_res G1 a1 z
    unfold oSortD at z
    split at z
    · rename_i ks ds
      obtain ⟨a, kvs, rfl, h2, h3, _⟩ := hs_dct G1.sub h1
      refine ⟨a, kvs, ks, rfl, h2, h3.1, fun ys p pm so hp => ?_⟩
      obtain ⟨G3, fp, fr⟩ := G1.born (.lst (ys.map V.str)) hp
      exact z ys pm so p _ _ _ G3 e1 fp ⟨_, upd_same, hasL_strs fun y hy => h3.2 y (pm.mem_iff.mp hy)⟩ fr
    · exact z.elim
end
section
variable {S : Type} [Pk S] {X : Cx} {xc : XC} {R : Reg S} [RegS X.K X.mg R] {W : WX} {e : Expr} {te : TE} {da : DOp S} {pos p : Pos} {ks : List Str} {ds : List D} {q : Kn (D → Prop)}
theorem qsortD (hm : X.mg "sorted" = none) (ha : QO X xc R W e te da) (hc : X.calm = true := by rfl) (hg : Gl X "sorted" := by rfl) (he : starEach [e] X.env = (false, eval e X.env) :: starEach [] X.env := by rfl) (hpl : (backTo pos (starEach [] X.env)).any (·.1) = false := by rfl) :
    QF X xc R W (.Call (.Name "sorted" p) [e] [] pos) (tCB SQ.rSortedD (tCons te tNil)) (dUnO oSortD da) := ⟨fun k => pe_callB (SQ.call_sortedD hc) hg hm (by decide +kernel) (pa_cons (ha.pe k) pa_nil he) (by decide) (by decide) he hpl, simf_sortD ha.sim⟩
@[simp] theorem v_sortD : c1 oSortD (.dct ks ds) (q := q) = (∀ ys : List Str, ys.Perm ks → sortedS ys = true → q.k (.lst (ys.map D.str))) := rfl
end
end DL

set_option linter.all false
set_option maxRecDepth 100000
set_option maxHeartbeats 4000000
/-! sorted(rows) of tuples that begin with different texts -/
namespace SQ
open PySem PySem.Spec PyProof.Rows PySem.W L2 FbM SeqAt
/-- v is a tuple that begins with z -/
def FstAt (h : Heap) (v : Value) (z : Str) : Prop := ∃ a o xs n t r, v = .ref a ∧ h.get? a = some o ∧ o.cls = .type "tuple" ∧ o.data = .seq xs n ∧ xs.toList = Value.str z t :: r
theorem FstAt.keeps {h h' : Heap} {v : Value} {z : Str} (k : ∀ b o, h.get? b = some o → h'.get? b = some o) (q : FstAt h v z) : FstAt h' v z := by
  obtain ⟨a, o, xs, n, t, r, e, h1, h2⟩ := q
  exact ⟨a, o, xs, n, t, r, e, k _ _ h1, h2⟩
theorem fst_one {h : Heap} {v : Value} {z z' : Str} (q : FstAt h v z) (q' : FstAt h v z') : z = z' := by
  obtain ⟨a, o, xs, n, t, r, rfl, h1, h2, h3, h4⟩ := q
  obtain ⟨a', o', xs', n', t', r', e, k1, k2, k3, k4⟩ := q'
  cases e
  rw [h1] at k1; cases k1
  rw [h3] at k3; cases k3
  rw [h4] at k4; cases k4
  rfl
open Classical in
noncomputable def fstKind (h : Heap) (vs : List Value) : PyProof.Rows.KeyKind where
  toKeyOrd := listOrd itemOrd
  keyOf v := if q : v ∈ vs ∧ ∃ z, FstAt h v z then some (keyToks (PyData.str q.2.choose)) else none
  dflt := ([] : List (Int ⊕ List Nat))
theorem fst_some {h : Heap} {vs : List Value} {v : Value} {z : Str} (m : v ∈ vs) (q : FstAt h v z) : (fstKind h vs).keyOf v = some (keyToks (.str z)) := by
  have g : v ∈ vs ∧ ∃ z, FstAt h v z := ⟨m, z, q⟩
  have e : (fstKind h vs).keyOf v = some (keyToks (PyData.str g.2.choose)) := by unfold fstKind; exact dif_pos g
  rw [e, fst_one g.2.choose_spec q]
theorem fst_inv {h : Heap} {vs : List Value} {v : Value} {k : List (Int ⊕ List Nat)} (e : (fstKind h vs).keyOf v = some k) : ∃ z, v ∈ vs ∧ FstAt h v z ∧ k = keyToks (.str z) := by
  by_cases g : v ∈ vs ∧ ∃ z, FstAt h v z
  · have e' : (fstKind h vs).keyOf v = some (keyToks (PyData.str g.2.choose)) := by unfold fstKind; exact dif_pos g
    rw [e'] at e
    exact ⟨_, g.1, g.2.choose_spec, (Option.some.inj e).symm⟩
  · have e' : (fstKind h vs).keyOf v = none := by unfold fstKind; exact dif_neg g
    rw [e'] at e
    cases e
section
variable {prog : Program} {w : World} {A : Around} {s : Shared} {b fin : Bool} {Q : Bool → Shared → Prop}
theorem katLex_same : ∀ (l : List Value) (i : Nat), Q fin s → KatLex prog w A b fin Q (l.zip l) i s
  | [], i, h => kat_nil h
  | v :: l, i, h => kat_cons (EqAt.same v _ _ _ _ (kat_go (fun _ => kat_yes (katLex_same l (i + 1) h)) fun e => nomatch e))
theorem fst_ltAt {vs : List Value} (inj : ∀ v ∈ vs, ∀ v' ∈ vs, ∀ z, FstAt s.heap v z → FstAt s.heap v' z → v = v') (hu : A.units + 2 < cLine) : H.LtAt prog w A s (fstKind s.heap vs) (tuples' b) := by
  intro E x y a c Q ha hc hq
  obtain ⟨zx, mx, fx, rfl⟩ := fst_inv ha
  obtain ⟨zy, my, fy, rfl⟩ := fst_inv hc
  obtain ⟨p, o, xs, n, t, r, rfl, g1, g2, g3, g4⟩ := id fx
  obtain ⟨p', o', xs', n', t', r', rfl, k1, k2, k3, k4⟩ := id fy
  by_cases e : zx = zy
  · subst e
    have e2 := inj _ mx _ my _ fx fy
    cases e2
    rw [g1] at k1; cases k1
    rw [g3] at k3; cases k3
    refine kat_lt g1 g3 g1 g3 (katLex_same _ _ ?_)
    have e9 : (fstKind s.heap vs).blt (keyToks (.str zx)) (keyToks (.str zx)) = false := lex_irrefl _
    rw [e9] at hq
    rw [show decide (xs.size < xs.size) = false from decide_eq_false (Nat.lt_irrefl _)]
    exact hq
  · refine kat_lt g1 g3 k1 k3 ?_
    rw [g4, k4, List.zip_cons_cons]
    refine kat_cons (EqAt.str_str zx t zy t' _ _ _ _ (kat_go (fun h => absurd (by simpa using h) e) fun _ => kat_no (pl_lt (.str zx) (.str zx t) (.str zy t') rfl hu ?_)))
    exact hq
theorem fst_inj {h : Heap} {vs : List Value} {fs : List Str} (e : EachIs (fun v z => FstAt h v z) vs fs) (nd : fs.Nodup) : ∀ v ∈ vs, ∀ v' ∈ vs, ∀ z, FstAt h v z → FstAt h v' z → v = v' := by
  induction e with
  | nil => exact fun v m => absurd m List.not_mem_nil
  | @cons v0 z0 vs fs h1 t ih =>
    rw [List.nodup_cons] at nd
    have no : ∀ v ∈ vs, ∀ z, FstAt h v z → z ≠ z0 := fun v m z q e => by
      obtain ⟨z', m', q'⟩ : ∃ z', z' ∈ fs ∧ FstAt h v z' := by
        clear ih nd
        induction t with
        | nil => exact absurd m List.not_mem_nil
        | cons a _ ih2 =>
          rcases List.mem_cons.mp m with rfl | m
          · exact ⟨_, List.mem_cons_self, a⟩
          · obtain ⟨z', a1, a2⟩ := ih2 m
            exact ⟨z', List.mem_cons_of_mem _ a1, a2⟩
      have := fst_one q q'
      subst this e
      exact nd.1 m'
    intro v m v' m' z q q'
    rcases List.mem_cons.mp m with e1 | m1
    · rcases List.mem_cons.mp m' with e2 | m2
      · rw [e1, e2]
      · exact absurd (fst_one (e1 ▸ q) h1) (no v' m2 z q')
    · rcases List.mem_cons.mp m' with e2 | m2
      · exact absurd (fst_one (e2 ▸ q') h1) (no v m1 z q)
      · exact ih nd.2 v m1 v' m2 z q q'
theorem fst_tups {h : Heap} {vs : List Value} {fs : List Str} (e : EachIs (fun v z => FstAt h v z) vs fs) : ∃ gs, KatTups h vs gs ∧ gs.length = vs.length ∧ ∀ g ∈ gs, ∃ z t, g = Value.str z t := by
  induction e with
  | nil => exact ⟨[], trivial, rfl, fun g m => absurd m List.not_mem_nil⟩
  | @cons v z vs fs h1 t ih =>
    obtain ⟨gs, a, b, c⟩ := ih
    obtain ⟨p, o, xs, n, t, r, rfl, g1, g2, g3, g4⟩ := h1
    refine ⟨.str z t :: gs, ⟨⟨p, o, xs, n, rfl, g1, g2, g3, ?_⟩, a⟩, by simp [b], fun g m => ?_⟩
    · rw [← Array.getElem?_toList, g4]; rfl
    · rcases List.mem_cons.mp m with rfl | m
      · exact ⟨_, _, rfl⟩
      · exact c g m
theorem SortsAt.firsts {vs : List Value} {fs : List Str} (e : EachIs (fun v z => FstAt s.heap v z) vs fs) (nd : fs.Nodup) (hu : A.units + 2 < cLine) : SortsAt prog w A s (fstKind s.heap vs) vs := by
  refine ⟨fun v hv => ?_, tuples' (Value.type "str" != Value.type "tuple"), fst_ltAt (fst_inj e nd) hu, fun h2 E Q hq => ?_⟩
  · obtain ⟨z, _, q⟩ := e.left v hv
    exact ⟨_, fst_some hv q⟩
  · obtain ⟨gs, t1, t2, t3⟩ := fst_tups e
    refine kat_kind (T := Value.type "str") t1 (by omega) (fun f hf => ?_) (beq_self_eq_true _) hq
    obtain ⟨z, t, rfl⟩ := t3 f hf
    exact looks_reads (Reads.str z t)
end
def FstV (K : PySem.W.Frag) (H : Hp) (x : V) (z : Str) : Prop := ∃ p ys, x = .ref p ∧ SqT K H p (.str z :: ys)
noncomputable def sortF {α : Type} (xs : List α) (zs : List Str) : List α := ((xs.zip zs).mergeSort (dataLe false fun p : α × Str => PyData.str p.2)).map (·.1)
theorem each_zip {α : Type} {R : Value → α → Prop} : ∀ {vs : List Value} {xs : List α} {zs : List Str}, EachIs R vs xs → zs.length = xs.length → EachIs (fun v (b : α × Str) => R v b.1) vs (xs.zip zs)
  | _, _, _, .nil, _ => .nil
  | _, _, [], .cons _ _, h => nomatch h
  | _, _, z :: zs, .cons h t, e => .cons h (each_zip t (Nat.succ.inj e))
theorem each_zip2 {α : Type} {R : Value → Str → Prop} : ∀ {vs : List Value} {zs : List Str} {xs : List α}, EachIs R vs zs → zs.length = xs.length → EachIs (fun v (b : α × Str) => R v b.2) vs (xs.zip zs)
  | _, _, [], .nil, _ => .nil
  | _, _, _ :: _, .nil, h => nomatch h
  | _, _, [], .cons _ _, h => nomatch h
  | _, _, x :: xs, .cons h t, e => .cons h (each_zip2 t (Nat.succ.inj e))
theorem each_of_vals : ∀ {xs : List V} {vs : List Value}, Vals xs vs → EachIs (fun v x => RelV x v) vs xs
  | _, _, .nil => .nil
  | _, _, .cons h t => .cons h (each_of_vals t)
theorem vals_of_each2 : ∀ {vs : List Value} {bs : List (V × Str)}, EachIs (fun v (b : V × Str) => RelV b.1 v) vs bs → Vals (bs.map (·.1)) vs
  | _, _, .nil => .nil
  | _, _, .cons h t => .cons h (vals_of_each2 t)
theorem each_memL {α β : Type} {R : α → β → Prop} : ∀ {as : List α} {bs : List β}, EachIs R as bs → EachIs (fun a b => R a b ∧ a ∈ as) as bs
  | _, _, .nil => .nil
  | _, _, .cons h t => .cons ⟨h, List.mem_cons_self ..⟩ ((each_memL t).mono fun _ _ q => ⟨q.1, List.mem_cons_of_mem _ q.2⟩)
/-- sorted(rows) -/
def rSortedF (K : PySem.W.Frag) : List V → Hp → VK → Prop := fun vs H Q => ∃ a xs zs, vs = [.ref a] ∧ SqL K H a xs ∧ Paired (FstV K H) xs zs ∧ zs.Nodup ∧ ∀ p, H p = none → Q (.ref p) (upd H p (.lst (sortF xs zs)))
theorem fsts_at {X : Cx} {pins : List (Addr × Obj)} {σ : L2.St} {H : Hp} {s : Shared} (I : Inv X pins σ H s) : ∀ {xs : List V} {zs : List Str} {vs : List Value}, Vals xs vs → Paired (FstV X.K H) xs zs → EachIs (fun v z => FstAt s.heap v z) vs zs
  | _, _, _, .nil, .nil => .nil
  | _, _, _, .cons r t, .cons f g => by
    refine .cons ?_ (fsts_at I t g)
    obtain ⟨p, ys, rfl, hs⟩ := f
    obtain rfl := r
    obtain ⟨its, rv, ht, hz⟩ := I.tuple hs
    cases rv with
    | @cons _ v0 _ vs0 r1 r2 =>
      obtain ⟨t0, rfl⟩ := r1
      obtain ⟨o, g1, g2, n, g3⟩ := ht
      exact ⟨p, o, _, n, t0, vs0, rfl, g1, g2, g3, by simp⟩
theorem call_sortedF {X : Cx} (hu : X.A.units + 4 < cLine) : CallR X (.builtin "sorted") (rSortedF X.K) := by
  intro pins s σ H ws us Q I r h
  obtain ⟨a, xs, zs, rfl, hs, hf, nd, q⟩ := h
  obtain ⟨its, rv, pl, hz⟩ := I.list hs
  rw [Vals.ref1 r]
  have l1 := rv.length
  have l2 : xs.length = zs.length := DL.paired_len hf
  have hL : its.length ≤ sizeLine := by omega
  have e0 := fsts_at I rv hf
  have e1 : EachIs (fun v z => FstAt (sortingHeap (copyHeap s.heap its) (s.heap.objs.size + 1) its) v z) its zs := e0.mono fun _ _ z => z.keeps fun _ _ => sorting_copy_old
  have S := SortsAt.firsts (prog := X.prog) (w := X.w) (A := X.A.in1.in1) (s := { s with heap := sortingHeap (copyHeap s.heap its) (s.heap.objs.size + 1) its }) e1 nd (by show X.A.units + 1 + 1 + 2 < cLine; omega)
  refine sorted_vals pl.isList S hL ?_
  obtain ⟨ep, he⟩ := sortedAll_at s.heap its (sortVals (fstKind (sortingHeap (copyHeap s.heap its) (s.heap.objs.size + 1) its) its) false its its).toArray
  have eo := sortVals_each (κ := fstKind (sortingHeap (copyHeap s.heap its) (s.heap.objs.size + 1) its) its) (rev := false) (fun b : V × Str => keyToks (PyData.str b.2)) (each_zip (each_of_vals rv) (zs := zs) l2.symm) (each_zip2 (xs := xs) ((each_memL e1).mono fun v z ⟨a, m⟩ => fst_some m a) l2.symm)
  have vo := vals_of_each2 eo
  have hlen : (sortF xs zs).length ≤ sizeLine := by
    unfold sortF
    rw [List.length_map, List.length_mergeSort, List.length_zip]; omega
  exact ⟨.ref _, upd H (s.heap.objs.size + 1) (.lst (sortF xs zs)), I.laid (t' := s.toks) (fun _ _ => sortedAll_old) (Nat.le_succ _) ⟨hlen, _, ep, vo, he⟩, rfl, q _ (I.hok.fresh (Nat.le_succ _))⟩
end SQ
namespace DL
open PySem PySem.Spec PyProof.Rows L2 GR N01 RZ
def fstZ : D → Str
  | .tup (.str z :: _) => z
  | _ => ⟨#[]⟩
def IsFst (x : D) : Prop := ∃ z r, x = .tup (.str z :: r)
def oSortF : DO1 := fun x Q => match x with
  | .lst xs => (∀ x ∈ xs, IsFst x) ∧ (xs.map fstZ).Nodup ∧ ∀ ys, ys.Perm xs → sortedS (ys.map fstZ) = true → Q (.lst ys)
  | _ => False
section
variable {S : Type} [Pk S] {K : PySem.W.Frag} {mg : Str → Option Value} {xc : XC} {R : Reg S} [RegS K mg R] {W : WX}
theorem fst_pair {F H : Hp} (e : Same F H) : ∀ {vs : List V} {xs : List D}, HasL K mg F vs xs → (∀ x ∈ xs, IsFst x) → Paired (SQ.FstV K H) vs (xs.map fstZ)
  | _, _, .nil, _ => .nil
  | _, _, .cons h t, f => by
    refine .cons ?_ (fst_pair e t fun x m => f x (List.mem_cons_of_mem _ m))
    obtain ⟨z, r, rfl⟩ := f _ List.mem_cons_self
    cases h with
    | tup h1 h2 =>
      cases h2 with
      | cons a b =>
        cases a
        exact ⟨_, _, rfl, sqT_mono e h1⟩
theorem sortF_has {F : Hp} {vs : List V} {xs : List D} {zs : List Str} (h : HasL K mg F vs xs) (hl : zs.length = xs.length) : HasL K mg F (SQ.sortF vs zs) (SQ.sortF xs zs) := by
  have e : PySem.W.EachIs (fun (p : V × Str) (c : D × Str) => Has K mg F p.1 c.1 ∧ p.2 = c.2) (vs.zip zs) (xs.zip zs) := by
    induction xs generalizing vs zs with
    | nil => cases h; exact .nil
    | cons x xs ih =>
      cases h with
      | cons a t =>
        cases zs with
        | nil => cases hl
        | cons y ys => exact .cons ⟨a, rfl⟩ (ih t (by simpa using hl))
  have z := PySem.W.sort_each (r := PySem.W.dataLe false fun p : V × Str => PyData.str p.2) (s := PySem.W.dataLe false fun p : D × Str => PyData.str p.2) e (fun p hp q hq => by
    have e1 := (e.zip p hp).2
    have e2 := (e.zip q hq).2
    show (!PySem.W.dataLt (.str q.1.2) (.str p.1.2)) = (!PySem.W.dataLt (.str q.2.2) (.str p.2.2))
    rw [e1, e2])
  have go : ∀ {as : List (V × Str)} {bs : List (D × Str)}, PySem.W.EachIs (fun (p : V × Str) (c : D × Str) => Has K mg F p.1 c.1 ∧ p.2 = c.2) as bs → HasL K mg F (as.map (·.1)) (bs.map (·.1)) := by
    intro as bs h
    induction h with
    | nil => exact .nil
    | cons q t ih => exact .cons q.1 ih
  exact go z
theorem dlt_str (a b : Str) : PySem.W.dataLt (.str a) (.str b) = ltCps a.cps.toList b.cps.toList := by
  rw [ltCps_eq]
  exact PySem.W.dataLt_str a b
theorem sortF_perm {xs : List D} {zs : List Str} (hl : zs.length = xs.length) : (SQ.sortF xs zs).Perm xs := by
  unfold SQ.sortF
  have := (List.mergeSort_perm (xs.zip zs) (PySem.W.dataLe false fun p : D × Str => PyData.str p.2)).map (·.1)
  rwa [List.map_fst_zip (by omega)] at this
theorem sortF_sorted {xs : List D} : sortedS ((SQ.sortF xs (xs.map fstZ)).map fstZ) = true := by
  refine sortedS_of_pairwise _ ?_
  unfold SQ.sortF
  rw [List.map_map]
  have pw := PySem.W.sort_pairwise (PySem.W.sortLe_total (PyProof.Rows.listOrd PyProof.Rows.itemOrd) false fun p : D × Str => PySem.W.keyToks (PyData.str p.2)) (xs.zip (xs.map fstZ))
  have e : ((xs.zip (xs.map fstZ)).mergeSort (PySem.W.dataLe false fun p : D × Str => PyData.str p.2)).map (fstZ ∘ (·.1)) = ((xs.zip (xs.map fstZ)).mergeSort (PySem.W.dataLe false fun p : D × Str => PyData.str p.2)).map (·.2) := by
    refine List.map_congr_left fun p hp => ?_
    have hp' := (List.mergeSort_perm _ _).mem_iff.mp hp
    have : ∀ (l : List D) (p : D × Str), p ∈ l.zip (l.map fstZ) → fstZ p.1 = p.2 := by
      intro l
      induction l with
      | nil => intro p h; cases h
      | cons x l ih =>
        intro p h
        rw [List.map_cons, List.zip_cons_cons] at h
        rcases List.mem_cons.mp h with rfl | h
        · rfl
        · exact ih p h
    exact this xs p hp'
  rw [e, List.pairwise_map]
  refine List.Pairwise.imp (fun {p q} h => ?_) pw
  have h : (!PySem.W.dataLt (.str q.2) (.str p.2)) = true := h
  rw [dlt_str] at h
  simpa using h
theorem simf_sortF {ta : TE} {da : DOp S} (ha : SimO K mg xc R W ta da) : SimF K mg xc R W (tCB (SQ.rSortedF K) (tCons ta tNil)) (dUnO oSortF da) where
  mono := fun h e z => ha.mono (fun x s ρ z => rdv_mono (fun y z => by
    unfold oSortF at z ⊢
    split at z
    · exact ⟨z.1, z.2.1, fun zs d e => h _ _ _ (z.2.2 zs d e)⟩
    · exact z.elim) z) e z
  run := fun {r' B ft F H σ ρ s EX Q} G w qq => by
    refine ha.run G w (ha.mono (fun x s1 ρ1 z v ft1 F1 H1 G1 e1 a1 => ?_) (fun _ _ _ z => z) qq)
    obtain ⟨dx, h1, z⟩ := rd_res G1 a1 z
    unfold oSortF at z
    split at z
    · rename_i xs
      obtain ⟨a, vs, rfl, h2, h3⟩ := hs_lst G1.sub h1
      have hl : (xs.map fstZ).length = xs.length := List.length_map ..
      refine ⟨a, vs, xs.map fstZ, rfl, .inl (.inl h2), fst_pair G1.sub h3 z.1, z.2.1, fun p hp => ?_⟩
      obtain ⟨G3, fp, fr⟩ := G1.born (.lst (SQ.sortF vs (xs.map fstZ))) hp
      exact z.2.2 _ (sortF_perm hl) sortF_sorted p _ _ _ G3 e1 fp ⟨_, upd_same, sortF_has h3 hl⟩ fr
    · exact z.elim
end
section
variable {S : Type} [Pk S] {X : Cx} {xc : XC} {R : Reg S} [RegS X.K X.mg R] {W : WX} {e : Expr} {te : TE} {da : DOp S} {pos p : Pos} {xs : List D} {q : Kn (D → Prop)}
theorem qsortF (hm : X.mg "sorted" = none) (hu : X.A.units + 65 < cLine) (ha : QO X xc R W e te da) (hg : Gl X "sorted" := by rfl) (he : starEach [e] X.env = (false, eval e X.env) :: starEach [] X.env := by rfl) (hpl : (backTo pos (starEach [] X.env)).any (·.1) = false := by rfl) :
    QF X xc R W (.Call (.Name "sorted" p) [e] [] pos) (tCB (SQ.rSortedF X.K) (tCons te tNil)) (dUnO oSortF da) := ⟨fun k => pe_callB (SQ.call_sortedF (by omega)) hg hm (by decide +kernel) (pa_cons (ha.pe k) pa_nil he) (by decide) (by decide) he hpl, simf_sortF ha.sim⟩
@[simp] theorem v_sortF : c1 oSortF (.lst xs) (q := q) = ((∀ x ∈ xs, IsFst x) ∧ (xs.map fstZ).Nodup ∧ ∀ ys, ys.Perm xs → sortedS (ys.map fstZ) = true → q.k (.lst ys)) := rfl
end
/-! there is but one sorted list -/
theorem ltCps_irr (a : List Nat) : ltCps a a = false := by rw [ltCps_eq]; exact decide_eq_false (List.lt_irrefl a)
theorem lt_or {a b : List Nat} : a < b ∨ a = b ∨ b < a := by
  by_cases h : a < b
  · exact .inl h
  · by_cases h2 : b < a
    · exact .inr (.inr h2)
    · exact .inr (.inl (List.le_antisymm (List.not_lt.mp h2) (List.not_lt.mp h)))
theorem sortedS_pw : ∀ {l : List Str}, sortedS l = true → l.Pairwise (fun a b => ltCps b.cps.toList a.cps.toList = false)
  | [], _ => .nil
  | [a], _ => List.pairwise_singleton _ _
  | a :: b :: l, h => by
    have h1 : (!ltCps b.cps.toList a.cps.toList && risingS b l) = true := h
    rw [Bool.and_eq_true] at h1
    have ih := sortedS_pw (l := b :: l) h1.2
    refine List.pairwise_cons.mpr ⟨fun x hx => ?_, ih⟩
    have hb : ltCps b.cps.toList a.cps.toList = false := by simpa using h1.1
    rcases List.mem_cons.mp hx with rfl | hx
    · exact hb
    · have hc := (List.pairwise_cons.mp ih).1 x hx
      rw [ltCps_eq] at hb hc ⊢
      have hb := of_decide_eq_false hb
      have hc := of_decide_eq_false hc
      refine decide_eq_false fun hlt => ?_
      rcases lt_or (a := a.cps.toList) (b := b.cps.toList) with q | q | q
      · exact hc (List.lt_trans hlt q)
      · rw [← q] at hc; exact hc hlt
      · exact hb q
theorem sortedS_one : ∀ {l m : List Str}, l.Perm m → sortedS l = true → sortedS m = true → l = m
  | [], m, h, _, _ => (List.Perm.eq_nil h.symm).symm
  | a :: l, [], h, _, _ => absurd h.length_eq (by simp)
  | a :: l, b :: m, h, hl, hm => by
    have pl := List.pairwise_cons.mp (sortedS_pw hl)
    have pm := List.pairwise_cons.mp (sortedS_pw hm)
    have e : a = b := by
      by_cases e : a = b
      · exact e
      have ha : a ∈ m := by
        rcases List.mem_cons.mp (h.mem_iff.mp List.mem_cons_self) with z | z
        · exact absurd z e
        · exact z
      have hb : b ∈ l := by
        rcases List.mem_cons.mp (h.mem_iff.mpr List.mem_cons_self) with z | z
        · exact absurd z.symm e
        · exact z
      have h1 := pm.1 a ha
      have h2 := pl.1 b hb
      rw [ltCps_eq] at h1 h2
      have h1 := of_decide_eq_false h1
      have h2 := of_decide_eq_false h2
      rcases lt_or (a := a.cps.toList) (b := b.cps.toList) with q | q | q
      · exact absurd q h1
      · exact PySem.W.str_of_cps q
      · exact absurd q h2
    subst e
    rw [sortedS_one h.cons_inv (sortedS_of_pairwise _ pl.2) (sortedS_of_pairwise _ pm.2)]
/-! x is True -/
def oIsB (neg : Bool) : DO2 := fun x y Q => match x, y with
  | .bl a, .bl b => Q (.bl (ng neg (decide (a = b))))
  | _, _ => False
def rIsB (neg : Bool) : R2 := fun x y H Q => ∃ a b, x = .bl a ∧ y = .bl b ∧ Q (.bl (if neg then !decide (a = b) else decide (a = b))) H
theorem op_isB {X : Cx} : OpR X (compareOp .Is) (rIsB false) := op_is_bl
theorem op_isnotB {X : Cx} : OpR X (compareOp .IsNot) (rIsB true) := op_isnot_bl
section
variable {K : PySem.W.Frag} {mg : Str → Option Value}
theorem sim_isB {neg : Bool} : SimH K mg (rIsB neg) (oIsB neg) where
  mono := fun {x y Q Q'} h z => by
    unfold oIsB at z ⊢
    split at z
    · exact h _ z
    · exact z.elim
  run := fun {F H x y dx dy Q} e hx hy q => by
    unfold oIsB at q
    split at q
    · rename_i a b
      have h1 : x = .bl a := by
        rcases hx with h | ⟨p, _, _, ho⟩
        · cases h; rfl
        · exact ho.elim
      have h2 : y = .bl b := by
        rcases hy with h | ⟨p, _, _, ho⟩
        · cases h; rfl
        · exact ho.elim
      refine ⟨a, b, h1, h2, ?_⟩
      have := q _ F H (.refl e) (.bl _)
      cases neg <;> exact this
    · exact q.elim
end
section
variable {n a b : Bool} {q : Kn (D → Prop)}
@[simp] theorem v_isBb : c2 (oIsB n) (.bl a) (.bl b) (q := q) = q.k (.bl (ng n (decide (a = b)))) := rfl
end
/-! readings of an __init__'s dict -/
section
def kyI (j : Nat) (i : Option Int) (ρ : En) [q : Kn (Str → Prop)] : Prop := dKey j i ρ q.k
variable {n : Bool} {b j : Nat} {i : Int} {io : Option Int} {f : Str} {s : List FS} {ρ : En} {Q : D → List FS → En → Prop} {E : EK (List FS)} {DE : DEnds (List FS)} {da : DOp (List FS)} {dx : DX (List FS)} {q : Kn (Str → Prop)}
@[simp ↓] theorem x_fin : dFIn n b f da s ρ Q E = da s ρ (fun ra s1 ρ1 => rdv s1 ρ1 (fun x => c1 isS x (q := ⟨fun z => ρ1[b]? = some (some .box) ∧ ∃ ks ds, fdGet s1 f = some (true, .dct ks ds) ∧ Q (.bl (ng n (decide (z ∈ ks)))) s1 ρ1⟩)) ra) E := rfl
@[simp ↓] theorem x_fput : dFPut b f j io dx DE s ρ = dx s ρ (fun x s ρ => kyI j io ρ (q := ⟨fun k => ρ[b]? = some (some .box) ∧ ∃ ks ds, fdGet s f = some (true, .dct ks ds) ∧ ks.length < 16777216 ∧ DE.nx (fdPut s f (putD ks ds k x)) ρ⟩)) DE.ex := rfl
@[simp] theorem v_ky0 : kyI j none ρ (q := q) = (∃ z, ρ[j]? = some (some (.d (.str z))) ∧ q.k z) := rfl
@[simp] theorem v_ky1 : kyI j (some i) ρ (q := q) = (∃ xs z, ρ[j]? = some (some (.d (.tup xs))) ∧ atI xs i = some (.str z) ∧ q.k z) := rfl
end
section
variable {n : Bool} {k : Str} {ks : List Str} {ds : List D} {q : Kn (D → Prop)} {qb : Kn (Bool → Prop)}
@[simp ↓] theorem v_inD : c2 (oIn n) (.str k) (.dct ks ds) (q := q) = q.k (.bl (ng n (decide (k ∈ ks)))) := rfl
@[simp] theorem v_inD_ : c2 (oIn n) (.str k) (.dct ks ds) (q := q) = q.k (.bl (ng n (decide (k ∈ ks)))) := rfl
@[simp] theorem v_lenD : c1 oLen (.dct ks ds) (q := q) = q.k (.int ks.length) := rfl
@[simp] theorem v_truDc : c1 truD (.dct ks ds) (q := qb) = qb.k (!ks.isEmpty) := rfl
end
end DL

set_option linter.all false
set_option maxRecDepth 100000
set_option maxHeartbeats 4000000
/-! list(reversed(xs)), xs a list -/
namespace RV
open PySem PySem.Spec PyProof.Rows L2 RT PySem.W SQ FbM
section
variable {prog : Program} {w : World} {A : Around} {E : Value → Shared → Prop} {s : Shared}
/-- a list of ours is filled from a list's reverse iterator -/
theorem fill_rev {R : Result → Shared → Prop} {it l S : Addr} {items : Array Value} {res : Value} {c₀ : Nat} (hh : A.handled = none) (hit : s.heap.IsRevIter it l ((items.size : Int) - 1)) (hl : s.heap.IsList l items) (hne : l ≠ it) (hn : items.size ≤ sizeLine)
    (hS : s.heap.get? S = some { cls := .type "list", data := .seq #[] c₀ }) (hSi : S ≠ it) (hSl : S ≠ l)
    (hR : ∀ (h' : Heap) (tk : Nat) (acc : Array Value) (c' : Nat), (∀ b o, b ≠ S → b ≠ it → s.heap.get? b = some o → h'.get? b = some o) → h'.get? S = some { cls := .type "list", dict := none, data := .seq acc c', slots := #[] } → ItemsOf (fun i v => items[items.size - 1 - i]? = some v) acc items.size → R (.ok (.ret res)) { s with heap := h', toks := tk }) :
    wpAny (model prog w) A.in1 (Builtin.List.listExtendWith (.ref S) (.ref it) res)
      (fun fin s' => match fin with | .done f => R (.ok f) s' | .again c' => c'.quiet = true ∧ codeAny (model prog w) A c' R s') (fun e s' => R (.error e) s') s := by
  have Wk := (Walks.listRev (prog := prog) (w := w) (A := A.in1) hh it l hne items).toS
  have out : S ∉ [it, l] := by
    simp only [List.mem_cons, List.not_mem_nil, or_false, not_or]
    exact ⟨hSi, hSl⟩
  have ty : s.TypeIs (.ref it) "list_reverseiterator" := hit.typeIs
  unfold Builtin.List.listExtendWith
  refine wpAny_bind (wpAny_typeOf ty ?_)
  have not_same : Builtin.List.listSameRef (.ref S) (.ref it) = false := by simp [Builtin.List.listSameRef, hSi]
  rw [if_neg (by rw [not_same]; decide)]
  refine wpAny_bind (wpAny_pyIter_revIter hit (wpAny_bind (wpAny_holding ?_)))
  unfold Builtin.List.listLengthHint
  refine wpAny_bind (wpAny_specialOf ty nolen_lri ?_)
  show wpAny _ A.in1 (specialOf (Value.ref it) (Str.ofString "__length_hint__") >>= _) _ _ s
  refine wpAny_bind (wpAny_specialOf ty hint_lri ?_)
  generalize hx : ("list_reverseiterator.__length_hint__" : String) = x0
  wp_delta
  rw [show splitId x0 = some ("list_reverseiterator", "__length_hint__") from by subst hx; decide +kernel]
  subst hx
  refine wpAny_bind (wpAny_isInstance (b := true) ty (by rw [isSubtype_type]; kernel_rfl) (wpAny_pure ?_))
  rw [if_neg (by decide)]
  have e0 : ((items.size : Nat) : Int) - 1 - ((0 : Nat) : Int) = (items.size : Int) - 1 := by omega
  refine wpAny_pure ⟨plainId_quiet F.plain_extend_loop _, codeAny_extend_loopS Wk hn S out res items.size 0 _ #[] c₀ rfl (Nat.zero_le _) ⟨Nat.zero_le _, by rw [e0]; exact hit, hl⟩ hS (ItemsOf.nil _) fun s' acc c' mv hS' got => ?_⟩
  rw [Moved.eq_with mv]
  refine hR s'.heap s'.toks acc c' (fun b o hb hb2 e => mv.heap b o (fun z => ?_) e) hS' got
  rcases List.mem_cons.mp z with y | y
  · exact hb y
  · exact hb2 (List.mem_singleton.mp y)
theorem call_list_rev {it l : Addr} {items : Array Value} {Q : Value → Shared → Prop} (hh : A.handled = none) (hit : s.heap.IsRevIter it l ((items.size : Int) - 1)) (hl : s.heap.IsList l items) (hne : l ≠ it) (hn : items.size ≤ sizeLine)
    (hQ : ∀ (h' : Heap) (tk : Nat) (acc : Array Value) (c' : Nat), (∀ b o, b ≠ it → s.heap.get? b = some o → h'.get? b = some o) → h'.get? s.heap.objs.size = some { cls := .type "list", dict := none, data := .seq acc c', slots := #[] } →
      ItemsOf (fun i v => items[items.size - 1 - i]? = some v) acc items.size → Q (.ref s.heap.objs.size) { s with heap := h', toks := tk }) : wpAny (model prog w) A (call (.type "list") [.ref it]) Q E s := by
  refine callType_codes (Q₁ := fun obj s₁ => obj = .ref s.heap.objs.size ∧ s₁ = { s with heap := s.heap.push { cls := .type "list", data := .seq #[] } }) F.called_list (F.typeCall_list_1 _) F.entry_list_init (code_list_new _ ⟨rfl, rfl⟩) ?_
  rintro obj s₁ ⟨rfl, rfl⟩
  obtain ⟨oi, hoi, _⟩ := id hit
  obtain ⟨ol, hol, _⟩ := id hl
  have hSi : s.heap.objs.size ≠ it := Nat.ne_of_gt (Heap.lt_size hoi)
  have hSl : s.heap.objs.size ≠ l := Nat.ne_of_gt (Heap.lt_size hol)
  have hS : (s.heap.push { cls := .type "list", data := .seq #[] }).get? s.heap.objs.size = some { cls := .type "list", data := .seq #[] } := Heap.get?_push_size _ rfl
  refine ⟨⟨_, hS, rfl⟩, F.args_list_init_2 _ _, ?_⟩
  show wpAny _ _ (do let old ← Builtin.List.listItems (.ref s.heap.objs.size); Builtin.List.listUpdate (.ref s.heap.objs.size) (fun _ => #[]); letGo old.toList.reverse; Builtin.List.listExtendWith (.ref s.heap.objs.size) (.ref it) .none) _ _ _
  refine wpAny_bind (listItems_at hS rfl (wpAny_bind (listUpdate_at hS rfl (wpAny_bind (wpAny_letGo ?_)) (Nat.zero_le _) (Nat.zero_le _))))
  have hS₂ := Heap.get?_update_self (Obj.mapSeq (fun _ => (#[] : Array Value))) hS rfl
  have oth : ∀ b o, b ≠ s.heap.objs.size → s.heap.get? b = some o → ((s.heap.push { cls := .type "list", data := .seq #[] }).update s.heap.objs.size (Obj.mapSeq (fun _ => (#[] : Array Value)))).get? b = some o :=
    fun b o hb e => (Heap.get?_update_other _ _ (Ne.symm hb)).trans (Heap.get?_push_of_some _ e)
  refine fill_rev (A := A.in1) hh (hit.at fun o e => oth _ _ (Ne.symm hSi) e) (l := l) ?_ hne hn hS₂ hSi hSl fun h' tk acc c' hk hS' got => ?_
  · obtain ⟨o, ho, r⟩ := hl
    exact ⟨o, oth _ _ (Ne.symm hSl) ho, r⟩
  · exact ⟨rfl, hQ h' tk acc c' (fun b o hb e => hk b o (Nat.ne_of_lt (Heap.lt_size e)) hb (oth b o (Nat.ne_of_lt (Heap.lt_size e)) e)) hS' got⟩
end
section
variable {X : Cx}
def tLstRev (K : PySem.W.Frag) (te : TE) : TE := fun σ H Q => te σ H fun v H1 => ∃ (a : Addr) (xs : List V), v = .ref a ∧ SqL K H1 a xs ∧ ∀ p, H1 p = none → Q (.ref p) (upd H1 p (.lst xs.reverse))
theorem pe_lstRev {e : Expr} {te : TE} {p p2 pos pos2 : Pos} (hc : X.calm = true) (hg : Gl X "list") (hm : X.mg "list" = none) (hg2 : Gl X "reversed") (hm2 : X.mg "reversed" = none) (he : PE X e te)
    (hs : starEach [e] X.env = (false, eval e X.env) :: starEach [] X.env := by rfl)
    (hs2 : starEach [.Call (.Name "reversed" p2) [e] [] pos2] X.env = (false, eval (.Call (.Name "reversed" p2) [e] [] pos2) X.env) :: starEach [] X.env := by rfl) :
    PE X (.Call (.Name "list" p) [.Call (.Name "reversed" p2) [e] [] pos2] [] pos) (tLstRev X.K te) := by
  refine ⟨fun pins s0 σ G Q I0 hq => ?_⟩
  refine Call_ (ld_blt I0 hg hm (u := .type "list") (by decide +kernel) (PyProof.Rows.callWith_type1 (args_cons (Call_ (ld_blt I0 hg2 hm2 PyProof.Rows.boot_reversed (PyProof.Rows.callWith_type1 (args_cons (thn (he.run pins s0 σ G _ I0 hq) fun u s1 hu => args_nil ?_) hs) hs rfl))) hs2) hs2 rfl))
  obtain ⟨v, G1, I1, r1, a, xs, rfl, hxs, q⟩ := hu
  obtain rfl : u = Value.ref a := r1
  obtain ⟨its, rv, pl, hz⟩ := I1.list hxs
  have hn : its.toArray.size ≤ sizeLine := by rw [List.size_toArray, ← rv.length]; exact hz
  refine call_reversed_list pl.isList (args_nil ?_)
  have I2 : Inv X pins σ G1 { s1 with heap := s1.heap.push (revObj a ((its.toArray.size : Int) - 1)) } := I1.kept (t' := s1.toks) fun b o e => Heap.get?_push_of_some _ e
  obtain ⟨f0, f1, f2, f3, f4, f5⟩ := I1.fpOk (H' := G1) (b := s1.heap.objs.size) (Nat.le_refl _) (I1.hok.fresh (Nat.le_refl _))
  have hl := pl.isList
  obtain ⟨ol, hol, _⟩ := id hl
  refine call_list_rev (s := { s1 with heap := s1.heap.push (revObj a ((its.toArray.size : Int) - 1)) }) (I1.ok.hd hc) ⟨_, Heap.get?_push_size _ rfl, rfl, rfl⟩ (hl.push _) (Nat.ne_of_lt (Heap.lt_size hol)) hn fun h' tk acc c' hk hS' got => ?_
  have I3 : Inv X pins σ G1 { s1 with heap := h', toks := tk } := I2.turned (t' := tk) (fun b o hb e => hk b o hb e) f0 f1 f3 f4 f5
  have ge : s1.heap.objs.size ≤ (s1.heap.push (revObj a ((its.toArray.size : Int) - 1))).objs.size := by rw [size_push']; exact Nat.le_succ _
  have n0 : G1 (s1.heap.push (revObj a ((its.toArray.size : Int) - 1))).objs.size = none := I1.hok.fresh ge
  have rc := FbM.rec_new I1 ge
  exact ⟨.ref _, _, SQ.track (c := c') (its := acc.toList) rc I3 n0 (by rw [Array.toArray_toList]; exact hS') (vals_rev rv got) (by rw [List.length_reverse]; exact hz), rfl, q _ n0⟩
end
end RV

namespace DL
open PySem PySem.Spec PyProof.Rows L2 GR N01 RZ
section
variable {S : Type} [Pk S] {K : PySem.W.Frag} {mg : Str → Option Value} {xc : XC} {R : Reg S} [RegS K mg R] {W : WX}
def oRevL : DO1 := fun x Q => match x with
  | .lst xs => Q (.lst xs.reverse)
  | _ => False
theorem simf_lrev {ta : TE} {da : DOp S} (ha : SimO K mg xc R W ta da) : SimF K mg xc R W (RV.tLstRev K ta) (dUnO oRevL da) where
  mono := fun h e z => ha.mono (fun x s ρ z => rdv_mono (fun y z => by
    unfold oRevL at z ⊢
    split at z <;> first | exact h _ _ _ z | exact z.elim) z) e z
  run := fun {r' B ft F H σ ρ s EX Q} G w q => by
    refine ha.run G w (ha.mono (fun x s1 ρ1 z v ft1 F1 H1 G1 e1 a1 => ?_) (fun _ _ _ z => z) q)
    obtain ⟨dx, h1, z⟩ := rd_res G1 a1 z
    unfold oRevL at z
    split at z
    · obtain ⟨p, xs, rfl, h2, h3⟩ := hs_lst G1.sub h1
      refine ⟨p, xs, rfl, .inl (.inl h2), fun l hl => ?_⟩
      obtain ⟨G2, fp, fr⟩ := G1.born (.lst xs.reverse) hl
      exact z l _ _ _ G2 e1 fp ⟨xs.reverse, upd_same, h3.rev⟩ fr
    · exact z.elim
end
section
variable {S : Type} [Pk S] {X : Cx} {xc : XC} {R : Reg S} [RegS X.K X.mg R] {W : WX} {e : Expr} {te : TE} {da : DOp S} {pos pos2 p p2 : Pos} {xs : List D} {q : Kn (D → Prop)}
theorem qlrev (hm : X.mg "list" = none) (hm2 : X.mg "reversed" = none) (ha : QO X xc R W e te da) (hc : X.calm = true := by rfl) (hg : Gl X "list" := by rfl) (hg2 : Gl X "reversed" := by rfl)
    (hs : starEach [e] X.env = (false, eval e X.env) :: starEach [] X.env := by rfl)
    (hs2 : starEach [.Call (.Name "reversed" p2) [e] [] pos2] X.env = (false, eval (.Call (.Name "reversed" p2) [e] [] pos2) X.env) :: starEach [] X.env := by rfl) :
    QF X xc R W (.Call (.Name "list" p) [.Call (.Name "reversed" p2) [e] [] pos2] [] pos) (RV.tLstRev X.K te) (dUnO oRevL da) := ⟨fun k => RV.pe_lstRev hc hg hm hg2 hm2 (ha.pe k) hs hs2, simf_lrev ha.sim⟩
@[simp] theorem v_lrev : c1 oRevL (.lst xs) (q := q) = q.k (.lst xs.reverse) := rfl
end
end DL

set_option linter.all false
set_option maxRecDepth 100000
set_option maxHeartbeats 4000000
/-! objects, lists and dicts that several hold and that change: a region with a store -/
namespace DL
open PySem PySem.Spec PyProof.Rows L2 GR N01 RZ
abbrev Sto := List (Addr × D)
/-- whether the box of digits is there, and the store -/
abbrev MS := Bool × Sto
def lkS : Sto → Addr → Option D
  | [], _ => none
  | (b, d) :: st, a => if a = b then some d else lkS st a
def setS : Sto → Addr → D → Sto
  | [], _, _ => []
  | (b, d) :: st, a, y => if a = b then (b, y) :: st else (b, d) :: setS st a y
def pkS (st : Sto) (a : Addr) : Option D := match lkS st a with
  | some (.lst xs) => some (.lst xs)
  | some (.dct ks xs) => some (.dct ks xs)
  | some (.dtt ks xs) => some (.dtt ks xs)
  | _ => none
instance : Pk MS := ⟨fun s a => pkS s.2 a⟩
/-- a cell: what it leans on beside its own address -/
def CellAt (K : PySem.W.Frag) (mg : Str → Option Value) (F H : Hp) (a : Addr) : D → List Addr → Prop
  | .lst xs, ex => ex = [] ∧ OwnHas K mg F H a (.lst xs)
  | .dct ks xs, ex => ex = [] ∧ OwnHas K mg F H a (.dct ks xs)
  | .dtt ks xs, ex => ex = [] ∧ OwnHas K mg F H a (.dtt ks xs)
  | .obj c ns ds, ex => ∃ Ca dx fs, ex = [dx] ∧ mg c = some (.ref Ca) ∧ H a = some (.ins Ca dx fs) ∧ H dx = some (.own a) ∧ fs.map (·.1) = ns ∧ HasL K mg F (fs.map (·.2)) ds ∧ fs.length ≤ 100
  | _, _ => False
inductive Cells (K : PySem.W.Frag) (mg : Str → Option Value) (F H : Hp) : Sto → List Addr → Prop where
  | nil : Cells K mg F H [] []
  | cons {a : Addr} {d : D} {ex : List Addr} {st : Sto} {fp : List Addr} : CellAt K mg F H a d ex → Cells K mg F H st fp → Cells K mg F H ((a, d) :: st) ((a :: ex) ++ fp)
section
variable {K : PySem.W.Frag} {mg : Str → Option Value} {F H F' H' : Hp}
theorem CellAt.mono {a : Addr} {d : D} {ex : List Addr} (e : Same F F') (h : CellAt K mg F H a d ex) (k : ∀ b ∈ a :: ex, ∀ o, H b = some o → H' b = some o) : CellAt K mg F' H' a d ex := by
  cases d <;> first | exact h.elim | skip
  · exact ⟨h.1, h.2.mono e (k a List.mem_cons_self)⟩
  · exact ⟨h.1, h.2.mono e (k a List.mem_cons_self)⟩
  · obtain ⟨Ca, dx, fs, h1, h2, h3, h4, h5, h6, h7⟩ := h
    subst h1
    exact ⟨Ca, dx, fs, rfl, h2, k _ List.mem_cons_self _ h3, k _ (List.mem_cons_of_mem _ List.mem_cons_self) _ h4, h5, h6.mono e, h7⟩
  · exact ⟨h.1, h.2.mono e (k a List.mem_cons_self)⟩
theorem CellAt.alive {a : Addr} {d : D} {ex : List Addr} (h : CellAt K mg F H a d ex) : ∀ b ∈ a :: ex, H b ≠ none := by
  intro b hb
  cases d <;> first | exact h.elim | skip
  · obtain ⟨rfl, h⟩ := h; rw [List.mem_singleton.mp hb]; exact h.here
  · obtain ⟨rfl, h⟩ := h; rw [List.mem_singleton.mp hb]; exact h.here
  · obtain ⟨Ca, dx, fs, rfl, h2, h3, h4, h5, h6, h7⟩ := h
    rcases List.mem_cons.mp hb with rfl | hb
    · exact ne_of_some h3
    · rw [List.mem_singleton.mp hb]; exact ne_of_some h4
  · obtain ⟨rfl, h⟩ := h; rw [List.mem_singleton.mp hb]; exact h.here
theorem CellAt.solid {a : Addr} {d : D} {ex : List Addr} (h : CellAt K mg F H a d ex) : ∀ b ∈ a :: ex, ¬ Nw H b := by
  intro b hb
  cases d <;> first | exact h.elim | skip
  · obtain ⟨rfl, h⟩ := h; rw [List.mem_singleton.mp hb]; exact h.solid
  · obtain ⟨rfl, h⟩ := h; rw [List.mem_singleton.mp hb]; exact h.solid
  · obtain ⟨Ca, dx, fs, rfl, h2, h3, h4, h5, h6, h7⟩ := h
    rcases List.mem_cons.mp hb with rfl | hb
    · exact nw_no h3 fun _ y => nomatch y
    · rw [List.mem_singleton.mp hb]; exact nw_no h4 fun _ y => nomatch y
  · obtain ⟨rfl, h⟩ := h; rw [List.mem_singleton.mp hb]; exact h.solid
theorem Cells.mono (e : Same F F') : ∀ {st : Sto} {fp : List Addr}, Cells K mg F H st fp → (∀ b ∈ fp, ∀ o, H b = some o → H' b = some o) → Cells K mg F' H' st fp
  | _, _, .nil, _ => .nil
  | _, _, .cons h r, k => .cons (h.mono e fun b hb => k b (List.mem_append_left _ hb)) (Cells.mono e r fun b hb => k b (List.mem_append_right _ hb))
theorem Cells.alive : ∀ {st : Sto} {fp : List Addr}, Cells K mg F H st fp → ∀ b ∈ fp, H b ≠ none
  | _, _, .nil, _, h => absurd h List.not_mem_nil
  | _, _, .cons h r, b, hb => (List.mem_append.mp hb).elim (h.alive b) (r.alive b)
theorem Cells.solid : ∀ {st : Sto} {fp : List Addr}, Cells K mg F H st fp → ∀ b ∈ fp, ¬ Nw H b
  | _, _, .nil, _, h => absurd h List.not_mem_nil
  | _, _, .cons h r, b, hb => (List.mem_append.mp hb).elim (h.solid b) (r.solid b)
theorem Cells.mem : ∀ {st : Sto} {fp : List Addr}, Cells K mg F H st fp → ∀ p ∈ st, p.1 ∈ fp
  | _, _, .nil, _, h => absurd h List.not_mem_nil
  | _, _, .cons h r, p, hp => by
    rcases List.mem_cons.mp hp with rfl | hp
    · exact List.mem_append_left _ List.mem_cons_self
    · exact List.mem_append_right _ (r.mem p hp)
theorem Cells.app : ∀ {st st' : Sto} {fp fp' : List Addr}, Cells K mg F H st fp → Cells K mg F H st' fp' → Cells K mg F H (st ++ st') (fp ++ fp')
  | _, _, _, _, .nil, h => h
  | _, _, _, _, .cons (a := a) (ex := ex) h r, h' => by
    have := Cells.cons h (r.app h')
    rw [← List.append_assoc] at this
    exact this
theorem Cells.split : ∀ {st st' : Sto} {fp : List Addr}, Cells K mg F H (st ++ st') fp → ∃ f1 f2, fp = f1 ++ f2 ∧ Cells K mg F H st f1 ∧ Cells K mg F H st' f2
  | [], _, fp, h => ⟨[], fp, rfl, .nil, h⟩
  | (a, d) :: st, st', _, .cons (ex := ex) h r => by
    obtain ⟨f1, f2, e, h1, h2⟩ := Cells.split r
    exact ⟨_, f2, by rw [e, ← List.append_assoc], .cons h h1, h2⟩
theorem Cells.perm {st st' : Sto} (p : st.Perm st') : ∀ {fp : List Addr}, Cells K mg F H st fp → ∃ fp', fp.Perm fp' ∧ Cells K mg F H st' fp' := by
  induction p with
  | nil => exact fun h => ⟨_, List.Perm.refl _, h⟩
  | cons x _ ih =>
    intro fp h
    cases h with
    | cons h r =>
      obtain ⟨f, e, r'⟩ := ih r
      exact ⟨_, e.append_left _, .cons h r'⟩
  | swap x y l =>
    intro fp h
    cases h with
    | cons h r =>
      cases r with
      | @cons a2 d2 ex2 _ fp2 h2 r2 =>
        refine ⟨_, ?_, .cons h2 (.cons h r2)⟩
        rw [← List.append_assoc, ← List.append_assoc]
        exact (List.perm_append_comm).append_right _
  | trans _ _ ih1 ih2 =>
    intro fp h
    obtain ⟨f1, e1, h1⟩ := ih1 h
    obtain ⟨f2, e2, h2⟩ := ih2 h1
    exact ⟨f2, e1.trans e2, h2⟩
/-- one cell, and how it may change -/
theorem Cells.at : ∀ {st : Sto} {fp : List Addr} {a : Addr} {d : D}, Cells K mg F H st fp → fp.Nodup → lkS st a = some d → ∃ ex, (∀ b ∈ a :: ex, b ∈ fp) ∧ CellAt K mg F H a d ex ∧
    ∀ (F' H' : Hp) (y : D), Same F F' → (∀ b ∈ fp, b ∉ a :: ex → ∀ o, H b = some o → H' b = some o) → CellAt K mg F' H' a y ex → Cells K mg F' H' (setS st a y) fp
  | _, _, a, d, .nil, _, h => by cases h
  | (b, d') :: st, _, a, d, .cons (ex := ex) (fp := fp) h0 r, nd, h => by
    rw [List.nodup_append] at nd
    by_cases c : a = b
    · subst c
      rw [lkS, if_pos rfl] at h
      cases h
      refine ⟨ex, fun b hb => List.mem_append_left _ hb, h0, fun F' H' y s k hy => ?_⟩
      rw [setS, if_pos rfl]
      exact .cons hy (Cells.mono s r fun b hb => k b (List.mem_append_right _ hb) fun z => nd.2.2 b z b hb rfl)
    · rw [lkS, if_neg c] at h
      obtain ⟨ex1, k1, k2, k3⟩ := Cells.at r nd.2.1 h
      refine ⟨ex1, fun b hb => List.mem_append_right _ (k1 b hb), k2, fun F' H' y s k hy => ?_⟩
      rw [setS, if_neg c]
      exact .cons (h0.mono s fun x hx => k x (List.mem_append_left _ hx) fun z => nd.2.2 x hx x (k1 x z) rfl) (k3 F' H' y s (fun x hx => k x (List.mem_append_right _ hx)) hy)
end
def BoxP (b : Bool) (r : Addr) (F H : Hp) (bx : List Addr) : Prop := match b with
  | true => bx = [r] ∧ ∃ (d : Addr) (ns : List Int) (k : Nat), H r = some (.lst [.ref d, .int k]) ∧ F d = some (.lst (ns.map V.int)) ∧ ns.length ≤ 4000
  | false => bx = []
theorem BoxP.mono {b : Bool} {r : Addr} {F H F' H' : Hp} {bx : List Addr} (h : BoxP b r F H bx) (e : Same F F') (k : ∀ a ∈ bx, ∀ o, H a = some o → H' a = some o) : BoxP b r F' H' bx := by
  cases b with
  | false => exact h
  | true =>
    obtain ⟨rfl, d, ns, j, h1, h2, h3⟩ := h
    exact ⟨rfl, d, ns, j, k _ List.mem_cons_self _ h1, e _ _ h2, h3⟩
theorem BoxP.alive {b : Bool} {r : Addr} {F H : Hp} {bx : List Addr} (h : BoxP b r F H bx) : ∀ a ∈ bx, H a ≠ none := by
  cases b with
  | false => rw [show bx = [] from h]; exact fun a z => absurd z List.not_mem_nil
  | true =>
    obtain ⟨rfl, d, ns, j, h1, h2, h3⟩ := h
    intro a ha
    rw [List.mem_singleton.mp ha]
    exact ne_of_some h1
theorem BoxP.solid {b : Bool} {r : Addr} {F H : Hp} {bx : List Addr} (h : BoxP b r F H bx) : ∀ a ∈ bx, ¬ Nw H a := by
  cases b with
  | false => rw [show bx = [] from h]; exact fun a z => absurd z List.not_mem_nil
  | true =>
    obtain ⟨rfl, d, ns, j, h1, h2, h3⟩ := h
    intro a ha
    rw [List.mem_singleton.mp ha]
    exact nw_no h1 fun _ y => nomatch y
def mOk (K : PySem.W.Frag) (mg : Str → Option Value) (ft : Addr → Prop) (r : Addr) (F H : Hp) (s : MS) : Prop :=
  ∃ fp bx, Cells K mg F H s.2 fp ∧ BoxP s.1 r F H bx ∧ (fp ++ bx).Nodup ∧ ∀ a, ft a ↔ a ∈ fp ++ bx
def mR (K : PySem.W.Frag) (mg : Str → Option Value) : Reg MS where
  ok := mOk K mg
  stab := fun ⟨fp, bx, h1, h2, h3, h4⟩ e g => ⟨fp, bx, h1.mono e fun b hb o => g b o ((h4 b).mpr (List.mem_append_left _ hb)), h2.mono e fun b hb o => g b o ((h4 b).mpr (List.mem_append_right _ hb)), h3, h4⟩
  solid := fun ⟨fp, bx, h1, h2, h3, h4⟩ a z => (List.mem_append.mp ((h4 a).mp z)).elim (h1.solid a) (h2.solid a)
theorem pkS_at {st : Sto} {a : Addr} {x : D} (h : pkS st a = some x) : lkS st a = some x ∧ ((∃ xs, x = .lst xs) ∨ (∃ ks xs, x = .dct ks xs) ∨ ∃ ks xs, x = .dtt ks xs) := by
  unfold pkS at h
  split at h
  · rename_i xs e; cases h; exact ⟨e, .inl ⟨_, rfl⟩⟩
  · rename_i ks xs e; cases h; exact ⟨e, .inr (.inl ⟨_, _, rfl⟩)⟩
  · rename_i ks xs e; cases h; exact ⟨e, .inr (.inr ⟨_, _, rfl⟩)⟩
  · cases h
instance mR_at {K : PySem.W.Frag} {mg : Str → Option Value} : RegS K mg (mR K mg) := ⟨fun {ft r F H s a x} h nf e => by
  obtain ⟨fp, bx, h1, h2, h3, h4⟩ := h
  obtain ⟨l, c⟩ := pkS_at e
  obtain ⟨ex, k1, k2, _⟩ := h1.at (List.nodup_append.mp h3).1 l
  refine ⟨nf a ((h4 a).mpr (List.mem_append_left _ (k1 a List.mem_cons_self))), ?_⟩
  rcases c with ⟨xs, rfl⟩ | ⟨ks, xs, rfl⟩ | ⟨ks, xs, rfl⟩ <;> exact k2.2⟩
instance {Z : CXT} {P : Program} {w : World} {K : PySem.W.Frag} {mg : Str → Option Value} {base : Heap} {N : List Str} {qual : Str} {scope : Scope} {f : Addr} {cd : Value} {A : Around} {outer : List Env} {s : Shared} {H : Hp} {E : XK} :
    RegS (cxOf Z P w K mg base N qual scope f cd A outer s H E).K (cxOf Z P w K mg base N qual scope f cd A outer s H E).mg (mR K mg) := (mR_at : RegS K mg (mR K mg))
/-! what is known of a store within a def -/
section
variable {K : PySem.W.Frag} {mg : Str → Option Value} {xc : XC} {r : Addr} {B : Bs} {ft : Addr → Prop} {F H : Hp} {σ : L2.St} {ρ : En} {s : MS}
/-- an address of the footprint is written -/
theorem foot_cstep {a : Addr} {o o' : HO} (sub : Same F H) (nf : ∀ a, ft a → F a = none) (ha : ft a) (hH : H a = some o) : CStep ft F H ft F (upd H a o') := root_cstep sub nf ha hH
/-- the cell at a changes -/
theorem gm_cell (G : Gd K mg xc (mR K mg) r B ft F H σ ρ s) {a : Addr} {d : D} (h : lkS s.2 a = some d) : ∃ ex, (∀ b ∈ a :: ex, ft b ∧ F b = none) ∧ CellAt K mg F H a d ex ∧
    ∀ (b : Addr) (o : HO) (y : D), b ∈ a :: ex → CellAt K mg F (upd H b o) a y ex → Gd K mg xc (mR K mg) r B ft F (upd H b o) σ ρ (s.1, setS s.2 a y) := by
  obtain ⟨fp, bx, h1, h2, h3, h4⟩ := id G.reg
  obtain ⟨ex, k1, k2, k3⟩ := h1.at (List.nodup_append.mp h3).1 h
  have inF : ∀ b ∈ a :: ex, ft b := fun b hb => (h4 b).mpr (List.mem_append_left _ (k1 b hb))
  refine ⟨ex, fun b hb => ⟨inF b hb, (G.foot b (inF b hb)).1⟩, k2, fun b o y hb hy => ?_⟩
  obtain ⟨o0, ho0⟩ := some_of_ne (k2.alive b hb)
  refine G.step (foot_cstep (o := o0) G.sub (fun a z => (G.foot a z).1) (inF b hb) ho0) ⟨fp, bx, k3 F _ y (Same.refl F) (fun x _ hn o' e => ?_) hy, h2.mono (Same.refl F) fun x hx o' e => ?_, h3, h4⟩
  · rw [upd_ne (fun z => hn (by rw [z]; exact hb))]; exact e
  · rw [upd_ne (fun z => (List.nodup_append.mp h3).2.2 b (k1 b hb) x hx z.symm)]; exact e
/-- a fresh object becomes a cell -/
theorem gm_new (G : Gd K mg xc (mR K mg) r B ft F H σ ρ s) {p : Addr} {x : D} (fp : F p = none) (ho : OwnHas K mg F H p x) (fr : Free B ft σ ρ p) : ∃ ft', Gd K mg xc (mR K mg) r B ft' F H σ ρ (s.1, (p, x) :: s.2) := by
  obtain ⟨fps, bx, h1, h2, h3, h4⟩ := id G.reg
  have pn : p ∉ fps ++ bx := fun z => fr.nf ((h4 p).mpr z)
  refine ⟨fun a => ft a ∨ a = p, { st := G.st, foot := fun a z => ?_, reg := ⟨p :: fps, bx, ?_, h2, List.nodup_cons.mpr ⟨pn, h3⟩, fun a => ?_⟩, len := G.len, sl := G.sl, own := fun i q y e1 e2 => ⟨(G.own i q y e1 e2).1, fun z => ?_⟩, dist := G.dist }⟩
  · rcases z with z | rfl
    · exact G.foot a z
    · exact ⟨fp, fr.ch⟩
  · have : CellAt K mg F H p x [] := by
      cases x <;> first | exact ho.elim | exact ⟨rfl, ho⟩
    exact Cells.cons this h1
  · show (ft a ∨ a = p) ↔ a ∈ p :: (fps ++ bx)
    rw [h4 a, List.mem_cons]
    exact Or.comm
  · rcases z with z | rfl
    · exact (G.own i q y e1 e2).2 z
    · exact fr.no i y e1 e2
end
end DL

set_option linter.all false
set_option maxRecDepth 100000
set_option maxHeartbeats 4000000
/-! expressions and statements over a store -/
namespace DL
open PySem PySem.Spec PyProof.Rows L2 GR N01 RZ
def hdlOf : D → (Addr → Prop) → Prop
  | .hdl a, k => k a
  | _, _ => False
theorem hdlOf_mono {x : D} {k k' : Addr → Prop} (h : ∀ a, k a → k' a) (z : hdlOf x k) : hdlOf x k' := by
  cases x <;> first | exact h _ z | exact (show False from z).elim
theorem hdlOf_of {K : PySem.W.Frag} {mg : Str → Option Value} {F : Hp} {v : V} {x : D} {k : Addr → Prop} (h : Has K mg F v x) (z : hdlOf x k) : ∃ a, v = .ref a ∧ x = .hdl a ∧ k a := by
  cases x <;> first | exact (show False from z).elim | skip
  cases h
  exact ⟨_, rfl, rfl, z⟩
/-! fields, put -/
def putNs : List Str → Str → List Str
  | [], f => [f]
  | n :: ns, f => if n = f then n :: ns else n :: putNs ns f
def putDs : List Str → List D → Str → D → List D
  | n :: ns, d :: ds, f, x => if n = f then x :: ds else d :: putDs ns ds f x
  | _, _, _, x => [x]
theorem putF_has {K : PySem.W.Frag} {mg : Str → Option Value} {F : Hp} {f : Str} {v : V} {x : D} (hv : Has K mg F v x) : ∀ {fs : List (Str × V)} {ds : List D}, HasL K mg F (fs.map (·.2)) ds →
    (putF f v fs).map (·.1) = putNs (fs.map (·.1)) f ∧ HasL K mg F ((putF f v fs).map (·.2)) (putDs (fs.map (·.1)) ds f x) ∧ (putF f v fs).length ≤ fs.length + 1
  | [], _, .nil => ⟨rfl, .cons hv .nil, Nat.le_refl _⟩
  | (g, y) :: fs, d :: ds, .cons h t => by
    obtain ⟨a, b, c⟩ := putF_has hv (fs := fs) t
    by_cases e : g = f
    · rw [putF, if_pos e, List.map_cons, List.map_cons, putNs, if_pos e, putDs, if_pos e]
      exact ⟨rfl, .cons hv t, by simp⟩
    · rw [putF, if_neg e, List.map_cons, List.map_cons, putNs, if_neg e, putDs, if_neg e, a]
      exact ⟨rfl, .cons h b, by rw [List.length_cons, List.length_cons]; omega⟩
section
variable {K : PySem.W.Frag} {mg : Str → Option Value} {xc : XC} {W : WX}
/-- a list or a dict of the store, looked at -/
def dOH (dx : DX MS) : DOp MS := fun s ρ Q E => dx s ρ (fun x s ρ => hdlOf x fun a => Q (.cel a) s ρ) E
theorem simo_h {te : TE} {dx : DX MS} (h : SimE K mg xc (mR K mg) W te dx) : SimO K mg xc (mR K mg) W te (dOH dx) where
  mono := fun hq e z => h.mono (fun _ _ _ z => hdlOf_mono (fun _ z => hq _ _ _ z) z) e z
  run := fun G w q => h.run G w (h.mono (fun x s1 ρ1 z v ft1 F1 H1 G1 e1 a1 => by
    obtain ⟨a, rfl, rfl, z⟩ := hdlOf_of a1 z
    exact z _ _ _ _ G1 e1 rfl) (fun _ _ _ z => z) q)
/-- o.f -/
def dFldM (c f : Str) (dx : DX MS) : DX MS := fun s ρ Q E => dx s ρ (fun x s ρ => hdlOf x fun a => ∃ ns ds d, lkS s.2 a = some (.obj c ns ds) ∧ lkF ns ds f = some d ∧ Q d s ρ) E
theorem sim_fldM {c f : Str} (g : ObjF K mg c f) {te : TE} {dx : DX MS} (h : SimE K mg xc (mR K mg) W te dx) : SimE K mg xc (mR K mg) W (tFld K te f) (dFldM c f dx) where
  mono := fun hq e z => h.mono (fun _ _ _ z => hdlOf_mono (fun _ ⟨ns, ds, d, a, b, z⟩ => ⟨ns, ds, d, a, b, hq _ _ _ z⟩) z) e z
  run := fun G w q => h.run G w (h.mono (fun x s1 ρ1 z v ft1 F1 H1 G1 e1 a1 => by
    obtain ⟨a, rfl, rfl, ns, ds, d, hl, hf, z⟩ := hdlOf_of a1 z
    obtain ⟨C, hm, hc, hn⟩ := g
    obtain ⟨ex, _, ⟨Ca, dx', fs, rfl, h2, h3, h4, h5, h6, h7⟩, _⟩ := gm_cell G1 hl
    rw [hm] at h2
    cases h2
    obtain ⟨v, l, hv⟩ := lkF_at h5 h6 hf
    exact ⟨a, C, dx', fs, v, rfl, h3, hc, hn, l, z v _ _ _ G1 e1 hv⟩) (fun _ _ _ z => z) q)
/-- o.f = e -/
def dFSetM (c f : Str) (dv dx : DX MS) : DS MS := fun DE s ρ => dv s ρ (fun y s ρ => dx s ρ (fun x s ρ => hdlOf x fun a => ∃ ns ds, lkS s.2 a = some (.obj c ns ds) ∧ ns.length < 100 ∧ DE.nx (s.1, setS s.2 a (.obj c (putNs ns f) (putDs ns ds f y))) ρ) DE.ex) DE.ex
theorem sims_fsetM {c f : Str} (g : ObjF K mg c f) {te tv : TE} {dx dv : DX MS} (h : SimE K mg xc (mR K mg) W te dx) (hv : SimE K mg xc (mR K mg) W tv dv) : SimS K mg xc (mR K mg) W (sFld K te tv f) (dFSetM c f dv dx) where
  mono := fun hq z => hv.mono (fun _ _ _ z => h.mono (fun _ _ _ z => hdlOf_mono (fun _ ⟨ns, ds, a, b, z⟩ => ⟨ns, ds, a, b, hq.nx _ _ z⟩) z) hq.ex z) hq.ex z
  run := fun {r B ft F H σ ρ s Dn DE} G w q => by
    refine hv.run G (w.ex _) (hv.mono (fun y s1 ρ1 z u ft1 F1 H1 G1 e1 a1 => ?_) (fun _ _ _ z => z) q)
    refine h.run G1 (w.ex _) (h.mono (fun x s2 ρ2 z v ft2 F2 H2 G2 e2 a2 => ?_) (fun _ _ _ z => z) z)
    obtain ⟨a, rfl, rfl, ns, ds, hl, hn, z⟩ := hdlOf_of a2 z
    obtain ⟨C, hm, hc, hno⟩ := g
    obtain ⟨ex, _, ⟨Ca, dx', fs, rfl, h2, h3, h4, h5, h6, h7⟩, up⟩ := gm_cell G2 hl
    rw [hm] at h2
    cases h2
    have len : fs.length = ns.length := by rw [← h5, List.length_map]
    obtain ⟨b1, b2, b3⟩ := putF_has (a1.mono e2) (f := f) h6
    have ne : dx' ≠ a := fun e => by rw [e, h3] at h4; cases h4
    refine ⟨a, C, dx', fs, rfl, h3, hc, hno, by omega, w.nx _ _ _ _ _ _ (up a _ _ List.mem_cons_self ?_) z⟩
    exact ⟨C, dx', _, rfl, hm, upd_same, by rw [upd_ne ne]; exact h4, by rw [← h5]; exact b1, by rw [← h5]; exact b2, by omega⟩
/-- a fresh list or dict, put into the store -/
def dNew (dx : DX MS) : DX MS := fun s ρ Q E => dx s ρ (fun x s ρ => ∀ a, lkS s.2 a = none → Q (.hdl a) (s.1, (a, x) :: s.2) ρ) E
theorem lkS_mem : ∀ {st : Sto} {a : Addr} {d : D}, lkS st a = some d → (a, d) ∈ st
  | [], _, _, h => by cases h
  | (b, d') :: st, a, d, h => by
    unfold lkS at h
    split at h
    · rename_i e; cases h; rw [e]; exact List.mem_cons_self
    · exact List.mem_cons_of_mem _ (lkS_mem h)
theorem gm_free {r : Addr} {B : Bs} {ft : Addr → Prop} {F H : Hp} {σ : L2.St} {ρ : En} {s : MS} (G : Gd K mg xc (mR K mg) r B ft F H σ ρ s) {p : Addr} (n : ¬ ft p) : lkS s.2 p = none := by
  obtain ⟨fp, bx, h1, h2, h3, h4⟩ := id G.reg
  cases e : lkS s.2 p with
  | none => rfl
  | some d => exact absurd ((h4 p).mpr (List.mem_append_left _ (h1.mem _ (lkS_mem e)))) n
theorem sim_new {te : TE} {dx : DX MS} (h : SimF K mg xc (mR K mg) W te dx) : SimE K mg xc (mR K mg) W te (dNew dx) where
  mono := fun hq e z => h.mono (fun _ _ _ z a n => hq _ _ _ (z a n)) e z
  run := fun G w q => h.run G w (h.mono (fun x s1 ρ1 z p ft1 F1 H1 G1 e1 fp ho fr => by
    obtain ⟨ft', G2⟩ := gm_new G1 fp ho fr
    exact z p (gm_free G1 fr.nf) _ _ _ _ G2 e1 (.hdl p)) (fun _ _ _ z => z) q)
/-! lists and dicts of the store change -/
def dAppM (dh dx : DX MS) : DS MS := fun DE s ρ => dh s ρ (fun h s ρ => hdlOf h fun a => ∃ xs0, lkS s.2 a = some (.lst xs0) ∧ dx s ρ (fun x s ρ => ∃ xs, lkS s.2 a = some (.lst xs) ∧ xs.length < 16777216 ∧ DE.nx (s.1, setS s.2 a (.lst (xs ++ [x]))) ρ) DE.ex) DE.ex
theorem sims_appM {th te : TE} {dh dx : DX MS} (hh : SimE K mg xc (mR K mg) W th dh) (hx : SimE K mg xc (mR K mg) W te dx) : SimS K mg xc (mR K mg) W (tDrop (tBM K "list" rAppend th (tCons te tNil))) (dAppM dh dx) where
  mono := fun hq z => hh.mono (fun _ _ _ z => hdlOf_mono (fun _ ⟨xs0, a, z⟩ => ⟨xs0, a, hx.mono (fun _ _ _ ⟨xs, b, c, z⟩ => ⟨xs, b, c, hq.nx _ _ z⟩) hq.ex z⟩) z) hq.ex z
  run := fun {r B ft F H σ ρ s Dn DE} G w q => by
    refine hh.run G (w.ex _) (hh.mono (fun x s1 ρ1 z u ft1 F1 H1 G1 e1 a1 => ?_) (fun _ _ _ z => z) q)
    obtain ⟨a, rfl, rfl, xs0, hl, z⟩ := hdlOf_of a1 z
    obtain ⟨ex, _, ⟨rfl, zs0, hz0, _⟩, _⟩ := gm_cell G1 hl
    refine ⟨.inl ⟨rfl, _, .inl (.inl hz0)⟩, ?_⟩
    refine hx.run G1 (w.ex _) (hx.mono (fun y s2 ρ2 z v ft2 F2 H2 G2 e2 a2 => ?_) (fun _ _ _ z => z) z)
    obtain ⟨xs, hl2, hlen, z⟩ := z
    obtain ⟨ex, _, ⟨rfl, zs, hz, hzs⟩, up⟩ := gm_cell G2 hl2
    refine ⟨_, zs, v, rfl, rfl, hz, by rw [hzs.length, sizeLine_eq]; exact hlen, ?_⟩
    exact w.nx _ _ _ _ _ _ (up a _ (.lst (xs ++ [y])) List.mem_cons_self ⟨rfl, zs ++ [v], upd_same, hzs.snoc a2⟩) z
def dPutM (dh dj dx : DX MS) : DS MS := fun DE s ρ => dx s ρ (fun x s ρ => dh s ρ (fun h s ρ => hdlOf h fun a => dj s ρ (fun y s ρ => isInt y fun k => ∃ xs j, lkS s.2 a = some (.lst xs) ∧ ixN xs.length k = some j ∧ DE.nx (s.1, setS s.2 a (.lst (xs.set j x))) ρ) DE.ex) DE.ex) DE.ex
theorem sims_putM {th tj te : TE} {dh dj dx : DX MS} (hh : SimE K mg xc (mR K mg) W th dh) (hj : SimE K mg xc (mR K mg) W tj dj) (hx : SimE K mg xc (mR K mg) W te dx) : SimS K mg xc (mR K mg) W (tAsg te (gSub th tj rSetL)) (dPutM dh dj dx) where
  mono := fun hq z => hx.mono (fun _ _ _ z => hh.mono (fun _ _ _ z => hdlOf_mono (fun _ z => hj.mono (fun _ _ _ z => isInt_mono (fun _ ⟨xs, j, a, b, z⟩ => ⟨xs, j, a, b, hq.nx _ _ z⟩) z) hq.ex z) z) hq.ex z) hq.ex z
  run := fun {r B ft F H σ ρ s Dn DE} G w q => by
    refine hx.run G (w.ex _) (hx.mono (fun y s1 ρ1 z u ft1 F1 H1 G1 e1 a1 => ?_) (fun _ _ _ z => z) q)
    refine hh.run G1 (w.ex _) (hh.mono (fun x s2 ρ2 z v ft2 F2 H2 G2 e2 a2 => ?_) (fun _ _ _ z => z) z)
    obtain ⟨a, rfl, rfl, z⟩ := hdlOf_of a2 z
    refine hj.run G2 (w.ex _) (hj.mono (fun yj s3 ρ3 z uj ft3 F3 H3 G3 e3 a3 => ?_) (fun _ _ _ z => z) z)
    obtain ⟨k, rfl, xs, j, hl, hix, z⟩ := isInt_of a3 z
    obtain ⟨ex, _, ⟨rfl, zs, hz, hzs⟩, up⟩ := gm_cell G3 hl
    refine ⟨_, zs, k, j, rfl, rfl, hz, by rw [hzs.length]; exact hix, ?_⟩
    exact w.nx _ _ _ _ _ _ (up a _ (.lst (xs.set j y)) List.mem_cons_self ⟨rfl, zs.set j u, upd_same, hzs.set j (a1.mono (e2.trans e3))⟩) z
/-- d[k] = x, texts as keys -/
def dDPutM (dh dk dx : DX MS) : DS MS := fun DE s ρ => dx s ρ (fun x s ρ => dh s ρ (fun h s ρ => hdlOf h fun a => dk s ρ (fun y s ρ => isS y fun k => ∃ ks xs, lkS s.2 a = some (.dct ks xs) ∧ ks.length < 16777216 ∧ DE.nx (s.1, setS s.2 a (putD ks xs k x)) ρ) DE.ex) DE.ex) DE.ex
theorem putD_dct {ks : List Str} {xs : List D} {k : Str} {x : D} : ∃ ks' xs', putD ks xs k x = .dct ks' xs' := by
  unfold putD
  split
  · exact ⟨_, _, rfl⟩
  · exact ⟨_, _, rfl⟩
theorem sims_dputM {th tk te : TE} {dh dk dx : DX MS} (hh : SimE K mg xc (mR K mg) W th dh) (hk : SimE K mg xc (mR K mg) W tk dk) (hx : SimE K mg xc (mR K mg) W te dx) : SimS K mg xc (mR K mg) W (sDPut th tk te) (dDPutM dh dk dx) where
  mono := fun hq z => hx.mono (fun _ _ _ z => hh.mono (fun _ _ _ z => hdlOf_mono (fun _ z => hk.mono (fun _ _ _ z => isS_mono (fun _ ⟨ks, xs, a, b, z⟩ => ⟨ks, xs, a, b, hq.nx _ _ z⟩) z) hq.ex z) z) hq.ex z) hq.ex z
  run := fun {r B ft F H σ ρ s Dn DE} G w q => by
    refine hx.run G (w.ex _) (hx.mono (fun y s1 ρ1 z u ft1 F1 H1 G1 e1 a1 => ?_) (fun _ _ _ z => z) q)
    refine hh.run G1 (w.ex _) (hh.mono (fun x s2 ρ2 z v ft2 F2 H2 G2 e2 a2 => ?_) (fun _ _ _ z => z) z)
    obtain ⟨a, rfl, rfl, z⟩ := hdlOf_of a2 z
    refine hk.run G2 (w.ex _) (hk.mono (fun yj s3 ρ3 z uj ft3 F3 H3 G3 e3 a3 => ?_) (fun _ _ _ z => z) z)
    obtain ⟨k, rfl, ks, xs, hl, hlen, z⟩ := isS_of z
    obtain ⟨rfl, ok⟩ := has_str a3
    obtain ⟨ex, _, ⟨rfl, kvs, hz, hks, hzs⟩, up⟩ := gm_cell G3 hl
    have hn : kvs.length < sizeLine := by
      have : kvs.length = ks.length := by simpa using congrArg List.length hks.1
      rw [this, sizeLine_eq]; exact hlen
    refine ⟨_, _, rfl, DPut.k (k := Sum.inr k) hz hn, ?_⟩
    have po := put_own (H := H3) (p := a) hks hzs (a1.mono (e2.trans e3)) ok
    obtain ⟨ks', xs', e'⟩ := putD_dct (ks := ks) (xs := xs) (k := k) (x := y)
    rw [e'] at po z
    exact w.nx _ _ _ _ _ _ (up a _ (.dct ks' xs') List.mem_cons_self ⟨rfl, po⟩) z
/-! dicts by tuples of texts -/
def keyT : D → (List Str → Prop) → Prop := fun x k => ∃ ts, x = .tpd (ts.map D.str) ∧ k ts
theorem keyT_of {F H : Hp} {v : V} {x : D} {k : List Str → Prop} (e : Same F H) (h : Has K mg F v x) (z : keyT x k) : ∃ b ts, v = .ref b ∧ H b = some (.tup ((ts.map Sum.inr).map kV)) ∧ (∀ t ∈ ts, OkS t) ∧ k ts := by
  obtain ⟨ts, rfl, z⟩ := z
  cases h with
  | tpd h1 h2 =>
    obtain ⟨rfl, ok⟩ := strs_of h2
    refine ⟨_, ts, rfl, ?_, ok, z⟩
    rw [e _ _ h1, List.map_map]
    rfl
def putT (ks : List (List Str)) (xs : List D) (k : List Str) (x : D) : D := if k ∈ ks then .dtt ks ((ks.zip xs).map fun p => if p.1 = k then x else p.2) else .dtt (ks ++ [k]) (xs ++ [x])
theorem inrs_iff : ∀ {a b : List Str}, (a.map Sum.inr : List Key) = b.map Sum.inr ↔ a = b
  | [], [] => by simp
  | [], _ :: _ => by simp
  | _ :: _, [] => by simp
  | a :: as, b :: bs => by
    rw [List.map_cons, List.map_cons, List.cons.injEq, List.cons.injEq, inrs_iff, inr_iff]
theorem putT_any : ∀ {kvs : List (List Key × V)} {ks : List (List Str)} {k : List Str}, kvs.map (·.1) = ks.map (·.map Sum.inr) → (kvs.any fun kv => decide (kv.1 = k.map Sum.inr)) = decide (k ∈ ks)
  | [], [], k, _ => by simp
  | [], _ :: _, _, h => by cases h
  | _ :: _, [], _, h => by cases h
  | p :: kvs, a :: ks, k, h => by
    rw [List.map_cons, List.map_cons] at h
    injection h with h1 h2
    rw [List.any_cons, putT_any h2, h1]
    by_cases e : a = k
    · subst e; simp
    · have e' : ¬ k = a := fun z => e z.symm
      rw [decide_eq_false (fun z => e (inrs_iff.mp z)), Bool.false_or]
      simp [e']
theorem putT_keys {k : List Key} {u : V} : ∀ {kvs : List (List Key × V)}, (kvs.map fun kv => if kv.1 = k then (kv.1, u) else kv).map (·.1) = kvs.map (·.1)
  | [] => rfl
  | p :: kvs => by
    rw [List.map_cons, List.map_cons, List.map_cons, putT_keys]
    split <;> rfl
theorem putT_vals {F : Hp} {k : List Str} {u : V} {x : D} (hu : Has K mg F u x) : ∀ {kvs : List (List Key × V)} {ks : List (List Str)} {xs : List D}, kvs.map (·.1) = ks.map (·.map Sum.inr) → HasL K mg F (kvs.map (·.2)) xs →
    HasL K mg F ((kvs.map fun kv => if kv.1 = k.map Sum.inr then (kv.1, u) else kv).map (·.2)) ((ks.zip xs).map fun p => if p.1 = k then x else p.2)
  | [], [], [], _, _ => .nil
  | [], _ :: _, _, h, _ => by cases h
  | _ :: _, [], _, h, _ => by cases h
  | [], [], _ :: _, _, h => by cases h
  | p :: kvs, a :: ks, xs, h, hv => by
    rw [List.map_cons, List.map_cons] at h
    injection h with h1 h2
    rw [List.map_cons] at hv
    cases hv with
    | @cons _ y _ ys h3 h4 =>
    rw [List.map_cons, List.map_cons, List.zip_cons_cons, List.map_cons]
    refine .cons ?_ (putT_vals hu h2 h4)
    rw [h1]
    by_cases e : a = k
    · rw [if_pos (inrs_iff.mpr e), if_pos e]; exact hu
    · rw [if_neg (fun z => e (inrs_iff.mp z)), if_neg e]; exact h3
theorem putT_own {F H : Hp} {p : Addr} {kvs : List (List Key × V)} {ks : List (List Str)} {xs : List D} {k : List Str} {u : V} {x : D} (hk : KtOk kvs ks) (hv : HasL K mg F (kvs.map (·.2)) xs) (hu : Has K mg F u x) (ok : ∀ t ∈ k, OkS t) :
    OwnHas K mg F (upd H p (.dT (putK kvs (k.map Sum.inr) u))) p (putT ks xs k x) := by
  unfold putT putK
  rw [putT_any hk.1]
  by_cases e : k ∈ ks
  · rw [if_pos e, if_pos (decide_eq_true e)]
    exact ⟨_, upd_same, ⟨putT_keys.trans hk.1, hk.2⟩, putT_vals hu hk.1 hv⟩
  · rw [if_neg e, if_neg (by simpa using e)]
    refine ⟨_, upd_same, ⟨by rw [List.map_append, hk.1, List.map_append]; rfl, fun z hz => ?_⟩, by rw [List.map_append]; exact hasL_app hv (.cons hu .nil)⟩
    rcases List.mem_append.mp hz with hz | hz
    · exact hk.2 z hz
    · rw [List.mem_singleton.mp hz]; exact ok
def dTPutM (dh dk dx : DX MS) : DS MS := fun DE s ρ => dx s ρ (fun x s ρ => dh s ρ (fun h s ρ => hdlOf h fun a => dk s ρ (fun y s ρ => keyT y fun k => ∃ ks xs, lkS s.2 a = some (.dtt ks xs) ∧ ks.length < 16777216 ∧ DE.nx (s.1, setS s.2 a (putT ks xs k x)) ρ) DE.ex) DE.ex) DE.ex
theorem putT_dtt {ks : List (List Str)} {xs : List D} {k : List Str} {x : D} : ∃ ks' xs', putT ks xs k x = .dtt ks' xs' := by
  unfold putT
  split
  · exact ⟨_, _, rfl⟩
  · exact ⟨_, _, rfl⟩
theorem sims_tputM {th tk te : TE} {dh dk dx : DX MS} (hh : SimE K mg xc (mR K mg) W th dh) (hk : SimE K mg xc (mR K mg) W tk dk) (hx : SimE K mg xc (mR K mg) W te dx) : SimS K mg xc (mR K mg) W (sDPut th tk te) (dTPutM dh dk dx) where
  mono := fun hq z => hx.mono (fun _ _ _ z => hh.mono (fun _ _ _ z => hdlOf_mono (fun _ z => hk.mono (fun _ _ _ ⟨ts, t, ks, xs, a, b, z⟩ => ⟨ts, t, ks, xs, a, b, hq.nx _ _ z⟩) hq.ex z) z) hq.ex z) hq.ex z
  run := fun {r B ft F H σ ρ s Dn DE} G w q => by
    refine hx.run G (w.ex _) (hx.mono (fun y s1 ρ1 z u ft1 F1 H1 G1 e1 a1 => ?_) (fun _ _ _ z => z) q)
    refine hh.run G1 (w.ex _) (hh.mono (fun x s2 ρ2 z v ft2 F2 H2 G2 e2 a2 => ?_) (fun _ _ _ z => z) z)
    obtain ⟨a, rfl, rfl, z⟩ := hdlOf_of a2 z
    refine hk.run G2 (w.ex _) (hk.mono (fun yj s3 ρ3 z uj ft3 F3 H3 G3 e3 a3 => ?_) (fun _ _ _ z => z) z)
    obtain ⟨b, ts, rfl, hb, ok, ks, xs, hl, hlen, z⟩ := keyT_of G3.sub a3 z
    obtain ⟨ex, _, ⟨rfl, kvs, hz, hks, hzs⟩, up⟩ := gm_cell G3 hl
    have hn : kvs.length < sizeLine := by
      have : kvs.length = ks.length := by simpa using congrArg List.length hks.1
      rw [this, sizeLine_eq]; exact hlen
    refine ⟨_, _, rfl, DPut.t hz hb hn, ?_⟩
    have po := putT_own (H := H3) (p := a) hks hzs (a1.mono (e2.trans e3)) ok
    obtain ⟨ks', xs', e'⟩ := putT_dtt (ks := ks) (xs := xs) (k := ts) (x := y)
    rw [e'] at po z
    exact w.nx _ _ _ _ _ _ (up a _ (.dtt ks' xs') List.mem_cons_self ⟨rfl, po⟩) z
end
end DL

set_option linter.all false
set_option maxRecDepth 100000
set_option maxHeartbeats 4000000
/-! calls over a part of the store -/
namespace DL
open PySem PySem.Spec PyProof.Rows L2 GR N01 RZ
section
variable {K : PySem.W.Frag} {mg : Str → Option Value} {ft : Addr → Prop} {r : Addr} {F H : Hp}
theorem mr_split {b bx : Bool} {st0 st rest : Sto} (h : mOk K mg ft r F H (b, st0)) (nf : ∀ a, ft a → F a = none) (p : st0.Perm (st ++ rest)) (hb : bx = true → b = true) :
    ∃ ft0, mOk K mg ft0 r F H (bx, st) ∧ (∀ a, ft0 a → ft a) ∧ ∀ {ft' : Addr → Prop} {F' H' : Hp} {s2 : MS}, CStep ft0 F H ft' F' H' → mOk K mg ft' r F' H' s2 → s2.1 = bx → ∃ ft'', CStep ft F H ft'' F' H' ∧ mOk K mg ft'' r F' H' (b, s2.2 ++ rest) := by
  obtain ⟨fp, bxs, h1, h2, h3, h4⟩ := h
  obtain ⟨fp', pf, h1'⟩ := h1.perm p
  obtain ⟨f1, f2, rfl, c1, c2⟩ := h1'.split
  have nd : (f1 ++ f2 ++ bxs).Nodup := (pf.append_right bxs).nodup_iff.mp h3
  have h4' : ∀ a, ft a ↔ a ∈ f1 ++ f2 ++ bxs := fun a => (h4 a).trans (pf.append_right bxs).mem_iff
  obtain ⟨b1, hb1, hb2⟩ : ∃ b1, BoxP bx r F H b1 ∧ ((bx = true ∧ b1 = bxs) ∨ (bx = false ∧ b1 = [])) := by
    cases bx with
    | true => have := hb rfl; subst this; exact ⟨bxs, h2, .inl ⟨rfl, rfl⟩⟩
    | false => exact ⟨[], rfl, .inr ⟨rfl, rfl⟩⟩
  have bsub : ∀ a ∈ b1, a ∈ bxs := by
    rcases hb2 with ⟨_, e⟩ | ⟨_, e⟩
    · rw [e]; exact fun _ h => h
    · rw [e]; exact fun _ h => absurd h List.not_mem_nil
  have nd2 := List.nodup_append.mp nd
  have nd1 := List.nodup_append.mp nd2.1
  have d12 : ∀ a ∈ f1, a ∉ f2 := fun a h z => nd1.2.2 a h a z rfl
  have d1b : ∀ a ∈ f1, a ∉ bxs := fun a h z => nd2.2.2 a (List.mem_append_left _ h) a z rfl
  have d2b : ∀ a ∈ f2, a ∉ bxs := fun a h z => nd2.2.2 a (List.mem_append_right _ h) a z rfl
  have sub : ∀ a, a ∈ f1 ++ b1 → ft a := fun a h => (h4' a).mpr (by
    rcases List.mem_append.mp h with h | h
    · exact List.mem_append_left _ (List.mem_append_left _ h)
    · exact List.mem_append_right _ (bsub a h))
  have ndb : b1.Nodup := by
    rcases hb2 with ⟨_, e⟩ | ⟨_, e⟩
    · rw [e]; exact nd2.2.1
    · rw [e]; exact List.nodup_nil
  refine ⟨fun a => a ∈ f1 ++ b1, ⟨f1, b1, c1, hb1, List.nodup_append.mpr ⟨nd1.1, ndb, fun a ha b hb e => d1b a ha (by rw [e]; exact bsub b hb)⟩, fun a => Iff.rfl⟩, sub, fun {ft' F' H' s2} c rg e => ?_⟩
  -- what stays as it was
  let rb : List Addr := if bx = true then [] else bxs
  have rbs : ∀ a ∈ rb, a ∈ bxs ∧ bx = false := fun a h => by
    cases bx with
    | true => exact absurd h List.not_mem_nil
    | false => exact ⟨h, rfl⟩
  have out : ∀ a, a ∈ f2 ++ rb → a ∉ f1 ++ b1 ∧ ft a := fun a h => by
    rcases List.mem_append.mp h with h | h
    · refine ⟨fun z => ?_, (h4' a).mpr (List.mem_append_left _ (List.mem_append_right _ h))⟩
      rcases List.mem_append.mp z with z | z
      · exact d12 a z h
      · exact d2b a h (bsub a z)
    · obtain ⟨h, e0⟩ := rbs a h
      refine ⟨fun z => ?_, (h4' a).mpr (List.mem_append_right _ h)⟩
      rcases List.mem_append.mp z with z | z
      · exact d1b a z h
      · rcases hb2 with ⟨e1, _⟩ | ⟨_, e1⟩
        · rw [e0] at e1; cases e1
        · rw [e1] at z; exact absurd z List.not_mem_nil
  have sol : ∀ a, ft a → ¬ Nw H a := fun a h => (List.mem_append.mp ((h4' a).mp h)).elim (fun z => (c1.app c2).solid a z) (h2.solid a)
  have keep : ∀ a, a ∈ f2 ++ rb → ∀ o, H a = some o → H' a = some o := fun a h o z => c.st.keep a o z (out a h).1
  have fno : ∀ a, a ∈ f2 ++ rb → F' a = none := fun a h => by
    cases q : F' a with
    | none => rfl
    | some o =>
      rcases c.st.fresh a (ne_of_some q) with z | z | z
      · exact absurd (nf a (out a h).2) z
      · exact absurd z (sol a (out a h).2)
      · exact absurd z (out a h).1
  have dis : ∀ a, ft' a → a ∉ f2 ++ rb := fun a h z => by
    rcases (c.foot a h).2 with y | y
    · exact (out a z).1 y
    · exact sol a (out a z).2 (.inl y)
  obtain ⟨fp2, bx2, k1, k2, k3, k4⟩ := rg
  obtain ⟨m1, m2, m3⟩ := List.nodup_append.mp k3
  have c2' : Cells K mg F' H' rest f2 := c2.mono c.st.grow fun a h o => keep a (List.mem_append_left _ h) o
  refine ⟨fun a => ft' a ∨ a ∈ f2 ++ rb, ⟨⟨c.st.sub, c.st.grow, fun a h => (c.st.fresh a h).imp id fun z => z.imp id (sub a), fun a o h n => c.st.keep a o h fun z => n (sub a z), c.st.alive⟩, fun a h => ?_⟩, fp2 ++ f2, bx2 ++ rb, k1.app c2', ?_, ?_, fun a => ?_⟩
  · rcases h with h | h
    · exact ⟨(c.foot a h).1, (c.foot a h).2.imp (sub a) id⟩
    · exact ⟨fno a h, .inl (out a h).2⟩
  · -- the box
    cases bx with
    | true =>
      have := hb rfl
      subst this
      rw [e] at k2
      show BoxP true r F' H' (bx2 ++ [])
      rw [List.append_nil]
      exact k2
    | false =>
      rw [e] at k2
      rw [show bx2 = [] from k2]
      exact h2.mono c.st.grow fun a h o => keep a (List.mem_append_right _ h) o
  · -- no address twice
    have in1 : ∀ a, a ∈ fp2 → ft' a := fun a h => (k4 a).mpr (List.mem_append_left _ h)
    have in2 : ∀ a, a ∈ bx2 → ft' a := fun a h => (k4 a).mpr (List.mem_append_right _ h)
    have nr : rb.Nodup := by
      cases bx with
      | true => exact List.nodup_nil
      | false => exact nd2.2.1
    refine List.nodup_append.mpr ⟨List.nodup_append.mpr ⟨m1, nd1.2.1, fun a ha b hb z => dis a (in1 a ha) (by rw [z]; exact List.mem_append_left _ hb)⟩, List.nodup_append.mpr ⟨m2, nr, fun a ha b hb z => dis a (in2 a ha) (by rw [z]; exact List.mem_append_right _ hb)⟩, fun a ha b hb z => ?_⟩
    rcases List.mem_append.mp ha with ha | ha <;> rcases List.mem_append.mp hb with hb | hb
    · exact m3 a ha b hb z
    · exact dis a (in1 a ha) (by rw [z]; exact List.mem_append_right _ hb)
    · exact dis b (in2 b hb) (by rw [← z]; exact List.mem_append_left _ ha)
    · exact d2b a ha (by rw [z]; exact (rbs b hb).1)
  · show (ft' a ∨ a ∈ f2 ++ rb) ↔ _
    rw [k4 a]
    simp only [List.mem_append]
    constructor
    · rintro ((h | h) | (h | h))
      · exact .inl (.inl h)
      · exact .inr (.inl h)
      · exact .inl (.inr h)
      · exact .inr (.inr h)
    · rintro ((h | h) | (h | h))
      · exact .inl (.inl h)
      · exact .inr (.inl h)
      · exact .inl (.inr h)
      · exact .inr (.inr h)
end
section
variable {K : PySem.W.Frag} {mg : Str → Option Value} {xc : XC} {W : WX}
/-- a callee over a part of the store; bx: whether it takes the box -/
def frm (bx : Bool) (sp : DSp MS) (cs : List C) (s : MS) (st rest : Sto) (Q : D → MS → Prop) (E : Exc → MS → Prop) : Prop :=
  s.2.Perm (st ++ rest) ∧ (bx = true → s.1 = true) ∧ sp cs (bx, st) (fun x s2 => s2.1 = bx ∧ Q x (s.1, s2.2 ++ rest)) (fun e s2 => s2.1 = bx ∧ E e (s.1, s2.2 ++ rest))
theorem frm_mono {bx : Bool} {sp : DSp MS} (hm : MonoSp sp) {cs : List C} {s : MS} {st rest : Sto} {Q Q' : D → MS → Prop} {E E' : Exc → MS → Prop} (h : ∀ x s, Q x s → Q' x s) (e : ∀ x s, E x s → E' x s) (z : frm bx sp cs s st rest Q E) : frm bx sp cs s st rest Q' E' :=
  ⟨z.1, z.2.1, hm _ _ _ _ _ _ (fun _ _ z => ⟨z.1, h _ _ z.2⟩) (fun _ _ z => ⟨z.1, e _ _ z.2⟩) z.2.2⟩
/-- such a call, within a def over a store -/
theorem frm_lift {bx : Bool} {sp : DSp MS} (hm : MonoSp sp) {r : Addr} {B : Bs} {ft : Addr → Prop} {F H : Hp} {σ : L2.St} {ρ : En} {s : MS} {EX : EK MS} {n : Nat} {vs : List V} {cs dcs : List C} {st rest : Sto} {Q : D → MS → Prop} {QV : VK} {EV : XK}
    (G : Gd K mg xc (mR K mg) r B ft F H σ ρ s) (ha : ArL K mg r F vs cs) (hl : vs.length = n) (z : frm bx sp (cs ++ dcs) s st rest Q fun e s2 => EX e s2 ρ)
    (hq : ∀ x s2 v ft' F' H', Gd K mg xc (mR K mg) r B ft' F' H' σ ρ s2 → Same F F' → Has K mg F' v x → Q x s2 → QV v H')
    (he : ∀ e s2 cls d ft' F' H', Gd K mg xc (mR K mg) r B ft' F' H' σ ρ s2 → ExcAt K mg F' cls d e → EX e s2 ρ → EV cls d H') : lift K mg (mR K mg) n (fun cs => sp (cs ++ dcs)) vs H QV EV := by
  obtain ⟨p, hb, z⟩ := z
  obtain ⟨ft0, m0, sub, back⟩ := mr_split (st0 := s.2) (b := s.1) G.reg (fun a h => (G.foot a h).1) p hb
  refine ⟨hl, r, ft0, F, (bx, st), cs, G.sub, fun a h => (G.foot a (sub a h)).1, m0, ha, hm _ _ _ _ _ _ (fun x s2 z v ft' F' H' c rg hv => ?_) (fun e s2 z cls d ft' F' H' c rg hx => ?_) z⟩
  · obtain ⟨ft'', c2, rg2⟩ := back c rg z.1
    exact hq x _ v ft'' F' H' (G.step c2 rg2) c.st.grow hv z.2
  · obtain ⟨ft'', c2, rg2⟩ := back c rg z.1
    exact he e _ cls d ft'' F' H' (G.step c2 rg2) hx z.2
def dCalM (n : Nat) (bx : Bool) (sp : DSp MS) (dcs : List C) (da : DA MS) : DX MS := fun s ρ Q E => da s ρ (fun cs s1 ρ1 => cs.length = n ∧ ∃ st rest, frm bx sp (cs ++ dcs) s1 st rest (fun x s2 => Q x s2 ρ1) fun e s2 => E e s2 ρ1) E
theorem sim_calM {n : Nat} {bx : Bool} {sp : DSp MS} {dcs : List C} {ta : TA} {da : DA MS} (hm : MonoSp sp) (ha : SimA K mg xc (mR K mg) W ta da) : SimE K mg xc (mR K mg) W (tCalD K mg (mR K mg) n (fun cs => sp (cs ++ dcs)) W ta) (dCalM n bx sp dcs da) where
  mono := fun h e z => ha.mono (fun cs s ρ ⟨a, st, rest, z⟩ => ⟨a, st, rest, frm_mono hm (fun _ _ z => h _ _ _ z) (fun _ _ z => e _ _ _ z) z⟩) e z
  run := fun {r B ft F H σ ρ s EX Q} G w q => by
    refine ha.run G w (ha.mono (fun cs s1 ρ1 z vs ft1 F1 H1 G1 e1 a1 => ?_) (fun _ _ _ z => z) q)
    obtain ⟨hl, st, rest, z⟩ := z
    exact frm_lift (EX := EX) hm G1 a1 (by rw [a1.length]; exact hl) z (fun x s2 v ft' F' H' G2 e2 hv q => q v _ _ _ G2 (e1.trans e2) hv) (fun e s2 cls d ft' F' H' G2 hx q => w _ _ _ _ _ _ _ _ G2 hx q)
/-- a callee over the box alone -/
def dCalBx (n : Nat) (sp : DSp Unit) (dcs : List C) (da : DA MS) : DX MS := fun s ρ Q E => da s ρ (fun cs s1 ρ1 => cs.length = n ∧ s1.1 = true ∧ sp (cs ++ dcs) () (fun x _ => Q x s1 ρ1) (fun e _ => E e s1 ρ1)) E
theorem box_m {ft : Addr → Prop} {r : Addr} {F H : Hp} : box.ok ft r F H () ↔ mOk K mg ft r F H (true, []) := by
  constructor
  · rintro ⟨h, d, ns, k, h1, h2, h3⟩
    exact ⟨[], [r], .nil, ⟨rfl, d, ns, k, h1, h2, h3⟩, by simp, fun a => by rw [h a]; simp⟩
  · rintro ⟨fp, bx, h1, ⟨rfl, d, ns, k, h2, h3, h4⟩, _, h6⟩
    cases h1
    exact ⟨fun a => by rw [h6 a]; simp, d, ns, k, h2, h3, h4⟩
theorem sim_calBx {n : Nat} {sp : DSp Unit} {dcs : List C} {ta : TA} {da : DA MS} (hm : MonoSp sp) (ha : SimA K mg xc (mR K mg) W ta da) : SimE K mg xc (mR K mg) W (tCalD K mg box n (fun cs => sp (cs ++ dcs)) W ta) (dCalBx n sp dcs da) where
  mono := fun h e z => ha.mono (fun cs s ρ z => ⟨z.1, z.2.1, hm _ _ _ _ _ _ (fun _ _ z => h _ _ _ z) (fun _ _ z => e _ _ _ z) z.2.2⟩) e z
  run := fun {r B ft F H σ ρ s EX Q} G w q => by
    refine ha.run G w (ha.mono (fun cs s1 ρ1 z vs ft1 F1 H1 G1 e1 a1 => ?_) (fun _ _ _ z => z) q)
    obtain ⟨hl, hb, z⟩ := z
    obtain ⟨ft0, m0, sub, back⟩ := mr_split (bx := true) (st := []) (rest := s1.2) (st0 := s1.2) (b := s1.1) G1.reg (fun a h => (G1.foot a h).1) (List.Perm.refl _) (fun _ => hb)
    refine ⟨by rw [a1.length]; exact hl, r, ft0, F1, (), cs, G1.sub, fun a h => (G1.foot a (sub a h)).1, box_m.mpr m0, a1, hm _ _ _ _ _ _ (fun x s2 z v ft' F' H' c rg hv => ?_) (fun e s2 z cls d ft' F' H' c rg hx => ?_) z⟩
    · obtain ⟨ft'', c2, rg2⟩ := back c (box_m.mp rg) rfl
      exact z v _ _ _ (G1.step c2 rg2) (e1.trans c.st.grow) hv
    · obtain ⟨ft'', c2, rg2⟩ := back c (box_m.mp rg) rfl
      exact w _ _ _ _ _ _ _ _ (G1.step c2 rg2) hx z
/-! methods and constructors -/
def tMetM (K : PySem.W.Frag) (mg : Str → Option Value) (c m : Str) (n : Nat) (sp : DSp MS) (W : WX) (ta : TE) (t : TA) : TE := fun σ H Q => ∀ C, mg c = some (.ref C) → tMethS C m (lift K mg (mR K mg) n sp) (WE W) ta t σ H Q
def dMetM (c m : Str) (n : Nat) (bx : Bool) (sp : DSp MS) (dcs : List C) (dx : DX MS) (da : DA MS) : DX MS := fun s ρ Q E => dx s ρ (fun x s1 ρ1 => hdlOf x fun a => (∃ ns ds, lkS s1.2 a = some (.obj c ns ds) ∧ m ∉ ns) ∧
  da s1 ρ1 (fun cs s2 ρ2 => cs.length = n ∧ ∃ st rest, frm bx sp (.d (.hdl a) :: cs ++ dcs) s2 st rest (fun x s3 => Q x s3 ρ2) fun e s3 => E e s3 ρ2) E) E
theorem sim_metM {c m : Str} {n : Nat} {bx : Bool} {sp : DSp MS} {dcs : List C} {te : TE} {ta : TA} {dx : DX MS} {da : DA MS} (hm : MonoSp sp) (hx : SimE K mg xc (mR K mg) W te dx) (ha : SimA K mg xc (mR K mg) W ta da) :
    SimE K mg xc (mR K mg) W (tMetM K mg c m (n + 1) (fun cs => sp (cs ++ dcs)) W te ta) (dMetM c m n bx sp dcs dx da) where
  mono := fun h e z => hx.mono (fun x s ρ z => hdlOf_mono (fun a z => ⟨z.1, ha.mono (fun cs s ρ ⟨a, st, rest, z⟩ => ⟨a, st, rest, frm_mono hm (fun _ _ z => h _ _ _ z) (fun _ _ z => e _ _ _ z) z⟩) e z.2⟩) z) e z
  run := fun {r B ft F H σ ρ s EX Q} G w q => by
    intro C hC
    refine hx.run G w (hx.mono (fun x s1 ρ1 z v ft1 F1 H1 G1 e1 a1 => ?_) (fun _ _ _ z => z) q)
    obtain ⟨a, rfl, rfl, ⟨ns, ds, hl, hn⟩, z⟩ := hdlOf_of a1 z
    obtain ⟨ex, _, ⟨Ca, dx', fs, rfl, h2, h3, h4, h5, h6, h7⟩, _⟩ := gm_cell G1 hl
    rw [hC] at h2
    cases h2
    refine ⟨a, dx', fs, rfl, h3, lk_none (by rw [h5]; exact hn), ?_⟩
    refine ha.run G1 w (ha.mono (fun cs s2 ρ2 z vs ft2 F2 H2 G2 e2 a2 => ?_) (fun _ _ _ z => z) z)
    obtain ⟨hlen, st, rest, z⟩ := z
    exact frm_lift (cs := .d (.hdl a) :: cs) (EX := EX) hm G2 (.cons (Has.hdl a) a2) (by rw [List.length_cons, a2.length, hlen]) z
      (fun x s2 v ft' F' H' G2 e3 hv q => q v _ _ _ G2 ((e1.trans e2).trans e3) hv) (fun e s2 cls d ft' F' H' G2 hx q => w _ _ _ _ _ _ _ _ G2 hx q)
/-- a new object, put into the store -/
theorem gm_obj {r : Addr} {B : Bs} {ft : Addr → Prop} {F H : Hp} {σ : L2.St} {ρ : En} {s : MS} (G : Gd K mg xc (mR K mg) r B ft F H σ ρ s) {c : Str} {Ca x dx : Addr} (hC : mg c = some (.ref Ca)) (hx : H x = none) (hdx : H dx = none) (ne : dx ≠ x) :
    lkS s.2 x = none ∧ ∃ ft', Gd K mg xc (mR K mg) r B ft' F (upd (upd H dx (.own x)) x (.ins Ca dx [])) σ ρ (s.1, (x, .obj c [] []) :: s.2) := by
  obtain ⟨fp, bx, h1, h2, h3, h4⟩ := id G.reg
  have fx : ¬ ft x := fun z => (mR K mg).alive G.reg x z hx
  have fd : ¬ ft dx := fun z => (mR K mg).alive G.reg dx z hdx
  have up : ∀ a o, H a = some o → upd (upd H dx (.own x)) x (.ins Ca dx []) a = some o := fun a o h => by
    have n1 : a ≠ x := fun e => by rw [e, hx] at h; cases h
    have n2 : a ≠ dx := fun e => by rw [e, hdx] at h; cases h
    rw [upd_ne n1, upd_ne n2]; exact h
  refine ⟨gm_free G fx, fun a => ft a ∨ a = x ∨ a = dx, G.step ⟨⟨fun a o h => up a o (G.sub a o h), Same.refl F, fun _ z => .inl z, fun a o h _ => up a o h, fun a h => Same.ne up h⟩, fun a z => ?_⟩ ⟨(x :: [dx]) ++ fp, bx, .cons ⟨Ca, dx, [], rfl, hC, upd_same, by rw [upd_ne ne]; exact upd_same, rfl, .nil, by decide⟩ (h1.mono (Same.refl F) fun a _ o => up a o), h2.mono (Same.refl F) fun a _ o => up a o, ?_, fun a => ?_⟩⟩
  · rcases z with z | rfl | rfl
    · exact ⟨(G.foot a z).1, .inl z⟩
    · exact ⟨G.sub.free hx, .inr hx⟩
    · exact ⟨G.sub.free hdx, .inr hdx⟩
  · have nx : x ∉ fp ++ bx := fun z => fx ((h4 x).mpr z)
    have nd : dx ∉ fp ++ bx := fun z => fd ((h4 dx).mpr z)
    show (x :: dx :: (fp ++ bx)).Nodup
    rw [List.nodup_cons, List.nodup_cons]
    refine ⟨fun z => ?_, nd, h3⟩
    rcases List.mem_cons.mp z with e | z
    · exact ne e.symm
    · exact nx z
  · show (ft a ∨ a = x ∨ a = dx) ↔ a ∈ x :: dx :: (fp ++ bx)
    rw [h4 a, List.mem_cons, List.mem_cons]
    constructor
    · rintro (h | h | h)
      · exact .inr (.inr h)
      · exact .inl h
      · exact .inr (.inl h)
    · rintro (h | h | h)
      · exact .inr (.inl h)
      · exact .inr (.inr h)
      · exact .inl h
def tMakeM (K : PySem.W.Frag) (mg : Str → Option Value) (c : Str) (n : Nat) (sp : DSp MS) (W : WX) (t : TA) : TE := fun σ H Q => ∀ Ca, mg c = some (.ref Ca) → t σ H fun vs H1 => ∀ x dx, H1 x = none → H1 dx = none → dx ≠ x →
  lift K mg (mR K mg) n sp (.ref x :: vs) (upd (upd H1 dx (.own x)) x (.ins Ca dx [])) (fun v H2 => v = .non ∧ Q (.ref x) H2) (WE W σ)
def dMakeM (c : Str) (n : Nat) (bx : Bool) (sp : DSp MS) (dcs : List C) (da : DA MS) : DX MS := fun s ρ Q E => da s ρ (fun cs s1 ρ1 => cs.length = n ∧ ∀ a, lkS s1.2 a = none → ∃ st rest, frm bx sp (.d (.hdl a) :: cs ++ dcs) (s1.1, (a, .obj c [] []) :: s1.2) st rest (fun y s2 => y = .non ∧ Q (.hdl a) s2 ρ1) fun e s2 => E e s2 ρ1) E
theorem sim_makeM {c : Str} {n : Nat} {bx : Bool} {sp : DSp MS} {dcs : List C} {ta : TA} {da : DA MS} (hm : MonoSp sp) (ha : SimA K mg xc (mR K mg) W ta da) :
    SimE K mg xc (mR K mg) W (tMakeM K mg c (n + 1) (fun cs => sp (cs ++ dcs)) W ta) (dMakeM c n bx sp dcs da) where
  mono := fun h e z => ha.mono (fun cs s ρ ⟨l, z⟩ => ⟨l, fun a n => let ⟨st, rest, z⟩ := z a n; ⟨st, rest, frm_mono hm (fun _ _ z => ⟨z.1, h _ _ _ z.2⟩) (fun _ _ z => e _ _ _ z) z⟩⟩) e z
  run := fun {r B ft F H σ ρ s EX Q} G w q => by
    intro Ca hC
    refine ha.run G w (ha.mono (fun cs s1 ρ1 z vs ft1 F1 H1 G1 e1 a1 => ?_) (fun _ _ _ z => z) q)
    obtain ⟨hl, z⟩ := z
    intro x dx hx hdx hne
    obtain ⟨lk, ft', G2⟩ := gm_obj G1 hC hx hdx hne (c := c)
    obtain ⟨st, rest, z⟩ := z x lk
    exact frm_lift (cs := .d (.hdl x) :: cs) (EX := EX) hm G2 (.cons (Has.hdl x) a1) (by rw [List.length_cons, a1.length, hl]) z
      (fun y s2 v ft' F' H' G2 e3 hv q => by
        obtain ⟨rfl, q⟩ := q
        cases hv
        exact ⟨rfl, q _ _ _ _ G2 (e1.trans e3) (.hdl x)⟩) (fun e s2 cls d ft' F' H' G2 hx q => w _ _ _ _ _ _ _ _ G2 hx q)
end
/-- a class whose __init__ is this, over the store -/
structure DMakM (P : Program) (w : World) (K : PySem.W.Frag) (mg : Str → Option Value) (base : Heap) (k : Nat) (c : Str) (ps : List Str) (dcs : List C) (sp : DSp MS) : Prop where
  mono : MonoSp sp
  ex : ∃ f fd ds dvs Ca, FnG P w K mg base (L2.CX P w) k f fd ps (lift K mg (mR K mg) ps.length sp) ∧ Binds K fd ps ds ∧ Vals dvs ds ∧ (∀ r F, ArL K mg r F dvs dcs) ∧ mg c = some (.ref Ca) ∧ Mk K Ca f
end DL

set_option linter.all false
set_option maxRecDepth 100000
set_option maxHeartbeats 4000000
/-! rows over a store -/
namespace DL
open PySem PySem.Spec PyProof.Rows L2 GR N01 RZ
/-! a list of the store, walked -/
def dLoopM (a : Addr) (all : List D) (g : DG) (tb : DS MS) : List D → DS MS
  | [], DE, s, ρ => lkS s.2 a = some (.lst all) ∧ DE.nx s ρ
  | x :: xs, DE, s, ρ => lkS s.2 a = some (.lst all) ∧ g x ρ fun ρ => tb { DE with nx := dLoopM a all g tb xs DE, ct := dLoopM a all g tb xs DE, bk := DE.nx } s ρ
def dForM (dh : DX MS) (g : DG) (tb : DS MS) : DS MS := fun DE s ρ => dh s ρ (fun h s ρ => hdlOf h fun a => ∃ xs, lkS s.2 a = some (.lst xs) ∧ dLoopM a xs g tb xs DE s ρ) DE.ex
section
variable {K : PySem.W.Frag} {mg : Str → Option Value} {xc : XC} {W : WX}
theorem loopM_mono {tb : TS} {db : DS MS} {g : TG} {dg : DG} {is : List Nat} {a : Addr} {all : List D} (hb : SimS K mg xc (mR K mg) W tb db) (hg : SimG (S := MS) K mg xc (mR K mg) g dg is) : ∀ (ds : List D) {s : MS} {ρ : En} {DE DE' : DEnds MS}, DE.Le DE' → dLoopM a all dg db ds DE s ρ → dLoopM a all dg db ds DE' s ρ
  | [], _, _, _, _, h, z => ⟨z.1, h.nx _ _ z.2⟩
  | x :: xs, s, ρ, DE, DE', h, z => ⟨z.1, hg.mono (fun ρ z => hb.mono (DE := { DE with nx := dLoopM a all dg db xs DE, ct := dLoopM a all dg db xs DE, bk := DE.nx }) (DE' := { DE' with nx := dLoopM a all dg db xs DE', ct := dLoopM a all dg db xs DE', bk := DE'.nx })
      ⟨fun _ _ z => loopM_mono hb hg xs h z, h.rt, h.nx, fun _ _ z => loopM_mono hb hg xs h z, h.ex⟩ z) z.2⟩
theorem sims_forM {te : TE} {g : TG} {tb : TS} {dh : DX MS} {dg : DG} {is : List Nat} {db : DS MS} (hi : SimE K mg xc (mR K mg) W te dh) (hg : SimG (S := MS) K mg xc (mR K mg) g dg is) (hb : SimS K mg xc (mR K mg) W tb db) : SimS K mg xc (mR K mg) W (tFor (iU K te) g tb) (dForM dh dg db) where
  mono := fun h z => hi.mono (fun x _ _ z => hdlOf_mono (fun a ⟨xs, e, z⟩ => ⟨xs, e, loopM_mono hb hg xs h z⟩) z) h.ex z
  run := fun {r B ft F H σ ρ s Dn DE} G w q => by
    refine hi.run G (w.ex _) (hi.mono (fun x s1 ρ1 z v ft1 F1 H1 G1 e1 a1 => ?_) (fun _ _ _ z => z) q)
    obtain ⟨a, rfl, rfl, ds, hl, z⟩ := hdlOf_of a1 z
    obtain ⟨ex, _, ⟨rfl, zs, hz, hzs⟩, _⟩ := gm_cell G1 hl
    refine .inl ⟨a, rfl, ⟨zs, .inl (.inl hz)⟩, ?_⟩
    have w' := w.rebase G1
    refine ⟨fun i m σ' H' => i + m = ds.length ∧ ∃ ft' F' ρ' s', Gd K mg xc (mR K mg) r (bsOf ft1 F1 H1 σ ρ1) ft' F' H' σ' ρ' s' ∧ dLoopM a ds dg db (ds.drop i) DE s' ρ', ⟨ds.length, Nat.zero_add _, ft1, F1, ρ1, s1, G1.here, z⟩, ?_⟩
    rintro i m σ' H' ⟨hm, ft', F', ρ', s', G', z⟩
    by_cases hlt : i < ds.length
    · obtain ⟨d, hd⟩ : ∃ d, ds[i]? = some d := ⟨_, List.getElem?_eq_getElem hlt⟩
      rw [drop_cons_of hd] at z
      obtain ⟨hl2, z⟩ := z
      obtain ⟨ex2, _, ⟨rfl, zs2, hz2, hzs2⟩, _⟩ := gm_cell G' hl2
      have sq : SqL K H' a zs2 := .inl (.inl hz2)
      obtain ⟨x0, hx0⟩ := get_lt (show i < zs2.length by rw [hzs2.length]; exact hlt)
      refine .inr ⟨⟨zs2, x0, sq, hx0⟩, fun σ2 H2 => ∃ ft2 F2 ρ2 s2, Gd K mg xc (mR K mg) r (bsOf ft1 F1 H1 σ ρ1) ft2 F2 H2 σ2 ρ2 s2 ∧ dLoopM a ds dg db (ds.drop (i + 1)) DE s2 ρ2, fun σ2 H2 ⟨ft2, F2, ρ2, s2, G2, z2⟩ => ⟨m - 1, by omega, by omega, ft2, F2, ρ2, s2, G2, z2⟩, fun x Hy hy => ?_⟩
      obtain ⟨rfl, hy⟩ := hy
      obtain ⟨v, e1', e2'⟩ := hzs2.get hd
      have := hy zs2 sq
      rw [e1'] at this; cases this
      refine hg.run G' e2' (hg.mono (fun ρ3 z σ3 _ G3 => ?_) z)
      refine hb.run (DE := { DE with nx := dLoopM a ds dg db (ds.drop (i + 1)) DE, ct := dLoopM a ds dg db (ds.drop (i + 1)) DE, bk := DE.nx }) G3 ⟨fun _ _ _ _ _ _ g z => ⟨_, _, _, _, g, z⟩, w'.rt, w'.nx, fun _ _ _ _ _ _ g z => ⟨_, _, _, _, g, z⟩, w'.ex⟩ z
    · have e : i = ds.length := by omega
      subst e
      rw [List.drop_length] at z
      obtain ⟨hl2, z⟩ := z
      obtain ⟨ex2, _, ⟨rfl, zs2, hz2, hzs2⟩, _⟩ := gm_cell G' hl2
      exact .inl ⟨⟨zs2, .inl (.inl hz2), by rw [hzs2.length]; exact Nat.le_refl _⟩, w'.nx _ _ _ _ _ _ G' z⟩
end
/-! ### rows -/
section
variable {X : Cx} {xc : XC} {W : WX} {e o a b : Expr} {es : List Expr} {sts : List Stmt} {te th tx ta' tb : TE} {ta : TA} {dx dh dv : DX MS} {da : DA MS} {ts : TS} {ds : DS MS} {pos apos p : Pos} {k j : Nat} {c m f : Str} {ps : List Str} {dcs : List C}
theorem qnew (h : QF X xc (mR X.K X.mg) W e te dx) : QE X xc (mR X.K X.mg) W e te (dNew dx) := ⟨h.pe, sim_new h.sim⟩
theorem oh (h : QE X xc (mR X.K X.mg) W e te dx) : QO X xc (mR X.K X.mg) W e te (dOH dx) := ⟨h.pe, simo_h h.sim⟩
theorem qfldM (g : ObjF X.K X.mg c f) (h : QE X xc (mR X.K X.mg) W e te dx) (hb : attributeBase e f X.env (eval e X.env) = eval e X.env := by rfl) : QE X xc (mR X.K X.mg) W (.Attribute e f pos) (tFld X.K te f) (dFldM c f dx) :=
  ⟨fun k => pe_fld (h.pe k) hb, sim_fldM g h.sim⟩
theorem sforM {tg : Expr} {g : TG} {dg : DG} {is : List Nat} (hi : QE X xc (mR X.K X.mg) W e te dh) (hg : QG X xc (mR X.K X.mg) tg g dg is) (hb : QSs X xc (mR X.K X.mg) W sts ts ds) (hc : X.calm = true := by rfl) (hs : ∀ x, foldedSetIterable e X.env x = pure x := by intro _; rfl) :
    QS X xc (mR X.K X.mg) W (.For tg e sts [] pos) (tFor (iU X.K te) g ts) (dForM dh dg ds) := ⟨fun k => ps_for k.po hc (pi_U (hi.pe k)) hg.pg (hb.ps k) hs, sims_forM hi.sim hg.sim hb.sim⟩
theorem sappM {cpos : Pos} (ho : QE X xc (mR X.K X.mg) W o th dh) (h : QE X xc (mR X.K X.mg) W e te dx)
    (hbase : attributeBase o "append" X.env (eval o X.env) = eval o X.env := by rfl)
    (hfew : ((backTo cpos (starEach [e] X.env)).all (fun x => !x.1) && (backToKw cpos (keywordEach [] X.env)).all (fun x => x.1.isSome) && decide ([e].length + ([] : List Keyword).length + (if ([] : List Keyword).isEmpty then 0 else 1) < 30)) = true := by rfl)
    (hline : (apos.endLine == cpos.line) = true := by rfl) (hse : starEach [e] X.env = (false, eval e X.env) :: starEach [] X.env := by rfl) (hpl : (backTo cpos (starEach [] X.env)).any (·.1) = false := by rfl)
    (hs : swapsWith (.Call (.Attribute o "append" apos) [e] [] cpos) none pos.line X.env = pure false := by rfl) :
    QS X xc (mR X.K X.mg) W (.Expr (.Call (.Attribute o "append" apos) [e] [] cpos) pos) (tDrop (tBM X.K "list" rAppend th (tCons te tNil))) (dAppM dh dx) :=
  ⟨fun k => ps_expr (pe_bm PySem.F.plainAttrs_list PySem.F.slot_list_append PySem.F.type_list_append mt_append (ho.pe k) (pa_cons (h.pe k) pa_nil hse) hbase hfew hline hse hpl) hs, sims_appM ho.sim h.sim⟩
theorem qe_calM {x : Str} {sp : DSp MS} (n : Nat) (bx : Bool) (c : DCal X.K X.mg X.prog X.w X.base (mR X.K X.mg) k x ps dcs sp) (hgd : X.A.guards = some []) (hr : Room j X.A) (hj : k ≤ j) (hg : Gl X x) (ha : QA X xc (mR X.K X.mg) W (e :: es) ta da) (hn : n + dcs.length = ps.length)
    (hdb : (x == ("__debug__" : Str)) = false := by decide) (he : starEach (e :: es) X.env = (false, eval e X.env) :: starEach es X.env := by rfl) (hpl : (backTo pos (starEach es X.env)).any (·.1) = false := by rfl) :
    QE X xc (mR X.K X.mg) W (.Call (.Name x p) (e :: es) [] pos) (tCalD X.K X.mg (mR X.K X.mg) n (fun cs => sp (cs ++ dcs)) W ta) (dCalM n bx sp dcs da) := ⟨fun k => pe_calD c hgd hr hj k.tk hg (ha.pa k) hn hdb he hpl, sim_calM c.mono ha.sim⟩
theorem qe_calBx {x : Str} {sp : DSp Unit} (n : Nat) (c : DCal X.K X.mg X.prog X.w X.base box k x ps dcs sp) (hgd : X.A.guards = some []) (hr : Room j X.A) (hj : k ≤ j) (hg : Gl X x) (ha : QA X xc (mR X.K X.mg) W (e :: es) ta da) (hn : n + dcs.length = ps.length)
    (hdb : (x == ("__debug__" : Str)) = false := by decide) (he : starEach (e :: es) X.env = (false, eval e X.env) :: starEach es X.env := by rfl) (hpl : (backTo pos (starEach es X.env)).any (·.1) = false := by rfl) :
    QE X xc (mR X.K X.mg) W (.Call (.Name x p) (e :: es) [] pos) (tCalD X.K X.mg box n (fun cs => sp (cs ++ dcs)) W ta) (dCalBx n sp dcs da) := ⟨fun k => pe_calD c hgd hr hj k.tk hg (ha.pa k) hn hdb he hpl, sim_calBx c.mono ha.sim⟩
theorem qe_metM {sp : DSp MS} (n : Nat) (bx : Bool) {pl : Sem Bool} (g : DMet X.prog X.w X.K X.mg X.base (mR X.K X.mg) k c m ps dcs sp) (hgd : X.A.guards = some []) (hr : Room j X.A) (hj : k ≤ j) (ho : QE X xc (mR X.K X.mg) W o te dx) (ha : QA X xc (mR X.K X.mg) W (e :: es) ta da) (hn : n + 1 + dcs.length = ps.length)
    (hst : starEach (e :: es) X.env = (false, eval e X.env) :: starEach es X.env := by rfl) (hpl : (backTo pos (starEach es X.env)).any (·.1) = false := by rfl)
    (ht : eval (.Call (.Attribute o m apos) (e :: es) [] pos) X.env = (do
      let ov ← eval o X.env
      standAt apos.atName
      let (f, first) ← holding [ov] (getMethod ov m pl)
      callWith pos f first (backTo pos (starEach (e :: es) X.env)) (backToKw pos (keywordEach [] X.env))) := by rfl) :
    QE X xc (mR X.K X.mg) W (.Call (.Attribute o m apos) (e :: es) [] pos) (tMetM X.K X.mg c m (n + 1) (fun cs => sp (cs ++ dcs)) W te ta) (dMetM c m n bx sp dcs dx da) := by
  refine ⟨fun t => ?_, sim_metM g.mono ho.sim ha.sim⟩
  obtain ⟨f, fd, ds, dvs, Ca, F, hb, hd, hdc, hm, hc, hme⟩ := g.ex
  exact PE.imp (pe_methG (E := WE W) (sp' := lift X.K X.mg (mR X.K X.mg) (n + 1) (fun cs => sp (cs ++ dcs))) (lift_app hdc hn) (ho.pe t) hc hme F hgd (hr.mono hj) hb hd (fun σ => passAt t.tk σ) (ha.pa t) hst hpl ht) fun σ H Q q => q Ca hm
theorem qe_metM0 {sp : DSp MS} (bx : Bool) {pl : Sem Bool} (g : DMet X.prog X.w X.K X.mg X.base (mR X.K X.mg) k c m ps dcs sp) (hgd : X.A.guards = some []) (hr : Room j X.A) (hj : k ≤ j) (ho : QE X xc (mR X.K X.mg) W o te dx) (hn : 1 + dcs.length = ps.length)
    (ht : eval (.Call (.Attribute o m apos) [] [] pos) X.env = (do
      let ov ← eval o X.env
      standAt apos.atName
      let (f, first) ← holding [ov] (getMethod ov m pl)
      callWith pos f first (backTo pos (starEach [] X.env)) (backToKw pos (keywordEach [] X.env))) := by rfl) :
    QE X xc (mR X.K X.mg) W (.Call (.Attribute o m apos) [] [] pos) (tMetM X.K X.mg c m 1 (fun cs => sp (cs ++ dcs)) W te tNil) (dMetM c m 0 bx sp dcs dx dNil) := by
  refine ⟨fun t => ?_, sim_metM (n := 0) g.mono ho.sim sim_nil⟩
  obtain ⟨f, fd, ds, dvs, Ca, F, hb, hd, hdc, hm, hc, hme⟩ := g.ex
  exact PE.imp (pe_methG0 (E := WE W) (sp' := lift X.K X.mg (mR X.K X.mg) 1 (fun cs => sp (cs ++ dcs))) (lift_app hdc hn) (ho.pe t) hc hme F hgd (hr.mono hj) hb hd (fun σ => passAt t.tk σ) ht) fun σ H Q q => q Ca hm
theorem qe_makeM {sp : DSp MS} (n : Nat) (bx : Bool) (g : DMakM X.prog X.w X.K X.mg X.base k c ps dcs sp) (hgd : X.A.guards = some []) (hr : Room j X.A) (hj : k + 1 ≤ j) (hg : Gl X c) (ha : QA X xc (mR X.K X.mg) W (e :: es) ta da) (hn : n + 1 + dcs.length = ps.length)
    (hdb : (c == ("__debug__" : Str)) = false := by decide) (he : starEach (e :: es) X.env = (false, eval e X.env) :: starEach es X.env := by rfl) (hpl : (backTo pos (starEach es X.env)).any (·.1) = false := by rfl) :
    QE X xc (mR X.K X.mg) W (.Call (.Name c p) (e :: es) [] pos) (tMakeM X.K X.mg c (n + 1) (fun cs => sp (cs ++ dcs)) W ta) (dMakeM c n bx sp dcs da) := by
  refine ⟨fun t => ?_, sim_makeM g.mono ha.sim⟩
  obtain ⟨f, fd, ds, dvs, Ca, F, hb, hd, hdc, hm, M⟩ := g.ex
  exact PE.imp (pe_makeG (E := WE W) (sp' := lift X.K X.mg (mR X.K X.mg) (n + 1) (fun cs => sp (cs ++ dcs))) (lift_app hdc hn) M F hgd (hr.mono hj) hg hm hb hd (fun σ => passAt t.tk σ) (ha.pa t) hdb he hpl) fun σ H Q q => q Ca hm
theorem sfsetM {pos' : Pos} (g : ObjF X.K X.mg c f) (ho : QE X xc (mR X.K X.mg) W o th dh) (h : QE X xc (mR X.K X.mg) W e te dx) (hs : swapsWith e (some (.Attribute o f pos')) pos.line X.env = pure false := by rfl) :
    QS X xc (mR X.K X.mg) W (.Assign [.Attribute o f pos'] e pos) (sFld X.K th te f) (dFSetM c f dx dh) := ⟨fun k => ps_fld (ho.pe k) (h.pe k) hs, sims_fsetM g ho.sim h.sim⟩
end
/-! a callee that makes its own store, called from anywhere -/
section
variable {S : Type} {K : PySem.W.Frag} {mg : Str → Option Value} {xc : XC} {R : Reg S} {W : WX}
def dCalN (n : Nat) (sp : DSp MS) (dcs : List C) (da : DA S) : DX S := fun s ρ Q E => da s ρ (fun cs s1 ρ1 => cs.length = n ∧ sp (cs ++ dcs) (false, []) (fun x _ => Q x s1 ρ1) (fun e _ => E e s1 ρ1)) E
theorem sim_calN {n : Nat} {sp : DSp MS} {dcs : List C} {ta : TA} {da : DA S} (hm : MonoSp sp) (ha : SimA K mg xc R W ta da) : SimE K mg xc R W (tCalD K mg (mR K mg) n (fun cs => sp (cs ++ dcs)) W ta) (dCalN n sp dcs da) where
  mono := fun h e z => ha.mono (fun cs s ρ z => ⟨z.1, hm _ _ _ _ _ _ (fun _ _ z => h _ _ _ z) (fun _ _ z => e _ _ _ z) z.2⟩) e z
  run := fun {r B ft F H σ ρ s EX Q} G w q => by
    refine ha.run G w (ha.mono (fun cs s1 ρ1 z vs ft1 F1 H1 G1 e1 a1 => ?_) (fun _ _ _ z => z) q)
    refine ⟨by rw [a1.length]; exact z.1, r, fun _ => False, F1, (false, []), cs, G1.sub, fun a h => h.elim, ⟨[], [], .nil, rfl, by simp, fun a => by simp⟩, a1, hm _ _ _ _ _ _ (fun x s2 z v ft' F' H' c rg hv => ?_) (fun e s2 z cls d ft' F' H' c rg hx => ?_) z.2⟩
    · exact z v _ _ _ (G1.pstep (cstep_pure c)) (e1.trans c.st.grow) hv
    · exact w _ _ _ _ _ _ _ _ (G1.pstep (cstep_pure c)) hx z
end
section
variable {S : Type} {X : Cx} {xc : XC} {R : Reg S} {W : WX} {k j : Nat} {x : Str} {ps : List Str} {dcs : List C} {p pos : Pos} {e : Expr} {es : List Expr} {ta : TA} {da : DA S}
theorem qe_calN {sp : DSp MS} (n : Nat) (c : DCal X.K X.mg X.prog X.w X.base (mR X.K X.mg) k x ps dcs sp) (hgd : X.A.guards = some []) (hr : Room j X.A) (hj : k ≤ j) (hg : Gl X x) (ha : QA X xc R W (e :: es) ta da) (hn : n + dcs.length = ps.length)
    (hdb : (x == ("__debug__" : Str)) = false := by decide) (he : starEach (e :: es) X.env = (false, eval e X.env) :: starEach es X.env := by rfl) (hpl : (backTo pos (starEach es X.env)).any (·.1) = false := by rfl) :
    QE X xc R W (.Call (.Name x p) (e :: es) [] pos) (tCalD X.K X.mg (mR X.K X.mg) n (fun cs => sp (cs ++ dcs)) W ta) (dCalN n sp dcs da) := ⟨fun k => pe_calD c hgd hr hj k.tk hg (ha.pa k) hn hdb he hpl, sim_calN c.mono ha.sim⟩
end
/-! ### readings -/
/-- contracts over a store: arguments and store by a parameter -/
def msp {α : Type} (args : α → List C) (st : α → MS) (pre : α → Prop) (post : α → D → MS → Prop) (exn : α → Exc → MS → Prop) : DSp MS := fun cs s Q E => ∃ a, cs = args a ∧ s = st a ∧ pre a ∧ (∀ x s', post a x s' → Q x s') ∧ ∀ e s', exn a e s' → E e s'
theorem msp_mono {α : Type} {args : α → List C} {st : α → MS} {pre : α → Prop} {post : α → D → MS → Prop} {exn : α → Exc → MS → Prop} : MonoSp (msp args st pre post exn) :=
  fun _ _ _ _ _ _ hq he ⟨a, e, f, p, q, x⟩ => ⟨a, e, f, p, fun y s z => hq _ _ (q y s z), fun y s z => he _ _ (x y s z)⟩
/-- the ends of a def over a store -/
abbrev finM (Q : D → MS → Prop) (E : Exc → MS → Prop) : DEnds MS := ⟨fun s _ => Q .non s, Q, fun _ _ => False, fun _ _ => False, fun e s _ => E e s⟩
/-- nobody calls it -/
def nosp {S : Type} : DSp S := fun _ _ _ _ => False
theorem nosp_mono {S : Type} : MonoSp (nosp (S := S)) := fun _ _ _ _ _ _ _ _ z => z
/-- what is asked of an object of the store -/
def objI (o : Option D) (c : Str) [q : Kn (List Str → List D → Prop)] : Prop := ∃ ns ds, o = some (.obj c ns ds) ∧ q.k ns ds
@[simp] theorem objI_c {c : Str} {ns : List Str} {ds : List D} {q : Kn (List Str → List D → Prop)} : objI (some (.obj c ns ds)) c (q := q) = q.k ns ds := propext ⟨fun ⟨_, _, e, z⟩ => by cases e; exact z, fun z => ⟨_, _, rfl, z⟩⟩
def lstI (o : Option D) [q : Kn (List D → Prop)] : Prop := ∃ xs, o = some (.lst xs) ∧ q.k xs
@[simp] theorem lstI_c {xs : List D} {q : Kn (List D → Prop)} : lstI (some (.lst xs)) (q := q) = q.k xs := propext ⟨fun ⟨_, e, z⟩ => by cases e; exact z, fun z => ⟨_, rfl, z⟩⟩
/-- whatever the address of the new object -/
def newI (st : Sto) [q : Kn (Addr → Prop)] : Prop := ∀ a, lkS st a = none → q.k a
theorem newI_of {st : Sto} {P : Addr → Prop} (h : ∀ a, lkS st a = none → P a) : newI st (q := ⟨P⟩) := h
/-- the callee's contract over a part of the store -/
def frmI (bx : Bool) (sp : DSp MS) (cs : List C) (s : MS) [q : Kn (D → MS → Prop)] [e : Kn (Exc → MS → Prop)] : Prop := ∃ st rest, frm bx sp cs s st rest q.k e.k
def pkO : Option D → Option D
  | some (.lst xs) => some (D.lst xs)
  | some (.dct ks xs) => some (.dct ks xs)
  | some (.dtt ks xs) => some (.dtt ks xs)
  | _ => none
theorem pk_o {st : Sto} {a : Addr} : pkS st a = pkO (lkS st a) := by
  unfold pkS
  cases lkS st a with
  | none => rfl
  | some d => cases d <;> rfl
def pkI (o : Option D) [q : Kn (D → Prop)] : Prop := ∃ x, pkO o = some x ∧ q.k x
@[simp] theorem pkI_l {xs : List D} {q : Kn (D → Prop)} : pkI (some (.lst xs)) (q := q) = q.k (.lst xs) := propext ⟨fun ⟨_, e, z⟩ => by cases e; exact z, fun z => ⟨_, rfl, z⟩⟩
@[simp] theorem pkI_d {ks : List Str} {xs : List D} {q : Kn (D → Prop)} : pkI (some (.dct ks xs)) (q := q) = q.k (.dct ks xs) := propext ⟨fun ⟨_, e, z⟩ => by cases e; exact z, fun z => ⟨_, rfl, z⟩⟩
@[simp] theorem pkI_t {ks : List (List Str)} {xs : List D} {q : Kn (D → Prop)} : pkI (some (.dtt ks xs)) (q := q) = q.k (.dtt ks xs) := propext ⟨fun ⟨_, e, z⟩ => by cases e; exact z, fun z => ⟨_, rfl, z⟩⟩
@[simp ↓] theorem x_rdC {s : MS} {ρ : En} {a : Addr} {P : D → Prop} : rdv s ρ P (.cel a) = pkI (lkS s.2 a) (q := ⟨P⟩) := by
  unfold pkI
  rw [← pk_o]
  rfl
section
variable {s : MS} {ρ : En} {Q : D → MS → En → Prop} {E : EK MS} {DE : DEnds MS} {c f m : Str} {n : Nat} {bx : Bool} {sp : DSp MS} {dcs : List C} {dx dh dv : DX MS} {da : DA MS} {g : DG} {tb : DS MS} {a b : Addr} {d d' : D} {st : Sto} {k : Addr → Prop}
@[simp] theorem v_hdl : hdlOf (.hdl a) k = k a := rfl
@[simp] theorem lkS_c : lkS ((a, d) :: st) b = if b = a then some d else lkS st b := by rw [lkS]
@[simp] theorem setS_c : setS ((a, d) :: st) b d' = if b = a then (a, d') :: st else (a, d) :: setS st b d' := by rw [setS]
@[simp] theorem putNs_n : putNs [] f = [f] := rfl
@[simp] theorem putNs_c {n : Str} {ns : List Str} : putNs (n :: ns) f = if n = f then n :: ns else n :: putNs ns f := by rw [putNs]
@[simp] theorem putDs_n : putDs [] [] f d = [d] := by rw [putDs]; intros; contradiction
@[simp] theorem putDs_c {n : Str} {ns : List Str} {ds : List D} : putDs (n :: ns) (d' :: ds) f d = if n = f then d :: ds else d' :: putDs ns ds f d := by rw [putDs]
@[simp ↓] theorem x_new : dNew dx s ρ Q E = dx s ρ (fun x s ρ => newI s.2 (q := ⟨fun a => Q (.hdl a) (s.1, (a, x) :: s.2) ρ⟩)) E := rfl
@[simp ↓] theorem x_oh {Q : Rd → MS → En → Prop} : dOH dx s ρ Q E = dx s ρ (fun x s ρ => hdlOf x fun a => Q (.cel a) s ρ) E := rfl
@[simp ↓] theorem x_fldM : dFldM c f dx s ρ Q E = dx s ρ (fun x s ρ => hdlOf x fun a => objI (lkS s.2 a) c (q := ⟨fun ns ds => ∃ d, lkF ns ds f = some d ∧ Q d s ρ⟩)) E := by
  show dx s ρ _ E = dx s ρ _ E
  congr 1; funext x s ρ; congr 1; funext a
  exact propext ⟨fun ⟨ns, ds, d, e, z⟩ => ⟨ns, ds, e, d, z⟩, fun ⟨ns, ds, e, d, z⟩ => ⟨ns, ds, d, e, z⟩⟩
@[simp ↓] theorem x_fsetM : dFSetM c f dv dx DE s ρ = dv s ρ (fun y s ρ => dx s ρ (fun x s ρ => hdlOf x fun a => objI (lkS s.2 a) c (q := ⟨fun ns ds => ns.length < 100 ∧ DE.nx (s.1, setS s.2 a (.obj c (putNs ns f) (putDs ns ds f y))) ρ⟩)) DE.ex) DE.ex := rfl
@[simp ↓] theorem x_appM : dAppM dh dx DE s ρ = dh s ρ (fun h s ρ => hdlOf h fun a => lstI (lkS s.2 a) (q := ⟨fun _ => dx s ρ (fun x s ρ => lstI (lkS s.2 a) (q := ⟨fun xs => xs.length < 16777216 ∧ DE.nx (s.1, setS s.2 a (.lst (xs ++ [x]))) ρ⟩)) DE.ex⟩)) DE.ex := rfl
@[simp ↓] theorem x_forM : dForM dh g tb DE s ρ = dh s ρ (fun h s ρ => hdlOf h fun a => lstI (lkS s.2 a) (q := ⟨fun xs => dLoopM a xs g tb xs DE s ρ⟩)) DE.ex := rfl
@[simp ↓] theorem x_calM : dCalM n bx sp dcs da s ρ Q E = da s ρ (fun cs s1 ρ1 => cs.length = n ∧ frmI bx sp (cs ++ dcs) s1 (q := ⟨fun x s2 => Q x s2 ρ1⟩) (e := ⟨fun e s2 => E e s2 ρ1⟩)) E := rfl
@[simp ↓] theorem x_metM : dMetM c m n bx sp dcs dx da s ρ Q E = dx s ρ (fun x s1 ρ1 => hdlOf x fun a => objI (lkS s1.2 a) c (q := ⟨fun ns _ => m ∉ ns⟩) ∧
  da s1 ρ1 (fun cs s2 ρ2 => cs.length = n ∧ frmI bx sp (.d (.hdl a) :: cs ++ dcs) s2 (q := ⟨fun x s3 => Q x s3 ρ2⟩) (e := ⟨fun e s3 => E e s3 ρ2⟩)) E) E := rfl
@[simp ↓] theorem x_makeM : dMakeM c n bx sp dcs da s ρ Q E = da s ρ (fun cs s1 ρ1 => cs.length = n ∧ newI s1.2 (q := ⟨fun a => frmI bx sp (.d (.hdl a) :: cs ++ dcs) (s1.1, (a, .obj c [] []) :: s1.2) (q := ⟨fun y s2 => y = .non ∧ Q (.hdl a) s2 ρ1⟩) (e := ⟨fun e s2 => E e s2 ρ1⟩)⟩)) E := rfl
end
section
variable {S : Type} {s : S} {ρ : En} {Q : D → S → En → Prop} {E : EK S} {n : Nat} {sp : DSp MS} {dcs : List C} {da : DA S}
@[simp ↓] theorem x_calN : dCalN n sp dcs da s ρ Q E = da s ρ (fun cs s1 ρ1 => cs.length = n ∧ callI sp (cs ++ dcs) (false, []) (q := ⟨fun x _ => Q x s1 ρ1⟩) (e := ⟨fun e _ => E e s1 ρ1⟩)) E := rfl
end
/-- a call of a contract over a store -/
theorem frm_msp {α : Type} {args : α → List C} {pst : α → MS} {pre : α → Prop} {post : α → D → MS → Prop} {exn : α → Exc → MS → Prop} {bx : Bool} {cs : List C} {s : MS} {st rest : Sto} {Q : D → MS → Prop} {E : Exc → MS → Prop} (a : α)
    (hp : s.2.Perm (st ++ rest)) (hb : bx = true → s.1 = true) (e1 : cs = args a) (e2 : (bx, st) = pst a) (hpre : pre a) (h1 : ∀ x s2, post a x s2 → s2.1 = bx ∧ Q x (s.1, s2.2 ++ rest)) (h2 : ∀ e s2, exn a e s2 → s2.1 = bx ∧ E e (s.1, s2.2 ++ rest)) :
    frm bx (msp args pst pre post exn) cs s st rest Q E := ⟨hp, hb, a, e1, e2, hpre, h1, h2⟩
/-- a call over the whole store -/
theorem frm_all {α : Type} {args : α → List C} {pst : α → MS} {pre : α → Prop} {post : α → D → MS → Prop} {exn : α → Exc → MS → Prop} {bx : Bool} {cs : List C} {s : MS} {Q : D → MS → Prop} {E : Exc → MS → Prop} (a : α)
    (e1 : cs = args a) (e2 : s = pst a) (hb : s.1 = bx) (hpre : pre a) (h1 : ∀ x s2, post a x s2 → s2.1 = bx ∧ Q x s2) (h2 : ∀ e s2, exn a e s2 → s2.1 = bx ∧ E e s2) :
    frmI bx (msp args pst pre post exn) cs s (q := ⟨Q⟩) (e := ⟨E⟩) := by
  subst hb
  refine ⟨s.2, [], by rw [List.append_nil], fun h => h, a, e1, e2, hpre, fun x s2 h => ?_, fun x s2 h => ?_⟩
  · obtain ⟨b, st⟩ := s2
    obtain ⟨z1, z2⟩ := h1 x _ h
    refine ⟨z1, ?_⟩
    rw [List.append_nil, ← z1]; exact z2
  · obtain ⟨b, st⟩ := s2
    obtain ⟨z1, z2⟩ := h2 x _ h
    refine ⟨z1, ?_⟩
    rw [List.append_nil, ← z1]; exact z2
end DL

set_option linter.all false
set_option maxRecDepth 100000
set_option maxHeartbeats 8000000
namespace PySem
namespace TopX
def top (i : Nat) : Stmt := PySem.Challenge.pw_farfacts_k61_torn_blocks_are_told.main.body.getD i (.Pass ⟨0, 0, 0, 0⟩)
end TopX
end PySem
namespace PySem
namespace OorX
open PySem.W PySem.Calls PyProof.Rows PySem.HandSPX
/-! ### the text of OutOfRange.__init__ -/
abbrev sInit : Stmt := L2.inClass (PySem.TopX.top 3) 0
def iA : Arguments := L2.defArgs sInit
def iB : List Stmt := L2.defBody sInit
def iS : Scope := L2.defScope sInit
abbrev jsE' : Expr := .JoinedStr [.FormattedValue (.Name "name" ⟨10, 28, 10, 32⟩) (-1) none ⟨10, 27, 10, 33⟩, .Constant (.str " is out of its bounds") 0 ⟨10, 33, 10, 54⟩] ⟨10, 25, 10, 55⟩
def msg (n : Str) : Str := (Str.empty ++ n) ++ (" is out of its bounds" : Str)

structure OorTxt (prog : Program) (K : Frag) (mg : Str → Option Value) (C fI : Addr) : Prop where
  gC : mg "OutOfRange" = some (.ref C)
  cls : ∃ nm q N bs bm sn sub ab col dd k0 k1 k2 k3 k5, K.lookup C = some (excClassObj nm q C N bs bm true sn sub ab col dd k0 k1 k2 k3 k5 "ValueError.__new__") ∧ refsVE bm = true
  sa : findIn K (.ref C) "__setattr__" = some (some (.builtin "object.__setattr__"))
  noN : findIn K (.ref C) "name" = some none
  iC : findIn K (.ref C) "__init__" = some (some (.ref fI))
  tC : typeIn K (.ref fI) = some (.type "function")
  kC : keepIn K (.ref C) = true
  exC : subIn K (.ref C) (.type "BaseException") = some true
  tyC : typeIn K (.ref C) = some (.type "type")
  sup : ks_superIn K C C "__init__" = some (some (.builtin "ValueError.__init__"))
  any : nsIn K cStatics "thirdparty.any" = some none
  veC : subIn K (.ref C) (.type "ValueError") = some true
  own : mroIn K C (.ref C) = some true
  gsup : mg "super" = none
  noTop : (prog.main.scope.names.lookup ("super" : Str)).isSome = false
  fn : ∃ (oc : Value) (od : Option Addr) (doc pm : Value) (an : Option Addr) (ct : Value) (osl : Array (Option Value)) (cc cda : Addr) (ccl : Value) (cdd : Option Addr) (vs : Array Value) (ccs : Array (Option Value)) (file : Str) (tf : Tok) (cl : Value) (cld : Option Addr) (csl : Array (Option Value)),
    K.lookup fI = some ⟨oc, od, .func (ksFn "__init__" "OutOfRange.__init__" iA iB iS .none .none doc pm an (.ref cda) ct cc), osl⟩ ∧ codeIn K (.ref cda) "OutOfRange.__init__" = true ∧
    K.lookup cda = some ⟨ccl, cdd, .fields vs, ccs⟩ ∧ vs[2]? = some (.str file tf) ∧ ((prog.main.file : Str) == file) = true ∧ K.lookup cc = some ⟨cl, cld, .cell (some (.ref C)), csl⟩

/-- what __init__ leaves of the new exception at x -/
structure InitEnd (h h' : Heap) (x C dx t1 : Addr) (v : Value) : Prop where
  keep : ∀ b o, b ≠ x → h.get? b = some o → h'.get? b = some o
  obj : h'.get? x = some { cls := .ref C, dict := some dx, data := .fields #[.ref t1, .none, .none, .none, .bool false, .none] }
  dbig : h.objs.size ≤ dx
  dne : dx ≠ x
  ns : h'.Ns1 dx (fun y => if y = "name" then some v else none)
structure OwnMade (h h' : Heap) (e C d : Addr) (v : Value) : Prop where
  keep : ∀ b o, h.get? b = some o → h'.get? b = some o
  new : h.objs.size ≤ e
  obj : ∃ oe vs, h'.get? e = some oe ∧ oe.cls = .ref C ∧ oe.dict = some d ∧ oe.data = .fields vs ∧ vs[1]? = some .none
  dbig : h.objs.size ≤ d
  dne : d ≠ e
  ns : h'.Ns1 d (fun y => if y = "name" then some v else none)

section
variable {prog : Program} {w : World} {A : Around} {E : Value → Shared → Prop} {s : Shared} {h : Heap} {g : Array GenState} {d : Drawn} {t : Nat} {os : OsState}
/-- the wrapper of ValueError.__init__ called on an instance: its args are laid anew -/
theorem call_wrap {nm q : Str} {C N : Addr} {bs bm : List Value} {hdct : Bool} {sn : List Str} {sub : List Value} {ab : Bool} {col : Option Bool} {dd : Option Addr} {k0 k1 k2 k3 k5 : Option Value}
    {u e t0 : Addr} {rest : List Value} {Q : Value → Shared → Prop}
    (hC : h.get? C = some (excClassObj nm q C N bs bm hdct sn sub ab col dd k0 k1 k2 k3 k5 "ValueError.__new__")) (he : h.get? e = some (excO C t0)) (hu : h.get? u = some (kxs_mw "ValueError.__init__" e)) (hrest : rest.length ≤ sizeLine)
    (hq : ∀ h' t1, (∀ b o, b ≠ e → h.get? b = some o → h'.get? b = some o) → h'.get? e = some (excO C t1) → Q .none ⟨h', g, d, t, os⟩) :
    wpAny (model prog w) A (call (.ref u) rest) Q E ⟨h, g, d, t, os⟩ := by
  have FB := F.excBase_ValueError
  refine wpAny_call (codeAny_of_tree (show wpAny (model prog w) A.in1 (callAny (.ref u) ⟨rest, []⟩) _ _ _ from ?_))
  unfold callAny
  refine wpAny_bind (wpAny_load hu ?_)
  simp only [kxs_mw, show (Value.type "method-wrapper" == Value.type "method" || Value.type "method-wrapper" == Value.type "builtin_function_or_method" || Value.type "method-wrapper" == Value.type "method-wrapper") = true from by decide, if_true]
  refine KFB.if_so (by decide) (wpAny_bind (check_bound_init FB.toExcCallFacts hC he rfl (wpAny_bind (wpAny_pure (wpAny_pure ?_)))))
  exact ⟨plainId_quiet FB.init.plain _, codeAny_builtin FB.initEntry (exc_init_tree (cls := .ref C) (t0 := t0) (dv := none) (c2 := .none) (c3 := .none) (b4 := .bool false) he hrest fun h' k e' _ => hq h' _ k e')⟩

theorem ldV {M : Model} {env : Env} {m : Str → Option Value} {x : Str} {pos : Pos} {v : Value} {Q : Value → Shared → Prop} (hn : s.heap.Ns env.locals m) (hv : m x = some v) (hq : Q v s)
    (hk : env.scope.kind = .function := by rfl) (hl : env.kindOf x = some .local := by rfl) (hd : (x == ("__debug__" : Str)) = false := by decide) : wpAny M A (eval (.Name x pos) env) Q E s := wpAny_Name (wpAny_loadName_local hk hl hn hv hq) hd

theorem one_size (v : Value) : [v].length ≤ sizeLine := by rw [sizeLine_eq]; exact (by decide : 1 ≤ 16777216)
theorem js_eval {env : Env} {m : Str → Option Value} {nm : Str} {tk : Tok} {Q : Value → Shared → Prop} (hn : s.heap.Ns env.locals m) (hv : m "name" = some (.str nm tk)) (hk : env.scope.kind = .function) (hl : env.kindOf "name" = some .local) (hz : nm.length ≤ 1000)
    (hq : ∀ out t t', out.length ≤ 2000 → Q (.str out t) { s with toks := t' }) : wpAny (model prog w) A (eval jsE' env) Q E s := by
  have e0 : (Str.empty ++ nm : Str) = nm := by
    obtain ⟨a⟩ := nm
    show (⟨#[] ++ a⟩ : Str) = ⟨a⟩
    rw [Array.empty_append]
  have l1 : (nm ++ (" is out of its bounds" : Str) : Str).length ≤ 2000 := by
    rw [strLen_append]
    have : (" is out of its bounds" : Str).length = 21 := by decide +kernel
    omega
  have b1 : nm.length ≤ sizeLine := by rw [sizeLine_eq]; omega
  refine wpAny_JoinedStr ?_
  have fin : ∀ (t0 : Tok) (s1 : Shared), (∃ k, s1 = { s with toks := k }) → ∃ y t, Value.str nm t0 = .str y t ∧ (Str.empty ++ y).length ≤ sizeLine ∧ Joins (model prog w) A E (evalEach [.Constant (.str " is out of its bounds") 0 ⟨10, 33, 10, 54⟩] env) (Str.empty ++ y) (fun out s₁ => out.length ≤ sizeLine ∧ Q (.str out s₁.toks) { s₁ with toks := s₁.toks + 1 }) s1 := by
    rintro t0 s1 ⟨k, rfl⟩
    refine ⟨nm, t0, rfl, by rw [e0]; exact b1, ?_⟩
    show wpAny (model prog w) A (eval (.Constant (.str " is out of its bounds") 0 ⟨10, 33, 10, 54⟩) env) _ E _
    refine Calls.Constant_str ⟨_, _, rfl, ?_, ?_⟩
    · rw [e0, sizeLine_eq]; omega
    · refine ⟨?_, ?_⟩
      · rw [e0, sizeLine_eq]; omega
      · rw [e0]; exact hq _ _ _ l1
  show wpAny (model prog w) A (eval (.FormattedValue (.Name "name" ⟨10, 28, 10, 32⟩) (-1) none ⟨10, 27, 10, 33⟩) env) _ E s
  exact wpAny_FormattedValue_plain (ldV hn hv (wpAny_formatField_str (fin _ _ ⟨_, rfl⟩) (fin _ _ ⟨_, rfl⟩) b1) hk hl)

theorem oor_init {R : Result → Shared → Prop} {K : Frag} {mg : Str → Option Value} {C fI : Addr} (T : OorTxt prog K mg C fI) {x t0 : Addr} {nm : Str} {tk0 : Tok} (X : K.In s.heap) (hlim : s.heap.NoLimit) (G : s.heap.Ns mainGlobals mg)
    (Bt : ∃ mb, s.heap.Ns builtinsNs mb ∧ ∀ x : Str, x ≠ "__name__" → mb x = bootBuiltins x) (hx : s.heap.get? x = some (excO C t0)) (hno : ∀ o, K.lookup x ≠ some o) (hroom : A.depth < recursionLimit) (hz : nm.length ≤ 1000)
    (hq : ∀ h' tk dx t1, InitEnd s.heap h' x C dx t1 (.str nm tk0) → R (.ok (.ret .none)) { s with heap := h', toks := tk }) :
    codeAny (model prog w) A (.call (.ref fI) ⟨[.ref x, .str nm tk0], []⟩) R s := by
  obtain ⟨oc, od, doc, pm, an, ct, osl, cc, cda, ccl, cdd, vs, ccs, file, tf, cl, cld, csl, ho, hcd, hcda, hvs, hfile, hcell⟩ := T.fn
  obtain ⟨nmC, q, N, bs, bm, sn, sub, ab, col, dd, k0, k1, k2, k3, k5, hC, hbm⟩ := T.cls
  obtain ⟨mb, hb1, hb2⟩ := Bt
  have hcl : clsIn K C = some { name := nmC, bases := bs, mro := .ref C :: bm, ns := N, qualname := q, hasDict := true, slotNames := sn, subclasses := sub, abstract := ab, collection := col, hasDel := false } := by unfold clsIn; rw [hC] <;> rfl
  refine ks_codeAny_call_defAt (fd := ksFn "__init__" "OutOfRange.__init__" iA iB iS .none .none doc pm an (.ref cda) ct cc) (body := iB) (binds := [("self", .ref x), ("name", .str nm tk0)])
    hroom (X _ _ ho) rfl hlim (codeRec_of X hcd) rfl (BindsTo.of_eq rfl) (show ∀ y ∈ iS.names, y.2 ≠ .cell from by decide) (locs rfl) (fun h₁ hn₁ k₁ => ?_)
  obtain ⟨hp0, g, d, t, os⟩ := s
  have X₁ : K.In h₁ := X.keeps k₁
  have G₁ : h₁.Ns mainGlobals mg := G.keeps k₁
  have B₁ : h₁.Ns builtinsNs mb := hb1.keeps k₁
  have hx₁ := k₁ _ _ hx
  have hv1 : (fun y : Str => [(("self" : Str), Value.ref x), (("name" : Str), Value.str nm tk0)].reverse.lookup y) "self" = some (.ref x) := by rfl
  have hv2 : (fun y : Str => [(("self" : Str), Value.ref x), (("name" : Str), Value.str nm tk0)].reverse.lookup y) "name" = some (.str nm tk0) := by rfl
  have hxC : x ≠ C := fun e => by
    have z := X _ _ hC
    rw [← e, hx] at z
    cases z
  have oC := X₁ _ _ hC
  refine ks_wpAt_execs_cons (ks_wpAt_Expr_any (ks_wpAt_MethodCall ?_))
  refine ks_wpAt_super_base (env := ksEnv "OutOfRange.__init__" iS hp0.objs.size fI (.ref cda) cc) (f := fI) (ar := { arg := "self", annotation := none, pos := ⟨9, 17, 9, 21⟩ }) (file := file) (tf := tf) (vs := vs) rfl rfl rfl rfl (X₁ _ _ ho) rfl rfl rfl (X₁ _ _ hcda) rfl hvs hfile T.noTop ?_
  refine ks_loadName_global (env := ksEnv "OutOfRange.__init__" iS hp0.objs.size fI (.ref cda) cc) rfl rfl (loadGlobal_builtin (env := ksEnv "OutOfRange.__init__" iS hp0.objs.size fI (.ref cda) cc) G₁ T.gsup B₁ ((hb2 _ (by decide +kernel)).trans (by kernel_rfl)) ⟨rfl, ?_⟩)
  refine wpAny_loadName_free (env := ksEnv "OutOfRange.__init__" iS hp0.objs.size fI (.ref cda) cc) (c := cc) rfl rfl rfl ⟨_, X₁ _ _ hcell, rfl⟩ ?_
  refine wpAny_loadName_local (env := ksEnv "OutOfRange.__init__" iS hp0.objs.size fI (.ref cda) cc) rfl rfl hn₁ hv1 ?_
  refine ks_wpAny_isType_cls oC rfl ⟨rfl, ?_⟩
  refine ks_wpAny_call_super oC rfl hx₁ rfl (fun c e => by cases e) (looks_mroIn X₁ T.own) (fun h₂ e₂ k₂ => ?_)
  have X₂ : K.In h₂ := X₁.keeps k₂
  have hx₂ := k₂ _ _ hx₁
  have hI : Looks (model prog w) h₂ (isInstance (.ref x) (.type "ValueError")) true := (show W.InstAt h₂ x (excO C t0) C none from ⟨hx₂, rfl, rfl, trivial⟩).type.andThen (looks_subIn X₂ T.veC)
  have hm := T.sup
  unfold ks_superIn at hm
  rw [hcl] at hm
  refine kxs_getMethod kxs_ValueError e₂ (looks_opaque X₂ T.any) (l₀ := .ref C :: bm) (fun A Q E s k q => wpAny_bind ((looks_clsIn X₂ hcl) A _ E s k (wpAny_pure q))) rfl X₂ hm hI hxC rfl ?_
  have k₃ : ∀ b o, h₂.get? b = some o → (h₂.push (kxs_mw "ValueError.__init__" x)).get? b = some o := fun b o e => Heap.get?_push_of_some _ e
  have hu : (h₂.push (kxs_mw "ValueError.__init__" x)).get? h₂.objs.size = some (kxs_mw "ValueError.__init__" x) := Heap.get?_push_at rfl rfl
  have hx₃ := k₃ _ _ hx₂
  have hn₃ : (h₂.push (kxs_mw "ValueError.__init__" x)).Ns hp0.objs.size (fun y : Str => [(("self" : Str), Value.ref x), (("name" : Str), Value.str nm tk0)].reverse.lookup y) := (hn₁.keeps k₂).keeps k₃
  have oC₃ := k₃ _ _ (k₂ _ _ oC)
  have he : starEach [jsE'] (ksEnv "OutOfRange.__init__" iS hp0.objs.size fI (.ref cda) cc) = (false, eval jsE' (ksEnv "OutOfRange.__init__" iS hp0.objs.size fI (.ref cda) cc)) :: starEach [] (ksEnv "OutOfRange.__init__" iS hp0.objs.size fI (.ref cda) cc) := rfl
  show wpAny (model prog w) _ (callWith _ (.ref h₂.objs.size) [] (backTo _ (starEach [jsE'] (ksEnv "OutOfRange.__init__" iS hp0.objs.size fI (.ref cda) cc))) []) _ _ _
  rw [he]
  refine kxs_callWith (i := "ValueError.__init__") (x := x) (by rfl) (evalArgs_plain (Calls.spliced_cons (js_eval (m := fun y : Str => [(("self" : Str), Value.ref x), (("name" : Str), Value.str nm tk0)].reverse.lookup y) hn₃ hv2 rfl rfl hz fun out t4 t5 hout => ?_)))
  refine Calls.spliced_nil ⟨hu, ?_⟩
  refine call_wrap oC₃ hx₃ hu (one_size _) fun h₄ t1 k₄ hx₄ => ?_
  have hn₄ : h₄.Ns hp0.objs.size (fun y : Str => [(("self" : Str), Value.ref x), (("name" : Str), Value.str nm tk0)].reverse.lookup y) := by
    obtain ⟨o, es, ep, ho', hr'⟩ := hn₃
    exact ⟨o, es, ep, k₄ _ _ (Nat.ne_of_gt (Heap.lt_size hx)) ho', hr'⟩
  have X₄ : K.In h₄ := fun a o e => k₄ a o (fun z => by
    have z1 := X _ _ e
    rw [z, hx] at z1
    exact hno o (by rw [z] at e; exact e)) ((X₂.keeps k₃) a o e)
  have old : ∀ b o, b ≠ x → hp0.get? b = some o → h₄.get? b = some o := fun b o hb e => k₄ b o hb (k₃ _ _ (k₂ _ _ (k₁ _ _ e)))
  have big : hp0.objs.size ≤ h₄.objs.size := Nat.le_of_lt hn₄.lt
  refine wpAt_of_wpAny (wpAny_execs_cons (plainObj_wpAny_Assign_Attribute (ldV (env := ksEnv "OutOfRange.__init__" iS hp0.objs.size fI (.ref cda) cc) hn₄ hv2 (ldV (env := ksEnv "OutOfRange.__init__" iS hp0.objs.size fI (.ref cda) cc) hn₄ hv1 (set_plain X₄ (ox := excO C t1) (od := none) ⟨hx₄, rfl, rfl, trivial⟩ T.sa ?_)))))
  refine exc_osa X₄ hx₄ hcl (show refsVE (.ref C :: bm) = true from hbm) rfl T.noN (fun h₅ tk₅ dx k₅ dn dne hx₅ hn₅ => ?_)
  exact wpAny_execs_nil (hq h₅ tk₅ dx t1 ⟨fun b o hb e => k₅ b o hb (old b o hb e), hx₅, Nat.le_trans big dn, dne, hn₅⟩)

/-- OutOfRange(name), made -/
theorem oor_made {R : Result → Shared → Prop} {K : Frag} {mg : Str → Option Value} {C fI : Addr} (T : OorTxt prog K mg C fI) {nm : Str} {tk0 : Tok} (X : K.In s.heap) (hlim : s.heap.NoLimit) (G : s.heap.Ns mainGlobals mg)
    (Bt : ∃ mb, s.heap.Ns builtinsNs mb ∧ ∀ x : Str, x ≠ "__name__" → mb x = bootBuiltins x) (hroom : A.depth + 1 < recursionLimit) (hz : nm.length ≤ 1000)
    (hq : ∀ h' tk e d, OwnMade s.heap h' e C d (.str nm tk0) → R (.ok (.ret (.ref e))) { s with heap := h', toks := tk }) :
    codeAny (model prog w) A (.call (.ref C) ⟨[.str nm tk0], []⟩) R s := by
  obtain ⟨nmC, q, N, bs, bm, sn, sub, ab, col, dd, k0, k1, k2, k3, k5, hC, hbm⟩ := T.cls
  obtain ⟨mb, hb1, hb2⟩ := Bt
  obtain ⟨hp, g, d, tk, os⟩ := s
  have k : ∀ b o, hp.get? b = some o → ((hp.push (kdv_tup [.str nm tk0])).push (excO C hp.objs.size)).get? b = some o := fun b o e => Heap.get?_push_of_some _ (Heap.get?_push_of_some _ e)
  have hget : ((hp.push (kdv_tup [.str nm tk0])).push (excO C hp.objs.size)).get? (hp.objs.size + 1) = some (excO C hp.objs.size) := by heap_get
  have hno : ∀ o, K.lookup (hp.objs.size + 1) ≠ some o := fun o e => absurd (Nat.lt_of_succ_lt (Heap.lt_size (show hp.get? (hp.objs.size + 1) = some o from X _ _ e))) (Nat.lt_irrefl _)
  refine call_own F.excBase_ValueError (fun Y => refsVE_contains Y bm hbm) (X _ _ hC) (looks_findIn X T.iC) (fun self => bind_fn X self T.tC) (one_size _) ?_
  refine oor_init (s := ⟨(hp.push (kdv_tup [.str nm tk0])).push (excO C hp.objs.size), g, d, tk, os⟩) T (X.keeps k) (hlim.keeps k) (G.keeps k) ⟨mb, hb1.keeps k, hb2⟩ hget hno (show A.depth + 1 < recursionLimit from hroom) hz fun h' tk' dx t1 E1 => ?_
  have z : hp.objs.size + 1 + 1 ≤ dx := by
    have zz := E1.dbig
    rw [Heap.size_push, Heap.size_push] at zz
    exact zz
  refine ⟨rfl, hq h' tk' (hp.objs.size + 1) dx ⟨fun b o e => E1.keep b o (Nat.ne_of_lt (Nat.lt_succ_of_lt (Heap.lt_size e))) (k b o e), Nat.le_succ _, ⟨_, _, E1.obj, rfl, rfl, rfl, rfl⟩, (show hp.objs.size ≤ dx by omega), E1.dne, E1.ns⟩⟩
end
end OorX
end PySem

namespace L2
open PySem PySem.Spec PyProof.Rows
theorem relO_oor {v : V} {v' : Value} (r : RelV v v') (f : Str) : RelO (List.lookup f [(("name" : Str), v)]) (if f = "name" then some v' else none) := by
  by_cases hw : f = "name"
  · subst hw
    rw [if_pos rfl, show List.lookup ("name" : Str) [(("name" : Str), v)] = some v from by simp [List.lookup]]
    exact r
  · have qw : (f == ("name" : Str)) = false := by simpa using hw
    rw [if_neg hw, show List.lookup f [(("name" : Str), v)] = none from by simp [List.lookup, qw]]
    trivial
section
variable {X : Cx} {C fI : Addr}
/-- OutOfRange(e) -/
def tMkOor (C : Addr) (ta : TA) : St → Hp → XK → Prop := fun σ H Q => ta σ H fun vs H1 => ∃ nm : Str, vs = [.str nm] ∧ nm.length ≤ 1000 ∧ ∀ d, H1 d = none → Q (.ref C) (some d) (upd H1 d (.xd [(("name" : Str), .str nm)]))
theorem pmk_oor {a : Expr} {ta : TA} {p pos : Pos} (T : PySem.OorX.OorTxt X.prog X.K X.mg C fI) (hr : Room 1 X.A) (ha : PA X [a] ta) (hg : Gl X "OutOfRange" := by rfl)
    (hs : starEach [a] X.env = (false, eval a X.env) :: starEach [] X.env := by rfl) (hpl : (backTo pos (starEach [] X.env)).any (·.1) = false := by rfl) :
    PMk X (.Call (.Name "OutOfRange" p) [a] [] pos) (tMkOor C ta) := by
  intro pins s σ H Q I h
  refine wpAny_Call_Name_kw (ld_glob I hg T.gC (PySem.W.callWith_K (h₀ := X.base) I.ok.mod.kin T.kC (thn (ha.run pos pins s σ H _ I h) fun us s1 hh => ?_) hs hpl))
  obtain ⟨vs, H1, I1, r1, nm, ev, hz, q1⟩ := hh
  subst ev
  refine ⟨I1.kIn, ?_⟩
  cases r1 with
  | cons rv rn =>
    cases rn
    obtain ⟨tk0, rfl⟩ := rv
    have hlim := I1.nolimit
    obtain ⟨mb, hb1, hb2⟩ := I1.mod.blt
    have G1 := I1.mod.glob.keeps I1.bk
    have B1 := hb1.keeps I1.bk
    have X1 := I1.kIn
    obtain ⟨hp, g, dr, tk, os⟩ := s1
    refine wpAny_call (PySem.OorX.oor_made (s := ⟨hp, g, dr, tk, os⟩) T X1 hlim G1 ⟨mb, B1, hb2⟩ (by have := hr.dp; omega) hz fun h' tk' e d M => ?_)
    show MkP X pins σ Q (.ref e) ⟨h', g, dr, tk', os⟩
    obtain ⟨oe, fv, hoe, hc, hd, hdat, h1⟩ := M.obj
    obtain ⟨G', g1, g2⟩ := restrict h' fun b => decide (b ≠ e)
    have gk : ∀ b, b ≠ e → G'.get? b = h'.get? b := fun b hb => g1 b (decide_eq_true hb)
    have ge : G'.get? e = none := g2 e (by simp)
    have old : ∀ b o, hp.get? b = some o → G'.get? b = some o := fun b o q => (gk b (Nat.ne_of_lt (Nat.lt_of_lt_of_le (Heap.lt_size q) M.new))).trans (M.keep b o q)
    have ob : ObjOk X.prog X.w (upd H1 d (.xd [(("name" : Str), .str nm)])) G' d (.xd [(("name" : Str), .str nm)]) := ⟨_, M.ns.at (fun o q => (gk d M.dne).trans q), fun f => relO_oor (v := .str nm) ⟨tk0, rfl⟩ f⟩
    have J : Inv X pins σ (upd H1 d (.xd [(("name" : Str), .str nm)])) ⟨G', g, dr, tk', os⟩ := I1.laid (t' := tk') old M.dbig ob
    refine ⟨e, oe, fv, ⟨G', g, dr, tk', os⟩, _, .ref C, some d, rfl, J, fun b o q => ?_, ge, hoe, ⟨hc, hd⟩, hdat, h1, ?_, rfl, I1.bare, raises_own T.exC T.tyC, q1 d (I1.hok.fresh M.dbig)⟩
    · by_cases hb : b = e
      · have q' : G'.get? b = some o := q
        rw [hb, ge] at q'
        cases q'
      · exact (gk b hb).symm.trans q
    · rw [upd_ne (Ne.symm M.dne)]
      exact I1.hok.fresh M.new
/-- raise OutOfRange(e) -/
def tRaiseOor (C : Addr) (W : WX) (ta : TA) : TS := fun _ σ H => tMkOor C ta σ H fun cls d H' => W cls d σ H'
theorem ps_raiseOor {a : Expr} {ta : TA} {W : WX} {p pos pos2 : Pos} (hc : X.calm = true) (T : PySem.OorX.OorTxt X.prog X.K X.mg C fI) (hr : Room 1 X.A) (tk : Takes X W) (ha : PA X [a] ta) (hg : Gl X "OutOfRange" := by rfl)
    (hs : starEach [a] X.env = (false, eval a X.env) :: starEach [] X.env := by rfl) (hpl : (backTo pos (starEach [] X.env)).any (·.1) = false := by rfl) :
    PS X (.Raise (some (.Call (.Name "OutOfRange" p) [a] [] pos)) none pos2) (tRaiseOor C W ta) := ps_raise hc tk (pmk_oor T hr ha hg hs hpl)

end
end L2
namespace DL
open PySem PySem.Spec PyProof.Rows L2 GR N01 RZ
theorem sraiseOor {S : Type} [Pk S] {X : Cx} {xc : XC} {R : Reg S} [RegS X.K X.mg R] {W : WX} {a : Expr} {te : TE} {dx : DX S} {C fI : Addr} {p pos pos2 : Pos} (hc : X.calm = true) (T : PySem.OorX.OorTxt X.prog X.K X.mg C fI) (hr : Room 1 X.A) (h : QE X xc R W a te dx) (hg : Gl X "OutOfRange" := by rfl)
    (hs : starEach [a] X.env = (false, eval a X.env) :: starEach [] X.env := by rfl) (hpl : (backTo pos (starEach [] X.env)).any (·.1) = false := by rfl) :
    QS X xc R W (.Raise (some (.Call (.Name "OutOfRange" p) [a] [] pos)) none pos2) (fun _ σ H => tMk1 C "name" (tCons te tNil) σ H fun cls d H' => W cls d σ H') (dRaise1 "OutOfRange" "name" dx) :=
  ⟨fun k => ps_raise hc k.tk (pmk_oor T hr (pa_cons (h.pe k) pa_nil hs) hg hs hpl), sims_raise1 T.gC h.sim⟩
end DL
namespace Lk61
open PySem PySem.Spec PyProof.Rows L2 GR N01 RZ DL
abbrev top := PySem.TopX.top
abbrev c_BLOCK : D := (.int 32)
abbrev c_BLOCKS_LEAST : D := (.int 8)
abbrev c_BLOCKS_MOST : D := (.int 400)
abbrev c_BYTE_MOST : D := (.int 255)
abbrev c_PERCENT : D := (.int 37)
abbrev c_PIECE : D := (.int 24)
abbrev c_PIECES_MOST : D := (.int 255)
abbrev c_CHANGES_MARK : D := (.int 77)
abbrev c_ENTITY_MARK : D := (.int 83)
abbrev c_HEAD_MARK : D := (.int 72)
abbrev c_BYTES : D := (.int 256)
abbrev c_NEWLINE : D := (.int 10)
abbrev c_BLANK : D := (.int 32)
abbrev c_LOW_SIGNS : D := (.str " !\"#$")
abbrev c_HIGH_SIGNS : D := (.str "&'()*+,-./0123456789:;<=>?@ABCDEFGHIJKLMNOPQRSTUVWXYZ[\\]^_`abcdefghijklmnopqrstuvwxyz{|}~")
abbrev c_GENERATIONS : D := (.int 256)
structure Fx (P : Program) (w : World) (K : PySem.W.Frag) (mg : Str → Option Value) : Prop where
  z_all : mg "all" = none
  z_any : mg "any" = none
  z_enumerate : mg "enumerate" = none
  z_int : mg "int" = none
  z_len : mg "len" = none
  z_list : mg "list" = none
  z_max : mg "max" = none
  z_ord : mg "ord" = none
  z_range : mg "range" = none
  z_super : mg "super" = none
  z_zip : mg "zip" = none
  g_BLOCK : GlobD K mg "BLOCK" c_BLOCK
  g_BLOCKS_LEAST : GlobD K mg "BLOCKS_LEAST" c_BLOCKS_LEAST
  g_BLOCKS_MOST : GlobD K mg "BLOCKS_MOST" c_BLOCKS_MOST
  g_BYTE_MOST : GlobD K mg "BYTE_MOST" c_BYTE_MOST
  g_PERCENT : GlobD K mg "PERCENT" c_PERCENT
  g_PIECE : GlobD K mg "PIECE" c_PIECE
  g_PIECES_MOST : GlobD K mg "PIECES_MOST" c_PIECES_MOST
  g_CHANGES_MARK : GlobD K mg "CHANGES_MARK" c_CHANGES_MARK
  g_ENTITY_MARK : GlobD K mg "ENTITY_MARK" c_ENTITY_MARK
  g_HEAD_MARK : GlobD K mg "HEAD_MARK" c_HEAD_MARK
  g_BYTES : GlobD K mg "BYTES" c_BYTES
  g_NEWLINE : GlobD K mg "NEWLINE" c_NEWLINE
  g_BLANK : GlobD K mg "BLANK" c_BLANK
  g_LOW_SIGNS : GlobD K mg "LOW_SIGNS" c_LOW_SIGNS
  g_HIGH_SIGNS : GlobD K mg "HIGH_SIGNS" c_HIGH_SIGNS
  g_GENERATIONS : GlobD K mg "GENERATIONS" c_GENERATIONS
  of_Disk_blocks : ObjF K mg "Disk" "_blocks"
  of_Disk_waiting : ObjF K mg "Disk" "_waiting"
  of_Disk_cuts : ObjF K mg "Disk" "_cuts"
  of_Disk_schedule : ObjF K mg "Disk" "_schedule"
  oor : ∃ C fI, PySem.OorX.OorTxt P K mg C fI
  rx_PowerCut : ∃ C, RxC K mg "PowerCut" C
structure TxtL (K : PySem.W.Frag) (mg : Str → Option Value) : Prop where
  len : mg "len" = none
  int : mg "int" = none
  range : mg "range" = none
abbrev sCell : Stmt := top 35
abbrev sDig : Stmt := top 36
abbrev sDraw : Stmt := top 37
section
variable {P : Program} {w : World} {K : PySem.W.Frag} {mg : Str → Option Value} {base : Heap}
theorem scC : FnScope ["script", "k"] ["script", "k"] (defScope sCell) := ⟨rfl, rfl, rfl, by decide +kernel, rfl, by decide +kernel, by decide +kernel⟩
theorem ok_cell {f : Addr} {fd : FuncData} (F : Fun K "_law_cell" "_law_cell" sCell f fd) (T : TxtL K mg) : FnOk P w K mg base CX0 1 f fd ["script", "k"] (DL.spCell K) := by
  refine F.ok scC (fun vs H Q E h => ?_) (fun cdv A outer s H vs Q E hr h => ?_)
  · obtain ⟨l, ns, j, rfl, _⟩ := h
    rfl
  · obtain ⟨l, ns, j, rfl, hs, k⟩ := h
    refine ⟨_, pss_cons (ps_if (pt_cmpR op_lt (pv 1) (pe_callB call_len_seq (by rfl) T.len PySem.boot_len (pa_cons (pv 0) pa_nil)) (nomark _)) (pss_one (ps_ret (pe_ix ix_list (pv 0) (pv 1) (fun _ _ => rfl)))) pss_nil) (pss_one (ps_ret pe_int)), ?_⟩
    refine ⟨_, rfl, _, rfl, l, _, rfl, .inl hs, _, _, rfl, rfl, _, rfl, ite2 (fun c => ?_) (fun c => ?_)⟩
    · have hj : j < ns.length := by
        have := of_decide_eq_true c
        rw [List.length_map] at this
        omega
      refine ⟨_, rfl, _, rfl, l, _, _, .int ns[j], rfl, rfl, hs, atI_nat ?_, k _⟩
      rw [List.getElem?_map, List.getElem?_eq_getElem hj] <;> rfl
    · exact k 0
theorem scD : FnScope ["script", "first", "last", "digits", "k", "cell", "turn", "seed"] ["script", "first", "last"] (defScope sDig) := ⟨rfl, rfl, rfl, by decide +kernel, rfl, by decide +kernel, by decide +kernel⟩
theorem ok_dig {f fC : Addr} {fd fdC : FuncData} (F : Fun K "_law_digits" "_law_digits" sDig f fd) (T : TxtL K mg) (GC : FnOk P w K mg base CX0 1 fC fdC ["script", "k"] (DL.spCell K)) (bC : Binds K fdC ["script", "k"] []) (gC : mg "_law_cell" = some (.ref fC)) (kC : PySem.W.keepIn K (.ref fC) = true) :
    FnOk P w K mg base CX0 2 f fd ["script", "first", "last"] (DL.spDig K) := by
  refine F.ok scD (fun vs H Q E h => ?_) (fun cdv A outer s H vs Q E hr h => ?_)
  · obtain ⟨l, ns, rfl, _⟩ := h
    rfl
  · obtain ⟨l, ns, rfl, hs, k⟩ := h
    refine ⟨_, pss_cons (ps_set (i := 3) scD.nd rfl (Or.inl rfl) (pe_lst pa_nil)) (pss_cons (ps_for PassesOwn.never rfl (pi_range2 (by rfl) T.range (pa_cons (pv 1) (pa_cons (pv 2) pa_nil))) (pg_name (i := 4) scD.nd rfl (Or.inl rfl))
      (pss_cons (ps_set (i := 5) scD.nd rfl (Or.inl rfl) (pe_call GC hr (by rfl) gC kC bC .nil pass0 (pa_cons (pv 0) (pa_cons (pv 4) pa_nil))))
      (pss_cons (ps_if (pt_cmpR op_lt (pv 5) pe_int (nomark _)) (pss_one (ps_set (i := 5) scD.nd rfl (Or.inl rfl) (pe_op op_sub pe_int (pe_op op_mul pe_int (pv 5))))) pss_nil)
      (pss_one (ps_if (pt_cmpR op_ge (pv 5) pe_int (nomark _))
        (pss_one (ps_for PassesOwn.never rfl (pi_range1 (by rfl) T.range (pa_cons pe_int pa_nil)) (pg_name (i := 6) scD.nd rfl (Or.inl rfl))
          (pss_one (ps_if (pt_cmpR op_gt (pv 5) pe_int (nomark _))
            (pss_cons (ps_expr (pe_bm PySem.F.plainAttrs_list PySem.F.slot_list_append PySem.F.type_list_append mt_append (pv 3) (pa_cons (pe_op op_mod (pe_callTy call_int1 (by rfl) T.int (by decide +kernel) (pa_cons (pv 5) pa_nil)) pe_int) pa_nil)))
              (pss_one (ps_set (i := 5) scD.nd rfl (Or.inl rfl) (pe_op op_fdiv (pv 5) pe_int)))) pss_nil))))
        (pss_cons (ps_set (i := 7) scD.nd rfl (Or.inl rfl) (pe_op op_mod (pe_callTy call_int1 (by rfl) T.int (by decide +kernel) (pa_cons (pe_op op_add (pe_op op_add (pe_op op_mul (pv 5) pe_int) (pe_op op_mul (pv 4) pe_int)) pe_int) pa_nil)) pe_int))
          (pss_one (ps_for PassesOwn.never rfl (pi_range1 (by rfl) T.range (pa_cons pe_int pa_nil)) (pg_name (i := 6) scD.nd rfl (Or.inl rfl))
            (pss_cons (ps_set (i := 7) scD.nd rfl (Or.inl rfl) (pe_op op_mod (pe_callTy call_int1 (by rfl) T.int (by decide +kernel) (pa_cons (pe_op op_add (pe_op op_add (pe_op op_mul (pv 7) pe_int) (pe_op op_mul pe_int (pv 6))) pe_int) pa_nil)) pe_int))
              (pss_one (ps_expr (pe_bm PySem.F.plainAttrs_list PySem.F.slot_list_append PySem.F.type_list_append mt_append (pv 3) (pa_cons (pe_op op_mod (pe_callTy call_int1 (by rfl) T.int (by decide +kernel) (pa_cons (pe_op op_fdiv (pv 7) pe_int) pa_nil)) pe_int) pa_nil))))))))))))) (pss_one (ps_ret (pv 3)))), ?_⟩
    refine ⟨Nat.zero_le _, fun p hp => ?_⟩
    have big : (4000 : Nat) < sizeLine := by decide
    have grow : ∀ {H2 : Hp} {o : HO}, Same H H2 → Same H (upd H2 p o) := fun s b u e => (upd_ne (ne_of_none e hp)).trans (s b u e)
    have more : ∀ {H2 : Hp} {m : List Int} (z : Int), (upd H2 p (.lst (m.map V.int ++ [V.int z]))) p = some (.lst ((m ++ [z]).map V.int)) := fun z => by rw [upd_same, List.map_append] <;> rfl
    refine ⟨_, rfl, _, rfl, 0, 63, rfl, ⟨by decide, by decide, by decide, by decide⟩, for_range (lo := 0) (n := 63) (fun i σ H' => ∃ (ms : List Int) (v4 v5 v6 v7 : Option V), σ = [some (.ref l), some (.int 0), some (.int 63), some (.ref p), v4, v5, v6, v7] ∧
      H' p = some (.lst (ms.map V.int)) ∧ ms.length ≤ 60 * i ∧ Same H H') ⟨[], none, none, none, none, rfl, upd_same, Nat.le_refl _, grow (Same.refl H)⟩ ?_ ?_⟩
    · rintro i σ H1 hi ⟨ms, v4, v5, v6, v7, rfl, p1, p2, p3⟩
      refine ⟨_, rfl, _, rfl, l, ns, i, by rw [Int.zero_add] <;> rfl, p3.seq hs, fun c0 => ?_⟩
      refine ⟨_, rfl, _, _, rfl, rfl, _, rfl, ite2 (fun _ => ⟨_, rfl, _, _, rfl, rfl, Or.inl ⟨by decide, by decide⟩, _, _, rfl, rfl, ?_⟩) (fun _ => ?_)⟩
      all_goals
        refine ⟨_, rfl, _, _, rfl, rfl, _, rfl, ite2 (fun _ => ?_) (fun cc => ?_)⟩
        · refine ⟨60, rfl, by decide, by decide, for_range (lo := 0) (n := 60) (fun j σ H' => ∃ (m2 : List Int) (c : Int) (v6 : Option V), σ = [some (.ref l), some (.int 0), some (.int 63), some (.ref p), some (.int (0 + i)), some (.int c), v6, v7] ∧
            H' p = some (.lst (m2.map V.int)) ∧ m2.length ≤ 60 * i + j ∧ Same H H') ⟨ms, _, v6, rfl, p1, p2, p3⟩ ?_ ?_⟩
          · rintro j σ H2 hj ⟨m2, c, v, rfl, q1, q2, q3⟩
            refine ⟨_, rfl, _, _, rfl, rfl, _, rfl, ite2 (fun _ => ?_) (fun _ => ?_)⟩
            · refine ⟨_, rfl, Or.inl ⟨rfl, _, Or.inl (Or.inl q1)⟩, _, rfl, Or.inl ⟨_, rfl, _, _, rfl, rfl, (by show (0 : Int) < 1000; decide), p, _, _, rfl, rfl, q1, ?_, ?_⟩⟩
              · rw [List.length_map]; omega
              · exact ⟨_, rfl, _, _, rfl, rfl, ⟨by decide, by decide⟩, m2 ++ [_], _, _, rfl, more _, by rw [List.length_append, List.length_singleton]; omega, grow q3⟩
            · exact ⟨m2, c, _, rfl, q1, by omega, q3⟩
          · rintro σ H2 ⟨m2, c, v, rfl, q1, q2, q3⟩
            exact ⟨m2, _, _, _, _, rfl, q1, by omega, q3⟩
        · refine ⟨_, rfl, _, _, rfl, rfl, Or.inr ⟨by decide, by decide⟩, _, rfl, _, _, rfl, rfl, Or.inr ⟨by decide, by decide⟩, _, _, rfl, rfl, _, _, rfl, rfl, Or.inl ⟨_, rfl, _, _, rfl, rfl, (by show (0 : Int) < _; decide), ?_⟩⟩
          refine ⟨12, rfl, by decide, by decide, for_range (lo := 0) (n := 12) (fun j σ H' => ∃ (m2 : List Int) (c z : Int) (v6 : Option V), σ = [some (.ref l), some (.int 0), some (.int 63), some (.ref p), some (.int (0 + i)), some (.int c), v6, some (.int z)] ∧
            H' p = some (.lst (m2.map V.int)) ∧ m2.length ≤ 60 * i + j ∧ Same H H') ⟨ms, _, _, v6, rfl, p1, p2, p3⟩ ?_ ?_⟩
          · rintro j σ H2 hj ⟨m2, c, z, v, rfl, q1, q2, q3⟩
            refine ⟨_, rfl, _, _, rfl, rfl, Or.inr ⟨by decide, by decide⟩, _, rfl, _, _, rfl, rfl, Or.inl ⟨by decide, by decide⟩, _, _, rfl, rfl, _, _, rfl, rfl, Or.inl ⟨_, rfl, _, _, rfl, rfl, (by show (0 : Int) < _; decide), ?_⟩⟩
            refine ⟨_, rfl, Or.inl ⟨rfl, _, Or.inl (Or.inl q1)⟩, _, rfl, _, _, rfl, rfl, ⟨by decide, by decide⟩, Or.inl ⟨_, rfl, _, _, rfl, rfl, (by show (0 : Int) < 1000; decide), p, _, _, rfl, rfl, q1, ?_, ?_⟩⟩
            · rw [List.length_map]; omega
            · exact ⟨m2 ++ [_], _, _, _, rfl, more _, by rw [List.length_append, List.length_singleton]; omega, grow q3⟩
          · rintro σ H2 ⟨m2, c, z, v, rfl, q1, q2, q3⟩
            exact ⟨m2, _, _, _, _, rfl, q1, by omega, q3⟩
    · rintro σ H1 ⟨ms, v4, v5, v6, v7, rfl, p1, p2, p3⟩
      exact ⟨_, rfl, k H1 p ms p3 hp p1 (by omega)⟩
theorem scW : FnScope ["box", "many", "at"] ["box", "many"] (defScope sDraw) := ⟨rfl, rfl, rfl, by decide +kernel, rfl, by decide +kernel, by decide +kernel⟩
theorem ok_draw {f : Addr} {fd : FuncData} (F : Fun K "_law_draw" "_law_draw" sDraw f fd) (T : TxtL K mg) : FnOk P w K mg base CX0 1 f fd ["box", "many"] spDraw := by
  refine F.ok scW (fun vs H Q E h => ?_) (fun cdv A outer s H vs Q E hr h => ?_)
  · obtain ⟨b, m, rfl, _⟩ := h
    rfl
  · obtain ⟨b, m, rfl, hm, ⟨d, ns, k, h1, h2, h3⟩, kk⟩ := h
    refine ⟨_, pss_cons (ps_set (i := 2) scW.nd rfl (Or.inl rfl) (pe_ix ix_list (pv 0) pe_int (fun _ _ => rfl)))
      (pss_cons (ps_asg (pe_op op_add (pv 2) pe_int) (pg_sub (pv 0) pe_int set_list))
      (pss_cons (ps_if (pt_cmpR op_lt (pv 2) (pe_callB call_len_seq (by rfl) T.len PySem.boot_len (pa_cons (pe_ix ix_list (pv 0) pe_int (fun _ _ => rfl)) pa_nil)) (nomark _))
        (pss_one (ps_ret (pe_op op_mod (pe_callTy call_int1 (by rfl) T.int (by decide +kernel) (pa_cons (pe_ix ix_list (pe_ix ix_list (pv 0) pe_int (fun _ _ => rfl)) (pv 2) (fun _ _ => rfl)) pa_nil)) (pv 1)))) pss_nil)
      (pss_one (ps_ret (pe_op op_mod (pe_callTy call_int1 (by rfl) T.int (by decide +kernel) (pa_cons (pe_op op_add (pe_op op_mul (pv 2) pe_int) pe_int) pa_nil)) (pv 1)))))), ?_⟩
    refine ⟨_, rfl, b, _, 1, _, rfl, rfl, SqL.of h1, atI_nat (j := 1) rfl, ?_⟩
    refine ⟨_, rfl, _, _, rfl, rfl, ?_⟩
    refine ⟨_, rfl, b, _, 1, 1, rfl, rfl, h1, rfl, ?_⟩
    have ndb : d ≠ b := fun e => by
      rw [e, h1] at h2
      injection h2 with h2
      injection h2 with h2
      cases ns with
      | nil => cases h2
      | cons a r => cases h2
    have hb : (upd H b (.lst ([V.ref d, V.int k].set 1 (V.int ((k : Int) + 1))))) b = some (.lst [V.ref d, V.int ((k : Int) + 1)]) := upd_same
    have hd : (upd H b (.lst ([V.ref d, V.int k].set 1 (V.int ((k : Int) + 1))))) d = some (.lst (ns.map V.int)) := (upd_ne ndb).trans h2
    have fin : ∀ z : Int, Q (.int (z % m)) (upd H b (.lst ([V.ref d, V.int k].set 1 (V.int ((k : Int) + 1))))) := fun z =>
      kk _ _ (Int.emod_nonneg _ (by omega)) (Int.emod_lt_of_pos _ hm) ⟨d, ns, k + 1, hb, hd, h3⟩ ⟨fun c o e n => (upd_ne n).trans e, fun d' j e => by
        rw [h1] at e
        cases e
        exact ⟨k + 1, hb⟩⟩
    refine ⟨_, rfl, _, rfl, b, _, 0, _, rfl, rfl, SqL.of hb, atI_nat (j := 0) rfl, d, _, rfl, .inl (SqL.of hd), _, _, rfl, rfl, _, rfl, ite2 (fun c => ?_) (fun c => ?_)⟩
    · have hk : k < ns.length := by
        have := of_decide_eq_true c
        rw [List.length_map] at this
        omega
      refine ⟨_, rfl, b, _, 0, _, rfl, rfl, SqL.of hb, atI_nat (j := 0) rfl, _, rfl, d, _, _, .int ns[k], rfl, rfl, SqL.of hd, atI_nat ?_, Or.inl ⟨_, rfl, _, rfl, _, _, rfl, rfl, hm, fin _⟩⟩
      rw [List.getElem?_map, List.getElem?_eq_getElem hk] <;> rfl
    · exact ⟨_, rfl, _, _, rfl, rfl, Or.inr ⟨by decide, by decide⟩, _, _, rfl, rfl, Or.inl ⟨_, rfl, _, rfl, _, _, rfl, rfl, hm, fin _⟩⟩
end
/-- a def that is called: its promise and where it stands -/
structure Cal (P : Program) (w : World) (K : PySem.W.Frag) (mg : Str → Option Value) (base : Heap) (k : Nat) (x : Str) (ps : List Str) (sp : Sp) : Prop where
  ex : ∃ f fd, FnOk P w K mg base CX0 k f fd ps sp ∧ Binds K fd ps [] ∧ mg x = some (.ref f) ∧ PySem.W.keepIn K (.ref f) = true
theorem pe_cal {X : Cx} {x : Str} {k j : Nat} {ps : List Str} {sp : Sp} {p pos : Pos} {e : Expr} {es : List Expr} {t : TA} (C : Cal X.prog X.w X.K X.mg X.base k x ps sp) (hr : Room j X.A) (hj : k ≤ j) (hg : Gl X x) (ha : PA X (e :: es) t) (hdb : (x == ("__debug__" : Str)) = false := by decide)
    (he : starEach (e :: es) X.env = (false, eval e X.env) :: starEach es X.env := by rfl) (hpl : (backTo pos (starEach es X.env)).any (·.1) = false := by rfl) :
    PE X (.Call (.Name x p) (e :: es) [] pos) (tCall sp [] E0 t) := by
  obtain ⟨f, fd, F, b, m, kp⟩ := C.ex
  exact pe_call F (hr.mono hj) hg m kp b .nil pass0 ha hdb he hpl
abbrev sp__law_draw : DSp Unit := spDrw
/-! signs -/
def okCode (c : Int) : Bool := decide (c = 10) || (decide (32 ≤ c) && decide (c ≤ 126) && !decide (c = 37))
def sgn (c : Int) : Str := ⟨#[c.toNat]⟩
def signD (c : Int) : D := if okCode c = true then .str (sgn c) else .non
def sp_sign_of : DSp Unit := psp (fun c : Int => [C.d (.int c)]) (fun _ => True) signD
section
abbrev s_sign_of : Stmt := top 25
theorem sc_sign_of : FnScope ["code", "above"] ["code"] (defScope s_sign_of) := ⟨rfl, rfl, rfl, by decide +kernel, rfl, by decide +kernel, by decide +kernel⟩
def b_sign_of : DS Unit := (dSeq (dIf (dTst (dOpO (oEq false) (dOS 0) (dOV (dC c_NEWLINE)))) (dRet (dC (.str "\n"))) dNext)
  (dSeq (dIf (dTst (dChain oLe oLt (dC c_BLANK) (dVar 0) (dC c_PERCENT))) (dRet (dOpO oIx (dOV (dC c_LOW_SIGNS)) (dOV (dOpO oSub (dOS 0) (dOV (dC c_BLANK)))))) dNext)
  (dSeq (dAsg 1 (dOpO oSub (dOV (dOpO oSub (dOS 0) (dOV (dC c_PERCENT)))) (dOV (dC (.int 1)))))
  (dRet (dIfE (dTst (dChain oLe oLt (dC (.int 0)) (dVar 1) (dUnO oLen (dOV (dC c_HIGH_SIGNS))))) (dOpO oIx (dOV (dC c_HIGH_SIGNS)) (dOS 1)) (dC .non))))))
theorem q_sign_of {P : Program} {w : World} {K : PySem.W.Frag} {mg : Str → Option Value} {base : Heap} (T : Fx P w K mg) {fa : Addr} {cdv : Value} {A : Around} {outer : List Env} {s : Shared} {H : Hp} {E : XK}
    (hr : Room 1 (A.deeper (envOfC "sign_of" (defScope s_sign_of) s.heap.objs.size fa cdv))) (hgd : (A.deeper (envOfC "sign_of" (defScope s_sign_of) s.heap.objs.size fa cdv)).guards = some []) :
    ∃ ts, QSs (cxOf (L2.CX P w) P w K mg base ["code", "above"] "sign_of" (defScope s_sign_of) fa cdv A outer s H E) none nul (fun cls d _ H => E cls d H) (defBody s_sign_of) ts b_sign_of := by
  exact ⟨_, (ssc (sif (tcmp (op_eqU (hu64 hr)) sim_eq (ov 0) (oe (qglob T.g_NEWLINE)) (nomark _)) (sso (sret qstr)) ssn)
  (ssc (sif (tchain op_leU sim_cmp (op_ltU (hu65 hr)) sim_lt (qglob T.g_BLANK) (qv 0) (qglob T.g_PERCENT)) (sso (sret (qix (oe (qglob T.g_LOW_SIGNS)) (oe (qbin op_sub sim_sub (ov 0) (oe (qglob T.g_BLANK))))))) ssn)
  (ssc (sset 1 sc_sign_of.nd (qbin op_sub sim_sub (oe (qbin op_sub sim_sub (ov 0) (oe (qglob T.g_PERCENT)))) (oe qint)))
  (sso (sret (qif (tchain op_leU sim_cmp (op_ltU (hu65 hr)) sim_lt qint (qv 1) (qbi call_lenU sim_len T.z_len (by decide +kernel) (oe (qglob T.g_HIGH_SIGNS)))) (qix (oe (qglob T.g_HIGH_SIGNS)) (ov 1)) qnon))))))⟩
theorem ok_sign_of {P : Program} {w : World} {K : PySem.W.Frag} {mg : Str → Option Value} {base : Heap} (T : Fx P w K mg) (hm : MonoSp sp_sign_of) (h : ∀ cs s Q E, sp_sign_of cs s Q E → cs.length = 1 → b_sign_of (fin Q E) s (args0 cs 2))
    {f : Addr} {fd : FuncData} (F : FunD K "sign_of" "sign_of" (defArgs s_sign_of) (defBody s_sign_of) (defScope s_sign_of) [] [] f fd) (hb : Binds K fd ["code"] []) (hg : mg "sign_of" = some (.ref f)) (hk : PySem.W.keepIn K (.ref f) = true) : DCal K mg P w base nul 2 "sign_of" ["code"] [] sp_sign_of :=
  ⟨hm, f, fd, [], [], ddef F sc_sign_of (fun cdv A outer s H E hr hgd => q_sign_of T hr hgd) h, hb, .nil, fun _ _ => .nil, hg, hk⟩
end
/-! blocks -/
def blockL (a b : List Int) : List Int := a ++ List.replicate (32 - a.length - b.length) 0 ++ b
def sp_block_of : DSp Unit := psp (fun p : List Int × List Int => [C.d (.lst (intsD p.1)), C.d (.lst (intsD p.2))]) (fun p => p.1.length ≤ 1000 ∧ p.2.length ≤ 1000) fun p => .lst (intsD (blockL p.1 p.2))
section
abbrev s_block_of : Stmt := top 26
theorem sc_block_of : FnScope ["start", "end"] ["start", "end"] (defScope s_block_of) := ⟨rfl, rfl, rfl, by decide +kernel, rfl, by decide +kernel, by decide +kernel⟩
def b_block_of : DS Unit := (dRet (dOpO oAdd (dOV (dOpO oAdd (dOS 0) (dOV (dOpO oMulL (dOV (dLst (dCons (dC (.int 0)) dNil))) (dOV (dOpO oSub (dOV (dOpO oSub (dOV (dC c_BLOCK)) (dOV (dUnO oLen (dOS 0))))) (dOV (dUnO oLen (dOS 1))))))))) (dOS 1)))
theorem q_block_of {P : Program} {w : World} {K : PySem.W.Frag} {mg : Str → Option Value} {base : Heap} (T : Fx P w K mg) {fa : Addr} {cdv : Value} {A : Around} {outer : List Env} {s : Shared} {H : Hp} {E : XK}
    (hr : Room 1 (A.deeper (envOfC "block_of" (defScope s_block_of) s.heap.objs.size fa cdv))) (hgd : (A.deeper (envOfC "block_of" (defScope s_block_of) s.heap.objs.size fa cdv)).guards = some []) :
    ∃ ts, QSs (cxOf (L2.CX P w) P w K mg base ["start", "end"] "block_of" (defScope s_block_of) fa cdv A outer s H E) none nul (fun cls d _ H => E cls d H) (defBody s_block_of) ts b_block_of := by
  exact ⟨_, (sso (sret (qbin op_addU sim_add (oe (qbin op_addU sim_add (ov 0) (of (qrep (of (qlst (ac qint an))) (oe (qbin op_sub sim_sub (oe (qbin op_sub sim_sub (oe (qglob T.g_BLOCK)) (oe (qbi call_lenU sim_len T.z_len (by decide +kernel) (ov 0))))) (oe (qbi call_lenU sim_len T.z_len (by decide +kernel) (ov 1))))))))) (ov 1))))⟩
theorem ok_block_of {P : Program} {w : World} {K : PySem.W.Frag} {mg : Str → Option Value} {base : Heap} (T : Fx P w K mg) (hm : MonoSp sp_block_of) (h : ∀ cs s Q E, sp_block_of cs s Q E → cs.length = 2 → b_block_of (fin Q E) s (args0 cs 2))
    {f : Addr} {fd : FuncData} (F : FunD K "block_of" "block_of" (defArgs s_block_of) (defBody s_block_of) (defScope s_block_of) [] [] f fd) (hb : Binds K fd ["start", "end"] []) (hg : mg "block_of" = some (.ref f)) (hk : PySem.W.keepIn K (.ref f) = true) : DCal K mg P w base nul 2 "block_of" ["start", "end"] [] sp_block_of :=
  ⟨hm, f, fd, [], [], ddef F sc_block_of (fun cdv A outer s H E hr hgd => q_block_of T hr hgd) h, hb, .nil, fun _ _ => .nil, hg, hk⟩
end
/-! records -/
def pieceN (t : Str) : Nat := max 1 ((t.length + 23) / 24)
def partL (t : Str) (k : Nat) : List Int := ((codes t).drop (24 * k)).take 24
def pieceL (m n : Int) (t : Str) (k : Nat) : List Int := [m, k, (pieceN t : Nat), n / 256 % 256, n % 256, ((partL t k).length : Nat)] ++ partL t k ++ List.replicate (25 - (partL t k).length) 0 ++ [m]
def recD (m n : Int) (t : Str) : D := .lst ((List.range (pieceN t)).map fun k => .lst (intsD (pieceL m n t k)))
structure RecIn where
  m : Int
  n : Int
  t : Str
def RecIn.ok (r : RecIn) : Prop := r.t.length ≤ 10000
def RecIn.cs (r : RecIn) : List C := [C.d (.int r.m), C.d (.int r.n), C.d (.str r.t)]
def tooLong : Exc := ⟨"OutOfRange", ["name"], [.str "text"]⟩
def sp_encode_record : DSp Unit := fsp RecIn.cs RecIn.ok fun r => if pieceN r.t ≤ 255 then .ok (recD r.m r.n r.t) else .error tooLong
section
abbrev s_encode_record : Stmt := top 27
theorem sc_encode_record : FnScope ["mark", "number", "text", "pieces", "at", "place", "blocks", "index", "piece", "start", "sign"] ["mark", "number", "text"] (defScope s_encode_record) := ⟨rfl, rfl, rfl, by decide +kernel, rfl, by decide +kernel, by decide +kernel⟩
def b_encode_record : DS Unit := (dSeq (dAsgF 3 (dLc (dRng3 (dC (.int 0)) (dB (oInts2 maxI) (dCons (dUnO oLen (dOS 2)) (dCons (dC (.int 1)) dNil))) (dC c_PIECE)) (gNm 4) dYes (dSl (dOS 2) (dpS (dVar 4)) (dpS (dOpO oAdd (dOS 4) (dOV (dC c_PIECE))))) [4]))
  (dSeq (dIf (dTst (dOpO oGt (dOV (dUnO oLen (dOS 3))) (dOV (dC c_PIECES_MOST)))) (dRaise1 "OutOfRange" "name" (dC (.str "text"))) dNext)
  (dSeq (dAsg 5 (dLst (dCons (dOpO oMod (dOV (dOpO oFdv (dOS 1) (dOV (dC c_BYTES)))) (dOV (dC c_BYTES))) (dCons (dOpO oMod (dOS 1) (dOV (dC c_BYTES))) dNil))))
  (dSeq (dAsgF 6 (dLst dNil))
  (dSeq (dFor (dEnumU (dVar 3)) (gTp [7, 8]) (dSeq (dAsg 9 (dOpO oAdd (dOV (dOpO oAdd (dOV (dOpO oAdd (dOV (dLst (dCons (dVar 0) (dCons (dVar 7) (dCons (dUnO oLen (dOS 3)) dNil))))) (dOS 5))) (dOV (dLst (dCons (dUnO oLen (dOS 8)) dNil))))) (dOV (dLc (dIt (dVar 8)) (gNm 10) dYes (dUnO oOrd (dOS 10)) [10]))))
  (dApp 6 (dCalP 2 sp_block_of [] (dCons (dVar 9) (dCons (dLst (dCons (dVar 0) dNil)) dNil))))))
  (dRet (dVar 6)))))))
theorem q_encode_record {P : Program} {w : World} {K : PySem.W.Frag} {mg : Str → Option Value} {base : Heap} (T : Fx P w K mg) (c_block_of : DCal K mg P w base nul 2 "block_of" ["start", "end"] [] sp_block_of) {fa : Addr} {cdv : Value} {A : Around} {outer : List Env} {s : Shared} {H : Hp} {E : XK}
    (hr : Room 2 (A.deeper (envOfC "encode_record" (defScope s_encode_record) s.heap.objs.size fa cdv))) (hgd : (A.deeper (envOfC "encode_record" (defScope s_encode_record) s.heap.objs.size fa cdv)).guards = some []) :
    ∃ ts, QSs (cxOf (L2.CX P w) P w K mg base ["mark", "number", "text", "pieces", "at", "place", "blocks", "index", "piece", "start", "sign"] "encode_record" (defScope s_encode_record) fa cdv A outer s H E) none nul (fun cls d _ H => E cls d H) (defBody s_encode_record) ts b_encode_record := by
  obtain ⟨CO, fO, TO⟩ := T.oor
  exact ⟨_, (ssc (slcV 3 (g := (gName 4)) (te := (tSl (rSlU K) (tVar 2) (tPart (tVar 4)) (tPart (tOp (rAddU K) (tVar 4) (tGl K mg c_PIECE))))) [("at", 4)] sc_encode_record.nd (ir3 T.z_range qint (qbn (call_maxD rfl) sim_ints2 T.z_max (by decide +kernel) (ac (qbi call_lenU sim_len T.z_len (by decide +kernel) (ov 2)) (ac qint an))) (qglob T.g_PIECE)) (blkOk_by (N := ["mark", "number", "text", "pieces", "at", "place", "blocks", "index", "piece", "start", "sign"]) (sc := defScope s_encode_record) (by decide +kernel)) (fun _ _ _ _ _ => (gn 4 sc_encode_record.nd)) (by decide) (fun _ _ _ _ _ => (qsl (ov 2) (psm (qv 4)) (psm (qbin op_addU sim_add (ov 4) (oe (qglob T.g_PIECE)))))) (by rfl))
  (ssc (sif (tcmp op_gtU sim_cmp (oe (qbi call_lenU sim_len T.z_len (by decide +kernel) (ov 3))) (oe (qglob T.g_PIECES_MOST)) (nomark _)) (sso (sraiseOor rfl TO (hr.mono (by decide)) qstr)) ssn)
  (ssc (sset 5 sc_encode_record.nd (qf (qlst (ac (qbin op_mod sim_mod (oe (qbin op_fdiv sim_fdiv (ov 1) (oe (qglob T.g_BYTES)))) (oe (qglob T.g_BYTES))) (ac (qbin op_mod sim_mod (ov 1) (oe (qglob T.g_BYTES))) an)))))
  (ssc (ssetF 6 sc_encode_record.nd (qlst an))
  (ssc (sfor (ienU T.z_enumerate (qv 3)) (gt 2 (ncs 7 sc_encode_record.nd (ncs 8 sc_encode_record.nd nn))) (ssc (sset 9 sc_encode_record.nd (qbin op_addU sim_add (oe (qbin op_addU sim_add (oe (qbin op_addU sim_add (of (qlst (ac (qv 0) (ac (qv 7) (ac (qbi call_lenU sim_len T.z_len (by decide +kernel) (ov 3)) an))))) (ov 5))) (of (qlst (ac (qbi call_lenU sim_len T.z_len (by decide +kernel) (ov 8)) an))))) (of (qlcV (g := (gName 10)) (te := (tCB rOrd (tCons (tVar 10) tNil))) [("sign", 10)] sc_encode_record.nd (iu (qv 8)) (blkOk_by (N := ["mark", "number", "text", "pieces", "at", "place", "blocks", "index", "piece", "start", "sign"]) (sc := defScope s_encode_record) (by decide +kernel)) (fun _ _ _ _ _ => (gn 10 sc_encode_record.nd)) (by decide) (fun _ _ _ _ _ => (qbi call_ordU sim_ord T.z_ord (by decide +kernel) (ov 10)))))))
  (sso (sapp 6 (qe_calP 2 c_block_of hgd hr (by decide) (by rfl) (ac (qv 9) (ac (qf (qlst (ac (qv 0) an))) an)) rfl)))))
  (sso (sret (qv 6))))))))⟩
theorem ok_encode_record {P : Program} {w : World} {K : PySem.W.Frag} {mg : Str → Option Value} {base : Heap} (T : Fx P w K mg) (c_block_of : DCal K mg P w base nul 2 "block_of" ["start", "end"] [] sp_block_of) (hm : MonoSp sp_encode_record) (h : ∀ cs s Q E, sp_encode_record cs s Q E → cs.length = 3 → b_encode_record (fin Q E) s (args0 cs 11))
    {f : Addr} {fd : FuncData} (F : FunD K "encode_record" "encode_record" (defArgs s_encode_record) (defBody s_encode_record) (defScope s_encode_record) [] [] f fd) (hb : Binds K fd ["mark", "number", "text"] []) (hg : mg "encode_record" = some (.ref f)) (hk : PySem.W.keepIn K (.ref f) = true) : DCal K mg P w base nul 3 "encode_record" ["mark", "number", "text"] [] sp_encode_record :=
  ⟨hm, f, fd, [], [], ddef F sc_encode_record (fun cdv A outer s H E hr hgd => q_encode_record T c_block_of hr hgd) h, hb, .nil, fun _ _ => .nil, hg, hk⟩
end
/-! a piece, read -/
def decP (b : List Int) : D :=
  if (b.getD 0 0 = 77 ∨ b.getD 0 0 = 83) ∧ b.getD 0 0 = b.getD 31 0 ∧ b.getD 1 0 < b.getD 2 0 ∧ b.getD 5 0 ≤ 24 then
    if ((b.drop 6).take (b.getD 5 0).toNat).all okCode = true ∧ ((b.drop (6 + (b.getD 5 0).toNat)).take (25 - (b.getD 5 0).toNat)).all (fun x => decide (x = 0)) = true then
      .tup [.int (b.getD 0 0), .int (b.getD 1 0), .int (b.getD 2 0), .int (b.getD 3 0 * 256 + b.getD 4 0), .str ⟨(((b.drop 6).take (b.getD 5 0).toNat).map Int.toNat).toArray⟩]
    else .non
  else .non
def sp_decode_piece : DSp Unit := psp (fun b : List Int => [C.d (.lst (intsD b))]) (fun b => b.length = 32 ∧ ∀ x ∈ b, 0 ≤ x ∧ x < 2 ^ 40) decP
section
abbrev s_decode_piece : Stmt := top 28
theorem sc_decode_piece : FnScope ["block", "mark", "index", "many", "high", "low", "length", "signs", "code", "byte"] ["block"] (defScope s_decode_piece) := ⟨rfl, rfl, rfl, by decide +kernel, rfl, by decide +kernel, by decide +kernel⟩
def b_decode_piece : DS Unit := (dSeq (dAsgG (gTpU [1, 2, 3, 4, 5, 6]) (dSl (dOS 0) dpN (dpS (dC (.int 6)))))
  (dSeq (dIf (dTOr (dTst (dOpO (oIn true) (dOS 1) (dOV (dTup (dCons (dC c_CHANGES_MARK) (dCons (dC c_ENTITY_MARK) dNil)))))) (dTOr (dTst (dOpO (oEq true) (dOS 1) (dOV (dOpO oIx (dOS 0) (dOV (dUnO oNeg (dOV (dC (.int 1))))))))) (dTOr (dTst (dOpO oGe (dOS 2) (dOS 3))) (dTst (dOpO oGt (dOS 6) (dOV (dC c_PIECE))))))) (dRet (dC .non)) dNext)
  (dSeq (dAsgF 7 (dLc (dIt (dSl (dOS 0) (dpS (dC (.int 6))) (dpS (dOpO oAdd (dOV (dC (.int 6))) (dOS 6))))) (gNm 8) dYes (dCalP 1 sp_sign_of [] (dCons (dVar 8) dNil)) [8]))
  (dSeq (dIf (dTOr (dTst (dOpO (oIn false) (dOV (dC .non)) (dOS 7))) (dTruO (dOV (dUnO (oAll true) (dOV (dLc (dIt (dSl (dOS 0) (dpS (dOpO oAdd (dOV (dC (.int 6))) (dOS 6))) (dpS (dUnO oNeg (dOV (dC (.int 1))))))) (gNm 9) dYes (dOpO (oEq true) (dOS 9) (dOV (dC (.int 0)))) [9])))))) (dRet (dC .non)) dNext)
  (dRet (dTup (dCons (dVar 1) (dCons (dVar 2) (dCons (dVar 3) (dCons (dOpO oAdd (dOV (dOpO oMulV (dOS 4) (dOV (dC c_BYTES)))) (dOS 5)) (dCons (dM isStr mJoin (dC (.str "")) (dCons (dVar 7) dNil)) dNil)))))))))))
theorem q_decode_piece {P : Program} {w : World} {K : PySem.W.Frag} {mg : Str → Option Value} {base : Heap} (T : Fx P w K mg) (c_sign_of : DCal K mg P w base nul 2 "sign_of" ["code"] [] sp_sign_of) {fa : Addr} {cdv : Value} {A : Around} {outer : List Env} {s : Shared} {H : Hp} {E : XK}
    (hr : Room 2 (A.deeper (envOfC "decode_piece" (defScope s_decode_piece) s.heap.objs.size fa cdv))) (hgd : (A.deeper (envOfC "decode_piece" (defScope s_decode_piece) s.heap.objs.size fa cdv)).guards = some []) :
    ∃ ts, QSs (cxOf (L2.CX P w) P w K mg base ["block", "mark", "index", "many", "high", "low", "length", "signs", "code", "byte"] "decode_piece" (defScope s_decode_piece) fa cdv A outer s H E) none nul (fun cls d _ H => E cls d H) (defBody s_decode_piece) ts b_decode_piece := by
  exact ⟨_, (ssc (sunp (gtU 6 (ncs 1 sc_decode_piece.nd (ncs 2 sc_decode_piece.nd (ncs 3 sc_decode_piece.nd (ncs 4 sc_decode_piece.nd (ncs 5 sc_decode_piece.nd (ncs 6 sc_decode_piece.nd nn))))))) (qsl (ov 0) pn (psm qint)))
  (ssc (sif (tw (wor (tcmp (op_notInU (hu65 hr)) sim_in (ov 1) (oe (qtup (ac (qglob T.g_CHANGES_MARK) (ac (qglob T.g_ENTITY_MARK) an)))) (by with_unfolding_all rfl)) (wor (tcmp (op_neU (hu64 hr)) sim_eq (ov 1) (oe (qix (ov 0) (oe (qneg (oe qint))))) (nomark _)) (wor (tcmp op_geU sim_cmp (ov 2) (ov 3) (nomark _)) (wor1 (tcmp op_gtU sim_cmp (ov 6) (oe (qglob T.g_PIECE)) (nomark _))))))) (sso (sret qnon)) ssn)
  (ssc (slcV 7 (g := (gName 8)) (te := (tCalD K mg nul 1 (fun cs => sp_sign_of (cs ++ [])) WF (tCons (tVar 8) tNil))) [("code", 8)] sc_decode_piece.nd (iu (qsl (ov 0) (psm qint) (psm (qbin op_addU sim_add (oe qint) (ov 6))))) (blkOk_by (N := ["block", "mark", "index", "many", "high", "low", "length", "signs", "code", "byte"]) (sc := defScope s_decode_piece) (by decide +kernel)) (fun _ _ _ _ _ => (gn 8 sc_decode_piece.nd)) (by decide) (fun _ _ _ _ _ => (qe_calP 1 c_sign_of hgd hr (by decide) (by rfl) (ac (qv 8) an) rfl)) (by rfl))
  (ssc (sif (tw (wor (tcmp (op_inU (hu65 hr)) sim_in (oe qnon) (ov 7) (by with_unfolding_all rfl)) (wor1 (tru (oe (qbi (cr_any rfl) sim_any T.z_any (by decide +kernel) (of (qlcV (g := (gName 9)) (te := (tOp (rEqU K true) (tVar 9) (tC (.int 0)))) [("byte", 9)] sc_decode_piece.nd (iu (qsl (ov 0) (psm (qbin op_addU sim_add (oe qint) (ov 6))) (psm (qneg (oe qint))))) (blkOk_by (N := ["block", "mark", "index", "many", "high", "low", "length", "signs", "code", "byte"]) (sc := defScope s_decode_piece) (by decide +kernel)) (fun _ _ _ _ _ => (gn 9 sc_decode_piece.nd)) (by decide) (fun _ _ _ _ _ => (qcmp (op_neU (hu64 hr)) sim_eq (ov 9) (oe qint) (nomark _))))))))))) (sso (sret qnon)) ssn)
  (sso (sret (qtup (ac (qv 1) (ac (qv 2) (ac (qv 3) (ac (qbin op_addU sim_add (oe (qbin op_mulV sim_mulV (ov 4) (oe (qglob T.g_BYTES)))) (ov 5)) (ac (qm PySem.F.plainAttrs_str PySem.F.slot_str_join PySem.F.type_str_join mt_joinD sim_join qstr (ac (qv 7) an)) an))))))))))))⟩
theorem ok_decode_piece {P : Program} {w : World} {K : PySem.W.Frag} {mg : Str → Option Value} {base : Heap} (T : Fx P w K mg) (c_sign_of : DCal K mg P w base nul 2 "sign_of" ["code"] [] sp_sign_of) (hm : MonoSp sp_decode_piece) (h : ∀ cs s Q E, sp_decode_piece cs s Q E → cs.length = 1 → b_decode_piece (fin Q E) s (args0 cs 10))
    {f : Addr} {fd : FuncData} (F : FunD K "decode_piece" "decode_piece" (defArgs s_decode_piece) (defBody s_decode_piece) (defScope s_decode_piece) [] [] f fd) (hb : Binds K fd ["block"] []) (hg : mg "decode_piece" = some (.ref f)) (hk : PySem.W.keepIn K (.ref f) = true) : DCal K mg P w base nul 3 "decode_piece" ["block"] [] sp_decode_piece :=
  ⟨hm, f, fd, [], [], ddef F sc_decode_piece (fun cdv A outer s H E hr hgd => q_decode_piece T c_sign_of hr hgd) h, hb, .nil, fun _ _ => .nil, hg, hk⟩
end
/-! drawn texts -/
def SIGNS : Str := " !\"#$&'()*+,-./0123456789:;<=>?@ABCDEFGHIJKLMNOPQRSTUVWXYZ[\\]^_`abcdefghijklmnopqrstuvwxyz{|}~\n"
def sp__law_stored_text : DSp Unit := rsp (fun m : Nat => [C.box, C.d (.int m)]) (fun m => m ≤ 1000) fun m x => ∃ t : Str, x = .str t ∧ t.length = m ∧ ∀ c ∈ codes t, okCode c = true
section
abbrev s__law_stored_text : Stmt := top 38
theorem sc__law_stored_text : FnScope ["box", "many", "signs", "text", "turn"] ["box", "many"] (defScope s__law_stored_text) := ⟨rfl, rfl, rfl, by decide +kernel, rfl, by decide +kernel, by decide +kernel⟩
def b__law_stored_text : DS Unit := (dSeq (dAsg 2 (dC (.str " !\"#$&'()*+,-./0123456789:;<=>?@ABCDEFGHIJKLMNOPQRSTUVWXYZ[\\]^_`abcdefghijklmnopqrstuvwxyz{|}~\n")))
  (dSeq (dAsg 3 (dC (.str "")))
  (dSeq (dFor (dRng1 (dVar 1)) (gNm 4) (dAsg 3 (dOpO oAdd (dOS 3) (dOV (dOpO oIx (dOS 2) (dOV (dCal 2 sp__law_draw [] (dConsV 0 (dCons (dUnO oLen (dOS 2)) dNil)))))))))
  (dRet (dVar 3)))))
theorem q__law_stored_text {P : Program} {w : World} {K : PySem.W.Frag} {mg : Str → Option Value} {base : Heap} (T : Fx P w K mg) (c__law_draw : DCal K mg P w base box 1 "_law_draw" ["box", "many"] [] sp__law_draw) {fa : Addr} {cdv : Value} {A : Around} {outer : List Env} {s : Shared} {H : Hp} {E : XK}
    (hr : Room 1 (A.deeper (envOfC "_law_stored_text" (defScope s__law_stored_text) s.heap.objs.size fa cdv))) (hgd : (A.deeper (envOfC "_law_stored_text" (defScope s__law_stored_text) s.heap.objs.size fa cdv)).guards = some []) :
    ∃ ts, QSs (cxOf (L2.CX P w) P w K mg base ["box", "many", "signs", "text", "turn"] "_law_stored_text" (defScope s__law_stored_text) fa cdv A outer s H E) none box (fun cls d _ H => E cls d H) (defBody s__law_stored_text) ts b__law_stored_text := by
  exact ⟨_, (ssc (sset 2 sc__law_stored_text.nd qstr)
  (ssc (sset 3 sc__law_stored_text.nd qstr)
  (ssc (sfor (ir1 T.z_range (qv 1)) (gn 4 sc__law_stored_text.nd) (sso (sset 3 sc__law_stored_text.nd (qbin op_addU sim_add (ov 3) (oe (qix (ov 2) (oe (qe_cal 2 c__law_draw hgd hr (by decide) (by rfl) (av 0 (ac (qbi call_lenU sim_len T.z_len (by decide +kernel) (ov 2)) an)) rfl))))))))
  (sso (sret (qv 3))))))⟩
theorem ok__law_stored_text {P : Program} {w : World} {K : PySem.W.Frag} {mg : Str → Option Value} {base : Heap} (T : Fx P w K mg) (c__law_draw : DCal K mg P w base box 1 "_law_draw" ["box", "many"] [] sp__law_draw) (hm : MonoSp sp__law_stored_text) (h : ∀ cs s Q E, sp__law_stored_text cs s Q E → cs.length = 2 → b__law_stored_text (fin Q E) s (args0 cs 5))
    {f : Addr} {fd : FuncData} (F : FunD K "_law_stored_text" "_law_stored_text" (defArgs s__law_stored_text) (defBody s__law_stored_text) (defScope s__law_stored_text) [] [] f fd) (hb : Binds K fd ["box", "many"] []) (hg : mg "_law_stored_text" = some (.ref f)) (hk : PySem.W.keepIn K (.ref f) = true) : DCal K mg P w base box 2 "_law_stored_text" ["box", "many"] [] sp__law_stored_text :=
  ⟨hm, f, fd, [], [], ddef F sc__law_stored_text (fun cdv A outer s H E hr hgd => q__law_stored_text T c__law_draw hr hgd) h, hb, .nil, fun _ _ => .nil, hg, hk⟩
end
end Lk61


set_option linter.all false
set_option maxRecDepth 100000
set_option maxHeartbeats 4000000
namespace Lk61
open PySem PySem.Spec PyProof.Rows L2 GR N01 RZ DL
theorem low_at {c : Int} (h1 : 32 ≤ c) (h2 : c < 37) : atI (" !\"#$" : Str).cps.toList (c - 32) = some c.toNat := by
  have e : (" !\"#$" : Str).cps.toList = [32, 33, 34, 35, 36] := by decide +kernel
  rw [e, atI_int (by omega) (by show c - 32 < 5; omega)]
  have : c = 32 ∨ c = 33 ∨ c = 34 ∨ c = 35 ∨ c = 36 := by omega
  rcases this with rfl | rfl | rfl | rfl | rfl <;> rfl
def HIGH : Str := "&'()*+,-./0123456789:;<=>?@ABCDEFGHIJKLMNOPQRSTUVWXYZ[\\]^_`abcdefghijklmnopqrstuvwxyz{|}~"
theorem high_eq : HIGH.cps.toList = (List.range 89).map fun i => i + 38 := by decide +kernel
theorem high_len : HIGH.length = 89 := by decide +kernel
theorem high_at {c : Int} (h1 : 38 ≤ c) (h2 : c < 127) : atI HIGH.cps.toList (c - 37 - 1) = some c.toNat := by
  rw [atI_int (by omega) (by rw [high_eq]; simp; omega), high_eq, List.getElem?_map, List.getElem?_range (by omega)]
  simp; omega
theorem h_sign_of : ∀ cs s Q E, sp_sign_of cs s Q E → cs.length = 1 → b_sign_of (fin Q E) s (args0 cs 2) := by
  rintro cs ⟨⟩ Q E ⟨c, rfl, _, q⟩ _
  simp [b_sign_of]
  rw [show Str.ofString "&'()*+,-./0123456789:;<=>?@ABCDEFGHIJKLMNOPQRSTUVWXYZ[\\]^_`abcdefghijklmnopqrstuvwxyz{|}~" = HIGH from rfl, high_len]
  unfold signD okCode at q
  by_cases c10 : c = 10
  · subst c10
    simp at q ⊢
    have : sgn 10 = Str.ofString "\n" := by decide +kernel
    rw [this] at q; exact q
  · simp only [c10, if_false, decide_false, Bool.false_or, Bool.and_eq_true, Bool.not_eq_true', decide_eq_true_eq, decide_eq_false_iff_not] at q ⊢
    by_cases h1 : 32 ≤ c ∧ c < 37
    · rw [if_pos h1.1, if_pos h1.2]
      rw [if_pos (by omega)] at q
      exact ⟨_, low_at h1.1 h1.2, q⟩
    · by_cases h2 : 38 ≤ c ∧ c < 127
      · rw [if_pos (by omega), if_neg (by omega), if_pos (by omega), if_pos (by omega)]
        rw [if_pos (by omega)] at q
        exact ⟨_, high_at h2.1 h2.2, q⟩
      · rw [if_neg (by omega)] at q
        repeat' split
        all_goals first | exact q | (exfalso; omega)
theorem h_block_of : ∀ cs s Q E, sp_block_of cs s Q E → cs.length = 2 → b_block_of (fin Q E) s (args0 cs 2) := by
  rintro cs ⟨⟩ Q E ⟨⟨a, b⟩, rfl, ⟨h1, h2⟩, q⟩ _
  simp only at h1 h2
  simp [b_block_of, repD_one]
  refine ⟨by omega, by omega, by omega, by omega, by omega, ?_⟩
  simp only [blockL, intsD_app, intsD_rep, List.append_assoc] at q
  exact q
theorem signs_len : SIGNS.length = 95 := by decide +kernel
theorem okCode_of {n : Int} (h0 : 0 ≤ n) (h : n < 95) : ∃ c : Nat, atI SIGNS.cps.toList n = some c ∧ okCode c = true := by
  have e : SIGNS.cps.toList.length = 95 := by decide +kernel
  have all : SIGNS.cps.toList.all (fun c => okCode (c : Int)) = true := by decide +kernel
  rw [atI_int h0 (by omega)]
  have hl : n.toNat < SIGNS.cps.toList.length := by omega
  refine ⟨_, List.getElem?_eq_getElem hl, ?_⟩
  exact List.all_eq_true.mp all _ (List.getElem_mem hl)
theorem codes_app {a b : Str} : codes (a ++ b) = codes a ++ codes b := by
  unfold codes
  have e : (a ++ b).cps.toList = a.cps.toList ++ b.cps.toList := Array.toList_append
  rw [e, List.map_append]
theorem h__law_stored_text : ∀ cs s Q E, sp__law_stored_text cs s Q E → cs.length = 2 → b__law_stored_text (fin Q E) s (args0 cs 5) := by
  rintro cs ⟨⟩ Q E ⟨m, rfl, h1, q⟩ _
  simp [b__law_stored_text]
  rw [show Str.ofString " !\"#$&'()*+,-./0123456789:;<=>?@ABCDEFGHIJKLMNOPQRSTUVWXYZ[\\]^_`abcdefghijklmnopqrstuvwxyz{|}~\n" = SIGNS from rfl]
  refine ⟨by omega, loop_inv (fun k s ρ => ∃ (t : Str) (o : Option C), ρ = [some .box, some (.d (.int m)), some (.d (.str SIGNS)), some (.d (.str t)), o] ∧ t.length = k ∧ ∀ c ∈ codes t, okCode c = true) _ 0 _ _ ⟨Str.ofString "", none, rfl, by decide +kernel, by decide +kernel⟩ ?_ ?_⟩
  · rintro i x ⟨⟩ ρ P hx hP ⟨t, o, rfl, h2, h3⟩
    obtain ⟨rfl, hi⟩ := rangeD_get hx
    simp [signs_len]
    refine ⟨95, rfl, by decide, ?_, fun _ z => z.elim⟩
    rintro x ⟨n, rfl, n0, n1⟩
    obtain ⟨c, hc, ok⟩ := okCode_of n0 n1
    simp
    refine ⟨c, hc, ?_, hP _ _ ⟨_, _, rfl, ?_, ?_⟩⟩
    · omega
    · rw [strLen_append, show (⟨#[c]⟩ : Str).length = 1 from rfl]; omega
    · intro d hd
      rw [codes_app] at hd
      rcases List.mem_append.mp hd with hd | hd
      · exact h3 d hd
      · have : d = (c : Int) := by simpa [codes] using hd
        rw [this]; exact ok
  · rintro ⟨⟩ ρ ⟨t, o, rfl, h2, h3⟩
    simp
    exact q _ ⟨t, rfl, by rw [h2, rangeD_len]; omega, h3⟩
/-! records -/
theorem rgC24' {j : Int} (h0 : 0 < j) (h : j ≤ 10000) : RgC 0 j 24 ((j - 1) / 24 + 1).toNat := by
  have e : Builtin.Range.rangeSize 0 j 24 = (j - 1) / 24 + 1 := by
    unfold Builtin.Range.rangeSize
    rw [if_pos (show ((24 : Int) > 0) from by decide), if_pos h0]
    omega
  refine ⟨by decide, by decide, ?_, by rw [e]; omega⟩
  unfold Builtin.Range.small
  rw [e]
  simp only [Builtin.Range.rangeFitsLong, Bool.and_eq_true, Bool.or_eq_true, decide_eq_true_eq, beq_iff_eq]
  rw [if_pos (show ((24 : Int) > 0) from by decide)]
  simp only [Bool.and_eq_true, decide_eq_true_eq]
  omega
theorem rgC24 {t : Str} (h : t.length ≤ 10000) : RgC 0 (maxI t.length 1) 24 (pieceN t) := by
  have e : maxI t.length 1 = (max t.length 1 : Nat) := by unfold maxI; split <;> omega
  rw [e]
  have := rgC24' (j := ((max t.length 1 : Nat) : Int)) (by omega) (by omega)
  rw [show ((((max t.length 1 : Nat) : Int) - 1) / 24 + 1).toNat = pieceN t by unfold pieceN; omega] at this
  exact this
def partS (t : Str) (k : Nat) : Str := cutS t (some ((24 * k : Nat) : Int)) (some ((24 * k + 24 : Nat) : Int))
theorem codes_part {t : Str} {k : Nat} : codes (partS t k) = partL t k := by
  unfold partS partL
  rw [codes_cut, show 24 * k + 24 - 24 * k = 24 by omega]
theorem part_len {t : Str} {k : Nat} : (partS t k).length = (partL t k).length := by rw [← codes_part, codes_len]
theorem partL_le {t : Str} {k : Nat} : (partL t k).length ≤ 24 := by unfold partL; rw [List.length_take]; omega
def toS (t : Str) : D → D
  | .int i => .str (cutS t (some i) (some (i + 24)))
  | d => d
theorem h_encode_record : ∀ cs s Q E, sp_encode_record cs s Q E → cs.length = 3 → b_encode_record (fin Q E) s (args0 cs 11) := by
  rintro cs ⟨⟩ Q E ⟨⟨m, n, t⟩, rfl, h1, q, e⟩ _
  have h1 : t.length ≤ 10000 := h1
  simp only at q e
  have hN : pieceN t ≤ 417 := by unfold pieceN; omega
  simp [b_encode_record, RecIn.cs]
  refine ⟨pieceN t, rgC24 h1, by rw [rangeC_len]; omega, ?_⟩
  refine turns_map (toS t) _ _ (fun x hx P hP => ?_) ?_
  · obtain ⟨k, rfl, hk⟩ := rangeC_mem hx
    simp [toS] at hP ⊢
    exact hP _ rfl
  have hps : (rangeC 0 24 (pieceN t)).map (toS t) = (List.range (pieceN t)).map fun k => .str (partS t k) := by
    unfold rangeC partS
    rw [List.map_map]
    refine List.map_congr_left fun k _ => ?_
    show D.str (cutS t (some (0 + (k : Int) * 24)) (some (0 + (k : Int) * 24 + 24))) = _
    rw [show (0 + (k : Int) * 24) = ((24 * k : Nat) : Int) by omega, show (((24 * k : Nat) : Int) + 24) = ((24 * k + 24 : Nat) : Int) by omega]
  rw [hps, List.nil_append]
  simp
  by_cases hb : pieceN t ≤ 255
  · rw [if_neg (by omega)]
    rw [if_pos hb] at q
    refine loop_inv (fun k s ρ => ∃ (a b c d : Option C), ρ = [some (.d (.int m)), some (.d (.int n)), some (.d (.str t)), some (.d (.lst (List.map (fun k => D.str (partS t k)) (List.range (pieceN t))))), none,
      some (.d (.lst [D.int (n / 256 % 256), D.int (n % 256)])), some (.own (.lst ((List.range k).map fun k => .lst (intsD (pieceL m n t k))))), a, b, c, d]) _ 0 _ _ ⟨_, _, _, _, rfl⟩ ?_ ?_
    · rintro i x ⟨⟩ ρ P hx hP ⟨a, b, c, d, rfl⟩
      obtain ⟨y, hy, rfl⟩ := enumD_get hx
      rw [List.getElem?_map, Option.map_eq_some_iff] at hy
      obtain ⟨k, hk, rfl⟩ := hy
      have hi : i < pieceN t := by
        have := (List.getElem?_eq_some_iff.mp hk).1
        simpa using this
      rw [List.getElem?_range hi] at hk
      cases hk
      have hl := @partL_le t i
      simp [part_len, charsD_len, BIG]
      refine ⟨by omega, ?_⟩
      refine turns_map (fun x => match x with | .str a => .int (a.cps.toList.getD 0 0 : Nat) | x => x) _ _ (fun x hx P hP => ?_) ?_
      · unfold charsD at hx
        obtain ⟨c, hc, rfl⟩ := List.mem_map.mp hx
        simp at hP ⊢
        exact hP _ rfl
      have hch : (charsD (partS t i)).map (fun x => match x with | .str a => D.int (a.cps.toList.getD 0 0 : Nat) | x => x) = intsD (partL t i) := by
        rw [← codes_part]
        unfold charsD codes intsD
        rw [List.map_map, List.map_map]
        rfl
      rw [hch, List.nil_append]
      simp [BIG]
      refine ⟨by omega, ⟨([m, i, (pieceN t : Nat), n / 256 % 256, n % 256, ((partL t i).length : Nat)] ++ partL t i, [m]), ?_, ⟨by simp; omega, by simp⟩, ?_⟩⟩
      · simp [intsD, part_len]
      simp [BIG]
      refine ⟨by omega, ?_⟩
      have : blockL (m :: (i : Int) :: (pieceN t : Int) :: (n / 256 % 256) :: (n % 256) :: ((partL t i).length : Int) :: partL t i) [m] = pieceL m n t i := by
        show blockL ([m, i, (pieceN t : Nat), n / 256 % 256, n % 256, ((partL t i).length : Nat)] ++ partL t i) [m] = pieceL m n t i
        unfold blockL pieceL
        rw [show 32 - ([m, i, (pieceN t : Nat), n / 256 % 256, n % 256, ((partL t i).length : Nat)] ++ partL t i).length - [m].length = 25 - (partL t i).length by simp; omega]
      have key : List.map (fun k => D.lst (intsD (pieceL m n t k))) (List.range i) ++ [D.lst (intsD (pieceL m n t i))] = List.map (fun k => D.lst (intsD (pieceL m n t k))) (List.range (0 + i + 1)) := by
        rw [Nat.zero_add, List.range_succ, List.map_append]; rfl
      rw [this, key]
      exact hP _ _ ⟨_, _, _, _, rfl⟩
    · rintro ⟨⟩ ρ ⟨a, b, c, d, rfl⟩
      simp [enumD_len]
      exact q _ rfl
  · rw [if_pos (by omega)]
    rw [if_neg hb] at e
    exact ⟨by decide +kernel, e _ rfl⟩
end Lk61


set_option linter.all false
set_option maxRecDepth 100000
set_option maxHeartbeats 4000000
namespace Lk61
open PySem PySem.Spec PyProof.Rows L2 GR N01 RZ DL
theorem six {b : List Int} (h : b.length = 32) : ∃ b0 b1 b2 b3 b4 b5 r, b = [b0, b1, b2, b3, b4, b5] ++ r ∧ r.length = 26 := by
  match b, h with
  | b0 :: b1 :: b2 :: b3 :: b4 :: b5 :: r, h => exact ⟨b0, b1, b2, b3, b4, b5, r, rfl, by simpa using h⟩
theorem sgn_fit {xs : List Int} : D.fitL 63 (xs.map signD) = true := fitL_map fun c _ => by unfold signD; split <;> simp
theorem sgn_mem {xs : List Int} : memD .non (xs.map signD) = !xs.all okCode := by
  unfold memD
  rw [List.any_map]
  induction xs with
  | nil => rfl
  | cons x xs ih =>
    rw [List.any_cons, ih, List.all_cons]
    show ((signD x).eqv .non || _) = _
    unfold signD
    cases okCode x <;> rfl
theorem join_ones (l : List Str) (h : ∀ s ∈ l, s.length = 1) : (Str.join "" l).cps.toList = l.flatMap fun s => s.cps.toList := by
  induction l with
  | nil => rw [Str.join]; decide +kernel
  | cons x l ih =>
    cases l with
    | nil => rw [Str.join]; simp
    | cons y l =>
      rw [Str.join]
      · have e : ∀ a b : Str, (a ++ b).cps.toList = a.cps.toList ++ b.cps.toList := fun a b => Array.toList_append
        rw [e, e, ih fun s hs => h s (List.mem_cons_of_mem _ hs), List.flatMap_cons]
        have : ("" : Str).cps.toList = [] := by decide +kernel
        rw [this, List.append_nil]; rfl
      · exact fun z => nomatch z
theorem join_sgn (xs : List Int) : Str.join "" (xs.map sgn) = ⟨(xs.map Int.toNat).toArray⟩ := by
  refine str_ext ?_
  rw [join_ones _ fun s hs => by obtain ⟨c, _, rfl⟩ := List.mem_map.mp hs; rfl]
  rw [List.flatMap_map]
  show xs.flatMap (fun c => [c.toNat]) = _
  induction xs with
  | nil => rfl
  | cons x xs ih => rw [List.flatMap_cons, ih]; simp
theorem bools_map {xs : List D} {f : D → Bool} : boolsD (xs.map fun x => .bl (f x)) = some (xs.map f) := by
  induction xs with
  | nil => rfl
  | cons x xs ih => rw [List.map_cons, boolsD, ih]; rfl
theorem h_decode_piece : ∀ cs s Q E, sp_decode_piece cs s Q E → cs.length = 1 → b_decode_piece (fin Q E) s (args0 cs 10) := by
  rintro cs ⟨⟩ Q E ⟨b, rfl, ⟨h1, h2⟩, q⟩ _
  obtain ⟨b0, b1, b2, b3, b4, b5, r, rfl, hr⟩ := six h1
  have e1 : cutG (intsD ([b0, b1, b2, b3, b4, b5] ++ r)) none (some 6) = [.int b0, .int b1, .int b2, .int b3, .int b4, .int b5] := by
    rw [show (6 : Int) = ((6 : Nat) : Int) from rfl, cut_0n]; rfl
  have e2 : atI (intsD ([b0, b1, b2, b3, b4, b5] ++ r)) (-1) = some (.int (r.getD 25 0)) := by
    rw [atI_neg (by decide) (by rw [intsD_len, h1]; decide), intsD_len, h1]
    show (intsD ([b0, b1, b2, b3, b4, b5] ++ r))[31]? = _
    rw [intsD_get, List.getElem?_append_right (by simp)]
    simp only [List.length_cons, List.length_nil]
    rw [List.getD_eq_getElem?_getD, List.getElem?_eq_getElem (by omega)]; rfl
  have k5 := h2 b5 (by simp)
  have e6 : ((b0 :: b1 :: b2 :: b3 :: b4 :: b5 :: r).getD 31 0) = r.getD 25 0 := rfl
  simp [b_decode_piece]
  simp at e1 e2
  simp [e1, e2]
  unfold decP at q
  simp [e6, -List.map_take, -List.all_eq_true] at q
  by_cases c1 : b0 = 77 ∨ b0 = 83
  · have m1 : memD (.int b0) [c_CHANGES_MARK, c_ENTITY_MARK] = true := by rcases c1 with rfl | rfl <;> decide +kernel
    rw [if_pos m1]
    by_cases c2 : b0 = r.getD 25 0
    · have c2' : b0 = r[25]?.getD 0 := by simpa using c2
      rw [if_pos (by simpa using c2)]
      by_cases c3 : b1 < b2
      · rw [if_neg (by omega)]
        by_cases c4 : b5 ≤ 24
        · rw [if_neg (by omega)]
          rw [if_pos ⟨c1, c2', c3, c4⟩] at q
          obtain ⟨n, rfl⟩ : ∃ n : Nat, b5 = n := ⟨b5.toNat, by omega⟩
          have e3 : cutG (intsD (b0 :: b1 :: b2 :: b3 :: b4 :: (n : Int) :: r)) (some 6) (some (6 + (n : Int))) = intsD (r.take n) := by
            rw [show (6 : Int) = ((6 : Nat) : Int) from rfl, ← Int.natCast_add, cut_nn, intsD_take]
            rw [show 6 + n - 6 = n by omega]; rfl
          have e5 : cutG (intsD (b0 :: b1 :: b2 :: b3 :: b4 :: (n : Int) :: r)) (some (6 + (n : Int))) (some (-1)) = intsD ((r.drop n).take (25 - n)) := by
            rw [show (6 : Int) = ((6 : Nat) : Int) from rfl, ← Int.natCast_add, show (-1 : Int) = -((1 : Nat) : Int) from rfl, cut_nm (by decide) (by simp [hr]) (by simp [hr]; omega), intsD_take, intsD_drop, intsD_len]
            rw [show (b0 :: b1 :: b2 :: b3 :: b4 :: (n : Int) :: r).length - 1 - (6 + n) = 25 - n by simp [hr]; omega]
            congr 1
            show List.drop (6 + n) (.int b0 :: .int b1 :: .int b2 :: .int b3 :: .int b4 :: .int n :: intsD r) = _
            rw [Nat.add_comm]; rfl
          have e7 : List.drop (6 + n) (b0 :: b1 :: b2 :: b3 :: b4 :: (n : Int) :: r) = r.drop n := by rw [Nat.add_comm]; rfl
          simp only [Int.toNat_natCast, e7] at q
          have hX : (r.take n).length ≤ 24 := by rw [List.length_take]; omega
          have hY : ((r.drop n).take (25 - n)).length ≤ 25 := by rw [List.length_take]; omega
          generalize hx : r.take n = X at *
          generalize hy : (r.drop n).take (25 - n) = Y at *
          rw [e3]
          refine ⟨by rw [intsD_len]; omega, ?_⟩
          refine turns_map (fun d => match d with | .int c => signD c | d => d) _ _ (fun x hx P hP => ?_) ?_
          · obtain ⟨c, _, rfl⟩ := List.mem_map.mp hx
            simp at hP ⊢
            exact ⟨c, rfl, trivial, hP _ rfl⟩
          have e4 : List.map (fun d => match d with | .int c => signD c | d => d) (intsD X) = X.map signD := by
            unfold intsD; rw [List.map_map]; rfl
          rw [e4, List.nil_append]
          simp [sgn_fit, sgn_mem, -List.all_eq_true]
          by_cases c5 : X.all okCode = true
          · rw [if_neg (by simpa using c5)]
            rw [e5]
            refine ⟨by rw [intsD_len]; omega, ?_⟩
            refine turns_map (fun d => .bl (match d with | .int c => !decide (c = 0) | d => false)) _ _ (fun x hx P hP => ?_) ?_
            · obtain ⟨c, _, rfl⟩ := List.mem_map.mp hx
              simp at hP ⊢
              exact hP _ rfl
            have e8 : (intsD Y).map (fun d => D.bl (match d with | .int c => !decide (c = 0) | d => false)) = (intsD Y).map fun d => .bl ((fun d => match d with | .int c => !decide (c = 0) | d => false) d) := rfl
            rw [e8, List.nil_append]
            refine ⟨_, bools_map, ?_⟩
            have e9 : (true ∈ (intsD Y).map (fun d => match d with | .int c => !decide (c = 0) | d => false)) ↔ ¬ ∀ x ∈ Y, x = 0 := by
              unfold intsD
              simp
            generalize (intsD Y).map (fun d => match d with | .int c => !decide (c = 0) | d => false) = B at e9 ⊢
            simp
            by_cases c6 : ∀ x ∈ Y, x = 0
            · rw [if_neg (fun z => e9.mp z c6)]
              rw [if_pos ⟨c5, by simpa using c6⟩] at q
              have e10 : X.map signD = (X.map sgn).map D.str := by
                rw [List.map_map]
                refine List.map_congr_left fun c hc => ?_
                unfold signD
                rw [if_pos (List.all_eq_true.mp c5 c hc)]; rfl
              refine ⟨X.map sgn, e10, ?_, ?_⟩
              · have : ∀ l : List Int, (List.map (fun s => Str.length s) (l.map sgn)).sum = l.length := fun l => by
                  induction l with
                  | nil => rfl
                  | cons x l ih => rw [List.map_cons, List.map_cons, List.sum_cons, ih, List.length_cons, show (sgn x).length = 1 from rfl]; omega
                rw [this, List.length_map, show (Str.ofString "").length = 0 by decide +kernel]; omega
              · rw [join_sgn]
                exact q
            · rw [if_pos (e9.mpr c6)]
              rw [if_neg (fun z => c6 (by simpa using z.2))] at q
              exact q
          · rw [if_pos (by simpa using c5)]
            rw [if_neg (fun z => c5 z.1)] at q
            exact q
        · rw [if_pos (by omega)]
          rw [if_neg (by omega)] at q
          exact q
      · rw [if_pos (by omega)]
        rw [if_neg (by omega)] at q
        exact q
    · have c2' : ¬ b0 = r[25]?.getD 0 := by simpa using c2
      rw [if_neg (by simpa using c2)]
      rw [if_neg (fun z => c2' z.2.1)] at q
      exact q
  · have m1 : ¬ memD (.int b0) [c_CHANGES_MARK, c_ENTITY_MARK] = true := by
      simp [memD]
      omega
    rw [if_neg m1]
    rw [if_neg (fun z => c1 z.1)] at q
    exact q
end Lk61


set_option linter.all false
set_option maxRecDepth 100000
set_option maxHeartbeats 4000000
namespace Lk61
open PySem PySem.Spec PyProof.Rows L2 GR N01 RZ DL
/-! heads -/
def headL (g b m : Int) : List Int := [72, g, b / 256 / 256, b / 256 % 256, b % 256, m] ++ List.replicate 24 0 ++ [g, 72]
def sp_encode_head : DSp Unit := psp (fun p : Int × Int × Int => [C.d (.int p.1), C.d (.int p.2.1), C.d (.int p.2.2)]) (fun p => 0 ≤ p.2.1 ∧ p.2.1 < 2 ^ 40) fun p => .lst (intsD (headL p.1 p.2.1 p.2.2))
section
abbrev s_encode_head : Stmt := top 29
theorem sc_encode_head : FnScope ["generation", "base", "many", "place"] ["generation", "base", "many"] (defScope s_encode_head) := ⟨rfl, rfl, rfl, by decide +kernel, rfl, by decide +kernel, by decide +kernel⟩
def b_encode_head : DS Unit := (dSeq (dAsg 3 (dLst (dCons (dOpO oFdv (dOV (dOpO oFdv (dOS 1) (dOV (dC c_BYTES)))) (dOV (dC c_BYTES))) (dCons (dOpO oMod (dOV (dOpO oFdv (dOS 1) (dOV (dC c_BYTES)))) (dOV (dC c_BYTES))) (dCons (dOpO oMod (dOS 1) (dOV (dC c_BYTES))) dNil)))))
  (dRet (dCalP 2 sp_block_of [] (dCons (dOpO oAdd (dOV (dOpO oAdd (dOV (dLst (dCons (dC c_HEAD_MARK) (dCons (dVar 0) dNil)))) (dOS 3))) (dOV (dLst (dCons (dVar 2) dNil)))) (dCons (dLst (dCons (dVar 0) (dCons (dC c_HEAD_MARK) dNil))) dNil)))))
theorem q_encode_head {P : Program} {w : World} {K : PySem.W.Frag} {mg : Str → Option Value} {base : Heap} (T : Fx P w K mg) (c_block_of : DCal K mg P w base nul 2 "block_of" ["start", "end"] [] sp_block_of) {fa : Addr} {cdv : Value} {A : Around} {outer : List Env} {s : Shared} {H : Hp} {E : XK}
    (hr : Room 2 (A.deeper (envOfC "encode_head" (defScope s_encode_head) s.heap.objs.size fa cdv))) (hgd : (A.deeper (envOfC "encode_head" (defScope s_encode_head) s.heap.objs.size fa cdv)).guards = some []) :
    ∃ ts, QSs (cxOf (L2.CX P w) P w K mg base ["generation", "base", "many", "place"] "encode_head" (defScope s_encode_head) fa cdv A outer s H E) none nul (fun cls d _ H => E cls d H) (defBody s_encode_head) ts b_encode_head := by
  exact ⟨_, (ssc (sset 3 sc_encode_head.nd (qf (qlst (ac (qbin op_fdiv sim_fdiv (oe (qbin op_fdiv sim_fdiv (ov 1) (oe (qglob T.g_BYTES)))) (oe (qglob T.g_BYTES))) (ac (qbin op_mod sim_mod (oe (qbin op_fdiv sim_fdiv (ov 1) (oe (qglob T.g_BYTES)))) (oe (qglob T.g_BYTES))) (ac (qbin op_mod sim_mod (ov 1) (oe (qglob T.g_BYTES))) an))))))
  (sso (sret (qe_calP 2 c_block_of hgd hr (by decide) (by rfl) (ac (qbin op_addU sim_add (oe (qbin op_addU sim_add (of (qlst (ac (qglob T.g_HEAD_MARK) (ac (qv 0) an)))) (ov 3))) (of (qlst (ac (qv 2) an)))) (ac (qf (qlst (ac (qv 0) (ac (qglob T.g_HEAD_MARK) an)))) an)) rfl))))⟩
theorem ok_encode_head {P : Program} {w : World} {K : PySem.W.Frag} {mg : Str → Option Value} {base : Heap} (T : Fx P w K mg) (c_block_of : DCal K mg P w base nul 2 "block_of" ["start", "end"] [] sp_block_of) (hm : MonoSp sp_encode_head) (h : ∀ cs s Q E, sp_encode_head cs s Q E → cs.length = 3 → b_encode_head (fin Q E) s (args0 cs 4))
    {f : Addr} {fd : FuncData} (F : FunD K "encode_head" "encode_head" (defArgs s_encode_head) (defBody s_encode_head) (defScope s_encode_head) [] [] f fd) (hb : Binds K fd ["generation", "base", "many"] []) (hg : mg "encode_head" = some (.ref f)) (hk : PySem.W.keepIn K (.ref f) = true) : DCal K mg P w base nul 3 "encode_head" ["generation", "base", "many"] [] sp_encode_head :=
  ⟨hm, f, fd, [], [], ddef F sc_encode_head (fun cdv A outer s H E hr hgd => q_encode_head T c_block_of hr hgd) h, hb, .nil, fun _ _ => .nil, hg, hk⟩
end
theorem h_encode_head : ∀ cs s Q E, sp_encode_head cs s Q E → cs.length = 3 → b_encode_head (fin Q E) s (args0 cs 4) := by
  rintro cs ⟨⟩ Q E ⟨⟨g, b, m⟩, rfl, ⟨h0, h1⟩, q⟩ _
  have q : Q (.lst (intsD (headL g b m))) () := q
  simp [b_encode_head]
  exact ⟨([72, g, b / 256 / 256, b / 256 % 256, b % 256, m], [g, 72]), rfl, ⟨by simp, by simp⟩, q⟩
def decH (b : List Int) : D := if b.getD 0 0 = 72 ∧ b.getD 30 0 = b.getD 1 0 ∧ b.getD 31 0 = 72 then .tup [.int (b.getD 1 0), .int ((b.getD 2 0 * 256 + b.getD 3 0) * 256 + b.getD 4 0), .int (b.getD 5 0)] else .non
def Blk (b : List Int) : Prop := b.length = 32 ∧ ∀ x ∈ b, 0 ≤ x ∧ x < 2 ^ 40
def sp_decode_head : DSp Unit := psp (fun b : List Int => [C.d (.lst (intsD b))]) Blk decH
section
abbrev s_decode_head : Stmt := top 30
theorem sc_decode_head : FnScope ["block", "mark", "generation", "high", "middle", "low", "many"] ["block"] (defScope s_decode_head) := ⟨rfl, rfl, rfl, by decide +kernel, rfl, by decide +kernel, by decide +kernel⟩
def b_decode_head : DS Unit := (dSeq (dAsgG (gTpU [1, 2, 3, 4, 5, 6]) (dSl (dOS 0) dpN (dpS (dC (.int 6)))))
  (dSeq (dIf (dTOr (dTst (dOpO (oEq true) (dOS 1) (dOV (dC c_HEAD_MARK)))) (dTst (dOpO (oEq true) (dOV (dSl (dOS 0) (dpS (dUnO oNeg (dOV (dC (.int 2))))) dpN)) (dOV (dLst (dCons (dVar 2) (dCons (dC c_HEAD_MARK) dNil))))))) (dRet (dC .non)) dNext)
  (dRet (dTup (dCons (dVar 2) (dCons (dOpO oAdd (dOV (dOpO oMulV (dOV (dOpO oAdd (dOV (dOpO oMulV (dOS 3) (dOV (dC c_BYTES)))) (dOS 4))) (dOV (dC c_BYTES)))) (dOS 5)) (dCons (dVar 6) dNil)))))))
theorem q_decode_head {P : Program} {w : World} {K : PySem.W.Frag} {mg : Str → Option Value} {base : Heap} (T : Fx P w K mg) {fa : Addr} {cdv : Value} {A : Around} {outer : List Env} {s : Shared} {H : Hp} {E : XK}
    (hr : Room 1 (A.deeper (envOfC "decode_head" (defScope s_decode_head) s.heap.objs.size fa cdv))) (hgd : (A.deeper (envOfC "decode_head" (defScope s_decode_head) s.heap.objs.size fa cdv)).guards = some []) :
    ∃ ts, QSs (cxOf (L2.CX P w) P w K mg base ["block", "mark", "generation", "high", "middle", "low", "many"] "decode_head" (defScope s_decode_head) fa cdv A outer s H E) none nul (fun cls d _ H => E cls d H) (defBody s_decode_head) ts b_decode_head := by
  exact ⟨_, (ssc (sunp (gtU 6 (ncs 1 sc_decode_head.nd (ncs 2 sc_decode_head.nd (ncs 3 sc_decode_head.nd (ncs 4 sc_decode_head.nd (ncs 5 sc_decode_head.nd (ncs 6 sc_decode_head.nd nn))))))) (qsl (ov 0) pn (psm qint)))
  (ssc (sif (tw (wor (tcmp (op_neU (hu64 hr)) sim_eq (ov 1) (oe (qglob T.g_HEAD_MARK)) (nomark _)) (wor1 (tcmp (op_neU (hu64 hr)) sim_eq (oe (qsl (ov 0) (psm (qneg (oe qint))) pn)) (of (qlst (ac (qv 2) (ac (qglob T.g_HEAD_MARK) an)))) (nomark _))))) (sso (sret qnon)) ssn)
  (sso (sret (qtup (ac (qv 2) (ac (qbin op_addU sim_add (oe (qbin op_mulV sim_mulV (oe (qbin op_addU sim_add (oe (qbin op_mulV sim_mulV (ov 3) (oe (qglob T.g_BYTES)))) (ov 4))) (oe (qglob T.g_BYTES)))) (ov 5)) (ac (qv 6) an))))))))⟩
theorem ok_decode_head {P : Program} {w : World} {K : PySem.W.Frag} {mg : Str → Option Value} {base : Heap} (T : Fx P w K mg) (hm : MonoSp sp_decode_head) (h : ∀ cs s Q E, sp_decode_head cs s Q E → cs.length = 1 → b_decode_head (fin Q E) s (args0 cs 7))
    {f : Addr} {fd : FuncData} (F : FunD K "decode_head" "decode_head" (defArgs s_decode_head) (defBody s_decode_head) (defScope s_decode_head) [] [] f fd) (hb : Binds K fd ["block"] []) (hg : mg "decode_head" = some (.ref f)) (hk : PySem.W.keepIn K (.ref f) = true) : DCal K mg P w base nul 2 "decode_head" ["block"] [] sp_decode_head :=
  ⟨hm, f, fd, [], [], ddef F sc_decode_head (fun cdv A outer s H E hr hgd => q_decode_head T hr hgd) h, hb, .nil, fun _ _ => .nil, hg, hk⟩
end
theorem eqv_l22 {a b c d : D} : D.eqv (.lst [a, b]) (.lst [c, d]) = (D.eqv a c && D.eqv b d) := by
  show PyData.eqv (D.lst [a, b]).py (D.lst [c, d]).py = _
  rw [D.py, D.py, PyData.eqv]
  simp only [D.pyL, PyData.eqvAll, Bool.and_true]
  rfl
theorem h_decode_head : ∀ cs s Q E, sp_decode_head cs s Q E → cs.length = 1 → b_decode_head (fin Q E) s (args0 cs 7) := by
  rintro cs ⟨⟩ Q E ⟨b, rfl, ⟨h1, h2⟩, q⟩ _
  have q : Q (decH b) () := q
  obtain ⟨b0, b1, b2, b3, b4, b5, r, rfl, hr⟩ := six h1
  have e1 : cutG (intsD ([b0, b1, b2, b3, b4, b5] ++ r)) none (some 6) = [.int b0, .int b1, .int b2, .int b3, .int b4, .int b5] := by
    rw [show (6 : Int) = ((6 : Nat) : Int) from rfl, cut_0n]; rfl
  have e2 : cutG (intsD ([b0, b1, b2, b3, b4, b5] ++ r)) (some (-2)) none = [.int (r.getD 24 0), .int (r.getD 25 0)] := by
    rw [show (-2 : Int) = -((2 : Nat) : Int) from rfl, cut_m0 (by decide) (by rw [intsD_len, h1]; decide), intsD_len, h1, ← intsD_drop]
    show intsD (r.drop 24) = _
    have : r.drop 24 = [r.getD 24 0, r.getD 25 0] := by
      rw [List.drop_eq_getElem_cons (by omega), List.drop_eq_getElem_cons (by omega), List.drop_of_length_le (by omega)]
      simp [List.getD_eq_getElem?_getD, List.getElem?_eq_getElem, hr]
    rw [this]; rfl
  simp [b_decode_head]
  simp at e1 e2
  simp [e1, e2]
  have q2 : Q (if b0 = 72 ∧ r.getD 24 0 = b1 ∧ r.getD 25 0 = 72 then .tup [.int b1, .int ((b2 * 256 + b3) * 256 + b4), .int b5] else .non) () := q
  rw [eqv_l22, eqv_ii, eqv_ii]
  rw [← List.getD_eq_getElem?_getD, ← List.getD_eq_getElem?_getD]
  by_cases c1 : b0 = 72
  · rw [if_pos c1]
    by_cases c2 : r.getD 24 0 = b1 ∧ r.getD 25 0 = 72
    · rw [if_pos ⟨c1, c2⟩] at q2
      rw [if_pos (by rw [decide_eq_true c2.1, decide_eq_true c2.2]; rfl)]
      exact q2
    · rw [if_neg (fun z => c2 z.2)] at q2
      rw [if_neg (by simp only [Bool.and_eq_true, decide_eq_true_eq]; exact c2)]
      exact q2
  · rw [if_neg (fun z => c1 z.1)] at q2
    rw [if_neg c1]
    exact q2
theorem at_b {b : List Int} {i : Nat} (h : i < b.length) : atI (intsD b) (i : Int) = some (.int (b.getD i 0)) := by
  rw [atI_nat' (by rw [intsD_len]; exact h), intsD_get, List.getD_eq_getElem?_getD, List.getElem?_eq_getElem h]; rfl
end Lk61


set_option linter.all false
set_option maxRecDepth 100000
set_option maxHeartbeats 4000000
namespace Lk61
open PySem PySem.Spec PyProof.Rows L2 GR N01 RZ DL
def Byt (b : List Int) : Prop := ∀ x ∈ b, 0 ≤ x ∧ x ≤ 255
def sp_is_block : DSp Unit := psp (fun b : List Int => [C.d (.lst (intsD b))]) (fun b => b.length = 32 ∧ Byt b) fun _ => .bl true
section
abbrev s_is_block : Stmt := top 10
theorem sc_is_block : FnScope ["block", "byte"] ["block"] (defScope s_is_block) := ⟨rfl, rfl, rfl, by decide +kernel, rfl, by decide +kernel, by decide +kernel⟩
def b_is_block : DS Unit := (dRet (dAnd (dOpO (oEq false) (dOV (dUnO oLen (dOS 0))) (dOV (dC c_BLOCK))) (dUnO (oAll false) (dOV (dLc (dIt (dVar 0)) (gNm 1) dYes (dChain oLe oLe (dC (.int 0)) (dVar 1) (dC c_BYTE_MOST)) [1])))))
theorem q_is_block {P : Program} {w : World} {K : PySem.W.Frag} {mg : Str → Option Value} {base : Heap} (T : Fx P w K mg) {fa : Addr} {cdv : Value} {A : Around} {outer : List Env} {s : Shared} {H : Hp} {E : XK}
    (hr : Room 1 (A.deeper (envOfC "is_block" (defScope s_is_block) s.heap.objs.size fa cdv))) (hgd : (A.deeper (envOfC "is_block" (defScope s_is_block) s.heap.objs.size fa cdv)).guards = some []) :
    ∃ ts, QSs (cxOf (L2.CX P w) P w K mg base ["block", "byte"] "is_block" (defScope s_is_block) fa cdv A outer s H E) none nul (fun cls d _ H => E cls d H) (defBody s_is_block) ts b_is_block := by
  exact ⟨_, (sso (sret (qand (qcmp (op_eqU (hu64 hr)) sim_eq (oe (qbi call_lenU sim_len T.z_len (by decide +kernel) (ov 0))) (oe (qglob T.g_BLOCK)) (nomark _)) (qone (qbi (cr_all rfl) sim_all T.z_all (by decide +kernel) (of (qlcV (g := (gName 1)) (te := (tChain (rCmpU (fun i j => decide (i ≤ j)) fun a b => !ltS b a) (rCmpU (fun i j => decide (i ≤ j)) fun a b => !ltS b a) (tC (.int 0)) (tVar 1) (tGl K mg c_BYTE_MOST))) [("byte", 1)] sc_is_block.nd (iu (qv 0)) (blkOk_by (N := ["block", "byte"]) (sc := defScope s_is_block) (by decide +kernel)) (fun _ _ _ _ _ => (gn 1 sc_is_block.nd)) (by decide) (fun _ _ _ _ _ => (qchain op_leU sim_cmp op_leU sim_cmp qint (qv 1) (qglob T.g_BYTE_MOST))))))))))⟩
theorem ok_is_block {P : Program} {w : World} {K : PySem.W.Frag} {mg : Str → Option Value} {base : Heap} (T : Fx P w K mg) (hm : MonoSp sp_is_block) (h : ∀ cs s Q E, sp_is_block cs s Q E → cs.length = 1 → b_is_block (fin Q E) s (args0 cs 2))
    {f : Addr} {fd : FuncData} (F : FunD K "is_block" "is_block" (defArgs s_is_block) (defBody s_is_block) (defScope s_is_block) [] [] f fd) (hb : Binds K fd ["block"] []) (hg : mg "is_block" = some (.ref f)) (hk : PySem.W.keepIn K (.ref f) = true) : DCal K mg P w base nul 2 "is_block" ["block"] [] sp_is_block :=
  ⟨hm, f, fd, [], [], ddef F sc_is_block (fun cdv A outer s H E hr hgd => q_is_block T hr hgd) h, hb, .nil, fun _ _ => .nil, hg, hk⟩
end
/-! disks -/
structure Dk where
  o : Addr
  b : Addr
  w : Addr
  bs : List (List Int)
  ws : List (Int × List Int)
def blD (b : List Int) : D := .lst (intsD b)
def wtD (p : Int × List Int) : D := .tup [.int p.1, .lst (intsD p.2)]
def Dk.ok (k : Dk) : Prop := k.o ≠ k.b ∧ k.o ≠ k.w ∧ k.b ≠ k.w ∧ k.bs.length ≤ 1000 ∧ k.ws.length ≤ 1000
def dkO (b w : Addr) : D := .obj "Disk" ["_blocks", "_waiting", "_cuts", "_schedule"] [.hdl b, .hdl w, .int 0, .non]
def dkS (o b w : Addr) (bs : List (List Int)) (ws : List (Int × List Int)) : MS := (false, [(w, .lst (ws.map wtD)), (b, .lst (bs.map blD)), (o, dkO b w)])
def Dk.st (k : Dk) : MS := dkS k.o k.b k.w k.bs k.ws
def wAt (l : List Int) (at' : Int) : List (Int × List Int) → List Int
  | [] => l
  | p :: r => wAt (if p.1 = at' then p.2 else l) at' r
def Dk.rd (k : Dk) (i : Nat) : List Int := wAt (k.bs.getD i []) i k.ws
def sp_Disk_size : DSp MS := msp (fun k : Dk => [C.d (.hdl k.o)]) Dk.st Dk.ok (fun k x s => x = .int k.bs.length ∧ s = k.st) fun _ _ _ => False
section
abbrev s_Disk_size : Stmt := L2.inClass (top 12) 1
theorem sc_Disk_size : FnScope ["self"] ["self"] (defScope s_Disk_size) := ⟨rfl, rfl, rfl, by decide +kernel, rfl, by decide +kernel, by decide +kernel⟩
def b_Disk_size : DS MS := (dRet (dUnO oLen (dOH (dFldM "Disk" "_blocks" (dVar 0)))))
theorem q_Disk_size {P : Program} {w : World} {K : PySem.W.Frag} {mg : Str → Option Value} {base : Heap} (T : Fx P w K mg) {fa : Addr} {cdv : Value} {A : Around} {outer : List Env} {s : Shared} {H : Hp} {E : XK}
    (hr : Room 1 (A.deeper (envOfC "Disk.size" (defScope s_Disk_size) s.heap.objs.size fa cdv))) (hgd : (A.deeper (envOfC "Disk.size" (defScope s_Disk_size) s.heap.objs.size fa cdv)).guards = some []) :
    ∃ ts, QSs (cxOf (L2.CX P w) P w K mg base ["self"] "Disk.size" (defScope s_Disk_size) fa cdv A outer s H E) none (mR K mg) (fun cls d _ H => E cls d H) (defBody s_Disk_size) ts b_Disk_size := by
  exact ⟨_, (sso (sret (qbi call_lenU sim_len T.z_len (by decide +kernel) (oh (qfldM T.of_Disk_blocks (qv 0))))))⟩
theorem ok_Disk_size {P : Program} {w : World} {K : PySem.W.Frag} {mg : Str → Option Value} {base : Heap} (T : Fx P w K mg) (hm : MonoSp sp_Disk_size) (h : ∀ cs s Q E, sp_Disk_size cs s Q E → cs.length = 1 → b_Disk_size (finM Q E) s (args0 cs 1))
    {f Ca : Addr} {fd : FuncData} (F : FunD K "size" "Disk.size" (defArgs s_Disk_size) (defBody s_Disk_size) (defScope s_Disk_size) [] [] f fd) (hb : Binds K fd ["self"] []) (hcm : mg "Disk" = some (.ref Ca)) (hcl : Cls K Ca) (M : Meth K Ca "size" f) : DMet P w K mg base (mR K mg) 2 "Disk" "size" ["self"] [] sp_Disk_size :=
  ⟨hm, f, fd, [], [], Ca, ddef F sc_Disk_size (fun cdv A outer s H E hr hgd => q_Disk_size T hr hgd) h, hb, .nil, fun _ _ => .nil, hcm, hcl, M⟩
end
def sp_Disk_check_place : DSp MS := msp (fun p : Dk × Nat => [C.d (.hdl p.1.o), C.d (.int p.2)]) (fun p => p.1.st) (fun p => p.1.ok ∧ p.2 < p.1.bs.length) (fun p x s => x = .non ∧ s = p.1.st) fun _ _ _ => False
section
abbrev s_Disk_check_place : Stmt := L2.inClass (top 12) 2
theorem sc_Disk_check_place : FnScope ["self", "at"] ["self", "at"] (defScope s_Disk_check_place) := ⟨rfl, rfl, rfl, by decide +kernel, rfl, by decide +kernel, by decide +kernel⟩
def b_Disk_check_place : DS MS := (dIf (dTNot (dTst (dChain oLe oLt (dC (.int 0)) (dVar 1) (dMetM "Disk" "size" 0 false sp_Disk_size [] (dVar 0) dNil)))) (dRaise1 "OutOfRange" "name" (dC (.str "at"))) dNext)
theorem q_Disk_check_place {P : Program} {w : World} {K : PySem.W.Frag} {mg : Str → Option Value} {base : Heap} (T : Fx P w K mg) (c_Disk_size : DMet P w K mg base (mR K mg) 2 "Disk" "size" ["self"] [] sp_Disk_size) {fa : Addr} {cdv : Value} {A : Around} {outer : List Env} {s : Shared} {H : Hp} {E : XK}
    (hr : Room 2 (A.deeper (envOfC "Disk._check_place" (defScope s_Disk_check_place) s.heap.objs.size fa cdv))) (hgd : (A.deeper (envOfC "Disk._check_place" (defScope s_Disk_check_place) s.heap.objs.size fa cdv)).guards = some []) :
    ∃ ts, QSs (cxOf (L2.CX P w) P w K mg base ["self", "at"] "Disk._check_place" (defScope s_Disk_check_place) fa cdv A outer s H E) none (mR K mg) (fun cls d _ H => E cls d H) (defBody s_Disk_check_place) ts b_Disk_check_place := by
  obtain ⟨CO, fO, TO⟩ := T.oor
  exact ⟨_, (sso (sif (tnot (tchain op_leU sim_cmp (op_ltU (hu65 hr)) sim_lt qint (qv 1) (qe_metM0 false c_Disk_size hgd hr (by decide) (qv 0) rfl))) (sso (sraiseOor rfl TO (hr.mono (by decide)) qstr)) ssn))⟩
theorem ok_Disk_check_place {P : Program} {w : World} {K : PySem.W.Frag} {mg : Str → Option Value} {base : Heap} (T : Fx P w K mg) (c_Disk_size : DMet P w K mg base (mR K mg) 2 "Disk" "size" ["self"] [] sp_Disk_size) (hm : MonoSp sp_Disk_check_place) (h : ∀ cs s Q E, sp_Disk_check_place cs s Q E → cs.length = 2 → b_Disk_check_place (finM Q E) s (args0 cs 2))
    {f Ca : Addr} {fd : FuncData} (F : FunD K "_check_place" "Disk._check_place" (defArgs s_Disk_check_place) (defBody s_Disk_check_place) (defScope s_Disk_check_place) [] [] f fd) (hb : Binds K fd ["self", "at"] []) (hcm : mg "Disk" = some (.ref Ca)) (hcl : Cls K Ca) (M : Meth K Ca "_check_place" f) : DMet P w K mg base (mR K mg) 3 "Disk" "_check_place" ["self", "at"] [] sp_Disk_check_place :=
  ⟨hm, f, fd, [], [], Ca, ddef F sc_Disk_check_place (fun cdv A outer s H E hr hgd => q_Disk_check_place T c_Disk_size hr hgd) h, hb, .nil, fun _ _ => .nil, hcm, hcl, M⟩
end
section
abbrev s_Disk_cut_power : Stmt := L2.inClass (top 12) 9
abbrev sp_Disk_cut_power : DSp MS := nosp
theorem ok_Disk_cut_power {P : Program} {w : World} {K : PySem.W.Frag} {mg : Str → Option Value} {base : Heap} {Ca f : Addr} {fd : FuncData} (hb : Binds K fd ["self", "torn"] []) (hcm : mg "Disk" = some (.ref Ca)) (hcl : Cls K Ca) (M : Meth K Ca "cut_power" f) : DMet P w K mg base (mR K mg) 2 "Disk" "cut_power" ["self", "torn"] [] sp_Disk_cut_power :=
  ⟨nosp_mono, f, fd, [], [], Ca, ⟨fun _ _ _ _ h => h.1, fun _ _ _ _ _ _ _ _ _ _ _ _ _ _ ⟨_, _, _, _, _, _, _, _, _, _, h⟩ => h.elim⟩, hb, .nil, fun _ _ => .nil, hcm, hcl, M⟩
end
def sp_Disk_count_down : DSp MS := msp (fun k : Dk => [C.d (.hdl k.o)]) Dk.st Dk.ok (fun k x s => x = .non ∧ s = k.st) fun _ _ _ => False
section
abbrev s_Disk_count_down : Stmt := L2.inClass (top 12) 6
theorem sc_Disk_count_down : FnScope ["self", "many", "torn"] ["self"] (defScope s_Disk_count_down) := ⟨rfl, rfl, rfl, by decide +kernel, rfl, by decide +kernel, by decide +kernel⟩
def b_Disk_count_down : DS MS := (dSeq (dIf (dTst (dOpO (oIs false) (dOV (dFldM "Disk" "_schedule" (dVar 0))) (dOV (dC .non)))) dRetN dNext)
  (dSeq (dAsgG (gTpU [1, 2]) (dFldM "Disk" "_schedule" (dVar 0)))
  (dSeq (dIf (dTst (dOpO (oEq false) (dOS 1) (dOV (dC (.int 0))))) (dSeq (dDrop (dMetM "Disk" "cut_power" 1 false sp_Disk_cut_power [] (dVar 0) (dCons (dVar 2) dNil)))
  (dRaise0 "PowerCut" (dC (.str "the power was cut")))) dNext)
  (dFSetM "Disk" "_schedule" (dTup (dCons (dOpO oSub (dOS 1) (dOV (dC (.int 1)))) (dCons (dVar 2) dNil))) (dVar 0)))))
theorem q_Disk_count_down {P : Program} {w : World} {K : PySem.W.Frag} {mg : Str → Option Value} {base : Heap} (T : Fx P w K mg) (c_Disk_cut_power : DMet P w K mg base (mR K mg) 2 "Disk" "cut_power" ["self", "torn"] [] sp_Disk_cut_power) {fa : Addr} {cdv : Value} {A : Around} {outer : List Env} {s : Shared} {H : Hp} {E : XK}
    (hr : Room 2 (A.deeper (envOfC "Disk._count_down" (defScope s_Disk_count_down) s.heap.objs.size fa cdv))) (hgd : (A.deeper (envOfC "Disk._count_down" (defScope s_Disk_count_down) s.heap.objs.size fa cdv)).guards = some []) :
    ∃ ts, QSs (cxOf (L2.CX P w) P w K mg base ["self", "many", "torn"] "Disk._count_down" (defScope s_Disk_count_down) fa cdv A outer s H E) none (mR K mg) (fun cls d _ H => E cls d H) (defBody s_Disk_count_down) ts b_Disk_count_down := by
  obtain ⟨CR_PowerCut, RX_PowerCut⟩ := T.rx_PowerCut
  exact ⟨_, (ssc (sif (tcmp op_isU sim_is (oe (qfldM T.of_Disk_schedule (qv 0))) (oe qnon) (nomark _)) (sso sretN) ssn)
  (ssc (sunp (gtU 2 (ncs 1 sc_Disk_count_down.nd (ncs 2 sc_Disk_count_down.nd nn))) (qfldM T.of_Disk_schedule (qv 0)))
  (ssc (sif (tcmp (op_eqU (hu64 hr)) sim_eq (ov 1) (oe qint) (nomark _)) (ssc (sexpr (qe_metM 1 false c_Disk_cut_power hgd hr (by decide) (qv 0) (ac (qv 2) an) rfl))
  (sso (sraise0 rfl RX_PowerCut qstr))) ssn)
  (sso (sfsetM T.of_Disk_schedule (qv 0) (qtup (ac (qbin op_sub sim_sub (ov 1) (oe qint)) (ac (qv 2) an))))))))⟩
theorem ok_Disk_count_down {P : Program} {w : World} {K : PySem.W.Frag} {mg : Str → Option Value} {base : Heap} (T : Fx P w K mg) (c_Disk_cut_power : DMet P w K mg base (mR K mg) 2 "Disk" "cut_power" ["self", "torn"] [] sp_Disk_cut_power) (hm : MonoSp sp_Disk_count_down) (h : ∀ cs s Q E, sp_Disk_count_down cs s Q E → cs.length = 1 → b_Disk_count_down (finM Q E) s (args0 cs 3))
    {f Ca : Addr} {fd : FuncData} (F : FunD K "_count_down" "Disk._count_down" (defArgs s_Disk_count_down) (defBody s_Disk_count_down) (defScope s_Disk_count_down) [] [] f fd) (hb : Binds K fd ["self"] []) (hcm : mg "Disk" = some (.ref Ca)) (hcl : Cls K Ca) (M : Meth K Ca "_count_down" f) : DMet P w K mg base (mR K mg) 3 "Disk" "_count_down" ["self"] [] sp_Disk_count_down :=
  ⟨hm, f, fd, [], [], Ca, ddef F sc_Disk_count_down (fun cdv A outer s H E hr hgd => q_Disk_count_down T c_Disk_cut_power hr hgd) h, hb, .nil, fun _ _ => .nil, hcm, hcl, M⟩
end
def sp_Disk_read : DSp MS := msp (fun p : Dk × Nat => [C.d (.hdl p.1.o), C.d (.int p.2)]) (fun p => p.1.st) (fun p => p.1.ok ∧ p.2 < p.1.bs.length) (fun p x s => x = blD (p.1.rd p.2) ∧ s = p.1.st) fun _ _ _ => False
section
abbrev s_Disk_read : Stmt := L2.inClass (top 12) 3
theorem sc_Disk_read : FnScope ["self", "at", "found", "place", "block"] ["self", "at"] (defScope s_Disk_read) := ⟨rfl, rfl, rfl, by decide +kernel, rfl, by decide +kernel, by decide +kernel⟩
def b_Disk_read : DS MS := (dSeq (dDrop (dMetM "Disk" "_check_place" 1 false sp_Disk_check_place [] (dVar 0) (dCons (dVar 1) dNil)))
  (dSeq (dAsg 2 (dOpO oIxU (dOH (dFldM "Disk" "_blocks" (dVar 0))) (dOS 1)))
  (dSeq (dForM (dFldM "Disk" "_waiting" (dVar 0)) (gTp [3, 4]) (dIf (dTst (dOpO (oEq false) (dOS 3) (dOS 1))) (dAsg 2 (dVar 4)) dNext))
  (dRet (dUnO oList (dOS 2))))))
theorem q_Disk_read {P : Program} {w : World} {K : PySem.W.Frag} {mg : Str → Option Value} {base : Heap} (T : Fx P w K mg) (c_Disk_check_place : DMet P w K mg base (mR K mg) 3 "Disk" "_check_place" ["self", "at"] [] sp_Disk_check_place) {fa : Addr} {cdv : Value} {A : Around} {outer : List Env} {s : Shared} {H : Hp} {E : XK}
    (hr : Room 3 (A.deeper (envOfC "Disk.read" (defScope s_Disk_read) s.heap.objs.size fa cdv))) (hgd : (A.deeper (envOfC "Disk.read" (defScope s_Disk_read) s.heap.objs.size fa cdv)).guards = some []) :
    ∃ ts, QSs (cxOf (L2.CX P w) P w K mg base ["self", "at", "found", "place", "block"] "Disk.read" (defScope s_Disk_read) fa cdv A outer s H E) none (mR K mg) (fun cls d _ H => E cls d H) (defBody s_Disk_read) ts b_Disk_read := by
  exact ⟨_, (ssc (sexpr (qe_metM 1 false c_Disk_check_place hgd hr (by decide) (qv 0) (ac (qv 1) an) rfl))
  (ssc (sset 2 sc_Disk_read.nd (qixU (DL.hu_of hr) (oh (qfldM T.of_Disk_blocks (qv 0))) (ov 1)))
  (ssc (sforM (qfldM T.of_Disk_waiting (qv 0)) (gt 2 (ncs 3 sc_Disk_read.nd (ncs 4 sc_Disk_read.nd nn))) (sso (sif (tcmp (op_eqU (hu64 hr)) sim_eq (ov 3) (ov 1) (nomark _)) (sso (sset 2 sc_Disk_read.nd (qv 4))) ssn)))
  (sso (sret (qf (qlist T.z_list (ov 2))))))))⟩
theorem ok_Disk_read {P : Program} {w : World} {K : PySem.W.Frag} {mg : Str → Option Value} {base : Heap} (T : Fx P w K mg) (c_Disk_check_place : DMet P w K mg base (mR K mg) 3 "Disk" "_check_place" ["self", "at"] [] sp_Disk_check_place) (hm : MonoSp sp_Disk_read) (h : ∀ cs s Q E, sp_Disk_read cs s Q E → cs.length = 2 → b_Disk_read (finM Q E) s (args0 cs 5))
    {f Ca : Addr} {fd : FuncData} (F : FunD K "read" "Disk.read" (defArgs s_Disk_read) (defBody s_Disk_read) (defScope s_Disk_read) [] [] f fd) (hb : Binds K fd ["self", "at"] []) (hcm : mg "Disk" = some (.ref Ca)) (hcl : Cls K Ca) (M : Meth K Ca "read" f) : DMet P w K mg base (mR K mg) 4 "Disk" "read" ["self", "at"] [] sp_Disk_read :=
  ⟨hm, f, fd, [], [], Ca, ddef F sc_Disk_read (fun cdv A outer s H E hr hgd => q_Disk_read T c_Disk_check_place hr hgd) h, hb, .nil, fun _ _ => .nil, hcm, hcl, M⟩
end
def sp_Disk_write : DSp MS := msp (fun p : Dk × Nat × List Int => [C.d (.hdl p.1.o), C.d (.int p.2.1), C.d (blD p.2.2)]) (fun p => p.1.st) (fun p => p.1.ok ∧ p.2.1 < p.1.bs.length ∧ p.2.2.length = 32 ∧ Byt p.2.2)
  (fun p x s => x = .non ∧ s = dkS p.1.o p.1.b p.1.w p.1.bs (p.1.ws ++ [((p.2.1 : Int), p.2.2)])) fun _ _ _ => False
section
abbrev s_Disk_write : Stmt := L2.inClass (top 12) 4
theorem sc_Disk_write : FnScope ["self", "at", "block"] ["self", "at", "block"] (defScope s_Disk_write) := ⟨rfl, rfl, rfl, by decide +kernel, rfl, by decide +kernel, by decide +kernel⟩
def b_Disk_write : DS MS := (dSeq (dDrop (dMetM "Disk" "_check_place" 1 false sp_Disk_check_place [] (dVar 0) (dCons (dVar 1) dNil)))
  (dSeq (dIf (dTNot (dTruO (dOV (dCalP 1 sp_is_block [] (dCons (dVar 2) dNil))))) (dRaise1 "OutOfRange" "name" (dC (.str "block"))) dNext)
  (dSeq (dDrop (dMetM "Disk" "_count_down" 0 false sp_Disk_count_down [] (dVar 0) dNil))
  (dAppM (dFldM "Disk" "_waiting" (dVar 0)) (dTup (dCons (dVar 1) (dCons (dUnO oList (dOS 2)) dNil)))))))
theorem q_Disk_write {P : Program} {w : World} {K : PySem.W.Frag} {mg : Str → Option Value} {base : Heap} (T : Fx P w K mg) (c_Disk_check_place : DMet P w K mg base (mR K mg) 3 "Disk" "_check_place" ["self", "at"] [] sp_Disk_check_place) (c_is_block : DCal K mg P w base nul 2 "is_block" ["block"] [] sp_is_block) (c_Disk_count_down : DMet P w K mg base (mR K mg) 3 "Disk" "_count_down" ["self"] [] sp_Disk_count_down) {fa : Addr} {cdv : Value} {A : Around} {outer : List Env} {s : Shared} {H : Hp} {E : XK}
    (hr : Room 3 (A.deeper (envOfC "Disk.write" (defScope s_Disk_write) s.heap.objs.size fa cdv))) (hgd : (A.deeper (envOfC "Disk.write" (defScope s_Disk_write) s.heap.objs.size fa cdv)).guards = some []) :
    ∃ ts, QSs (cxOf (L2.CX P w) P w K mg base ["self", "at", "block"] "Disk.write" (defScope s_Disk_write) fa cdv A outer s H E) none (mR K mg) (fun cls d _ H => E cls d H) (defBody s_Disk_write) ts b_Disk_write := by
  obtain ⟨CO, fO, TO⟩ := T.oor
  exact ⟨_, (ssc (sexpr (qe_metM 1 false c_Disk_check_place hgd hr (by decide) (qv 0) (ac (qv 1) an) rfl))
  (ssc (sif (tnot (tru (oe (qe_calP 1 c_is_block hgd hr (by decide) (by rfl) (ac (qv 2) an) rfl)))) (sso (sraiseOor rfl TO (hr.mono (by decide)) qstr)) ssn)
  (ssc (sexpr (qe_metM0 false c_Disk_count_down hgd hr (by decide) (qv 0) rfl))
  (sso (sappM (qfldM T.of_Disk_waiting (qv 0)) (qtup (ac (qv 1) (ac (qf (qlist T.z_list (ov 2))) an))))))))⟩
theorem ok_Disk_write {P : Program} {w : World} {K : PySem.W.Frag} {mg : Str → Option Value} {base : Heap} (T : Fx P w K mg) (c_Disk_check_place : DMet P w K mg base (mR K mg) 3 "Disk" "_check_place" ["self", "at"] [] sp_Disk_check_place) (c_is_block : DCal K mg P w base nul 2 "is_block" ["block"] [] sp_is_block) (c_Disk_count_down : DMet P w K mg base (mR K mg) 3 "Disk" "_count_down" ["self"] [] sp_Disk_count_down) (hm : MonoSp sp_Disk_write) (h : ∀ cs s Q E, sp_Disk_write cs s Q E → cs.length = 3 → b_Disk_write (finM Q E) s (args0 cs 3))
    {f Ca : Addr} {fd : FuncData} (F : FunD K "write" "Disk.write" (defArgs s_Disk_write) (defBody s_Disk_write) (defScope s_Disk_write) [] [] f fd) (hb : Binds K fd ["self", "at", "block"] []) (hcm : mg "Disk" = some (.ref Ca)) (hcl : Cls K Ca) (M : Meth K Ca "write" f) : DMet P w K mg base (mR K mg) 4 "Disk" "write" ["self", "at", "block"] [] sp_Disk_write :=
  ⟨hm, f, fd, [], [], Ca, ddef F sc_Disk_write (fun cdv A outer s H E hr hgd => q_Disk_write T c_Disk_check_place c_is_block c_Disk_count_down hr hgd) h, hb, .nil, fun _ _ => .nil, hcm, hcl, M⟩
end
def sp_Disk_init : DSp MS := msp (fun p : Addr × Nat => [C.d (.hdl p.1), C.d (.int p.2)]) (fun p => (false, [(p.1, .obj "Disk" [] [])])) (fun p => 8 ≤ p.2 ∧ p.2 ≤ 400)
  (fun p x s => x = .non ∧ ∃ b w, p.1 ≠ b ∧ p.1 ≠ w ∧ b ≠ w ∧ s = dkS p.1 b w (List.replicate p.2 (List.replicate 32 0)) []) fun _ _ _ => False
section
abbrev s_Disk_init : Stmt := L2.inClass (top 12) 0
theorem sc_Disk_init : FnScope ["self", "blocks", "_"] ["self", "blocks"] (defScope s_Disk_init) := ⟨rfl, rfl, rfl, by decide +kernel, rfl, by decide +kernel, by decide +kernel⟩
def b_Disk_init : DS MS := (dSeq (dIf (dTNot (dTst (dChain oLe oLe (dC c_BLOCKS_LEAST) (dVar 1) (dC c_BLOCKS_MOST)))) (dRaise1 "OutOfRange" "name" (dC (.str "blocks"))) dNext)
  (dSeq (dFSetM "Disk" "_blocks" (dNew (dLc (dRng1 (dVar 1)) (gNm 2) dYes (dOpO oMulL (dOV (dLst (dCons (dC (.int 0)) dNil))) (dOV (dC c_BLOCK))) [2])) (dVar 0))
  (dSeq (dFSetM "Disk" "_waiting" (dNew (dLst dNil)) (dVar 0))
  (dSeq (dFSetM "Disk" "_cuts" (dC (.int 0)) (dVar 0))
  (dFSetM "Disk" "_schedule" (dC .non) (dVar 0))))))
theorem q_Disk_init {P : Program} {w : World} {K : PySem.W.Frag} {mg : Str → Option Value} {base : Heap} (T : Fx P w K mg) {fa : Addr} {cdv : Value} {A : Around} {outer : List Env} {s : Shared} {H : Hp} {E : XK}
    (hr : Room 1 (A.deeper (envOfC "Disk.__init__" (defScope s_Disk_init) s.heap.objs.size fa cdv))) (hgd : (A.deeper (envOfC "Disk.__init__" (defScope s_Disk_init) s.heap.objs.size fa cdv)).guards = some []) :
    ∃ ts, QSs (cxOf (L2.CX P w) P w K mg base ["self", "blocks", "_"] "Disk.__init__" (defScope s_Disk_init) fa cdv A outer s H E) none (mR K mg) (fun cls d _ H => E cls d H) (defBody s_Disk_init) ts b_Disk_init := by
  obtain ⟨CO, fO, TO⟩ := T.oor
  exact ⟨_, (ssc (sif (tnot (tchain op_leU sim_cmp op_leU sim_cmp (qglob T.g_BLOCKS_LEAST) (qv 1) (qglob T.g_BLOCKS_MOST))) (sso (sraiseOor rfl TO (hr.mono (by decide)) qstr)) ssn)
  (ssc (sfsetM T.of_Disk_blocks (qv 0) (qnew (qlcV (g := (gName 2)) (te := (tOp rMulV (tLst (tCons (tC (.int 0)) tNil)) (tGl K mg c_BLOCK))) [("_", 2)] sc_Disk_init.nd (ir1 T.z_range (qv 1)) (blkOk_by (N := ["self", "blocks", "_"]) (sc := defScope s_Disk_init) (by decide +kernel)) (fun _ _ _ _ _ => (gn 2 sc_Disk_init.nd)) (by decide) (fun _ _ _ _ _ => (qf (qrep (of (qlst (ac qint an))) (oe (qglob T.g_BLOCK))))))))
  (ssc (sfsetM T.of_Disk_waiting (qv 0) (qnew (qlst an)))
  (ssc (sfsetM T.of_Disk_cuts (qv 0) qint)
  (sso (sfsetM T.of_Disk_schedule (qv 0) qnon))))))⟩
theorem ok_Disk_init {P : Program} {w : World} {K : PySem.W.Frag} {mg : Str → Option Value} {base : Heap} (T : Fx P w K mg) (hm : MonoSp sp_Disk_init) (h : ∀ cs s Q E, sp_Disk_init cs s Q E → cs.length = 2 → b_Disk_init (finM Q E) s (args0 cs 3))
    {f Ca : Addr} {fd : FuncData} (F : FunD K "__init__" "Disk.__init__" (defArgs s_Disk_init) (defBody s_Disk_init) (defScope s_Disk_init) [] [] f fd) (hb : Binds K fd ["self", "blocks"] []) (hcm : mg "Disk" = some (.ref Ca)) (M : Mk K Ca f) : DMakM P w K mg base 2 "Disk" ["self", "blocks"] [] sp_Disk_init :=
  ⟨hm, f, fd, [], [], Ca, ddef F sc_Disk_init (fun cdv A outer s H E hr hgd => q_Disk_init T hr hgd) h, hb, .nil, fun _ _ => .nil, hcm, M⟩
end
def isH (b : List Int) : Prop := b.getD 0 0 = 72 ∧ b.getD 30 0 = b.getD 1 0 ∧ b.getD 31 0 = 72
instance (b : List Int) : Decidable (isH b) := by unfold isH; infer_instance
def newH (a b : List Int) : D := if isH a then (if isH b then (if b.getD 1 0 = (a.getD 1 0 + 1) % 256 then decH b else decH a) else decH a) else decH b
def sp_newest_head : DSp MS := msp (fun k : Dk => [C.d (.hdl k.o)]) Dk.st (fun k => k.ok ∧ 2 ≤ k.bs.length ∧ Blk (k.rd 0) ∧ Blk (k.rd 1)) (fun k x s => x = newH (k.rd 0) (k.rd 1) ∧ s = k.st) fun _ _ _ => False
section
abbrev s_newest_head : Stmt := top 33
theorem sc_newest_head : FnScope ["disk", "one", "two"] ["disk"] (defScope s_newest_head) := ⟨rfl, rfl, rfl, by decide +kernel, rfl, by decide +kernel, by decide +kernel⟩
def b_newest_head : DS MS := (dSeq (dAsg 1 (dCalP 1 sp_decode_head [] (dCons (dMetM "Disk" "read" 1 false sp_Disk_read [] (dVar 0) (dCons (dC (.int 0)) dNil)) dNil)))
  (dSeq (dAsg 2 (dCalP 1 sp_decode_head [] (dCons (dMetM "Disk" "read" 1 false sp_Disk_read [] (dVar 0) (dCons (dC (.int 1)) dNil)) dNil)))
  (dSeq (dIf (dTOr (dTst (dOpO (oIs false) (dOS 1) (dOV (dC .non)))) (dTst (dOpO (oIs false) (dOS 2) (dOV (dC .non))))) (dRet (dIfE (dTst (dOpO (oIs false) (dOS 1) (dOV (dC .non)))) (dVar 2) (dVar 1))) dNext)
  (dRet (dIfE (dTst (dOpO (oEq false) (dOV (dOpO oIx (dOS 2) (dOV (dC (.int 0))))) (dOV (dOpO oMod (dOV (dOpO oAdd (dOV (dOpO oIx (dOS 1) (dOV (dC (.int 0))))) (dOV (dC (.int 1))))) (dOV (dC c_GENERATIONS)))))) (dVar 2) (dVar 1))))))
theorem q_newest_head {P : Program} {w : World} {K : PySem.W.Frag} {mg : Str → Option Value} {base : Heap} (T : Fx P w K mg) (c_decode_head : DCal K mg P w base nul 2 "decode_head" ["block"] [] sp_decode_head) (c_Disk_read : DMet P w K mg base (mR K mg) 4 "Disk" "read" ["self", "at"] [] sp_Disk_read) {fa : Addr} {cdv : Value} {A : Around} {outer : List Env} {s : Shared} {H : Hp} {E : XK}
    (hr : Room 4 (A.deeper (envOfC "newest_head" (defScope s_newest_head) s.heap.objs.size fa cdv))) (hgd : (A.deeper (envOfC "newest_head" (defScope s_newest_head) s.heap.objs.size fa cdv)).guards = some []) :
    ∃ ts, QSs (cxOf (L2.CX P w) P w K mg base ["disk", "one", "two"] "newest_head" (defScope s_newest_head) fa cdv A outer s H E) none (mR K mg) (fun cls d _ H => E cls d H) (defBody s_newest_head) ts b_newest_head := by
  exact ⟨_, (ssc (sset 1 sc_newest_head.nd (qe_calP 1 c_decode_head hgd hr (by decide) (by rfl) (ac (qe_metM 1 false c_Disk_read hgd hr (by decide) (qv 0) (ac qint an) rfl) an) rfl))
  (ssc (sset 2 sc_newest_head.nd (qe_calP 1 c_decode_head hgd hr (by decide) (by rfl) (ac (qe_metM 1 false c_Disk_read hgd hr (by decide) (qv 0) (ac qint an) rfl) an) rfl))
  (ssc (sif (tw (wor (tcmp op_isU sim_is (ov 1) (oe qnon) (nomark _)) (wor1 (tcmp op_isU sim_is (ov 2) (oe qnon) (nomark _))))) (sso (sret (qif (tcmp op_isU sim_is (ov 1) (oe qnon) (nomark _)) (qv 2) (qv 1)))) ssn)
  (sso (sret (qif (tcmp (op_eqU (hu64 hr)) sim_eq (oe (qix (ov 2) (oe qint))) (oe (qbin op_mod sim_mod (oe (qbin op_addU sim_add (oe (qix (ov 1) (oe qint))) (oe qint))) (oe (qglob T.g_GENERATIONS)))) (nomark _)) (qv 2) (qv 1)))))))⟩
theorem ok_newest_head {P : Program} {w : World} {K : PySem.W.Frag} {mg : Str → Option Value} {base : Heap} (T : Fx P w K mg) (c_decode_head : DCal K mg P w base nul 2 "decode_head" ["block"] [] sp_decode_head) (c_Disk_read : DMet P w K mg base (mR K mg) 4 "Disk" "read" ["self", "at"] [] sp_Disk_read) (hm : MonoSp sp_newest_head) (h : ∀ cs s Q E, sp_newest_head cs s Q E → cs.length = 1 → b_newest_head (finM Q E) s (args0 cs 3))
    {f : Addr} {fd : FuncData} (F : FunD K "newest_head" "newest_head" (defArgs s_newest_head) (defBody s_newest_head) (defScope s_newest_head) [] [] f fd) (hb : Binds K fd ["disk"] []) (hg : mg "newest_head" = some (.ref f)) (hk : PySem.W.keepIn K (.ref f) = true) : DCal K mg P w base (mR K mg) 5 "newest_head" ["disk"] [] sp_newest_head :=
  ⟨hm, f, fd, [], [], ddef F sc_newest_head (fun cdv A outer s H E hr hgd => q_newest_head T c_decode_head c_Disk_read hr hgd) h, hb, .nil, fun _ _ => .nil, hg, hk⟩
end
def sp__law_newest : DSp MS := msp (fun p : List Int × List Int => [C.d (blD p.1), C.d (blD p.2)]) (fun _ => (false, [])) (fun p => (p.1.length = 32 ∧ Byt p.1) ∧ p.2.length = 32 ∧ Byt p.2) (fun p x _ => x = newH p.1 p.2) fun _ _ _ => False
section
abbrev s__law_newest : Stmt := top 39
theorem sc__law_newest : FnScope ["one", "two", "disk"] ["one", "two"] (defScope s__law_newest) := ⟨rfl, rfl, rfl, by decide +kernel, rfl, by decide +kernel, by decide +kernel⟩
def b__law_newest : DS MS := (dSeq (dAsg 2 (dMakeM "Disk" 1 false sp_Disk_init [] (dCons (dC (.int 8)) dNil)))
  (dSeq (dDrop (dMetM "Disk" "write" 2 false sp_Disk_write [] (dVar 2) (dCons (dC (.int 0)) (dCons (dVar 0) dNil))))
  (dSeq (dDrop (dMetM "Disk" "write" 2 false sp_Disk_write [] (dVar 2) (dCons (dC (.int 1)) (dCons (dVar 1) dNil))))
  (dRet (dCalM 1 false sp_newest_head [] (dCons (dVar 2) dNil))))))
theorem q__law_newest {P : Program} {w : World} {K : PySem.W.Frag} {mg : Str → Option Value} {base : Heap} (T : Fx P w K mg) (c_Disk_init : DMakM P w K mg base 2 "Disk" ["self", "blocks"] [] sp_Disk_init) (c_Disk_write : DMet P w K mg base (mR K mg) 4 "Disk" "write" ["self", "at", "block"] [] sp_Disk_write) (c_newest_head : DCal K mg P w base (mR K mg) 5 "newest_head" ["disk"] [] sp_newest_head) {fa : Addr} {cdv : Value} {A : Around} {outer : List Env} {s : Shared} {H : Hp} {E : XK}
    (hr : Room 5 (A.deeper (envOfC "_law_newest" (defScope s__law_newest) s.heap.objs.size fa cdv))) (hgd : (A.deeper (envOfC "_law_newest" (defScope s__law_newest) s.heap.objs.size fa cdv)).guards = some []) :
    ∃ ts, QSs (cxOf (L2.CX P w) P w K mg base ["one", "two", "disk"] "_law_newest" (defScope s__law_newest) fa cdv A outer s H E) none (mR K mg) (fun cls d _ H => E cls d H) (defBody s__law_newest) ts b__law_newest := by
  exact ⟨_, (ssc (sset 2 sc__law_newest.nd (qe_makeM 1 false c_Disk_init hgd hr (by decide) (by rfl) (ac qint an) rfl))
  (ssc (sexpr (qe_metM 2 false c_Disk_write hgd hr (by decide) (qv 2) (ac qint (ac (qv 0) an)) rfl))
  (ssc (sexpr (qe_metM 2 false c_Disk_write hgd hr (by decide) (qv 2) (ac qint (ac (qv 1) an)) rfl))
  (sso (sret (qe_calM 1 false c_newest_head hgd hr (by decide) (by rfl) (ac (qv 2) an) rfl))))))⟩
theorem ok__law_newest {P : Program} {w : World} {K : PySem.W.Frag} {mg : Str → Option Value} {base : Heap} (T : Fx P w K mg) (c_Disk_init : DMakM P w K mg base 2 "Disk" ["self", "blocks"] [] sp_Disk_init) (c_Disk_write : DMet P w K mg base (mR K mg) 4 "Disk" "write" ["self", "at", "block"] [] sp_Disk_write) (c_newest_head : DCal K mg P w base (mR K mg) 5 "newest_head" ["disk"] [] sp_newest_head) (hm : MonoSp sp__law_newest) (h : ∀ cs s Q E, sp__law_newest cs s Q E → cs.length = 2 → b__law_newest (finM Q E) s (args0 cs 3))
    {f : Addr} {fd : FuncData} (F : FunD K "_law_newest" "_law_newest" (defArgs s__law_newest) (defBody s__law_newest) (defScope s__law_newest) [] [] f fd) (hb : Binds K fd ["one", "two"] []) (hg : mg "_law_newest" = some (.ref f)) (hk : PySem.W.keepIn K (.ref f) = true) : DCal K mg P w base (mR K mg) 6 "_law_newest" ["one", "two"] [] sp__law_newest :=
  ⟨hm, f, fd, [], [], ddef F sc__law_newest (fun cdv A outer s H E hr hgd => q__law_newest T c_Disk_init c_Disk_write c_newest_head hr hgd) h, hb, .nil, fun _ _ => .nil, hg, hk⟩
end
section
abbrev s_law : Stmt := top 40
theorem sc_law : FnScope ["script", "box", "rows", "block", "zeros", "generation", "base", "old", "middle", "new", "older", "current", "newer", "many", "torn", "told", "due", "parts", "again"] ["script"] (defScope s_law) := ⟨rfl, rfl, rfl, by decide +kernel, rfl, by decide +kernel, by decide +kernel⟩
def r_law_11 : DS Unit := (dSeq (dFor (dRng1 (dC (.int 33))) (gNm 13) (dSeq (dIf (dTst (dOpO (oEq true) (dOV (dOpO (oIs false) (dOV (dCalP 1 sp_decode_piece [] (dCons (dOpO oAdd (dOV (dSl (dOS 3) dpN (dpS (dVar 13)))) (dOV (dSl (dOS 4) (dpS (dVar 13)) dpN))) dNil))) (dOV (dC .non)))) (dOV (dOpO oLt (dOS 13) (dOV (dC (.int 32))))))) (dRet (dC (.bl false))) dNext)
  (dSeq (dIf (dTst (dOpO (oEq true) (dOV (dOpO (oIs false) (dOV (dCalP 1 sp_decode_piece [] (dCons (dOpO oAdd (dOV (dSl (dOS 4) dpN (dpS (dVar 13)))) (dOV (dSl (dOS 3) (dpS (dVar 13)) dpN))) dNil))) (dOV (dC .non)))) (dOV (dOpO oGt (dOS 13) (dOV (dC (.int 0))))))) (dRet (dC (.bl false))) dNext)
  (dSeq (dAsg 14 (dOpO oAdd (dOV (dSl (dOS 12) dpN (dpS (dVar 13)))) (dOV (dSl (dOS 10) (dpS (dVar 13)) dpN))))
  (dSeq (dAsg 15 (dCalP 1 sp_decode_head [] (dCons (dVar 14) dNil)))
  (dSeq (dIf (dTOr (dTAnd (dTst (dOpO oLt (dOS 13) (dOV (dC (.int 2))))) (dTst (dOpO (oEq true) (dOS 15) (dOS 7)))) (dTOr (dTAnd (dTst (dOpO oGe (dOS 13) (dOV (dC (.int 31))))) (dTst (dOpO (oEq true) (dOS 15) (dOS 9)))) (dTAnd (dTst (dChain oLe oLt (dC (.int 2)) (dVar 13) (dC (.int 31)))) (dTst (dOpO (oIs true) (dOS 15) (dOV (dC .non))))))) (dRet (dC (.bl false))) dNext)
  (dSeq (dAsg 16 (dVar 8))
  (dSeq (dIf (dTst (dOpO oGe (dOS 13) (dOV (dC (.int 31))))) (dAsg 16 (dVar 9)) dNext)
  (dSeq (dAsg 17 (dLst (dCons (dVar 14) (dCons (dVar 11) dNil))))
  (dSeq (dIf (dTst (dOpO (oEq false) (dOV (dOpO oMod (dOV (dUnO oInt (dOS 5))) (dOV (dC (.int 2))))) (dOV (dC (.int 1))))) (dAsg 17 (dLst (dCons (dVar 11) (dCons (dVar 14) dNil)))) dNext)
  (dIf (dTst (dOpO (oEq true) (dOV (dCalN 2 sp__law_newest [] (dCons (dOpO oIx (dOS 17) (dOV (dC (.int 0)))) (dCons (dOpO oIx (dOS 17) (dOV (dC (.int 1)))) dNil)))) (dOS 16))) (dRet (dC (.bl false))) dNext)))))))))))
  (dSeq (dAsg 18 (dCalP 3 sp_encode_head [] (dCons (dVar 5) (dCons (dOpO oAdd (dOS 6) (dOV (dC (.int 1)))) (dCons (dOpO oIx (dOS 7) (dOV (dC (.int 2)))) dNil)))))
  (dSeq (dIf (dTOr (dTst (dOpO (oEq true) (dOV (dCalN 2 sp__law_newest [] (dCons (dVar 10) (dCons (dVar 12) dNil)))) (dOS 7))) (dTOr (dTst (dOpO (oEq true) (dOV (dCalN 2 sp__law_newest [] (dCons (dVar 12) (dCons (dVar 10) dNil)))) (dOS 9))) (dTst (dOpO (oEq true) (dOV (dCalN 2 sp__law_newest [] (dCons (dVar 10) (dCons (dVar 18) dNil)))) (dOS 7))))) (dRet (dC (.bl false))) dNext)
  (dSeq (dIf (dTOr (dTst (dOpO (oIs true) (dOV (dCalP 1 sp_decode_head [] (dCons (dVar 4) dNil))) (dOV (dC .non)))) (dTOr (dTst (dOpO (oIs true) (dOV (dCalP 1 sp_decode_piece [] (dCons (dVar 10) dNil))) (dOV (dC .non)))) (dTst (dOpO (oIs true) (dOV (dCalP 1 sp_decode_head [] (dCons (dVar 3) dNil))) (dOV (dC .non)))))) (dRet (dC (.bl false))) dNext)
  (dRet (dAnd (dOpO (oIs false) (dOV (dCalN 2 sp__law_newest [] (dCons (dVar 4) (dCons (dVar 4) dNil)))) (dOV (dC .non))) (dAnd (dOpO (oEq false) (dOV (dCalN 2 sp__law_newest [] (dCons (dVar 4) (dCons (dVar 11) dNil)))) (dOS 8)) (dOpO (oEq false) (dOV (dCalN 2 sp__law_newest [] (dCons (dVar 11) (dCons (dVar 4) dNil)))) (dOS 8)))))))))
def b_law : DS Unit := (dSeq (dAsg 2 (dCalP 3 sp_encode_record [] (dCons (dC (.int 77)) (dCons (dCal 2 sp__law_draw [] (dConsV 1 (dCons (dC (.int 1000)) dNil))) (dCons (dCal 2 sp__law_stored_text [] (dConsV 1 (dCons (dCal 2 sp__law_draw [] (dConsV 1 (dCons (dC (.int 60)) dNil))) dNil))) dNil)))))
  (dSeq (dAsg 3 (dOpO oIx (dOS 2) (dOV (dCal 2 sp__law_draw [] (dConsV 1 (dCons (dUnO oLen (dOS 2)) dNil))))))
  (dSeq (dAsg 4 (dOpO oMulL (dOV (dLst (dCons (dC (.int 0)) dNil))) (dOV (dC (.int 32)))))
  (dSeq (dAsg 5 (dCal 2 sp__law_draw [] (dConsV 1 (dCons (dC (.int 256)) dNil))))
  (dSeq (dAsg 6 (dOpO oMulV (dOV (dCal 2 sp__law_draw [] (dConsV 1 (dCons (dC (.int 90)) dNil)))) (dOV (dC (.int 1000)))))
  (dSeq (dAsg 7 (dTup (dCons (dVar 5) (dCons (dVar 6) (dCons (dCal 2 sp__law_draw [] (dConsV 1 (dCons (dC (.int 41)) dNil))) dNil)))))
  (dSeq (dAsg 8 (dTup (dCons (dOpO oMod (dOV (dUnO oInt (dOV (dOpO oAdd (dOS 5) (dOV (dC (.int 1))))))) (dOV (dC (.int 256)))) (dCons (dOpO oAdd (dOS 6) (dOV (dCal 2 sp__law_draw [] (dConsV 1 (dCons (dC (.int 200)) dNil))))) (dCons (dCal 2 sp__law_draw [] (dConsV 1 (dCons (dC (.int 41)) dNil))) dNil)))))
  (dSeq (dAsg 9 (dTup (dCons (dOpO oMod (dOV (dUnO oInt (dOV (dOpO oAdd (dOS 5) (dOV (dC (.int 2))))))) (dOV (dC (.int 256)))) (dCons (dOpO oAdd (dOV (dOpO oIx (dOS 8) (dOV (dC (.int 1))))) (dOV (dCal 2 sp__law_draw [] (dConsV 1 (dCons (dC (.int 200)) dNil))))) (dCons (dCal 2 sp__law_draw [] (dConsV 1 (dCons (dC (.int 41)) dNil))) dNil)))))
  (dSeq (dAsg 10 (dCalP 3 sp_encode_head [] (dCons (dOpO oIx (dOS 7) (dOV (dC (.int 0)))) (dCons (dOpO oIx (dOS 7) (dOV (dC (.int 1)))) (dCons (dOpO oIx (dOS 7) (dOV (dC (.int 2)))) dNil)))))
  (dSeq (dAsg 11 (dCalP 3 sp_encode_head [] (dCons (dOpO oIx (dOS 8) (dOV (dC (.int 0)))) (dCons (dOpO oIx (dOS 8) (dOV (dC (.int 1)))) (dCons (dOpO oIx (dOS 8) (dOV (dC (.int 2)))) dNil)))))
  (dSeq (dAsg 12 (dCalP 3 sp_encode_head [] (dCons (dOpO oIx (dOS 9) (dOV (dC (.int 0)))) (dCons (dOpO oIx (dOS 9) (dOV (dC (.int 1)))) (dCons (dOpO oIx (dOS 9) (dOV (dC (.int 2)))) dNil)))))
  r_law_11)))))))))))
def rest_law : List Stmt := (defBody s_law).tail
theorem q_law {P : Program} {w : World} {K : PySem.W.Frag} {mg : Str → Option Value} {base : Heap} (T : Fx P w K mg) (c_encode_record : DCal K mg P w base nul 3 "encode_record" ["mark", "number", "text"] [] sp_encode_record) (c__law_stored_text : DCal K mg P w base box 2 "_law_stored_text" ["box", "many"] [] sp__law_stored_text) (c__law_draw : DCal K mg P w base box 1 "_law_draw" ["box", "many"] [] sp__law_draw) (c_encode_head : DCal K mg P w base nul 3 "encode_head" ["generation", "base", "many"] [] sp_encode_head) (c_decode_piece : DCal K mg P w base nul 3 "decode_piece" ["block"] [] sp_decode_piece) (c_decode_head : DCal K mg P w base nul 2 "decode_head" ["block"] [] sp_decode_head) (c__law_newest : DCal K mg P w base (mR K mg) 6 "_law_newest" ["one", "two"] [] sp__law_newest) {fa : Addr} {cdv : Value} {A : Around} {outer : List Env} {s : Shared} {H : Hp} {E : XK}
    (hr : Room 6 (A.deeper (envOfC "law" (defScope s_law) s.heap.objs.size fa cdv))) (hgd : (A.deeper (envOfC "law" (defScope s_law) s.heap.objs.size fa cdv)).guards = some []) :
    ∃ ts, QSs (cxOf CX0 P w K mg base ["script", "box", "rows", "block", "zeros", "generation", "base", "old", "middle", "new", "older", "current", "newer", "many", "torn", "told", "due", "parts", "again"] "law" (defScope s_law) fa cdv A outer s H E) none box WF rest_law ts b_law := by
  exact ⟨_, (ssc (sset 2 sc_law.nd (qe_calP 3 c_encode_record hgd hr (by decide) (by rfl) (ac qint (ac (qe_cal 2 c__law_draw hgd hr (by decide) (by rfl) (av 1 (ac qint an)) rfl) (ac (qe_cal 2 c__law_stored_text hgd hr (by decide) (by rfl) (av 1 (ac (qe_cal 2 c__law_draw hgd hr (by decide) (by rfl) (av 1 (ac qint an)) rfl) an)) rfl) an))) rfl))
  (ssc (sset 3 sc_law.nd (qix (ov 2) (oe (qe_cal 2 c__law_draw hgd hr (by decide) (by rfl) (av 1 (ac (qbi call_lenU sim_len T.z_len (by decide +kernel) (ov 2)) an)) rfl))))
  (ssc (sset 4 sc_law.nd (qf (qrep (of (qlst (ac qint an))) (oe qint))))
  (ssc (sset 5 sc_law.nd (qe_cal 2 c__law_draw hgd hr (by decide) (by rfl) (av 1 (ac qint an)) rfl))
  (ssc (sset 6 sc_law.nd (qbin op_mulV sim_mulV (oe (qe_cal 2 c__law_draw hgd hr (by decide) (by rfl) (av 1 (ac qint an)) rfl)) (oe qint)))
  (ssc (sset 7 sc_law.nd (qtup (ac (qv 5) (ac (qv 6) (ac (qe_cal 2 c__law_draw hgd hr (by decide) (by rfl) (av 1 (ac qint an)) rfl) an)))))
  (ssc (sset 8 sc_law.nd (qtup (ac (qbin op_mod sim_mod (oe (qty call_intU sim_int T.z_int (by decide +kernel) (oe (qbin op_addU sim_add (ov 5) (oe qint))))) (oe qint)) (ac (qbin op_addU sim_add (ov 6) (oe (qe_cal 2 c__law_draw hgd hr (by decide) (by rfl) (av 1 (ac qint an)) rfl))) (ac (qe_cal 2 c__law_draw hgd hr (by decide) (by rfl) (av 1 (ac qint an)) rfl) an)))))
  (ssc (sset 9 sc_law.nd (qtup (ac (qbin op_mod sim_mod (oe (qty call_intU sim_int T.z_int (by decide +kernel) (oe (qbin op_addU sim_add (ov 5) (oe qint))))) (oe qint)) (ac (qbin op_addU sim_add (oe (qix (ov 8) (oe qint))) (oe (qe_cal 2 c__law_draw hgd hr (by decide) (by rfl) (av 1 (ac qint an)) rfl))) (ac (qe_cal 2 c__law_draw hgd hr (by decide) (by rfl) (av 1 (ac qint an)) rfl) an)))))
  (ssc (sset 10 sc_law.nd (qe_calP 3 c_encode_head hgd hr (by decide) (by rfl) (ac (qix (ov 7) (oe qint)) (ac (qix (ov 7) (oe qint)) (ac (qix (ov 7) (oe qint)) an))) rfl))
  (ssc (sset 11 sc_law.nd (qe_calP 3 c_encode_head hgd hr (by decide) (by rfl) (ac (qix (ov 8) (oe qint)) (ac (qix (ov 8) (oe qint)) (ac (qix (ov 8) (oe qint)) an))) rfl))
  (ssc (sset 12 sc_law.nd (qe_calP 3 c_encode_head hgd hr (by decide) (by rfl) (ac (qix (ov 9) (oe qint)) (ac (qix (ov 9) (oe qint)) (ac (qix (ov 9) (oe qint)) an))) rfl))
  (ssc (sfor (ir1 T.z_range qint) (gn 13 sc_law.nd) (ssc (sif (tcmp (op_neU (hu64 hr)) sim_eq (oe (qcmp op_isU sim_is (oe (qe_calP 1 c_decode_piece hgd hr (by decide) (by rfl) (ac (qbin op_addU sim_add (oe (qsl (ov 3) pn (psm (qv 13)))) (oe (qsl (ov 4) (psm (qv 13)) pn))) an) rfl)) (oe qnon) (nomark _))) (oe (qcmp (op_ltU (hu65 hr)) sim_lt (ov 13) (oe qint) (nomark _))) (nomark _)) (sso (sret qbl)) ssn)
  (ssc (sif (tcmp (op_neU (hu64 hr)) sim_eq (oe (qcmp op_isU sim_is (oe (qe_calP 1 c_decode_piece hgd hr (by decide) (by rfl) (ac (qbin op_addU sim_add (oe (qsl (ov 4) pn (psm (qv 13)))) (oe (qsl (ov 3) (psm (qv 13)) pn))) an) rfl)) (oe qnon) (nomark _))) (oe (qcmp op_gtU sim_cmp (ov 13) (oe qint) (nomark _))) (nomark _)) (sso (sret qbl)) ssn)
  (ssc (sset 14 sc_law.nd (qbin op_addU sim_add (oe (qsl (ov 12) pn (psm (qv 13)))) (oe (qsl (ov 10) (psm (qv 13)) pn))))
  (ssc (sset 15 sc_law.nd (qe_calP 1 c_decode_head hgd hr (by decide) (by rfl) (ac (qv 14) an) rfl))
  (ssc (sif (tw (wor (tw (wand (tcmp (op_ltU (hu65 hr)) sim_lt (ov 13) (oe qint) (nomark _)) (wand1 (tcmp (op_neU (hu64 hr)) sim_eq (ov 15) (ov 7) (nomark _))))) (wor (tw (wand (tcmp op_geU sim_cmp (ov 13) (oe qint) (nomark _)) (wand1 (tcmp (op_neU (hu64 hr)) sim_eq (ov 15) (ov 9) (nomark _))))) (wor1 (tw (wand (tchain op_leU sim_cmp (op_ltU (hu65 hr)) sim_lt qint (qv 13) qint) (wand1 (tcmp op_isnotU sim_is (ov 15) (oe qnon) (nomark _))))))))) (sso (sret qbl)) ssn)
  (ssc (sset 16 sc_law.nd (qv 8))
  (ssc (sif (tcmp op_geU sim_cmp (ov 13) (oe qint) (nomark _)) (sso (sset 16 sc_law.nd (qv 9))) ssn)
  (ssc (sset 17 sc_law.nd (qf (qlst (ac (qv 14) (ac (qv 11) an)))))
  (ssc (sif (tcmp (op_eqU (hu64 hr)) sim_eq (oe (qbin op_mod sim_mod (oe (qty call_intU sim_int T.z_int (by decide +kernel) (ov 5))) (oe qint))) (oe qint) (nomark _)) (sso (sset 17 sc_law.nd (qf (qlst (ac (qv 11) (ac (qv 14) an)))))) ssn)
  (sso (sif (tcmp (op_neU (hu64 hr)) sim_eq (oe (qe_calN 2 c__law_newest hgd hr (by decide) (by rfl) (ac (qix (ov 17) (oe qint)) (ac (qix (ov 17) (oe qint)) an)) rfl)) (ov 16) (nomark _)) (sso (sret qbl)) ssn))))))))))))
  (ssc (sset 18 sc_law.nd (qe_calP 3 c_encode_head hgd hr (by decide) (by rfl) (ac (qv 5) (ac (qbin op_addU sim_add (ov 6) (oe qint)) (ac (qix (ov 7) (oe qint)) an))) rfl))
  (ssc (sif (tw (wor (tcmp (op_neU (hu64 hr)) sim_eq (oe (qe_calN 2 c__law_newest hgd hr (by decide) (by rfl) (ac (qv 10) (ac (qv 12) an)) rfl)) (ov 7) (nomark _)) (wor (tcmp (op_neU (hu64 hr)) sim_eq (oe (qe_calN 2 c__law_newest hgd hr (by decide) (by rfl) (ac (qv 12) (ac (qv 10) an)) rfl)) (ov 9) (nomark _)) (wor1 (tcmp (op_neU (hu64 hr)) sim_eq (oe (qe_calN 2 c__law_newest hgd hr (by decide) (by rfl) (ac (qv 10) (ac (qv 18) an)) rfl)) (ov 7) (nomark _)))))) (sso (sret qbl)) ssn)
  (ssc (sif (tw (wor (tcmp op_isnotU sim_is (oe (qe_calP 1 c_decode_head hgd hr (by decide) (by rfl) (ac (qv 4) an) rfl)) (oe qnon) (nomark _)) (wor (tcmp op_isnotU sim_is (oe (qe_calP 1 c_decode_piece hgd hr (by decide) (by rfl) (ac (qv 10) an) rfl)) (oe qnon) (nomark _)) (wor1 (tcmp op_isnotU sim_is (oe (qe_calP 1 c_decode_head hgd hr (by decide) (by rfl) (ac (qv 3) an) rfl)) (oe qnon) (nomark _)))))) (sso (sret qbl)) ssn)
  (sso (sret (qand (qcmp op_isU sim_is (oe (qe_calN 2 c__law_newest hgd hr (by decide) (by rfl) (ac (qv 4) (ac (qv 4) an)) rfl)) (oe qnon) (nomark _)) (qand (qcmp (op_eqU (hu64 hr)) sim_eq (oe (qe_calN 2 c__law_newest hgd hr (by decide) (by rfl) (ac (qv 4) (ac (qv 11) an)) rfl)) (ov 8) (nomark _)) (qone (qcmp (op_eqU (hu64 hr)) sim_eq (oe (qe_calN 2 c__law_newest hgd hr (by decide) (by rfl) (ac (qv 11) (ac (qv 4) an)) rfl)) (ov 8) (nomark _))))))))))))))))))))))⟩
end
end Lk61


set_option linter.all false
set_option maxRecDepth 100000
set_option maxHeartbeats 4000000
namespace Lk61
open PySem PySem.Spec PyProof.Rows L2 GR N01 RZ DL
theorem bools_t {α : Type} (b : List α) : boolsD (b.map fun _ => D.bl true) = some (b.map fun _ => true) := by
  induction b with
  | nil => rfl
  | cons x b ih => rw [List.map_cons, boolsD, ih]; rfl
theorem h_is_block : ∀ cs s Q E, sp_is_block cs s Q E → cs.length = 1 → b_is_block (fin Q E) s (args0 cs 2) := by
  rintro cs ⟨⟩ Q E ⟨b, rfl, ⟨h1, h2⟩, q⟩ _
  have q : Q (.bl true) () := q
  simp [b_is_block, h1]
  refine turns_mapE D.int (fun c => .bl true) _ _ (fun c hc P hP => ?_) ?_
  · have := h2 c hc
    simp [this.1, this.2]
    exact hP _ rfl
  refine ⟨b.map fun _ => true, by simp; exact bools_t b, ?_⟩
  have e : (b.map fun _ => true).all id = true := by simp
  simp
  have e : (b.all fun x => true) = true := by simp
  rw [e]
  exact q
section
variable {k : Dk}
theorem Dk.lo (h : k.ok) : lkS k.st.2 k.o = some (.obj "Disk" ["_blocks", "_waiting", "_cuts", "_schedule"] [.hdl k.b, .hdl k.w, .int 0, .non]) := by
  obtain ⟨h1, h2, h3, _⟩ := h
  show lkS [(k.w, _), (k.b, _), (k.o, _)] k.o = _
  simp [h1, h2, dkO]
theorem Dk.lb (h : k.ok) : lkS k.st.2 k.b = some (.lst (k.bs.map blD)) := by
  obtain ⟨h1, h2, h3, _⟩ := h
  show lkS [(k.w, _), (k.b, _), (k.o, _)] k.b = _
  simp [h3]
theorem Dk.lw (h : k.ok) : lkS k.st.2 k.w = some (.lst (k.ws.map wtD)) := by
  show lkS [(k.w, _), (k.b, _), (k.o, _)] k.w = _
  simp
end
theorem h_Disk_size : ∀ cs s Q E, sp_Disk_size cs s Q E → cs.length = 1 → b_Disk_size (finM Q E) s (args0 cs 1) := by
  rintro cs s Q E ⟨k, rfl, rfl, hk, q, _⟩ _
  simp [b_Disk_size, Dk.lo hk, Dk.lb hk]
  exact q _ _ ⟨rfl, rfl⟩
theorem h_Disk_check_place : ∀ cs s Q E, sp_Disk_check_place cs s Q E → cs.length = 2 → b_Disk_check_place (finM Q E) s (args0 cs 2) := by
  rintro cs s Q E ⟨⟨k, i⟩, rfl, rfl, ⟨hk, hi⟩, q, _⟩ _
  have hk : k.ok := hk
  have hi : i < k.bs.length := hi
  simp [b_Disk_check_place, Dk.lo hk]
  refine frm_all k rfl rfl rfl hk (fun x s2 z => ?_) (fun _ _ z => z.elim)
  obtain ⟨rfl, rfl⟩ := z
  refine ⟨rfl, ?_⟩
  simp
  rw [if_neg (by omega)]
  exact q _ _ ⟨rfl, rfl⟩
theorem h_Disk_count_down : ∀ cs s Q E, sp_Disk_count_down cs s Q E → cs.length = 1 → b_Disk_count_down (finM Q E) s (args0 cs 3) := by
  rintro cs s Q E ⟨k, rfl, rfl, hk, q, _⟩ _
  simp [b_Disk_count_down, Dk.lo hk]
  exact q _ _ ⟨rfl, rfl⟩
theorem rd_loop {k : Dk} (hk : k.ok) {i : Nat} {DE : DEnds MS} : ∀ (ws : List (Int × List Int)) (l : List Int) (a b : Option C), (∀ a b, DE.nx k.st [some (C.d (.hdl k.o)), some (.d (.int i)), some (.d (blD (wAt l i ws))), a, b]) →
    dLoopM k.w (k.ws.map wtD) (gTp [3, 4]) (dIf (dTst (dOpO (oEq false) (dOS 3) (dOS 1))) (dAsg 2 (dVar 4)) dNext) (ws.map wtD) DE k.st [some (C.d (.hdl k.o)), some (.d (.int i)), some (.d (blD l)), a, b]
  | [], l, a, b, h => ⟨Dk.lw hk, h a b⟩
  | p :: ws, l, a, b, h => by
    refine ⟨Dk.lw hk, ?_⟩
    simp [wtD]
    by_cases e : p.1 = i
    · rw [if_pos e]
      refine rd_loop hk ws p.2 _ _ ?_
      rw [wAt, if_pos e] at h
      exact h
    · rw [if_neg e]
      refine rd_loop hk ws l _ _ ?_
      rw [wAt, if_neg e] at h
      exact h
theorem h_Disk_read : ∀ cs s Q E, sp_Disk_read cs s Q E → cs.length = 2 → b_Disk_read (finM Q E) s (args0 cs 5) := by
  rintro cs s Q E ⟨⟨k, i⟩, rfl, rfl, ⟨hk, hi⟩, q, _⟩ _
  have hk : k.ok := hk
  have hi : i < k.bs.length := hi
  simp [b_Disk_read, Dk.lo hk]
  refine frm_all (k, i) rfl rfl rfl ⟨hk, hi⟩ (fun x s2 z => ?_) (fun _ _ z => z.elim)
  obtain ⟨rfl, rfl⟩ := z
  refine ⟨rfl, ?_⟩
  simp [Dk.lo hk, Dk.lb hk, Dk.lw hk]
  refine ⟨_, ⟨_, by rw [atI_nat' hi]; exact List.getElem?_eq_getElem hi, rfl⟩, rd_loop hk k.ws _ _ _ fun a b => ?_⟩
  simp [blD]
  refine q _ _ ⟨?_, rfl⟩
  show _ = blD (wAt (k.bs.getD i []) i k.ws)
  rw [List.getD_eq_getElem?_getD, List.getElem?_eq_getElem hi]
  rfl
theorem h_Disk_write : ∀ cs s Q E, sp_Disk_write cs s Q E → cs.length = 3 → b_Disk_write (finM Q E) s (args0 cs 3) := by
  rintro cs s Q E ⟨⟨k, i, l⟩, rfl, rfl, ⟨hk, hi, hl⟩, q, _⟩ _
  have hk : k.ok := hk
  have hi : i < k.bs.length := hi
  have hl : l.length = 32 ∧ Byt l := hl
  simp [b_Disk_write, Dk.lo hk]
  refine frm_all (k, i) rfl rfl rfl ⟨hk, hi⟩ (fun x s2 z => ?_) (fun _ _ z => z.elim)
  obtain ⟨rfl, rfl⟩ := z
  refine ⟨rfl, ?_⟩
  simp [Dk.lo hk, Dk.lb hk, Dk.lw hk]
  refine ⟨l, rfl, hl, ?_⟩
  dsimp only
  simp [Dk.lo hk]
  refine frm_all k rfl rfl rfl hk (fun x s2 z => ?_) (fun _ _ z => z.elim)
  obtain ⟨rfl, rfl⟩ := z
  refine ⟨rfl, ?_⟩
  dsimp only
  simp [Dk.lo hk, Dk.lb hk, Dk.lw hk]
  rw [show blD l = D.lst (intsD l) from rfl]
  simp [Dk.lo hk, Dk.lb hk, Dk.lw hk]
  refine ⟨by have := hk.2.2.2.2; omega, q _ _ ⟨rfl, ?_⟩⟩
  show (false, setS [(k.w, _), (k.b, _), (k.o, _)] k.w _) = _
  rw [setS_c, if_pos rfl]
  show _ = dkS k.o k.b k.w k.bs (k.ws ++ [((i : Int), l)])
  unfold dkS
  rw [List.map_append]
  rfl
theorem rep_bl {n : Nat} : (List.range n).map (fun _ => blD (List.replicate 32 0)) = (List.replicate n (List.replicate 32 0)).map blD := by
  rw [List.map_replicate, List.eq_replicate_iff]
  exact ⟨by simp, fun x hx => by obtain ⟨_, _, rfl⟩ := List.mem_map.mp hx; rfl⟩
theorem h_Disk_init : ∀ cs s Q E, sp_Disk_init cs s Q E → cs.length = 2 → b_Disk_init (finM Q E) s (args0 cs 3) := by
  rintro cs s Q E ⟨⟨o, n⟩, rfl, rfl, ⟨h1, h2⟩, q, _⟩ _
  have h1 : 8 ≤ n := h1
  have h2 : n ≤ 400 := h2
  simp [b_Disk_init]
  rw [if_pos (by omega), if_neg (by omega)]
  refine ⟨by omega, by rw [rangeD_len]; omega, ?_⟩
  refine turns_map (fun _ => blD (List.replicate 32 0)) _ _ (fun x hx P hP => ?_) ?_
  · simp [repD_one]
    exact hP _ rfl
  rw [List.nil_append]
  have e : (rangeD 0 n).map (fun _ => blD (List.replicate 32 0)) = (List.replicate n (List.replicate 32 0)).map blD := by
    rw [List.map_replicate, List.eq_replicate_iff]
    exact ⟨by simp [rangeD_len], fun x hx => by obtain ⟨_, _, rfl⟩ := List.mem_map.mp hx; rfl⟩
  rw [e]
  generalize hBS : (List.replicate n (List.replicate 32 (0 : Int))) = BS at q ⊢
  simp
  refine newI_of fun b hb => ?_
  have nb : b ≠ o := fun e => by simp [e] at hb
  simp [nb, Ne.symm nb]
  refine newI_of fun w hw => ?_
  have nw : w ≠ b := fun e => by simp [e] at hw
  have no : w ≠ o := fun e => by simp [e, Ne.symm nb] at hw
  simp [nb, Ne.symm nb, nw, Ne.symm nw, no, Ne.symm no]
  exact q _ _ ⟨rfl, b, w, Ne.symm nb, Ne.symm no, Ne.symm nw, by rw [hBS]; try rfl⟩
def hdD (b : List Int) : D := .tup [.int (b.getD 1 0), .int ((b.getD 2 0 * 256 + b.getD 3 0) * 256 + b.getD 4 0), .int (b.getD 5 0)]
theorem decH_t {b : List Int} (h : isH b) : decH b = hdD b := if_pos h
theorem decH_n {b : List Int} (h : ¬ isH b) : decH b = .non := if_neg h
theorem h_newest_head : ∀ cs s Q E, sp_newest_head cs s Q E → cs.length = 1 → b_newest_head (finM Q E) s (args0 cs 3) := by
  rintro cs s Q E ⟨k, rfl, rfl, ⟨hk, h2, r0, r1⟩, q, _⟩ _
  simp [b_newest_head, Dk.lo hk]
  refine frm_all (k, 0) rfl rfl rfl ⟨hk, Nat.lt_of_lt_of_le (show 0 < 2 by decide) h2⟩ (fun x s2 z => ?_) (fun _ _ z => z.elim)
  obtain ⟨rfl, rfl⟩ := z
  refine ⟨rfl, ?_⟩
  dsimp only
  simp
  refine ⟨k.rd 0, rfl, r0, ?_⟩
  dsimp only
  simp [Dk.lo hk]
  refine frm_all (k, 1) rfl rfl rfl ⟨hk, Nat.lt_of_lt_of_le (show 1 < 2 by decide) h2⟩ (fun x s2 z => ?_) (fun _ _ z => z.elim)
  obtain ⟨rfl, rfl⟩ := z
  refine ⟨rfl, ?_⟩
  dsimp only
  simp
  refine ⟨k.rd 1, rfl, r1, ?_⟩
  dsimp only
  simp
  unfold newH at q
  by_cases c0 : isH (k.rd 0)
  · rw [decH_t c0]
    by_cases c1 : isH (k.rd 1)
    · rw [decH_t c1]
      simp [hdD]
      have q := q _ _ ⟨rfl, rfl⟩
      rw [if_pos c0, if_pos c1, decH_t c0, decH_t c1] at q
      simp only [List.getD_eq_getElem?_getD] at q
      by_cases c2 : (k.rd 1)[1]?.getD 0 = ((k.rd 0)[1]?.getD 0 + 1) % 256
      · rw [if_pos c2] at q ⊢
        simpa [hdD] using q
      · rw [if_neg c2] at q ⊢
        simpa [hdD] using q
    · rw [decH_n c1]
      simp [hdD]
      have q := q _ _ ⟨rfl, rfl⟩
      rw [if_pos c0, if_neg c1, decH_t c0] at q
      simpa [hdD] using q
  · rw [decH_n c0]
    simp
    have q := q _ _ ⟨rfl, rfl⟩
    rw [if_neg c0] at q
    exact q
theorem h__law_newest : ∀ cs s Q E, sp__law_newest cs s Q E → cs.length = 2 → b__law_newest (finM Q E) s (args0 cs 3) := by
  rintro cs s Q E ⟨⟨a, b⟩, rfl, rfl, ⟨ha, hb⟩, q, _⟩ _
  have ha : a.length = 32 ∧ Byt a := ha
  have hb : b.length = 32 ∧ Byt b := hb
  simp [b__law_newest]
  refine newI_of fun o ho => ?_
  refine frm_all (o, 8) rfl rfl rfl ⟨show 8 ≤ 8 by decide, show 8 ≤ 400 by decide⟩ (fun x s2 z => ?_) (fun _ _ z => z.elim)
  obtain ⟨rfl, d, w, h1, h2, h3, rfl⟩ := z
  refine ⟨rfl, rfl, ?_⟩
  obtain ⟨k, hk, hbs, hws, rfl, est⟩ : ∃ k : Dk, k.ok ∧ k.bs = List.replicate 8 (List.replicate 32 0) ∧ k.ws = [] ∧ o = k.o ∧ dkS o d w (List.replicate 8 (List.replicate 32 0)) [] = k.st :=
    ⟨⟨o, d, w, _, _⟩, ⟨h1, h2, h3, by show (List.replicate 8 (List.replicate 32 (0 : Int))).length ≤ 1000; simp, Nat.zero_le _⟩, rfl, rfl, rfl, rfl⟩
  change (fun st : MS => DEnds.nx _ st _) (dkS k.o d w (List.replicate 8 (List.replicate 32 0)) [])
  rw [est]
  clear est h1 h2 h3
  have bl : k.bs.length = 8 := by rw [hbs]; simp
  dsimp only
  simp [Dk.lo hk]
  refine frm_all (k, 0, a) rfl rfl rfl ⟨hk, by show 0 < k.bs.length; omega, ha⟩ (fun x s2 z => ?_) (fun _ _ z => z.elim)
  obtain ⟨rfl, rfl⟩ := z
  refine ⟨rfl, ?_⟩
  obtain ⟨k', hk', hbs', hws', eo, est⟩ : ∃ k' : Dk, k'.ok ∧ k'.bs = k.bs ∧ k'.ws = [(((0 : Nat) : Int), a)] ∧ k.o = k'.o ∧ dkS k.o k.b k.w k.bs (k.ws ++ [(((0 : Nat) : Int), a)]) = k'.st :=
    ⟨⟨k.o, k.b, k.w, k.bs, [(((0 : Nat) : Int), a)]⟩, ⟨hk.1, hk.2.1, hk.2.2.1, hk.2.2.2.1, by show 1 ≤ 1000; decide⟩, rfl, rfl, rfl, by rw [hws]; rfl⟩
  change (fun st : MS => DEnds.nx _ st _) (dkS k.o k.b k.w k.bs (k.ws ++ [(((0 : Nat) : Int), a)]))
  rw [est, eo]
  dsimp only
  simp [Dk.lo hk']
  refine frm_all (k', 1, b) rfl rfl rfl ⟨hk', by show 1 < k'.bs.length; rw [hbs']; omega, hb⟩ (fun x s2 z => ?_) (fun _ _ z => z.elim)
  obtain ⟨rfl, rfl⟩ := z
  refine ⟨rfl, ?_⟩
  obtain ⟨k2, hk2, hbs2, hws2, eo2, est2⟩ : ∃ k2 : Dk, k2.ok ∧ k2.bs = k.bs ∧ k2.ws = [(((0 : Nat) : Int), a), (((1 : Nat) : Int), b)] ∧ k'.o = k2.o ∧ dkS k'.o k'.b k'.w k'.bs (k'.ws ++ [(((1 : Nat) : Int), b)]) = k2.st :=
    ⟨⟨k'.o, k'.b, k'.w, k'.bs, [(((0 : Nat) : Int), a), (((1 : Nat) : Int), b)]⟩, ⟨hk'.1, hk'.2.1, hk'.2.2.1, hk'.2.2.2.1, by show 2 ≤ 1000; decide⟩, hbs', rfl, rfl, by rw [hws']; rfl⟩
  change (fun st : MS => DEnds.nx _ st _) (dkS k'.o k'.b k'.w k'.bs (k'.ws ++ [(((1 : Nat) : Int), b)]))
  rw [est2, eo2]
  dsimp only
  simp [Dk.lo hk2]
  have byt : ∀ {l : List Int}, l.length = 32 ∧ Byt l → Blk l := fun h => ⟨h.1, fun x hx => ⟨(h.2 x hx).1, Int.lt_of_le_of_lt (h.2 x hx).2 (by decide)⟩⟩
  have r0 : k2.rd 0 = a := by unfold Dk.rd; rw [hws2]; rfl
  have r1 : k2.rd 1 = b := by unfold Dk.rd; rw [hws2]; rfl
  refine frm_all k2 rfl rfl rfl ⟨hk2, by rw [hbs2]; omega, by rw [r0]; exact byt ha, by rw [r1]; exact byt hb⟩ (fun x s2 z => ?_) (fun _ _ z => z.elim)
  obtain ⟨rfl, rfl⟩ := z
  refine ⟨rfl, ?_⟩
  rw [r0, r1]
  exact q _ _ rfl
end Lk61


set_option linter.all false
set_option maxRecDepth 100000
set_option maxHeartbeats 4000000
namespace Lk61
open PySem PySem.Spec PyProof.Rows L2 GR N01 RZ DL
/-! heads and pieces, torn -/
def Z32 : List Int := List.replicate 32 0
theorem g_take {l r : List Int} {m i : Nat} (hl : m ≤ l.length) (hi : i < m) : (l.take m ++ r.drop m).getD i 0 = l.getD i 0 := by
  rw [List.getD_eq_getElem?_getD, List.getD_eq_getElem?_getD, List.getElem?_append_left (by rw [List.length_take]; omega), List.getElem?_take, if_pos hi]
theorem g_drop {l r : List Int} {m i : Nat} (hl : m ≤ l.length) (hi : m ≤ i) : (l.take m ++ r.drop m).getD i 0 = r.getD i 0 := by
  rw [List.getD_eq_getElem?_getD, List.getD_eq_getElem?_getD, List.getElem?_append_right (by rw [List.length_take]; omega), List.length_take, Nat.min_eq_left hl, List.getElem?_drop]
  congr 2; omega
theorem z_at {i : Nat} : Z32.getD i 0 = 0 := by
  unfold Z32
  rw [List.getD_eq_getElem?_getD, List.getElem?_replicate]
  split <;> rfl
theorem z_len : Z32.length = 32 := by decide
theorem hd_len {g b n : Int} : (headL g b n).length = 32 := by unfold headL; simp
theorem hd_at {g b n : Int} : (headL g b n).getD 0 0 = 72 ∧ (headL g b n).getD 1 0 = g ∧ (headL g b n).getD 2 0 = b / 256 / 256 ∧ (headL g b n).getD 3 0 = b / 256 % 256 ∧ (headL g b n).getD 4 0 = b % 256 ∧ (headL g b n).getD 5 0 = n ∧ (headL g b n).getD 30 0 = g ∧ (headL g b n).getD 31 0 = 72 := by
  refine ⟨rfl, rfl, rfl, rfl, rfl, rfl, ?_, ?_⟩ <;> (unfold headL; simp [List.getElem?_append, List.getElem?_replicate])
theorem isH_hd {g b n : Int} : isH (headL g b n) := by
  obtain ⟨a0, a1, _, _, _, _, a30, a31⟩ := @hd_at g b n
  exact ⟨a0, by rw [a30, a1], a31⟩
def h3 (g b n : Int) : D := .tup [.int g, .int b, .int n]
theorem decH_hd {g b n : Int} : decH (headL g b n) = h3 g b n := by
  obtain ⟨a0, a1, a2, a3, a4, a5, a30, a31⟩ := @hd_at g b n
  rw [decH_t isH_hd, hdD, a1, a2, a3, a4, a5, h3]
  rw [show (b / 256 / 256 * 256 + b / 256 % 256) * 256 + b % 256 = b by omega]
/-- a torn head -/
theorem torn_lo {g b n g' b' n' : Int} {m : Nat} (hm : m < 2) : decH ((headL g' b' n').take m ++ (headL g b n).drop m) = h3 g b n ∧ isH ((headL g' b' n').take m ++ (headL g b n).drop m) ∧ ((headL g' b' n').take m ++ (headL g b n).drop m).getD 1 0 = g := by
  have e : (headL g' b' n').take m ++ (headL g b n).drop m = headL g b n := by
    have : m = 0 ∨ m = 1 := by omega
    rcases this with rfl | rfl <;> rfl
  rw [e]
  exact ⟨decH_hd, isH_hd, hd_at.2.1⟩
theorem torn_hi {g b n g' b' n' : Int} {m : Nat} (h1 : 31 ≤ m) (h2 : m ≤ 32) : decH ((headL g' b' n').take m ++ (headL g b n).drop m) = h3 g' b' n' ∧ isH ((headL g' b' n').take m ++ (headL g b n).drop m) ∧ ((headL g' b' n').take m ++ (headL g b n).drop m).getD 1 0 = g' := by
  have e : (headL g' b' n').take m ++ (headL g b n).drop m = headL g' b' n' := by
    have : m = 31 ∨ m = 32 := by omega
    rcases this with rfl | rfl <;> rfl
  rw [e]
  exact ⟨decH_hd, isH_hd, hd_at.2.1⟩
theorem torn_mid {g b n g' b' n' : Int} {m : Nat} (h1 : 2 ≤ m) (h2 : m < 31) (ne : g ≠ g') : ¬ isH ((headL g' b' n').take m ++ (headL g b n).drop m) := by
  rintro ⟨_, h, _⟩
  rw [g_take (i := 1) (by rw [hd_len]; omega) (by omega), g_drop (i := 30) (by rw [hd_len]; omega) (by omega)] at h
  rw [hd_at.2.2.2.2.2.2.1, hd_at.2.1] at h
  exact ne h
/-! pieces -/
structure PcOk (l : List Int) : Prop where
  len : l.length = 32
  byt : Byt l
  fst : l.getD 0 0 = 77
  lst : l.getD 31 0 = 77
  dec : ∃ xs, decP l = .tup xs
theorem pc_lo {l : List Int} (h : PcOk l) {m : Nat} (hm : m < 32) : decP (l.take m ++ Z32.drop m) = .non := by
  unfold decP
  rw [if_neg]
  rintro ⟨h0, h1, _⟩
  rw [g_drop (i := 31) (by rw [h.len]; omega) (by omega), z_at] at h1
  rw [h1] at h0
  omega
theorem pc_hi {l : List Int} (h : PcOk l) {m : Nat} (hm : 0 < m) (h2 : m ≤ 32) : decP (Z32.take m ++ l.drop m) = .non := by
  unfold decP
  rw [if_neg]
  rintro ⟨h0, _⟩
  rw [g_take (i := 0) (by rw [z_len]; omega) hm, z_at] at h0
  omega
theorem decP_hd {g b n : Int} : decP (headL g b n) = .non := by
  unfold decP
  rw [if_neg]
  rintro ⟨h0, _⟩
  rw [hd_at.1] at h0
  omega
theorem nH_pc {l : List Int} (h : PcOk l) : ¬ isH l := fun z => by
  have := z.1
  rw [h.fst] at this
  omega
theorem nH_z : ¬ isH Z32 := fun z => by
  have := z.1
  rw [z_at] at this
  omega
theorem decP_z : decP Z32 = .non := by
  unfold decP
  rw [if_neg]
  rintro ⟨h0, _⟩
  rw [z_at] at h0
  omega
/-- a drawn piece -/
theorem pc_of {m : Int} {t : Str} {k : Nat} (h0 : 0 ≤ m) (ht : t.length ≤ 100) (hc : ∀ c ∈ codes t, okCode c = true) (hk : k < pieceN t) : PcOk (pieceL 77 m t k) := by
  have hl := @partL_le t k
  have hN : pieceN t ≤ 6 := by unfold pieceN; omega
  have hp : ∀ c ∈ partL t k, okCode c = true := fun c h => hc c (List.mem_of_mem_drop (List.mem_of_mem_take h))
  have len : (pieceL 77 m t k).length = 32 := by unfold pieceL; simp; omega
  have l31 : (pieceL 77 m t k).getD 31 0 = 77 := by
    unfold pieceL
    rw [List.getD_eq_getElem?_getD, List.getElem?_append_right (by simp; omega)]
    simp
    rw [show 25 - ((partL t k).length + (25 - (partL t k).length)) = 0 by omega]
    rfl
  refine ⟨len, fun x hx => ?_, rfl, l31, ?_⟩
  · unfold pieceL at hx
    simp only [List.mem_append, List.mem_cons, List.not_mem_nil, or_false, List.mem_replicate] at hx
    rcases hx with ((((rfl | rfl | rfl | rfl | rfl | rfl) | h) | h) | rfl)
    · decide
    · omega
    · omega
    · omega
    · omega
    · omega
    · have := hp x h
      unfold okCode at this
      simp at this
      omega
    · omega
    · decide
  · unfold decP
    have e0 : (pieceL 77 m t k).getD 0 0 = 77 := rfl
    have e1 : (pieceL 77 m t k).getD 1 0 = k := rfl
    have e2 : (pieceL 77 m t k).getD 2 0 = (pieceN t : Nat) := rfl
    have e5 : (pieceL 77 m t k).getD 5 0 = ((partL t k).length : Nat) := rfl
    rw [e0, e1, e2, e5, l31, if_pos ⟨.inl rfl, rfl, by omega, by omega⟩]
    have d6 : (pieceL 77 m t k).drop 6 = partL t k ++ List.replicate (25 - (partL t k).length) 0 ++ [77] := rfl
    have dn : (pieceL 77 m t k).drop (6 + (partL t k).length) = List.replicate (25 - (partL t k).length) 0 ++ [77] := by
      rw [← List.drop_drop, d6, List.append_assoc, List.drop_left]
    rw [Int.toNat_natCast, d6, dn, List.append_assoc, List.take_left]
    have e3 : ((List.replicate (25 - (partL t k).length) (0 : Int) ++ [77]).take (25 - (partL t k).length)) = List.replicate (25 - (partL t k).length) 0 := by
      rw [List.take_append_of_le_length (by simp)]
      simp
    rw [e3, if_pos ⟨List.all_eq_true.mpr hp, by simp⟩]
    exact ⟨_, rfl⟩
theorem cutJ {a b : List Int} {m : Nat} : cutG (intsD a) none (some (m : Int)) ++ cutG (intsD b) (some (m : Int)) none = intsD (a.take m ++ b.drop m) := by
  rw [cut_0n, cut_n0, intsD_app, intsD_take, intsD_drop]
def BB (l : List Int) : Prop := l.length = 32 ∧ Byt l
theorem bb_j {a b : List Int} {m : Nat} (ha : BB a) (hb : BB b) (hm : m ≤ 32) : BB (a.take m ++ b.drop m) := by
  refine ⟨by rw [List.length_append, List.length_take, List.length_drop, ha.1, hb.1]; omega, fun x hx => ?_⟩
  rcases List.mem_append.mp hx with h | h
  · exact ha.2 x (List.mem_of_mem_take h)
  · exact hb.2 x (List.mem_of_mem_drop h)
theorem bb_blk {l : List Int} (h : BB l) : Blk l := ⟨h.1, fun x hx => ⟨(h.2 x hx).1, Int.lt_of_le_of_lt (h.2 x hx).2 (by decide)⟩⟩
theorem bb_z : BB Z32 := ⟨by decide, fun x hx => by rw [(List.mem_replicate.mp hx).2]; decide⟩
theorem bb_hd {g b n : Int} (hg : 0 ≤ g ∧ g < 256) (hb : 0 ≤ b ∧ b ≤ 100000) (hn : 0 ≤ n ∧ n ≤ 40) : BB (headL g b n) := by
  refine ⟨hd_len, fun x hx => ?_⟩
  unfold headL at hx
  simp only [List.mem_append, List.mem_cons, List.not_mem_nil, or_false, List.mem_replicate] at hx
  rcases hx with (((rfl | rfl | rfl | rfl | rfl | rfl) | h) | (rfl | rfl)) <;> omega
theorem PcOk.bb {l : List Int} (h : PcOk l) : BB l := ⟨h.len, h.byt⟩
theorem pc1 {l : List Int} (h : PcOk l) {m : Nat} (hm : m < 33) : (match decP (l.take m ++ Z32.drop m) with | .non => true | _ => false) = decide ((m : Int) < 32) := by
  by_cases c : m < 32
  · rw [pc_lo h c, decide_eq_true (by omega)]
  · have : m = 32 := by omega
    subst this
    have e : l.take 32 ++ Z32.drop 32 = l := by rw [List.take_of_length_le (by rw [h.len]; decide), List.drop_of_length_le (by decide), List.append_nil]
    obtain ⟨xs, hx⟩ := h.dec
    rw [e, hx, decide_eq_false (by decide)]
theorem pc2 {l : List Int} (h : PcOk l) {m : Nat} (hm : m < 33) : (match decP (Z32.take m ++ l.drop m) with | .non => true | _ => false) = decide (0 < m) := by
  by_cases c : 0 < m
  · rw [pc_hi h c (by omega), decide_eq_true c]
  · have : m = 0 := by omega
    subst this
    have e : Z32.take 0 ++ l.drop 0 = l := rfl
    obtain ⟨xs, hx⟩ := h.dec
    rw [e, hx, decide_eq_false (by decide)]
theorem eqvB {a b : Bool} (h : a = b) : D.eqv (.bl a) (.bl b) = true := by subst h; cases a <;> decide
theorem call_nw {X Y : List Int} {r : D} {q : Kn (D → MS → Prop)} {e : Kn (Exc → MS → Prop)} (hx : BB X) (hy : BB Y) (er : newH X Y = r) (h : ∀ s, q.k r s) : callI sp__law_newest [C.d (.lst (intsD X)), C.d (.lst (intsD Y))] (false, []) (q := q) (e := e) :=
  ⟨(X, Y), rfl, rfl, ⟨hx, hy⟩, fun x s z => by
    have z : x = newH X Y := z
    rw [z, er]; exact h s, fun _ _ z => z.elim⟩
theorem h3_fit {a b c : Int} : D.fit 64 (h3 a b c) = true := by simp [h3]
theorem h3_eqv {a b c a' b' c' : Int} : D.eqv (h3 a b c) (h3 a' b' c') = (decide (a = a') && (decide (b = b') && decide (c = c'))) := by
  show PyData.eqv (D.tup [_, _, _]).py (D.tup [_, _, _]).py = _
  rw [D.py, D.py, PyData.eqv]
  simp only [D.pyL, PyData.eqvAll, Bool.and_true]
  rfl
theorem h3_self {a b c : Int} : D.eqv (h3 a b c) (h3 a b c) = true := by rw [h3_eqv]; simp
theorem nw_b {A B : List Int} (ha : isH A) (hb : isH B) (h : B.getD 1 0 = (A.getD 1 0 + 1) % 256) : newH A B = decH B := by unfold newH; rw [if_pos ha, if_pos hb, if_pos h]
theorem nw_a {A B : List Int} (ha : isH A) (hb : isH B) (h : ¬ B.getD 1 0 = (A.getD 1 0 + 1) % 256) : newH A B = decH A := by unfold newH; rw [if_pos ha, if_pos hb, if_neg h]
theorem nw_l {A B : List Int} (ha : isH A) (hb : ¬ isH B) : newH A B = decH A := by unfold newH; rw [if_pos ha, if_neg hb]
theorem nw_r {A B : List Int} (ha : ¬ isH A) : newH A B = decH B := by unfold newH; rw [if_neg ha]
theorem h_rest {r0 r2 : Option C} {BL : List Int} {g b n b1 n1 b2 n2 : Int} (pc : PcOk BL) (hg : 0 ≤ g ∧ g < 256) (hb : 0 ≤ b ∧ b ≤ 99999) (hn : 0 ≤ n ∧ n ≤ 40) (hb1 : 0 ≤ b1 ∧ b1 ≤ 100000) (hn1 : 0 ≤ n1 ∧ n1 ≤ 40) (hb2 : 0 ≤ b2 ∧ b2 ≤ 100000) (hn2 : 0 ≤ n2 ∧ n2 ≤ 40) :
    r_law_11 ⟨fun _ _ => False, fun x _ => x = .bl true, fun _ _ => False, fun _ _ => False, fun _ _ _ => False⟩ () [r0, some .box, r2, some (.d (.lst (intsD BL))), some (.d (.lst (intsD Z32))), some (.d (.int g)), some (.d (.int b)), some (.d (h3 g b n)), some (.d (h3 ((g + 1) % 256) b1 n1)), some (.d (h3 ((g + 2) % 256) b2 n2)),
      some (.d (.lst (intsD (headL g b n)))), some (.d (.lst (intsD (headL ((g + 1) % 256) b1 n1)))), some (.d (.lst (intsD (headL ((g + 2) % 256) b2 n2)))), none, none, none, none, none, none] := by
  simp [r_law_11]
  refine loop_inv (fun m s ρ => ∃ a b' c d e : Option C, ρ = [r0, some .box, r2, some (.d (.lst (intsD BL))), some (.d (.lst (intsD Z32))), some (.d (.int g)), some (.d (.int b)), some (.d (h3 g b n)), some (.d (h3 ((g + 1) % 256) b1 n1)), some (.d (h3 ((g + 2) % 256) b2 n2)),
      some (.d (.lst (intsD (headL g b n)))), some (.d (.lst (intsD (headL ((g + 1) % 256) b1 n1)))), some (.d (.lst (intsD (headL ((g + 2) % 256) b2 n2)))), a, b', c, d, e, none]) _ 0 _ _ ⟨_, _, _, _, _, rfl⟩ ?_ ?_
  · rintro m x ⟨⟩ ρ P hx hP ⟨a, b', c, d, e, rfl⟩
    obtain ⟨rfl, hi⟩ := rangeD_get hx
    have hz := bb_z
    have ho := bb_hd hg ⟨hb.1, by omega⟩ hn
    have hc := bb_hd (g := (g + 1) % 256) (by omega) hb1 hn1
    have hw := bb_hd (g := (g + 2) % 256) (by omega) hb2 hn2
    have lenJ : ∀ {a b : List Int}, BB a → BB b → (cutG (intsD a) none (some (m : Int))).length + (cutG (intsD b) (some (m : Int)) none).length ≤ 16777216 := fun ha hb => by
      rw [← List.length_append, cutJ, intsD_len, (bb_j ha hb (by omega)).1]; decide
    simp [cutJ]
    refine ⟨lenJ pc.bb hz, _, rfl, bb_blk (bb_j pc.bb hz (by omega)), ?_⟩
    dsimp only
    simp [cutJ]
    refine ⟨eqvB (pc1 pc (by omega)), lenJ hz pc.bb, _, rfl, bb_blk (bb_j hz pc.bb (by omega)), ?_⟩
    dsimp only
    simp [cutJ]
    refine ⟨eqvB (pc2 pc (by omega)), lenJ hw ho, ?_⟩
    refine ⟨_, rfl, bb_blk (bb_j hw ho (by omega)), ?_⟩
    dsimp only
    simp [cutJ]
    have bbT := bb_j (m := m) hw ho (by omega)
    have cH := @isH_hd ((g + 1) % 256) b1 n1
    have cD := @decH_hd ((g + 1) % 256) b1 n1
    have cG := (@hd_at ((g + 1) % 256) b1 n1).2.1
    by_cases k1 : m < 2
    · obtain ⟨t1, t2, t3⟩ := torn_lo (g := g) (b := b) (n := n) (g' := (g + 2) % 256) (b' := b2) (n' := n2) k1
      have c1 : ((m : Int) < 2) = True := eq_true (by omega)
      have c2 : (31 ≤ (m : Int)) = False := eq_false (by omega)
      have c3 : (2 ≤ (m : Int)) = False := eq_false (by omega)
      simp only [c1, c2, c3, if_true, if_false, t1]
      generalize List.take m (headL ((g + 2) % 256) b2 n2) ++ List.drop m (headL g b n) = T at *
      refine ⟨h3_fit, h3_fit, h3_self, ?_⟩
      by_cases od : g % 2 = 1
      · rw [if_pos od]
        refine call_nw hc bbT (by rw [nw_a cH t2 (by rw [t3, cG]; omega), cD]) (fun s => ?_)
        dsimp only
        simp
        exact ⟨h3_fit, h3_self, hP _ _ ⟨_, _, _, _, _, rfl⟩⟩
      · rw [if_neg od]
        refine call_nw bbT hc (by rw [nw_b t2 cH (by rw [t3, cG]), cD]) (fun s => ?_)
        dsimp only
        simp
        exact ⟨h3_fit, h3_self, hP _ _ ⟨_, _, _, _, _, rfl⟩⟩
    · by_cases k2 : m < 31
      · have tn := torn_mid (g := g) (b := b) (n := n) (g' := (g + 2) % 256) (b' := b2) (n' := n2) (m := m) (by omega) k2 (by omega)
        have c1 : ((m : Int) < 2) = False := eq_false (by omega)
        have c2 : (31 ≤ (m : Int)) = False := eq_false (by omega)
        have c3 : (2 ≤ (m : Int)) = True := eq_true (by omega)
        have c4 : ((m : Int) < 31) = True := eq_true (by omega)
        have t1 := decH_n tn
        simp only [c1, c2, c3, c4, if_true, if_false, t1]
        generalize List.take m (headL ((g + 2) % 256) b2 n2) ++ List.drop m (headL g b n) = T at *
        refine ⟨trivial, ?_⟩
        by_cases od : g % 2 = 1
        · rw [if_pos od]
          refine call_nw hc bbT (by rw [nw_l cH tn, cD]) (fun s => ?_)
          dsimp only
          simp
          exact ⟨h3_fit, h3_self, hP _ _ ⟨_, _, _, _, _, rfl⟩⟩
        · rw [if_neg od]
          refine call_nw bbT hc (by rw [nw_r tn, cD]) (fun s => ?_)
          dsimp only
          simp
          exact ⟨h3_fit, h3_self, hP _ _ ⟨_, _, _, _, _, rfl⟩⟩
      · obtain ⟨t1, t2, t3⟩ := torn_hi (g := g) (b := b) (n := n) (g' := (g + 2) % 256) (b' := b2) (n' := n2) (m := m) (by omega) (by omega)
        have c1 : ((m : Int) < 2) = False := eq_false (by omega)
        have c2 : (31 ≤ (m : Int)) = True := eq_true (by omega)
        have c3 : (2 ≤ (m : Int)) = True := eq_true (by omega)
        have c4 : ((m : Int) < 31) = False := eq_false (by omega)
        simp only [c1, c2, c3, c4, if_true, if_false, t1]
        generalize List.take m (headL ((g + 2) % 256) b2 n2) ++ List.drop m (headL g b n) = T at *
        refine ⟨h3_fit, h3_fit, h3_self, ?_⟩
        by_cases od : g % 2 = 1
        · rw [if_pos od]
          refine call_nw hc bbT (by rw [nw_b cH t2 (by rw [t3, cG]; omega), t1]) (fun s => ?_)
          dsimp only
          simp
          exact ⟨h3_fit, h3_self, hP _ _ ⟨_, _, _, _, _, rfl⟩⟩
        · rw [if_neg od]
          refine call_nw bbT hc (by rw [nw_a t2 cH (by rw [t3, cG]; omega), t1]) (fun s => ?_)
          dsimp only
          simp
          exact ⟨h3_fit, h3_self, hP _ _ ⟨_, _, _, _, _, rfl⟩⟩
  · rintro ⟨⟩ ρ ⟨a, b', c, d, e, rfl⟩
    have hz := bb_z
    have ho := bb_hd hg ⟨hb.1, (by omega : b ≤ 100000)⟩ hn
    have hA := bb_hd hg (b := b + 1) (by omega) hn
    have hc := bb_hd (g := (g + 1) % 256) (by omega) hb1 hn1
    have hw := bb_hd (g := (g + 2) % 256) (by omega) hb2 hn2
    have oG := (@hd_at g b n).2.1
    have aG := (@hd_at g (b + 1) n).2.1
    have cG := (@hd_at ((g + 1) % 256) b1 n1).2.1
    have wG := (@hd_at ((g + 2) % 256) b2 n2).2.1
    simp [h3]
    refine ⟨(g, b + 1, n), rfl, ⟨by show 0 ≤ b + 1; omega, by show b + 1 < 2 ^ 40; omega⟩, ?_⟩
    dsimp only
    simp
    refine call_nw ho hw (by rw [nw_a isH_hd isH_hd (by rw [oG, wG]; omega), decH_hd]) (fun s => ?_)
    dsimp only
    simp
    refine ⟨h3_fit, h3_self, ?_⟩
    refine call_nw hw ho (by rw [nw_a isH_hd isH_hd (by rw [oG, wG]; omega), decH_hd]) (fun s => ?_)
    dsimp only
    simp
    refine ⟨h3_fit, h3_self, ?_⟩
    refine call_nw ho hA (by rw [nw_a isH_hd isH_hd (by rw [oG, aG]; omega), decH_hd]) (fun s => ?_)
    dsimp only
    simp
    refine ⟨h3_fit, h3_self, ?_⟩
    refine ⟨_, rfl, bb_blk hz, ?_⟩
    dsimp only
    rw [decH_n nH_z]
    simp
    refine ⟨_, rfl, bb_blk ho, ?_⟩
    dsimp only
    rw [decP_hd]
    simp
    refine ⟨_, rfl, bb_blk pc.bb, ?_⟩
    dsimp only
    rw [decH_n (nH_pc pc)]
    simp
    refine call_nw hz hz (by rw [nw_r nH_z, decH_n nH_z]) (fun s => ?_)
    dsimp only
    simp
    refine call_nw hz hc (by rw [nw_r nH_z, decH_hd]) (fun s => ?_)
    dsimp only
    simp
    refine ⟨h3_fit, h3_self, ?_⟩
    refine call_nw hc hz (by rw [nw_l isH_hd nH_z, decH_hd]) (fun s => ?_)
    dsimp only
    simp
    exact ⟨h3_fit, h3_self⟩
end Lk61


set_option linter.all false
set_option maxRecDepth 100000
set_option maxHeartbeats 4000000
namespace Lk61
open PySem PySem.Spec PyProof.Rows L2 GR N01 RZ DL
theorem h_law : b_law ⟨fun _ _ => False, fun x _ => x = .bl true, fun _ _ => False, fun _ _ => False, fun _ _ _ => False⟩ () (boxEnv 17) := by
  simp [b_law, boxEnv]
  refine drawE (by decide) fun i i0 i1 => ?_
  simp
  refine drawE (by decide) fun j j0 j1 => ?_
  obtain ⟨j, rfl⟩ : ∃ k : Nat, j = k := ⟨j.toNat, by omega⟩
  simp
  refine ⟨j, rfl, by omega, ?_⟩
  rintro x ⟨t, rfl, tl, tc⟩
  simp
  have hN : pieceN t ≤ 6 := by unfold pieceN; omega
  refine ⟨⟨77, i, t⟩, rfl, by show t.length ≤ 10000; omega, ?_, ?_⟩
  · intro x hx
    simp only at hx
    rw [if_pos (show pieceN t ≤ 255 by omega)] at hx
    cases hx
    simp [recD]
    refine drawE (by show (0 : Int) < (pieceN t : Nat); unfold pieceN; omega) fun k k0 k1 => ?_
    obtain ⟨k, rfl⟩ : ∃ q : Nat, k = q := ⟨k.toNat, by omega⟩
    have hk : k < pieceN t := by omega
    have pc := pc_of (m := i) (t := t) i0 (by omega) tc hk
    have hat : atI (List.range (pieceN t)) (k : Int) = some k := by
      rw [atI_nat' (by simp; exact hk), List.getElem?_range hk]
    dsimp only
    simp
    refine ⟨_, ⟨k, hat, rfl⟩, ?_⟩
    generalize pieceL 77 i t k = BL at *
    refine drawE (by decide) fun g g0 g1 => ?_
    simp
    refine drawE (by decide) fun b b0 b1 => ?_
    simp
    refine drawE (by decide) fun n n0 n1 => ?_
    simp
    refine drawE (by decide) fun d d0 d1 => ?_
    simp
    refine drawE (by decide) fun m m0 m1 => ?_
    simp
    refine drawE (by decide) fun e e0 e1 => ?_
    simp
    refine drawE (by decide) fun p p0 p1 => ?_
    simp
    refine ⟨(g, b * 1000, n), rfl, ⟨by show 0 ≤ b * 1000; omega, by show b * 1000 < 2 ^ 40; omega⟩, ?_⟩
    dsimp only
    simp
    refine ⟨((g + 1) % 256, b * 1000 + d, m), rfl, ⟨by show 0 ≤ b * 1000 + d; omega, by show b * 1000 + d < 2 ^ 40; omega⟩, ?_⟩
    dsimp only
    simp
    refine ⟨((g + 2) % 256, b * 1000 + d + e, p), rfl, ⟨by show 0 ≤ b * 1000 + d + e; omega, by show b * 1000 + d + e < 2 ^ 40; omega⟩, ?_⟩
    dsimp only
    simp
    exact h_rest (BL := BL) pc ⟨g0, g1⟩ (by omega) (by omega) (by omega) (by omega) (by omega) (by omega)
  · intro e he
    simp only at he
    rw [if_pos (show pieceN t ≤ 255 by omega)] at he
    cases he
end Lk61


set_option linter.all false
set_option maxRecDepth 100000
set_option maxHeartbeats 8000000
namespace Lk61
open PySem PySem.Spec PyProof.Rows L2 GR N01 RZ DL
section
variable {K : PySem.W.Frag}
theorem rv_str {z : Str} {t : Tok} : RelV (.str z) (.str z t) := ⟨t, rfl⟩
theorem rv_int {z : Int} {t : Tok} : RelV (.int z) (.int z t) := ⟨t, rfl⟩
theorem rv_bl {b : Bool} : RelV (.bl b) (.bool b) := rfl
theorem ar_d {mg : Str → Option Value} {r : Addr} {F : Hp} {v : V} {x : D} (h : Has K mg F v x) : Ar K mg r F v (.d x) := h
theorem rv_ref {a : Addr} : RelV (.ref a) (.ref a) := rfl
theorem fund_of {x qual : Str} {st : Stmt} {f : Addr} {oc : Value} {od an : Option Addr} {osl : Array (Option Value)} {kV doc pm cdv ct : Value} (l : K.lookup f = some ⟨oc, od, .func (PySem.W.fnOf x qual (defArgs st) (defBody st) (defScope st) .none kV doc pm an cdv ct), osl⟩)
    (c : PySem.W.codeIn K cdv qual = true) (k : PySem.W.keepIn K (.ref f) = true) : FunD K x qual (defArgs st) (defBody st) (defScope st) [] [] f (PySem.W.fnOf x qual (defArgs st) (defBody st) (defScope st) .none kV doc pm an cdv ct) := ⟨⟨oc, od, .none, kV, doc, pm, an, cdv, ct, osl, rfl, l, c, Or.inl ⟨rfl, rfl⟩, Or.inl rfl⟩, k⟩
theorem fund_dfl {x qual : Str} {st : Stmt} {f T : Addr} {oc : Value} {od an : Option Addr} {osl : Array (Option Value)} {kV doc pm cdv ct : Value} {dvs : List V} {its : List Value} {n : Nat} {to : Value} {td : Option Addr} {ts : Array (Option Value)} (l : K.lookup f = some ⟨oc, od, .func (PySem.W.fnOf x qual (defArgs st) (defBody st) (defScope st) (.ref T) kV doc pm an cdv ct), osl⟩)
    (c : PySem.W.codeIn K cdv qual = true) (k : PySem.W.keepIn K (.ref f) = true) (lt : K.lookup T = some ⟨to, td, .seq its.toArray n, ts⟩) (hd : dvs ≠ []) (hv : Vals dvs its) : FunD K x qual (defArgs st) (defBody st) (defScope st) dvs [] f (PySem.W.fnOf x qual (defArgs st) (defBody st) (defScope st) (.ref T) kV doc pm an cdv ct) := ⟨⟨oc, od, .ref T, kV, doc, pm, an, cdv, ct, osl, rfl, l, c, Or.inr ⟨hd, T, _, its, n, rfl, lt, rfl, hv⟩, Or.inl rfl⟩, k⟩
theorem fund_kwd {x qual : Str} {st : Stmt} {f D : Addr} {oc : Value} {od an : Option Addr} {osl : Array (Option Value)} {doc pm cdv ct : Value} {kws : List (Str × V)} (l : K.lookup f = some ⟨oc, od, .func (PySem.W.fnOf x qual (defArgs st) (defBody st) (defScope st) .none (.ref D) doc pm an cdv ct), osl⟩)
    (c : PySem.W.codeIn K cdv qual = true) (k : PySem.W.keepIn K (.ref f) = true) (h : ∀ q ∈ kws, ∃ u, PySem.W.nsIn K D q.1 = some (some u) ∧ RelV q.2 u) : FunD K x qual (defArgs st) (defBody st) (defScope st) [] kws f (PySem.W.fnOf x qual (defArgs st) (defBody st) (defScope st) .none (.ref D) doc pm an cdv ct) := ⟨⟨oc, od, .none, .ref D, doc, pm, an, cdv, ct, osl, rfl, l, c, Or.inl ⟨rfl, rfl⟩, Or.inr ⟨D, rfl, h⟩⟩, k⟩
theorem binds_all {x qual : Str} {params : Arguments} {body : List Stmt} {scope : Scope} {dvs : List V} {f : Addr} {fd : FuncData} {ps : List Str} (F : FunD K x qual params body scope dvs [] f fd) (hd : dvs ≠ [])
    (h : ∀ (T : Addr) (kV doc pm : Value) (an : Option Addr) (cdv ct : Value) (us its : List Value), us.length = ps.length → its.length = dvs.length → ∃ k, bindArgs (PySem.W.fnOf x qual params body scope (.ref T) kV doc pm an cdv ct) ⟨us, []⟩ = seqItems? (.ref T) >>= k ∧ k (some its.toArray) = pure (ps.zip us)) : Binds K fd ps [] := by
  obtain ⟨ds, hv, hb⟩ := F.binds1 (ps := ps) ps.length dvs.length hd (by omega) (fun T kV doc pm an cdv ct us its hl hi => by
    obtain ⟨k, e1, e2⟩ := h T kV doc pm an cdv ct us its hl hi
    exact ⟨k, e1, by rw [e2, List.drop_of_length_le (by omega), List.append_nil]⟩)
  rw [List.drop_length] at hv
  cases hv
  exact hb
end
theorem all_mk {l : PySem.W.OpenLaw} {w : World} {K : PySem.W.Frag} {h : Heap} {mg : Str → Option Value} {fa : Addr} {CDisk : Addr} {f_law_cell : Addr} {od_law_cell an_law_cell : Option Addr} {sl_law_cell : Array (Option Value)} {oc_law_cell kV_law_cell dc_law_cell pm_law_cell cd_law_cell ct_law_cell : Value} {f_law_draw : Addr} {od_law_draw an_law_draw : Option Addr} {sl_law_draw : Array (Option Value)} {oc_law_draw kV_law_draw dc_law_draw pm_law_draw cd_law_draw ct_law_draw : Value} {fis_block : Addr} {odis_block anis_block : Option Addr} {slis_block : Array (Option Value)} {ocis_block kVis_block dcis_block pmis_block cdis_block ctis_block : Value} {fDisk_size : Addr} {odDisk_size anDisk_size : Option Addr} {slDisk_size : Array (Option Value)} {ocDisk_size kVDisk_size dcDisk_size pmDisk_size cdDisk_size ctDisk_size : Value} {fDisk_init : Addr} {odDisk_init anDisk_init : Option Addr} {slDisk_init : Array (Option Value)} {ocDisk_init kVDisk_init dcDisk_init pmDisk_init cdDisk_init ctDisk_init : Value} {fDisk_cut_power : Addr} {odDisk_cut_power anDisk_cut_power : Option Addr} {slDisk_cut_power : Array (Option Value)} {ocDisk_cut_power kVDisk_cut_power dcDisk_cut_power pmDisk_cut_power cdDisk_cut_power ctDisk_cut_power : Value} {fsign_of : Addr} {odsign_of ansign_of : Option Addr} {slsign_of : Array (Option Value)} {ocsign_of kVsign_of dcsign_of pmsign_of cdsign_of ctsign_of : Value} {fblock_of : Addr} {odblock_of anblock_of : Option Addr} {slblock_of : Array (Option Value)} {ocblock_of kVblock_of dcblock_of pmblock_of cdblock_of ctblock_of : Value} {fdecode_head : Addr} {oddecode_head andecode_head : Option Addr} {sldecode_head : Array (Option Value)} {ocdecode_head kVdecode_head dcdecode_head pmdecode_head cddecode_head ctdecode_head : Value} {f_law_digits : Addr} {od_law_digits an_law_digits : Option Addr} {sl_law_digits : Array (Option Value)} {oc_law_digits kV_law_digits dc_law_digits pm_law_digits cd_law_digits ct_law_digits : Value} {f_law_stored_text : Addr} {od_law_stored_text an_law_stored_text : Option Addr} {sl_law_stored_text : Array (Option Value)} {oc_law_stored_text kV_law_stored_text dc_law_stored_text pm_law_stored_text cd_law_stored_text ct_law_stored_text : Value} {fDisk_check_place : Addr} {odDisk_check_place anDisk_check_place : Option Addr} {slDisk_check_place : Array (Option Value)} {ocDisk_check_place kVDisk_check_place dcDisk_check_place pmDisk_check_place cdDisk_check_place ctDisk_check_place : Value} {fDisk_count_down : Addr} {odDisk_count_down anDisk_count_down : Option Addr} {slDisk_count_down : Array (Option Value)} {ocDisk_count_down kVDisk_count_down dcDisk_count_down pmDisk_count_down cdDisk_count_down ctDisk_count_down : Value} {fencode_record : Addr} {odencode_record anencode_record : Option Addr} {slencode_record : Array (Option Value)} {ocencode_record kVencode_record dcencode_record pmencode_record cdencode_record ctencode_record : Value} {fdecode_piece : Addr} {oddecode_piece andecode_piece : Option Addr} {sldecode_piece : Array (Option Value)} {ocdecode_piece kVdecode_piece dcdecode_piece pmdecode_piece cddecode_piece ctdecode_piece : Value} {fencode_head : Addr} {odencode_head anencode_head : Option Addr} {slencode_head : Array (Option Value)} {ocencode_head kVencode_head dcencode_head pmencode_head cdencode_head ctencode_head : Value} {fDisk_read : Addr} {odDisk_read anDisk_read : Option Addr} {slDisk_read : Array (Option Value)} {ocDisk_read kVDisk_read dcDisk_read pmDisk_read cdDisk_read ctDisk_read : Value} {fDisk_write : Addr} {odDisk_write anDisk_write : Option Addr} {slDisk_write : Array (Option Value)} {ocDisk_write kVDisk_write dcDisk_write pmDisk_write cdDisk_write ctDisk_write : Value} {fnewest_head : Addr} {odnewest_head annewest_head : Option Addr} {slnewest_head : Array (Option Value)} {ocnewest_head kVnewest_head dcnewest_head pmnewest_head cdnewest_head ctnewest_head : Value} {f_law_newest : Addr} {od_law_newest an_law_newest : Option Addr} {sl_law_newest : Array (Option Value)} {oc_law_newest kV_law_newest dc_law_newest pm_law_newest cd_law_newest ct_law_newest : Value} {flaw : Addr} {odlaw anlaw : Option Addr} {sllaw : Array (Option Value)} {oclaw kVlaw dclaw pmlaw cdlaw ctlaw : Value} {tk_BLANK : Tok} {tk_BLOCK : Tok} {tk_BLOCKS_LEAST : Tok} {tk_BLOCKS_MOST : Tok} {tk_BYTES : Tok} {tk_BYTE_MOST : Tok} {tk_CHANGES_MARK : Tok} {tk_ENTITY_MARK : Tok} {tk_GENERATIONS : Tok} {tk_HEAD_MARK : Tok} {tk_HIGH_SIGNS : Tok} {tk_LOW_SIGNS : Tok} {tk_NEWLINE : Tok} {tk_PERCENT : Tok} {tk_PIECE : Tok} {tk_PIECES_MOST : Tok} {COutOfRange iOutOfRange ccXOutOfRange cdaXOutOfRange : Addr} {nmXOutOfRange qXOutOfRange : Str} {NCOutOfRange : Addr} {bsXOutOfRange bmXOutOfRange : List Value} {snXOutOfRange : List Str} {subXOutOfRange : List Value} {abXOutOfRange : Bool} {colXOutOfRange : Option Bool} {ddXOutOfRange : Option Addr} {m0XOutOfRange m1XOutOfRange m2XOutOfRange m3XOutOfRange m5XOutOfRange : Option Value} {oiXOutOfRange diXOutOfRange piXOutOfRange tiXOutOfRange : Value} {odiXOutOfRange aniXOutOfRange : Option Addr} {sliXOutOfRange : Array (Option Value)} {cclXOutOfRange clXOutOfRange : Value} {cddXOutOfRange cldXOutOfRange : Option Addr} {cvsXOutOfRange : Array Value} {ccsXOutOfRange cslXOutOfRange : Array (Option Value)} {fileXOutOfRange : Str} {tfXOutOfRange : Tok} {CPowerCut : Addr} (X : K.In h) (G : h.Ns mainGlobals mg) (hfa : mg "law" = some (.ref fa))
    (aCDisk : PySem.W.nsIn K mainGlobals "Disk" = some (some (.ref CDisk)))
    (pgCDisk : PySem.W.plainGet K CDisk Str.empty = true)
    (hdCDisk : PySem.W.hasDictIn K CDisk = true)
    (poCDisk : PySem.W.plainOver K CDisk = true)
    (saCDisk : PySem.W.findIn K (.ref CDisk) "__setattr__" = some (some (.builtin "object.__setattr__")))
    (mkCDisk : PySem.W.makesIn K CDisk = true)
    (kcCDisk : PySem.W.keepIn K (.ref CDisk) = true)
    (nfCDisk_blocks : PySem.W.findIn K (.ref CDisk) "_blocks" = some none)
    (nfCDisk_waiting : PySem.W.findIn K (.ref CDisk) "_waiting" = some none)
    (nfCDisk_cuts : PySem.W.findIn K (.ref CDisk) "_cuts" = some none)
    (nfCDisk_schedule : PySem.W.findIn K (.ref CDisk) "_schedule" = some none)
    (a_law_cell : PySem.W.nsIn K mainGlobals "_law_cell" = some (some (.ref f_law_cell)))
    (l_law_cell : K.lookup f_law_cell = some ⟨oc_law_cell, od_law_cell, .func (PySem.W.fnOf "_law_cell" "_law_cell" (defArgs sCell) (defBody sCell) (defScope sCell) .none kV_law_cell dc_law_cell pm_law_cell an_law_cell cd_law_cell ct_law_cell), sl_law_cell⟩)
    (c_law_cell : PySem.W.codeIn K cd_law_cell "_law_cell" = true)
    (k_law_cell : PySem.W.keepIn K (.ref f_law_cell) = true)
    (a_law_draw : PySem.W.nsIn K mainGlobals "_law_draw" = some (some (.ref f_law_draw)))
    (l_law_draw : K.lookup f_law_draw = some ⟨oc_law_draw, od_law_draw, .func (PySem.W.fnOf "_law_draw" "_law_draw" (defArgs sDraw) (defBody sDraw) (defScope sDraw) .none kV_law_draw dc_law_draw pm_law_draw an_law_draw cd_law_draw ct_law_draw), sl_law_draw⟩)
    (c_law_draw : PySem.W.codeIn K cd_law_draw "_law_draw" = true)
    (k_law_draw : PySem.W.keepIn K (.ref f_law_draw) = true)
    (ais_block : PySem.W.nsIn K mainGlobals "is_block" = some (some (.ref fis_block)))
    (lis_block : K.lookup fis_block = some ⟨ocis_block, odis_block, .func (PySem.W.fnOf "is_block" "is_block" (defArgs s_is_block) (defBody s_is_block) (defScope s_is_block) .none kVis_block dcis_block pmis_block anis_block cdis_block ctis_block), slis_block⟩)
    (cis_block : PySem.W.codeIn K cdis_block "is_block" = true)
    (kis_block : PySem.W.keepIn K (.ref fis_block) = true)
    (aDisk_size : PySem.W.findIn K (.ref CDisk) "size" = some (some (.ref fDisk_size)))
    (iDisk_size : PySem.W.isFn K (.ref fDisk_size) = true)
    (lDisk_size : K.lookup fDisk_size = some ⟨ocDisk_size, odDisk_size, .func (PySem.W.fnOf "size" "Disk.size" (defArgs s_Disk_size) (defBody s_Disk_size) (defScope s_Disk_size) .none kVDisk_size dcDisk_size pmDisk_size anDisk_size cdDisk_size ctDisk_size), slDisk_size⟩)
    (cDisk_size : PySem.W.codeIn K cdDisk_size "Disk.size" = true)
    (kDisk_size : PySem.W.keepIn K (.ref fDisk_size) = true)
    (aDisk_init : PySem.W.findIn K (.ref CDisk) "__init__" = some (some (.ref fDisk_init)))
    (iDisk_init : PySem.W.isFn K (.ref fDisk_init) = true)
    (lDisk_init : K.lookup fDisk_init = some ⟨ocDisk_init, odDisk_init, .func (PySem.W.fnOf "__init__" "Disk.__init__" (defArgs s_Disk_init) (defBody s_Disk_init) (defScope s_Disk_init) .none kVDisk_init dcDisk_init pmDisk_init anDisk_init cdDisk_init ctDisk_init), slDisk_init⟩)
    (cDisk_init : PySem.W.codeIn K cdDisk_init "Disk.__init__" = true)
    (kDisk_init : PySem.W.keepIn K (.ref fDisk_init) = true)
    (aDisk_cut_power : PySem.W.findIn K (.ref CDisk) "cut_power" = some (some (.ref fDisk_cut_power)))
    (iDisk_cut_power : PySem.W.isFn K (.ref fDisk_cut_power) = true)
    (lDisk_cut_power : K.lookup fDisk_cut_power = some ⟨ocDisk_cut_power, odDisk_cut_power, .func (PySem.W.fnOf "cut_power" "Disk.cut_power" (defArgs s_Disk_cut_power) (defBody s_Disk_cut_power) (defScope s_Disk_cut_power) .none kVDisk_cut_power dcDisk_cut_power pmDisk_cut_power anDisk_cut_power cdDisk_cut_power ctDisk_cut_power), slDisk_cut_power⟩)
    (cDisk_cut_power : PySem.W.codeIn K cdDisk_cut_power "Disk.cut_power" = true)
    (kDisk_cut_power : PySem.W.keepIn K (.ref fDisk_cut_power) = true)
    (asign_of : PySem.W.nsIn K mainGlobals "sign_of" = some (some (.ref fsign_of)))
    (lsign_of : K.lookup fsign_of = some ⟨ocsign_of, odsign_of, .func (PySem.W.fnOf "sign_of" "sign_of" (defArgs s_sign_of) (defBody s_sign_of) (defScope s_sign_of) .none kVsign_of dcsign_of pmsign_of ansign_of cdsign_of ctsign_of), slsign_of⟩)
    (csign_of : PySem.W.codeIn K cdsign_of "sign_of" = true)
    (ksign_of : PySem.W.keepIn K (.ref fsign_of) = true)
    (ablock_of : PySem.W.nsIn K mainGlobals "block_of" = some (some (.ref fblock_of)))
    (lblock_of : K.lookup fblock_of = some ⟨ocblock_of, odblock_of, .func (PySem.W.fnOf "block_of" "block_of" (defArgs s_block_of) (defBody s_block_of) (defScope s_block_of) .none kVblock_of dcblock_of pmblock_of anblock_of cdblock_of ctblock_of), slblock_of⟩)
    (cblock_of : PySem.W.codeIn K cdblock_of "block_of" = true)
    (kblock_of : PySem.W.keepIn K (.ref fblock_of) = true)
    (adecode_head : PySem.W.nsIn K mainGlobals "decode_head" = some (some (.ref fdecode_head)))
    (ldecode_head : K.lookup fdecode_head = some ⟨ocdecode_head, oddecode_head, .func (PySem.W.fnOf "decode_head" "decode_head" (defArgs s_decode_head) (defBody s_decode_head) (defScope s_decode_head) .none kVdecode_head dcdecode_head pmdecode_head andecode_head cddecode_head ctdecode_head), sldecode_head⟩)
    (cdecode_head : PySem.W.codeIn K cddecode_head "decode_head" = true)
    (kdecode_head : PySem.W.keepIn K (.ref fdecode_head) = true)
    (a_law_digits : PySem.W.nsIn K mainGlobals "_law_digits" = some (some (.ref f_law_digits)))
    (l_law_digits : K.lookup f_law_digits = some ⟨oc_law_digits, od_law_digits, .func (PySem.W.fnOf "_law_digits" "_law_digits" (defArgs sDig) (defBody sDig) (defScope sDig) .none kV_law_digits dc_law_digits pm_law_digits an_law_digits cd_law_digits ct_law_digits), sl_law_digits⟩)
    (c_law_digits : PySem.W.codeIn K cd_law_digits "_law_digits" = true)
    (k_law_digits : PySem.W.keepIn K (.ref f_law_digits) = true)
    (a_law_stored_text : PySem.W.nsIn K mainGlobals "_law_stored_text" = some (some (.ref f_law_stored_text)))
    (l_law_stored_text : K.lookup f_law_stored_text = some ⟨oc_law_stored_text, od_law_stored_text, .func (PySem.W.fnOf "_law_stored_text" "_law_stored_text" (defArgs s__law_stored_text) (defBody s__law_stored_text) (defScope s__law_stored_text) .none kV_law_stored_text dc_law_stored_text pm_law_stored_text an_law_stored_text cd_law_stored_text ct_law_stored_text), sl_law_stored_text⟩)
    (c_law_stored_text : PySem.W.codeIn K cd_law_stored_text "_law_stored_text" = true)
    (k_law_stored_text : PySem.W.keepIn K (.ref f_law_stored_text) = true)
    (aDisk_check_place : PySem.W.findIn K (.ref CDisk) "_check_place" = some (some (.ref fDisk_check_place)))
    (iDisk_check_place : PySem.W.isFn K (.ref fDisk_check_place) = true)
    (lDisk_check_place : K.lookup fDisk_check_place = some ⟨ocDisk_check_place, odDisk_check_place, .func (PySem.W.fnOf "_check_place" "Disk._check_place" (defArgs s_Disk_check_place) (defBody s_Disk_check_place) (defScope s_Disk_check_place) .none kVDisk_check_place dcDisk_check_place pmDisk_check_place anDisk_check_place cdDisk_check_place ctDisk_check_place), slDisk_check_place⟩)
    (cDisk_check_place : PySem.W.codeIn K cdDisk_check_place "Disk._check_place" = true)
    (kDisk_check_place : PySem.W.keepIn K (.ref fDisk_check_place) = true)
    (aDisk_count_down : PySem.W.findIn K (.ref CDisk) "_count_down" = some (some (.ref fDisk_count_down)))
    (iDisk_count_down : PySem.W.isFn K (.ref fDisk_count_down) = true)
    (lDisk_count_down : K.lookup fDisk_count_down = some ⟨ocDisk_count_down, odDisk_count_down, .func (PySem.W.fnOf "_count_down" "Disk._count_down" (defArgs s_Disk_count_down) (defBody s_Disk_count_down) (defScope s_Disk_count_down) .none kVDisk_count_down dcDisk_count_down pmDisk_count_down anDisk_count_down cdDisk_count_down ctDisk_count_down), slDisk_count_down⟩)
    (cDisk_count_down : PySem.W.codeIn K cdDisk_count_down "Disk._count_down" = true)
    (kDisk_count_down : PySem.W.keepIn K (.ref fDisk_count_down) = true)
    (aencode_record : PySem.W.nsIn K mainGlobals "encode_record" = some (some (.ref fencode_record)))
    (lencode_record : K.lookup fencode_record = some ⟨ocencode_record, odencode_record, .func (PySem.W.fnOf "encode_record" "encode_record" (defArgs s_encode_record) (defBody s_encode_record) (defScope s_encode_record) .none kVencode_record dcencode_record pmencode_record anencode_record cdencode_record ctencode_record), slencode_record⟩)
    (cencode_record : PySem.W.codeIn K cdencode_record "encode_record" = true)
    (kencode_record : PySem.W.keepIn K (.ref fencode_record) = true)
    (adecode_piece : PySem.W.nsIn K mainGlobals "decode_piece" = some (some (.ref fdecode_piece)))
    (ldecode_piece : K.lookup fdecode_piece = some ⟨ocdecode_piece, oddecode_piece, .func (PySem.W.fnOf "decode_piece" "decode_piece" (defArgs s_decode_piece) (defBody s_decode_piece) (defScope s_decode_piece) .none kVdecode_piece dcdecode_piece pmdecode_piece andecode_piece cddecode_piece ctdecode_piece), sldecode_piece⟩)
    (cdecode_piece : PySem.W.codeIn K cddecode_piece "decode_piece" = true)
    (kdecode_piece : PySem.W.keepIn K (.ref fdecode_piece) = true)
    (aencode_head : PySem.W.nsIn K mainGlobals "encode_head" = some (some (.ref fencode_head)))
    (lencode_head : K.lookup fencode_head = some ⟨ocencode_head, odencode_head, .func (PySem.W.fnOf "encode_head" "encode_head" (defArgs s_encode_head) (defBody s_encode_head) (defScope s_encode_head) .none kVencode_head dcencode_head pmencode_head anencode_head cdencode_head ctencode_head), slencode_head⟩)
    (cencode_head : PySem.W.codeIn K cdencode_head "encode_head" = true)
    (kencode_head : PySem.W.keepIn K (.ref fencode_head) = true)
    (aDisk_read : PySem.W.findIn K (.ref CDisk) "read" = some (some (.ref fDisk_read)))
    (iDisk_read : PySem.W.isFn K (.ref fDisk_read) = true)
    (lDisk_read : K.lookup fDisk_read = some ⟨ocDisk_read, odDisk_read, .func (PySem.W.fnOf "read" "Disk.read" (defArgs s_Disk_read) (defBody s_Disk_read) (defScope s_Disk_read) .none kVDisk_read dcDisk_read pmDisk_read anDisk_read cdDisk_read ctDisk_read), slDisk_read⟩)
    (cDisk_read : PySem.W.codeIn K cdDisk_read "Disk.read" = true)
    (kDisk_read : PySem.W.keepIn K (.ref fDisk_read) = true)
    (aDisk_write : PySem.W.findIn K (.ref CDisk) "write" = some (some (.ref fDisk_write)))
    (iDisk_write : PySem.W.isFn K (.ref fDisk_write) = true)
    (lDisk_write : K.lookup fDisk_write = some ⟨ocDisk_write, odDisk_write, .func (PySem.W.fnOf "write" "Disk.write" (defArgs s_Disk_write) (defBody s_Disk_write) (defScope s_Disk_write) .none kVDisk_write dcDisk_write pmDisk_write anDisk_write cdDisk_write ctDisk_write), slDisk_write⟩)
    (cDisk_write : PySem.W.codeIn K cdDisk_write "Disk.write" = true)
    (kDisk_write : PySem.W.keepIn K (.ref fDisk_write) = true)
    (anewest_head : PySem.W.nsIn K mainGlobals "newest_head" = some (some (.ref fnewest_head)))
    (lnewest_head : K.lookup fnewest_head = some ⟨ocnewest_head, odnewest_head, .func (PySem.W.fnOf "newest_head" "newest_head" (defArgs s_newest_head) (defBody s_newest_head) (defScope s_newest_head) .none kVnewest_head dcnewest_head pmnewest_head annewest_head cdnewest_head ctnewest_head), slnewest_head⟩)
    (cnewest_head : PySem.W.codeIn K cdnewest_head "newest_head" = true)
    (knewest_head : PySem.W.keepIn K (.ref fnewest_head) = true)
    (a_law_newest : PySem.W.nsIn K mainGlobals "_law_newest" = some (some (.ref f_law_newest)))
    (l_law_newest : K.lookup f_law_newest = some ⟨oc_law_newest, od_law_newest, .func (PySem.W.fnOf "_law_newest" "_law_newest" (defArgs s__law_newest) (defBody s__law_newest) (defScope s__law_newest) .none kV_law_newest dc_law_newest pm_law_newest an_law_newest cd_law_newest ct_law_newest), sl_law_newest⟩)
    (c_law_newest : PySem.W.codeIn K cd_law_newest "_law_newest" = true)
    (k_law_newest : PySem.W.keepIn K (.ref f_law_newest) = true)
    (alaw : PySem.W.nsIn K mainGlobals "law" = some (some (.ref flaw)))
    (llaw : K.lookup flaw = some ⟨oclaw, odlaw, .func (PySem.W.fnOf "law" "law" (defArgs s_law) (defBody s_law) (defScope s_law) .none kVlaw dclaw pmlaw anlaw cdlaw ctlaw), sllaw⟩)
    (claw : PySem.W.codeIn K cdlaw "law" = true)
    (klaw : PySem.W.keepIn K (.ref flaw) = true)
    (z_all : PySem.W.nsIn K mainGlobals "all" = some none)
    (z_any : PySem.W.nsIn K mainGlobals "any" = some none)
    (z_enumerate : PySem.W.nsIn K mainGlobals "enumerate" = some none)
    (z_int : PySem.W.nsIn K mainGlobals "int" = some none)
    (z_len : PySem.W.nsIn K mainGlobals "len" = some none)
    (z_list : PySem.W.nsIn K mainGlobals "list" = some none)
    (z_max : PySem.W.nsIn K mainGlobals "max" = some none)
    (z_ord : PySem.W.nsIn K mainGlobals "ord" = some none)
    (z_range : PySem.W.nsIn K mainGlobals "range" = some none)
    (z_super : PySem.W.nsIn K mainGlobals "super" = some none)
    (z_zip : PySem.W.nsIn K mainGlobals "zip" = some none)
    (g_BLANK : PySem.W.nsIn K mainGlobals "BLANK" = some (some (.int 32 tk_BLANK)))
    (g_BLOCK : PySem.W.nsIn K mainGlobals "BLOCK" = some (some (.int 32 tk_BLOCK)))
    (g_BLOCKS_LEAST : PySem.W.nsIn K mainGlobals "BLOCKS_LEAST" = some (some (.int 8 tk_BLOCKS_LEAST)))
    (g_BLOCKS_MOST : PySem.W.nsIn K mainGlobals "BLOCKS_MOST" = some (some (.int 400 tk_BLOCKS_MOST)))
    (g_BYTES : PySem.W.nsIn K mainGlobals "BYTES" = some (some (.int 256 tk_BYTES)))
    (g_BYTE_MOST : PySem.W.nsIn K mainGlobals "BYTE_MOST" = some (some (.int 255 tk_BYTE_MOST)))
    (g_CHANGES_MARK : PySem.W.nsIn K mainGlobals "CHANGES_MARK" = some (some (.int 77 tk_CHANGES_MARK)))
    (g_ENTITY_MARK : PySem.W.nsIn K mainGlobals "ENTITY_MARK" = some (some (.int 83 tk_ENTITY_MARK)))
    (g_GENERATIONS : PySem.W.nsIn K mainGlobals "GENERATIONS" = some (some (.int 256 tk_GENERATIONS)))
    (g_HEAD_MARK : PySem.W.nsIn K mainGlobals "HEAD_MARK" = some (some (.int 72 tk_HEAD_MARK)))
    (g_HIGH_SIGNS : PySem.W.nsIn K mainGlobals "HIGH_SIGNS" = some (some (.str "&'()*+,-./0123456789:;<=>?@ABCDEFGHIJKLMNOPQRSTUVWXYZ[\\]^_`abcdefghijklmnopqrstuvwxyz{|}~" tk_HIGH_SIGNS)))
    (g_LOW_SIGNS : PySem.W.nsIn K mainGlobals "LOW_SIGNS" = some (some (.str " !\"#$" tk_LOW_SIGNS)))
    (g_NEWLINE : PySem.W.nsIn K mainGlobals "NEWLINE" = some (some (.int 10 tk_NEWLINE)))
    (g_PERCENT : PySem.W.nsIn K mainGlobals "PERCENT" = some (some (.int 37 tk_PERCENT)))
    (g_PIECE : PySem.W.nsIn K mainGlobals "PIECE" = some (some (.int 24 tk_PIECE)))
    (g_PIECES_MOST : PySem.W.nsIn K mainGlobals "PIECES_MOST" = some (some (.int 255 tk_PIECES_MOST)))
    (anyT : PySem.W.nsIn K cStatics "thirdparty.any" = some none)
    (ltop : (l.prog.main.scope.names.lookup ("super" : Str)).isSome = false)
    (aCOutOfRange : PySem.W.nsIn K mainGlobals "OutOfRange" = some (some (.ref COutOfRange)))
    (xXOutOfRange : K.lookup COutOfRange = some (excClassObj nmXOutOfRange qXOutOfRange COutOfRange NCOutOfRange bsXOutOfRange bmXOutOfRange true snXOutOfRange subXOutOfRange abXOutOfRange colXOutOfRange ddXOutOfRange m0XOutOfRange m1XOutOfRange m2XOutOfRange m3XOutOfRange m5XOutOfRange "ValueError.__new__"))
    (saXOutOfRange : PySem.W.findIn K (.ref COutOfRange) "__setattr__" = some (some (.builtin "object.__setattr__")))
    (gaXOutOfRange : PySem.W.findIn K (.ref COutOfRange) "__getattribute__" = some (some (.builtin "BaseException.__getattribute__")))
    (ggXOutOfRange : PySem.W.findIn K (.ref COutOfRange) "__getattr__" = some none)
    (noXOutOfRange0 : PySem.W.findIn K (.ref COutOfRange) "name" = some none)
    (icXOutOfRange : PySem.W.findIn K (.ref COutOfRange) "__init__" = some (some (.ref iOutOfRange)))
    (tyiXOutOfRange : PySem.W.typeIn K (.ref iOutOfRange) = some (.type "function"))
    (koXOutOfRange : PySem.W.keepIn K (.ref COutOfRange) = true)
    (exXOutOfRange : PySem.W.subIn K (.ref COutOfRange) (.type "BaseException") = some true)
    (tyXOutOfRange : PySem.W.typeIn K (.ref COutOfRange) = some (.type "type"))
    (veXOutOfRange : PySem.W.subIn K (.ref COutOfRange) (.type "ValueError") = some true)
    (owXOutOfRange : PySem.W.mroIn K COutOfRange (.ref COutOfRange) = some true)
    (hdXOutOfRange : PySem.W.hasDictIn K COutOfRange = true)
    (liXOutOfRange : K.lookup iOutOfRange = some ⟨oiXOutOfRange, odiXOutOfRange, .func (PySem.W.ksFn "__init__" "OutOfRange.__init__" (defArgs PySem.OorX.sInit) (defBody PySem.OorX.sInit) (defScope PySem.OorX.sInit) .none .none diXOutOfRange piXOutOfRange aniXOutOfRange (.ref cdaXOutOfRange) tiXOutOfRange ccXOutOfRange), sliXOutOfRange⟩)
    (ciXOutOfRange : PySem.W.codeIn K (.ref cdaXOutOfRange) "OutOfRange.__init__" = true)
    (ldXOutOfRange : K.lookup cdaXOutOfRange = some ⟨cclXOutOfRange, cddXOutOfRange, .fields cvsXOutOfRange, ccsXOutOfRange⟩)
    (lvXOutOfRange : cvsXOutOfRange[2]? = some (.str fileXOutOfRange tfXOutOfRange))
    (lfXOutOfRange : ((l.prog.main.file : Str) == fileXOutOfRange) = true)
    (lcXOutOfRange : K.lookup ccXOutOfRange = some ⟨clXOutOfRange, cldXOutOfRange, .cell (some (.ref COutOfRange)), cslXOutOfRange⟩)
    (hbXOutOfRange : PySem.HandSPX.refsVE bmXOutOfRange = true)
    (supXOutOfRange : PySem.W.ks_superIn K COutOfRange COutOfRange "__init__" = some (some (.builtin "ValueError.__init__")))
    (exmXOutOfRange : PySem.W.exmOne K (.ref COutOfRange) (.ref COutOfRange) = some true)
    (aCPowerCut : PySem.W.nsIn K mainGlobals "PowerCut" = some (some (.ref CPowerCut)))
    (qXPowerCut : PySem.W.excIn K CPowerCut [.type "ValueError", .type "Exception", .type "BaseException", .type "object"] "ValueError.__new__" = true)
    (koXPowerCut : PySem.W.keepIn K (.ref CPowerCut) = true)
    (exXPowerCut : PySem.W.subIn K (.ref CPowerCut) (.type "BaseException") = some true)
    (tyXPowerCut : PySem.W.typeIn K (.ref CPowerCut) = some (.type "type"))
    (gaXPowerCut : PySem.W.findIn K (.ref CPowerCut) "__getattribute__" = some (some (.builtin "BaseException.__getattribute__")))
    (ggXPowerCut : PySem.W.findIn K (.ref CPowerCut) "__getattr__" = some none)
    (hdXPowerCut : PySem.W.hasDictIn K CPowerCut = true)
    (exmXPowerCut : PySem.W.exmOne K (.ref CPowerCut) (.ref CPowerCut) = some true)
    : ∃ fd : FuncData, (∀ (s : Shared) (v : Value), BindsTo s fd ⟨[v], []⟩ [("script", v)]) ∧ ∀ base : Heap, K.In base → base.Ns mainGlobals mg → FnG l.prog w K mg base CX0 7 fa fd ["script"] (DL.spLaw K) := by
  have e := hfa.symm.trans (PySem.W.mg_of X G alaw)
  cases e
  have g := fun {x : Str} {v : Value} (q : PySem.W.nsIn K mainGlobals x = some (some v)) => PySem.W.mg_of X G q
  have gn := fun {x : Str} (q : PySem.W.nsIn K mainGlobals x = some none) => PySem.W.mg_none_of X G q
  have clCDisk : Cls K CDisk := ⟨pgCDisk, hdCDisk, poCDisk, saCDisk⟩
  have F_law_cell := fun_mk (st := sCell) l_law_cell c_law_cell k_law_cell
  have D_law_cell := fund_of (st := sCell) l_law_cell c_law_cell k_law_cell
  have b_law_cell := F_law_cell.binds (ps := ["script", "k"]) fun _ _ _ _ _ _ us hl => match us, hl with | [_, _], _ => rfl
  have F_law_draw := fun_mk (st := sDraw) l_law_draw c_law_draw k_law_draw
  have D_law_draw := fund_of (st := sDraw) l_law_draw c_law_draw k_law_draw
  have b_law_draw := F_law_draw.binds (ps := ["box", "many"]) fun _ _ _ _ _ _ us hl => match us, hl with | [_, _], _ => rfl
  have Fis_block := fun_mk (st := s_is_block) lis_block cis_block kis_block
  have Dis_block := fund_of (st := s_is_block) lis_block cis_block kis_block
  have bis_block := Fis_block.binds (ps := ["block"]) fun _ _ _ _ _ _ us hl => match us, hl with | [_], _ => rfl
  have FDisk_size := fun_mk (st := s_Disk_size) lDisk_size cDisk_size kDisk_size
  have DDisk_size := fund_of (st := s_Disk_size) lDisk_size cDisk_size kDisk_size
  have bDisk_size := FDisk_size.binds (ps := ["self"]) fun _ _ _ _ _ _ us hl => match us, hl with | [_], _ => rfl
  have FDisk_init := fun_mk (st := s_Disk_init) lDisk_init cDisk_init kDisk_init
  have DDisk_init := fund_of (st := s_Disk_init) lDisk_init cDisk_init kDisk_init
  have bDisk_init := FDisk_init.binds (ps := ["self", "blocks"]) fun _ _ _ _ _ _ us hl => match us, hl with | [_, _], _ => rfl
  have FDisk_cut_power := fun_mk (st := s_Disk_cut_power) lDisk_cut_power cDisk_cut_power kDisk_cut_power
  have DDisk_cut_power := fund_of (st := s_Disk_cut_power) lDisk_cut_power cDisk_cut_power kDisk_cut_power
  have bDisk_cut_power := FDisk_cut_power.binds (ps := ["self", "torn"]) fun _ _ _ _ _ _ us hl => match us, hl with | [_, _], _ => rfl
  have Fsign_of := fun_mk (st := s_sign_of) lsign_of csign_of ksign_of
  have Dsign_of := fund_of (st := s_sign_of) lsign_of csign_of ksign_of
  have bsign_of := Fsign_of.binds (ps := ["code"]) fun _ _ _ _ _ _ us hl => match us, hl with | [_], _ => rfl
  have Fblock_of := fun_mk (st := s_block_of) lblock_of cblock_of kblock_of
  have Dblock_of := fund_of (st := s_block_of) lblock_of cblock_of kblock_of
  have bblock_of := Fblock_of.binds (ps := ["start", "end"]) fun _ _ _ _ _ _ us hl => match us, hl with | [_, _], _ => rfl
  have Fdecode_head := fun_mk (st := s_decode_head) ldecode_head cdecode_head kdecode_head
  have Ddecode_head := fund_of (st := s_decode_head) ldecode_head cdecode_head kdecode_head
  have bdecode_head := Fdecode_head.binds (ps := ["block"]) fun _ _ _ _ _ _ us hl => match us, hl with | [_], _ => rfl
  have F_law_digits := fun_mk (st := sDig) l_law_digits c_law_digits k_law_digits
  have D_law_digits := fund_of (st := sDig) l_law_digits c_law_digits k_law_digits
  have b_law_digits := F_law_digits.binds (ps := ["script", "first", "last"]) fun _ _ _ _ _ _ us hl => match us, hl with | [_, _, _], _ => rfl
  have F_law_stored_text := fun_mk (st := s__law_stored_text) l_law_stored_text c_law_stored_text k_law_stored_text
  have D_law_stored_text := fund_of (st := s__law_stored_text) l_law_stored_text c_law_stored_text k_law_stored_text
  have b_law_stored_text := F_law_stored_text.binds (ps := ["box", "many"]) fun _ _ _ _ _ _ us hl => match us, hl with | [_, _], _ => rfl
  have FDisk_check_place := fun_mk (st := s_Disk_check_place) lDisk_check_place cDisk_check_place kDisk_check_place
  have DDisk_check_place := fund_of (st := s_Disk_check_place) lDisk_check_place cDisk_check_place kDisk_check_place
  have bDisk_check_place := FDisk_check_place.binds (ps := ["self", "at"]) fun _ _ _ _ _ _ us hl => match us, hl with | [_, _], _ => rfl
  have FDisk_count_down := fun_mk (st := s_Disk_count_down) lDisk_count_down cDisk_count_down kDisk_count_down
  have DDisk_count_down := fund_of (st := s_Disk_count_down) lDisk_count_down cDisk_count_down kDisk_count_down
  have bDisk_count_down := FDisk_count_down.binds (ps := ["self"]) fun _ _ _ _ _ _ us hl => match us, hl with | [_], _ => rfl
  have Fencode_record := fun_mk (st := s_encode_record) lencode_record cencode_record kencode_record
  have Dencode_record := fund_of (st := s_encode_record) lencode_record cencode_record kencode_record
  have bencode_record := Fencode_record.binds (ps := ["mark", "number", "text"]) fun _ _ _ _ _ _ us hl => match us, hl with | [_, _, _], _ => rfl
  have Fdecode_piece := fun_mk (st := s_decode_piece) ldecode_piece cdecode_piece kdecode_piece
  have Ddecode_piece := fund_of (st := s_decode_piece) ldecode_piece cdecode_piece kdecode_piece
  have bdecode_piece := Fdecode_piece.binds (ps := ["block"]) fun _ _ _ _ _ _ us hl => match us, hl with | [_], _ => rfl
  have Fencode_head := fun_mk (st := s_encode_head) lencode_head cencode_head kencode_head
  have Dencode_head := fund_of (st := s_encode_head) lencode_head cencode_head kencode_head
  have bencode_head := Fencode_head.binds (ps := ["generation", "base", "many"]) fun _ _ _ _ _ _ us hl => match us, hl with | [_, _, _], _ => rfl
  have FDisk_read := fun_mk (st := s_Disk_read) lDisk_read cDisk_read kDisk_read
  have DDisk_read := fund_of (st := s_Disk_read) lDisk_read cDisk_read kDisk_read
  have bDisk_read := FDisk_read.binds (ps := ["self", "at"]) fun _ _ _ _ _ _ us hl => match us, hl with | [_, _], _ => rfl
  have FDisk_write := fun_mk (st := s_Disk_write) lDisk_write cDisk_write kDisk_write
  have DDisk_write := fund_of (st := s_Disk_write) lDisk_write cDisk_write kDisk_write
  have bDisk_write := FDisk_write.binds (ps := ["self", "at", "block"]) fun _ _ _ _ _ _ us hl => match us, hl with | [_, _, _], _ => rfl
  have Fnewest_head := fun_mk (st := s_newest_head) lnewest_head cnewest_head knewest_head
  have Dnewest_head := fund_of (st := s_newest_head) lnewest_head cnewest_head knewest_head
  have bnewest_head := Fnewest_head.binds (ps := ["disk"]) fun _ _ _ _ _ _ us hl => match us, hl with | [_], _ => rfl
  have F_law_newest := fun_mk (st := s__law_newest) l_law_newest c_law_newest k_law_newest
  have D_law_newest := fund_of (st := s__law_newest) l_law_newest c_law_newest k_law_newest
  have b_law_newest := F_law_newest.binds (ps := ["one", "two"]) fun _ _ _ _ _ _ us hl => match us, hl with | [_, _], _ => rfl
  have Flaw := fun_mk (st := s_law) llaw claw klaw
  have Dlaw := fund_of (st := s_law) llaw claw klaw
  have OXOutOfRange : PySem.OorX.OorTxt l.prog K mg COutOfRange iOutOfRange :=
    ⟨g aCOutOfRange, ⟨nmXOutOfRange, qXOutOfRange, NCOutOfRange, bsXOutOfRange, bmXOutOfRange, snXOutOfRange, subXOutOfRange, abXOutOfRange, colXOutOfRange, ddXOutOfRange, m0XOutOfRange, m1XOutOfRange, m2XOutOfRange, m3XOutOfRange, m5XOutOfRange, xXOutOfRange, hbXOutOfRange⟩, saXOutOfRange, noXOutOfRange0, icXOutOfRange, tyiXOutOfRange, koXOutOfRange, exXOutOfRange, tyXOutOfRange, supXOutOfRange, anyT, veXOutOfRange, owXOutOfRange, gn z_super, ltop,
      ⟨_, _, _, _, _, _, _, ccXOutOfRange, cdaXOutOfRange, _, _, cvsXOutOfRange, _, fileXOutOfRange, tfXOutOfRange, _, _, _, liXOutOfRange, ciXOutOfRange, ldXOutOfRange, lvXOutOfRange, lfXOutOfRange, lcXOutOfRange⟩⟩
  have xfXOutOfRange : XfC K COutOfRange := ⟨gaXOutOfRange, ggXOutOfRange, exXOutOfRange, hdXOutOfRange⟩
  have RXXPowerCut : RxC K mg "PowerCut" CPowerCut := ⟨g aCPowerCut, qXPowerCut, koXPowerCut, exXPowerCut, tyXPowerCut⟩
  have xfXPowerCut : XfC K CPowerCut := ⟨gaXPowerCut, ggXPowerCut, exXPowerCut, hdXPowerCut⟩
  have G_BLANK : GlobD K mg "BLANK" c_BLANK := ⟨.int 32, .int 32 tk_BLANK, g g_BLANK, ⟨tk_BLANK, rfl⟩, fun _ => .int _⟩
  have G_BLOCK : GlobD K mg "BLOCK" c_BLOCK := ⟨.int 32, .int 32 tk_BLOCK, g g_BLOCK, ⟨tk_BLOCK, rfl⟩, fun _ => .int _⟩
  have G_BLOCKS_LEAST : GlobD K mg "BLOCKS_LEAST" c_BLOCKS_LEAST := ⟨.int 8, .int 8 tk_BLOCKS_LEAST, g g_BLOCKS_LEAST, ⟨tk_BLOCKS_LEAST, rfl⟩, fun _ => .int _⟩
  have G_BLOCKS_MOST : GlobD K mg "BLOCKS_MOST" c_BLOCKS_MOST := ⟨.int 400, .int 400 tk_BLOCKS_MOST, g g_BLOCKS_MOST, ⟨tk_BLOCKS_MOST, rfl⟩, fun _ => .int _⟩
  have G_BYTES : GlobD K mg "BYTES" c_BYTES := ⟨.int 256, .int 256 tk_BYTES, g g_BYTES, ⟨tk_BYTES, rfl⟩, fun _ => .int _⟩
  have G_BYTE_MOST : GlobD K mg "BYTE_MOST" c_BYTE_MOST := ⟨.int 255, .int 255 tk_BYTE_MOST, g g_BYTE_MOST, ⟨tk_BYTE_MOST, rfl⟩, fun _ => .int _⟩
  have G_CHANGES_MARK : GlobD K mg "CHANGES_MARK" c_CHANGES_MARK := ⟨.int 77, .int 77 tk_CHANGES_MARK, g g_CHANGES_MARK, ⟨tk_CHANGES_MARK, rfl⟩, fun _ => .int _⟩
  have G_ENTITY_MARK : GlobD K mg "ENTITY_MARK" c_ENTITY_MARK := ⟨.int 83, .int 83 tk_ENTITY_MARK, g g_ENTITY_MARK, ⟨tk_ENTITY_MARK, rfl⟩, fun _ => .int _⟩
  have G_GENERATIONS : GlobD K mg "GENERATIONS" c_GENERATIONS := ⟨.int 256, .int 256 tk_GENERATIONS, g g_GENERATIONS, ⟨tk_GENERATIONS, rfl⟩, fun _ => .int _⟩
  have G_HEAD_MARK : GlobD K mg "HEAD_MARK" c_HEAD_MARK := ⟨.int 72, .int 72 tk_HEAD_MARK, g g_HEAD_MARK, ⟨tk_HEAD_MARK, rfl⟩, fun _ => .int _⟩
  have G_HIGH_SIGNS : GlobD K mg "HIGH_SIGNS" c_HIGH_SIGNS := ⟨.str "&'()*+,-./0123456789:;<=>?@ABCDEFGHIJKLMNOPQRSTUVWXYZ[\\]^_`abcdefghijklmnopqrstuvwxyz{|}~", .str "&'()*+,-./0123456789:;<=>?@ABCDEFGHIJKLMNOPQRSTUVWXYZ[\\]^_`abcdefghijklmnopqrstuvwxyz{|}~" tk_HIGH_SIGNS, g g_HIGH_SIGNS, ⟨tk_HIGH_SIGNS, rfl⟩, fun _ => .str _ (okS_of (by decide +kernel) (by decide +kernel))⟩
  have G_LOW_SIGNS : GlobD K mg "LOW_SIGNS" c_LOW_SIGNS := ⟨.str " !\"#$", .str " !\"#$" tk_LOW_SIGNS, g g_LOW_SIGNS, ⟨tk_LOW_SIGNS, rfl⟩, fun _ => .str _ (okS_of (by decide +kernel) (by decide +kernel))⟩
  have G_NEWLINE : GlobD K mg "NEWLINE" c_NEWLINE := ⟨.int 10, .int 10 tk_NEWLINE, g g_NEWLINE, ⟨tk_NEWLINE, rfl⟩, fun _ => .int _⟩
  have G_PERCENT : GlobD K mg "PERCENT" c_PERCENT := ⟨.int 37, .int 37 tk_PERCENT, g g_PERCENT, ⟨tk_PERCENT, rfl⟩, fun _ => .int _⟩
  have G_PIECE : GlobD K mg "PIECE" c_PIECE := ⟨.int 24, .int 24 tk_PIECE, g g_PIECE, ⟨tk_PIECE, rfl⟩, fun _ => .int _⟩
  have G_PIECES_MOST : GlobD K mg "PIECES_MOST" c_PIECES_MOST := ⟨.int 255, .int 255 tk_PIECES_MOST, g g_PIECES_MOST, ⟨tk_PIECES_MOST, rfl⟩, fun _ => .int _⟩
  have TT : Fx l.prog w K mg := { oor := ⟨_, _, OXOutOfRange⟩, rx_PowerCut := ⟨_, RXXPowerCut⟩, z_all := gn z_all, z_any := gn z_any, z_enumerate := gn z_enumerate, z_int := gn z_int, z_len := gn z_len, z_list := gn z_list, z_max := gn z_max, z_ord := gn z_ord, z_range := gn z_range, z_super := gn z_super, z_zip := gn z_zip, g_BLOCK := G_BLOCK, g_BLOCKS_LEAST := G_BLOCKS_LEAST, g_BLOCKS_MOST := G_BLOCKS_MOST, g_BYTE_MOST := G_BYTE_MOST, g_PERCENT := G_PERCENT, g_PIECE := G_PIECE, g_PIECES_MOST := G_PIECES_MOST, g_CHANGES_MARK := G_CHANGES_MARK, g_ENTITY_MARK := G_ENTITY_MARK, g_HEAD_MARK := G_HEAD_MARK, g_BYTES := G_BYTES, g_NEWLINE := G_NEWLINE, g_BLANK := G_BLANK, g_LOW_SIGNS := G_LOW_SIGNS, g_HIGH_SIGNS := G_HIGH_SIGNS, g_GENERATIONS := G_GENERATIONS, of_Disk_blocks := ⟨_, g aCDisk, clCDisk, nfCDisk_blocks⟩, of_Disk_waiting := ⟨_, g aCDisk, clCDisk, nfCDisk_waiting⟩, of_Disk_cuts := ⟨_, g aCDisk, clCDisk, nfCDisk_cuts⟩, of_Disk_schedule := ⟨_, g aCDisk, clCDisk, nfCDisk_schedule⟩ }
  have TL : TxtL K mg := ⟨gn z_len, gn z_int, gn z_range⟩
  refine ⟨PySem.W.fnOf "law" "law" (defArgs s_law) (defBody s_law) (defScope s_law) .none kVlaw dclaw pmlaw anlaw cdlaw ctlaw, fun s v => .of_eq rfl, fun base _ _ => ?_⟩
  have gC' := ok_cell (P := l.prog) (w := w) (base := base) F_law_cell TL
  have gD' := ok_dig F_law_digits TL gC' b_law_cell (g a_law_cell) k_law_cell
  have cD' : Cal l.prog w K mg base 2 "_law_digits" ["script", "first", "last"] (DL.spDig K) := ⟨_, _, gD', b_law_digits, g a_law_digits, k_law_digits⟩
  have c__law_draw : DCal K mg l.prog w base box 1 "_law_draw" ["box", "many"] [] sp__law_draw := draw_cal (ok_draw F_law_draw TL) b_law_draw (g a_law_draw) k_law_draw
  have c_is_block := ok_is_block (P := l.prog) (w := w) (base := base) TT (by first | exact psp_mono | exact fsp_mono | exact rsp_mono | exact dsp_mono | exact msp_mono) h_is_block Dis_block bis_block (g ais_block) kis_block
  have c_Disk_size := ok_Disk_size (P := l.prog) (w := w) (base := base) TT (by first | exact psp_mono | exact fsp_mono | exact rsp_mono | exact dsp_mono | exact msp_mono | exact isp_mono) h_Disk_size DDisk_size bDisk_size (g aCDisk) clCDisk ⟨aDisk_size, iDisk_size, kDisk_size⟩
  have c_Disk_init := ok_Disk_init (P := l.prog) (w := w) (base := base) TT (by first | exact psp_mono | exact fsp_mono | exact rsp_mono | exact dsp_mono | exact msp_mono | exact isp_mono) h_Disk_init DDisk_init bDisk_init (g aCDisk) ⟨mkCDisk, aDisk_init, iDisk_init, kcCDisk⟩
  have c_Disk_cut_power := ok_Disk_cut_power (P := l.prog) (w := w) (base := base) bDisk_cut_power (g aCDisk) clCDisk ⟨aDisk_cut_power, iDisk_cut_power, kDisk_cut_power⟩
  have c_sign_of := ok_sign_of (P := l.prog) (w := w) (base := base) TT (by first | exact psp_mono | exact fsp_mono | exact rsp_mono | exact dsp_mono | exact msp_mono) h_sign_of Dsign_of bsign_of (g asign_of) ksign_of
  have c_block_of := ok_block_of (P := l.prog) (w := w) (base := base) TT (by first | exact psp_mono | exact fsp_mono | exact rsp_mono | exact dsp_mono | exact msp_mono) h_block_of Dblock_of bblock_of (g ablock_of) kblock_of
  have c_decode_head := ok_decode_head (P := l.prog) (w := w) (base := base) TT (by first | exact psp_mono | exact fsp_mono | exact rsp_mono | exact dsp_mono | exact msp_mono) h_decode_head Ddecode_head bdecode_head (g adecode_head) kdecode_head
  have c__law_stored_text := ok__law_stored_text (P := l.prog) (w := w) (base := base) TT c__law_draw (by first | exact psp_mono | exact fsp_mono | exact rsp_mono | exact dsp_mono | exact msp_mono) h__law_stored_text D_law_stored_text b_law_stored_text (g a_law_stored_text) k_law_stored_text
  have c_Disk_check_place := ok_Disk_check_place (P := l.prog) (w := w) (base := base) TT c_Disk_size (by first | exact psp_mono | exact fsp_mono | exact rsp_mono | exact dsp_mono | exact msp_mono | exact isp_mono) h_Disk_check_place DDisk_check_place bDisk_check_place (g aCDisk) clCDisk ⟨aDisk_check_place, iDisk_check_place, kDisk_check_place⟩
  have c_Disk_count_down := ok_Disk_count_down (P := l.prog) (w := w) (base := base) TT c_Disk_cut_power (by first | exact psp_mono | exact fsp_mono | exact rsp_mono | exact dsp_mono | exact msp_mono | exact isp_mono) h_Disk_count_down DDisk_count_down bDisk_count_down (g aCDisk) clCDisk ⟨aDisk_count_down, iDisk_count_down, kDisk_count_down⟩
  have c_encode_record := ok_encode_record (P := l.prog) (w := w) (base := base) TT c_block_of (by first | exact psp_mono | exact fsp_mono | exact rsp_mono | exact dsp_mono | exact msp_mono) h_encode_record Dencode_record bencode_record (g aencode_record) kencode_record
  have c_decode_piece := ok_decode_piece (P := l.prog) (w := w) (base := base) TT c_sign_of (by first | exact psp_mono | exact fsp_mono | exact rsp_mono | exact dsp_mono | exact msp_mono) h_decode_piece Ddecode_piece bdecode_piece (g adecode_piece) kdecode_piece
  have c_encode_head := ok_encode_head (P := l.prog) (w := w) (base := base) TT c_block_of (by first | exact psp_mono | exact fsp_mono | exact rsp_mono | exact dsp_mono | exact msp_mono) h_encode_head Dencode_head bencode_head (g aencode_head) kencode_head
  have c_Disk_read := ok_Disk_read (P := l.prog) (w := w) (base := base) TT c_Disk_check_place (by first | exact psp_mono | exact fsp_mono | exact rsp_mono | exact dsp_mono | exact msp_mono | exact isp_mono) h_Disk_read DDisk_read bDisk_read (g aCDisk) clCDisk ⟨aDisk_read, iDisk_read, kDisk_read⟩
  have c_Disk_write := ok_Disk_write (P := l.prog) (w := w) (base := base) TT c_Disk_check_place c_is_block c_Disk_count_down (by first | exact psp_mono | exact fsp_mono | exact rsp_mono | exact dsp_mono | exact msp_mono | exact isp_mono) h_Disk_write DDisk_write bDisk_write (g aCDisk) clCDisk ⟨aDisk_write, iDisk_write, kDisk_write⟩
  have c_newest_head := ok_newest_head (P := l.prog) (w := w) (base := base) TT c_decode_head c_Disk_read (by first | exact psp_mono | exact fsp_mono | exact rsp_mono | exact dsp_mono | exact msp_mono) h_newest_head Dnewest_head bnewest_head (g anewest_head) knewest_head
  have c__law_newest := ok__law_newest (P := l.prog) (w := w) (base := base) TT c_Disk_init c_Disk_write c_newest_head (by first | exact psp_mono | exact fsp_mono | exact rsp_mono | exact dsp_mono | exact msp_mono) h__law_newest D_law_newest b_law_newest (g a_law_newest) k_law_newest
  exact lawdef Dlaw (rfl : defBody s_law = _ :: rest_law) sc_law rfl
    (fun cdv A outer s H E hr => ps_set (i := 1) sc_law.nd rfl (by first | exact Or.inl rfl | exact Or.inr rfl) (pe_lst (pa_cons (pe_cal cD' hr (by decide) (by rfl) (pa_cons (pv 0) (pa_cons pe_int (pa_cons pe_int pa_nil)))) (pa_cons pe_int pa_nil))))
    (fun cdv A outer s H E hr hgd => q_law TT c_encode_record c__law_stored_text c__law_draw c_encode_head c_decode_piece c_decode_head c__law_newest hr hgd) h_law
theorem walk {l : PySem.W.OpenLaw} {q : Program} {loose : List Str} {XP : (Str → Option Value) → Heap → Prop} {YP : World → Heap → Prop} {d : DefRec} {K : Params → PySem.W.Frag} (hn : l.most = some 63) (hdf : d.params.defaults = [])
    (hY : ∀ (w : World) (h : Heap), YP w h → (K w.params).In h)
    (F : ∀ (w : World) (mg : Str → Option Value) (fa : Addr) (h : Heap), (K w.params).In h → h.Ns mainGlobals mg → mg d.name = some (.ref fa) →
      ∃ fd : FuncData, (∀ (s : Shared) (u : Value), BindsTo s fd ⟨[u], []⟩ [("script", u)]) ∧ ∀ base : Heap, (K w.params).In base → base.Ns mainGlobals mg → FnG l.prog w (K w.params) mg base CX0 7 fa fd ["script"] (DL.spLaw (K w.params))) :
    PySem.W.WalkO q loose XP YP l.row.toRowW d [] (fun f vs => PySem.call f vs) :=
  GR.walk (n := 63) (k := 7) (x := "script") (sp := fun w => DL.spLaw (K w.params)) hn (by decide) hdf ⟨rfl, by decide, by decide⟩ hY F (fun _ _ a ns hl _ hS => ⟨a, ns, rfl, hS, hl, fun _ => rfl⟩)
end Lk61
open PySem PySem.W PyProof.Rows
set_option maxRecDepth 100000 in
set_option maxHeartbeats 0 in
theorem PySem.Challenge.cw_farfacts_k61_torn_blocks_are_told_holds : PySem.Challenge.rw_farfacts_k61_torn_blocks_are_told.Holds := by
  w_on; o_law; k_head; (case hw => w_witness2)
  k_fill
  refine Lk61.walk (l := PySem.Challenge.rw_farfacts_k61_torn_blocks_are_told) rfl rfl (fun w h Y => PySem.W.kIn_of Y) ?F
  case F =>
    intro w mg fa h KX G hmg
    refine' Lk61.all_mk KX G hmg ?aCDisk ?pgCDisk ?hdCDisk ?poCDisk ?saCDisk ?mkCDisk ?kcCDisk ?nfCDisk_blocks ?nfCDisk_waiting ?nfCDisk_cuts ?nfCDisk_schedule ?a_law_cell ?l_law_cell ?c_law_cell ?k_law_cell ?a_law_draw ?l_law_draw ?c_law_draw ?k_law_draw ?ais_block ?lis_block ?cis_block ?kis_block ?aDisk_size ?iDisk_size ?lDisk_size ?cDisk_size ?kDisk_size ?aDisk_init ?iDisk_init ?lDisk_init ?cDisk_init ?kDisk_init ?aDisk_cut_power ?iDisk_cut_power ?lDisk_cut_power ?cDisk_cut_power ?kDisk_cut_power ?asign_of ?lsign_of ?csign_of ?ksign_of ?ablock_of ?lblock_of ?cblock_of ?kblock_of ?adecode_head ?ldecode_head ?cdecode_head ?kdecode_head ?a_law_digits ?l_law_digits ?c_law_digits ?k_law_digits ?a_law_stored_text ?l_law_stored_text ?c_law_stored_text ?k_law_stored_text ?aDisk_check_place ?iDisk_check_place ?lDisk_check_place ?cDisk_check_place ?kDisk_check_place ?aDisk_count_down ?iDisk_count_down ?lDisk_count_down ?cDisk_count_down ?kDisk_count_down ?aencode_record ?lencode_record ?cencode_record ?kencode_record ?adecode_piece ?ldecode_piece ?cdecode_piece ?kdecode_piece ?aencode_head ?lencode_head ?cencode_head ?kencode_head ?aDisk_read ?iDisk_read ?lDisk_read ?cDisk_read ?kDisk_read ?aDisk_write ?iDisk_write ?lDisk_write ?cDisk_write ?kDisk_write ?anewest_head ?lnewest_head ?cnewest_head ?knewest_head ?a_law_newest ?l_law_newest ?c_law_newest ?k_law_newest ?alaw ?llaw ?claw ?klaw ?z_all ?z_any ?z_enumerate ?z_int ?z_len ?z_list ?z_max ?z_ord ?z_range ?z_super ?z_zip ?g_BLANK ?g_BLOCK ?g_BLOCKS_LEAST ?g_BLOCKS_MOST ?g_BYTES ?g_BYTE_MOST ?g_CHANGES_MARK ?g_ENTITY_MARK ?g_GENERATIONS ?g_HEAD_MARK ?g_HIGH_SIGNS ?g_LOW_SIGNS ?g_NEWLINE ?g_PERCENT ?g_PIECE ?g_PIECES_MOST ?anyT ?ltop ?aCOutOfRange ?xXOutOfRange ?saXOutOfRange ?gaXOutOfRange ?ggXOutOfRange ?noXOutOfRange0 ?icXOutOfRange ?tyiXOutOfRange ?koXOutOfRange ?exXOutOfRange ?tyXOutOfRange ?veXOutOfRange ?owXOutOfRange ?hdXOutOfRange ?liXOutOfRange ?ciXOutOfRange ?ldXOutOfRange ?lvXOutOfRange ?lfXOutOfRange ?lcXOutOfRange ?hbXOutOfRange ?supXOutOfRange ?exmXOutOfRange ?aCPowerCut ?qXPowerCut ?koXPowerCut ?exXPowerCut ?tyXPowerCut ?gaXPowerCut ?ggXPowerCut ?hdXPowerCut ?exmXPowerCut
    (case aCDisk => k_is)
    (case pgCDisk => k_is)
    (case hdCDisk => k_is)
    (case poCDisk => k_is)
    (case saCDisk => k_is)
    (case mkCDisk => k_is)
    (case kcCDisk => k_is)
    (case nfCDisk_blocks => k_is)
    (case nfCDisk_waiting => k_is)
    (case nfCDisk_cuts => k_is)
    (case nfCDisk_schedule => k_is)
    (case a_law_cell => k_is)
    (case l_law_cell => k_is)
    (case c_law_cell => k_is)
    (case k_law_cell => k_is)
    (case a_law_draw => k_is)
    (case l_law_draw => k_is)
    (case c_law_draw => k_is)
    (case k_law_draw => k_is)
    (case ais_block => k_is)
    (case lis_block => k_is)
    (case cis_block => k_is)
    (case kis_block => k_is)
    (case aDisk_size => k_is)
    (case iDisk_size => k_is)
    (case lDisk_size => k_is)
    (case cDisk_size => k_is)
    (case kDisk_size => k_is)
    (case aDisk_init => k_is)
    (case iDisk_init => k_is)
    (case lDisk_init => k_is)
    (case cDisk_init => k_is)
    (case kDisk_init => k_is)
    (case aDisk_cut_power => k_is)
    (case iDisk_cut_power => k_is)
    (case lDisk_cut_power => k_is)
    (case cDisk_cut_power => k_is)
    (case kDisk_cut_power => k_is)
    (case asign_of => k_is)
    (case lsign_of => k_is)
    (case csign_of => k_is)
    (case ksign_of => k_is)
    (case ablock_of => k_is)
    (case lblock_of => k_is)
    (case cblock_of => k_is)
    (case kblock_of => k_is)
    (case adecode_head => k_is)
    (case ldecode_head => k_is)
    (case cdecode_head => k_is)
    (case kdecode_head => k_is)
    (case a_law_digits => k_is)
    (case l_law_digits => k_is)
    (case c_law_digits => k_is)
    (case k_law_digits => k_is)
    (case a_law_stored_text => k_is)
    (case l_law_stored_text => k_is)
    (case c_law_stored_text => k_is)
    (case k_law_stored_text => k_is)
    (case aDisk_check_place => k_is)
    (case iDisk_check_place => k_is)
    (case lDisk_check_place => k_is)
    (case cDisk_check_place => k_is)
    (case kDisk_check_place => k_is)
    (case aDisk_count_down => k_is)
    (case iDisk_count_down => k_is)
    (case lDisk_count_down => k_is)
    (case cDisk_count_down => k_is)
    (case kDisk_count_down => k_is)
    (case aencode_record => k_is)
    (case lencode_record => k_is)
    (case cencode_record => k_is)
    (case kencode_record => k_is)
    (case adecode_piece => k_is)
    (case ldecode_piece => k_is)
    (case cdecode_piece => k_is)
    (case kdecode_piece => k_is)
    (case aencode_head => k_is)
    (case lencode_head => k_is)
    (case cencode_head => k_is)
    (case kencode_head => k_is)
    (case aDisk_read => k_is)
    (case iDisk_read => k_is)
    (case lDisk_read => k_is)
    (case cDisk_read => k_is)
    (case kDisk_read => k_is)
    (case aDisk_write => k_is)
    (case iDisk_write => k_is)
    (case lDisk_write => k_is)
    (case cDisk_write => k_is)
    (case kDisk_write => k_is)
    (case anewest_head => k_is)
    (case lnewest_head => k_is)
    (case cnewest_head => k_is)
    (case knewest_head => k_is)
    (case a_law_newest => k_is)
    (case l_law_newest => k_is)
    (case c_law_newest => k_is)
    (case k_law_newest => k_is)
    (case alaw => k_is)
    (case llaw => k_is)
    (case claw => k_is)
    (case klaw => k_is)
    (case z_all => k_is)
    (case z_any => k_is)
    (case z_enumerate => k_is)
    (case z_int => k_is)
    (case z_len => k_is)
    (case z_list => k_is)
    (case z_max => k_is)
    (case z_ord => k_is)
    (case z_range => k_is)
    (case z_super => k_is)
    (case z_zip => k_is)
    (case g_BLANK => k_is)
    (case g_BLOCK => k_is)
    (case g_BLOCKS_LEAST => k_is)
    (case g_BLOCKS_MOST => k_is)
    (case g_BYTES => k_is)
    (case g_BYTE_MOST => k_is)
    (case g_CHANGES_MARK => k_is)
    (case g_ENTITY_MARK => k_is)
    (case g_GENERATIONS => k_is)
    (case g_HEAD_MARK => k_is)
    (case g_HIGH_SIGNS => k_is)
    (case g_LOW_SIGNS => k_is)
    (case g_NEWLINE => k_is)
    (case g_PERCENT => k_is)
    (case g_PIECE => k_is)
    (case g_PIECES_MOST => k_is)
    (case anyT => k_is)
    (case ltop => first | rfl | decide +kernel)
    (case aCOutOfRange => k_is)
    (case xXOutOfRange => k_is)
    (case saXOutOfRange => k_is)
    (case gaXOutOfRange => k_is)
    (case ggXOutOfRange => k_is)
    (case noXOutOfRange0 => k_is)
    (case icXOutOfRange => k_is)
    (case tyiXOutOfRange => k_is)
    (case koXOutOfRange => k_is)
    (case exXOutOfRange => k_is)
    (case tyXOutOfRange => k_is)
    (case veXOutOfRange => k_is)
    (case owXOutOfRange => k_is)
    (case hdXOutOfRange => k_is)
    (case liXOutOfRange => k_is)
    (case ciXOutOfRange => k_is)
    (case ldXOutOfRange => k_is)
    (case lvXOutOfRange => rfl)
    (case lfXOutOfRange => first | rfl | decide +kernel)
    (case lcXOutOfRange => k_is)
    (case hbXOutOfRange => first | rfl | decide +kernel)
    (case supXOutOfRange => first | ks_is | rfl | decide +kernel)
    (case exmXOutOfRange => first | k_is | rfl | decide +kernel)
    (case aCPowerCut => k_is)
    (case qXPowerCut => k_exc)
    (case koXPowerCut => k_is)
    (case exXPowerCut => k_is)
    (case tyXPowerCut => k_is)
    (case gaXPowerCut => k_is)
    (case ggXPowerCut => k_is)
    (case hdXPowerCut => k_is)
    (case exmXPowerCut => first | k_is | rfl | decide +kernel)

