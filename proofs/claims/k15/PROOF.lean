import PyProof.Rows.All
import Wide.All
import OpenK.AllK
import Wide.FinOn
import HandS.ForMost
import HandS.IsInst
import HandS.EndBits
import PyProof.ReprRoads
import HandS.Walk
import HandS.TupAny
import HandS.Style
import HandS.Dict
import KE.KDictPairs
import HandS.ExcInit
import HandS.ExcField
import HandS.TryOnly
import HandS.WordsExc
import HandS.ExcOwn
import HandS.Flow
import KE.KExcIs
import HandS.Lambda
import PyProof.StrBlock2
import HandS.Text
import HandS.Wide
import HandS.TupLe
import PyProof.Rows.IntBool
import HandS.TupLen
import HandS.WordsDict
import HandS.Iter
import KE.GoesEnum
import HandS.Set
import HandS.SetFor
import HandS.More
import HandS.Strs
import HandS.Zip
import HandS.StrMore
import HandS.DictComp
import HandS.Sort
import PyProof.Rows.SortShellAny
import PyProof.SetRoads
import HandS.SortOrd
import HandS.SortRule
import PyProof.Rows.SortKeyStr
import HandS.Star
import KE.KDictDisplayH
import PyProof.AutoSeq1
import HandS.Conv
import KE.SortData
import HandS.DictTup
import HandS.Defaults
import HandS.TupMul
import KE.GoesZip
import KE.GoesMore
import KE.KDictSum
import HandS.ExcIs
import HandS.EndTab
import HandS.NestedK
import KE.KNestM
import KE.KTopLam
import PySem.Challenge.RW_storeways_k15_whole_around_or_fence
set_option Elab.async false
set_option linter.all false
set_option maxRecDepth 100000
set_option maxHeartbeats 4000000
namespace Sw
open PySem PySem.Spec PyProof.Rows L2
end Sw
set_option maxRecDepth 100000
set_option maxHeartbeats 4000000
namespace Sw
open PySem PySem.Spec PyProof.Rows L2
theorem same_new {H : Hp} {p : Addr} {o : HO} (h : H p = none) : Same H (upd H p o) := fun b x e => by
  rw [upd_ne (ne_of_none e h)]
  exact e
/-- a text's signs as its walk's items -/
theorem walk_signs {z : Str} : Walk (Its z) z.cps.size (fun _ => True) (YAt (z.cps.toList.map fun c => V.str ⟨#[c]⟩)) := by
  refine ⟨walk_str.goes, walk_str.stops, fun i H x H' hi hg y => ?_⟩
  obtain ⟨rfl, c, hc, rfl⟩ := walk_str.yields i H x H' hi hg y
  refine ⟨rfl, ?_⟩
  rw [List.getElem?_map, Array.getElem?_toList, hc]
  rfl
end Sw
set_option maxRecDepth 100000
set_option maxHeartbeats 4000000
namespace Sw
open PySem PySem.Spec PyProof.Rows L2
mutual
/-- leaves: ints at most M, texts of ASCII; no dict -/
def leaf (M : Nat) : PyData → Bool
  | .none | .bool _ => true
  | .int i => decide (i.natAbs ≤ M)
  | .str x => x.cps.toList.all (fun c => decide (c < 128))
  | .list xs | .tuple xs => leafAll M xs
  | .dict _ => false
def leafAll (M : Nat) : List PyData → Bool
  | [] => true
  | x :: xs => leaf M x && leafAll M xs
end
mutual
/-- no list or tuple in it is longer than l -/
def lens (l : Nat) : PyData → Bool
  | .none | .bool _ | .int _ | .str _ => true
  | .list xs | .tuple xs => decide (xs.length ≤ l) && lensAll l xs
  | .dict _ => false
def lensAll (l : Nat) : List PyData → Bool
  | [] => true
  | x :: xs => lens l x && lensAll l xs
end
mutual
/-- at least as much as its text is long -/
def wt : PyData → Nat
  | .none | .bool _ => 5
  | .int _ => 250
  | .str x => 10 * x.length + 5
  | .list xs | .tuple xs => wtAll xs + 5
  | .dict _ => 0
def wtAll : List PyData → Nat
  | [] => 0
  | x :: xs => wt x + 2 + wtAll xs
end
theorem leaf_str {M : Nat} {x : Str} : leaf M (.str x) = true ↔ ∀ c ∈ x.cps.toList, c < 128 := by
  simp only [leaf, List.all_eq_true, decide_eq_true_eq]
theorem leafAll_iff {M : Nat} : ∀ {xs : List PyData}, leafAll M xs = true ↔ ∀ x ∈ xs, leaf M x = true
  | [] => by simp [leafAll]
  | x :: xs => by simp [leafAll, leafAll_iff (xs := xs)]
theorem lensAll_iff {l : Nat} : ∀ {xs : List PyData}, lensAll l xs = true ↔ ∀ x ∈ xs, lens l x = true
  | [] => by simp [lensAll]
  | x :: xs => by simp [lensAll, lensAll_iff (xs := xs)]
theorem depthAll_iff {n : Nat} : ∀ {xs : List PyData}, PyData.depthAll xs ≤ n ↔ ∀ x ∈ xs, x.depth ≤ n
  | [] => by simp [PyData.depthAll]
  | x :: xs => by simp [PyData.depthAll, depthAll_iff (xs := xs), Nat.max_le]
theorem depth_tuple {n : Nat} {xs : List PyData} : (PyData.tuple xs).depth ≤ n + 1 ↔ ∀ x ∈ xs, x.depth ≤ n := by
  simp [PyData.depth, depthAll_iff]
theorem depth_list {n : Nat} {xs : List PyData} : (PyData.list xs).depth ≤ n + 1 ↔ ∀ x ∈ xs, x.depth ≤ n := by
  simp [PyData.depth, depthAll_iff]
mutual
theorem leaf_noDict {M : Nat} : ∀ d : PyData, leaf M d = true → d.hasDict = false
  | .none, _ => by simp [PyData.hasDict]
  | .bool _, _ => by simp [PyData.hasDict]
  | .int _, _ => by simp [PyData.hasDict]
  | .str _, _ => by simp [PyData.hasDict]
  | .list xs, h => by simpa [PyData.hasDict] using leafAll_noDict xs (by simpa [leaf] using h)
  | .tuple xs, h => by simpa [PyData.hasDict] using leafAll_noDict xs (by simpa [leaf] using h)
  | .dict _, h => by simp [leaf] at h
theorem leafAll_noDict {M : Nat} : ∀ xs : List PyData, leafAll M xs = true → PyData.hasDictAll xs = false
  | [], _ => by simp [PyData.hasDictAll]
  | x :: xs, h => by
    have h' : leaf M x = true ∧ leafAll M xs = true := by simpa [leafAll] using h
    simp [PyData.hasDictAll, leaf_noDict x h'.1, leafAll_noDict xs h'.2]
end
mutual
theorem leaf_canLay {M : Nat} : ∀ d : PyData, leaf M d = true → d.canLay0 = true
  | .none, _ => by simp [PyData.canLay0]
  | .bool _, _ => by simp [PyData.canLay0]
  | .int _, _ => by simp [PyData.canLay0]
  | .str x, h => by
    have h' := leaf_str.mp h
    simp only [PyData.canLay0, PyData.strOk, Array.all_eq_true_iff_forall_mem, decide_eq_true_eq]
    intro c hc
    have := h' c (by simpa using hc)
    omega
  | .list xs, h => by simpa [PyData.canLay0] using leafAll_canLay xs (by simpa [leaf] using h)
  | .tuple xs, h => by simpa [PyData.canLay0] using leafAll_canLay xs (by simpa [leaf] using h)
  | .dict _, h => by simp [leaf] at h
theorem leafAll_canLay {M : Nat} : ∀ xs : List PyData, leafAll M xs = true → PyData.canLayAll0 xs = true
  | [], _ => by simp [PyData.canLayAll0]
  | x :: xs, h => by
    have h' : leaf M x = true ∧ leafAll M xs = true := by simpa [leafAll] using h
    simp [PyData.canLayAll0, leaf_canLay x h'.1, leafAll_canLay xs h'.2]
end
mutual
theorem leaf_shows {M : Nat} (hM : M < 2 ^ 1920) : ∀ d : PyData, leaf M d = true → d.showable = true
  | .none, _ => by simp [PyData.showable]
  | .bool _, _ => by simp [PyData.showable]
  | .int i, h => by
    have h' : i.natAbs ≤ M := by simpa [leaf] using h
    simp only [PyData.showable, decide_eq_true_eq]
    exact log2_small (Nat.lt_of_le_of_lt h' hM)
  | .str x, h => by simp [PyData.showable]
  | .list xs, h => by simpa [PyData.showable] using leafAll_shows hM xs (by simpa [leaf] using h)
  | .tuple xs, h => by simpa [PyData.showable] using leafAll_shows hM xs (by simpa [leaf] using h)
  | .dict _, h => by simp [leaf] at h
theorem leafAll_shows {M : Nat} (hM : M < 2 ^ 1920) : ∀ xs : List PyData, leafAll M xs = true → PyData.showableAll xs = true
  | [], _ => by simp [PyData.showableAll]
  | x :: xs, h => by
    have h' : leaf M x = true ∧ leafAll M xs = true := by simpa [leafAll] using h
    simp [PyData.showableAll, leaf_shows hM x h'.1, leafAll_shows hM xs h'.2]
end
mutual
theorem shown_wt {M : Nat} (hM : M < 10 ^ 240) : ∀ d : PyData, leaf M d = true → d.shown.length ≤ wt d
  | .none, _ => by simp only [PyData.shown, wt]; decide +kernel
  | .bool b, _ => by cases b <;> (simp only [PyData.shown, wt]; decide +kernel)
  | .int i, h => by
    have h' : i.natAbs ≤ M := by simpa [leaf] using h
    have e := int_text_length_le10 (k := 240) (by decide) (Nat.lt_of_le_of_lt h' hM)
    simp only [PyData.shown, wt]
    rw [PySem.ofString_length]
    omega
  | .str x, h => by
    have h' := leaf_str.mp h
    have e := StrLaws.reprText_len x (fun c hc => by have := h' c hc; omega)
    simp only [PyData.shown, wt]
    omega
  | .list xs, h => by
    have e1 := listText_len_le (PyData.shownAll xs)
    have e2 := shownAll_wt hM xs (by simpa [leaf] using h)
    rw [PyData.shownAll_length] at e1
    simp only [PyData.shown, wt]
    omega
  | .tuple xs, h => by
    have e1 := tupleText_len_le (PyData.shownAll xs)
    have e2 := shownAll_wt hM xs (by simpa [leaf] using h)
    rw [PyData.shownAll_length] at e1
    simp only [PyData.shown, wt]
    omega
  | .dict _, h => by simp [leaf] at h
theorem shownAll_wt {M : Nat} (hM : M < 10 ^ 240) : ∀ xs : List PyData, leafAll M xs = true → ((PyData.shownAll xs).map (·.length)).sum + 2 * xs.length ≤ wtAll xs
  | [], _ => by simp [PyData.shownAll, wtAll]
  | x :: xs, h => by
    have h' : leaf M x = true ∧ leafAll M xs = true := by simpa [leafAll] using h
    have e1 := shown_wt hM x h'.1
    have e2 := shownAll_wt hM xs h'.2
    simp only [PyData.shownAll, wtAll, List.map_cons, List.sum_cons, List.length_cons]
    omega
end
mutual
theorem leaf_mono {M N : Nat} (h : M ≤ N) : ∀ d : PyData, leaf M d = true → leaf N d = true
  | .none, _ => by simp [leaf]
  | .bool _, _ => by simp [leaf]
  | .int i, e => by
    have e' : i.natAbs ≤ M := by simpa [leaf] using e
    simp only [leaf, decide_eq_true_eq]; omega
  | .str _, e => by simpa [leaf] using e
  | .list xs, e => by simpa [leaf] using leafAll_mono h xs (by simpa [leaf] using e)
  | .tuple xs, e => by simpa [leaf] using leafAll_mono h xs (by simpa [leaf] using e)
  | .dict _, e => by simp [leaf] at e
theorem leafAll_mono {M N : Nat} (h : M ≤ N) : ∀ xs : List PyData, leafAll M xs = true → leafAll N xs = true
  | [], _ => by simp [leafAll]
  | x :: xs, e => by
    have e' : leaf M x = true ∧ leafAll M xs = true := by simpa [leafAll] using e
    simp [leafAll, leaf_mono h x e'.1, leafAll_mono h xs e'.2]
end
mutual
theorem lens_mono {k l : Nat} (h : k ≤ l) : ∀ d : PyData, lens k d = true → lens l d = true
  | .none, _ => by simp [lens]
  | .bool _, _ => by simp [lens]
  | .int _, _ => by simp [lens]
  | .str _, _ => by simp [lens]
  | .list xs, e => by
    have e' : xs.length ≤ k ∧ lensAll k xs = true := by simpa [lens] using e
    simp only [lens, Bool.and_eq_true, decide_eq_true_eq]
    exact ⟨by omega, lensAll_mono h xs e'.2⟩
  | .tuple xs, e => by
    have e' : xs.length ≤ k ∧ lensAll k xs = true := by simpa [lens] using e
    simp only [lens, Bool.and_eq_true, decide_eq_true_eq]
    exact ⟨by omega, lensAll_mono h xs e'.2⟩
  | .dict _, e => by simp [lens] at e
theorem lensAll_mono {k l : Nat} (h : k ≤ l) : ∀ xs : List PyData, lensAll k xs = true → lensAll l xs = true
  | [], _ => by simp [lensAll]
  | x :: xs, e => by
    have e' : lens k x = true ∧ lensAll k xs = true := by simpa [lensAll] using e
    simp [lensAll, lens_mono h x e'.1, lensAll_mono h xs e'.2]
end
/-- data of this size: ints at most M, sequences at most l long, n deep, B heavy -/
structure Fit (M l n B : Nat) (d : PyData) : Prop where
  lf : leaf M d = true
  ln : lens l d = true
  dp : d.depth ≤ n
  wg : wt d ≤ B
theorem Fit.mono {M l n B M' l' n' B' : Nat} {d : PyData} (h : Fit M l n B d) (h1 : M ≤ M') (h2 : l ≤ l') (h3 : n ≤ n') (h4 : B ≤ B') : Fit M' l' n' B' d :=
  ⟨leaf_mono h1 d h.lf, lens_mono h2 d h.ln, Nat.le_trans h.dp h3, Nat.le_trans h.wg h4⟩
theorem Fit.none {M l n B : Nat} (h : 5 ≤ B) : Fit M l n B .none := ⟨rfl, rfl, Nat.zero_le _, h⟩
theorem Fit.bool {M l n B : Nat} {b : Bool} (h : 5 ≤ B) : Fit M l n B (.bool b) := ⟨rfl, rfl, Nat.zero_le _, h⟩
theorem Fit.int {M l n B : Nat} {i : Int} (hi : i.natAbs ≤ M) (h : 250 ≤ B) : Fit M l n B (.int i) := ⟨by simpa [leaf] using hi, rfl, Nat.zero_le _, h⟩
theorem Fit.str {M l n B : Nat} {x : Str} (hx : ∀ c ∈ x.cps.toList, c < 128) (h : 10 * x.length + 5 ≤ B) : Fit M l n B (.str x) := ⟨leaf_str.mpr hx, rfl, Nat.zero_le _, h⟩
theorem Fit.tup {M l n B : Nat} {xs : List PyData} (hl : xs.length ≤ l) (h : ∀ x ∈ xs, leaf M x = true ∧ lens l x = true ∧ x.depth ≤ n) (hw : wtAll xs + 5 ≤ B) : Fit M l (n + 1) B (.tuple xs) :=
  ⟨by simpa [leaf] using leafAll_iff.mpr fun x hx => (h x hx).1, by simp only [lens, Bool.and_eq_true, decide_eq_true_eq]; exact ⟨hl, lensAll_iff.mpr fun x hx => (h x hx).2.1⟩, depth_tuple.mpr fun x hx => (h x hx).2.2, by simpa [wt] using hw⟩
theorem Fit.lst {M l n B : Nat} {xs : List PyData} (hl : xs.length ≤ l) (h : ∀ x ∈ xs, leaf M x = true ∧ lens l x = true ∧ x.depth ≤ n) (hw : wtAll xs + 5 ≤ B) : Fit M l (n + 1) B (.list xs) :=
  ⟨by simpa [leaf] using leafAll_iff.mpr fun x hx => (h x hx).1, by simp only [lens, Bool.and_eq_true, decide_eq_true_eq]; exact ⟨hl, lensAll_iff.mpr fun x hx => (h x hx).2.1⟩, depth_list.mpr fun x hx => (h x hx).2.2, by simpa [wt] using hw⟩
theorem Fit.shaped {M l n B : Nat} {d : PyData} (h : Fit M l n B d) (hn : n ≤ 64) : SeqAt.shaped d = true := by
  unfold SeqAt.shaped
  rw [leaf_canLay d h.lf, Bool.true_and, decide_eq_true_eq]
  exact Nat.le_trans h.dp hn
end Sw
set_option maxRecDepth 100000
set_option maxHeartbeats 4000000
namespace Sw
open PySem PySem.Spec PyProof.Rows L2
/-- a def of the text, how it binds, where it stands -/
structure Df (K : PySem.W.Frag) (mg : Str → Option Value) (x : Str) (st : Stmt) (ps : List Str) (f : Addr) (fd : FuncData) : Prop where
  fn : Fun K x x st f fd
  bd : Binds K fd ps []
  gl : mg x = some (.ref f)
def isaInt : PyData → Bool
  | .int _ => true
  | .bool _ => true
  | _ => false
def isaBool : PyData → Bool
  | .bool _ => true
  | _ => false
def isaTup : PyData → Bool
  | .tuple _ => true
  | _ => false
theorem ty_list {K : PySem.W.Frag} {H : Hp} {a : Addr} {xs : List V} (h : SqL K H a xs) : TyX K H (.ref a) (.type "list") := by
  rcases h with (h | ⟨o, h⟩) | ⟨o, its, n, h, hc, _⟩
  · exact .base (.lst h)
  · exact .base (.frz h)
  · exact .kList h hc
theorem ty_tup {K : PySem.W.Frag} {H : Hp} {a : Addr} {xs : List V} (h : SqT K H a xs) : TyX K H (.ref a) (.type "tuple") := by
  rcases h with (h | ⟨o, h⟩) | ⟨o, its, n, h, hc, _⟩
  · exact .base (.tup h)
  · exact .fTuple h
  · exact .kTuple h hc
def dNum : PyData → Bool
  | .int _ => true
  | _ => false
def okSign (c : Nat) : Bool := decide (97 ≤ c) && decide (c ≤ 122)
end Sw
set_option maxRecDepth 100000
set_option maxHeartbeats 4000000
namespace Pm
open PySem PySem.Spec PyProof.Rows L2 Sw
abbrev tupB (its : List Value) : Obj := { cls := .type "tuple", data := .seq its.toArray }
/-- a new tuple is laid -/
def NewT (xs : List V) (H : Hp) (Q : V → Hp → Prop) : Prop := (∀ p, H p = none → Q (.ref p) (upd H p (.tup xs))) ∨ ∀ p its, H p = none → Q (.ref p) (upd H p (.frz (tupB its) (.tup xs)))
/-- one that has nothing beside its items -/
def PlT (K : PySem.W.Frag) (H : Hp) (a : Addr) (xs : List V) : Prop := (∃ its, H a = some (.frz (tupB its) (.tup xs))) ∨ ∃ sl its n, K.lookup a = some ⟨.type "tuple", none, .seq its n, sl⟩ ∧ its.size ≤ sizeLine ∧ Vals xs its.toList
section
variable {X : Cx}
theorem newT_lay {pins : List (Addr × Obj)} {σ : L2.St} {H : Hp} {s : Shared} {xs : List V} {its : List Value} {Q : VK} (I : Inv X pins σ H s) (r : Vals xs its) (hz : xs.length ≤ sizeLine) (q : NewT xs H Q) :
    EP X pins σ Q (.ref s.heap.objs.size) { s with heap := s.heap.push (tupB its) } := by
  have hf := I.hok.fresh (Nat.le_refl s.heap.objs.size)
  rcases q with q | q
  · exact ⟨.ref s.heap.objs.size, _, I.laid (t' := s.toks) (o := .tup xs) (fun b ob e => Heap.get?_push_of_some _ e) (Nat.le_refl _) ⟨hz, its, r, IsTup.new _ _⟩, rfl, q _ hf⟩
  · exact ⟨.ref s.heap.objs.size, _, I.laid (t' := s.toks) (o := .frz (tupB its) (.tup xs)) (fun b ob e => Heap.get?_push_of_some _ e) (Nat.le_refl _) ⟨Heap.get?_push_size _ rfl, hz, its, r, IsTup.new _ _⟩, rfl, q _ its hf⟩
/-- a display -/
def tTupN (t : TA) : TE := fun σ H Q => t σ H fun xs H1 => xs.length ≤ sizeLine ∧ NewT xs H1 Q
theorem pe_tupN {es : List Expr} {t : TA} {pos : Pos} {x1} (h : PA X es t) : PE X (.Tuple es x1 pos) (tTupN t) := by
  refine ⟨fun pins s σ H Q I hq => ?_⟩
  refine wpAny_Tuple_spliced (thn (h.run pos pins s σ H _ I hq) fun us s1 ⟨xs, H1, I1, r, z, q⟩ => ⟨by rw [← r.length]; exact z, ?_⟩)
  exact newT_lay I1 r z q
/-- t + u -/
def rCatN (K : PySem.W.Frag) : R2 := fun x y H Q => ∃ a b xs ys, x = .ref a ∧ y = .ref b ∧ SqT K H a xs ∧ SqT K H b ys ∧ xs.length + ys.length ≤ sizeLine ∧
  (xs = [] → Q (.ref b) H) ∧ (xs ≠ [] → ys = [] → Q (.ref a) H) ∧ (xs ≠ [] → ys ≠ [] → NewT (xs ++ ys) H Q)
theorem op_catN : OpR X (binaryOp .Add) (rCatN X.K) := by
  intro pins s σ H x y v u Q I rx ry h
  obtain ⟨a, b, xs, ys, rfl, rfl, ha, hb, hz, q0, q1, q2⟩ := h
  by_cases hx : xs = []
  · exact op_catA pins s σ H _ _ v u Q I rx ry ⟨a, b, xs, ys, rfl, rfl, ha, hb, hz, q0, fun z => absurd hx z, fun z => absurd hx z⟩
  · by_cases hy : ys = []
    · exact op_catA pins s σ H _ _ v u Q I rx ry ⟨a, b, xs, ys, rfl, rfl, ha, hb, hz, q0, q1, fun _ z => absurd hy z⟩
    · cases rx
      cases ry
      obtain ⟨its, r1, p1, _⟩ := I.tuple ha
      obtain ⟨its2, r2, p2, _⟩ := I.tuple hb
      refine HT.cat_tup p1 p2 (fun z => hx (r1.nil_iff.mp z)) (fun z => absurd (r2.nil_iff.mp z) hy) (fun z => ?_) (by rw [← r1.length, ← r2.length]; exact hz)
      exact newT_lay I (r1.append r2) (by rw [List.length_append]; exact hz) (q2 hx hy)
/-- t[lo:hi] -/
def rSlN (K : PySem.W.Frag) : V → Option Int → Option Int → Hp → VK → Prop := fun x lo hi H Q => ∃ a xs, x = .ref a ∧ SqT K H a xs ∧
  (HT.sIx xs.length 0 lo = 0 ∧ HT.sIx xs.length xs.length hi = xs.length → Q (.ref a) H) ∧ (¬ (HT.sIx xs.length 0 lo = 0 ∧ HT.sIx xs.length xs.length hi = xs.length) → NewT (cutV xs lo hi) H Q)
theorem sl_tupN : SlR X (rSlN X.K) := by
  intro pins s σ H x v vl vu lo hi sl Q I rx hs pl pu h
  obtain ⟨a, xs, rfl, hx, q1, q2⟩ := h
  by_cases hw : HT.sIx xs.length 0 lo = 0 ∧ HT.sIx xs.length xs.length hi = xs.length
  · exact sl_tupA pins s σ H _ v vl vu lo hi sl Q I rx hs pl pu ⟨a, xs, rfl, hx, q1, fun z => absurd hw z⟩
  · cases rx
    obtain ⟨its, r, ht, hz⟩ := I.tuple hx
    have hlen : its.toArray.size = xs.length := by rw [List.size_toArray]; exact r.length.symm
    refine ⟨"tuple", _, PyProof.Rows.slot_tuple_getitem.lookup, ht.typeIs, ?_⟩
    refine HT.getItem_tuple_cut ht hs pl pu (by rw [hlen]; exact hw) ?_ (by rw [hlen]; exact hz)
    rw [hlen]
    exact newT_lay I ((r.drop (HT.sIx xs.length 0 lo)).take (HT.sIx xs.length xs.length hi - HT.sIx xs.length 0 lo)) (Nat.le_trans (cutV_length xs lo hi) hz) (q2 hw)
/-- tuple(..) -/
theorem call_tupN : CallR X (.type "tuple") (fun xs H Q => ∃ p ys, xs = [.ref p] ∧ ((SqL X.K H p ys ∧ NewT ys H Q) ∨ (SqT X.K H p ys ∧ Q (.ref p) H))) := by
  intro pins s σ H xs us Q I r h
  obtain ⟨p, ys, rfl, h⟩ := h
  rcases h with ⟨hq, q⟩ | h
  · obtain ⟨u, rfl, rx⟩ := vals1 r
    cases rx
    obtain ⟨its, r', pl, hz⟩ := I.list hq
    have hlen := r'.length
    refine call_tuple_list pl.isList (fun h' kp => ?_) (by simp only [List.size_toArray] <;> omega)
    have I1 : Inv X pins σ H { s with heap := h' } := I.kept (t' := s.toks) kp
    exact newT_lay I1 r' hz q
  · exact call_tuple_of pins s σ H _ us Q I r ⟨p, ys, rfl, .inr h⟩
end
end Pm
namespace Pm
open PySem PySem.Spec
/-- contents of tuples that may be the text's own constants -/
def isCst : List PyData → Bool
  | [.str x] => decide (x = "begin" ∨ x = "address" ∨ x = "operand" ∨ x = "routine" ∨ x = "block")
  | [.str x, .str y] => decide ((x = "store" ∧ y = "call") ∨ (x = "name" ∧ y = "address") ∨ (x = "address" ∧ y = "operand"))
  | [.str x, .str y, .str z] => decide ((x = "go" ∧ y = "if" ∧ z = "call") ∨ (x = "operand" ∧ y = "block" ∧ z = "block"))
  | [.str x, .str y, .str z, .str w] => decide ((x = "+" ∧ y = "-" ∧ z = "*" ∧ w = "<") ∨ (x = "name" ∧ y = "sign" ∧ z = "operand" ∧ w = "operand"))
  | [.str x, .int i, .int j] => decide (x = "main" ∧ i = 0 ∧ j = 0)
  | [.tuple [], .tuple []] => true
  | _ => false
/-- tables of code objects that the text's defs own, and the names of what is in them -/
def tabT : List (Addr × Str) := [(196, ("_law_right" : Str) ++ ".<locals>." ++ "<lambda>")]
end Pm
set_option maxRecDepth 100000
set_option maxHeartbeats 4000000
namespace Pm
open PySem PySem.Spec PyProof.Rows L2 Sw
inductive Vl where
  | dat (p : PyData)
  | ref (n : Nat)
  | scr (ns : List Int)
  | exo (nm : Str) (fs : List (Str × PyData))
  | fn (nm : Str)
  | lam (f c : Addr) (q : Str) (σ : L2.St) (ρ : List (Option (PyData ⊕ Nat)))
inductive Ob where
  | lst (l : List Vl)
  | dic (t : Bool) (kvs : List (PyData × Vl))
  | ins (c : Str) (fs : List (Str × Vl))
  | tup (l : List Vl)
abbrev Sto := List Ob
abbrev Exn := Str × List (Str × PyData)
inductive R (α : Type) where
  | ok (a : α) (s : Sto)
  | ex (x : Exn) (s : Sto)
  | bad
abbrev Loc := List (Option Vl)
inductive Fl where
  | nx (ρ : Loc) (s : Sto)
  | rt (v : Vl) (s : Sto)
  | bk (ρ : Loc) (s : Sto)
  | ct (ρ : Loc) (s : Sto)
  | ex (x : Exn) (ρ : Loc) (s : Sto)
  | bad
def R.bind {α β : Type} (r : R α) (k : α → Sto → R β) : R β := match r with
  | .ok a s => k a s
  | .ex x s => .ex x s
  | .bad => .bad
/-- into a statement's end -/
def R.to {α : Type} (r : R α) (ρ : Loc) (k : α → Sto → Fl) : Fl := match r with
  | .ok a s => k a s
  | .ex x s => .ex x ρ s
  | .bad => .bad
def Fl.seq (f : Fl) (k : Loc → Sto → Fl) : Fl := match f with
  | .nx ρ s => k ρ s
  | .rt v s => .rt v s
  | .bk ρ s => .bk ρ s
  | .ct ρ s => .ct ρ s
  | .ex x ρ s => .ex x ρ s
  | .bad => .bad
abbrev ME := Loc → Sto → R Vl
abbrev MT := Loc → Sto → R Bool
abbrev MA := Loc → Sto → R (List Vl)
abbrev MS := Loc → Sto → Fl
@[simp] theorem R.bind_ok {α β : Type} (a : α) (s : Sto) (k : α → Sto → R β) : (R.ok a s).bind k = k a s := rfl
@[simp] theorem R.bind_ex {α β : Type} (x : Exn) (s : Sto) (k : α → Sto → R β) : (R.ex x s).bind k = .ex x s := rfl
@[simp] theorem R.bind_bad {α β : Type} (k : α → Sto → R β) : (R.bad : R α).bind k = .bad := rfl
@[simp] theorem R.to_ok {α : Type} (a : α) (s : Sto) (ρ : Loc) (k : α → Sto → Fl) : (R.ok a s).to ρ k = k a s := rfl
@[simp] theorem R.to_ex {α : Type} (x : Exn) (s : Sto) (ρ : Loc) (k : α → Sto → Fl) : (R.ex x s : R α).to ρ k = .ex x ρ s := rfl
@[simp] theorem R.to_bad {α : Type} (ρ : Loc) (k : α → Sto → Fl) : (R.bad : R α).to ρ k = .bad := rfl
@[simp] theorem Fl.seq_nx (ρ : Loc) (s : Sto) (k : Loc → Sto → Fl) : (Fl.nx ρ s).seq k = k ρ s := rfl
@[simp] theorem Fl.seq_rt (v : Vl) (s : Sto) (k : Loc → Sto → Fl) : (Fl.rt v s).seq k = .rt v s := rfl
@[simp] theorem Fl.seq_bk (ρ : Loc) (s : Sto) (k : Loc → Sto → Fl) : (Fl.bk ρ s).seq k = .bk ρ s := rfl
@[simp] theorem Fl.seq_ct (ρ : Loc) (s : Sto) (k : Loc → Sto → Fl) : (Fl.ct ρ s).seq k = .ct ρ s := rfl
@[simp] theorem Fl.seq_ex (x : Exn) (ρ : Loc) (s : Sto) (k : Loc → Sto → Fl) : (Fl.ex x ρ s).seq k = .ex x ρ s := rfl
@[simp] theorem Fl.seq_bad (k : Loc → Sto → Fl) : Fl.bad.seq k = .bad := rfl
/-- it is no table of code objects -/
def NT : HO → Prop
  | .tbl _ => False
  | _ => True
/-- where the store's objects stand (b), and lists that are being made (g) -/
structure Bs where
  b : List Addr
  g : List Addr
/-- the tables of code objects, each with the name that its code objects bear -/
def TabsB (β : Bs) (H : Hp) : Prop := ∀ p ∈ tabT, p.1 ∉ β.b ∧ p.1 ∉ β.g ∧ ∃ ps : Array Value, H p.1 = some (.tbl ps) ∧ TriplesOk ps.toList ∧
  ∀ (pos : Pos) (cv : Value), codeAmong pos ps.toList = some cv → ∃ c, cv = .ref c ∧ H c = some (LamX.CodeO c p.2) ∧ c ∉ β.b ∧ c ∉ β.g
/-- an object that the store doesn't hold -/
def Sd (H : Hp) (β : Bs) (a : Addr) (o : HO) : Prop := H a = some o ∧ a ∉ β.b ∧ a ∉ β.g
/-- a list that the store doesn't hold -/
abbrev Sl (H : Hp) (β : Bs) (a : Addr) (xs : List V) : Prop := Sd H β a (.lst xs)
def keyD : Key → PyData
  | .inl i => .int i
  | .inr x => .str x
def keysD (ks : List Key) : PyData := .tuple (ks.map keyD)
theorem Sd.sq {K : PySem.W.Frag} {H : Hp} {β : Bs} {a : Addr} {xs : List V} (h : Sl H β a xs) : SqL K H a xs := SqL.of h.1
theorem kl_any {K : PySem.W.Frag} {H : Hp} {a : Addr} {xs : List V} (h : SqL K (fun _ => none) a xs) : SqL K H a xs := by
  rcases h with (h | ⟨o, h⟩) | h
  · cases h
  · cases h
  · exact .inr h
/-- the script's list, which nobody turns -/
def Scr (K : PySem.W.Frag) (H : Hp) (a : Addr) (xs : List V) : Prop := (∃ o, H a = some (.frz o (.lst xs))) ∨ SqL K (fun _ => none) a xs
theorem Scr.sq {K : PySem.W.Frag} {H : Hp} {a : Addr} {xs : List V} (h : Scr K H a xs) : SqL K H a xs := by
  rcases h with ⟨o, h⟩ | h
  · exact .inl (.inr ⟨o, h⟩)
  · exact kl_any h
/-- a pair of a text and something -/
def isO1 : PyData → Bool
  | .tuple [.str _, _] => true
  | .tuple [.tuple [.str _, .int _], .int _] => true
  | .tuple [.tuple [.str _, .int _], .tuple [.str _, .int _, .int _]] => true
  | _ => false
def isO (ds : List PyData) : Bool := ds.all isO1
/-- a tuple where it stands: one of pairs of texts and numbers has nothing beside its items -/
def TupA (K : PySem.W.Frag) (H : Hp) (a : Addr) (ds : List PyData) (xs : List V) : Prop := if isO ds = true then PlT K H a xs else if isCst ds = true then SqT K H a xs else H a = some (.tup xs)
theorem TupA.sqt {K : PySem.W.Frag} {H : Hp} {a : Addr} {ds : List PyData} {xs : List V} (h : TupA K H a ds xs) : SqT K H a xs := by
  unfold TupA at h
  split at h
  · rcases h with ⟨its, h⟩ | ⟨sl, its, n, lk, hz, hv⟩
    · exact .inl (.inr ⟨_, h⟩)
    · exact .inr ⟨_, its, n, lk, rfl, rfl, hz, hv⟩
  · split at h
    · exact h
    · exact SqT.of h
theorem TupA.tup {K : PySem.W.Frag} {H : Hp} {a : Addr} {ds : List PyData} {xs : List V} (h : TupA K H a ds xs) (e : isO ds = false) (e2 : isCst ds = false) : H a = some (.tup xs) := by
  unfold TupA at h
  rwa [if_neg (by rw [e]; decide), if_neg (by rw [e2]; decide)] at h
theorem TupA.of {K : PySem.W.Frag} {H : Hp} {a : Addr} {ds : List PyData} {xs : List V} (e : isO ds = false) (h : H a = some (.tup xs)) : TupA K H a ds xs := by
  unfold TupA
  rw [if_neg (by rw [e]; decide)]
  split
  · exact SqT.of h
  · exact h
theorem TupA.keep {K : PySem.W.Frag} {H H' : Hp} {a : Addr} {ds : List PyData} {xs : List V} (t : ∀ xs, H a = some (.tup xs) → H' a = some (.tup xs)) (f : ∀ o u, H a = some (.frz o u) → H' a = some (.frz o u)) (h : TupA K H a ds xs) : TupA K H' a ds xs := by
  unfold TupA at h ⊢
  split at h
  · rename_i e; rw [if_pos e]; exact h.imp (fun ⟨its, h⟩ => ⟨its, f _ _ h⟩) id
  · rename_i e
    rw [if_neg e]
    split at h
    · rename_i e2
      rw [if_pos e2]
      rcases h with (h | ⟨o, h⟩) | h
      · exact .inl (.inl (t _ h))
      · exact .inl (.inr ⟨o, f _ _ h⟩)
      · exact .inr h
    · rename_i e2; rw [if_neg e2]; exact t _ h
mutual
inductive Dq (K : PySem.W.Frag) (H : Hp) (β : Bs) : V → PyData → Prop
  | non : Dq K H β .non .none
  | bl (b : Bool) : Dq K H β (.bl b) (.bool b)
  | int (i : Int) : Dq K H β (.int i) (.int i)
  | str {x : Str} (h : x.length ≤ sizeLine) : Dq K H β (.str x) (.str x)
  | lst {a : Addr} {xs : List V} {ds : List PyData} : Sl H β a xs → ds.length ≤ sizeLine → DqAll K H β xs ds → Dq K H β (.ref a) (.list ds)
  | tup {a : Addr} {xs : List V} {ds : List PyData} : TupA K H a ds xs → ds.length ≤ sizeLine → DqAll K H β xs ds → Dq K H β (.ref a) (.tuple ds)
  | dic {a : Addr} {ks : List (Key × V)} {kvs : List (PyData × PyData)} : Sd H β a (.dK ks) → DqKv K H β Key keyD ks kvs → Dq K H β (.ref a) (.dict kvs)
  | dit {a : Addr} {ks : List (List Key × V)} {kvs : List (PyData × PyData)} : Sd H β a (.dT ks) → DqKv K H β (List Key) keysD ks kvs → Dq K H β (.ref a) (.dict ((.none, .none) :: kvs))
inductive DqAll (K : PySem.W.Frag) (H : Hp) (β : Bs) : List V → List PyData → Prop
  | nil : DqAll K H β [] []
  | cons {v : V} {vs : List V} {d : PyData} {ds : List PyData} : Dq K H β v d → DqAll K H β vs ds → DqAll K H β (v :: vs) (d :: ds)
inductive DqKv (K : PySem.W.Frag) (H : Hp) (β : Bs) : (κ : Type) → (κ → PyData) → List (κ × V) → List (PyData × PyData) → Prop
  | nil {κ : Type} {f : κ → PyData} : DqKv K H β κ f [] []
  | cons {κ : Type} {f : κ → PyData} {k : κ} {v : V} {d : PyData} {ks : List (κ × V)} {kvs : List (PyData × PyData)} : Dq K H β v d → DqKv K H β κ f ks kvs → DqKv K H β κ f ((k, v) :: ks) ((f k, d) :: kvs)
end
mutual
/-- what stands by itself, in another heap, beside other objects of the store -/
theorem Dq.tr {K : PySem.W.Frag} {H H' : Hp} {β β' : Bs} (sd : ∀ a o, NT o → Sd H β a o → Sd H' β' a o) (tq : ∀ a ds xs, TupA K H a ds xs → TupA K H' a ds xs) : ∀ {v : V} {d : PyData}, Dq K H β v d → Dq K H' β' v d
  | _, _, .non => .non
  | _, _, .bl b => .bl b
  | _, _, .int i => .int i
  | _, _, .str h => .str h
  | _, _, .lst h l r => .lst (sd _ _ trivial h) l (DqAll.tr sd tq r)
  | _, _, .tup h l r => .tup (tq _ _ _ h) l (DqAll.tr sd tq r)
  | _, _, .dic h r => .dic (sd _ _ trivial h) (DqKv.tr sd tq r)
  | _, _, .dit h r => .dit (sd _ _ trivial h) (DqKv.tr sd tq r)
theorem DqAll.tr {K : PySem.W.Frag} {H H' : Hp} {β β' : Bs} (sd : ∀ a o, NT o → Sd H β a o → Sd H' β' a o) (tq : ∀ a ds xs, TupA K H a ds xs → TupA K H' a ds xs) : ∀ {vs : List V} {ds : List PyData}, DqAll K H β vs ds → DqAll K H' β' vs ds
  | _, _, .nil => .nil
  | _, _, .cons h r => .cons (Dq.tr sd tq h) (DqAll.tr sd tq r)
theorem DqKv.tr {K : PySem.W.Frag} {H H' : Hp} {β β' : Bs} (sd : ∀ a o, NT o → Sd H β a o → Sd H' β' a o) (tq : ∀ a ds xs, TupA K H a ds xs → TupA K H' a ds xs) : ∀ {κ : Type} {f : κ → PyData} {ks : List (κ × V)} {kvs : List (PyData × PyData)}, DqKv K H β κ f ks kvs → DqKv K H' β' κ f ks kvs
  | _, _, _, _, .nil => .nil
  | _, _, _, _, .cons h r => .cons (Dq.tr sd tq h) (DqKv.tr sd tq r)
end
/-- from (β, H) on to (β', H'): the store's objects may turn, new ones may come, all else stands -/
structure Step (β : Bs) (H : Hp) (β' : Bs) (H' : Hp) : Prop where
  pre : β.b <+: β'.b
  gsub : ∀ a ∈ β.g, a ∈ β'.g
  gam : ∀ a ∈ β'.g, a ∈ β.g ∨ H a = none
  new : ∀ a ∈ β'.b, a ∈ β.b ∨ H a = none
  keep : ∀ a o, NT o → H a = some o → a ∉ β.b → H' a = some o
  tups : ∀ a xs, H a = some (.tup xs) → H' a = some (.tup xs)
  frzs : ∀ a o u, H a = some (.frz o u) → H' a = some (.frz o u)
  liv : ∀ a o, H a = some o → ∃ o', H' a = some o'
  tbs : TabsB β H → TabsB β' H'
theorem Step.refl (β : Bs) (H : Hp) : Step β H β H := ⟨List.prefix_refl _, fun _ h => h, fun _ h => .inl h, fun _ h => .inl h, fun _ _ _ h _ => h, fun _ _ h => h, fun _ _ _ h => h, fun _ o h => ⟨o, h⟩, id⟩
theorem Step.trans {β β1 β2 : Bs} {H H1 H2 : Hp} (a : Step β H β1 H1) (b : Step β1 H1 β2 H2) : Step β H β2 H2 := by
  refine ⟨a.pre.trans b.pre, fun x hx => b.gsub x (a.gsub x hx), fun x hx => ?_, fun x hx => ?_, fun x o nt e n => ?_, fun x xs e => b.tups x xs (a.tups x xs e), fun x o u e => b.frzs x o u (a.frzs x o u e), fun x o e => by
    obtain ⟨o', e'⟩ := a.liv x o e
    exact b.liv x o' e', fun t => b.tbs (a.tbs t)⟩
  · rcases b.gam x hx with h | h
    · exact a.gam x h
    · cases e : H x with
      | none => exact .inr rfl
      | some o =>
        obtain ⟨o', e'⟩ := a.liv x o e
        rw [e'] at h; cases h
  · rcases b.new x hx with h | h
    · exact a.new x h
    · by_cases hb : x ∈ β.b
      · exact .inl hb
      · cases e : H x with
        | none => exact .inr rfl
        | some o =>
          obtain ⟨o', e'⟩ := a.liv x o e
          rw [e'] at h; cases h
  · refine b.keep x o nt (a.keep x o nt e n) fun hx => ?_
    rcases a.new x hx with h | h
    · exact n h
    · rw [e] at h; cases h
theorem TabsB.same {β : Bs} {H H' : Hp} (t : TabsB β H) (h : Same H H') : TabsB β H' := fun p hp => by
  obtain ⟨n1, n2, ps, e, ht, ha⟩ := t p hp
  refine ⟨n1, n2, ps, h _ _ e, ht, fun pos cv hc => ?_⟩
  obtain ⟨c, ec, hcc, m1, m2⟩ := ha pos cv hc
  exact ⟨c, ec, h _ _ hcc, m1, m2⟩
theorem TabsB.put {β : Bs} {H : Hp} {p : Addr} {o : HO} (hp : p ∈ β.b ∨ p ∈ β.g) (t : TabsB β H) : TabsB β (upd H p o) := fun p' hp' => by
  obtain ⟨n1, n2, ps, e, ht, ha⟩ := t p' hp'
  have ne : ∀ {a : Addr}, a ∉ β.b → a ∉ β.g → a ≠ p := fun m1 m2 z => hp.elim (fun h => m1 (z ▸ h)) fun h => m2 (z ▸ h)
  refine ⟨n1, n2, ps, by rw [upd_ne (ne n1 n2)]; exact e, ht, fun pos cv hc => ?_⟩
  obtain ⟨c, ec, hcc, m1, m2⟩ := ha pos cv hc
  exact ⟨c, ec, by rw [upd_ne (ne m1 m2)]; exact hcc, m1, m2⟩
theorem TabsB.mono {β β' : Bs} {H : Hp} (hb : ∀ x ∈ β'.b, x ∈ β.b ∨ x ∈ β.g ∨ H x = none) (hg : ∀ x ∈ β'.g, x ∈ β.b ∨ x ∈ β.g ∨ H x = none) (t : TabsB β H) : TabsB β' H := fun p' hp' => by
  obtain ⟨n1, n2, ps, e, ht, ha⟩ := t p' hp'
  have ne : ∀ {a : Addr} {x : HO}, H a = some x → a ∉ β.b → a ∉ β.g → a ∉ β'.b ∧ a ∉ β'.g := fun {a x} e m1 m2 =>
    ⟨fun z => (hb a z).elim m1 fun z => z.elim m2 fun z => (by rw [e] at z; cases z), fun z => (hg a z).elim m1 fun z => z.elim m2 fun z => (by rw [e] at z; cases z)⟩
  refine ⟨(ne e n1 n2).1, (ne e n1 n2).2, ps, e, ht, fun pos cv hc => ?_⟩
  obtain ⟨c, ec, hcc, m1, m2⟩ := ha pos cv hc
  exact ⟨c, ec, hcc, (ne hcc m1 m2).1, (ne hcc m1 m2).2⟩
theorem Step.same {β : Bs} {H H' : Hp} (h : Same H H') : Step β H β H' := ⟨List.prefix_refl _, fun _ h => h, fun _ h => .inl h, fun _ h => .inl h, fun a o _ e _ => h a o e, fun a xs e => h a _ e, fun a o u e => h a _ e, fun a o e => ⟨o, h a o e⟩, fun t => t.same h⟩
theorem Step.lay {β : Bs} {H : Hp} {p : Addr} {o : HO} (h : H p = none) : Step β H β (upd H p o) := Step.same (same_new h)
def Bs.push (β : Bs) (p : Addr) : Bs := ⟨β.b ++ [p], β.g⟩
theorem Step.push {β : Bs} {H : Hp} {p : Addr} {o : HO} (h : H p = none) : Step β H (β.push p) (upd H p o) := by
  refine ⟨List.prefix_append _ _, fun _ h => h, fun _ h => .inl h, fun a ha => ?_, fun a x _ e _ => same_new h a x e, fun a xs e => same_new h a _ e, fun a o u e => same_new h a _ e, fun a o e => ⟨o, same_new h a o e⟩, fun t p' hp => ?_⟩
  rotate_left
  · obtain ⟨n1, n2, ps, e, ht, ha⟩ := t.same (same_new (o := o) h) p' hp
    have np : ∀ {a : Addr} {x : HO}, H a = some x → a ∉ β.b → a ∉ β.b ++ [p] := fun {a x} e n z => by
      rcases List.mem_append.mp z with z | z
      · exact n z
      · rw [show a = p by simpa using z, h] at e; cases e
    obtain ⟨m1, m2, ps', e', ht', ha'⟩ := t p' hp
    refine ⟨np e' m1, m2, ps', same_new h _ _ e', ht', fun pos cv hc => ?_⟩
    obtain ⟨c, ec, hcc, k1, k2⟩ := ha' pos cv hc
    exact ⟨c, ec, same_new h _ _ hcc, np hcc k1, k2⟩
  rcases List.mem_append.mp (show a ∈ β.b ++ [p] from ha) with h1 | h1
  · exact .inl h1
  · have : a = p := by simpa using h1
    exact .inr (by rw [this]; exact h)
/-- what the store holds is no tuple, and not locked -/
def Own : HO → Prop
  | .tup _ => False
  | .frz _ _ => False
  | _ => True
theorem Step.put {β : Bs} {H : Hp} {p : Addr} {o o' : HO} (hp : p ∈ β.b) (h : H p = some o') (ht : Own o') : Step β H β (upd H p o) := by
  refine ⟨List.prefix_refl _, fun _ h => h, fun _ h => .inl h, fun _ h => .inl h, fun a x _ e n => ?_, fun a xs e => ?_, fun a x u e => ?_, fun a x e => ?_, fun t p' hp' => ?_⟩
  rotate_right
  · obtain ⟨n1, n2, ps, e, ht, ha⟩ := t p' hp'
    refine ⟨n1, n2, ps, by rw [upd_ne (fun z => n1 (by rw [z]; exact hp))]; exact e, ht, fun pos cv hc => ?_⟩
    obtain ⟨c, ec, hcc, m1, m2⟩ := ha pos cv hc
    exact ⟨c, ec, by rw [upd_ne (fun z => m1 (by rw [z]; exact hp))]; exact hcc, m1, m2⟩
  · rw [upd_ne (fun z => n (by rw [z]; exact hp))]; exact e
  · rw [upd_ne (ne_of e h fun z => by rw [← z] at ht; exact ht)]; exact e
  · rw [upd_ne (ne_of e h fun z => by rw [← z] at ht; exact ht)]; exact e
  · by_cases z : a = p
    · exact ⟨o, by rw [z, upd_same]⟩
    · exact ⟨x, by rw [upd_ne z]; exact e⟩
section
variable {K : PySem.W.Frag} {H H' : Hp} {β β' : Bs}
theorem Step.out (s : Step β H β' H') {a : Addr} {o : HO} (h : H a = some o) (n : a ∉ β.b) : a ∉ β'.b := fun hx => by
  rcases s.new a hx with z | z
  · exact n z
  · rw [h] at z; cases z
theorem Step.outg (s : Step β H β' H') {a : Addr} {o : HO} (h : H a = some o) (n : a ∉ β.g) : a ∉ β'.g := fun hx => by
  rcases s.gam a hx with z | z
  · exact n z
  · rw [h] at z; cases z
theorem Step.sd {a : Addr} {o : HO} (s : Step β H β' H') (nt : NT o) (h : Sd H β a o) : Sd H' β' a o := ⟨s.keep a _ nt h.1 h.2.1, s.out h.1 h.2.1, s.outg h.1 h.2.2⟩
theorem Step.sl {a : Addr} {xs : List V} (s : Step β H β' H') (h : Sl H β a xs) : Sl H' β' a xs := s.sd trivial h
theorem Step.scr {a : Addr} {xs : List V} (s : Step β H β' H') (h : Scr K H a xs) : Scr K H' a xs := by
  rcases h with ⟨o, h⟩ | h
  · exact .inl ⟨o, s.frzs _ _ _ h⟩
  · exact .inr h
theorem Step.sqt {a : Addr} {xs : List V} (s : Step β H β' H') (h : SqT K H a xs) : SqT K H' a xs := by
  rcases h with (h | ⟨o, h⟩) | h
  · exact .inl (.inl (s.tups _ _ h))
  · exact .inl (.inr ⟨o, s.frzs _ _ _ h⟩)
  · exact .inr h
end
theorem Step.tupA {K : PySem.W.Frag} {H H' : Hp} {β β' : Bs} {a : Addr} {ds : List PyData} {xs : List V} (s : Step β H β' H') (h : TupA K H a ds xs) : TupA K H' a ds xs := h.keep (fun xs => s.tups a xs) fun o u => s.frzs a o u
theorem Step.dq {K : PySem.W.Frag} {H H' : Hp} {β β' : Bs} (s : Step β H β' H') {v : V} {d : PyData} (h : Dq K H β v d) : Dq K H' β' v d := h.tr (fun _ _ n h => s.sd n h) fun _ _ _ h => s.tupA h
theorem Step.dqs {K : PySem.W.Frag} {H H' : Hp} {β β' : Bs} (s : Step β H β' H') {vs : List V} {ds : List PyData} (h : DqAll K H β vs ds) : DqAll K H' β' vs ds := h.tr (fun _ _ n h => s.sd n h) fun _ _ _ h => s.tupA h
/-- as Step, but what is in the making may change -/
structure StepW (β : Bs) (H : Hp) (β' : Bs) (H' : Hp) : Prop where
  pre : β.b <+: β'.b
  gam : ∀ a ∈ β'.g, a ∈ β.g ∨ H a = none
  new : ∀ a ∈ β'.b, a ∈ β.b ∨ H a = none
  keep : ∀ a o, NT o → H a = some o → a ∉ β.b → a ∉ β.g → H' a = some o
  tups : ∀ a xs, H a = some (.tup xs) → H' a = some (.tup xs)
  frzs : ∀ a o u, H a = some (.frz o u) → H' a = some (.frz o u)
  tbs : TabsB β H → TabsB β' H'
theorem Step.w {β β' : Bs} {H H' : Hp} (s : Step β H β' H') : StepW β H β' H' := ⟨s.pre, s.gam, s.new, fun a o nt h n _ => s.keep a o nt h n, s.tups, s.frzs, s.tbs⟩
section
variable {K : PySem.W.Frag} {H H' : Hp} {β β' : Bs}
theorem StepW.out (s : StepW β H β' H') {a : Addr} {o : HO} (h : H a = some o) (n : a ∉ β.b) : a ∉ β'.b := fun hx => by
  rcases s.new a hx with z | z
  · exact n z
  · rw [h] at z; cases z
theorem StepW.outg (s : StepW β H β' H') {a : Addr} {o : HO} (h : H a = some o) (n : a ∉ β.g) : a ∉ β'.g := fun hx => by
  rcases s.gam a hx with z | z
  · exact n z
  · rw [h] at z; cases z
theorem StepW.sd {a : Addr} {o : HO} (s : StepW β H β' H') (nt : NT o) (h : Sd H β a o) : Sd H' β' a o := ⟨s.keep a _ nt h.1 h.2.1 h.2.2, s.out h.1 h.2.1, s.outg h.1 h.2.2⟩
theorem StepW.sl {a : Addr} {xs : List V} (s : StepW β H β' H') (h : Sl H β a xs) : Sl H' β' a xs := s.sd trivial h
theorem StepW.scr {a : Addr} {xs : List V} (s : StepW β H β' H') (h : Scr K H a xs) : Scr K H' a xs := by
  rcases h with ⟨o, h⟩ | h
  · exact .inl ⟨o, s.frzs _ _ _ h⟩
  · exact .inr h
theorem StepW.sqt {a : Addr} {xs : List V} (s : StepW β H β' H') (h : SqT K H a xs) : SqT K H' a xs := by
  rcases h with (h | ⟨o, h⟩) | h
  · exact .inl (.inl (s.tups _ _ h))
  · exact .inl (.inr ⟨o, s.frzs _ _ _ h⟩)
  · exact .inr h
theorem StepW.tupA {a : Addr} {ds : List PyData} {xs : List V} (s : StepW β H β' H') (h : TupA K H a ds xs) : TupA K H' a ds xs := h.keep (fun xs => s.tups a xs) fun o u => s.frzs a o u
theorem StepW.dq (s : StepW β H β' H') {v : V} {d : PyData} (h : Dq K H β v d) : Dq K H' β' v d := h.tr (fun _ _ n h => s.sd n h) fun _ _ _ h => s.tupA h
theorem StepW.dqs (s : StepW β H β' H') {vs : List V} {ds : List PyData} (h : DqAll K H β vs ds) : DqAll K H' β' vs ds := h.tr (fun _ _ n h => s.sd n h) fun _ _ _ h => s.tupA h
theorem StepW.trans {β1 β2 : Bs} {H1 H2 : Hp} (a : StepW β H β1 H1) (b : Step β1 H1 β2 H2) (liv : ∀ a o, H a = some o → ∃ o', H1 a = some o') : StepW β H β2 H2 := by
  refine ⟨a.pre.trans b.pre, fun x hx => ?_, fun x hx => ?_, fun x o nt e n m => b.keep x o nt (a.keep x o nt e n m) (a.out e n), fun x xs e => b.tups x xs (a.tups x xs e), fun x o u e => b.frzs x o u (a.frzs x o u e), fun t => b.tbs (a.tbs t)⟩
  · rcases b.gam x hx with h | h
    · exact a.gam x h
    · refine .inr ?_
      cases e : H x with
      | none => rfl
      | some o => obtain ⟨o', e'⟩ := liv x o e; rw [h] at e'; cases e'
  · rcases b.new x hx with h | h
    · exact a.new x h
    · refine .inr ?_
      cases e : H x with
      | none => rfl
      | some o => obtain ⟨o', e'⟩ := liv x o e; rw [h] at e'; cases e'
end
mutual
theorem Dq.dp {K : PySem.W.Frag} {H : Hp} {β : Bs} : ∀ {v : V} {d : PyData}, d.hasDict = false → Dq K H β v d → Dp K H v d
  | _, _, _, .non => .non
  | _, _, _, .bl b => .bl b
  | _, _, _, .int i => .int i
  | _, _, _, .str _ => .str _
  | _, _, n, .lst h _ r => .lst h.sq (DqAll.dp (by simpa [PyData.hasDict] using n) r)
  | _, _, n, .tup h _ r => .tup h.sqt (DqAll.dp (by simpa [PyData.hasDict] using n) r)
  | _, _, n, .dic _ _ => by simp [PyData.hasDict] at n
  | _, _, n, .dit _ _ => by simp [PyData.hasDict] at n
theorem DqAll.dp {K : PySem.W.Frag} {H : Hp} {β : Bs} : ∀ {vs : List V} {ds : List PyData}, PyData.hasDictAll ds = false → DqAll K H β vs ds → DpAll K H vs ds
  | _, _, _, .nil => .nil
  | _, _, n, .cons h r => by
    simp only [PyData.hasDictAll, Bool.or_eq_false_iff] at n
    exact .cons (Dq.dp n.1 h) (DqAll.dp n.2 r)
end
mutual
theorem noDict_lay : ∀ d : PyData, d.canLay0 = true → d.hasDict = false
  | .none, _ => rfl
  | .bool _, _ => rfl
  | .int _, _ => rfl
  | .str _, _ => rfl
  | .list xs, h => by
    simp only [PyData.hasDict]
    exact noDicts_lay xs (by simpa [PyData.canLay0] using h)
  | .tuple xs, h => by
    simp only [PyData.hasDict]
    exact noDicts_lay xs (by simpa [PyData.canLay0] using h)
  | .dict _, h => by simp [PyData.canLay0] at h
theorem noDicts_lay : ∀ xs : List PyData, PyData.canLayAll0 xs = true → PyData.hasDictAll xs = false
  | [], _ => rfl
  | x :: xs, h => by
    simp only [PyData.canLayAll0, Bool.and_eq_true] at h
    simp only [PyData.hasDictAll, noDict_lay x h.1, noDicts_lay xs h.2, Bool.or_self]
end
theorem noDict_sh {d : PyData} (h : SeqAt.shaped d = true) : d.hasDict = false := by
  unfold SeqAt.shaped at h
  rw [Bool.and_eq_true] at h
  exact noDict_lay d h.1
theorem DqAll.len {K : PySem.W.Frag} {H : Hp} {β : Bs} : ∀ {vs : List V} {ds : List PyData}, DqAll K H β vs ds → vs.length = ds.length
  | _, _, .nil => rfl
  | _, _, .cons _ r => by rw [List.length_cons, List.length_cons, DqAll.len r]
theorem DqAll.get {K : PySem.W.Frag} {H : Hp} {β : Bs} : ∀ {vs : List V} {ds : List PyData} {i : Nat} {v : V}, DqAll K H β vs ds → vs[i]? = some v → ∃ d, ds[i]? = some d ∧ Dq K H β v d
  | _, _, _, _, .nil, e => by simp at e
  | _, _, 0, _, .cons h _, e => by simp at e; subst e; exact ⟨_, rfl, h⟩
  | _, _, i + 1, v, .cons _ r, e => by
    obtain ⟨d, h1, h2⟩ := DqAll.get (i := i) (v := v) r (by simpa using e)
    exact ⟨d, by simpa using h1, h2⟩
theorem DqAll.get' {K : PySem.W.Frag} {H : Hp} {β : Bs} {vs : List V} {ds : List PyData} {i : Nat} {d : PyData} (h : DqAll K H β vs ds) (e : ds[i]? = some d) : ∃ v, vs[i]? = some v ∧ Dq K H β v d := by
  have hl := h.len
  obtain ⟨hi, _⟩ := List.getElem?_eq_some_iff.mp e
  have hv : i < vs.length := by omega
  obtain ⟨d', h1, h2⟩ := h.get (List.getElem?_eq_getElem hv)
  rw [e] at h1
  cases h1
  exact ⟨_, List.getElem?_eq_getElem hv, h2⟩
theorem DqAll.append {K : PySem.W.Frag} {H : Hp} {β : Bs} : ∀ {vs us : List V} {ds es : List PyData}, DqAll K H β vs ds → DqAll K H β us es → DqAll K H β (vs ++ us) (ds ++ es)
  | _, _, _, _, .nil, r => r
  | _, _, _, _, .cons h t, r => .cons h (DqAll.append t r)
theorem DqAll.take {K : PySem.W.Frag} {H : Hp} {β : Bs} : ∀ {vs : List V} {ds : List PyData} (n : Nat), DqAll K H β vs ds → DqAll K H β (vs.take n) (ds.take n)
  | _, _, 0, _ => .nil
  | _, _, _ + 1, .nil => .nil
  | _, _, n + 1, .cons h t => .cons h (DqAll.take n t)
theorem DqAll.drop {K : PySem.W.Frag} {H : Hp} {β : Bs} : ∀ {vs : List V} {ds : List PyData} (n : Nat), DqAll K H β vs ds → DqAll K H β (vs.drop n) (ds.drop n)
  | _, _, 0, h => h
  | _, _, _ + 1, .nil => .nil
  | _, _, n + 1, .cons _ t => DqAll.drop n t
/-- an exception that is being looked at: where it stands, its class, its dict -/
abbrev Exo := Option (Addr × Value × Option Addr)
structure Cf where
  K : PySem.W.Frag
  mg : Str → Option Value
  z : Exo
abbrev Cf.o (G : Cf) : Cf := ⟨G.K, G.mg, none⟩
/-- an exception: its class by name, its fields -/
def RX (G : Cf) (H : Hp) (β : Bs) (x : Exn) (c : Value) (d : Option Addr) : Prop := ∃ (C dd : Addr) (xs : List (Str × V)), G.mg x.1 = some (.ref C) ∧ c = .ref C ∧ d = some dd ∧ H dd = some (.xd xs) ∧ dd ∉ β.b ∧
  Paired (fun (p : Str × PyData) (q : Str × V) => p.1 = q.1 ∧ Dq G.K H β q.2 p.2) x.2 xs
theorem Step.rx {G : Cf} {H H' : Hp} {β β' : Bs} {x : Exn} {c : Value} {d : Option Addr} (s : Step β H β' H') (h : RX G H β x c d) : RX G H' β' x c d := by
  obtain ⟨C, dd, xs, h1, h2, h3, h4, h5, h6⟩ := h
  exact ⟨C, dd, xs, h1, h2, h3, s.keep _ _ trivial h4 h5, s.out h4 h5, Paired.mapP h6 fun p q z => ⟨z.1, s.dq z.2⟩⟩
/-- what a lambda has caught -/
def CapR (K : PySem.W.Frag) (H : Hp) (β : Bs) (ρ : List (Option (PyData ⊕ Nat))) (σ : L2.St) : Prop := ρ.length = σ.length ∧ ∀ (i : Nat) (x : PyData ⊕ Nat), ρ[i]? = some (some x) → ∃ u, σ[i]? = some (some u) ∧
  (match x with
   | .inl p => Dq K H β u p
   | .inr n => ∃ a, β.b[n]? = some a ∧ u = .ref a)
theorem CapR.map {K : PySem.W.Frag} {H H' : Hp} {β β' : Bs} (dq : ∀ u p, Dq K H β u p → Dq K H' β' u p) (hb : ∀ (n : Nat) (a : Addr), β.b[n]? = some a → β'.b[n]? = some a) {ρ : List (Option (PyData ⊕ Nat))} {σ : L2.St} (h : CapR K H β ρ σ) : CapR K H' β' ρ σ := ⟨h.1, fun i x e => by
  obtain ⟨u, h1, h2⟩ := h.2 i x e
  refine ⟨u, h1, ?_⟩
  cases x with
  | inl p => exact dq _ _ h2
  | inr n =>
    obtain ⟨a, e, q⟩ := h2
    exact ⟨a, hb _ _ e, q⟩⟩
theorem Step.cap {K : PySem.W.Frag} {H H' : Hp} {β β' : Bs} (s : Step β H β' H') {ρ : List (Option (PyData ⊕ Nat))} {σ : L2.St} (h : CapR K H β ρ σ) : CapR K H' β' ρ σ := ⟨h.1, fun i x e => by
  obtain ⟨u, h1, h2⟩ := h.2 i x e
  refine ⟨u, h1, ?_⟩
  cases x with
  | inl p => exact s.dq h2
  | inr n =>
    obtain ⟨a, e, q⟩ := h2
    obtain ⟨t, ht⟩ := s.pre
    refine ⟨a, ?_, q⟩
    rw [← ht, List.getElem?_append_left (List.getElem?_eq_some_iff.mp e).1]
    exact e⟩
/-- a value -/
def Rv (G : Cf) (H : Hp) (β : Bs) : Vl → V → Prop
  | .dat p, v => Dq G.K H β v p
  | .ref n, v => ∃ a, β.b[n]? = some a ∧ v = .ref a
  | .scr ns, v => ∃ a, v = .ref a ∧ Scr G.K H a (ns.map V.int)
  | .exo nm fs, v => ∃ a c d, G.z = some (a, c, d) ∧ v = .ref a ∧ RX G H β (nm, fs) c d
  | .fn nm, v => ∃ a, G.mg nm = some (.ref a) ∧ v = .ref a
  | .lam f c q σ ρ, v => v = .ref f ∧ H c = some (LamX.CodeO c q) ∧ (c ∉ β.b ∧ c ∉ β.g) ∧ CapR G.K H β ρ σ
/-- it is no exception -/
def noX : Vl → Bool
  | .exo _ _ => false
  | _ => true
theorem Rv.up {G : Cf} {H : Hp} {β : Bs} : ∀ {v : Vl} {u : V}, Rv G.o H β v u → Rv G H β v u
  | .dat _, _, h => h
  | .ref _, _, h => h
  | .scr _, _, h => h
  | .exo _ _, _, ⟨_, _, _, e, _⟩ => by cases e
  | .fn _, _, h => h
  | .lam _ _ _ _ _, _, h => h
theorem Rv.dn {G : Cf} {H : Hp} {β : Bs} : ∀ {v : Vl} {u : V}, noX v = true → Rv G H β v u → Rv G.o H β v u
  | .dat _, _, _, h => h
  | .ref _, _, _, h => h
  | .scr _, _, _, h => h
  | .exo _ _, _, e, _ => by cases e
  | .fn _, _, _, h => h
  | .lam _ _ _ _ _, _, _, h => h
theorem Step.rv {G : Cf} {H H' : Hp} {β β' : Bs} (s : Step β H β' H') : ∀ {v : Vl} {u : V}, Rv G H β v u → Rv G H' β' v u
  | .dat _, _, h => s.dq h
  | .scr _, _, ⟨a, e, q⟩ => ⟨a, e, s.scr q⟩
  | .exo _ _, _, ⟨a, c, d, e, q, r⟩ => ⟨a, c, d, e, q, s.rx r⟩
  | .fn _, _, h => h
  | .lam _ _ _ _ _, _, ⟨e, h, n, r⟩ => ⟨e, s.keep _ _ trivial h n.1, ⟨s.out h n.1, s.outg h n.2⟩, s.cap r⟩
  | .ref n, _, ⟨a, e, q⟩ => by
    obtain ⟨t, ht⟩ := s.pre
    refine ⟨a, ?_, q⟩
    rw [← ht, List.getElem?_append_left (List.getElem?_eq_some_iff.mp e).1]
    exact e
def Rvs (G : Cf) (H : Hp) (β : Bs) : List Vl → List V → Prop := Paired (Rv G H β)
theorem Step.rvs {G : Cf} {H H' : Hp} {β β' : Bs} (s : Step β H β' H') : ∀ {vs : List Vl} {us : List V}, Rvs G H β vs us → Rvs G H' β' vs us
  | _, _, .nil => .nil
  | _, _, .cons h r => .cons (s.rv h) (Step.rvs s r)
theorem Rvs.up {G : Cf} {H : Hp} {β : Bs} : ∀ {vs : List Vl} {us : List V}, Rvs G.o H β vs us → Rvs G H β vs us
  | _, _, .nil => .nil
  | _, _, .cons h r => .cons (Rv.up h) (Rvs.up r)
theorem Rvs.dn {G : Cf} {H : Hp} {β : Bs} : ∀ {vs : List Vl} {us : List V}, vs.all noX = true → Rvs G H β vs us → Rvs G.o H β vs us
  | _, _, _, .nil => .nil
  | v :: vs, _, e, .cons h r => by
    rw [List.all_cons, Bool.and_eq_true] at e
    exact .cons (Rv.dn e.1 h) (Rvs.dn e.2 r)
theorem Rvs.len {G : Cf} {H : Hp} {β : Bs} {vs : List Vl} {us : List V} (h : Rvs G H β vs us) : vs.length = us.length := Paired.length h
theorem Rvs.get {G : Cf} {H : Hp} {β : Bs} : ∀ {vs : List Vl} {us : List V} {i : Nat} {u : V}, Rvs G H β vs us → us[i]? = some u → ∃ v, vs[i]? = some v ∧ Rv G H β v u
  | _, _, _, _, .nil, e => by simp at e
  | _, _, 0, _, .cons h _, e => by simp at e; subst e; exact ⟨_, rfl, h⟩
  | _, _, i + 1, u, .cons _ r, e => by
    obtain ⟨d, h1, h2⟩ := Rvs.get (i := i) (u := u) r (by simpa using e)
    exact ⟨d, by simpa using h1, h2⟩
theorem Rvs.get' {G : Cf} {H : Hp} {β : Bs} {vs : List Vl} {us : List V} {i : Nat} {v : Vl} (h : Rvs G H β vs us) (e : vs[i]? = some v) : ∃ u, us[i]? = some u ∧ Rv G H β v u := by
  have hl := h.len
  obtain ⟨hi, _⟩ := List.getElem?_eq_some_iff.mp e
  have hv : i < us.length := by omega
  obtain ⟨d', h1, h2⟩ := h.get (List.getElem?_eq_getElem hv)
  rw [e] at h1
  cases h1
  exact ⟨_, List.getElem?_eq_getElem hv, h2⟩
theorem Rvs.append {G : Cf} {H : Hp} {β : Bs} : ∀ {vs ws : List Vl} {us xs : List V}, Rvs G H β vs us → Rvs G H β ws xs → Rvs G H β (vs ++ ws) (us ++ xs)
  | _, _, _, _, .nil, r => r
  | _, _, _, _, .cons h t, r => .cons h (Rvs.append t r)
theorem Rvs.set {G : Cf} {H : Hp} {β : Bs} {v : Vl} {u : V} (r : Rv G H β v u) : ∀ {vs : List Vl} {us : List V} (i : Nat), Rvs G H β vs us → Rvs G H β (vs.set i v) (us.set i u)
  | _, _, _, .nil => .nil
  | _, _, 0, .cons _ t => .cons r t
  | _, _, i + 1, .cons q t => .cons q (Rvs.set r i t)
theorem Rvs.dats {G : Cf} {H : Hp} {β : Bs} : ∀ {ds : List PyData} {us : List V}, DqAll G.K H β us ds → Rvs G H β (ds.map Vl.dat) us
  | _, _, .nil => .nil
  | _, _, .cons h t => .cons h (Rvs.dats t)
theorem Rvs.undats {G : Cf} {H : Hp} {β : Bs} : ∀ {ds : List PyData} {us : List V}, Rvs G H β (ds.map Vl.dat) us → DqAll G.K H β us ds
  | [], _, .nil => .nil
  | _ :: _, _, .cons h t => .cons h (Rvs.undats t)
/-- all of a list are data -/
def datas : List Vl → Option (List PyData)
  | [] => some []
  | .dat p :: r => (datas r).map (p :: ·)
  | .ref _ :: _ => none
  | .scr _ :: _ => none
  | .exo _ _ :: _ => none
  | .fn _ :: _ => none
  | .lam _ _ _ _ _ :: _ => none
theorem datas_eq : ∀ {vs : List Vl} {ds : List PyData}, datas vs = some ds → vs = ds.map Vl.dat
  | [], ds, h => by
    have : [] = ds := by simpa [datas] using h
    subst this
    rfl
  | .dat p :: r, ds, h => by
    cases e : datas r with
    | none => simp [datas, e] at h
    | some l =>
      have : p :: l = ds := by simpa [datas, e] using h
      subst this
      rw [datas_eq e]
      rfl
  | .ref _ :: _, ds, h => by simp [datas] at h
  | .scr _ :: _, ds, h => by simp [datas] at h
  | .exo _ _ :: _, ds, h => by simp [datas] at h
  | .fn _ :: _, ds, h => by simp [datas] at h
  | .lam _ _ _ _ _ :: _, ds, h => by simp [datas] at h
@[simp] theorem datas_map : ∀ ds : List PyData, datas (ds.map Vl.dat) = some ds
  | [] => rfl
  | d :: ds => by simp [datas, datas_map ds]
def RO (G : Cf) (H : Hp) (β : Bs) (a : Addr) : Ob → Prop
  | .lst l => l.length ≤ sizeLine ∧ ∃ xs, H a = some (.lst xs) ∧ Rvs G.o H β l xs
  | .dic false kvs => ∃ ks : List (Key × V), H a = some (.dK ks) ∧ Paired (fun (p : PyData × Vl) (q : Key × V) => p.1 = keyD q.1 ∧ Rv G.o H β p.2 q.2) kvs ks
  | .dic true kvs => ∃ ks : List (List Key × V), H a = some (.dT ks) ∧ Paired (fun (p : PyData × Vl) (q : List Key × V) => p.1 = keysD q.1 ∧ Rv G.o H β p.2 q.2) kvs ks
  | .ins c fs => ∃ (C dx : Addr) (xs : List (Str × V)), G.mg c = some (.ref C) ∧ H a = some (.ins C dx xs) ∧ H dx = some (.own a) ∧ dx ∉ β.b ∧ Paired (fun (p : Str × Vl) (q : Str × V) => p.1 = q.1 ∧ Rv G.o H β p.2 q.2) fs xs
  | .tup l => l.length ≤ sizeLine ∧ ∃ xs, H a = some (.tup xs) ∧ Rvs G.o H β l xs
/-- a tuple that holds objects of the store -/
def isTp : Ob → Bool
  | .tup _ => true
  | _ => false
theorem RO.own {G : Cf} {H : Hp} {β : Bs} {a : Addr} {o : Ob} (h : RO G H β a o) : ∃ x, H a = some x ∧ (isTp o = false → Own x) := by
  cases o with
  | lst l => obtain ⟨_, xs, e, _⟩ := h; exact ⟨_, e, fun _ => trivial⟩
  | dic t l => cases t <;> (obtain ⟨xs, e, _⟩ := h; exact ⟨_, e, fun _ => trivial⟩)
  | ins c l => obtain ⟨_, _, xs, _, e, _⟩ := h; exact ⟨_, e, fun _ => trivial⟩
  | tup l => obtain ⟨_, xs, e, _⟩ := h; exact ⟨_, e, fun z => by cases z⟩
theorem RO.ownN {G : Cf} {H : Hp} {β : Bs} {a : Addr} {o : Ob} (h : RO G H β a o) : ∃ x, H a = some x ∧ NT x := by
  cases o with
  | lst l => obtain ⟨_, xs, e, _⟩ := h; exact ⟨_, e, trivial⟩
  | dic t l => cases t <;> (obtain ⟨xs, e, _⟩ := h; exact ⟨_, e, trivial⟩)
  | ins c l => obtain ⟨_, _, xs, _, e, _⟩ := h; exact ⟨_, e, trivial⟩
  | tup l => obtain ⟨_, xs, e, _⟩ := h; exact ⟨_, e, trivial⟩
theorem RO.step {G : Cf} {H H' : Hp} {β β' : Bs} {a : Addr} {o : Ob} (s : Step β H β' H') (ha : H' a = H a) (h : RO G H β a o) : RO G H' β' a o := by
  cases o with
  | tup l => obtain ⟨hl, xs, e, r⟩ := h; exact ⟨hl, xs, by rw [ha]; exact e, s.rvs r⟩
  | lst l => obtain ⟨hl, xs, e, r⟩ := h; exact ⟨hl, xs, by rw [ha]; exact e, s.rvs r⟩
  | dic t l => cases t <;> (obtain ⟨xs, e, r⟩ := h; exact ⟨xs, by rw [ha]; exact e, Paired.mapP r fun p q z => ⟨z.1, s.rv z.2⟩⟩)
  | ins c l =>
    obtain ⟨C, dx, xs, hm, e, hd, n, r⟩ := h
    exact ⟨C, dx, xs, hm, by rw [ha]; exact e, s.keep _ _ trivial hd n, s.out hd n, Paired.mapP r fun p q z => ⟨z.1, s.rv z.2⟩⟩
structure RelS (G : Cf) (β : Bs) (s : Sto) (H : Hp) : Prop where
  len : β.b.length = s.length
  nd : β.b.Nodup
  ob : ∀ (n : Nat) (o : Ob) (a : Addr), s[n]? = some o → β.b[n]? = some a → RO G H β a o
  gs : ∀ a ∈ β.g, (∃ o, H a = some o) ∧ a ∉ β.b
  tb : TabsB β H
theorem RelS.own {G : Cf} {β : Bs} {s : Sto} {H : Hp} (h : RelS G β s H) {a : Addr} (ha : a ∈ β.b) : ∃ x, H a = some x ∧ NT x := by
  obtain ⟨n, hn, e⟩ := List.getElem_of_mem ha
  have hs : n < s.length := by rw [← h.len]; exact hn
  exact (h.ob n _ a (List.getElem?_eq_getElem hs) (by rw [List.getElem?_eq_getElem hn, e])).ownN
theorem RelS.nin {G : Cf} {β : Bs} {s : Sto} {H : Hp} (h : RelS G β s H) {p : Addr} (hp : H p = none) : p ∉ β.b := fun z => by
  obtain ⟨x, e, _⟩ := h.own z
  rw [hp] at e; cases e
theorem RelS.nig {G : Cf} {β : Bs} {s : Sto} {H : Hp} (h : RelS G β s H) {p : Addr} (hp : H p = none) : p ∉ β.g := fun z => by
  obtain ⟨⟨x, e⟩, _⟩ := h.gs p z
  rw [hp] at e; cases e
/-- all that stood stands -/
theorem RelS.same {G : Cf} {β : Bs} {s : Sto} {H H' : Hp} (h : RelS G β s H) (e : Same H H') : RelS G β s H' :=
  ⟨h.len, h.nd, fun n o a h1 h2 => by
    have r := h.ob n o a h1 h2
    obtain ⟨x, hx, _⟩ := r.own
    exact r.step (Step.same e) (by rw [hx]; exact e _ _ hx), fun a ha => by
    obtain ⟨⟨o, ho⟩, n⟩ := h.gs a ha
    exact ⟨⟨o, e _ _ ho⟩, n⟩, h.tb.same e⟩
theorem RelS.push {G : Cf} {β : Bs} {s : Sto} {H : Hp} {p : Addr} {o : HO} {ob : Ob} (h : RelS G β s H) (hp : H p = none) (r : RO G (upd H p o) (β.push p) p ob) : RelS G (β.push p) (s ++ [ob]) (upd H p o) := by
  have hn := h.nin hp
  refine ⟨by simp [Bs.push, h.len], ?_, fun n x a h1 h2 => ?_, fun a ha => ?_, (Step.push hp).tbs h.tb⟩
  · show (β.b ++ [p]).Nodup
    rw [List.nodup_append]
    exact ⟨h.nd, by simp, fun a ha b hb => by
      have : b = p := by simpa using hb
      subst this
      exact fun z => hn (z ▸ ha)⟩
  · have h2 : (β.b ++ [p])[n]? = some a := h2
    by_cases hlt : n < s.length
    · rw [List.getElem?_append_left hlt] at h1
      rw [List.getElem?_append_left (by rw [h.len]; exact hlt)] at h2
      have r := h.ob n x a h1 h2
      obtain ⟨y, hy, _⟩ := r.own
      exact r.step (Step.push hp) (by rw [upd_ne (ne_of_none hy hp)])
    · have hlt2 : n < (s ++ [ob]).length := (List.getElem?_eq_some_iff.mp h1).1
      have : n = s.length := by simp at hlt2; omega
      subst this
      rw [List.getElem?_append_right (Nat.le_refl _), Nat.sub_self] at h1
      rw [← h.len, List.getElem?_append_right (Nat.le_refl _), Nat.sub_self] at h2
      cases h1; cases h2
      exact r
  · obtain ⟨⟨x, hx⟩, n⟩ := h.gs a ha
    refine ⟨⟨x, by rw [upd_ne (ne_of_none hx hp)]; exact hx⟩, fun z => ?_⟩
    rcases List.mem_append.mp (show a ∈ β.b ++ [p] from z) with z | z
    · exact n z
    · have : a = p := by simpa using z
      rw [this, hp] at hx; cases hx
theorem RelS.put {G : Cf} {β : Bs} {s : Sto} {H : Hp} {n : Nat} {a : Addr} {o : HO} {ob ob' : Ob} (h : RelS G β s H) (hs : s[n]? = some ob') (ha : β.b[n]? = some a) (r : RO G (upd H a o) β a ob) (htp : isTp ob' = false := by rfl) : RelS G β (s.set n ob) (upd H a o) := by
  have hm : a ∈ β.b := List.mem_of_getElem? ha
  obtain ⟨y, hy, ho⟩ := (h.ob n ob' a hs ha).own
  have ho := ho htp
  refine ⟨by simp [h.len], h.nd, fun m x b h1 h2 => ?_, fun b hb => ?_, (Step.put hm hy ho).tbs h.tb⟩
  · by_cases hmn : m = n
    · subst hmn
      rw [List.getElem?_set_self (List.getElem?_eq_some_iff.mp hs).1] at h1
      rw [ha] at h2
      cases h1; cases h2
      exact r
    · rw [List.getElem?_set_ne (Ne.symm hmn)] at h1
      refine (h.ob m x b h1 h2).step (Step.put hm hy ho) (upd_ne fun z => hmn ?_)
      subst z
      obtain ⟨i1, e1⟩ := List.getElem?_eq_some_iff.mp ha
      obtain ⟨i2, e2⟩ := List.getElem?_eq_some_iff.mp h2
      exact (List.getElem_inj h.nd).mp (e2.trans e1.symm)
  · obtain ⟨⟨x, hx⟩, n⟩ := h.gs b hb
    exact ⟨⟨x, by rw [upd_ne (fun z => n (by rw [z]; exact hm))]; exact hx⟩, n⟩
structure RelL (G : Cf) (H : Hp) (β : Bs) (ρ : Loc) (σ : L2.St) : Prop where
  len : ρ.length = σ.length
  at' : ∀ (i : Nat) v, ρ[i]? = some (some v) → ∃ u, σ[i]? = some (some u) ∧ Rv G H β v u
theorem RelL.step {G : Cf} {H H' : Hp} {β β' : Bs} {ρ : Loc} {σ : L2.St} (s : Step β H β' H') (h : RelL G H β ρ σ) : RelL G H' β' ρ σ := ⟨h.len, fun i v e => by
  obtain ⟨u, h1, h2⟩ := h.at' i v e
  exact ⟨u, h1, s.rv h2⟩⟩
theorem RelL.set {G : Cf} {H : Hp} {β : Bs} {ρ : Loc} {σ : L2.St} (h : RelL G H β ρ σ) {i : Nat} {v : Vl} {u : V} (r : Rv G H β v u) : RelL G H β (ρ.set i (some v)) (σ.set i (some u)) := by
  refine ⟨by simp [h.len], fun j w e => ?_⟩
  by_cases hj : j = i
  · subst hj
    by_cases hlt : j < ρ.length
    · rw [List.getElem?_set_self hlt] at e
      cases e
      exact ⟨u, List.getElem?_set_self (by rw [← h.len]; exact hlt), r⟩
    · rw [List.getElem?_eq_none (by simpa using hlt)] at e; cases e
  · rw [List.getElem?_set_ne (Ne.symm hj)] at e
    obtain ⟨x, h1, h2⟩ := h.at' j w e
    exact ⟨x, by rw [List.getElem?_set_ne (Ne.symm hj)]; exact h1, h2⟩
theorem RelL.setN {G : Cf} {H : Hp} {β : Bs} {ρ : Loc} {σ : L2.St} (h : RelL G H β ρ σ) {i : Nat} {x : Option V} : RelL G H β (ρ.set i none) (σ.set i x) := by
  refine ⟨by simp [h.len], fun j w e => ?_⟩
  by_cases hj : j = i
  · subst hj
    by_cases hlt : j < ρ.length
    · rw [List.getElem?_set_self hlt] at e; cases e
    · rw [List.getElem?_eq_none (by simpa using hlt)] at e; cases e
  · rw [List.getElem?_set_ne (Ne.symm hj)] at e
    obtain ⟨y, h1, h2⟩ := h.at' j w e
    exact ⟨y, by rw [List.getElem?_set_ne (Ne.symm hj)]; exact h1, h2⟩
section
variable {α υ : Type}
abbrev Rel (α υ : Type) := Hp → Bs → α → υ → Prop
/-- what is to follow an end -/
def Post (G : Cf) (rel : Rel α υ) (W : WX) (σ : L2.St) (β : Bs) (H : Hp) (Q : υ → Hp → Prop) : R α → Prop
  | .ok v s => ∀ β' H' u, Step β H β' H' → RelS G β' s H' → rel H' β' v u → Q u H'
  | .ex x s => ∀ β' H' c d, Step β H β' H' → RelS G β' s H' → RX G H' β' x c d → W c d σ H'
  | .bad => False
theorem Post.step {G : Cf} {rel : Rel α υ} {W : WX} {σ : L2.St} {β β1 : Bs} {H H1 : Hp} {Q : υ → Hp → Prop} {r : R α} (h : Post G rel W σ β H Q r) (s : Step β H β1 H1) : Post G rel W σ β1 H1 Q r := by
  cases r with
  | ok v st => exact fun β' H' u s' => h β' H' u (s.trans s')
  | ex x st => exact fun β' H' c d s' => h β' H' c d (s.trans s')
  | bad => exact h
theorem Post.bind {α' υ' : Type} {G : Cf} {rel : Rel α υ} {rel' : Rel α' υ'} {W : WX} {σ : L2.St} {β : Bs} {H : Hp} {Q : υ' → Hp → Prop} {Q1 : υ → Hp → Prop} {r : R α} {k : α → Sto → R α'} (h : Post G rel' W σ β H Q (r.bind k))
    (hk : ∀ v s1 β1 H1 u, Step β H β1 H1 → RelS G β1 s1 H1 → rel H1 β1 v u → Post G rel' W σ β1 H1 Q (k v s1) → Q1 u H1) : Post G rel W σ β H Q1 r := by
  cases r with
  | ok v st => exact fun β' H' u s' hs hr => hk v st β' H' u s' hs hr (Post.step (show Post G rel' W σ β H Q (k v st) from h) s')
  | ex x st => exact h
  | bad => exact h
/-- a reading by the machine -/
def tG (G : Cf) (rel : Rel α υ) (W : WX) (f : Loc → Sto → R α) : L2.St → Hp → (υ → Hp → Prop) → Prop := fun σ H Q => ∃ β ρ s, RelL G H β ρ σ ∧ RelS G β s H ∧ Post G rel W σ β H Q (f ρ s)
def PostS (G : Cf) (W : WX) (β : Bs) (H : Hp) (D : Ends) : Fl → Prop
  | .nx ρ s => ∀ β' σ' H', Step β H β' H' → RelL G H' β' ρ σ' → RelS G β' s H' → D.nx σ' H'
  | .rt v s => ∀ β' H' u, Step β H β' H' → RelS G β' s H' → Rv G H' β' v u → D.rt u H'
  | .bk ρ s => ∀ β' σ' H', Step β H β' H' → RelL G H' β' ρ σ' → RelS G β' s H' → D.bk σ' H'
  | .ct ρ s => ∀ β' σ' H', Step β H β' H' → RelL G H' β' ρ σ' → RelS G β' s H' → D.ct σ' H'
  | .ex x ρ s => ∀ β' σ' H' c d, Step β H β' H' → RelL G H' β' ρ σ' → RelS G β' s H' → RX G H' β' x c d → W c d σ' H'
  | .bad => False
theorem PostS.step {G : Cf} {W : WX} {β β1 : Bs} {H H1 : Hp} {D : Ends} {f : Fl} (h : PostS G W β H D f) (s : Step β H β1 H1) : PostS G W β1 H1 D f := by
  cases f with
  | nx ρ st => exact fun β' σ' H' s' => h β' σ' H' (s.trans s')
  | rt v st => exact fun β' H' u s' => h β' H' u (s.trans s')
  | bk ρ st => exact fun β' σ' H' s' => h β' σ' H' (s.trans s')
  | ct ρ st => exact fun β' σ' H' s' => h β' σ' H' (s.trans s')
  | ex x ρ st => exact fun β' σ' H' c d s' => h β' σ' H' c d (s.trans s')
  | bad => exact h
def tS (G : Cf) (W : WX) (f : MS) : TS := fun D σ H => ∃ β ρ s, RelL G H β ρ σ ∧ RelS G β s H ∧ PostS G W β H D (f ρ s)
theorem PostS.to {G : Cf} {rel : Rel α υ} {W : WX} {σ : L2.St} {ρ : Loc} {β : Bs} {H : Hp} {D : Ends} {Q1 : υ → Hp → Prop} {r : R α} {k : α → Sto → Fl} (hl : RelL G H β ρ σ) (h : PostS G W β H D (r.to ρ k))
    (hk : ∀ v s1 β1 H1 u, Step β H β1 H1 → RelS G β1 s1 H1 → rel H1 β1 v u → PostS G W β1 H1 D (k v s1) → Q1 u H1) : Post G rel W σ β H Q1 r := by
  cases r with
  | ok v st => exact fun β' H' u s' hs hr => hk v st β' H' u s' hs hr (PostS.step (show PostS G W β H D (k v st) from h) s')
  | ex x st => exact fun β' H' c d s' hs hx => h β' σ H' c d s' (hl.step s') hs hx
  | bad => exact h
end
end Pm
set_option maxRecDepth 100000
set_option maxHeartbeats 4000000
namespace Pm
open PySem PySem.Spec PyProof.Rows L2 Sw
abbrev cf (X : Cx) (zx : Exo) : Cf := ⟨X.K, X.mg, zx⟩
theorem PE.imp {X : Cx} {e : Expr} {t t' : TE} (h : PE X e t) (i : ∀ σ H Q, t' σ H Q → t σ H Q) : PE X e t' := ⟨fun pins s σ H Q I q => h.run pins s σ H Q I (i σ H Q q)⟩
theorem PT.imp {X : Cx} {e : Expr} {t t' : TT} (h : PT X e t) (i : ∀ σ H Q, t' σ H Q → t σ H Q) : PT X e t' := ⟨fun pins s σ H Q I q => h.run pins s σ H Q I (i σ H Q q)⟩
theorem PW.imp {X : Cx} {e : Expr} {t t' : TT} (h : PW X e t) (i : ∀ σ H Q, t' σ H Q → t σ H Q) : PW X e t' := ⟨fun wh pins s σ H Q I q => h.run wh pins s σ H Q I (i σ H Q q)⟩
theorem PA.imp {X : Cx} {es : List Expr} {t t' : TA} (h : PA X es t) (i : ∀ σ H Q, t' σ H Q → t σ H Q) : PA X es t' := ⟨fun p pins s σ H Q I q => h.run p pins s σ H Q I (i σ H Q q)⟩
theorem PS.imp {X : Cx} {st : Stmt} {t t' : TS} (h : PS X st t) (i : ∀ D σ H, t' D σ H → t D σ H) : PS X st t' := ⟨fun pins s σ H D I q => h.run pins s σ H D I (i D σ H q)⟩
theorem PSs.imp {X : Cx} {st : List Stmt} {t t' : TS} (h : PSs X st t) (i : ∀ D σ H, t' D σ H → t D σ H) : PSs X st t' := ⟨fun pins s σ H D I q => h.run pins s σ H D I (i D σ H q)⟩
/-- the same Bool -/
abbrev rB : Rel Bool Bool := fun _ _ a b => a = b
abbrev DE (X : Cx) (zx : Exo) (W : WX) (e : Expr) (f : ME) : Prop := PE X e (tG (cf X zx) (Rv (cf X zx)) W f)
abbrev DT (X : Cx) (zx : Exo) (W : WX) (e : Expr) (f : MT) : Prop := PT X e (tG (cf X zx) rB W f)
abbrev DW (X : Cx) (zx : Exo) (W : WX) (e : Expr) (f : MT) : Prop := PW X e (tG (cf X zx) rB W f)
abbrev DA (X : Cx) (zx : Exo) (W : WX) (es : List Expr) (f : MA) : Prop := PA X es (tG (cf X zx) (Rvs (cf X zx)) W f)
abbrev DS (X : Cx) (zx : Exo) (W : WX) (st : Stmt) (f : MS) : Prop := PS X st (tS (cf X zx) W f)
def mVar (i : Nat) : ME := fun ρ s => match ρ[i]? with
  | some (some v) => .ok v s
  | _ => .bad
def mC (p : PyData) : ME := fun _ s => .ok (.dat p) s
section
variable {X : Cx} {zx : Exo} {W : WX} {a b c : Expr} {f g h : ME} {pos : Pos}
theorem de_var {i : Nat} {x : Str} (hN : X.N[i]? = some x) (hv : Vis X.env.scope x) (hd : (x == ("__debug__" : Str)) = false := by decide) (hcd : (x == ("__classdict__" : Str)) = false := by decide) : DE X zx W (.Name x pos) (mVar i) := by
  refine PE.imp (pe_var hN hv hd hcd) fun σ H Q ⟨β, ρ, s, hl, hs, hp⟩ => ?_
  unfold mVar at hp
  split at hp
  · rename_i v e
    obtain ⟨u, h1, h2⟩ := hl.at' i v e
    exact ⟨u, h1, hp β H u (Step.refl _ _) hs h2⟩
  · exact hp.elim
theorem de_int {i : Int} {j} : DE X zx W (.Constant (.int i) j pos) (mC (.int i)) := PE.imp pe_int fun σ H Q ⟨β, ρ, s, hl, hs, hp⟩ => hp β H _ (Step.refl _ _) hs (.int i)
theorem de_bl {i : Bool} {j} : DE X zx W (.Constant (.bool i) j pos) (mC (.bool i)) := PE.imp pe_bl fun σ H Q ⟨β, ρ, s, hl, hs, hp⟩ => hp β H _ (Step.refl _ _) hs (.bl i)
theorem de_non {j} : DE X zx W (.Constant .none j pos) (mC .none) := PE.imp pe_non fun σ H Q ⟨β, ρ, s, hl, hs, hp⟩ => hp β H _ (Step.refl _ _) hs .non
theorem de_str {x : Str} {j} (hx : x.length ≤ 1000 := by decide) : DE X zx W (.Constant (.str x) j pos) (mC (.str x)) := PE.imp pe_str fun σ H Q ⟨β, ρ, s, hl, hs, hp⟩ => hp β H _ (Step.refl _ _) hs (.str (by rw [sizeLine_eq]; omega))
/-- two values, one out; what stood stands -/
def r2 (G : Cf) (ph : Vl → Vl → Sto → Option Vl) : R2 := fun x y H Q => ∃ β s v w z, RelS G β s H ∧ Rv G H β v x ∧ Rv G H β w y ∧ ph v w s = some z ∧ ∀ H' u, Same H H' → Rv G H' β z u → Q u H'
def r1 (G : Cf) (ph : Vl → Sto → Option Vl) : V → Hp → VK → Prop := fun x H Q => ∃ β s v z, RelS G β s H ∧ Rv G H β v x ∧ ph v s = some z ∧ ∀ H' u, Same H H' → Rv G H' β z u → Q u H'
def rn (G : Cf) (ph : List Vl → Sto → Option Vl) : List V → Hp → VK → Prop := fun x H Q => ∃ β s v z, RelS G β s H ∧ Rvs G H β v x ∧ ph v s = some z ∧ ∀ H' u, Same H H' → Rv G H' β z u → Q u H'
def R.of {α : Type} (o : Option α) (s : Sto) : R α := match o with
  | some z => .ok z s
  | none => .bad
@[simp] theorem R.of_some {α : Type} (z : α) (s : Sto) : R.of (some z) s = .ok z s := rfl
@[simp] theorem R.of_none {α : Type} (s : Sto) : (R.of none s : R α) = .bad := rfl
def m2 (ph : Vl → Vl → Sto → Option Vl) (f g : ME) : ME := fun ρ s => (f ρ s).bind fun v s1 => (g ρ s1).bind fun w s2 => R.of (ph v w s2) s2
def m1 (ph : Vl → Sto → Option Vl) (f : ME) : ME := fun ρ s => (f ρ s).bind fun v s1 => R.of (ph v s1) s1
def mn (ph : List Vl → Sto → Option Vl) (f : MA) : ME := fun ρ s => (f ρ s).bind fun v s1 => R.of (ph v s1) s1
theorem post_of {σ : L2.St} {β : Bs} {H : Hp} {s : Sto} {Q : VK} {o : Option Vl} (h : Post (cf X zx) (Rv (cf X zx)) W σ β H Q (R.of o s)) (hs : RelS (cf X zx) β s H) : ∃ z, o = some z ∧ ∀ H' u, Same H H' → Rv (cf X zx) H' β z u → Q u H' := by
  cases o with
  | none => exact h.elim
  | some z => exact ⟨z, rfl, fun H' u sm r => h β H' u (Step.same sm) (hs.same sm) r⟩
theorem tOp_of {ph : Vl → Vl → Sto → Option Vl} {σ : L2.St} {H : Hp} {Q : VK} (q : tG (cf X zx) (Rv (cf X zx)) W (m2 ph f g) σ H Q) : tOp (r2 (cf X zx) ph) (tG (cf X zx) (Rv (cf X zx)) W f) (tG (cf X zx) (Rv (cf X zx)) W g) σ H Q := by
  obtain ⟨β, ρ, s, hl, hs, hp⟩ := q
  refine ⟨β, ρ, s, hl, hs, Post.bind hp fun v s1 β1 H1 u st1 hs1 r1 h1 => ?_⟩
  refine ⟨β1, ρ, s1, hl.step st1, hs1, Post.bind h1 fun w s2 β2 H2 u2 st2 hs2 r2 h2 => ?_⟩
  obtain ⟨z, e, q⟩ := post_of h2 hs2
  exact ⟨β2, s2, v, w, z, hs2, st2.rv r1, r2, e, q⟩
theorem de_op {op : Operator} {ph : Vl → Vl → Sto → Option Vl} (o : OpR X (binaryOp op) (r2 (cf X zx) ph)) (ha : DE X zx W a f) (hb : DE X zx W b g) : DE X zx W (.BinOp a op b pos) (m2 ph f g) := PE.imp (pe_op o ha hb) fun σ H Q q => tOp_of q
theorem de_cmp {op : CmpOp} {ph : Vl → Vl → Sto → Option Vl} (o : OpR X (compareOp op) (r2 (cf X zx) ph)) (ha : DE X zx W a f) (hb : DE X zx W b g) (hm : behindInMarks op b = false) : DE X zx W (.Compare a [op] [b] pos) (m2 ph f g) := PE.imp (pe_cmpR o ha hb hm) fun σ H Q q => tOp_of q
theorem de_ix {ph : Vl → Vl → Sto → Option Vl} (o : IxR X (r2 (cf X zx) ph)) (ha : DE X zx W a f) (hb : DE X zx W b g) (hs : PlainIx b) : DE X zx W (.Subscript a b pos) (m2 ph f g) := PE.imp (pe_ix o ha hb hs) fun σ H Q q => tOp_of q
theorem de_un {op : UnaryOp} {ph : Vl → Sto → Option Vl} (o : UnR X (unaryOp op) (r1 (cf X zx) ph)) (ha : DE X zx W a f) : DE X zx W (.UnaryOp op a pos) (m1 ph f) := PE.imp (pe_un o ha) fun σ H Q q => by
  obtain ⟨β, ρ, s, hl, hs, hp⟩ := q
  refine ⟨β, ρ, s, hl, hs, Post.bind hp fun v s1 β1 H1 u st1 hs1 r1 h1 => ?_⟩
  obtain ⟨z, e, q⟩ := post_of h1 hs1
  exact ⟨β1, s1, v, z, hs1, r1, e, q⟩
def aNil : MA := fun _ s => .ok [] s
def aCons (f : ME) (r : MA) : MA := fun ρ s => (f ρ s).bind fun v s1 => (r ρ s1).bind fun vs s2 => .ok (v :: vs) s2
theorem da_nil : DA X zx W [] aNil := PA.imp pa_nil fun σ H Q ⟨β, ρ, s, hl, hs, hp⟩ => hp β H _ (Step.refl _ _) hs .nil
theorem da_cons {es : List Expr} {r : MA} (ha : DE X zx W a f) (hr : DA X zx W es r) (hs : starEach (a :: es) X.env = (false, eval a X.env) :: starEach es X.env := by rfl) : DA X zx W (a :: es) (aCons f r) := PA.imp (pa_cons ha hr hs) fun σ H Q q => by
  obtain ⟨β, ρ, s, hl, hs, hp⟩ := q
  refine ⟨β, ρ, s, hl, hs, Post.bind hp fun v s1 β1 H1 u st1 hs1 r1 h1 => ?_⟩
  refine ⟨β1, ρ, s1, hl.step st1, hs1, Post.bind h1 fun vs s2 β2 H2 u2 st2 hs2 r2 h2 => ?_⟩
  exact h2 β2 H2 _ (Step.refl _ _) hs2 (.cons (st2.rv r1) r2)
theorem tCB_of {ph : List Vl → Sto → Option Vl} {r : MA} {σ : L2.St} {H : Hp} {Q : VK} (q : tG (cf X zx) (Rv (cf X zx)) W (mn ph r) σ H Q) : tCB (rn (cf X zx) ph) (tG (cf X zx) (Rvs (cf X zx)) W r) σ H Q := by
  obtain ⟨β, ρ, s, hl, hs, hp⟩ := q
  refine ⟨β, ρ, s, hl, hs, Post.bind hp fun v s1 β1 H1 u st1 hs1 r1 h1 => ?_⟩
  obtain ⟨z, e, q⟩ := post_of h1 hs1
  exact ⟨β1, s1, v, z, hs1, r1, e, q⟩
theorem de_callB {id : String} {x : Str} {p : Pos} {es : List Expr} {e : Expr} {ph : List Vl → Sto → Option Vl} {r : MA} (hc : CallR X (.builtin id) (rn (cf X zx) ph)) (hg : Gl X x) (hm : X.mg x = none) (hv : bootBuiltins x = some (.builtin id)) (ha : DA X zx W (e :: es) r) (hn : x ≠ "__name__" := by decide) (hdb : (x == ("__debug__" : Str)) = false := by decide)
    (he : starEach (e :: es) X.env = (false, eval e X.env) :: starEach es X.env := by rfl) (hpl : (backTo pos (starEach es X.env)).any (·.1) = false := by rfl) : DE X zx W (.Call (.Name x p) (e :: es) [] pos) (mn ph r) := PE.imp (pe_callB hc hg hm hv ha hn hdb he hpl) fun σ H Q q => tCB_of q
theorem de_callTy {T : String} {x : Str} {p : Pos} {es : List Expr} {e : Expr} {ph : List Vl → Sto → Option Vl} {r : MA} (hc : CallR X (.type T) (rn (cf X zx) ph)) (hg : Gl X x) (hm : X.mg x = none) (hv : bootBuiltins x = some (.type T)) (ha : DA X zx W (e :: es) r) (hn : x ≠ "__name__" := by decide) (hdb : (x == ("__debug__" : Str)) = false := by decide)
    (he : starEach (e :: es) X.env = (false, eval e X.env) :: starEach es X.env := by rfl) (hpl : (backTo pos (starEach es X.env)).any (·.1) = false := by rfl) : DE X zx W (.Call (.Name x p) (e :: es) [] pos) (mn ph r) := PE.imp (pe_callTy hc hg hm hv ha hn hdb he hpl) fun σ H Q q => tCB_of q
def mTup (r : MA) : ME := fun ρ s => (r ρ s).bind fun vs s1 => R.of ((datas vs).bind fun ds => if ds.length ≤ 1000 then some (.dat (.tuple ds)) else none) s1
/-- a list that nobody turns -/
def mLst (r : MA) : ME := fun ρ s => (r ρ s).bind fun vs s1 => R.of ((datas vs).bind fun ds => if ds.length ≤ 1000 then some (.dat (.list ds)) else none) s1
/-- a list of the store -/
def mNew (r : MA) : ME := fun ρ s => (r ρ s).bind fun vs s1 => if vs.length ≤ 1000 ∧ vs.all noX = true then .ok (.ref s1.length) (s1 ++ [.lst vs]) else .bad
theorem thou {n : Nat} (h : n ≤ 1000) : n ≤ sizeLine := by rw [sizeLine_eq]; omega
/-- a new tuple, as data -/
theorem tup_new {K : PySem.W.Frag} {H : Hp} {β : Bs} {xs : List V} {ds : List PyData} {Q : VK} (hz : ds.length ≤ sizeLine) (dx : DqAll K H β xs ds) (q : ∀ H' u, Same H H' → Dq K H' β u (.tuple ds) → Q u H') : NewT xs H Q := by
  by_cases hO : isO ds = true
  · exact .inr fun p its hp => q _ _ (same_new hp) (.tup (by unfold TupA; rw [if_pos hO]; exact .inl ⟨its, upd_same⟩) hz ((Step.lay hp).dqs dx))
  · exact .inl fun p hp => q _ _ (same_new hp) (.tup (TupA.of (by simpa using hO) upd_same) hz ((Step.lay hp).dqs dx))
theorem de_tup {es : List Expr} {r : MA} {x1} (h : DA X zx W es r) : DE X zx W (.Tuple es x1 pos) (mTup r) := PE.imp (pe_tupN h) fun σ H Q q => by
  obtain ⟨β, ρ, s, hl, hs, hp⟩ := q
  refine ⟨β, ρ, s, hl, hs, Post.bind hp fun vs s1 β1 H1 us st1 hs1 r1 h1 => ?_⟩
  obtain ⟨z, e, q⟩ := post_of h1 hs1
  cases ed : datas vs with
  | none => rw [ed] at e; cases e
  | some ds =>
    rw [ed] at e
    have e' : (if ds.length ≤ 1000 then some (Vl.dat (.tuple ds)) else none) = some z := e
    split at e'
    · rename_i hlen
      cases e'
      rw [datas_eq ed] at r1
      have dq := Rvs.undats r1
      have hln := dq.len
      exact ⟨by rw [hln]; exact thou hlen, tup_new (thou hlen) dq q⟩
    · cases e'
theorem de_lst {es : List Expr} {r : MA} (h : DA X zx W es r) : DE X zx W (.List es pos) (mLst r) := PE.imp (pe_lst h) fun σ H Q q => by
  obtain ⟨β, ρ, s, hl, hs, hp⟩ := q
  refine ⟨β, ρ, s, hl, hs, Post.bind hp fun vs s1 β1 H1 us st1 hs1 r1 h1 => ?_⟩
  obtain ⟨z, e, q⟩ := post_of h1 hs1
  cases ed : datas vs with
  | none => rw [ed] at e; cases e
  | some ds =>
    rw [ed] at e
    have e' : (if ds.length ≤ 1000 then some (Vl.dat (.list ds)) else none) = some z := e
    split at e'
    · rename_i hlen
      cases e'
      rw [datas_eq ed] at r1
      have dq := Rvs.undats r1
      have hln := dq.len
      refine ⟨by rw [hln]; exact thou hlen, fun p hp => q _ _ (same_new hp) (Dq.lst ⟨upd_same, hs1.nin hp, hs1.nig hp⟩ (thou hlen) ((Step.lay hp).dqs dq))⟩
    · cases e'
theorem de_new {es : List Expr} {r : MA} (h : DA X zx W es r) : DE X zx W (.List es pos) (mNew r) := PE.imp (pe_lst h) fun σ H Q q => by
  obtain ⟨β, ρ, s, hl, hs, hp⟩ := q
  refine ⟨β, ρ, s, hl, hs, Post.bind hp fun vs s1 β1 H1 us st1 hs1 r1 h1 => ?_⟩
  split at h1
  · rename_i hlen
    have hln := r1.len
    refine ⟨by rw [← hln]; exact thou hlen.1, fun p hp => h1 (β1.push p) _ _ (Step.push hp) (hs1.push hp ⟨thou hlen.1, us, upd_same, (Step.push hp).rvs (Rvs.dn hlen.2 r1)⟩) ⟨p, ?_, rfl⟩⟩
    show (β1.b ++ [p])[s1.length]? = some p
    rw [← hs1.len, List.getElem?_append_right (Nat.le_refl _), Nat.sub_self]
    rfl
  · exact h1.elim
/-- whether a dict's entries are those of one by tuples -/
def isT : List (PyData × PyData) → Bool
  | (.none, .none) :: _ => true
  | _ => false
theorem DqKv.notT {K : PySem.W.Frag} {H : Hp} {β : Bs} {ks : List (Key × V)} {kvs : List (PyData × PyData)} (h : DqKv K H β Key keyD ks kvs) : isT kvs = false := by
  cases h with
  | nil => rfl
  | @cons _ _ k _ _ _ _ _ _ => cases k <;> rfl
theorem DqKv.len {K : PySem.W.Frag} {H : Hp} {β : Bs} : ∀ {κ : Type} {f : κ → PyData} {ks : List (κ × V)} {kvs : List (PyData × PyData)}, DqKv K H β κ f ks kvs → ks.length = kvs.length
  | _, _, _, _, .nil => rfl
  | _, _, _, _, .cons _ r => by rw [List.length_cons, List.length_cons, DqKv.len r]
/-- truth of a value -/
def tru : Vl → Sto → Option Bool
  | .dat .none, _ => some false
  | .dat (.bool b), _ => some b
  | .dat (.int i), _ => some (i != 0)
  | .dat (.str x), _ => some (x.length != 0)
  | .dat (.list l), _ => some (!l.isEmpty)
  | .dat (.tuple l), _ => some (!l.isEmpty)
  | .dat (.dict l), _ => if isT l = true then none else some (!l.isEmpty)
  | .ref n, s => match s[n]? with
    | some (.lst l) => some (!l.isEmpty)
    | some (.dic false l) => some (!l.isEmpty)
    | _ => none
  | .scr _, _ => none
  | .exo _ _, _ => none
  | .fn _, _ => none
  | .lam _ _ _ _ _, _ => none
theorem isEmpty_len {α β : Type} {xs : List α} {ys : List β} (h : xs.length = ys.length) : xs.isEmpty = ys.isEmpty := by
  cases xs <;> cases ys <;> simp_all
theorem tru_V {G : Cf} {H : Hp} {β : Bs} {s : Sto} {v : Vl} {u : V} {k : Bool} (hs : RelS G β s H) (r : Rv G H β v u) (h : tru v s = some k) : TruV G.K u H k := by
  cases v with
  | scr _ => cases h
  | exo _ _ => cases h
  | fn _ => cases h
  | lam _ _ _ _ _ => cases h
  | dat p =>
    cases p with
    | none => cases r; cases h; rfl
    | bool b => cases r; cases h; rfl
    | int i => cases r; cases h; rfl
    | str x =>
      cases r with
      | str hx =>
        have : (x.length != 0) = k := by simpa [tru] using h
        refine ⟨hx, ?_⟩
        rw [← this]
        by_cases h0 : x.length = 0
        · rw [h0]; rfl
        · have h1 : (x.length : Int) ≠ 0 := by omega
          rw [(bne_iff_ne).mpr h0, (bne_iff_ne).mpr h1]
    | list l =>
      cases r with
      | lst hx _ d =>
        have : (!l.isEmpty) = k := by simpa [tru] using h
        exact .inl ⟨_, hx.sq, by rw [← this, isEmpty_len d.len]⟩
    | tuple l =>
      cases r with
      | tup hx _ d =>
        have : (!l.isEmpty) = k := by simpa [tru] using h
        exact .inr (.inl ⟨_, hx.sqt, by rw [← this, isEmpty_len d.len]⟩)
    | dict l =>
      cases r with
      | dic hx d =>
        have : (!l.isEmpty) = k := by simpa [tru, d.notT] using h
        exact .inr (.inr ⟨_, hx.1, by rw [← this, isEmpty_len d.len]⟩)
      | dit hx d => simp [tru, isT] at h
  | ref n =>
    obtain ⟨a, ha, rfl⟩ := r
    cases e : s[n]? with
    | none => simp [tru, e] at h
    | some o =>
      have ro := hs.ob n o a e ha
      cases o with
      | lst l =>
        obtain ⟨_, xs, h1, h2⟩ := ro
        have : (!l.isEmpty) = k := by simpa [tru, e] using h
        exact .inl ⟨_, SqL.of h1, by rw [← this, isEmpty_len h2.len]⟩
      | dic t l =>
        cases t with
        | true => simp [tru, e] at h
        | false =>
          obtain ⟨xs, h1, h2⟩ := ro
          have : (!l.isEmpty) = k := by simpa [tru, e] using h
          exact .inr (.inr ⟨_, h1, by rw [← this, isEmpty_len (Paired.length h2)]⟩)
      | ins c l => simp [tru, e] at h
      | tup l => simp [tru, e] at h
def mTru (f : ME) : MT := fun ρ s => (f ρ s).bind fun v s1 => R.of (tru v s1) s1
/-- a value's truth as a test -/
theorem dt_tru (ha : DE X zx W a f) (he : ∀ whole, isTrue a X.env whole = (do let v ← whole; standAt a.pos; holding [v] (truthy v)) := by intro _; rfl) : DT X zx W a (mTru f) := PT.imp (pt_truth ha he) fun σ H Q q => by
  obtain ⟨β, ρ, s, hl, hs, hp⟩ := q
  refine ⟨β, ρ, s, hl, hs, Post.bind hp fun v s1 β1 H1 u st1 hs1 r1 h1 => ?_⟩
  cases e : tru v s1 with
  | none => rw [e] at h1; exact h1.elim
  | some k =>
    rw [e] at h1
    exact ⟨k, tru_V hs1 r1 e, h1 β1 H1 k (Step.refl _ _) hs1 rfl⟩
/-- a comparison as a test -/
def bool? : Vl → Option Bool
  | .dat (.bool b) => some b
  | _ => none
def mB (f : ME) : MT := fun ρ s => (f ρ s).bind fun v s1 => R.of (bool? v) s1
theorem dt_cmp {op : CmpOp} {ph : Vl → Vl → Sto → Option Vl} (o : OpR X (compareOp op) (r2 (cf X zx) ph)) (ha : DE X zx W a f) (hb : DE X zx W b g) (hm : behindInMarks op b = false) : DT X zx W (.Compare a [op] [b] pos) (mB (m2 ph f g)) := PT.imp (pt_cmpR o ha hb hm) fun σ H Q q => by
  obtain ⟨β, ρ, s, hl, hs, hp⟩ := q
  refine tOp_of (W := W) ⟨β, ρ, s, hl, hs, Post.bind hp fun v s1 β1 H1 u st1 hs1 r1 h1 => ?_⟩
  cases e : bool? v with
  | none => rw [e] at h1; exact h1.elim
  | some k =>
    rw [e] at h1
    cases v with
    | ref n => cases e
    | scr _ => cases e
    | exo _ _ => cases e
    | fn _ => cases e
    | lam _ _ _ _ _ => cases e
    | dat p =>
      cases p with
      | bool b => cases r1; cases e; exact ⟨_, rfl, h1 β1 H1 _ (Step.refl _ _) hs1 rfl⟩
      | _ => cases e
variable {tf tg : MT} {rest : List Expr}
def tAndM (f g : MT) : MT := fun ρ s => (f ρ s).bind fun c s1 => if c = true then g ρ s1 else .ok false s1
def tOrM (f g : MT) : MT := fun ρ s => (f ρ s).bind fun c s1 => if c = true then .ok true s1 else g ρ s1
def tNotM (f : MT) : MT := fun ρ s => (f ρ s).bind fun c s1 => .ok (!c) s1
theorem dw_and1 (ha : DT X zx W a tf) : DW X zx W (.BoolOp .And [a] pos) tf := pw_and1 ha
theorem dw_or1 (ha : DT X zx W a tf) : DW X zx W (.BoolOp .Or [a] pos) tf := pw_or1 ha
theorem dw_and (ha : DT X zx W a tf) (hb : DW X zx W (.BoolOp .And (b :: rest) pos) tg) : DW X zx W (.BoolOp .And (a :: b :: rest) pos) (tAndM tf tg) := PW.imp (pw_and ha hb) fun σ H Q q => by
  obtain ⟨β, ρ, s, hl, hs, hp⟩ := q
  refine ⟨β, ρ, s, hl, hs, Post.bind hp fun v s1 β1 H1 u st1 hs1 r1 h1 => ?_⟩
  cases (show v = u from r1)
  cases v with
  | true => exact iteT ⟨β1, ρ, s1, hl.step st1, hs1, h1⟩
  | false => exact iteF (h1 β1 H1 false (Step.refl _ _) hs1 rfl)
theorem dw_or (ha : DT X zx W a tf) (hb : DW X zx W (.BoolOp .Or (b :: rest) pos) tg) : DW X zx W (.BoolOp .Or (a :: b :: rest) pos) (tOrM tf tg) := PW.imp (pw_or ha hb) fun σ H Q q => by
  obtain ⟨β, ρ, s, hl, hs, hp⟩ := q
  refine ⟨β, ρ, s, hl, hs, Post.bind hp fun v s1 β1 H1 u st1 hs1 r1 h1 => ?_⟩
  cases (show v = u from r1)
  cases v with
  | false => exact iteF ⟨β1, ρ, s1, hl.step st1, hs1, h1⟩
  | true => exact iteT (h1 β1 H1 true (Step.refl _ _) hs1 rfl)
theorem dt_w (h : DW X zx W a tf) : DT X zx W a tf := h.pt
theorem dt_not (ha : DT X zx W a tf) : DT X zx W (.UnaryOp .Not a pos) (tNotM tf) := PT.imp (pt_not ha) fun σ H Q q => by
  obtain ⟨β, ρ, s, hl, hs, hp⟩ := q
  refine ⟨β, ρ, s, hl, hs, Post.bind hp fun v s1 β1 H1 u st1 hs1 r1 h1 => ?_⟩
  cases (show v = u from r1)
  exact h1 β1 H1 _ (Step.refl _ _) hs1 rfl
def mAnd (f g : ME) : ME := fun ρ s => (f ρ s).bind fun v s1 => match tru v s1 with
  | some true => g ρ s1
  | some false => .ok v s1
  | none => .bad
def mOr (f g : ME) : ME := fun ρ s => (f ρ s).bind fun v s1 => match tru v s1 with
  | some true => .ok v s1
  | some false => g ρ s1
  | none => .bad
def mNot (f : ME) : ME := fun ρ s => (f ρ s).bind fun v s1 => R.of ((tru v s1).map fun k => .dat (.bool (!k))) s1
def mIf (t : MT) (f g : ME) : ME := fun ρ s => (t ρ s).bind fun c s1 => if c = true then f ρ s1 else g ρ s1
theorem de_one {op} (h : DE X zx W a f) : DE X zx W (.BoolOp op [a] pos) f := pe_one h
theorem de_and (ha : DE X zx W a f) (hb : DE X zx W (.BoolOp .And (b :: rest) pos) g) : DE X zx W (.BoolOp .And (a :: b :: rest) pos) (mAnd f g) := PE.imp (pe_andT ha hb) fun σ H Q q => by
  obtain ⟨β, ρ, s, hl, hs, hp⟩ := q
  refine ⟨β, ρ, s, hl, hs, Post.bind hp fun v s1 β1 H1 u st1 hs1 r1 h1 => ?_⟩
  cases e : tru v s1 with
  | none => rw [e] at h1; exact h1.elim
  | some k =>
    rw [e] at h1
    refine ⟨k, tru_V hs1 r1 e, ?_⟩
    cases k with
    | true => exact iteT ⟨β1, ρ, s1, hl.step st1, hs1, h1⟩
    | false => exact iteF (h1 β1 H1 u (Step.refl _ _) hs1 r1)
theorem de_or (ha : DE X zx W a f) (hb : DE X zx W (.BoolOp .Or (b :: rest) pos) g) : DE X zx W (.BoolOp .Or (a :: b :: rest) pos) (mOr f g) := PE.imp (pe_orT ha hb) fun σ H Q q => by
  obtain ⟨β, ρ, s, hl, hs, hp⟩ := q
  refine ⟨β, ρ, s, hl, hs, Post.bind hp fun v s1 β1 H1 u st1 hs1 r1 h1 => ?_⟩
  cases e : tru v s1 with
  | none => rw [e] at h1; exact h1.elim
  | some k =>
    rw [e] at h1
    refine ⟨k, tru_V hs1 r1 e, ?_⟩
    cases k with
    | false => exact iteF ⟨β1, ρ, s1, hl.step st1, hs1, h1⟩
    | true => exact iteT (h1 β1 H1 u (Step.refl _ _) hs1 r1)
theorem de_not (ha : DE X zx W a f) : DE X zx W (.UnaryOp .Not a pos) (mNot f) := PE.imp (pe_notT ha) fun σ H Q q => by
  obtain ⟨β, ρ, s, hl, hs, hp⟩ := q
  refine ⟨β, ρ, s, hl, hs, Post.bind hp fun v s1 β1 H1 u st1 hs1 r1 h1 => ?_⟩
  cases e : tru v s1 with
  | none => rw [e] at h1; exact h1.elim
  | some k =>
    rw [e] at h1
    exact ⟨k, tru_V hs1 r1 e, h1 β1 H1 _ (Step.refl _ _) hs1 (.bl _)⟩
theorem de_if (hc : DT X zx W c tf) (ha : DE X zx W a f) (hb : DE X zx W b g) : DE X zx W (.IfExp c a b pos) (mIf tf f g) := PE.imp (pe_ifExp hc ha hb) fun σ H Q q => by
  obtain ⟨β, ρ, s, hl, hs, hp⟩ := q
  refine ⟨β, ρ, s, hl, hs, Post.bind hp fun v s1 β1 H1 u st1 hs1 r1 h1 => ?_⟩
  cases (show v = u from r1)
  cases v with
  | true => exact iteT ⟨β1, ρ, s1, hl.step st1, hs1, h1⟩
  | false => exact iteF ⟨β1, ρ, s1, hl.step st1, hs1, h1⟩
end
end Pm
set_option maxRecDepth 100000
set_option maxHeartbeats 4000000
namespace Pm
open PySem PySem.Spec PyProof.Rows L2 Sw
abbrev MG := Vl → Loc → Sto → Fl
abbrev MGs := List Vl → Loc → Sto → Fl
/-- what follows a store -/
def PostG (G : Cf) (β : Bs) (H : Hp) (Q : L2.St → Hp → Prop) : Fl → Prop
  | .nx ρ s => ∀ β' σ' H', Step β H β' H' → RelL G H' β' ρ σ' → RelS G β' s H' → Q σ' H'
  | _ => False
theorem PostG.step {G : Cf} {β β1 : Bs} {H H1 : Hp} {Q : L2.St → Hp → Prop} {f : Fl} (h : PostG G β H Q f) (s : Step β H β1 H1) : PostG G β1 H1 Q f := by
  cases f with
  | nx ρ st => exact fun β' σ' H' s' => h β' σ' H' (s.trans s')
  | _ => exact h.elim
def tGt (G : Cf) (g : MG) : TG := fun v σ H Q => ∃ β ρ s x, RelL G H β ρ σ ∧ RelS G β s H ∧ Rv G H β x v ∧ PostG G β H Q (g x ρ s)
def tGts (G : Cf) (g : MGs) : TGs := fun vs σ H Q => ∃ β ρ s xs, RelL G H β ρ σ ∧ RelS G β s H ∧ Rvs G H β xs vs ∧ PostG G β H Q (g xs ρ s)
theorem PG.imp {X : Cx} {e : Expr} {t t' : TG} (h : PG X e t) (i : ∀ v σ H Q, t' v σ H Q → t v σ H Q) : PG X e t' := ⟨fun pins s σ H v u Q I r q => h.run pins s σ H v u Q I r (i v σ H Q q)⟩
theorem PGs.imp {X : Cx} {e : List Expr} {t t' : TGs} (h : PGs X e t) (i : ∀ v σ H Q, t' v σ H Q → t v σ H Q) : PGs X e t' := ⟨fun pins s σ H v u Q I r q => h.run pins s σ H v u Q I r (i v σ H Q q)⟩
abbrev DG (X : Cx) (zx : Exo) (e : Expr) (g : MG) : Prop := PG X e (tGt (cf X zx) g)
abbrev DGs (X : Cx) (zx : Exo) (e : List Expr) (g : MGs) : Prop := PGs X e (tGts (cf X zx) g)
def gSetM (i : Nat) : MG := fun v ρ s => .nx (ρ.set i (some v)) s
def gNilM : MGs := fun vs ρ s => match vs with
  | [] => .nx ρ s
  | _ => .bad
/-- a store, then another -/
def Fl.thn (f : Fl) (k : Loc → Sto → Fl) : Fl := match f with
  | .nx ρ s => k ρ s
  | _ => .bad
@[simp] theorem Fl.thn_nx (ρ : Loc) (s : Sto) (k : Loc → Sto → Fl) : (Fl.nx ρ s).thn k = k ρ s := rfl
def gConsM (g : MG) (r : MGs) : MGs := fun vs ρ s => match vs with
  | v :: vs => (g v ρ s).thn fun ρ1 s1 => r vs ρ1 s1
  | [] => .bad
def gTupM (n : Nat) (r : MGs) : MG := fun v ρ s => match v with
  | .dat (.tuple ds) => if ds.length = n then r (ds.map Vl.dat) ρ s else .bad
  | _ => .bad
section
variable {X : Cx} {zx : Exo} {pos : Pos}
theorem dg_name {i : Nat} {x : Str} (hN : X.N.Nodup) (hi : X.N[i]? = some x) (hx : L2.Loc X.env.scope x) (hf : X.fn x = true ∨ X.env.scope.names.lookup x = some .local := by first | exact .inl rfl | exact .inr rfl | assumption) : DG X zx (.Name x pos) (gSetM i) :=
  PG.imp (pg_name hN hi hx hf) fun v σ H Q ⟨β, ρ, s, x, hl, hs, r, q⟩ => q β _ H (Step.refl _ _) (hl.set r) hs
theorem dgs_nil : DGs X zx [] gNilM := PGs.imp pgs_nil fun vs σ H Q ⟨β, ρ, s, xs, hl, hs, r, q⟩ => by
  cases r with
  | nil => exact ⟨rfl, q β σ H (Step.refl _ _) hl hs⟩
  | cons _ _ => exact q.elim
theorem dgs_cons {e : Expr} {es : List Expr} {g : MG} {r : MGs} (h1 : DG X zx e g) (h2 : DGs X zx es r)
    (hs : (assignEach (e :: es) X.env).map (·.2) = assign e X.env :: (assignEach es X.env).map (·.2) := by rfl) : DGs X zx (e :: es) (gConsM g r) := PGs.imp (pgs_cons h1 h2 hs) fun vs σ H Q ⟨β, ρ, s, xs, hl, hs, rr, q⟩ => by
  cases rr with
  | nil => exact q.elim
  | @cons a b as bs r0 r1 =>
    refine ⟨b, bs, rfl, β, ρ, s, a, hl, hs, r0, ?_⟩
    have q' : PostG (cf X zx) β H Q ((g a ρ s).thn fun ρ1 s1 => r as ρ1 s1) := q
    cases e : g a ρ s with
    | nx ρ1 s1 =>
      rw [e] at q'
      exact fun β' σ' H' st hl' hs' => ⟨β', ρ1, s1, as, hl', hs', st.rvs r1, PostG.step q' st⟩
    | _ => rw [e] at q'; exact q'.elim
theorem dg_tup {es : List Expr} {k : Nat} {r : MGs} {n : Nat} (hc : X.calm = true) (h : DGs X zx es r)
    (hn : (assignEach es X.env).length = n := by rfl) (hst : (assignEach es X.env).findIdx? (·.1) = none := by rfl) : DG X zx (.Tuple es k pos) (gTupM n r) := PG.imp (pg_tup hc h hn hst) fun v σ H Q ⟨β, ρ, s, x, hl, hs, rr, q⟩ => by
  cases x with
  | ref m => exact q.elim
  | scr m => exact q.elim
  | exo m m2 => exact q.elim
  | fn _ => exact q.elim
  | lam _ _ _ _ _ => exact q.elim
  | dat p =>
    cases p with
    | tuple ds =>
      cases rr with
      | @tup a xs _ ht hz d =>
        have q' : PostG (cf X zx) β H Q (if ds.length = n then r (ds.map Vl.dat) ρ s else .bad) := q
        split at q'
        · rename_i e
          exact ⟨a, xs, rfl, ht.sqt, by rw [d.len]; exact e, β, ρ, s, ds.map Vl.dat, hl, hs, Rvs.dats d, q'⟩
        · exact q'.elim
    | _ => exact q.elim
end
section
variable {X : Cx} {zx : Exo} {W : WX} {st : Stmt} {rest : List Stmt} {f g : MS} {e : Expr} {fe : ME} {pos : Pos}
def sSeq (f g : MS) : MS := fun ρ s => (f ρ s).seq g
theorem PostS.seq {G : Cf} {β : Bs} {H : Hp} {D : Ends} {fl : Fl} {k : MS} (h : PostS G W β H D (fl.seq k)) : PostS G W β H { D with nx := tS G W k D } fl := by
  cases fl with
  | nx ρ s => exact fun β' σ' H' st hl hs => ⟨β', ρ, s, hl, hs, PostS.step (show PostS G W β H D (k ρ s) from h) st⟩
  | _ => exact h
def sExpr (f : ME) : MS := fun ρ s => (f ρ s).to ρ fun _ s1 => .nx ρ s1
def sRet (f : ME) : MS := fun ρ s => (f ρ s).to ρ fun v s1 => .rt v s1
def sRetN : MS := fun _ s => .rt (.dat .none) s
def sIf (t : MT) (f g : MS) : MS := fun ρ s => (t ρ s).to ρ fun c s1 => if c = true then f ρ s1 else g ρ s1
def sSet (i : Nat) (f : ME) : MS := fun ρ s => (f ρ s).to ρ fun v s1 => .nx (ρ.set i (some v)) s1
/-- target = value -/
def sAsg (f : ME) (g : MG) : MS := fun ρ s => (f ρ s).to ρ fun v s1 => (g v ρ s1).thn fun ρ2 s2 => .nx ρ2 s2
def sPar (i j : Nat) (r : MA) : MS := fun ρ s => (r ρ s).to ρ fun vs s1 => match vs with
  | [v, w] => .nx ((ρ.set i (some v)).set j (some w)) s1
  | _ => .bad
def sPar3 (i j l : Nat) (r : MA) : MS := fun ρ s => (r ρ s).to ρ fun vs s1 => match vs with
  | [v, w, x] => .nx (((ρ.set i (some v)).set j (some w)).set l (some x)) s1
  | _ => .bad
end
end Pm
set_option maxRecDepth 100000
set_option maxHeartbeats 4000000
namespace Pm
open PySem PySem.Spec PyProof.Rows L2 Sw
structure Src where
  items : List Vl
  at' : Option (Nat × List Vl)
/-- the list of the store that is walked stands as it was -/
def Src.ok (c : Src) (s : Sto) : Prop := match c.at' with
  | none => True
  | some n => s[n.1]? = some (.lst n.2)
@[simp] theorem Src.ok_none (l : List Vl) (s : Sto) : Src.ok ⟨l, none⟩ s = True := rfl
structure WalkM (G : Cf) (J : It) (c : Src) (β0 : Bs) (H0 : Hp) : Prop where
  go : ∀ (i : Nat) β s H, i < c.items.length → StepW β0 H0 β H → RelS G β s H → c.ok s → J.go i H
  stop : ∀ β s H, StepW β0 H0 β H → RelS G β s H → c.ok s → J.stop c.items.length H
  yld : ∀ (i : Nat) β s H x H', i < c.items.length → StepW β0 H0 β H → RelS G β s H → c.ok s → J.yld i H x H' → Same H H' ∧ ∃ v, c.items[i]? = some v ∧ Rv G H' β v x
abbrev MI := Loc → Sto → R Src
abbrev rI (G : Cf) : Rel Src It := fun H β c J => WalkM G J c β H
abbrev DI (X : Cx) (zx : Exo) (W : WX) (tg iter : Expr) (f : MI) : Prop := PI X tg iter (tG (cf X zx) (rI (cf X zx)) W f)
theorem PI.imp {X : Cx} {tg e : Expr} {t t' : TI} (h : PI X tg e t) (i : ∀ σ H R, t' σ H R → t σ H R) : PI X tg e t' := ⟨fun pins s σ H R I q => h.run pins s σ H R I (i σ H R q)⟩
section
variable {G : Cf} {β : Bs} {H : Hp}
theorem walk_dtup {a : Addr} {xs : List V} {ds : List PyData} (ht : SqT G.K H a xs) (d : DqAll G.K H β xs ds) : WalkM G (Itt G.K a) ⟨ds.map Vl.dat, none⟩ β H := by
  have hl := d.len
  refine ⟨fun i β' s H' hi st hs _ => ?_, fun β' s H' st hs _ => ?_, fun i β' s H' x H2 hi st hs _ y => ?_⟩
  · simp only [List.length_map] at hi
    exact ⟨xs, xs[i], st.sqt ht, by simp [show i < xs.length by omega]⟩
  · exact ⟨xs, st.sqt ht, by simp [hl]⟩
  · obtain ⟨rfl, y⟩ := y
    obtain ⟨p, h1, h2⟩ := (st.dqs d).get (y xs (st.sqt ht))
    exact ⟨Same.refl _, .dat p, by simp [h1], h2⟩
theorem walk_dlst {a : Addr} {xs : List V} {ds : List PyData} (ht : Sl H β a xs) (d : DqAll G.K H β xs ds) : WalkM G (Itl G.K a) ⟨ds.map Vl.dat, none⟩ β H := by
  have hl := d.len
  refine ⟨fun i β' s H' hi st hs _ => ?_, fun β' s H' st hs _ => ?_, fun i β' s H' x H2 hi st hs _ y => ?_⟩
  · simp only [List.length_map] at hi
    exact ⟨xs, xs[i], (st.sl ht).sq, by simp [show i < xs.length by omega]⟩
  · exact ⟨xs, (st.sl ht).sq, by simp [hl]⟩
  · obtain ⟨rfl, y⟩ := y
    obtain ⟨p, h1, h2⟩ := (st.dqs d).get (y xs (st.sl ht).sq)
    exact ⟨Same.refl _, .dat p, by simp [h1], h2⟩
theorem walk_ref {n : Nat} {a : Addr} {l : List Vl} (ha : β.b[n]? = some a) : WalkM G (Itl G.K a) ⟨l, some (n, l)⟩ β H := by
  have key : ∀ β' s H', StepW β H β' H' → RelS G β' s H' → Src.ok ⟨l, some (n, l)⟩ s → ∃ xs, H' a = some (.lst xs) ∧ Rvs G H' β' l xs := fun β' s H' st hs ok => by
    obtain ⟨t, ht⟩ := st.pre
    have e : β'.b[n]? = some a := by
      rw [← ht, List.getElem?_append_left (List.getElem?_eq_some_iff.mp ha).1]
      exact ha
    obtain ⟨_, xs, h1, h2⟩ := hs.ob n _ a ok e
    exact ⟨xs, h1, Rvs.up h2⟩
  refine ⟨fun i β' s H' hi st hs ok => ?_, fun β' s H' st hs ok => ?_, fun i β' s H' x H2 hi st hs ok y => ?_⟩
  · obtain ⟨xs, h1, h2⟩ := key β' s H' st hs ok
    have := h2.len
    have hi' : i < l.length := hi
    exact ⟨xs, xs[i], SqL.of h1, by simp [show i < xs.length by omega]⟩
  · obtain ⟨xs, h1, h2⟩ := key β' s H' st hs ok
    exact ⟨xs, SqL.of h1, by rw [← h2.len]; exact Nat.le_refl _⟩
  · obtain ⟨rfl, y⟩ := y
    obtain ⟨xs, h1, h2⟩ := key β' s H2 st hs ok
    obtain ⟨v, h3, h4⟩ := h2.get (y xs (SqL.of h1))
    exact ⟨Same.refl _, v, h3, h4⟩
theorem walk_rng {lo : Int} {n : Nat} : WalkM G (Itr lo n) ⟨(List.range n).map fun i : Nat => Vl.dat (.int (lo + i)), none⟩ β H := by
  refine ⟨fun i β' s H' hi st hs _ => by show i < n; simpa using hi, fun β' s H' st hs _ => by show n ≤ _; simp, fun i β' s H' x H2 hi st hs _ y => ?_⟩
  obtain ⟨rfl, rfl⟩ := y
  have hi : i < n := by simpa using hi
  exact ⟨Same.refl _, .dat (.int (lo + i)), by simp [hi], .int _⟩
theorem walk_sgn {z : Str} : WalkM G (Its z) ⟨z.cps.toList.map fun c => Vl.dat (.str ⟨#[c]⟩), none⟩ β H := by
  have w := walk_signs (z := z)
  refine ⟨fun i β' s H' hi st hs _ => w.goes i H' (by simpa using hi) trivial, fun β' s H' st hs _ => ?_, fun i β' s H' x H2 hi st hs _ y => ?_⟩
  · have := w.stops H' trivial
    simpa using this
  · obtain ⟨rfl, hx⟩ := w.yields i H' x H2 (by simpa using hi) trivial y
    rw [List.getElem?_map] at hx
    obtain ⟨c, hc, rfl⟩ := Option.map_eq_some_iff.mp hx
    exact ⟨Same.refl _, .dat (.str ⟨#[c]⟩), by rw [List.getElem?_map, hc]; rfl, .str (by rw [sizeLine_eq]; show 1 ≤ 16777216; decide)⟩
end
/-- a value that is walked -/
def src : Vl → Sto → Option Src
  | .dat (.tuple ds), _ => some ⟨ds.map Vl.dat, none⟩
  | .dat (.list ds), _ => some ⟨ds.map Vl.dat, none⟩
  | .dat (.str z), _ => some ⟨z.cps.toList.map fun c => Vl.dat (.str ⟨#[c]⟩), none⟩
  | .ref n, s => match s[n]? with
    | some (.lst l) => some ⟨l, some (n, l)⟩
    | _ => none
  | _, _ => none
def iSeq (f : ME) : MI := fun ρ s => (f ρ s).bind fun v s1 => R.of (src v s1) s1
def rgs (lo : Int) (n : Nat) : List Vl := (List.range n).map fun i : Nat => Vl.dat (.int (lo + i))
/-- a number of a word; nothing unfolds the test -/
structure In62 (j : Int) : Prop where
  lo : -(2 ^ 62) ≤ j
  hi : j < 2 ^ 62
open Classical in
noncomputable def iRng1 (r : MA) : MI := fun ρ s => (r ρ s).bind fun vs s1 => match vs with
  | [.dat (.int j)] => if In62 j then .ok ⟨rgs 0 j.toNat, none⟩ s1 else .bad
  | _ => .bad
section
variable {X : Cx} {zx : Exo} {W : WX} {tg e : Expr} {f : ME} {pos p : Pos}
theorem di_seq (ha : DE X zx W e f) : DI X zx W tg e (iSeq f) := by
  refine ⟨fun pins st σ H T I q => ?_⟩
  obtain ⟨β, ρ, s, hl, hs, hp⟩ := q
  have hp' : Post (cf X zx) (rI (cf X zx)) W σ β H T ((f ρ s).bind fun v s1 => R.of (src v s1) s1) := hp
  cases ef : f ρ s with
  | bad => rw [ef] at hp'; exact hp'.elim
  | ex x s1 =>
    rw [ef] at hp'
    exact (pi_tup ha).run pins st σ H T I ⟨β, ρ, s, hl, hs, by rw [ef]; exact hp'⟩
  | ok v s1 =>
    rw [ef] at hp'
    cases v with
    | ref n =>
      cases es : s1[n]? with
      | none => simp [src, es] at hp'; exact hp'.elim
      | some o =>
        cases o with
        | lst l =>
          refine (pi_list ha).run pins st σ H T I ⟨β, ρ, s, hl, hs, ?_⟩
          rw [ef]
          intro β1 H1 u st1 hs1 r1
          obtain ⟨a, hb, rfl⟩ := r1
          obtain ⟨_, xs, h1, h2⟩ := hs1.ob n _ a es hb
          refine ⟨a, rfl, ⟨xs, SqL.of h1⟩, ?_⟩
          have hp2 : Post (cf X zx) (rI (cf X zx)) W σ β H T (R.of (src (.ref n) s1) s1) := hp'
          simp only [src, es, R.of_some] at hp2
          exact hp2 β1 H1 _ st1 hs1 (walk_ref hb)
        | _ => simp [src, es] at hp'; exact hp'.elim
    | scr _ => exact hp'.elim
    | exo _ _ => exact hp'.elim
    | fn _ => exact hp'.elim
    | lam _ _ _ _ _ => exact hp'.elim
    | dat d =>
      cases d with
      | tuple ds =>
        refine (pi_tup ha).run pins st σ H T I ⟨β, ρ, s, hl, hs, ?_⟩
        rw [ef]
        intro β1 H1 u st1 hs1 r1
        cases r1 with
        | @tup a xs _ ht hz d => exact ⟨a, rfl, ⟨xs, ht.sqt⟩, hp' β1 H1 _ st1 hs1 (walk_dtup ht.sqt d)⟩
      | list ds =>
        refine (pi_list ha).run pins st σ H T I ⟨β, ρ, s, hl, hs, ?_⟩
        rw [ef]
        intro β1 H1 u st1 hs1 r1
        cases r1 with
        | @lst a xs _ ht hz d => exact ⟨a, rfl, ⟨xs, ht.sq⟩, hp' β1 H1 _ st1 hs1 (walk_dlst ht d)⟩
      | str z =>
        refine (pi_str ha).run pins st σ H T I ⟨β, ρ, s, hl, hs, ?_⟩
        rw [ef]
        intro β1 H1 u st1 hs1 r1
        cases r1 with
        | str hz => exact ⟨z, rfl, hp' β1 H1 _ st1 hs1 walk_sgn⟩
      | _ => exact hp'.elim
theorem di_range1 {a : Expr} {r : MA} (hg : Gl X "range") (hm : X.mg "range" = none) (ha : DA X zx W [a] r) (hs : starEach [a] X.env = [(false, eval a X.env)] := by rfl) : DI X zx W tg (.Call (.Name "range" p) [a] [] pos) (iRng1 r) := PI.imp (pi_range1 hg hm ha hs) fun σ H T q => by
  obtain ⟨β, ρ, s, hl, hs, hp⟩ := q
  refine ⟨β, ρ, s, hl, hs, Post.bind hp fun vs s1 β1 H1 us st1 hs1 r1 h1 => ?_⟩
  split at h1
  · rename_i j
    split at h1
    · rename_i hj
      cases r1 with
      | cons r0 r1 =>
        cases r1
        cases r0
        exact ⟨j, rfl, hj.1, hj.2, h1 β1 H1 _ (Step.refl _ _) hs1 walk_rng⟩
    · exact h1.elim
  · exact h1.elim
end
/-- an end of a turn -/
def Fl.loop (f : Fl) (k : MS) : Fl := match f with
  | .nx ρ s => k ρ s
  | .ct ρ s => k ρ s
  | .bk ρ s => .nx ρ s
  | .rt v s => .rt v s
  | .ex x ρ s => .ex x ρ s
  | .bad => .bad
@[simp] theorem Fl.loop_nx (ρ : Loc) (s : Sto) (k : MS) : (Fl.nx ρ s).loop k = k ρ s := rfl
@[simp] theorem Fl.loop_ct (ρ : Loc) (s : Sto) (k : MS) : (Fl.ct ρ s).loop k = k ρ s := rfl
@[simp] theorem Fl.loop_bk (ρ : Loc) (s : Sto) (k : MS) : (Fl.bk ρ s).loop k = .nx ρ s := rfl
@[simp] theorem Fl.loop_rt (v : Vl) (s : Sto) (k : MS) : (Fl.rt v s).loop k = .rt v s := rfl
@[simp] theorem Fl.loop_ex (x : Exn) (ρ : Loc) (s : Sto) (k : MS) : (Fl.ex x ρ s).loop k = .ex x ρ s := rfl
@[simp] theorem Fl.loop_bad (k : MS) : Fl.bad.loop k = .bad := rfl
open Classical in
noncomputable def forM (c : Src) (g : MG) (b : MS) : List Vl → MS
  | [], ρ, s => if c.ok s then .nx ρ s else .bad
  | v :: r, ρ, s => if c.ok s then ((g v ρ s).thn b).loop (forM c g b r) else .bad
noncomputable def sFor (it : MI) (g : MG) (b : MS) : MS := fun ρ s => (it ρ s).to ρ fun c s1 => forM c g b c.items ρ s1
end Pm
set_option maxRecDepth 100000
set_option maxHeartbeats 4000000
namespace Pm
open PySem PySem.Spec PyProof.Rows L2 Sw
def Bs.add (β : Bs) (p : Addr) : Bs := ⟨β.b, p :: β.g⟩
section
variable {K : PySem.W.Frag} {G : Cf} {H : Hp} {β : Bs} {p : Addr}
/-- a list, a dict -/
def IsC : HO → Prop
  | .lst _ => True
  | .dK _ => True
  | .dT _ => True
  | _ => False
theorem isC_tup {o : HO} {xs : List V} (h : IsC o) : HO.tup xs ≠ o := fun z => by rw [← z] at h; exact h
theorem isC_frz {o : HO} {q : Obj} {u : HO} (h : IsC o) : HO.frz q u ≠ o := fun z => by rw [← z] at h; exact h
theorem isC_own {o : HO} {a : Addr} (h : IsC o) : HO.own a ≠ o := fun z => by rw [← z] at h; exact h
theorem isC_code {o : HO} {c : Addr} {q : Str} (h : IsC o) : LamX.CodeO c q ≠ o := fun z => by rw [← z] at h; exact h
theorem isC_xd {o : HO} {a : List (Str × V)} (h : IsC o) : HO.xd a ≠ o := fun z => by rw [← z] at h; exact h
/-- it changes -/
structure Gp (β : Bs) (H : Hp) (p : Addr) : Prop where
  mem : p ∈ β.g
  lst : ∃ o, H p = some o ∧ IsC o
theorem Gp.sd {a : Addr} {x : HO} {o : HO} (g : Gp β H p) (h : Sd H β a x) : Sd (upd H p o) β a x := ⟨by rw [upd_ne (fun z => h.2.2 (by rw [z]; exact g.mem))]; exact h.1, h.2⟩
theorem Gp.scr {a : Addr} {xs : List V} {o : HO} (g : Gp β H p) (h : Scr K H a xs) : Scr K (upd H p o) a xs := by
  obtain ⟨ys, hp, hc⟩ := g.lst
  rcases h with ⟨q, h⟩ | h
  · exact .inl ⟨q, by rw [upd_ne (ne_of h hp (isC_frz hc))]; exact h⟩
  · exact .inr h
theorem Gp.tup {a : Addr} {xs : List V} {o : HO} (g : Gp β H p) (h : H a = some (.tup xs)) : upd H p o a = some (.tup xs) := by
  obtain ⟨ys, hp, hc⟩ := g.lst
  rw [upd_ne (ne_of h hp (isC_tup hc))]; exact h
theorem Gp.sqt {a : Addr} {xs : List V} {o : HO} (g : Gp β H p) (h : SqT K H a xs) : SqT K (upd H p o) a xs := by
  obtain ⟨ys, hp, hc⟩ := g.lst
  rcases h with (h | ⟨q, h⟩) | h
  · exact .inl (.inl (by rw [upd_ne (ne_of h hp (isC_tup hc))]; exact h))
  · exact .inl (.inr ⟨q, by rw [upd_ne (ne_of h hp (isC_frz hc))]; exact h⟩)
  · exact .inr h
end
theorem Gp.tupA {K : PySem.W.Frag} {H : Hp} {β : Bs} {p : Addr} {o : HO} (g : Gp β H p) {a : Addr} {ds : List PyData} {xs : List V} (h : TupA K H a ds xs) : TupA K (upd H p o) a ds xs := by
  obtain ⟨ys, hp, hc⟩ := g.lst
  exact h.keep (fun xs h => by rw [upd_ne (ne_of h hp (isC_tup hc))]; exact h) fun q u h => by rw [upd_ne (ne_of h hp (isC_frz hc))]; exact h
theorem Gp.dq {K : PySem.W.Frag} {H : Hp} {β : Bs} {p : Addr} {o : HO} (g : Gp β H p) {v : V} {d : PyData} (h : Dq K H β v d) : Dq K (upd H p o) β v d := h.tr (fun _ _ _ h => g.sd h) fun _ _ _ h => g.tupA h
theorem Gp.dqs {K : PySem.W.Frag} {H : Hp} {β : Bs} {p : Addr} {o : HO} (g : Gp β H p) {vs : List V} {ds : List PyData} (h : DqAll K H β vs ds) : DqAll K (upd H p o) β vs ds := h.tr (fun _ _ _ h => g.sd h) fun _ _ _ h => g.tupA h
section
variable {K : PySem.W.Frag} {G : Cf} {H : Hp} {β : Bs} {p : Addr} {o : HO}
theorem Gp.rx (g : Gp β H p) {x : Exn} {c : Value} {d : Option Addr} (h : RX G H β x c d) : RX G (upd H p o) β x c d := by
  obtain ⟨C, dd, xs, h1, h2, h3, h4, h5, h6⟩ := h
  obtain ⟨ys, hp, hc⟩ := g.lst
  exact ⟨C, dd, xs, h1, h2, h3, by rw [upd_ne (ne_of h4 hp (isC_xd hc))]; exact h4, h5, Paired.mapP h6 fun p q z => ⟨z.1, g.dq z.2⟩⟩
theorem Gp.rv (g : Gp β H p) : ∀ {v : Vl} {u : V}, Rv G H β v u → Rv G (upd H p o) β v u
  | .dat _, _, h => g.dq h
  | .ref _, _, h => h
  | .scr _, _, ⟨a, e, q⟩ => ⟨a, e, g.scr q⟩
  | .exo _ _, _, ⟨a, c, d, e, q, r⟩ => ⟨a, c, d, e, q, g.rx r⟩
  | .fn _, _, h => h
  | .lam _ _ _ _ _, _, ⟨e, h, n, r⟩ => ⟨e, by
      obtain ⟨ys, hp, hc⟩ := g.lst
      rw [upd_ne (ne_of h hp (isC_code hc))]; exact h, n, r.map (fun _ _ h => g.dq h) fun _ _ h => h⟩
theorem Gp.rvs (g : Gp β H p) : ∀ {vs : List Vl} {us : List V}, Rvs G H β vs us → Rvs G (upd H p o) β vs us
  | _, _, .nil => .nil
  | _, _, .cons h r => .cons (g.rv h) (Gp.rvs g r)
theorem Gp.rl (g : Gp β H p) {ρ : Loc} {σ : L2.St} (h : RelL G H β ρ σ) : RelL G (upd H p o) β ρ σ := ⟨h.len, fun i v e => by
  obtain ⟨u, h1, h2⟩ := h.at' i v e
  exact ⟨u, h1, g.rv h2⟩⟩
theorem Gp.ro (g : Gp β H p) {a : Addr} {ob : Ob} (ne : a ≠ p) (nd : ∀ dx, H dx = some (.own a) → dx ≠ p) (h : RO G H β a ob) : RO G (upd H p o) β a ob := by
  cases ob with
  | tup l => obtain ⟨hl, xs, e, r⟩ := h; exact ⟨hl, xs, by rw [upd_ne ne]; exact e, g.rvs r⟩
  | lst l => obtain ⟨hl, xs, e, r⟩ := h; exact ⟨hl, xs, by rw [upd_ne ne]; exact e, g.rvs r⟩
  | dic t l => cases t <;> (obtain ⟨xs, e, r⟩ := h; exact ⟨xs, by rw [upd_ne ne]; exact e, Paired.mapP r fun p q z => ⟨z.1, g.rv z.2⟩⟩)
  | ins c l =>
    obtain ⟨C, dx, xs, hm, e, hd, n, r⟩ := h
    exact ⟨C, dx, xs, hm, by rw [upd_ne ne]; exact e, by rw [upd_ne (nd dx hd)]; exact hd, n, Paired.mapP r fun p q z => ⟨z.1, g.rv z.2⟩⟩
theorem Gp.rs (g : Gp β H p) {s : Sto} (h : RelS G β s H) : RelS G β s (upd H p o) := by
  have np := (h.gs p g.mem).2
  obtain ⟨xs, hp, hc⟩ := g.lst
  refine ⟨h.len, h.nd, fun n ob a h1 h2 => g.ro (fun z => np (by rw [← z]; exact List.mem_of_getElem? h2)) (fun dx hd => ne_of hd hp (isC_own hc)) (h.ob n ob a h1 h2), fun a ha => ?_, h.tb.put (.inr g.mem)⟩
  obtain ⟨⟨x, hx⟩, n⟩ := h.gs a ha
  refine ⟨?_, n⟩
  by_cases z : a = p
  · exact ⟨_, by rw [z, upd_same]⟩
  · exact ⟨x, by rw [upd_ne z]; exact hx⟩
/-- it begins -/
theorem Step.add (h : H p = none) : Step β H (β.add p) (upd H p o) := by
  refine ⟨List.prefix_refl _, fun _ h => List.mem_cons_of_mem _ h, fun a ha => ?_, fun _ h => .inl h, fun a x _ e _ => same_new h a x e, fun a xs e => same_new h a _ e, fun a x u e => same_new h a _ e, fun a x e => ⟨x, same_new h a x e⟩, fun t => (TabsB.mono (β := β) (β' := β.add p) (fun x h => .inl h) (fun x hx => (List.mem_cons.mp (show x ∈ p :: β.g from hx)).elim (fun z => .inr (.inr (by rw [z]; exact h))) fun z => .inr (.inl z)) t).same (same_new h)⟩
  rcases List.mem_cons.mp (show a ∈ p :: β.g from ha) with z | z
  · exact .inr (by rw [z]; exact h)
  · exact .inl z
theorem RelS.add {s : Sto} (h : RelS G β s H) (hp : H p = none) : RelS G (β.add p) s (upd H p o) := by
  refine ⟨h.len, h.nd, fun n ob a h1 h2 => ?_, fun a ha => ?_, (Step.add hp).tbs h.tb⟩
  · have r := h.ob n ob a h1 h2
    obtain ⟨x, hx, _⟩ := r.own
    exact r.step (Step.add hp) (by rw [upd_ne (ne_of_none hx hp)])
  · rcases List.mem_cons.mp (show a ∈ p :: β.g from ha) with z | z
    · rw [z]
      exact ⟨⟨_, upd_same⟩, h.nin hp⟩
    · obtain ⟨⟨x, hx⟩, n⟩ := h.gs a z
      exact ⟨⟨x, by rw [upd_ne (ne_of_none hx hp)]; exact hx⟩, n⟩
end
section
variable {K : PySem.W.Frag} {G : Cf} {H : Hp} {b g g' : List Addr}
theorem Sd.drop {a : Addr} {o : HO} (i : ∀ x ∈ g', x ∈ g) (h : Sd H ⟨b, g⟩ a o) : Sd H ⟨b, g'⟩ a o := ⟨h.1, h.2.1, fun z => h.2.2 (i a z)⟩
end
theorem Dq.drop {K : PySem.W.Frag} {H : Hp} {b g g' : List Addr} (i : ∀ x ∈ g', x ∈ g) {v : V} {d : PyData} (h : Dq K H ⟨b, g⟩ v d) : Dq K H ⟨b, g'⟩ v d := h.tr (fun _ _ _ h => h.drop i) fun _ _ _ h => h
section
variable {K : PySem.W.Frag} {G : Cf} {H : Hp} {b g g' : List Addr}
theorem Rv.drop (i : ∀ x ∈ g', x ∈ g) : ∀ {v : Vl} {u : V}, Rv G H ⟨b, g⟩ v u → Rv G H ⟨b, g'⟩ v u
  | .dat _, _, h => Dq.drop i h
  | .ref _, _, h => h
  | .scr _, _, h => h
  | .exo _ _, _, ⟨a, c, d, e, q, C, dd, xs, h1, h2, h3, h4, h5, h6⟩ => ⟨a, c, d, e, q, C, dd, xs, h1, h2, h3, h4, h5, Paired.mapP h6 fun p q z => ⟨z.1, Dq.drop i z.2⟩⟩
  | .fn _, _, h => h
  | .lam _ _ _ _ _, _, ⟨e, h, n, r⟩ => ⟨e, h, ⟨n.1, fun z => n.2 (i _ z)⟩, r.map (fun _ _ h => Dq.drop i h) fun _ _ h => h⟩
theorem Rvs.drop (i : ∀ x ∈ g', x ∈ g) : ∀ {vs : List Vl} {us : List V}, Rvs G H ⟨b, g⟩ vs us → Rvs G H ⟨b, g'⟩ vs us
  | _, _, .nil => .nil
  | _, _, .cons h r => .cons (Rv.drop i h) (Rvs.drop i r)
theorem RO.drop (i : ∀ x ∈ g', x ∈ g) {a : Addr} {ob : Ob} (h : RO G H ⟨b, g⟩ a ob) : RO G H ⟨b, g'⟩ a ob := by
  cases ob with
  | tup l => obtain ⟨hl, xs, e, r⟩ := h; exact ⟨hl, xs, e, Rvs.drop i r⟩
  | lst l => obtain ⟨hl, xs, e, r⟩ := h; exact ⟨hl, xs, e, Rvs.drop i r⟩
  | dic t l => cases t <;> (obtain ⟨xs, e, r⟩ := h; exact ⟨xs, e, Paired.mapP r fun p q z => ⟨z.1, Rv.drop i z.2⟩⟩)
  | ins c l =>
    obtain ⟨C, dx, xs, hm, e, hd, n, r⟩ := h
    exact ⟨C, dx, xs, hm, e, hd, n, Paired.mapP r fun p q z => ⟨z.1, Rv.drop i z.2⟩⟩
theorem RelS.drop (i : ∀ x ∈ g', x ∈ g) {s : Sto} (h : RelS G ⟨b, g⟩ s H) : RelS G ⟨b, g'⟩ s H := ⟨h.len, h.nd, fun n ob a h1 h2 => (h.ob n ob a h1 h2).drop i, fun a ha => h.gs a (i a ha), TabsB.mono (β := ⟨b, g⟩) (β' := ⟨b, g'⟩) (fun _ h => .inl h) (fun x h => .inr (.inl (i x h))) h.tb⟩
end
def wipeM (ρ : Loc) : List Nat → Loc
  | [] => ρ
  | v :: vs => (wipeM ρ vs).set v none
theorem RelL.wipe {G : Cf} {H : Hp} {β : Bs} {ρ : Loc} {σ : L2.St} (h : RelL G H β ρ σ) : ∀ vs : List Nat, RelL G H β (wipeM ρ vs) (L2.wipe σ vs)
  | [] => h
  | v :: vs => (RelL.wipe h vs).setN
theorem wipe_set {σ : L2.St} {i : Nat} {x : Option V} : ∀ {vs : List Nat}, i ∈ vs → L2.wipe (σ.set i x) vs = L2.wipe σ vs
  | [], h => by cases h
  | v :: vs, h => by
    show (L2.wipe (σ.set i x) vs).set v none = (L2.wipe σ vs).set v none
    by_cases hv : i ∈ vs
    · rw [wipe_set hv]
    · have e : i = v := by
        rcases List.mem_cons.mp h with z | z
        · exact z
        · exact absurd z hv
      subst e
      have go : ∀ (vs : List Nat), i ∉ vs → L2.wipe (σ.set i x) vs = (L2.wipe σ vs).set i x := by
        intro vs
        induction vs with
        | nil => intro _; rfl
        | cons w ws ih =>
          intro hn
          show (L2.wipe (σ.set i x) ws).set w none = ((L2.wipe σ ws).set w none).set i x
          rw [ih (fun z => hn (List.mem_cons_of_mem _ z)), List.set_comm _ _ (fun z => hn (by rw [z]; exact List.mem_cons_self))]
      rw [go vs hv, List.set_set]
theorem wipe_wipe {σ : L2.St} : ∀ {vs ws : List Nat}, (∀ i ∈ ws, i ∈ vs) → L2.wipe (L2.wipe σ ws) vs = L2.wipe σ vs
  | vs, [], _ => rfl
  | vs, w :: ws, h => by
    show L2.wipe ((L2.wipe σ ws).set w none) vs = L2.wipe σ vs
    rw [wipe_set (h w List.mem_cons_self), wipe_wipe fun i hi => h i (List.mem_cons_of_mem _ hi)]
/-- a target of names -/
def GOk (G : Cf) (g : TG) (gm : Vl → Loc → Option Loc) (vs : List Nat) : Prop := ∀ x v σ ρ ρ2 β H (Q : L2.St → Hp → Prop), RelL G H β ρ σ → Rv G H β v x → gm v ρ = some ρ2 → (∀ σ2, RelL G H β ρ2 σ2 → L2.wipe σ2 vs = L2.wipe σ vs → Q σ2 H) → g x σ H Q
open Classical in
noncomputable def compM (c : Src) (gm : Vl → Loc → Option Loc) (t : MT) (e : ME) (ρ0 : Loc) : List Vl → List Vl → Sto → R (List Vl)
  | [], acc, s => if c.ok s then .ok acc s else .bad
  | v :: r, acc, s => if c.ok s then (match gm v ρ0 with
    | none => .bad
    | some ρ2 => match t ρ2 s with
      | .ok true s1 => (match e ρ2 s1 with
        | .ok y s2 => if acc.length < sizeLine then compM c gm t e ρ0 r (acc ++ [y]) s2 else .bad
        | _ => .bad)
      | .ok false s1 => compM c gm t e ρ0 r acc s1
      | _ => .bad) else .bad
noncomputable def mLc0 (it : MI) (gm : Vl → Loc → Option Loc) (t : MT) (e : ME) (vs : List Nat) : Loc → Sto → R (List Vl) := fun ρ s => (it ρ s).bind fun c s1 => compM c gm t e (wipeM ρ vs) c.items [] s1
/-- a list that nobody turns -/
noncomputable def mLc (it : MI) (gm : Vl → Loc → Option Loc) (t : MT) (e : ME) (vs : List Nat) : ME := fun ρ s => (mLc0 it gm t e vs ρ s).bind fun acc s2 => R.of ((datas acc).map fun ds => .dat (.list ds)) s2
abbrev WF : WX := fun _ _ _ _ => False
def tYesM : MT := fun _ s => .ok true s
section
variable {X : Cx} {zx : Exo} {W : WX}
/-- all that a comprehension does -/
theorem lc_go {it : MI} {g : TG} {gm : Vl → Loc → Option Loc} {t : MT} {e : ME} {vs : List Nat} {σ : L2.St} {H : Hp} {Q : VK} (go : GOk (cf X zx) g gm vs)
    (q : ∃ β ρ s, RelL (cf X zx) H β ρ σ ∧ RelS (cf X zx) β s H ∧ Post (cf X zx) (fun H' β' acc (D : Addr) => D ∉ β'.b ∧ D ∉ β'.g ∧ acc.length ≤ sizeLine ∧ ∃ xs, H' D = some (.lst xs) ∧ Rvs (cf X zx) H' β' acc xs) W σ β H (fun D H' => Q (.ref D) H') (mLc0 it gm t e vs ρ s)) :
    tLc (tG (cf X zx) (rI (cf X zx)) W it) g (tG (cf X zx) rB WF t) (tG (cf X zx) (Rv (cf X zx)) WF e) vs σ H Q := by
  obtain ⟨β, ρ, s, hl, hs, hp⟩ := q
  refine ⟨β, ρ, s, hl, hs, Post.bind hp fun c s1 β1 H1 J st1 hs1 wm h1 => ?_⟩
  intro D hD
  have hl1 := hl.step st1
  refine ⟨fun i m H' => m = c.items.length - i ∧ i ≤ c.items.length ∧ ∃ β' s' acc xs, Step β1 H1 β' H' ∧ D ∈ β'.g ∧ (∀ x ∈ β1.g, x ∈ β'.g) ∧ RelS (cf X zx) β' s' H' ∧ RelL (cf X zx) H' β' (wipeM ρ vs) (L2.wipe σ vs) ∧ H' D = some (.lst xs) ∧ acc.length ≤ sizeLine ∧ Rvs (cf X zx) H' β' acc xs ∧
      Post (cf X zx) (fun H' β' acc (D : Addr) => D ∉ β'.b ∧ D ∉ β'.g ∧ acc.length ≤ sizeLine ∧ ∃ xs, H' D = some (.lst xs) ∧ Rvs (cf X zx) H' β' acc xs) W σ β1 H1 (fun D H' => Q (.ref D) H') (compM c gm t e (wipeM ρ vs) (c.items.drop i) acc s'),
    ⟨_, rfl, Nat.zero_le _, β1.add D, s1, [], [], Step.add hD, List.mem_cons_self, fun x hx => List.mem_cons_of_mem _ hx, hs1.add hD, (hl1.wipe vs).step (Step.add hD), upd_same, Nat.zero_le _, .nil, h1⟩, ?_⟩
  rintro i m H' ⟨rfl, hi, β', s', acc, xs, st', hDg, hsub, hs', hl', hDx, hlen, racc, q'⟩
  by_cases hlt : i < c.items.length
  · rw [List.drop_eq_getElem_cons hlt, compM] at q'
    by_cases ok : c.ok s'
    rotate_left
    · rw [if_neg ok] at q'; exact q'.elim
    rw [if_pos ok] at q'
    refine .inr ⟨wm.go i β' s' H' hlt st'.w hs' ok, fun H2 => i + 1 ≤ c.items.length ∧ ∃ β' s' acc xs, Step β1 H1 β' H2 ∧ D ∈ β'.g ∧ (∀ x ∈ β1.g, x ∈ β'.g) ∧ RelS (cf X zx) β' s' H2 ∧ RelL (cf X zx) H2 β' (wipeM ρ vs) (L2.wipe σ vs) ∧ H2 D = some (.lst xs) ∧ acc.length ≤ sizeLine ∧ Rvs (cf X zx) H2 β' acc xs ∧
      Post (cf X zx) (fun H' β' acc (D : Addr) => D ∉ β'.b ∧ D ∉ β'.g ∧ acc.length ≤ sizeLine ∧ ∃ xs, H' D = some (.lst xs) ∧ Rvs (cf X zx) H' β' acc xs) W σ β1 H1 (fun D H' => Q (.ref D) H') (compM c gm t e (wipeM ρ vs) (c.items.drop (i + 1)) acc s'),
      fun H2 h2 => ⟨_, by omega, rfl, h2.1, h2.2⟩, fun x H2 y => ?_⟩
    obtain ⟨sm, v, hv, rv⟩ := wm.yld i β' s' H' x H2 hlt st'.w hs' ok y
    rw [List.getElem?_eq_getElem hlt] at hv
    cases hv
    have st2 : Step β' H' β' H2 := Step.same sm
    generalize c.items[i] = v at q' rv
    cases eg : gm v (wipeM ρ vs) with
    | none => rw [eg] at q'; exact q'.elim
    | some ρ2 =>
      rw [eg] at q'
      dsimp only at q'
      refine go x v _ _ ρ2 β' H2 _ (hl'.step st2) rv eg fun σ2 hl2 ew => ⟨by rw [ew, wipe_wipe fun i hi => hi], β', ρ2, s', hl2, hs'.same sm, ?_⟩
      have fin : ∀ β4 s4 H4, Step β' H2 β4 H4 → RelS (cf X zx) β4 s4 H4 → Step β1 H1 β4 H4 ∧ D ∈ β4.g ∧ (∀ x ∈ β1.g, x ∈ β4.g) ∧ RelL (cf X zx) H4 β4 (wipeM ρ vs) (L2.wipe σ vs) ∧ H4 D = some (.lst xs) ∧ Rvs (cf X zx) H4 β4 acc xs := fun β4 s4 H4 st4 hs4 =>
        ⟨(st'.trans st2).trans st4, st4.gsub D hDg, fun x hx => st4.gsub x (hsub x hx), (hl'.step st2).step st4, st4.keep _ _ trivial (sm _ _ hDx) (hs'.gs D hDg).2, st4.rvs (st2.rvs racc)⟩
      cases et : t ρ2 s' with
      | bad => rw [et] at q'; exact q'.elim
      | ex x1 s3 => rw [et] at q'; exact q'.elim
      | ok b s3 =>
        rw [et] at q'
        intro β3 H3 b' st3 hs3 eb
        cases (show b = b' from eb)
        cases b with
        | false =>
          dsimp only at q'
          refine iteF ?_
          obtain ⟨f1, f2, f3, f4, f5, f6⟩ := fin β3 s3 H3 st3 hs3
          exact ⟨hlt, β3, s3, acc, xs, f1, f2, f3, hs3, f4, f5, hlen, f6, q'⟩
        | true =>
          dsimp only at q'
          refine iteT ⟨β3, ρ2, s3, hl2.step st3, hs3, ?_⟩
          cases ee : e ρ2 s3 with
          | bad => rw [ee] at q'; exact q'.elim
          | ex x1 s4 => rw [ee] at q'; exact q'.elim
          | ok y1 s4 =>
            rw [ee] at q'
            dsimp only at q'
            intro β4 H4 u st4 hs4 ru
            by_cases hal : acc.length < sizeLine
            rotate_left
            · rw [if_neg hal] at q'; exact q'.elim
            rw [if_pos hal] at q'
            obtain ⟨f1, f2, f3, f4, f5, f6⟩ := fin β4 s4 H4 (st3.trans st4) hs4
            refine ⟨xs, f5, by rw [← f6.len]; exact hal, hlt, β4, s4, acc ++ [y1], xs ++ [u], ?_⟩
            have gp : Gp β4 H4 D := ⟨f2, _, f5, trivial⟩
            refine ⟨⟨f1.pre, f1.gsub, f1.gam, f1.new, fun a o nt h n => ?_, fun a o h => ?_, fun a o w h => ?_, fun a o h => ?_, fun t => (f1.tbs t).put (.inr f2)⟩, f2, f3, gp.rs hs4, gp.rl f4, upd_same, by simp; omega, (gp.rvs f6).append (.cons (gp.rv ru) .nil), q'⟩
            · rw [upd_ne (ne_of_none h hD)]; exact f1.keep a o nt h n
            · rw [upd_ne (ne_of_none h hD)]; exact f1.tups a o h
            · rw [upd_ne (ne_of_none h hD)]; exact f1.frzs a o w h
            · rw [upd_ne (ne_of_none h hD)]; exact f1.liv a o h
  · have ei : i = c.items.length := by omega
    subst ei
    rw [List.drop_length, compM] at q'
    by_cases ok : c.ok s'
    rotate_left
    · rw [if_neg ok] at q'; exact q'.elim
    rw [if_pos ok] at q'
    refine .inl ⟨wm.stop β' s' H' st'.w hs' ok, ?_⟩
    have hb : D ∉ β'.b := (hs'.gs D hDg).2
    have stq : Step β1 H1 ⟨β'.b, β1.g⟩ H' := ⟨st'.pre, fun _ h => h, fun _ h => .inl h, st'.new, st'.keep, st'.tups, st'.frzs, st'.liv, fun t => TabsB.mono (β := β') (β' := ⟨β'.b, β1.g⟩) (fun _ h => .inl h) (fun x h => .inr (.inl (hsub x h))) (st'.tbs t)⟩
    exact q' ⟨β'.b, β1.g⟩ H' D stq (RelS.drop (g := β'.g) hsub hs') ⟨hb, hs1.nig hD, hlen, xs, hDx, Rvs.drop (g := β'.g) hsub racc⟩
theorem de_lc {elt tg iter : Expr} {ifs : List Expr} {scope : Scope} {own : List (Str × Nat)} {pos : Pos} {it : MI} {g : TG} {gm : Vl → Loc → Option Loc} {t : MT} {e : ME} (hc : X.calm = true) (hN : X.N.Nodup) (hi : DI X zx W tg iter it) (ok : BlkOk X.N X.env.scope scope own) (go : GOk (cf X zx) g gm (own.map (·.2)))
    (hg : ∀ (s : Shared) (H : Hp) (C : Addr) (cl : List (Str × Addr)) (fp : List Addr), PG (X.blk s H scope (compEnvC scope cl C X.env) fp) tg g) (ht : ∀ (s : Shared) (H : Hp) (C : Addr) (cl : List (Str × Addr)) (fp : List Addr), PTs (X.blk s H scope (compEnvC scope cl C X.env) fp) ifs (tG (cf X zx) rB WF t))
    (he : ∀ (s : Shared) (H : Hp) (C : Addr) (cl : List (Str × Addr)) (fp : List Addr), PE (X.blk s H scope (compEnvC scope cl C X.env) fp) elt (tG (cf X zx) (Rv (cf X zx)) WF e)) (hs : ∀ x, foldedSetIterable iter X.env x = pure x := by intro _; rfl) :
    DE X zx W (.ListComp elt [⟨tg, iter, ifs, 0⟩] scope pos) (mLc it gm t e (own.map (·.2))) := PE.imp (pe_lc hc hN hi ok hg ht he hs) fun σ H Q q => by
  obtain ⟨β, ρ, s, hl, hs, hp⟩ := q
  refine lc_go go ⟨β, ρ, s, hl, hs, Post.bind hp fun acc s1 β1 H1 D st1 hs1 r1 h1 => ?_⟩
  obtain ⟨n1, n2, hlen, xs, hx, rx⟩ := r1
  cases ed : datas acc with
  | none => rw [ed] at h1; exact h1.elim
  | some ds =>
    rw [ed] at h1
    have ea := datas_eq ed
    rw [ea] at rx hlen
    exact h1 β1 H1 _ (Step.refl _ _) hs1 (Dq.lst ⟨hx, n1, n2⟩ (by simpa using hlen) (Rvs.undats rx))
end
end Pm
set_option maxRecDepth 100000
set_option maxHeartbeats 4000000
namespace Pm
open PySem PySem.Spec PyProof.Rows L2 Sw
abbrev MF := List Vl → Sto → R Vl
/-- what a def promises -/
def spD (G : Cf) (n : Nat) (g : MF) : Sp := fun vs H Q E => ∃ β s xs, RelS G β s H ∧ Rvs G H β xs vs ∧ xs.length = n ∧ Post G (Rv G) (fun c d _ H => E c d H) [] β H Q (g xs s)
structure FnD (P : Program) (w : World) (K : PySem.W.Frag) (mg : Str → Option Value) (base : Heap) (k : Nat) (f : Addr) (fd : FuncData) (ps : List Str) (g : MF) : Prop where
  goes : ∀ (A : Around) (outer : List Env) (s : Shared) (H : Hp) (args : Args) (us : List Value) (vs : List V) (Q : VK) (E : XK), A.guards = some [] →
    Room k A → Env0 P w K mg base A outer s H → BindsTo s fd args (ps.zip us) → Vals vs us → spD ⟨K, mg, none⟩ ps.length g vs H Q E → codeAny (model P w) A (.call (.ref f) args) (CR (L2.CX P w) outer P w H s Q E) s
def startM (n : Nat) (xs : List Vl) : Loc := xs.map some ++ List.replicate (n - xs.length) none
def Fl.fin (f : Fl) : R Vl := match f with
  | .nx _ s => .ok (.dat .none) s
  | .rt v s => .ok v s
  | .ex x _ s => .ex x s
  | _ => .bad
@[simp] theorem Fl.fin_nx (ρ : Loc) (s : Sto) : (Fl.nx ρ s).fin = .ok (.dat .none) s := rfl
@[simp] theorem Fl.fin_rt (v : Vl) (s : Sto) : (Fl.rt v s).fin = .ok v s := rfl
@[simp] theorem Fl.fin_ex (x : Exn) (ρ : Loc) (s : Sto) : (Fl.ex x ρ s).fin = .ex x s := rfl
theorem start_rel {G : Cf} {H : Hp} {β : Bs} {N : List Str} {xs : List Vl} {vs : List V} (r : Rvs G H β xs vs) : RelL G H β (startM N.length xs) (start N vs) := by
  have hl := r.len
  refine ⟨by simp [startM, L2.start, hl], fun i v e => ?_⟩
  unfold startM at e
  unfold L2.start
  by_cases hi : i < xs.length
  · rw [List.getElem?_append_left (by simpa using hi), List.getElem?_map] at e
    obtain ⟨y, h1, h2⟩ := Option.map_eq_some_iff.mp e
    cases h2
    obtain ⟨u, h3, h4⟩ := Rvs.get' r h1
    refine ⟨u, ?_, h4⟩
    rw [List.getElem?_append_left (by simp; omega), List.getElem?_map, h3]
    rfl
  · rw [List.getElem?_append_right (by simp; omega)] at e
    have := List.mem_of_getElem? e
    simp at this
section
variable {P : Program} {w : World} {K : PySem.W.Frag} {mg : Str → Option Value} {base : Heap}
theorem FnD.mono {f : Addr} {fd : FuncData} {ps : List Str} {j k : Nat} {g : MF} (F : FnD P w K mg base j f fd ps g) (h : j ≤ k) : FnD P w K mg base k f fd ps g := ⟨fun A outer s H args us vs Q E hg hr => F.goes A outer s H args us vs Q E hg (hr.mono h)⟩
end
theorem RelS.oz {K : PySem.W.Frag} {mg : Str → Option Value} {z z' : Exo} {β : Bs} {s : Sto} {H : Hp} (h : RelS ⟨K, mg, z⟩ β s H) : RelS ⟨K, mg, z'⟩ β s H := ⟨h.len, h.nd, h.ob, h.gs, h.tb⟩
theorem post_oz {K : PySem.W.Frag} {mg : Str → Option Value} {z : Exo} {W : WX} {σ : L2.St} {β : Bs} {H : Hp} {Q : VK} {r : R Vl} (h : Post ⟨K, mg, z⟩ (Rv ⟨K, mg, z⟩) W σ β H Q r) : Post ⟨K, mg, none⟩ (Rv ⟨K, mg, none⟩) (fun c d _ H' => W c d σ H') [] β H Q r := by
  cases r with
  | ok v s => exact fun β' H' u st hs rv => h β' H' u st hs.oz (Rv.up rv)
  | ex x s => exact fun β' H' c d st hs rx => h β' H' c d st hs.oz rx
  | bad => exact h
/-- a call with so many arguments -/
def mCall (n : Nat) (g : MF) (r : MA) : ME := fun ρ s => (r ρ s).bind fun vs s1 => if vs.length = n ∧ vs.all noX = true then g vs s1 else .bad
section
variable {X : Cx} {zx : Exo} {W : WX} {k : Nat} {f : Addr} {fd : FuncData} {ps : List Str} {g : MF} {x : Str} {p pos : Pos} {e : Expr} {es : List Expr} {r : MA}
theorem call_run {pins : List (Addr × Obj)} {σ : L2.St} {H : Hp} {s : Shared} {Q : VK} {us : List Value} {vs : List V} (hG : X.A.guards = some []) (F : FnD X.prog X.w X.K X.mg X.base k f fd ps g) (hr : Room k X.A) (hb : Binds X.K fd ps []) (tk : Takes X W)
    (I : Inv X pins σ H s) (rv : Vals vs us) (h : spD (cf X none) ps.length g vs H Q (fun c d H' => W c d σ H')) : wpAny (model X.prog X.w) X.A (call (.ref f) us) (EP X pins σ Q) X.xe s := by
  have hvl : vs.length = ps.length := by
    obtain ⟨β, s0, xs, _, rx, hlen, _⟩ := h
    rw [← rx.len]; exact hlen
  have bd := hb s us I.kIn (by rw [List.append_nil, ← rv.length]; exact hvl)
  rw [List.append_nil] at bd
  refine wpAny_call (codeAny_mono (F.goes X.A X.stack s H ⟨us, []⟩ us vs Q _ hG hr I.env0 bd rv h) fun fl s' hq => ?_)
  cases fl with
  | error e => exact tk e s' (XE.of_call I (fun _ _ _ h => h) hq)
  | ok fl =>
    cases fl with
    | ret u => exact I.after hq
    | next => exact False.elim hq
    | brk => exact False.elim hq
    | cont => exact False.elim hq
theorem de_call {n : Nat} (hG : X.A.guards = some []) (F : FnD X.prog X.w X.K X.mg X.base k f fd ps g) (hr : Room k X.A) (hb : Binds X.K fd ps []) (tk : Takes X W) (hg : Gl X x) (hm : X.mg x = some (.ref f)) (hk : PySem.W.keepIn X.K (.ref f) = true)
    (ha : DA X zx W (e :: es) r) (hdb : (x == ("__debug__" : Str)) = false := by decide) (he : starEach (e :: es) X.env = (false, eval e X.env) :: starEach es X.env := by rfl) (hpl : (backTo pos (starEach es X.env)).any (·.1) = false := by rfl) (hn : ps.length = n := by rfl) :
    DE X zx W (.Call (.Name x p) (e :: es) [] pos) (mCall n g r) := by
  subst hn
  refine ⟨fun pins s0 σ H Q I hq => ?_⟩
  obtain ⟨β, ρ, s, hl, hs, hp⟩ := hq
  refine wpAny_Call_Name_kw (ld_glob I hg hm (PySem.W.callWith_K (h₀ := X.base) I.ok.mod.kin hk ?_ he hpl) hdb)
  refine thn (ha.run pos pins s0 σ H (fun vs H1 => spD (cf X none) ps.length g vs H1 Q (fun c d H' => W c d σ H')) I ⟨β, ρ, s, hl, hs, Post.bind hp fun vs s1 β1 H1 us st1 hs1 r1 h1 => ?_⟩) fun us s1 hh => ?_
  · split at h1
    · rename_i hlen
      exact ⟨β1, s1, vs, hs1.oz, Rvs.dn (G := cf X zx) hlen.2 r1, hlen.1, post_oz h1⟩
    · exact h1.elim
  · obtain ⟨vs, H1, I1, rv, q⟩ := hh
    exact ⟨I1.kIn, call_run hG F hr hb tk I1 rv q⟩
end
/-- the same ends, where the second one is not bad -/
theorem FnD.imp {P : Program} {w : World} {K : PySem.W.Frag} {mg : Str → Option Value} {base : Heap} {f : Addr} {fd : FuncData} {ps : List Str} {k : Nat} {g g' : MF} (F : FnD P w K mg base k f fd ps g) (h : ∀ xs s, g' xs s ≠ .bad → g xs s = g' xs s) : FnD P w K mg base k f fd ps g' :=
  ⟨fun A outer s H args us vs Q E hg hr e0 bd r ⟨β, s0, xs, hs, rx, hl, hp⟩ => F.goes A outer s H args us vs Q E hg hr e0 bd r ⟨β, s0, xs, hs, rx, hl, by
    rw [h xs s0 (fun z => by rw [z] at hp; exact hp)]
    exact hp⟩⟩
end Pm
set_option maxRecDepth 100000
set_option maxHeartbeats 4000000
namespace Pm
open PySem PySem.Spec PyProof.Rows L2 Sw
section
variable {X : Cx} {zx : Exo}
def rNum (f : Int → Int → Int) : R2 := fun x y H Q => ∃ j, y = .int j ∧ ((∃ i, x = .int i ∧ Q (.int (f i j)) H) ∨ ∃ b : Bool, x = .bl b ∧ Q (.int (f (if b = true then 1 else 0) j)) H)
theorem op_addB : OpR X (binaryOp .Add) (rNum fun i j => i + j) := by
  intro pins s σ H x y v u Q I rx ry h
  obtain ⟨j, rfl, h⟩ := h
  obtain ⟨t', rfl⟩ := ry
  rcases h with ⟨i, rfl, q⟩ | ⟨b, rfl, q⟩
  · obtain ⟨t, rfl⟩ := rx
    exact add_int ⟨.int _, H, I.tok _, ⟨_, rfl⟩, q⟩
  · cases (show v = Value.bool b from rx)
    exact PySem.IntBool.add_bool_int ⟨.int _, H, I.tok _, ⟨_, rfl⟩, q⟩
theorem gives_neg_bool (b : Bool) : Gives (Builtin.«int.__neg__» ⟨[.bool b], []⟩) (.int (-(if b = true then 1 else 0))) := by
  cases b <;> exact .of_eq rfl
theorem un_negB : UnR X (unaryOp .USub) (fun x H Q => (∃ i, x = .int i ∧ Q (.int (-i)) H) ∨ ∃ b : Bool, x = .bl b ∧ Q (.int (-(if b = true then 1 else 0))) H) := by
  intro pins s σ H x v Q I rx h
  rcases h with ⟨i, rfl, q⟩ | ⟨b, rfl, q⟩
  · obtain ⟨t, rfl⟩ := rx
    exact PyProof.Rows.neg_int ⟨.int _, H, I.tok _, ⟨_, rfl⟩, q⟩
  · cases (show v = Value.bool b from rx)
    exact unaryOp_gives (op := .USub) (T := "bool") rfl rfl PySem.F.slot_bool_neg PySem.F.entry_int_neg (PySem.F.args_int_neg_1 _) (gives_neg_bool b) ⟨.int _, H, I.tok _, ⟨_, rfl⟩, q⟩
def rNotB2 : R2 := fun x y H Q => ∃ b : Bool, y = .bl b ∧ ((∃ i, x = .int i ∧ Q (.bl true) H) ∨ ∃ a, x = .bl a ∧ Q (.bl (!decide (a = b))) H)
theorem op_notB2 {X : Cx} : OpR X (compareOp .IsNot) rNotB2 := by
  intro pins s σ H x y v u Q I rx ry h
  obtain ⟨b, rfl, h⟩ := h
  cases (show u = Value.bool b from ry)
  rcases h with ⟨i, rfl, q⟩ | ⟨a, rfl, q⟩
  · obtain ⟨t, rfl⟩ := rx
    exact wpAny_isNot_other rfl (fun z => by cases z) ⟨.bl true, H, I, rfl, q⟩
  · cases (show v = Value.bool a from rx)
    by_cases e : a = b
    · subst e
      exact wpAny_isNot_self rfl ⟨.bl false, H, I, rfl, by simpa using q⟩
    · exact wpAny_isNot_other rfl (fun z => e (Value.bool.inj z)) ⟨.bl true, H, I, rfl, by simpa [e] using q⟩
theorem get_list : PGet X (fun o i H Q => ∃ p xs k v, o = .ref p ∧ i = .int k ∧ 0 ≤ k ∧ SqL X.K H p xs ∧ xs[k.toNat]? = some v ∧ Q v H) := by
  intro pins s σ H o i ov iv Q I ro ri h
  obtain ⟨p, xs, k, v, rfl, rfl, h0, hq, he, q⟩ := h
  cases ro
  obtain ⟨t, rfl⟩ := ri
  obtain ⟨its, r, pl, hz⟩ := I.list hq
  obtain ⟨u, eu, ru⟩ := r.get he
  have hl := (List.getElem?_eq_some_iff.mp he).1
  have hn := line63
  exact wpAny_getItem_list pl.isList h0 (by omega) (by simpa using eu) ⟨v, H, I, ru, q⟩
end
def b2 (b : Bool) : Int := if b = true then 1 else 0
def mil : Nat := 1000000
theorem mil_le {n : Nat} (h : n ≤ mil) : n ≤ sizeLine := by
  have : n ≤ 1000000 := h
  rw [sizeLine_eq]; omega
/-- the items of a list -/
def lsD : Vl → Sto → Option (List PyData)
  | .dat (.list ds), _ => some ds
  | .ref n, s => match s[n]? with
    | some (.lst l) => datas l
    | _ => none
  | _, _ => none
theorem lsD_at {G : Cf} {H : Hp} {β : Bs} {s : Sto} {v : Vl} {u : V} {ds : List PyData} (hs : RelS G β s H) (r : Rv G H β v u) (e : lsD v s = some ds) : ∃ a xs, u = .ref a ∧ H a = some (.lst xs) ∧ DqAll G.K H β xs ds := by
  unfold lsD at e
  split at e
  · cases e
    cases r with
    | lst h hz d => exact ⟨_, _, rfl, h.1, d⟩
  · obtain ⟨a, ha, rfl⟩ := r
    split at e
    · rename_i l hl
      obtain ⟨hz, xs, h1, h2⟩ := hs.ob _ _ a hl ha
      rw [datas_eq e] at h2
      exact ⟨a, xs, rfl, h1, Rvs.undats (Rvs.up h2)⟩
    · cases e
  · cases e
def phAdd : Vl → Vl → Sto → Option Vl
  | .dat (.int i), .dat (.int j), _ => some (.dat (.int (i + j)))
  | .dat (.bool b), .dat (.int j), _ => some (.dat (.int (b2 b + j)))
  | .dat (.str x), .dat (.str y), _ => if x.length + y.length ≤ mil then some (.dat (.str (x ++ y))) else none
  | .dat (.tuple x), .dat (.tuple y), _ => if x.length + y.length ≤ mil then some (.dat (.tuple (x ++ y))) else none
  | .dat (.list x), .dat (.list y), _ => if x.length + y.length ≤ mil then some (.dat (.list (x ++ y))) else none
  | .ref n, w, s => (lsD (.ref n) s).bind fun x => (lsD w s).bind fun y => if x.length + y.length ≤ mil then some (.dat (.list (x ++ y))) else none
  | v, .ref n, s => (lsD v s).bind fun x => (lsD (.ref n) s).bind fun y => if x.length + y.length ≤ mil then some (.dat (.list (x ++ y))) else none
  | _, _, _ => none
def phSub : Vl → Vl → Sto → Option Vl
  | .dat (.int i), .dat (.int j), _ => some (.dat (.int (i - j)))
  | .dat (.bool b), .dat (.int j), _ => some (.dat (.int (b2 b - j)))
  | _, _, _ => none
open Classical in
noncomputable def phMul : Vl → Vl → Sto → Option Vl
  | .dat (.int i), .dat (.int j), _ => if CMul i j ∨ CMulW i j then some (.dat (.int (i * j))) else none
  | .dat (.str z), .dat (.int n), _ => if MulOk z n ∧ (Txt.mul z n).length ≤ mil then some (.dat (.str (Txt.mul z n))) else none
  | _, _, _ => none
open Classical in
noncomputable def phDiv : Vl → Vl → Sto → Option Vl
  | .dat (.int i), .dat (.int j), _ => if 0 < j ∧ j < 1073741824 then some (.dat (.int (i / j))) else none
  | _, _, _ => none
def phMod : Vl → Vl → Sto → Option Vl
  | .dat (.int i), .dat (.int j), _ => if 0 < j then some (.dat (.int (i % j))) else none
  | _, _, _ => none
def phPow : Vl → Vl → Sto → Option Vl
  | .dat (.int i), .dat (.int j), _ => if 0 ≤ j ∧ j ≤ 1000000 ∧ i.natAbs < 2 ^ 64 then some (.dat (.int (i ^ j.toNat))) else none
  | _, _, _ => none
def phNeg : Vl → Sto → Option Vl
  | .dat (.int i), _ => some (.dat (.int (-i)))
  | .dat (.bool b), _ => some (.dat (.int (-(b2 b))))
  | _, _ => none
theorem str_cat_len (x y : Str) : (x ++ y).length = x.length + y.length := by
  show (x.cps ++ y.cps).size = _
  rw [Array.size_append]
  rfl
section
variable {X : Cx} {zx : Exo}
theorem mo_add : OpR X (binaryOp .Add) (r2 (cf X zx) phAdd) := by
  intro pins s σ H x y v u Q I rx ry h
  obtain ⟨β, st, a, b, z, hs, ra, rb, e, q⟩ := h
  unfold phAdd at e
  split at e
  · cases e; cases ra; cases rb
    exact op_add pins s σ H _ _ v u Q I rx ry ⟨_, _, rfl, rfl, q H _ (Same.refl H) (.int _)⟩
  · cases e; cases ra; cases rb
    exact op_addB pins s σ H _ _ v u Q I rx ry ⟨_, rfl, .inr ⟨_, rfl, q H _ (Same.refl H) (.int _)⟩⟩
  · split at e
    · rename_i hl
      cases e
      cases ra with
      | str hx =>
        cases rb with
        | str hy => exact op_add_str pins s σ H _ _ v u Q I rx ry ⟨_, _, rfl, rfl, mil_le hl, q H _ (Same.refl H) (.str (by rw [str_cat_len]; exact mil_le hl))⟩
    · cases e
  · split at e
    · rename_i hl
      cases e
      cases ra with
      | @tup a xs ds hx hz dx =>
        cases rb with
        | @tup b ys es hy hz2 dy =>
          have l1 := dx.len
          have l2 := dy.len
          refine op_catN pins s σ H _ _ v u Q I rx ry ⟨a, b, xs, ys, rfl, rfl, hx.sqt, hy.sqt, by rw [l1, l2]; exact mil_le hl, fun e => ?_, fun _ e => ?_, fun _ _ => ?_⟩
          · subst e
            cases dx
            exact q H _ (Same.refl H) (.tup hy hz2 dy)
          · subst e
            cases dy
            exact q H _ (Same.refl H) (by rw [List.append_nil]; exact .tup hx hz dx)
          · exact tup_new (by rw [List.length_append]; exact mil_le hl) (dx.append dy) q
    · cases e
  · split at e
    · rename_i hl
      cases e
      cases ra with
      | @lst a xs ds hx hz dx =>
        cases rb with
        | @lst b ys es hy hz2 dy =>
          have l1 := dx.len
          have l2 := dy.len
          refine op_cat pins s σ H _ _ v u Q I rx ry ⟨a, b, xs, ys, rfl, rfl, hx.1, hy.1, by rw [l1, l2]; exact mil_le hl, fun p hp => ?_⟩
          exact q _ _ (same_new hp) (.lst ⟨upd_same, hs.nin hp, hs.nig hp⟩ (by rw [List.length_append]; exact mil_le hl) ((Step.lay hp).dqs (dx.append dy)))
    · cases e
  · obtain ⟨d1, e1, e⟩ := Option.bind_eq_some_iff.mp e
    obtain ⟨d2, e2, e⟩ := Option.bind_eq_some_iff.mp e
    split at e
    · rename_i hl
      cases e
      obtain ⟨a, xs, rfl, h1, dx⟩ := lsD_at hs ra e1
      obtain ⟨b, ys, rfl, h2, dy⟩ := lsD_at hs rb e2
      refine op_cat pins s σ H _ _ v u Q I rx ry ⟨a, b, xs, ys, rfl, rfl, h1, h2, by rw [dx.len, dy.len]; exact mil_le hl, fun p hp => ?_⟩
      exact q _ _ (same_new hp) (.lst ⟨upd_same, hs.nin hp, hs.nig hp⟩ (by rw [List.length_append]; exact mil_le hl) ((Step.lay hp).dqs (dx.append dy)))
    · cases e
  · obtain ⟨d1, e1, e⟩ := Option.bind_eq_some_iff.mp e
    obtain ⟨d2, e2, e⟩ := Option.bind_eq_some_iff.mp e
    split at e
    · rename_i hl
      cases e
      obtain ⟨a, xs, rfl, h1, dx⟩ := lsD_at hs ra e1
      obtain ⟨b, ys, rfl, h2, dy⟩ := lsD_at hs rb e2
      refine op_cat pins s σ H _ _ v u Q I rx ry ⟨a, b, xs, ys, rfl, rfl, h1, h2, by rw [dx.len, dy.len]; exact mil_le hl, fun p hp => ?_⟩
      exact q _ _ (same_new hp) (.lst ⟨upd_same, hs.nin hp, hs.nig hp⟩ (by rw [List.length_append]; exact mil_le hl) ((Step.lay hp).dqs (dx.append dy)))
    · cases e
  · cases e
theorem op_mulS {X : Cx} : OpR X (binaryOp .Mult) (fun x y H Q => ∃ z n, x = .str z ∧ y = .int n ∧ MulOk z n ∧ Q (.str (Txt.mul z n)) H) := by
  intro pins s σ H x y v u Q I rx ry h
  obtain ⟨z, n, rfl, rfl, ok, q⟩ := h
  obtain ⟨t, rfl⟩ := rx
  obtain ⟨t', rfl⟩ := ry
  exact SB.mul ok fun t2 k => ⟨.str _, H, I.tok k, ⟨_, rfl⟩, q⟩
theorem mo_mul : OpR X (binaryOp .Mult) (r2 (cf X zx) phMul) := by
  intro pins s σ H x y v u Q I rx ry h
  obtain ⟨β, st, a, b, z, hs, ra, rb, e, q⟩ := h
  unfold phMul at e
  split at e
  · split at e
    · rename_i hc
      cases e; cases ra; cases rb
      rcases hc with hc | hc
      · exact op_mul pins s σ H _ _ v u Q I rx ry ⟨_, _, rfl, rfl, hc, q H _ (Same.refl H) (.int _)⟩
      · exact op_mulW pins s σ H _ _ v u Q I rx ry ⟨_, _, rfl, rfl, hc, q H _ (Same.refl H) (.int _)⟩
    · cases e
  · split at e
    · rename_i hc
      cases e; cases ra; cases rb
      exact op_mulS pins s σ H _ _ v u Q I rx ry ⟨_, _, rfl, rfl, hc.1, q H _ (Same.refl H) (.str (mil_le hc.2))⟩
    · cases e
  · cases e
theorem mo_div : OpR X (binaryOp .FloorDiv) (r2 (cf X zx) phDiv) := by
  intro pins s σ H x y v u Q I rx ry h
  obtain ⟨β, st, a, b, z, hs, ra, rb, e, q⟩ := h
  unfold phDiv at e
  split at e
  · split at e
    · rename_i hc
      cases e; cases ra; cases rb
      exact op_fdiv pins s σ H _ _ v u Q I rx ry ⟨_, _, rfl, rfl, hc, q H _ (Same.refl H) (.int _)⟩
    · cases e
  · cases e
theorem mo_mod : OpR X (binaryOp .Mod) (r2 (cf X zx) phMod) := by
  intro pins s σ H x y v u Q I rx ry h
  obtain ⟨β, st, a, b, z, hs, ra, rb, e, q⟩ := h
  unfold phMod at e
  split at e
  · split at e
    · rename_i hc
      cases e; cases ra; cases rb
      exact op_mod pins s σ H _ _ v u Q I rx ry ⟨_, _, rfl, rfl, hc, q H _ (Same.refl H) (.int _)⟩
    · cases e
  · cases e
theorem mo_pow : OpR X (binaryOp .Pow) (r2 (cf X zx) phPow) := by
  intro pins s σ H x y v u Q I rx ry h
  obtain ⟨β, st, a, b, z, hs, ra, rb, e, q⟩ := h
  unfold phPow at e
  split at e
  · split at e
    · rename_i hc
      cases e; cases ra; cases rb
      exact op_pow pins s σ H _ _ v u Q I rx ry ⟨_, _, rfl, rfl, hc, q H _ (Same.refl H) (.int _)⟩
    · cases e
  · cases e
theorem mu_neg : UnR X (unaryOp .USub) (r1 (cf X zx) phNeg) := by
  intro pins s σ H x v Q I rx h
  obtain ⟨β, st, a, z, hs, ra, e, q⟩ := h
  unfold phNeg at e
  split at e
  · cases e; cases ra
    exact un_negB pins s σ H _ v Q I rx (.inl ⟨_, rfl, q H _ (Same.refl H) (.int _)⟩)
  · cases e; cases ra
    exact un_negB pins s σ H _ v Q I rx (.inr ⟨_, rfl, q H _ (Same.refl H) (.int _)⟩)
  · cases e
end
/-- data, or a list of the store whose items are data -/
def datL : Vl → Sto → Option PyData
  | .dat p, _ => some p
  | .ref n, s => match s[n]? with
    | some (.lst l) => (datas l).map .list
    | _ => none
  | _, _ => none
theorem datL_at {G : Cf} {H : Hp} {β : Bs} {s : Sto} {v : Vl} {u : V} {d : PyData} (hs : RelS G β s H) (r : Rv G H β v u) (e : datL v s = some d) (hd : d.hasDict = false) : Dp G.K H u d := by
  unfold datL at e
  split at e
  · cases e; exact Dq.dp hd r
  · obtain ⟨a, ha, rfl⟩ := r
    split at e
    · rename_i l hl
      obtain ⟨ds, ed, rfl⟩ := Option.map_eq_some_iff.mp e
      obtain ⟨hz, xs, h1, h2⟩ := hs.ob _ _ a hl ha
      rw [datas_eq ed] at h2
      exact .lst (SqL.of h1) (DqAll.dp (by simpa [PyData.hasDict] using hd) (Rvs.undats (Rvs.up h2)))
    · cases e
  · cases e
def phEq : Vl → Vl → Sto → Option Vl
  | .dat (.str x), .dat (.str y), _ => some (.dat (.bool (decide (x = y))))
  | .dat a, .dat b, _ => if SeqAt.shaped a = true ∧ SeqAt.shaped b = true then some (.dat (.bool (PyData.eqv a b))) else none
  | v, w, s => (datL v s).bind fun a => (datL w s).bind fun b => if SeqAt.shaped a = true ∧ SeqAt.shaped b = true then some (.dat (.bool (PyData.eqv a b))) else none
def phNe : Vl → Vl → Sto → Option Vl
  | .dat (.str x), .dat (.str y), _ => some (.dat (.bool (!decide (x = y))))
  | .dat a, .dat b, _ => if SeqAt.shaped a = true ∧ SeqAt.shaped b = true then some (.dat (.bool (!PyData.eqv a b))) else none
  | v, w, s => (datL v s).bind fun a => (datL w s).bind fun b => if SeqAt.shaped a = true ∧ SeqAt.shaped b = true then some (.dat (.bool (!PyData.eqv a b))) else none
def phCmp (p : Int → Int → Bool) (t : List Nat → List Nat → Bool) : Vl → Vl → Sto → Option Vl
  | .dat (.int i), .dat (.int j), _ => some (.dat (.bool (p i j)))
  | .dat (.str x), .dat (.str y), _ => some (.dat (.bool (t x.cps.toList y.cps.toList)))
  | _, _, _ => none
def phLt := phCmp (fun i j => decide (i < j)) (fun x y => decide (x < y))
def phLe := phCmp (fun i j => decide (i ≤ j)) (fun x y => !decide (y < x))
def phGt := phCmp (fun i j => decide (j < i)) (fun x y => decide (y < x))
def phGe := phCmp (fun i j => decide (j ≤ i)) (fun x y => !decide (x < y))
/-- is None, is True -/
def isD : PyData → PyData → Option Bool
  | .none, .none => some true
  | .bool _, .none => some false
  | .int _, .none => some false
  | .str _, .none => some false
  | .list _, .none => some false
  | .tuple _, .none => some false
  | .bool a, .bool b => some (decide (a = b))
  | .int _, .bool _ => some false
  | _, _ => none
def phIs : Vl → Vl → Sto → Option Vl
  | .dat a, .dat b, _ => (isD a b).map fun k => .dat (.bool k)
  | .ref _, .dat .none, _ => some (.dat (.bool false))
  | _, _, _ => none
def phIsNot : Vl → Vl → Sto → Option Vl
  | .dat a, .dat b, _ => (isD a b).map fun k => .dat (.bool (!k))
  | .ref _, .dat .none, _ => some (.dat (.bool true))
  | _, _, _ => none
section
variable {X : Cx} {zx : Exo}
theorem mo_eq (hu : X.A.units + 64 < cLine) : OpR X (compareOp .Eq) (r2 (cf X zx) phEq) := by
  intro pins s σ H x y v u Q I rx ry h
  obtain ⟨β, st, a, b, z, hs, ra, rb, e, q⟩ := h
  unfold phEq at e
  split at e
  · rename_i x1 x2
    cases e; cases ra; cases rb
    exact op_eq pins s σ H _ _ v u Q I rx ry ⟨rfl, by
      have ed : decide (V.str x1 = V.str x2) = decide (x1 = x2) := by simp
      rw [ed]
      exact q H _ (Same.refl H) (.bl _)⟩
  · split at e
    · rename_i hc
      cases e
      exact op_eqD hu pins s σ H _ _ v u Q I rx ry ⟨_, _, Dq.dp (noDict_sh hc.1) ra, Dq.dp (noDict_sh hc.2) rb, hc.1, hc.2, q H _ (Same.refl H) (.bl _)⟩
    · cases e
  · obtain ⟨d1, e1, e⟩ := Option.bind_eq_some_iff.mp e
    obtain ⟨d2, e2, e⟩ := Option.bind_eq_some_iff.mp e
    split at e
    · rename_i hc
      cases e
      exact op_eqD hu pins s σ H _ _ v u Q I rx ry ⟨_, _, datL_at hs ra e1 (noDict_sh hc.1), datL_at hs rb e2 (noDict_sh hc.2), hc.1, hc.2, q H _ (Same.refl H) (.bl _)⟩
    · cases e
theorem mo_ne (hu : X.A.units + 64 < cLine) : OpR X (compareOp .NotEq) (r2 (cf X zx) phNe) := by
  intro pins s σ H x y v u Q I rx ry h
  obtain ⟨β, st, a, b, z, hs, ra, rb, e, q⟩ := h
  unfold phNe at e
  split at e
  · rename_i x1 x2
    cases e; cases ra; cases rb
    exact op_ne pins s σ H _ _ v u Q I rx ry ⟨rfl, by
      have ed : decide (V.str x1 = V.str x2) = decide (x1 = x2) := by simp
      rw [ed]
      exact q H _ (Same.refl H) (.bl _)⟩
  · split at e
    · rename_i hc
      cases e
      exact op_neD hu pins s σ H _ _ v u Q I rx ry ⟨_, _, Dq.dp (noDict_sh hc.1) ra, Dq.dp (noDict_sh hc.2) rb, hc.1, hc.2, q H _ (Same.refl H) (.bl _)⟩
    · cases e
  · obtain ⟨d1, e1, e⟩ := Option.bind_eq_some_iff.mp e
    obtain ⟨d2, e2, e⟩ := Option.bind_eq_some_iff.mp e
    split at e
    · rename_i hc
      cases e
      exact op_neD hu pins s σ H _ _ v u Q I rx ry ⟨_, _, datL_at hs ra e1 (noDict_sh hc.1), datL_at hs rb e2 (noDict_sh hc.2), hc.1, hc.2, q H _ (Same.refl H) (.bl _)⟩
    · cases e
theorem mo_lt : OpR X (compareOp .Lt) (r2 (cf X zx) phLt) := by
  intro pins s σ H x y v u Q I rx ry h
  obtain ⟨β, st, a, b, z, hs, ra, rb, e, q⟩ := h
  unfold phLt phCmp at e
  split at e
  · cases e; cases ra; cases rb
    exact op_lt pins s σ H _ _ v u Q I rx ry ⟨_, _, rfl, rfl, q H _ (Same.refl H) (.bl _)⟩
  · cases e; cases ra; cases rb
    exact op_lt_str pins s σ H _ _ v u Q I rx ry ⟨_, _, rfl, rfl, q H _ (Same.refl H) (.bl _)⟩
  · cases e
theorem mo_le : OpR X (compareOp .LtE) (r2 (cf X zx) phLe) := by
  intro pins s σ H x y v u Q I rx ry h
  obtain ⟨β, st, a, b, z, hs, ra, rb, e, q⟩ := h
  unfold phLe phCmp at e
  split at e
  · cases e; cases ra; cases rb
    exact op_le pins s σ H _ _ v u Q I rx ry ⟨_, _, rfl, rfl, q H _ (Same.refl H) (.bl _)⟩
  · cases e; cases ra; cases rb
    exact op_le_str pins s σ H _ _ v u Q I rx ry ⟨_, _, rfl, rfl, q H _ (Same.refl H) (.bl _)⟩
  · cases e
theorem mo_gt : OpR X (compareOp .Gt) (r2 (cf X zx) phGt) := by
  intro pins s σ H x y v u Q I rx ry h
  obtain ⟨β, st, a, b, z, hs, ra, rb, e, q⟩ := h
  unfold phGt phCmp at e
  split at e
  · cases e; cases ra; cases rb
    exact op_gt pins s σ H _ _ v u Q I rx ry ⟨_, _, rfl, rfl, q H _ (Same.refl H) (.bl _)⟩
  · cases e; cases ra; cases rb
    exact op_gt_str pins s σ H _ _ v u Q I rx ry ⟨_, _, rfl, rfl, q H _ (Same.refl H) (.bl _)⟩
  · cases e
theorem mo_ge : OpR X (compareOp .GtE) (r2 (cf X zx) phGe) := by
  intro pins s σ H x y v u Q I rx ry h
  obtain ⟨β, st, a, b, z, hs, ra, rb, e, q⟩ := h
  unfold phGe phCmp at e
  split at e
  · cases e; cases ra; cases rb
    exact op_ge pins s σ H _ _ v u Q I rx ry ⟨_, _, rfl, rfl, q H _ (Same.refl H) (.bl _)⟩
  · cases e; cases ra; cases rb
    exact op_ge_str pins s σ H _ _ v u Q I rx ry ⟨_, _, rfl, rfl, q H _ (Same.refl H) (.bl _)⟩
  · cases e
end
end Pm
set_option maxRecDepth 100000
set_option maxHeartbeats 4000000
namespace Pm
open PySem PySem.Spec PyProof.Rows L2 Sw
def keyQ : PyData → Option Key
  | .int i => some (.inl i)
  | .str x => some (.inr x)
  | _ => none
def keyQs : List PyData → Option (List Key)
  | [] => some []
  | d :: r => (keyQ d).bind fun k => (keyQs r).map (k :: ·)
def keysQ : PyData → Option (List Key)
  | .tuple ds => if (isCst ds || isO ds) = true then none else keyQs ds
  | _ => none
@[simp] theorem keyQ_D : ∀ k : Key, keyQ (keyD k) = some k
  | .inl _ => rfl
  | .inr _ => rfl
theorem keysQ_t {ds : List PyData} {ks : List Key} (h : keysQ (.tuple ds) = some ks) : isCst ds = false ∧ isO ds = false ∧ keyQs ds = some ks := by
  have h : (if (isCst ds || isO ds) = true then none else keyQs ds) = some ks := h
  split at h
  · cases h
  · rename_i e
    have e : isCst ds = false ∧ isO ds = false := by simpa using e
    exact ⟨e.1, e.2, h⟩
theorem keyQ_eq {d : PyData} {k : Key} (h : keyQ d = some k) : d = keyD k := by
  unfold keyQ at h
  split at h <;> cases h <;> rfl
theorem keyQs_eq : ∀ {ds : List PyData} {ks : List Key}, keyQs ds = some ks → ds = ks.map keyD
  | [], ks, h => by cases h; rfl
  | d :: ds, ks, h => by
    unfold keyQs at h
    cases e1 : keyQ d with
    | none => rw [e1] at h; cases h
    | some k =>
      rw [e1] at h
      cases e2 : keyQs ds with
      | none => rw [e2] at h; cases h
      | some l =>
        rw [e2] at h
        cases h
        rw [keyQ_eq e1, keyQs_eq e2]
        rfl
theorem keysQ_eq {d : PyData} {ks : List Key} (h : keysQ d = some ks) : d = keysD ks := by
  cases d with
  | tuple ds => exact congrArg PyData.tuple (keyQs_eq (keysQ_t h).2.2)
  | _ => cases h
/-- whether two keys are the same -/
def kA : PyData → PyData → Bool
  | .int i, .int j => decide (i = j)
  | .str x, .str y => decide (x = y)
  | _, _ => false
def kAs : List PyData → List PyData → Bool
  | [], [] => true
  | x :: xs, y :: ys => kA x y && kAs xs ys
  | _, _ => false
def kEq : PyData → PyData → Bool
  | .tuple xs, .tuple ys => kAs xs ys
  | a, b => kA a b
@[simp] theorem kEq_i {i j : Int} : kEq (.int i) (.int j) = decide (i = j) := rfl
@[simp] theorem kEq_s {x y : Str} : kEq (.str x) (.str y) = decide (x = y) := rfl
@[simp] theorem kEq_t {x y : List PyData} : kEq (.tuple x) (.tuple y) = kAs x y := rfl
@[simp] theorem kA_i {i j : Int} : kA (.int i) (.int j) = decide (i = j) := rfl
@[simp] theorem kA_s {x y : Str} : kA (.str x) (.str y) = decide (x = y) := rfl
@[simp] theorem kA_is {i : Int} {y : Str} : kA (.int i) (.str y) = false := rfl
@[simp] theorem kA_si {i : Int} {y : Str} : kA (.str y) (.int i) = false := rfl
@[simp] theorem kAs_nil : kAs [] [] = true := rfl
@[simp] theorem kAs_cons {x y : PyData} {xs ys : List PyData} : kAs (x :: xs) (y :: ys) = (kA x y && kAs xs ys) := rfl
@[simp] theorem kAs_nc {y : PyData} {ys : List PyData} : kAs [] (y :: ys) = false := rfl
@[simp] theorem kAs_cn {y : PyData} {ys : List PyData} : kAs (y :: ys) [] = false := rfl
theorem kA_D : ∀ a b : Key, kA (keyD a) (keyD b) = decide (a = b)
  | .inl i, .inl j => by show decide (i = j) = _; simp
  | .inr i, .inr j => by show decide (i = j) = _; simp
  | .inl i, .inr j => by show false = _; simp
  | .inr i, .inl j => by show false = _; simp
theorem kEq_D (a b : Key) : kEq (keyD a) (keyD b) = decide (a = b) := by
  rw [← kA_D]
  cases a <;> cases b <;> rfl
theorem kAs_D : ∀ a b : List Key, kAs (a.map keyD) (b.map keyD) = decide (a = b)
  | [], [] => by simp
  | [], _ :: _ => by simp
  | _ :: _, [] => by simp
  | x :: xs, y :: ys => by
    rw [List.map_cons, List.map_cons, kAs_cons, kA_D, kAs_D, Bool.eq_iff_iff]
    simp
theorem kEq_Ds (a b : List Key) : kEq (keysD a) (keysD b) = decide (a = b) := kAs_D a b
section
variable {α : Type}
def dLook (kvs : List (PyData × α)) (d : PyData) : Option α := (kvs.find? fun p => kEq p.1 d).map (·.2)
def dHas (kvs : List (PyData × α)) (d : PyData) : Bool := kvs.any fun p => kEq p.1 d
def dPut (kvs : List (PyData × α)) (d : PyData) (v : α) : List (PyData × α) := if dHas kvs d = true then kvs.map (fun p => if kEq p.1 d = true then (p.1, v) else p) else kvs ++ [(d, v)]
def dDrop (kvs : List (PyData × α)) (d : PyData) : List (PyData × α) := kvs.filter fun p => !kEq p.1 d
@[simp] theorem dLook_nil {d : PyData} : dLook ([] : List (PyData × α)) d = none := rfl
theorem dLook_cons {p : PyData × α} {r : List (PyData × α)} {d : PyData} : dLook (p :: r) d = if kEq p.1 d = true then some p.2 else dLook r d := by
  unfold dLook
  rw [List.find?_cons]
  cases kEq p.1 d <;> simp
theorem dHas_look {d : PyData} : ∀ kvs : List (PyData × α), dHas kvs d = (dLook kvs d).isSome
  | [] => rfl
  | p :: r => by
    rw [dLook_cons]
    show (kEq p.1 d || dHas r d) = _
    rw [dHas_look r]
    cases kEq p.1 d <;> simp
end
/-- entries that stand for others, key by key -/
abbrev KvR {κ α : Type} (f : κ → PyData) (R : α → V → Prop) : List (PyData × α) → List (κ × V) → Prop := Paired fun p q => p.1 = f q.1 ∧ R p.2 q.2
theorem DqKv.kv {K : PySem.W.Frag} {H : Hp} {β : Bs} : ∀ {κ : Type} {f : κ → PyData} {ks : List (κ × V)} {kvs : List (PyData × PyData)}, DqKv K H β κ f ks kvs → KvR f (fun d v => Dq K H β v d) kvs ks
  | _, _, _, _, .nil => .nil
  | _, _, _, _, .cons h r => .cons ⟨rfl, h⟩ (DqKv.kv r)
theorem DqKv.of {K : PySem.W.Frag} {H : Hp} {β : Bs} {κ : Type} {f : κ → PyData} : ∀ {ks : List (κ × V)} {kvs : List (PyData × PyData)}, KvR f (fun d v => Dq K H β v d) kvs ks → DqKv K H β κ f ks kvs
  | _, _, .nil => .nil
  | (_, _) :: _, (_, _) :: _, .cons ⟨h1, h2⟩ r => by
    cases h1
    exact .cons h2 (DqKv.of r)
section
variable {κ : Type} [DecidableEq κ] {α : Type} {f : κ → PyData} {R : α → V → Prop}
theorem KvR.look (hf : ∀ a b, kEq (f a) (f b) = decide (a = b)) {k : κ} : ∀ {kvs : List (PyData × α)} {ks : List (κ × V)}, KvR f R kvs ks → (dLook kvs (f k) = none ∧ valV ks k = none) ∨ ∃ a v, dLook kvs (f k) = some a ∧ valV ks k = some v ∧ R a v
  | _, _, .nil => .inl ⟨rfl, rfl⟩
  | p :: ps, q :: qs, .cons ⟨h1, h2⟩ r => by
    rw [dLook_cons, h1, hf]
    by_cases e : q.1 = k
    · rw [valV_pos e, if_pos (decide_eq_true e)]
      exact .inr ⟨_, _, rfl, rfl, h2⟩
    · rw [valV_neg e, if_neg (by simpa using e)]
      exact KvR.look hf r
theorem KvR.has (hf : ∀ a b, kEq (f a) (f b) = decide (a = b)) {k : κ} {kvs : List (PyData × α)} {ks : List (κ × V)} (r : KvR f R kvs ks) : (valV ks k).isSome = dHas kvs (f k) := by
  rw [dHas_look]
  rcases r.look hf (k := k) with ⟨h1, h2⟩ | ⟨a, v, h1, h2, _⟩ <;> rw [h1, h2] <;> rfl
theorem KvR.map_put (hf : ∀ a b, kEq (f a) (f b) = decide (a = b)) {k : κ} {a : α} {v : V} (hr : R a v) : ∀ {kvs : List (PyData × α)} {ks : List (κ × V)}, KvR f R kvs ks → KvR f R (kvs.map fun p => if kEq p.1 (f k) = true then (p.1, a) else p) (ks.map fun q => if q.1 = k then (q.1, v) else q)
  | _, _, .nil => .nil
  | p :: ps, q :: qs, .cons ⟨h1, h2⟩ r => by
    rw [List.map_cons, List.map_cons]
    refine .cons ?_ (KvR.map_put hf hr r)
    rw [h1, hf]
    by_cases e : q.1 = k
    · rw [if_pos (decide_eq_true e), if_pos e]
      exact ⟨rfl, hr⟩
    · rw [if_neg (by simpa using e), if_neg e]
      exact ⟨h1, h2⟩
theorem KvR.put (hf : ∀ a b, kEq (f a) (f b) = decide (a = b)) {k : κ} {a : α} {v : V} (hr : R a v) {kvs : List (PyData × α)} {ks : List (κ × V)} (r : KvR f R kvs ks) : KvR f R (dPut kvs (f k) a) (putK ks k v) := by
  unfold dPut putK
  rw [valV_any, r.has hf]
  by_cases h : dHas kvs (f k) = true
  · rw [if_pos h, if_pos h]
    exact r.map_put hf hr
  · rw [if_neg h, if_neg h]
    exact Paired.snoc r ⟨rfl, hr⟩
theorem KvR.drop (hf : ∀ a b, kEq (f a) (f b) = decide (a = b)) {k : κ} : ∀ {kvs : List (PyData × α)} {ks : List (κ × V)}, KvR f R kvs ks → KvR f R (dDrop kvs (f k)) (dropK ks k)
  | _, _, .nil => .nil
  | p :: ps, q :: qs, .cons ⟨h1, h2⟩ r => by
    have ih := KvR.drop hf (k := k) r
    unfold dDrop dropK at ih ⊢
    rw [List.filter_cons, List.filter_cons, h1, hf]
    by_cases e : q.1 = k
    · rw [if_neg (by simp [e]), if_neg (by simp [e])]
      exact ih
    · rw [if_pos (by simp [e]), if_pos (by simp [e])]
      exact .cons ⟨h1, h2⟩ ih
end
/-- the entries of a dict: whether its keys are tuples, key by value -/
def dOf : Vl → Sto → Option (Bool × List (PyData × Vl))
  | .dat (.dict ((.none, .none) :: l)), _ => some (true, l.map fun p => (p.1, .dat p.2))
  | .dat (.dict l), _ => some (false, l.map fun p => (p.1, .dat p.2))
  | .ref n, s => match s[n]? with
    | some (.dic t l) => some (t, l)
    | _ => none
  | _, _ => none
/-- whether a key is one of that dict's kind -/
def kOk (t : Bool) (d : PyData) : Bool := if t = true then (keysQ d).isSome else (keyQ d).isSome
@[simp] theorem kOk_i {i : Int} : kOk false (.int i) = true := rfl
@[simp] theorem kOk_s {i : Str} : kOk false (.str i) = true := rfl
/-- a dict and its entries -/
inductive DAt (G : Cf) (H : Hp) (β : Bs) : Addr → Bool → List (PyData × Vl) → Prop
  | k {a : Addr} {ks : List (Key × V)} {kvs : List (PyData × Vl)} : H a = some (.dK ks) → KvR keyD (Rv G H β) kvs ks → DAt G H β a false kvs
  | t {a : Addr} {ks : List (List Key × V)} {kvs : List (PyData × Vl)} : H a = some (.dT ks) → KvR keysD (Rv G H β) kvs ks → DAt G H β a true kvs
theorem KvR.dats {G : Cf} {H : Hp} {β : Bs} {κ : Type} {f : κ → PyData} : ∀ {kvs : List (PyData × PyData)} {ks : List (κ × V)}, KvR f (fun d v => Dq G.K H β v d) kvs ks → KvR f (Rv G H β) (kvs.map fun p => (p.1, Vl.dat p.2)) ks
  | _, _, .nil => .nil
  | _, _, .cons h r => .cons h (KvR.dats r)
theorem dOf_at {G : Cf} {H : Hp} {β : Bs} {s : Sto} {v : Vl} {u : V} {t : Bool} {kvs : List (PyData × Vl)} (hs : RelS G β s H) (r : Rv G H β v u) (e : dOf v s = some (t, kvs)) : ∃ a, u = .ref a ∧ DAt G H β a t kvs := by
  unfold dOf at e
  split at e
  · cases e
    cases r with
    | dic h d => exact absurd d.notT (by simp [isT])
    | dit h d => exact ⟨_, rfl, .t h.1 (d.kv.dats)⟩
  · rename_i l hl
    cases e
    cases r with
    | dic h d => exact ⟨_, rfl, .k h.1 (d.kv.dats)⟩
    | dit h d => exact absurd rfl (hl _)
  · obtain ⟨a, ha, rfl⟩ := r
    split at e
    · rename_i t l hl
      cases e
      have ro := hs.ob _ _ a hl ha
      cases t with
      | false =>
        obtain ⟨ks, h1, h2⟩ := ro
        exact ⟨a, rfl, .k h1 (Paired.mapP h2 fun p q z => ⟨z.1, Rv.up z.2⟩)⟩
      | true =>
        obtain ⟨ks, h1, h2⟩ := ro
        exact ⟨a, rfl, .t h1 (Paired.mapP h2 fun p q z => ⟨z.1, Rv.up z.2⟩)⟩
    · cases e
  · cases e
theorem key_V {K : PySem.W.Frag} {H : Hp} {β : Bs} {y : V} {d : PyData} {k : Key} (r : Dq K H β y d) (e : keyQ d = some k) : y = kV k := by
  have := keyQ_eq e
  subst this
  cases k <;> cases r <;> rfl
theorem keys_V {K : PySem.W.Frag} {H : Hp} {β : Bs} : ∀ {ys : List V} {ds : List PyData} {ks : List Key}, DqAll K H β ys ds → keyQs ds = some ks → ys = ks.map kV
  | _, _, _, .nil, e => by cases e; rfl
  | _, d :: ds, ks, .cons h t, e => by
    unfold keyQs at e
    cases e1 : keyQ d with
    | none => rw [e1] at e; cases e
    | some k =>
      rw [e1] at e
      cases e2 : keyQs ds with
      | none => rw [e2] at e; cases e
      | some l =>
        rw [e2] at e
        cases e
        rw [key_V h e1, keys_V t e2]
        rfl
theorem keyT_V {K : PySem.W.Frag} {H : Hp} {β : Bs} {y : V} {d : PyData} {ks : List Key} (r : Dq K H β y d) (e : keysQ d = some ks) : ∃ b, y = .ref b ∧ H b = some (.tup (ks.map kV)) := by
  cases d with
  | tuple ds =>
    cases r with
    | tup h _ q =>
      obtain ⟨e0, eO, e⟩ := keysQ_t e
      have := keys_V q e
      subst this
      exact ⟨_, rfl, h.tup eO e0⟩
  | _ => cases e
/-- what the dict tells of a key -/
theorem DAt.get {G : Cf} {H : Hp} {β : Bs} {a : Addr} {t : Bool} {kvs : List (PyData × Vl)} {y : V} {d : PyData} (h : DAt G H β a t kvs) (r : Dq G.K H β y d) (hk : kOk t d = true) :
    ∃ o, DGet H a y o ∧ ((dLook kvs d = none ∧ o = none) ∨ ∃ z v, dLook kvs d = some z ∧ o = some v ∧ Rv G H β z v) := by
  cases h with
  | k e kv =>
    obtain ⟨k, ek⟩ := Option.isSome_iff_exists.mp (show (keyQ d).isSome = true from hk)
    have := keyQ_eq ek
    have ey := key_V r ek
    subst this ey
    refine ⟨_, DGet.k e, ?_⟩
    rcases kv.look kEq_D (k := k) with h | ⟨z, v, h1, h2, h3⟩
    · exact .inl h
    · exact .inr ⟨z, v, h1, h2, h3⟩
  | t e kv =>
    obtain ⟨k, ek⟩ := Option.isSome_iff_exists.mp (show (keysQ d).isSome = true from hk)
    obtain ⟨b, rfl, eb⟩ := keyT_V r ek
    have := keysQ_eq ek
    subst this
    refine ⟨_, DGet.t e eb, ?_⟩
    rcases kv.look kEq_Ds (k := k) with h | ⟨z, v, h1, h2, h3⟩
    · exact .inl h
    · exact .inr ⟨z, v, h1, h2, h3⟩
end Pm
set_option maxRecDepth 100000
set_option maxHeartbeats 4000000
namespace Pm
open PySem PySem.Spec PyProof.Rows L2 Sw
section
variable {X : Cx} {zx : Exo}
theorem mo_is : OpR X (compareOp .Is) (r2 (cf X zx) phIs) := by
  intro pins s σ H x y v u Q I rx ry h
  obtain ⟨β, st, a, b, z, hs, ra, rb, e, q⟩ := h
  have non : ∀ k : Bool, decide (x = V.non) = k → y = .non → (.dat (.bool k)) = z → wpAny (model X.prog X.w) X.A (compareOp .Is v u) (EP X pins σ Q) X.xe s := fun k h1 h2 h3 => by
    subst h3
    exact op_isN pins s σ H _ _ v u Q I rx ry ⟨h2, by rw [h1]; exact q H _ (Same.refl H) (.bl _)⟩
  unfold phIs at e
  split at e
  · rename_i d1 d2
    cases ei : isD d1 d2 with
    | none => rw [ei] at e; cases e
    | some k =>
      rw [ei] at e
      have e : (.dat (.bool k) : Vl) = z := by simpa using e
      unfold isD at ei
      split at ei
      · cases ei; cases ra; cases rb; exact non _ (by simp) rfl e
      · cases ei; cases ra; cases rb; exact non _ (by simp) rfl e
      · cases ei; cases ra; cases rb; exact non _ (by simp) rfl e
      · cases ei; cases ra; cases rb; exact non _ (by simp) rfl e
      · cases ei; cases ra; cases rb; exact non _ (by simp) rfl e
      · cases ei; cases ra; cases rb; exact non _ (by simp) rfl e
      · cases ei; cases ra; cases rb
        subst e
        exact op_isBl pins s σ H _ _ v u Q I rx ry ⟨_, _, rfl, rfl, q H _ (Same.refl H) (.bl _)⟩
      · cases ei; cases ra; cases rb
        subst e
        obtain ⟨t, rfl⟩ := rx
        rename_i i b
        cases (show u = Value.bool b from ry)
        exact wpAny_is_other rfl (fun z => by cases z) ⟨.bl false, H, I, rfl, q H _ (Same.refl H) (.bl _)⟩
      · cases ei
  · cases e
    obtain ⟨a, ha, rfl⟩ := ra
    cases rb
    exact non false (by simp) rfl rfl
  · cases e
theorem mo_isNot : OpR X (compareOp .IsNot) (r2 (cf X zx) phIsNot) := by
  intro pins s σ H x y v u Q I rx ry h
  obtain ⟨β, st, a, b, z, hs, ra, rb, e, q⟩ := h
  have non : ∀ k : Bool, decide (x = V.non) = k → y = .non → (.dat (.bool !k)) = z → wpAny (model X.prog X.w) X.A (compareOp .IsNot v u) (EP X pins σ Q) X.xe s := fun k h1 h2 h3 => by
    subst h3
    exact op_notN pins s σ H _ _ v u Q I rx ry ⟨h2, by rw [h1]; exact q H _ (Same.refl H) (.bl _)⟩
  unfold phIsNot at e
  split at e
  · rename_i d1 d2
    cases ei : isD d1 d2 with
    | none => rw [ei] at e; cases e
    | some k =>
      rw [ei] at e
      have e : (.dat (.bool !k) : Vl) = z := by simpa using e
      unfold isD at ei
      split at ei
      · cases ei; cases ra; cases rb; exact non _ (by simp) rfl e
      · cases ei; cases ra; cases rb; exact non _ (by simp) rfl e
      · cases ei; cases ra; cases rb; exact non _ (by simp) rfl e
      · cases ei; cases ra; cases rb; exact non _ (by simp) rfl e
      · cases ei; cases ra; cases rb; exact non _ (by simp) rfl e
      · cases ei; cases ra; cases rb; exact non _ (by simp) rfl e
      · cases ei; cases ra; cases rb
        subst e
        exact op_notB2 pins s σ H _ _ v u Q I rx ry ⟨_, rfl, .inr ⟨_, rfl, q H _ (Same.refl H) (.bl _)⟩⟩
      · cases ei; cases ra; cases rb
        subst e
        exact op_notB2 pins s σ H _ _ v u Q I rx ry ⟨_, rfl, .inl ⟨_, rfl, q H _ (Same.refl H) (.bl _)⟩⟩
      · cases ei
  · cases e
    obtain ⟨a, ha, rfl⟩ := ra
    cases rb
    exact non false (by simp) rfl rfl
  · cases e
end
def fV : PyData → Option V
  | .none => some .non
  | .bool b => some (.bl b)
  | .int i => some (.int i)
  | .str x => some (.str x)
  | _ => none
def fVs : List PyData → Option (List V)
  | [] => some []
  | d :: r => (fV d).bind fun v => (fVs r).map (v :: ·)
theorem fV_eq {K : PySem.W.Frag} {H : Hp} {β : Bs} {u : V} {d : PyData} {v : V} (r : Dq K H β u d) (e : fV d = some v) : u = v ∧ flatV v = true := by
  cases r <;> first | (cases e; exact ⟨rfl, rfl⟩) | cases e
theorem fVs_eq {K : PySem.W.Frag} {H : Hp} {β : Bs} : ∀ {us : List V} {ds : List PyData} {vs : List V}, DqAll K H β us ds → fVs ds = some vs → us = vs ∧ vs.all flatV = true
  | _, _, _, .nil, e => by cases e; exact ⟨rfl, rfl⟩
  | _, d :: ds, vs, .cons h t, e => by
    unfold fVs at e
    cases e1 : fV d with
    | none => rw [e1] at e; cases e
    | some v =>
      rw [e1] at e
      cases e2 : fVs ds with
      | none => rw [e2] at e; cases e
      | some l =>
        rw [e2] at e
        cases e
        obtain ⟨rfl, h1⟩ := fV_eq h e1
        obtain ⟨rfl, h2⟩ := fVs_eq t e2
        exact ⟨rfl, by rw [List.all_cons, h1, h2]; rfl⟩
/-- the items of a tuple, a list -/
def seqD : Vl → Sto → Option (List PyData)
  | .dat (.tuple ds), _ => some ds
  | .dat (.list ds), _ => some ds
  | .ref n, s => match s[n]? with
    | some (.lst l) => datas l
    | _ => none
  | _, _ => none
theorem seqD_at {G : Cf} {H : Hp} {β : Bs} {s : Sto} {v : Vl} {u : V} {ds : List PyData} (hs : RelS G β s H) (r : Rv G H β v u) (e : seqD v s = some ds) : ∃ a xs, u = .ref a ∧ (SqL G.K H a xs ∨ TupA G.K H a ds xs) ∧ DqAll G.K H β xs ds ∧ ds.length ≤ sizeLine := by
  unfold seqD at e
  split at e
  · cases e
    cases r with
    | tup h hz d => exact ⟨_, _, rfl, .inr h, d, hz⟩
  · cases e
    cases r with
    | lst h hz d => exact ⟨_, _, rfl, .inl h.sq, d, hz⟩
  · obtain ⟨a, ha, rfl⟩ := r
    split at e
    · rename_i l hl
      obtain ⟨hz, xs, h1, h2⟩ := hs.ob _ _ a hl ha
      rw [datas_eq e] at h2 hz
      exact ⟨a, xs, rfl, .inl (SqL.of h1), Rvs.undats (Rvs.up h2), by simpa using hz⟩
    · cases e
  · cases e
def phIn (neg : Bool) : Vl → Vl → Sto → Option Vl
  | .dat x, c, s => match dOf c s with
    | some (t, kvs) => if kOk t x = true then some (.dat (.bool (if neg = true then !dHas kvs x else dHas kvs x))) else none
    | none => (fV x).bind fun vx => (seqD c s).bind fun ds => (fVs ds).map fun vs => .dat (.bool (if neg = true then !inV vx vs else inV vx vs))
  | _, _, _ => none
section
variable {X : Cx} {zx : Exo}
theorem in_key {neg : Bool} {H : Hp} {x y : V} {Q : VK} (h : r2 (cf X zx) (phIn neg) x y H Q) : rIn X.K neg x y H Q ∨ ∃ a o, y = .ref a ∧ DGet H a x o ∧ Q (.bl (if neg = true then !o.isSome else o.isSome)) H := by
  obtain ⟨β, st, a, b, z, hs, ra, rb, e, q⟩ := h
  cases a with
  | ref n => cases e
  | scr n => cases e
  | exo _ _ => cases e
  | fn _ => cases e
  | lam _ _ _ _ _ => cases e
  | dat x =>
    have e : (match dOf b st with
      | some (t, kvs) => if kOk t x = true then some (Vl.dat (.bool (if neg = true then !dHas kvs x else dHas kvs x))) else none
      | none => (fV x).bind fun vx => (seqD b st).bind fun ds => (fVs ds).map fun vs => Vl.dat (.bool (if neg = true then !inV vx vs else inV vx vs))) = some z := e
    split at e
    · rename_i t kvs ed
      split at e
      · rename_i hk
        cases e
        obtain ⟨a, rfl, da⟩ := dOf_at hs rb ed
        obtain ⟨o, g, l⟩ := da.get ra hk
        refine .inr ⟨a, o, rfl, g, ?_⟩
        have eo : o.isSome = dHas kvs x := by
          rw [dHas_look]
          rcases l with ⟨h1, h2⟩ | ⟨w, v, h1, h2, _⟩ <;> rw [h1, h2] <;> rfl
        rw [eo]
        exact q H _ (Same.refl H) (.bl _)
      · cases e
    refine .inl ?_
    cases e1 : fV x with
    | none => rw [e1] at e; cases e
    | some vx =>
      cases e2 : seqD b st with
      | none => rw [e1, e2] at e; cases e
      | some ds =>
        cases e3 : fVs ds with
        | none => rw [e1, e2] at e; simp [e3] at e
        | some vs =>
          rw [e1, e2] at e
          simp only [Option.bind_some, e3, Option.map_some, Option.some.injEq] at e
          subst e
          obtain ⟨rfl, f1⟩ := fV_eq ra e1
          obtain ⟨p, xs, rfl, h1, h2, _⟩ := seqD_at hs rb e2
          obtain ⟨rfl, f2⟩ := fVs_eq h2 e3
          exact ⟨p, _, rfl, h1.imp id TupA.sqt, f1, f2, q H _ (Same.refl H) (.bl _)⟩
theorem mo_in (hu : X.A.units + 64 < cLine) : OpR X (compareOp .In) (r2 (cf X zx) (phIn false)) := fun pins s σ H x y v u Q I rx ry h => by
  rcases in_key h with h | ⟨a, o, rfl, g, q⟩
  · exact op_in_seq pins s σ H x y v u Q I rx ry h
  · cases (show u = Value.ref a from ry)
    exact d_in (by omega) I g rx fun s' I' => ⟨.bl o.isSome, H, I', rfl, q⟩
theorem mo_notIn (hu : X.A.units + 64 < cLine) : OpR X (compareOp .NotIn) (r2 (cf X zx) (phIn true)) := fun pins s σ H x y v u Q I rx ry h => by
  rcases in_key h with h | ⟨a, o, rfl, g, q⟩
  · exact op_notIn_seq pins s σ H x y v u Q I rx ry h
  · cases (show u = Value.ref a from ry)
    exact d_notIn (by omega) I g rx fun s' I' => ⟨.bl (!o.isSome), H, I', rfl, q⟩
end
def phIx : Vl → Vl → Sto → Option Vl
  | .dat (.tuple ds), .dat (.int i), _ => (atI ds i).map Vl.dat
  | .dat (.list ds), .dat (.int i), _ => (atI ds i).map Vl.dat
  | .dat (.str z), .dat (.int i), _ => (atI z.cps.toList i).map fun c => Vl.dat (.str ⟨#[c]⟩)
  | .ref n, .dat d, s => match s[n]? with
    | some (.lst l) => match d with
      | .int i => atI l i
      | _ => none
    | some (.dic t kvs) => if kOk t d = true then dLook kvs d else none
    | _ => none
  | .dat (.dict l), .dat d, s => match dOf (.dat (.dict l)) s with
    | some (t, kvs) => if kOk t d = true then dLook kvs d else none
    | none => none
  | _, _, _ => none
theorem atI_dq {K : PySem.W.Frag} {H : Hp} {β : Bs} {xs : List V} {ds : List PyData} {i : Int} {d : PyData} (h : DqAll K H β xs ds) (e : atI ds i = some d) : ∃ v, atI xs i = some v ∧ Dq K H β v d := by
  unfold atI at e ⊢
  rw [h.len]
  cases ei : ixN ds.length i with
  | none => rw [ei] at e; cases e
  | some j =>
    rw [ei] at e
    obtain ⟨v, h1, h2⟩ := h.get' (show ds[j]? = some d from e)
    exact ⟨v, h1, h2⟩
theorem atI_rv {G : Cf} {H : Hp} {β : Bs} {xs : List V} {ds : List Vl} {i : Int} {d : Vl} (h : Rvs G H β ds xs) (e : atI ds i = some d) : ∃ v, atI xs i = some v ∧ Rv G H β d v := by
  unfold atI at e ⊢
  rw [← h.len]
  cases ei : ixN ds.length i with
  | none => rw [ei] at e; cases e
  | some j =>
    rw [ei] at e
    obtain ⟨v, h1, h2⟩ := h.get' (show ds[j]? = some d from e)
    exact ⟨v, h1, h2⟩
section
variable {X : Cx} {zx : Exo}
theorem ix_dict (hu : X.A.units + 64 < cLine) : IxR X (fun x y H Q => ∃ a v, x = .ref a ∧ DGet H a y (some v) ∧ Q v H) := by
  intro value slice pins s σ H x y v u Q I rx ry h hsub
  obtain ⟨a, w, rfl, g, q⟩ := h
  obtain rfl : v = Value.ref a := rx
  exact tail_any (dict_typeIs I g) PySem.F.slot_dict_getitem.lookup (d_getItem (by omega) I g ry fun w' s' I' rw' => ⟨w, H, I', rw', q⟩) hsub
theorem mx_ix (hu : X.A.units + 64 < cLine) : IxR X (r2 (cf X zx) phIx) := by
  intro value slice pins s σ H x y v u Q I rx ry h hsub
  obtain ⟨β, st, a, b, z, hs, ra, rb, e, q⟩ := h
  unfold phIx at e
  split at e
  · obtain ⟨d, h1, rfl⟩ := Option.map_eq_some_iff.mp e
    cases rb
    cases ra with
    | @tup p xs _ hx hz dx =>
      obtain ⟨w, h2, h3⟩ := atI_dq dx h1
      exact ix_tup value slice pins s σ H _ _ v u Q I rx ry ⟨p, xs, _, w, rfl, rfl, hx.sqt, h2, q H _ (Same.refl H) h3⟩ hsub
  · obtain ⟨d, h1, rfl⟩ := Option.map_eq_some_iff.mp e
    cases rb
    cases ra with
    | @lst p xs _ hx hz dx =>
      obtain ⟨w, h2, h3⟩ := atI_dq dx h1
      exact ix_list value slice pins s σ H _ _ v u Q I rx ry ⟨p, xs, _, w, rfl, rfl, hx.sq, h2, q H _ (Same.refl H) h3⟩ hsub
  · obtain ⟨c, h1, rfl⟩ := Option.map_eq_some_iff.mp e
    cases rb
    cases ra with
    | str hz => exact ix_str value slice pins s σ H _ _ v u Q I rx ry ⟨_, _, c, rfl, rfl, hz, h1, q H _ (Same.refl H) (.str (by rw [sizeLine_eq]; show 1 ≤ 16777216; decide))⟩ hsub
  · rename_i n d
    split at e
    · rename_i l hl
      split at e
      · cases rb
        obtain ⟨p, ha, rfl⟩ := ra
        obtain ⟨hz, xs, h1, h2⟩ := hs.ob _ _ p hl ha
        obtain ⟨w, h3, h4⟩ := atI_rv h2 e
        exact ix_list value slice pins s σ H _ _ v u Q I rx ry ⟨p, xs, _, w, rfl, rfl, SqL.of h1, h3, q H _ (Same.refl H) (Rv.up h4)⟩ hsub
      · cases e
    · rename_i t kvs hl
      split at e
      · rename_i hk
        obtain ⟨p, rfl, da⟩ := dOf_at hs ra (show dOf (.ref n) st = some (t, kvs) by simp [dOf, hl])
        obtain ⟨o, g, l⟩ := da.get rb hk
        rcases l with ⟨h1, _⟩ | ⟨w, v2, h1, rfl, rw2⟩
        · rw [h1] at e; cases e
        · rw [h1] at e; cases e
          exact ix_dict hu value slice pins s σ H _ _ v u Q I rx ry ⟨p, v2, rfl, g, q H _ (Same.refl H) rw2⟩ hsub
      · cases e
    · cases e
  · rename_i l d
    split at e
    · rename_i t kvs ed
      split at e
      · rename_i hk
        obtain ⟨p, rfl, da⟩ := dOf_at hs ra ed
        obtain ⟨o, g, l⟩ := da.get rb hk
        rcases l with ⟨h1, _⟩ | ⟨w, v2, h1, rfl, rw2⟩
        · rw [h1] at e; cases e
        · rw [h1] at e; cases e
          exact ix_dict hu value slice pins s σ H _ _ v u Q I rx ry ⟨p, v2, rfl, g, q H _ (Same.refl H) rw2⟩ hsub
      · cases e
    · cases e
  · cases e
end
def cut {α : Type} (xs : List α) (lo hi : Option Int) : List α := (xs.drop (HT.sIx xs.length 0 lo)).take (HT.sIx xs.length xs.length hi - HT.sIx xs.length 0 lo)
theorem cut_len {α : Type} (xs : List α) (lo hi : Option Int) : (cut xs lo hi).length ≤ xs.length := by
  unfold cut
  rw [List.length_take, List.length_drop]
  omega
theorem cut_dq {K : PySem.W.Frag} {H : Hp} {β : Bs} {xs : List V} {ds : List PyData} {lo hi : Option Int} (h : DqAll K H β xs ds) : DqAll K H β (cutV xs lo hi) (cut ds lo hi) := by
  unfold cutV cut
  rw [h.len]
  exact (h.drop _).take _
def phSl : Vl → Option Int → Option Int → Sto → Option Vl
  | .dat (.tuple ds), lo, hi, _ => some (.dat (.tuple (cut ds lo hi)))
  | .dat (.list ds), lo, hi, _ => some (.dat (.list (cut ds lo hi)))
  | .dat (.str z), lo, hi, _ => some (.dat (.str (cutS z lo hi)))
  | .ref n, lo, hi, s => match s[n]? with
    | some (.lst l) => (datas l).map fun ds => .dat (.list (cut ds lo hi))
    | _ => none
  | .scr ns, lo, hi, _ => if ns.length ≤ mil then some (.dat (.list (cut (ns.map PyData.int) lo hi))) else none
  | _, _, _, _ => none
theorem cutS_len (z : Str) (lo hi : Option Int) : (cutS z lo hi).length ≤ z.length := by
  show (((z.cps.toList.drop _).take _).toArray).size ≤ z.cps.size
  simp
  omega
theorem dq_ints {K : PySem.W.Frag} {H : Hp} {β : Bs} : ∀ ns : List Int, DqAll K H β (ns.map V.int) (ns.map PyData.int)
  | [] => .nil
  | n :: ns => .cons (.int n) (dq_ints ns)
def rSl (G : Cf) : V → Option Int → Option Int → Hp → VK → Prop := fun x lo hi H Q => ∃ β s v z, RelS G β s H ∧ Rv G H β v x ∧ phSl v lo hi s = some z ∧ ∀ H' u, Same H H' → Rv G H' β z u → Q u H'
section
variable {X : Cx} {zx : Exo} {W : WX} {e : Expr} {f : ME}
theorem ms_sl : SlR X (rSl (cf X zx)) := by
  intro pins s σ H x v vl vu lo hi sl Q I rx hsl pl pu h
  obtain ⟨β, st, a, z, hs, ra, e, q⟩ := h
  unfold phSl at e
  split at e
  · cases e
    cases ra with
    | @tup p xs ds hx hz dx =>
      refine sl_tupN pins s σ H _ v vl vu lo hi sl Q I rx hsl pl pu ⟨p, xs, rfl, hx.sqt, fun hw => ?_, fun _ => ?_⟩
      · refine q H _ (Same.refl H) ?_
        have l1 := dx.len
        rw [l1] at hw
        unfold cut
        rw [hw.1, hw.2]
        simp only [List.drop_zero, Nat.sub_zero, List.take_length]
        exact .tup hx hz dx
      · exact tup_new (Nat.le_trans (cut_len _ _ _) hz) (cut_dq dx) q
  · cases e
    cases ra with
    | @lst p xs _ hx hz dx =>
      exact sl_list pins s σ H _ v vl vu lo hi sl Q I rx hsl pl pu ⟨p, xs, rfl, hx.sq, fun p2 hp => q _ _ (same_new hp) (.lst ⟨upd_same, hs.nin hp, hs.nig hp⟩ (Nat.le_trans (cut_len _ _ _) hz) ((Step.lay hp).dqs (cut_dq dx)))⟩
  · cases e
    cases ra with
    | str hz => exact sl_str pins s σ H _ v vl vu lo hi sl Q I rx hsl pl pu ⟨_, rfl, hz, q H _ (Same.refl H) (.str (Nat.le_trans (cutS_len _ _ _) hz))⟩
  · split at e
    · rename_i l hl
      cases ed : datas l with
      | none => rw [ed] at e; cases e
      | some ds =>
        rw [ed] at e
        cases e
        obtain ⟨p, ha, rfl⟩ := ra
        obtain ⟨hz, xs, h1, h2⟩ := hs.ob _ _ p hl ha
        rw [datas_eq ed] at h2 hz
        have dx := Rvs.undats h2
        exact sl_list pins s σ H _ v vl vu lo hi sl Q I rx hsl pl pu ⟨p, xs, rfl, SqL.of h1, fun p2 hp => q _ _ (same_new hp) (.lst ⟨upd_same, hs.nin hp, hs.nig hp⟩ (Nat.le_trans (cut_len _ _ _) (by simpa using hz)) ((Step.lay hp).dqs (cut_dq dx)))⟩
    · cases e
  · split at e
    · rename_i hl
      cases e
      obtain ⟨p, rfl, sc⟩ := ra
      exact sl_list pins s σ H _ v vl vu lo hi sl Q I rx hsl pl pu ⟨p, _, rfl, sc.sq, fun p2 hp => q _ _ (same_new hp) (.lst ⟨upd_same, hs.nin hp, hs.nig hp⟩ (Nat.le_trans (cut_len _ _ _) (by rw [List.length_map]; exact mil_le hl)) (cut_dq (dq_ints _)))⟩
    · cases e
  · cases e
abbrev MO := Loc → Sto → R (Option Int)
abbrev rO : Rel (Option Int) (Option Int) := fun _ _ a b => a = b
abbrev DO (X : Cx) (zx : Exo) (W : WX) (e : Option Expr) (f : MO) : Prop := PO X e (tG (cf X zx) rO W f)
theorem PO.imp {X : Cx} {e : Option Expr} {t t' : TO} (h : PO X e t) (i : ∀ σ H Q, t' σ H Q → t σ H Q) : PO X e t' := ⟨fun pins s σ H Q I q => h.run pins s σ H Q I (i σ H Q q)⟩
def oNone : MO := fun _ s => .ok none s
def int? : Vl → Option Int
  | .dat (.int i) => some i
  | _ => none
def oSome (f : ME) : MO := fun ρ s => (f ρ s).bind fun v s1 => R.of ((int? v).map some) s1
theorem do_none : DO X zx W none oNone := PO.imp po_none fun σ H Q ⟨β, ρ, s, hl, hs, hp⟩ => hp β H _ (Step.refl _ _) hs rfl
theorem do_some (h : DE X zx W e f) : DO X zx W (some e) (oSome f) := PO.imp (po_some h) fun σ H Q ⟨β, ρ, s, hl, hs, hp⟩ => by
  refine ⟨β, ρ, s, hl, hs, Post.bind hp fun v s1 β1 H1 u st1 hs1 r1 h1 => ?_⟩
  cases ei : int? v with
  | none => rw [ei] at h1; exact h1.elim
  | some i =>
    rw [ei] at h1
    cases v with
    | ref n => cases ei
    | scr n => cases ei
    | exo _ _ => cases ei
    | fn _ => cases ei
    | lam _ _ _ _ _ => cases ei
    | dat d =>
      cases d with
      | int j => cases ei; cases r1; exact ⟨_, rfl, h1 β1 H1 _ (Step.refl _ _) hs1 rfl⟩
      | _ => cases ei
def mSl (f : ME) (lo hi : MO) : ME := fun ρ s => (f ρ s).bind fun v s1 => (lo ρ s1).bind fun l s2 => (hi ρ s2).bind fun h s3 => R.of (phSl v l h s3) s3
theorem de_slice {lo hi : Option Expr} {fl fh : MO} {p2 pos : Pos} (he : DE X zx W e f) (hl : DO X zx W lo fl) (hu : DO X zx W hi fh) : DE X zx W (.Subscript e (.Slice lo hi none p2) pos) (mSl f fl fh) := PE.imp (pe_slice ms_sl he hl hu) fun σ H Q ⟨β, ρ, s, hl, hs, hp⟩ => by
  refine ⟨β, ρ, s, hl, hs, Post.bind hp fun v s1 β1 H1 u st1 hs1 r1 h1 => ?_⟩
  refine ⟨β1, ρ, s1, hl.step st1, hs1, Post.bind h1 fun l s2 β2 H2 u2 st2 hs2 r2 h2 => ?_⟩
  refine ⟨β2, ρ, s2, (hl.step st1).step st2, hs2, Post.bind h2 fun h s3 β3 H3 u3 st3 hs3 r3 h3 => ?_⟩
  cases (show l = u2 from r2)
  cases (show h = u3 from r3)
  obtain ⟨z, e, q⟩ := post_of h3 hs3
  exact ⟨β3, s3, v, z, hs3, st3.rv (st2.rv r1), e, q⟩
end
def phLen : List Vl → Sto → Option Vl
  | [.dat (.tuple ds)], _ => some (.dat (.int ds.length))
  | [.dat (.list ds)], _ => some (.dat (.int ds.length))
  | [.dat (.str z)], _ => some (.dat (.int z.length))
  | [v], s => match dOf v s with
    | some (_, kvs) => some (.dat (.int kvs.length))
    | none => match v with
      | .ref n => match s[n]? with
        | some (.lst l) => some (.dat (.int l.length))
        | _ => none
      | _ => none
  | _, _ => none
def phTuple : List Vl → Sto → Option Vl
  | [v], s => (seqD v s).map fun ds => .dat (.tuple ds)
  | _, _ => none
def phList : List Vl → Sto → Option Vl
  | [v], s => (seqD v s).map fun ds => .dat (.list ds)
  | _, _ => none
def bls : List PyData → Option (List Bool)
  | [] => some []
  | .bool b :: r => (bls r).map (b :: ·)
  | _ :: _ => none
def phAll : List Vl → Sto → Option Vl
  | [.dat (.list ds)], _ => (bls ds).map fun bs => .dat (.bool (bs.all id))
  | _, _ => none
open Classical in
noncomputable def phRepr : List Vl → Sto → Option Vl
  | [.dat (.tuple ds)], _ => if (PyData.tuple ds).showable = true ∧ (PyData.tuple ds).hasDict = false ∧ (PyData.tuple ds).depth ≤ 60 ∧ (PyData.tuple ds).shown.length ≤ sizeLine then some (.dat (.str (PyData.tuple ds).shown)) else none
  | [.dat (.list ds)], _ => if (PyData.list ds).showable = true ∧ (PyData.list ds).hasDict = false ∧ (PyData.list ds).depth ≤ 60 ∧ (PyData.list ds).shown.length ≤ sizeLine then some (.dat (.str (PyData.list ds).shown)) else none
  | _, _ => none
theorem bls_eq {K : PySem.W.Frag} {H : Hp} {β : Bs} : ∀ {xs : List V} {ds : List PyData} {bs : List Bool}, DqAll K H β xs ds → bls ds = some bs → xs = bs.map V.bl
  | _, _, _, .nil, e => by cases e; rfl
  | _, d :: ds, bs, .cons h t, e => by
    cases d with
    | bool b =>
      cases e1 : bls ds with
      | none => simp [bls, e1] at e
      | some l =>
        have : b :: l = bs := by simpa [bls, e1] using e
        subst this
        cases h
        rw [bls_eq t e1]
        rfl
    | _ => simp [bls] at e
section
variable {X : Cx} {zx : Exo} {W : WX}
theorem rvs1 {G : Cf} {H : Hp} {β : Bs} {v : Vl} {xs : List V} (r : Rvs G H β [v] xs) : ∃ x, xs = [x] ∧ Rv G H β v x := by
  cases r with
  | cons r0 r1 => cases r1; exact ⟨_, rfl, r0⟩
theorem mc_len : CallR X (.builtin "len") (rn (cf X zx) phLen) := by
  intro pins s σ H xs us Q I rx h
  obtain ⟨β, st, vs, z, hs, rv, e, q⟩ := h
  unfold phLen at e
  split at e
  · cases e
    obtain ⟨x, rfl, r⟩ := rvs1 rv
    cases r with
    | @tup p ys _ hx hz dx => exact call_len_seq pins s σ H _ us Q I rx ⟨p, ys, rfl, .inr (hx.sqt), by rw [dx.len]; exact q H _ (Same.refl H) (.int _)⟩
  · cases e
    obtain ⟨x, rfl, r⟩ := rvs1 rv
    cases r with
    | @lst p ys _ hx hz dx => exact call_len_seq pins s σ H _ us Q I rx ⟨p, ys, rfl, .inl hx.sq, by rw [dx.len]; exact q H _ (Same.refl H) (.int _)⟩
  · cases e
    obtain ⟨x, rfl, r⟩ := rvs1 rv
    cases r with
    | str hz => exact call_len_str pins s σ H _ us Q I rx ⟨_, rfl, hz, q H _ (Same.refl H) (.int _)⟩
  · obtain ⟨x, rfl, r⟩ := rvs1 rv
    split at e
    · rename_i t kvs ed
      cases e
      obtain ⟨p, rfl, da⟩ := dOf_at hs r ed
      cases da with
      | k h1 h2 => exact call_lenD pins s σ H _ us Q I rx ⟨p, _, rfl, h1, by rw [← Paired.length h2]; exact q H _ (Same.refl H) (.int _)⟩
      | t h1 h2 => exact call_len_dT pins s σ H _ us Q I rx ⟨p, _, rfl, h1, by rw [← Paired.length h2]; exact q H _ (Same.refl H) (.int _)⟩
    · split at e
      · obtain ⟨p, ha, rfl⟩ := r
        split at e
        · rename_i l hl
          cases e
          obtain ⟨hz, ys, h1, h2⟩ := hs.ob _ _ p hl ha
          exact call_len_seq pins s σ H _ us Q I rx ⟨p, ys, rfl, .inl (SqL.of h1), by rw [← h2.len]; exact q H _ (Same.refl H) (.int _)⟩
        · cases e
      · cases e
  · cases e
theorem mc_tuple : CallR X (.type "tuple") (rn (cf X zx) phTuple) := by
  intro pins s σ H xs us Q I rx h
  obtain ⟨β, st, vs, z, hs, rv, e, q⟩ := h
  unfold phTuple at e
  split at e
  · obtain ⟨x, rfl, r⟩ := rvs1 rv
    obtain ⟨ds, es, rfl⟩ := Option.map_eq_some_iff.mp e
    · skip
      obtain ⟨p, ys, rfl, h1, dx, hz⟩ := seqD_at hs r es
      refine call_tupN pins s σ H _ us Q I rx ⟨p, ys, rfl, ?_⟩
      rcases h1 with h1 | h1
      · exact .inl ⟨h1, tup_new hz dx q⟩
      · exact .inr ⟨h1.sqt, q H _ (Same.refl H) (.tup h1 hz dx)⟩
  · cases e
theorem mc_all (hc : X.calm = true) : CallR X (.builtin "all") (rn (cf X zx) phAll) := by
  intro pins s σ H xs us Q I rx h
  obtain ⟨β, st, vs, z, hs, rv, e, q⟩ := h
  unfold phAll at e
  split at e
  · obtain ⟨x, rfl, r⟩ := rvs1 rv
    obtain ⟨bs, eb, rfl⟩ := Option.map_eq_some_iff.mp e
    · cases r with
      | @lst p ys _ hx hz dx =>
        have := bls_eq dx eb
        subst this
        exact cr_all hc pins s σ H _ us Q I rx ⟨p, bs, rfl, hx.sq, q H _ (Same.refl H) (.bl _)⟩
  · cases e
theorem isd_data {K : PySem.W.Frag} {H : Hp} {β : Bs} {v : V} {d : PyData} {T : String} {g : PyData → Bool} (h : Dq K H β v d)
    (k0 : kitB "NoneType" T = some (g .none)) (k1 : ∀ b, kitB "bool" T = some (g (.bool b))) (k2 : ∀ i, kitB "int" T = some (g (.int i))) (k3 : ∀ x, kitB "str" T = some (g (.str x)))
    (k4 : ∀ xs, kitB "list" T = some (g (.list xs))) (k5 : ∀ xs, kitB "tuple" T = some (g (.tuple xs))) (k6 : ∀ xs, kitB "dict" T = some (g (.dict xs))) : ∃ t, TyX K H v t ∧ PySem.W.kitOne K t (.type T) = some (g d) := by
  cases h with
  | non => exact ⟨_, .base .non, kit_ty k0⟩
  | bl b => exact ⟨_, .base (.bl b), kit_ty (k1 b)⟩
  | int i => exact ⟨_, .base (.int i), kit_ty (k2 i)⟩
  | str x => exact ⟨_, .base (.str _), kit_ty (k3 _)⟩
  | lst h _ => exact ⟨_, ty_list h.sq, kit_ty (k4 _)⟩
  | tup h _ => exact ⟨_, ty_tup h.sqt, kit_ty (k5 _)⟩
  | dic h _ => exact ⟨_, .base (.dK h.1), kit_ty (k6 _)⟩
  | dit h _ => exact ⟨_, .base (.dT h.1), kit_ty (k6 _)⟩
theorem isd_int {K : PySem.W.Frag} {H : Hp} {β : Bs} {v : V} {d : PyData} (h : Dq K H β v d) : ∃ t, TyX K H v t ∧ PySem.W.kitOne K t (.type "int") = some (isaInt d) :=
  isd_data (g := isaInt) h (by decide +kernel) (fun _ => by show _ = some true; decide +kernel) (fun _ => by show _ = some true; decide +kernel) (fun _ => by show _ = some false; decide +kernel) (fun _ => by show _ = some false; decide +kernel) (fun _ => by show _ = some false; decide +kernel) (fun _ => by show _ = some false; decide +kernel)
theorem isd_bool {K : PySem.W.Frag} {H : Hp} {β : Bs} {v : V} {d : PyData} (h : Dq K H β v d) : ∃ t, TyX K H v t ∧ PySem.W.kitOne K t (.type "bool") = some (isaBool d) :=
  isd_data (g := isaBool) h (by decide +kernel) (fun _ => by show _ = some true; decide +kernel) (fun _ => by show _ = some false; decide +kernel) (fun _ => by show _ = some false; decide +kernel) (fun _ => by show _ = some false; decide +kernel) (fun _ => by show _ = some false; decide +kernel) (fun _ => by show _ = some false; decide +kernel)
theorem isd_tup {K : PySem.W.Frag} {H : Hp} {β : Bs} {v : V} {d : PyData} (h : Dq K H β v d) : ∃ t, TyX K H v t ∧ PySem.W.kitOne K t (.type "tuple") = some (isaTup d) :=
  isd_data (g := isaTup) h (by decide +kernel) (fun _ => by show _ = some false; decide +kernel) (fun _ => by show _ = some false; decide +kernel) (fun _ => by show _ = some false; decide +kernel) (fun _ => by show _ = some false; decide +kernel) (fun _ => by show _ = some true; decide +kernel) (fun _ => by show _ = some false; decide +kernel)
def phIsi (g : PyData → Bool) : Vl → Sto → Option Vl
  | .dat d, _ => some (.dat (.bool (g d)))
  | _, _ => none
theorem de_isi {T : String} {g : PyData → Bool} {x : Str} {e : Expr} {f : ME} {p p2 pos : Pos} (hT : ∀ {H : Hp} {β : Bs} {v : V} {d : PyData}, Dq X.K H β v d → ∃ t, TyX X.K H v t ∧ PySem.W.kitOne X.K t (.type T) = some (g d)) (hg : Gl X "isinstance") (hm : X.mg "isinstance" = none) (ha : DE X zx W e f)
    (hgT : Gl X x) (hmT : X.mg x = none) (hv : bootBuiltins x = some (.type T)) (hn : x ≠ "__name__" := by decide) (hdb : (x == ("__debug__" : Str)) = false := by decide)
    (he : starEach [e, .Name x p2] X.env = (false, eval e X.env) :: starEach [.Name x p2] X.env := by rfl) : DE X zx W (.Call (.Name "isinstance" p) [e, .Name x p2] [] pos) (m1 (phIsi g) f) :=
  PE.imp (pe_callB (r := rIsi X.K) call_isi hg hm (by decide +kernel) (pa_cons ha (pa_cons (pe_bltn (v := .ty T) hgT hmT hv rfl hn hdb) pa_nil) he) (by decide) (by decide) he) fun σ H Q ⟨β, ρ, s, hl, hs, hp⟩ => by
  refine ⟨β, ρ, s, hl, hs, Post.bind hp fun v s1 β1 H1 u st1 hs1 r1 h1 => ?_⟩
  obtain ⟨z, ez, q⟩ := post_of h1 hs1
  cases v with
  | ref n => cases ez
  | scr n => cases ez
  | exo _ _ => cases ez
  | fn _ => cases ez
  | lam _ _ _ _ _ => cases ez
  | dat d =>
    cases ez
    obtain ⟨t, ty, k⟩ := hT r1
    exact ⟨u, .ty T, t, _, _, rfl, .ty _, ty, k, q H1 _ (Same.refl _) (.bl _)⟩
end
end Pm
set_option maxRecDepth 100000
set_option maxHeartbeats 4000000
namespace Sw
open PySem PySem.Spec PyProof.Rows L2
/-- the making of it -/
theorem enum_new {v : Value} {o : Obj} {H : Heap → Prop} (Bg : Begins v o H) :
    Meets (Builtin.«enumerate.__new__» ⟨[.type "enumerate", v], []⟩) (fun _ R s => H s.heap ∧ R (.ok (.ret (.ref (s.heap.push o).objs.size)))
      { s with heap := (s.heap.push o).push { cls := .type "enumerate", data := .fields #[.none, .bool false, .ref s.heap.objs.size, rawInt 0, .none, .none] } }) :=
  .of_wp fun pr w A R s hh => by
    obtain ⟨hp, g, d, tk, os⟩ := s
    obtain ⟨hb, h⟩ := hh
    have sbe := sub_enumerate
    have itr : ∀ {A' : Around} {Er : Value → Shared → Prop} {Q : Value → Shared → Prop}, Q (.ref hp.objs.size) ⟨hp.push o, g, d, tk, os⟩ → wpAny (model pr w) A' (pyIter v) Q Er ⟨hp, g, d, tk, os⟩ := fun q => Bg.iter pr w _ _ ⟨hp, g, d, tk, os⟩ _ hb q
    wp_walk using itr
    refine wpAny_stack_any fun stk => wpAny_pure ?_
    split
    · rename_i cl _ _ _ _ _
      cases (cl == Value.type "enumerate")
      all_goals (wp_walk using itr; exact ⟨_, rfl, h⟩)
    · wp_walk using itr
      exact ⟨_, rfl, h⟩
section
variable {P : Program} {w : World} {A : Around} {Er : Value → Shared → Prop} {s : Shared}
theorem call_enumT {v : Value} {o : Obj} {H : Heap → Prop} {Q : Value → Shared → Prop} (Bg : Begins v o H) (hb : H s.heap)
    (h : ∀ hx, IsEnum hx (s.heap.objs.size + 1) s.heap.objs.size 0 .none → hx.get? s.heap.objs.size = some o → (∀ b u, s.heap.get? b = some u → hx.get? b = some u) → Q (.ref (s.heap.objs.size + 1)) { s with heap := hx }) :
    wpAny (model P w) A (call (.type "enumerate") [v]) Q Er s := by
  refine callType_new F.called_enumerate (by decide) (F.typeCall_enumerate_1 v) (F.newCall_enumerate_1 v) (fun ob => F.args_object_init_2 ob v) F.entry_enumerate_new (enum_new Bg) ⟨hb, ?_⟩
  have sz : (s.heap.push o).objs.size = s.heap.objs.size + 1 := Heap.size_push ..
  have top := Heap.get?_push_size (s.heap.push o) (o := { cls := .type "enumerate", data := .fields #[.none, .bool false, .ref s.heap.objs.size, rawInt 0, .none, .none] }) rfl
  show _ ∧ _
  rw [sz] at top ⊢
  exact ⟨⟨_, top, rfl⟩, h _ top (Heap.get?_push_of_some _ (Heap.get?_push_size _ Bg.free)) fun b u x => Heap.get?_push_of_some _ (Heap.get?_push_of_some _ x)⟩
end
/-- the pairs of it, each a new tuple -/
def ItT (K : PySem.W.Frag) (a : Addr) : It :=
  ⟨fun i H => ∃ (xs : List V) (x : V), SqT K H a xs ∧ xs[i]? = some x,
    fun i H v H' => ∃ T x, v = .ref T ∧ H T = none ∧ H' = upd H T (.tup [.int (i : Nat), x]) ∧ ∀ xs, SqT K H a xs → xs[i]? = some x,
    fun i H => ∃ xs : List V, SqT K H a xs ∧ xs.length = i⟩
theorem not_it {h : Heap} {t it : Addr} {items : Array Value} {i : Nat} (h1 : h.IsTuple t items) (h2 : h.IsTupleIter it t i) : t ≠ it := fun z => by
  obtain ⟨o, ho, hc, _⟩ := h1
  obtain ⟨u, hu, hd, _⟩ := h2
  rw [z, hu] at ho
  cases ho
  rw [hd] at hc
  exact absurd hc (by decide)
theorem not_en {h : Heap} {t e it : Addr} {items : Array Value} {i : Int} {old : Value} (h1 : h.IsTuple t items) (h2 : IsEnum h e it i old) : t ≠ e := fun z => by
  obtain ⟨o, ho, hc, _⟩ := h1
  rw [z, h2] at ho
  cases ho
  exact absurd (show Value.type "enumerate" = Value.type "tuple" from hc) (by decide)
theorem turn_enT {P : Program} {w : World} {K : PySem.W.Frag} {elts : List Expr} {kk : Nat} {tpos : Pos} (a e it : Addr) :
    Turn P w K (.Tuple elts kk tpos) (ItT K a) [e, it] e (fun i h => (∃ old, IsEnum h e it (i : Nat) old) ∧ h.IsTupleIter it a i ∧ e ≠ it) where
  mem := List.mem_cons_self
  obj := by
    rintro i h ⟨⟨old, hE⟩, ⟨o, ho, _, hdt⟩, _⟩ b hb
    simp only [List.mem_cons, List.not_mem_nil, or_false] at hb
    rcases hb with rfl | rfl
    · exact ⟨_, hE, fun v z => nomatch z⟩
    · exact ⟨o, ho, fun v z => by rw [hdt] at z; cases z⟩
  keep := by
    rintro i h h2 ⟨⟨old, hE⟩, hI, hn⟩ kp
    exact ⟨⟨old, kp e (by simp) _ hE⟩, hI.at fun o z => kp it (by simp) o z, hn⟩
  item := by
    intro X hP hw hK hc i pins s σ H Er I fps ⟨⟨old, hE⟩, hI, hn⟩ ⟨xs, x, hq, hx⟩
    subst hP hw hK
    obtain ⟨its, rv, tp, _⟩ := I.tuple hq
    obtain ⟨u, hu, ru⟩ := rv.get hx
    have nt := not_it tp hI
    have ne := not_en tp hE
    have Dr := Draws.tuple (prog := X.prog) (w := X.w) (A := X.A.in1) (by simp [I.ok.hd hc]) it a nt its.toArray
    have lte : e < s.heap.objs.size := Heap.lt_size hE
    have lti : it < s.heap.objs.size := by obtain ⟨_, z, _⟩ := hI; exact Heap.lt_size z
    have hsz : i < its.toArray.size := by
      have := (List.getElem?_eq_some_iff.mp hu).1
      simpa using this
    refine wpAny_pyNext_enum_itemC (i := i) (c := (i : Nat)) Dr hE ⟨hI, tp⟩ hsz hn (by simp only [List.mem_cons, List.not_mem_nil, or_false, not_or]; exact ⟨hn, Ne.symm ne⟩) fun y hx1 tk hy ho hst hT sz kp => ?_
    have eyu : y = u := by
      have h1 : its[i]? = some y := by simpa using hy
      rw [hu] at h1
      exact (Option.some.inj h1).symm
    subst eyu
    refine ⟨_, rfl, wpAny_letOwnedTupleGo_enum (s := { s with heap := hx1, toks := tk + 1 }) ho fun hx2 hE2 sb => ?_⟩
    have nT : s.heap.objs.size ≠ e := Nat.ne_of_gt lte
    have hT2 := (sb.2 _ nT).trans hT
    have kp2 : ∀ b ob, b ∉ [e, it] → s.heap.get? b = some ob → hx2.get? b = some ob := fun b ob hb z => by
      simp only [List.mem_cons, List.not_mem_nil, or_false, not_or] at hb
      exact (sb.2 b hb.1).trans (kp b ob hb.1 hb.2 z)
    have new : ObjOk X.prog X.w (upd H s.heap.objs.size (.tup [.int (i : Nat), x])) hx2 s.heap.objs.size (.tup [.int (i : Nat), x]) := ⟨by show 2 ≤ sizeLine; decide, [.int (i : Nat) tk, y], .cons ⟨_, rfl⟩ (.cons ru .nil), ⟨_, hT2, rfl, _, rfl⟩⟩
    have I1 := I.turnedNew (ch := [e, it]) (h' := hx2) (t' := tk + 1) kp2 fps (Nat.le_refl _) new
    refine ⟨.ref s.heap.objs.size, _, I1, rfl, ⟨_, x, rfl, I.hok.fresh (Nat.le_refl _), rfl, fun zs hz => ?_⟩, ⟨⟨y, ?_⟩, hst.1.at fun o z => (sb.2 it (Ne.symm hn)).trans z, hn⟩, fun b hb => ?_⟩
    · rw [I.tuple_inj hz hq]
      exact hx
    · rw [show ((i + 1 : Nat) : Int) = ((i : Nat) : Int) + 1 by omega]
      exact hE2
    · have lb : b ≠ s.heap.objs.size := by
        simp only [List.mem_cons, List.not_mem_nil, or_false] at hb
        rcases hb with rfl | rfl
        · exact Nat.ne_of_lt lte
        · exact Nat.ne_of_lt lti
      rw [upd_ne lb]
      exact (fps b hb).1
  done := by
    intro X hP hw hK hc i pins s σ H Er I fps ⟨⟨old, hE⟩, hI, hn⟩ ⟨xs, hq, hx⟩
    subst hP hw hK
    obtain ⟨its, rv, tp, _⟩ := I.tuple hq
    have lr := rv.length
    have nt := not_it tp hI
    have Dr := Draws.tuple (prog := X.prog) (w := X.w) (A := X.A.in1) (by simp [I.ok.hd hc]) it a nt its.toArray
    have es : its.toArray.size = i := by simp; omega
    rw [es] at Dr
    obtain ⟨f0, f1, f2, f3, f4, f5⟩ := fps it (by simp)
    exact wpAny_pyNext_enum_endD Dr hE ⟨hI, tp⟩ fun hx1 eb => ⟨rfl, I.turned (t' := s.toks) (fun b o hb z => eb b o hb z) f0 f1 f3 f4 f5⟩
  self := by
    rintro A i s Q Er ⟨⟨old, hE⟩, _⟩ h
    exact wpAny_pyIter_enum hE h
def iEnT (K : PySem.W.Frag) (ta : TA) : TI := fun σ H R => ta σ H fun vs H1 => ∃ a xs, vs = [.ref a] ∧ SqT K H1 a xs ∧ R (ItT K a) H1
theorem pi_enT {X : Cx} {e : Expr} {ta : TA} {p pos tpos : Pos} {elts : List Expr} {kk : Nat} (hg : Gl X "enumerate") (hm : X.mg "enumerate" = none) (ha : PA X [e] ta) (hs : starEach [e] X.env = [(false, eval e X.env)] := by rfl) :
    PI X (.Tuple elts kk tpos) (.Call (.Name "enumerate" p) [e] [] pos) (iEnT X.K ta) := by
  refine ⟨fun pins s σ H R I h => ?_⟩
  refine Call_ (ld_blt I hg hm boot_enumerate (PyProof.Rows.callWith_type1 (thn (ha.run pos pins s σ H _ I h) fun us s1 ⟨vs, H1, I1, rs, q1⟩ => ?_) hs rfl))
  obtain ⟨a, xs, rfl, hq, q⟩ := q1
  obtain ⟨its, rv, tp, _⟩ := I1.tuple hq
  rw [Vals.ref1 rs]
  refine call_enumT (begins_tuple a its.toArray) tp fun hx hE hi kp => wpAny_pyIter_enum hE ?_
  have I2 : Inv X pins σ H1 { s1 with heap := hx } := I1.kept (t' := s1.toks) kp
  refine ⟨s1.heap.objs.size + 1, [s1.heap.objs.size + 1, s1.heap.objs.size], _, _, H1, rfl, I2, turn_enT a (s1.heap.objs.size + 1) s1.heap.objs.size, ⟨⟨.none, hE⟩, ⟨_, hi, rfl, rfl⟩, Nat.succ_ne_self _⟩, fun b hb => ?_, q⟩
  have le : s1.heap.objs.size ≤ b := by
    simp only [List.mem_cons, List.not_mem_nil, or_false] at hb
    rcases hb with z | z
    · rw [z]; exact Nat.le_add_right _ _
    · rw [z]; exact Nat.le_refl _
  exact I1.fpOk le (I1.hok.fresh le)
/-- its walk: each turn has a new pair -/
theorem walk_enT {K : PySem.W.Frag} {a : Addr} {xs : List V} : Walk (ItT K a) xs.length (fun H => SqT K H a xs) (fun i H v H' => ∃ T x, v = .ref T ∧ H T = none ∧ H' = upd H T (.tup [.int (i : Nat), x]) ∧ xs[i]? = some x) :=
  ⟨fun i _ hi q => ⟨xs, xs[i], q, List.getElem?_eq_getElem hi⟩, fun _ q => ⟨xs, q, rfl⟩, fun i H x H' _ q ⟨T, y, e1, e2, e3, e4⟩ => ⟨T, y, e1, e2, e3, e4 xs q⟩⟩
end Sw
set_option maxRecDepth 100000
set_option maxHeartbeats 4000000
namespace Pm
open PySem PySem.Spec PyProof.Rows L2 Sw
def lstAt (s : Sto) (n : Nat) : Option (List Vl) := match s[n]? with
  | some (.lst l) => some l
  | _ => none
theorem lstAt_eq {s : Sto} {n : Nat} {l : List Vl} (h : lstAt s n = some l) : s[n]? = some (.lst l) := by
  unfold lstAt at h
  split at h
  · rename_i e; cases h; exact e
  · cases h
/-- xs.append(e) -/
def mApp (f : ME) (r : MA) : ME := fun ρ s => (f ρ s).bind fun v s1 => match v with
  | .ref n => (match lstAt s1 n with
    | none => .bad
    | some _ => (r ρ s1).bind fun vs s2 => match vs, lstAt s2 n with
      | [w], some l => if l.length < mil ∧ noX w = true then .ok (.dat .none) (s2.set n (.lst (l ++ [w]))) else .bad
      | _, _ => .bad)
  | _ => .bad
/-- xs.extend(e) -/
def mExt (f : ME) (r : MA) : ME := fun ρ s => (f ρ s).bind fun v s1 => match v with
  | .ref n => (match lstAt s1 n with
    | none => .bad
    | some _ => (r ρ s1).bind fun vs s2 => match vs, lstAt s2 n with
      | [.dat (.list ds)], some l => if l.length + ds.length ≤ mil then .ok (.dat .none) (s2.set n (.lst (l ++ ds.map Vl.dat))) else .bad
      | _, _ => .bad)
  | _ => .bad
section
variable {X : Cx} {zx : Exo} {W : WX} {o e : Expr} {f : ME} {r : MA} {apos cpos pos : Pos}
theorem put_lst {β : Bs} {s : Sto} {H : Hp} {n : Nat} {a : Addr} {l l' : List Vl} {xs xs' : List V} (hs : RelS (cf X zx) β s H) (hl : s[n]? = some (.lst l)) (ha : β.b[n]? = some a) (hx : H a = some (.lst xs)) (hz : l'.length ≤ sizeLine) (rv : Rvs (cf X zx).o H β l' xs') :
    Step β H β (upd H a (.lst xs')) ∧ RelS (cf X zx) β (s.set n (.lst l')) (upd H a (.lst xs')) := by
  have st : Step β H β (upd H a (.lst xs')) := Step.put (List.mem_of_getElem? ha) hx trivial
  exact ⟨st, hs.put hl ha ⟨hz, xs', upd_same, st.rvs rv⟩⟩
theorem de_append (ho : DE X zx W o f) (ha : DA X zx W [e] r)
    (hbase : attributeBase o "append" X.env (eval o X.env) = eval o X.env := by rfl)
    (hfew : ((backTo cpos (starEach [e] X.env)).all (fun x => !x.1) && (backToKw cpos (keywordEach [] X.env)).all (fun x => x.1.isSome)
      && decide ([e].length + ([] : List Keyword).length + (if ([] : List Keyword).isEmpty then 0 else 1) < 30)) = true := by rfl)
    (hline : (apos.endLine == cpos.line) = true := by rfl) (hs : starEach [e] X.env = (false, eval e X.env) :: starEach [] X.env := by rfl) (hplain : (backTo cpos (starEach [] X.env)).any (·.1) = false := by rfl) :
    DE X zx W (.Call (.Attribute o "append" apos) [e] [] cpos) (mApp f r) := PE.imp (pe_bm PySem.F.plainAttrs_list PySem.F.slot_list_append PySem.F.type_list_append mt_append ho ha hbase hfew hline hs hplain) fun σ H Q ⟨β, ρ, s, hl, hs, hp⟩ => by
  refine ⟨β, ρ, s, hl, hs, Post.bind hp fun v s1 β1 H1 u st1 hs1 r1 h1 => ?_⟩
  cases v with
  | ref n =>
    obtain ⟨a, hb, rfl⟩ := r1
    cases e1 : lstAt s1 n with
    | none => simp only [e1] at h1; exact h1.elim
    | some l1 =>
      simp only [e1] at h1
      obtain ⟨_, xs, hx, _⟩ := hs1.ob n _ a (lstAt_eq e1) hb
      refine ⟨.inl ⟨rfl, xs, SqL.of hx⟩, β1, ρ, s1, hl.step st1, hs1, Post.bind h1 fun vs s2 β2 H2 us st2 hs2 r2 h2 => ?_⟩
      split at h2
      · rename_i w l e2
        split at h2
        · rename_i hc
          obtain ⟨y, rfl, ry⟩ := rvs1 r2
          obtain ⟨t, ht⟩ := st2.pre
          have hb2 : β2.b[n]? = some a := by
            rw [← ht, List.getElem?_append_left (List.getElem?_eq_some_iff.mp hb).1]
            exact hb
          obtain ⟨hz, xs2, hx2, rv2⟩ := hs2.ob n _ a (lstAt_eq e2) hb2
          obtain ⟨st3, hs3⟩ := put_lst (l' := l ++ [w]) (xs' := xs2 ++ [y]) hs2 (lstAt_eq e2) hb2 hx2 (by rw [List.length_append]; exact mil_le hc.1) (rv2.append (.cons (Rv.dn hc.2 ry) .nil))
          exact ⟨a, xs2, y, rfl, rfl, hx2, by rw [← rv2.len]; exact Nat.lt_of_lt_of_le hc.1 (mil_le (Nat.le_refl _)), h2 β2 _ _ st3 hs3 .non⟩
        · exact h2.elim
      · exact h2.elim
  | _ => exact h1.elim
theorem de_extend (ho : DE X zx W o f) (ha : DA X zx W [e] r)
    (hbase : attributeBase o "extend" X.env (eval o X.env) = eval o X.env := by rfl)
    (hfew : ((backTo cpos (starEach [e] X.env)).all (fun x => !x.1) && (backToKw cpos (keywordEach [] X.env)).all (fun x => x.1.isSome)
      && decide ([e].length + ([] : List Keyword).length + (if ([] : List Keyword).isEmpty then 0 else 1) < 30)) = true := by rfl)
    (hline : (apos.endLine == cpos.line) = true := by rfl) (hs : starEach [e] X.env = (false, eval e X.env) :: starEach [] X.env := by rfl) (hplain : (backTo cpos (starEach [] X.env)).any (·.1) = false := by rfl) :
    DE X zx W (.Call (.Attribute o "extend" apos) [e] [] cpos) (mExt f r) := PE.imp (pe_bm PySem.F.plainAttrs_list PySem.F.slot_list_extend PySem.F.type_list_extend mt_extend ho ha hbase hfew hline hs hplain) fun σ H Q ⟨β, ρ, s, hl, hs, hp⟩ => by
  refine ⟨β, ρ, s, hl, hs, Post.bind hp fun v s1 β1 H1 u st1 hs1 r1 h1 => ?_⟩
  cases v with
  | ref n =>
    obtain ⟨a, hb, rfl⟩ := r1
    cases e1 : lstAt s1 n with
    | none => simp only [e1] at h1; exact h1.elim
    | some l1 =>
      simp only [e1] at h1
      obtain ⟨_, xs, hx, _⟩ := hs1.ob n _ a (lstAt_eq e1) hb
      refine ⟨.inl ⟨rfl, xs, SqL.of hx⟩, β1, ρ, s1, hl.step st1, hs1, Post.bind h1 fun vs s2 β2 H2 us st2 hs2 r2 h2 => ?_⟩
      split at h2
      · rename_i ds l e2
        split at h2
        · rename_i hc
          obtain ⟨y, rfl, ry⟩ := rvs1 r2
          obtain ⟨t, ht⟩ := st2.pre
          have hb2 : β2.b[n]? = some a := by
            rw [← ht, List.getElem?_append_left (List.getElem?_eq_some_iff.mp hb).1]
            exact hb
          obtain ⟨hz, xs2, hx2, rv2⟩ := hs2.ob n _ a (lstAt_eq e2) hb2
          cases ry with
          | @lst p ys _ hy hz2 dy =>
            obtain ⟨st3, hs3⟩ := put_lst (l' := l ++ ds.map Vl.dat) (xs' := xs2 ++ ys) hs2 (lstAt_eq e2) hb2 hx2 (by rw [List.length_append, List.length_map]; exact mil_le hc) (rv2.append (Rvs.dats dy))
            exact ⟨a, p, xs2, ys, rfl, rfl, hx2, hy.1, by rw [← rv2.len, dy.len]; exact mil_le hc, h2 β2 _ _ st3 hs3 .non⟩
        · exact h2.elim
      · exact h2.elim
  | _ => exact h1.elim
/-- xs[i] = v, d[k] = v -/
def putIx (n : Nat) (i v : Vl) (s : Sto) : Option Sto := match s[n]? with
  | some (.lst l) => (match i with
    | .dat (.int k) => (match ixN l.length k with
      | some j => if noX v = true then some (s.set n (.lst (l.set j v))) else none
      | none => none)
    | _ => none)
  | some (.dic t kvs) => (match i with
    | .dat d => if kOk t d = true ∧ noX v = true ∧ kvs.length < mil then some (s.set n (.dic t (dPut kvs d v))) else none
    | _ => none)
  | _ => none
def gSubM (f g : ME) : MG := fun v ρ s => match f ρ s with
  | .ok (.ref n) s1 => (match g ρ s1 with
    | .ok i s2 => (match putIx n i v s2 with
      | some s3 => .nx ρ s3
      | none => .bad)
    | _ => .bad)
  | _ => .bad
def rSetA : V → V → V → Hp → (Hp → Prop) → Prop := fun o i v H Q => rSetL o i v H Q ∨ ∃ a H', o = .ref a ∧ DPut H a i v H' ∧ Q H'
theorem set_any (hu : X.A.units + 1 < cLine) : PSet X rSetA := by
  intro pins s σ H o i v ov iv u Q I ro ri rv h
  rcases h with h | ⟨a, H', rfl, g, q⟩
  · exact set_list pins s σ H o i v ov iv u Q I ro ri rv h
  · cases (show ov = Value.ref a from ro)
    exact d_setItem hu I g ri rv fun s' I' => ⟨H', I', q⟩
theorem put_dic {β : Bs} {s : Sto} {H : Hp} {n : Nat} {a : Addr} {t : Bool} {kvs kvs' : List (PyData × Vl)} {o o' : HO} (hs : RelS (cf X zx) β s H) (hl : s[n]? = some (.dic t kvs)) (ha : β.b[n]? = some a) (hx : H a = some o) (ho : Own o)
    (r : RO (cf X zx) (upd H a o') β a (.dic t kvs')) : Step β H β (upd H a o') ∧ RelS (cf X zx) β (s.set n (.dic t kvs')) (upd H a o') :=
  ⟨Step.put (List.mem_of_getElem? ha) hx ho, hs.put hl ha r⟩
/-- what a store into a part does in the heap -/
theorem putIx_go {β : Bs} {s s3 : Sto} {H : Hp} {n : Nat} {a : Addr} {i v : Vl} {y x : V} (hs : RelS (cf X zx) β s H) (hb : β.b[n]? = some a) (ri : Rv (cf X zx) H β i y) (rx : Rv (cf X zx) H β v x) (h : putIx n i v s = some s3) :
    ∃ H', Step β H β H' ∧ RelS (cf X zx) β s3 H' ∧ ∀ Q : Hp → Prop, Q H' → rSetA (.ref a) y x H Q := by
  unfold putIx at h
  split at h
  · rename_i l el
    split at h
    · rename_i k
      cases ri
      cases ej : ixN l.length k with
      | none => rw [ej] at h; cases h
      | some j =>
        rw [ej] at h
        dsimp only at h
        split at h
        · rename_i hn
          cases h
          obtain ⟨hz, xs2, hx2, rv2⟩ := hs.ob n _ a el hb
          obtain ⟨st3, hs3⟩ := put_lst (l' := l.set j v) (xs' := xs2.set j x) hs el hb hx2 (by rw [List.length_set]; exact hz) (Rvs.set (Rv.dn hn rx) j rv2)
          exact ⟨_, st3, hs3, fun Q q => .inl ⟨a, xs2, k, j, rfl, rfl, hx2, by rw [← rv2.len]; exact ej, q⟩⟩
        · cases h
    · cases h
  · rename_i t kvs el
    split at h
    · rename_i d
      split at h
      · rename_i hc
        cases h
        obtain ⟨hk, hn, hlen⟩ := hc
        have ro := hs.ob n _ a el hb
        have rx' := Rv.dn hn rx
        have hlm : mil ≤ sizeLine := mil_le (Nat.le_refl _)
        cases t with
        | false =>
          obtain ⟨ks, h1, h2⟩ := ro
          obtain ⟨k, ek⟩ := Option.isSome_iff_exists.mp (show (keyQ d).isSome = true from hk)
          have ey := key_V ri ek
          have := keyQ_eq ek
          subst this ey
          have hl2 : ks.length < sizeLine := by rw [← Paired.length h2]; omega
          have h2' : KvR keyD (Rv (cf X zx).o H β) kvs ks := h2
          have st : Step β H β (upd H a (.dK (putK ks k x))) := Step.put (List.mem_of_getElem? hb) h1 trivial
          obtain ⟨st3, hs3⟩ := put_dic (t := false) (kvs' := dPut kvs (keyD k) v) hs el hb h1 trivial ⟨putK ks k x, upd_same, Paired.mapP (KvR.put kEq_D rx' h2') fun p q z => ⟨z.1, st.rv z.2⟩⟩
          exact ⟨_, st3, hs3, fun Q q => .inr ⟨a, _, rfl, DPut.k h1 hl2, q⟩⟩
        | true =>
          obtain ⟨ks, h1, h2⟩ := ro
          obtain ⟨k, ek⟩ := Option.isSome_iff_exists.mp (show (keysQ d).isSome = true from hk)
          obtain ⟨b, rfl, eb⟩ := keyT_V ri ek
          have := keysQ_eq ek
          subst this
          have hl2 : ks.length < sizeLine := by rw [← Paired.length h2]; omega
          have h2' : KvR keysD (Rv (cf X zx).o H β) kvs ks := h2
          have st : Step β H β (upd H a (.dT (putK ks k x))) := Step.put (List.mem_of_getElem? hb) h1 trivial
          obtain ⟨st3, hs3⟩ := put_dic (t := true) (kvs' := dPut kvs (keysD k) v) hs el hb h1 trivial ⟨putK ks k x, upd_same, Paired.mapP (KvR.put kEq_Ds rx' h2') fun p q z => ⟨z.1, st.rv z.2⟩⟩
          exact ⟨_, st3, hs3, fun Q q => .inr ⟨a, _, rfl, DPut.t h1 eb hl2, q⟩⟩
      · cases h
    · cases h
  · cases h
theorem dg_sub {i : Expr} {g : ME} (hu : X.A.units + 64 < cLine) (ho : DE X zx WF o f) (hi : DE X zx WF i g)
    (ha : ∀ v, assign (.Subscript o i pos) X.env v = (do
      let ov ← holding [v] (eval o X.env)
      let iv ← holding [v, ov] (eval i X.env)
      standAt pos
      holding [v, ov, iv] (setItem ov iv v)
      release [v, ov, iv] []) := by intro _; rfl) : DG X zx (.Subscript o i pos) (gSubM f g) := PG.imp (pg_sub ho hi (set_any (by omega)) ha) fun v σ H Q ⟨β, ρ, s, x, hl, hs, rx, q⟩ => by
  refine ⟨β, ρ, s, hl, hs, ?_⟩
  unfold gSubM at q
  cases ef : f ρ s with
  | bad => rw [ef] at q; exact q.elim
  | ex x1 s1 => rw [ef] at q; exact q.elim
  | ok v1 s1 =>
    rw [ef] at q
    cases v1 with
    | ref n =>
      intro β1 H1 u st1 hs1 r1
      obtain ⟨a, hb, rfl⟩ := r1
      refine ⟨β1, ρ, s1, hl.step st1, hs1, ?_⟩
      dsimp only at q
      cases eg : g ρ s1 with
      | bad => rw [eg] at q; exact q.elim
      | ex x1 s2 => rw [eg] at q; exact q.elim
      | ok v2 s2 =>
        rw [eg] at q
        dsimp only at q
        intro β2 H2 u2 st2 hs2 r2
        cases ep : putIx n v2 x s2 with
        | none => rw [ep] at q; exact q.elim
        | some s3 =>
          rw [ep] at q
          dsimp only at q
          obtain ⟨t, ht⟩ := st2.pre
          have hb2 : β2.b[n]? = some a := by
            rw [← ht, List.getElem?_append_left (List.getElem?_eq_some_iff.mp hb).1]
            exact hb
          obtain ⟨H3, st3, hs3, go⟩ := putIx_go hs2 hb2 r2 (st2.rv (st1.rv rx)) ep
          exact go _ (q β2 σ _ ((st1.trans st2).trans st3) (((hl.step st1).step st2).step st3) hs3)
    | _ => exact q.elim
end
def pairs (ds : List PyData) : Nat → List Vl
  | k => match ds with
    | [] => []
    | d :: r => .dat (.tuple [.int k, d]) :: pairs r (k + 1)
theorem pairs_len : ∀ (ds : List PyData) (k : Nat), (pairs ds k).length = ds.length
  | [], _ => rfl
  | d :: r, k => by
    show (pairs r (k + 1)).length + 1 = r.length + 1
    rw [pairs_len r (k + 1)]
theorem pairs_get : ∀ {ds : List PyData} {k i : Nat} {d : PyData}, ds[i]? = some d → (pairs ds k)[i]? = some (.dat (.tuple [.int ((k + i : Nat) : Int), d]))
  | [], _, _, _, h => by simp at h
  | d :: r, k, 0, e, h => by
    have : d = e := by simpa using h
    subst this
    rfl
  | d :: r, k, i + 1, e, h => by
    have h' : r[i]? = some e := by simpa using h
    show (pairs r (k + 1))[i]? = _
    rw [pairs_get h', show k + 1 + i = k + (i + 1) by omega]
def iEn (r : MA) : MI := fun ρ s => (r ρ s).bind fun vs s1 => match vs with
  | [.dat (.tuple ds)] => .ok ⟨pairs ds 0, none⟩ s1
  | _ => .bad
section
variable {X : Cx} {zx : Exo} {W : WX}
theorem di_enT {e : Expr} {r : MA} {p pos tpos : Pos} {elts : List Expr} {kk : Nat} (hg : Gl X "enumerate") (hm : X.mg "enumerate" = none) (ha : DA X zx W [e] r) (hs : starEach [e] X.env = [(false, eval e X.env)] := by rfl) : DI X zx W (.Tuple elts kk tpos) (.Call (.Name "enumerate" p) [e] [] pos) (iEn r) := PI.imp (pi_enT hg hm ha hs) fun σ H T q => by
  obtain ⟨β, ρ, s, hl, hs, hp⟩ := q
  refine ⟨β, ρ, s, hl, hs, Post.bind hp fun vs s1 β1 H1 us st1 hs1 r1 h1 => ?_⟩
  split at h1
  · rename_i ds
    obtain ⟨x, rfl, rx⟩ := rvs1 r1
    cases rx with
    | @tup a xs _ hx hz dx =>
      refine ⟨a, xs, rfl, hx.sqt, h1 β1 H1 _ (Step.refl _ _) hs1 ?_⟩
      have w := walk_enT (K := X.K) (a := a) (xs := xs)
      have hlen := dx.len
      refine ⟨fun i β' s' H' hi st hs' _ => w.goes i H' (by rw [hlen]; simpa [pairs_len] using hi) (st.sqt (hx.sqt)), fun β' s' H' st hs' _ => ?_, fun i β' s' H' x H2 hi st hs' _ y => ?_⟩
      · have := w.stops H' (st.sqt (hx.sqt))
        simpa [pairs_len, hlen] using this
      · obtain ⟨T2, v, rfl, hT, rfl, hv⟩ := w.yields i H' x H2 (by rw [hlen]; simpa [pairs_len] using hi) (st.sqt (hx.sqt)) y
        obtain ⟨d, h1, h2⟩ := (st.dqs dx).get hv
        refine ⟨same_new hT, _, pairs_get h1, ?_⟩
        rw [Nat.zero_add]
        exact Dq.tup (TupA.of rfl upd_same) (thou (by show 2 ≤ 1000; decide)) (.cons (.int _) (.cons ((Step.lay hT).dq h2) .nil))
  · exact h1.elim
end
end Pm
set_option maxRecDepth 100000
set_option maxHeartbeats 4000000
namespace Pm
open PySem PySem.Spec PyProof.Rows L2 Sw
def clsB (s : Stmt) : List Stmt := match s with
  | .ClassDef _ _ _ b _ _ _ _ _ _ _ => b
  | _ => []
/-- what the text says of the class, where it is made -/
structure Mk2 (K : PySem.W.Frag) (mg : Str → Option Value) (nm f1 f2 : Str) (C fI : Addr) : Prop where
  oex : OexC K C
  gC : mg nm = some (.ref C)
  iC : PySem.W.findIn K (.ref C) "__init__" = some (some (.ref fI))
  tI : PySem.W.typeIn K (.ref fI) = some (.type "function")
  no1 : PySem.W.findIn K (.ref C) f1 = some none
  no2 : PySem.W.findIn K (.ref C) f2 = some none
def spIn2 (C : Addr) (f1 f2 : Str) : Sp := fun vs H Q _ => ∃ (a : Addr) (x y : V), vs = [.ref a, x, y] ∧ H a = some (L2.exo a C none) ∧
  ∀ dx, H dx = none → dx ≠ a → Q .non (upd (upd (upd H dx (exd dx [(f1, x)])) a (L2.exo a C (some dx))) dx (exd dx [(f2, y), (f1, x)]))
/-- C(x, y), made -/
theorem in2 {C : Addr} {f1 f2 : Str} {H1 : Hp} {x y : V} {Q : XK} (q : ∀ d, H1 d = none → Q (.ref C) (some d) (upd H1 d (.xd [(f2, y), (f1, x)]))) :
    [x, y].length ≤ 1000 ∧ ∀ a, H1 a = none → spIn2 C f1 f2 (.ref a :: ([x, y] ++ [])) (upd H1 a (L2.exo a C none)) (fun v H2 => v = .non ∧ ∃ (d : Addr) (fs : List (Str × V)), H2 a = some (L2.exo a C (some d)) ∧ H2 d = some (exd d fs) ∧ H1 d = none ∧ Q (.ref C) (some d) (upd (L2.del H2 a) d (.xd fs))) (fun _ _ _ => False) := by
  refine ⟨by show 2 ≤ 1000; decide, fun a ha => ⟨a, x, y, rfl, upd_same, fun dx hdx ne => ⟨rfl, dx, _, ?_, upd_same, ?_, ?_⟩⟩⟩
  · rw [upd_ne (Ne.symm ne)]
    exact upd_same
  · rw [upd_ne ne] at hdx
    exact hdx
  · rw [upd_ne ne] at hdx
    refine cast (congrArg _ ?_) (q dx hdx)
    funext b
    by_cases h1 : b = dx
    · rw [h1, upd_same, upd_same]
    · rw [upd_ne h1, upd_ne h1]
      by_cases h2 : b = a
      · rw [h2, ha]
        exact (L2.del_same).symm
      · rw [L2.del_ne h2, upd_ne h1, upd_ne h2, upd_ne h1, upd_ne h2]
def spIn1 (C : Addr) (f1 : Str) : Sp := fun vs H Q _ => ∃ (a : Addr) (x : V), vs = [.ref a, x] ∧ H a = some (L2.exo a C none) ∧
  ∀ dx, H dx = none → dx ≠ a → Q .non (upd (upd H dx (exd dx [(f1, x)])) a (L2.exo a C (some dx)))
theorem in1 {C : Addr} {f1 : Str} {H1 : Hp} {x : V} {Q : XK} (q : ∀ d, H1 d = none → Q (.ref C) (some d) (upd H1 d (.xd [(f1, x)]))) :
    [x].length ≤ 1000 ∧ ∀ a, H1 a = none → spIn1 C f1 (.ref a :: ([x] ++ [])) (upd H1 a (L2.exo a C none)) (fun v H2 => v = .non ∧ ∃ (d : Addr) (fs : List (Str × V)), H2 a = some (L2.exo a C (some d)) ∧ H2 d = some (exd d fs) ∧ H1 d = none ∧ Q (.ref C) (some d) (upd (L2.del H2 a) d (.xd fs))) (fun _ _ _ => False) := by
  refine ⟨by show 1 ≤ 1000; decide, fun a ha => ⟨a, x, rfl, upd_same, fun dx hdx ne => ⟨rfl, dx, [(f1, x)], upd_same, ?_, ?_, ?_⟩⟩⟩
  · rw [upd_ne ne]; exact upd_same
  · rw [upd_ne ne] at hdx
    exact hdx
  · rw [upd_ne ne] at hdx
    refine cast (congrArg _ ?_) (q dx hdx)
    funext b
    by_cases h1 : b = dx
    · rw [h1, upd_same, upd_same]
    · rw [upd_ne h1, upd_ne h1]
      by_cases h2 : b = a
      · rw [h2, ha]
        exact (L2.del_same).symm
      · rw [L2.del_ne h2, upd_ne h2, upd_ne h1, upd_ne h2]
theorem rvs2 {G : Cf} {H : Hp} {β : Bs} {v w : Vl} {xs : List V} (r : Rvs G H β [v, w] xs) : ∃ x y, xs = [x, y] ∧ Rv G H β v x ∧ Rv G H β w y := by
  cases r with
  | cons r0 r1 =>
    cases r1 with
    | cons r1 r2 => cases r2; exact ⟨_, _, rfl, r0, r1⟩
def sRaise2 (nm f1 f2 : Str) (r : MA) : MS := fun ρ s => (r ρ s).to ρ fun vs s1 => match vs with
  | [.dat x, .dat y] => .ex (nm, [(f2, y), (f1, x)]) ρ s1
  | _ => .bad
section
variable {X : Cx} {zx : Exo} {W : WX} {k : Nat} {nm f1 f2 : Str} {C fI : Addr} {fd : FuncData} {ps : List Str} {e : Expr} {es : List Expr} {r : MA} {p pos pos2 : Pos}
theorem ds_raise2 (hc : X.calm = true) (tk : Takes X W) (T : Mk2 X.K X.mg nm f1 f2 C fI) (F : FnOk X.prog X.w X.K X.mg X.base CX0 k fI fd ps (spIn2 C f1 f2)) (hr : Room (k + 1) X.A) (hb : Binds X.K fd ps []) (hg : Gl X nm) (ha : DA X zx W (e :: es) r)
    (hdb : (nm == ("__debug__" : Str)) = false := by decide) (he : starEach (e :: es) X.env = (false, eval e X.env) :: starEach es X.env := by rfl) (hpl : (backTo pos2 (starEach es X.env)).any (·.1) = false := by rfl) :
    DS X zx W (.Raise (some (.Call (.Name nm p) (e :: es) [] pos2)) none pos) (sRaise2 nm f1 f2 r) := PS.imp (ps_raise hc tk (pmk_oex T.oex T.iC T.tI F hr hb .nil pass0 hg T.gC ha hdb he hpl)) fun D σ H ⟨β, ρ, s, hl, hs, q⟩ => by
  refine ⟨β, ρ, s, hl, hs, PostS.to hl q fun vs s1 β1 H1 us st1 hs1 r1 h1 => ?_⟩
  split at h1
  · rename_i x y
    obtain ⟨v, w, rfl, r0, r1⟩ := rvs2 r1
    have r0 : Dq X.K H1 β1 v x := r0
    have r1 : Dq X.K H1 β1 w y := r1
    refine in2 (H1 := H1) (C := C) (f1 := f1) (f2 := f2) (x := v) (y := w) (Q := fun cls d H' => W cls d σ H') fun d hd => ?_
    exact h1 β1 σ _ _ _ (Step.lay hd) ((hl.step st1).step (Step.lay hd)) (hs1.same (same_new hd)) ⟨C, d, [(f2, w), (f1, v)], T.gC, rfl, rfl, upd_same, hs1.nin hd, .cons ⟨rfl, (Step.lay hd).dq r1⟩ (.cons ⟨rfl, (Step.lay hd).dq r0⟩ .nil)⟩
  · exact h1.elim
end
theorem RelL.up {K : PySem.W.Frag} {mg : Str → Option Value} {z : Exo} {H : Hp} {β : Bs} {ρ : Loc} {σ : L2.St} (h : RelL ⟨K, mg, none⟩ H β ρ σ) : RelL ⟨K, mg, z⟩ H β ρ σ := ⟨h.len, fun i v e => by
  obtain ⟨u, h1, h2⟩ := h.at' i v e
  exact ⟨u, h1, Rv.up (G := ⟨K, mg, z⟩) h2⟩⟩
end Pm
set_option maxRecDepth 100000
set_option maxHeartbeats 4000000
namespace Pm
open PySem PySem.Spec PyProof.Rows L2 Sw
def refOk (n : Nat) : Vl → Prop
  | .ref m => m < n
  | .lam _ _ _ _ ρ => ∀ (i m : Nat), ρ[i]? = some (some (.inr m)) → m < n
  | _ => True
def obOk (n : Nat) : Ob → Prop
  | .lst l => ∀ v ∈ l, refOk n v
  | .dic _ l => ∀ p ∈ l, refOk n p.2
  | .ins _ l => ∀ p ∈ l, refOk n p.2
  | .tup l => ∀ v ∈ l, refOk n v
def Closed (s : Sto) : Prop := ∀ o ∈ s, obOk s.length o
theorem Dq.sub {K : PySem.W.Frag} {H : Hp} {β β' : Bs} (i : ∀ x ∈ β'.b, x ∈ β.b) (j : ∀ x ∈ β'.g, x ∈ β.g) {v : V} {d : PyData} (h : Dq K H β v d) : Dq K H β' v d := h.tr (fun _ _ _ h => ⟨h.1, fun z => h.2.1 (i _ z), fun z => h.2.2 (j _ z)⟩) fun _ _ _ h => h
theorem DqAll.sub {K : PySem.W.Frag} {H : Hp} {β β' : Bs} (i : ∀ x ∈ β'.b, x ∈ β.b) (j : ∀ x ∈ β'.g, x ∈ β.g) {vs : List V} {ds : List PyData} (h : DqAll K H β vs ds) : DqAll K H β' vs ds := h.tr (fun _ _ _ h => ⟨h.1, fun z => h.2.1 (i _ z), fun z => h.2.2 (j _ z)⟩) fun _ _ _ h => h
def Bs.cut (β : Bs) (n : Nat) : Bs := ⟨β.b.take n, β.g⟩
section
variable {G : Cf} {H : Hp} {β : Bs} {n : Nat}
theorem cut_b : ∀ x ∈ (β.cut n).b, x ∈ β.b := fun x h => List.mem_of_mem_take h
theorem Rv.cut {v : Vl} {u : V} (h : refOk n v) (r : Rv G H β v u) : Rv G H (β.cut n) v u := by
  cases v with
  | dat p => exact Dq.sub (β := β) cut_b (fun _ z => z) r
  | ref m =>
    obtain ⟨a, e, q⟩ := r
    exact ⟨a, by show (β.b.take n)[m]? = some a; rw [List.getElem?_take_of_lt h]; exact e, q⟩
  | scr ns => exact r
  | exo nm fs =>
    obtain ⟨a, c, d, e, q, C, dd, xs, h1, h2, h3, h4, h5, h6⟩ := r
    exact ⟨a, c, d, e, q, C, dd, xs, h1, h2, h3, h4, fun z => h5 (cut_b _ z), Paired.mapP h6 fun p q z => ⟨z.1, Dq.sub (β := β) cut_b (fun _ z => z) z.2⟩⟩
  | fn nm => exact r
  | lam f c q σ ρ =>
    obtain ⟨e, hc, nn, r⟩ := r
    refine ⟨e, hc, ⟨fun z => nn.1 (cut_b _ z), nn.2⟩, r.1, fun i x e => ?_⟩
    obtain ⟨u, h1, h2⟩ := r.2 i x e
    refine ⟨u, h1, ?_⟩
    cases x with
    | inl p => exact Dq.sub (β := β) cut_b (fun _ z => z) h2
    | inr m =>
      obtain ⟨a, e', q⟩ := h2
      exact ⟨a, by show (β.b.take n)[m]? = some a; rw [List.getElem?_take_of_lt (h i m e)]; exact e', q⟩
theorem pair_cut {α : Type} {κ : α → Vl} {γ : Type} {μ : γ → V} {F : α → γ → Prop} : ∀ {l : List α} {m : List γ}, (∀ p ∈ l, refOk n (κ p)) → Paired (fun p q => F p q ∧ Rv G H β (κ p) (μ q)) l m → Paired (fun p q => F p q ∧ Rv G H (β.cut n) (κ p) (μ q)) l m
  | _, _, _, .nil => .nil
  | _, _, h, .cons r t => .cons ⟨r.1, Rv.cut (h _ List.mem_cons_self) r.2⟩ (pair_cut (fun p hp => h p (List.mem_cons_of_mem _ hp)) t)
theorem Rvs.cut : ∀ {vs : List Vl} {us : List V}, (∀ v ∈ vs, refOk n v) → Rvs G H β vs us → Rvs G H (β.cut n) vs us
  | _, _, _, .nil => .nil
  | _, _, h, .cons r t => .cons (Rv.cut (h _ List.mem_cons_self) r) (Rvs.cut (fun p hp => h p (List.mem_cons_of_mem _ hp)) t)
theorem RO.cut {a : Addr} {o : Ob} (h : obOk n o) (r : RO G H β a o) : RO G H (β.cut n) a o := by
  cases o with
  | tup l => obtain ⟨hl, xs, e, r⟩ := r; exact ⟨hl, xs, e, Rvs.cut h r⟩
  | lst l => obtain ⟨hl, xs, e, r⟩ := r; exact ⟨hl, xs, e, Rvs.cut h r⟩
  | dic t l =>
    cases t
    · obtain ⟨xs, e, r⟩ := r; exact ⟨xs, e, pair_cut (κ := fun p : PyData × Vl => p.2) (μ := fun q : Key × V => q.2) (F := fun p q => p.1 = keyD q.1) h r⟩
    · obtain ⟨xs, e, r⟩ := r; exact ⟨xs, e, pair_cut (κ := fun p : PyData × Vl => p.2) (μ := fun q : List Key × V => q.2) (F := fun p q => p.1 = keysD q.1) h r⟩
  | ins c l =>
    obtain ⟨C, dx, xs, hm, e, hd, nn, r⟩ := r
    exact ⟨C, dx, xs, hm, e, hd, fun z => nn (cut_b _ z), pair_cut (κ := fun p : Str × Vl => p.2) (μ := fun q : Str × V => q.2) (F := fun p q => p.1 = q.1) h r⟩
theorem RelS.cut {s1 more : Sto} (h : RelS G β (s1 ++ more) H) (hc : Closed s1) : RelS G (β.cut s1.length) s1 H := by
  have hl := h.len
  rw [List.length_append] at hl
  refine ⟨by show (β.b.take s1.length).length = _; rw [List.length_take]; omega, h.nd.sublist (List.take_sublist _ _), fun m o a h1 h2 => ?_, fun a ha => ?_, TabsB.mono (β := β) (β' := β.cut s1.length) (fun x hx => .inl (cut_b x hx)) (fun x hx => .inr (.inl hx)) h.tb⟩
  · have hm := (List.getElem?_eq_some_iff.mp h1).1
    have h2 : (β.b.take s1.length)[m]? = some a := h2
    rw [List.getElem?_take_of_lt hm] at h2
    exact RO.cut (hc o (List.mem_of_getElem? h1)) (h.ob m o a (by rw [List.getElem?_append_left hm]; exact h1) h2)
  · obtain ⟨h1, h2⟩ := h.gs a ha
    exact ⟨h1, fun z => h2 (cut_b _ z)⟩
theorem Step.cut {β' : Bs} {H' : Hp} (st : Step β H β' H') (h : β.b.length ≤ n) : Step β H (β'.cut n) H' := by
  obtain ⟨t, ht⟩ := st.pre
  refine ⟨⟨t.take (n - β.b.length), ?_⟩, st.gsub, st.gam, fun a ha => st.new a (cut_b a ha), st.keep, st.tups, st.frzs, st.liv, fun t => TabsB.mono (β := β') (β' := β'.cut n) (fun x hx => .inl (cut_b x hx)) (fun x hx => .inr (.inl hx)) (st.tbs t)⟩
  show β.b ++ t.take (n - β.b.length) = β'.b.take n
  rw [← ht, List.take_append, List.take_of_length_le h]
end
end Pm
set_option maxRecDepth 100000
set_option maxHeartbeats 4000000
namespace Pm
open PySem PySem.Spec PyProof.Rows L2 Sw
section
variable {X : Cx} {zx : Exo} {W : WX}
theorem PTs.imp {ifs : List Expr} {t t' : TT} (h : PTs X ifs t) (i : ∀ σ H Q, t' σ H Q → t σ H Q) : PTs X ifs t' := ⟨fun pins s σ H Q I q => h.run pins s σ H Q I (i σ H Q q)⟩
abbrev DTs (X : Cx) (zx : Exo) (W : WX) (ifs : List Expr) (f : MT) : Prop := PTs X ifs (tG (cf X zx) rB W f)
theorem dts_nil : DTs X zx W [] tYesM := PTs.imp pts_nil fun σ H Q ⟨β, ρ, s, hl, hs, hp⟩ => hp β H _ (Step.refl _ _) hs rfl
theorem dts_one {c : Expr} {f : MT} (h : DT X zx W c f) : DTs X zx W [c] f := pts_one h
/-- set(t) of a tuple of numbers -/
def rSetIT (K : PySem.W.Frag) (w : World) : List V → Hp → VK → Prop := fun vs H Q => ∃ (l : Addr) (ns : List Int), vs = [.ref l] ∧ SqT K H l (ns.map V.int) ∧ ns.length ≤ 60 ∧
  ∀ a c, H a = none → c ≤ ns.length → Q (.ref a) (upd H a (SetO w a (fun j => decide (j ∈ ns)) c))
theorem cr_setIT (hc : X.calm = true) : CallR X (.type "set") (rSetIT X.K X.w) := by
  intro pins s σ H vs us Q I r h
  obtain ⟨l, ns, rfl, hl, hn, q⟩ := h
  obtain ⟨its, rv, hp, _⟩ := I.tuple hl
  rw [Vals.ref1 r]
  refine call_set_tupI ns (I.ok.hd hc) hp (by simpa using rv.ints) (by unfold scanBound; omega) ?_
  intro h' tk c hS hcl k
  exact ⟨.ref s.heap.objs.size, _, I.laid (t' := tk) (o := SetO X.w s.heap.objs.size (fun j => decide (j ∈ ns)) c) k (Nat.le_refl _) (setO_new hS), rfl, q _ c (I.hok.fresh (Nat.le_refl _)) hcl⟩
end
def insI (a : Int) : List Int → List Int
  | [] => [a]
  | b :: r => if a < b then a :: b :: r else if a = b then b :: r else b :: insI a r
def risI (ns : List Int) : List Int := ns.foldr insI []
theorem mem_insI {a k : Int} : ∀ {r : List Int}, k ∈ insI a r ↔ k = a ∨ k ∈ r
  | [] => by simp [insI]
  | b :: r => by
    unfold insI
    split
    · simp
    · split
      · rename_i h; subst h; simp
      · rw [List.mem_cons, mem_insI, List.mem_cons]
        constructor
        · rintro (h | h | h)
          · exact .inr (.inl h)
          · exact .inl h
          · exact .inr (.inr h)
        · rintro (h | h | h)
          · exact .inr (.inl h)
          · exact .inl h
          · exact .inr (.inr h)
theorem sorted_insI {a : Int} : ∀ {r : List Int}, r.Pairwise (· < ·) → (insI a r).Pairwise (· < ·)
  | [], _ => by simp [insI]
  | b :: r, h => by
    have hc := List.pairwise_cons.mp h
    unfold insI
    split
    · rename_i hab
      refine List.pairwise_cons.mpr ⟨fun x hx => ?_, h⟩
      rcases List.mem_cons.mp hx with rfl | hx
      · exact hab
      · have := hc.1 x hx
        omega
    · split
      · exact h
      · rename_i h1 h2
        refine List.pairwise_cons.mpr ⟨fun x hx => ?_, sorted_insI hc.2⟩
        rcases mem_insI.mp hx with rfl | hx
        · omega
        · exact hc.1 x hx
theorem mem_risI {k : Int} : ∀ {ns : List Int}, k ∈ risI ns ↔ k ∈ ns
  | [] => Iff.rfl
  | n :: ns => by
    show k ∈ insI n (risI ns) ↔ _
    rw [mem_insI, mem_risI, List.mem_cons]
theorem sorted_risI : ∀ ns : List Int, (risI ns).Pairwise (· < ·)
  | [] => List.Pairwise.nil
  | n :: ns => sorted_insI (sorted_risI ns)
theorem ris_eq : ∀ {xs ys : List Int}, xs.Pairwise (· < ·) → ys.Pairwise (· < ·) → (∀ k, k ∈ xs ↔ k ∈ ys) → xs = ys
  | [], [], _, _, _ => rfl
  | [], y :: ys, _, _, h => by have := (h y).mpr List.mem_cons_self; simp at this
  | x :: xs, [], _, _, h => by have := (h x).mp List.mem_cons_self; simp at this
  | x :: xs, y :: ys, hx, hy, h => by
    have hx' := List.pairwise_cons.mp hx
    have hy' := List.pairwise_cons.mp hy
    have e : x = y := by
      have h1 := (h x).mp List.mem_cons_self
      have h2 := (h y).mpr List.mem_cons_self
      rcases List.mem_cons.mp h1 with h1 | h1
      · exact h1
      · rcases List.mem_cons.mp h2 with h2 | h2
        · exact h2.symm
        · have a := hy'.1 x h1
          have b := hx'.1 y h2
          omega
    subst e
    rw [ris_eq hx'.2 hy'.2 fun k => ?_]
    constructor
    · intro hk
      have := (h k).mp (List.mem_cons_of_mem _ hk)
      rcases List.mem_cons.mp this with z | z
      · have a := hx'.1 k hk
        omega
      · exact z
    · intro hk
      have := (h k).mpr (List.mem_cons_of_mem _ hk)
      rcases List.mem_cons.mp this with z | z
      · have a := hy'.1 k hk
        omega
      · exact z
/-- all of a list are numbers -/
def nums : List PyData → Option (List Int)
  | [] => some []
  | .int i :: r => (nums r).map (i :: ·)
  | _ :: _ => none
theorem nums_eq : ∀ {ds : List PyData} {ns : List Int}, nums ds = some ns → ds = ns.map PyData.int
  | [], ns, h => by
    have : [] = ns := by simpa [nums] using h
    subst this
    rfl
  | d :: r, ns, h => by
    cases d with
    | int i =>
      cases e : nums r with
      | none => simp [nums, e] at h
      | some l =>
        have : i :: l = ns := by simpa [nums, e] using h
        subst this
        rw [nums_eq e]
        rfl
    | _ => simp [nums] at h
@[simp] theorem nums_map : ∀ ns : List Int, nums (ns.map PyData.int) = some ns
  | [] => rfl
  | n :: ns => by simp [nums, nums_map ns]
theorem dq_ints_of {K : PySem.W.Frag} {H : Hp} {β : Bs} : ∀ {ns : List Int} {xs : List V}, DqAll K H β xs (ns.map PyData.int) → xs = ns.map V.int
  | [], [], _ => rfl
  | n :: ns, x :: xs, .cons h t => by
    rw [dq_ints_of t]
    cases h
    rfl
def phSS : List Vl → Sto → Option Vl
  | [.dat (.tuple ds)], _ => (nums ds).bind fun ns => if ns.length ≤ 60 then some (.dat (.list ((risI ns).map PyData.int))) else none
  | _, _ => none
theorem risI_len (ns : List Int) : (risI ns).length ≤ ns.length := by
  have key : ∀ (a : Int) (r : List Int), (insI a r).length ≤ r.length + 1 := by
    intro a r
    induction r with
    | nil => simp [insI]
    | cons b r ih =>
      unfold insI
      split
      · simp
      · split
        · simp
        · simp; omega
  induction ns with
  | nil => exact Nat.le_refl _
  | cons n ns ih =>
    have := key n (risI ns)
    show (insI n (risI ns)).length ≤ ns.length + 1
    omega
section
variable {X : Cx} {zx : Exo} {W : WX}
theorem de_ss {e : Expr} {r : MA} {p p2 pos pos2 : Pos} (hc : X.calm = true) (hgs : Gl X "sorted") (hms : X.mg "sorted" = none) (hgt : Gl X "set") (hmt : X.mg "set" = none) (ha : DA X zx W [e] r)
    (he : starEach [e] X.env = (false, eval e X.env) :: starEach [] X.env := by rfl)
    (hs2 : starEach [Expr.Call (.Name "set" p2) [e] [] pos2] X.env = (false, eval (Expr.Call (.Name "set" p2) [e] [] pos2) X.env) :: starEach [] X.env := by rfl) :
    DE X zx W (.Call (.Name "sorted" p) [.Call (.Name "set" p2) [e] [] pos2] [] pos) (mn phSS r) :=
  PE.imp (pe_callB (cr_sortedSet hc) hgs hms (by decide +kernel) (pa_cons (pe_callTy (cr_setIT hc) hgt hmt (by decide +kernel) ha (by decide) (by decide) he) pa_nil hs2) (by decide) (by decide) hs2) fun σ H Q ⟨β, ρ, s, hl, hs, hp⟩ => by
  refine ⟨β, ρ, s, hl, hs, Post.bind hp fun vs s1 β1 H1 us st1 hs1 r1 h1 => ?_⟩
  obtain ⟨z, ez, q⟩ := post_of h1 hs1
  unfold phSS at ez
  split at ez
  · obtain ⟨ns, en, ez⟩ := Option.bind_eq_some_iff.mp ez
    · have ez : (if ns.length ≤ 60 then some (Vl.dat (.list ((risI ns).map PyData.int))) else none) = some z := ez
      split at ez
      · rename_i hl60
        cases ez
        have := nums_eq en
        subst this
        obtain ⟨x, rfl, rx⟩ := rvs1 r1
        cases rx with
        | @tup a xs _ hx hz dx =>
          have := dq_ints_of dx
          subst this
          refine ⟨a, ns, rfl, hx.sqt, hl60, fun t2 c ht2 hc2 => ?_⟩
          refine ⟨t2, _, c, rfl, upd_same, by omega, fun ms t3 hsd hm hlm ht3 => ?_⟩
          have em : ms = risI ns := ris_eq hsd (sorted_risI ns) fun k => by rw [hm, mem_risI]; simp
          subst em
          have sm := (same_new (o := SetO X.w t2 (fun j => decide (j ∈ ns)) c) ht2).trans (same_new (o := .lst ((risI ns).map V.int)) ht3)
          have hs3 := hs1.same (same_new (o := SetO X.w t2 (fun j => decide (j ∈ ns)) c) ht2)
          refine q _ _ sm (.lst ⟨upd_same, hs3.nin ht3, hs3.nig ht3⟩ ?_ (dq_ints _))
          rw [List.length_map]
          exact thou (Nat.le_trans (risI_len ns) (by omega))
      · cases ez
  · cases ez
end
end Pm
set_option maxRecDepth 100000
set_option maxHeartbeats 4000000
namespace Pm
open PySem PySem.Spec PyProof.Rows L2 Sw
section
variable {ρ : Loc} {s : Sto} {f g h : ME} {r : MA} {t u : MT} {a b : MS}
theorem mVar_ap {i : Nat} : mVar i ρ s = (match ρ[i]? with | some (some v) => .ok v s | _ => .bad) := rfl
@[simp] theorem mVar_at {i : Nat} {v : Vl} (h : ρ[i]? = some (some v)) : mVar i ρ s = .ok v s := by rw [mVar_ap, h]
@[simp] theorem mVar_0 {v : Vl} {l : Loc} : mVar 0 (some v :: l) s = .ok v s := rfl
@[simp] theorem mVar_S {i : Nat} {o : Option Vl} {l : Loc} : mVar (i + 1) (o :: l) s = mVar i l s := rfl
@[simp] theorem mC_ap {p : PyData} : mC p ρ s = .ok (.dat p) s := rfl
@[simp] theorem m2_ap {ph : Vl → Vl → Sto → Option Vl} : m2 ph f g ρ s = (f ρ s).bind fun v s1 => (g ρ s1).bind fun w s2 => R.of (ph v w s2) s2 := rfl
@[simp] theorem m1_ap {ph : Vl → Sto → Option Vl} : m1 ph f ρ s = (f ρ s).bind fun v s1 => R.of (ph v s1) s1 := rfl
@[simp] theorem mn_ap {ph : List Vl → Sto → Option Vl} : mn ph r ρ s = (r ρ s).bind fun v s1 => R.of (ph v s1) s1 := rfl
@[simp] theorem aNil_ap : aNil ρ s = .ok [] s := rfl
@[simp] theorem aCons_ap : aCons f r ρ s = (f ρ s).bind fun v s1 => (r ρ s1).bind fun vs s2 => .ok (v :: vs) s2 := rfl
@[simp] theorem mTup_ap : mTup r ρ s = (r ρ s).bind fun vs s1 => R.of ((datas vs).bind fun ds => if ds.length ≤ 1000 then some (.dat (.tuple ds)) else none) s1 := rfl
@[simp] theorem mLst_ap : mLst r ρ s = (r ρ s).bind fun vs s1 => R.of ((datas vs).bind fun ds => if ds.length ≤ 1000 then some (.dat (.list ds)) else none) s1 := rfl
@[simp] theorem mNew_ap : mNew r ρ s = (r ρ s).bind fun vs s1 => if vs.length ≤ 1000 ∧ vs.all noX = true then .ok (.ref s1.length) (s1 ++ [.lst vs]) else .bad := rfl
@[simp] theorem mTru_ap : mTru f ρ s = (f ρ s).bind fun v s1 => R.of (tru v s1) s1 := rfl
@[simp] theorem mB_ap : mB f ρ s = (f ρ s).bind fun v s1 => R.of (bool? v) s1 := rfl
@[simp] theorem tAnd_ap : tAndM t u ρ s = (t ρ s).bind fun c s1 => if c = true then u ρ s1 else .ok false s1 := rfl
@[simp] theorem tOr_ap : tOrM t u ρ s = (t ρ s).bind fun c s1 => if c = true then .ok true s1 else u ρ s1 := rfl
@[simp] theorem tNot_ap : tNotM t ρ s = (t ρ s).bind fun c s1 => .ok (!c) s1 := rfl
@[simp] theorem tYes_ap : tYesM ρ s = .ok true s := rfl
@[simp] theorem mAnd_ap : mAnd f g ρ s = (f ρ s).bind fun v s1 => match tru v s1 with | some true => g ρ s1 | some false => .ok v s1 | none => .bad := rfl
@[simp] theorem mOr_ap : mOr f g ρ s = (f ρ s).bind fun v s1 => match tru v s1 with | some true => .ok v s1 | some false => g ρ s1 | none => .bad := rfl
@[simp] theorem mNot_ap : mNot f ρ s = (f ρ s).bind fun v s1 => R.of ((tru v s1).map fun k => .dat (.bool (!k))) s1 := rfl
@[simp] theorem mIf_ap : mIf t f g ρ s = (t ρ s).bind fun c s1 => if c = true then f ρ s1 else g ρ s1 := rfl
@[simp] theorem oNone_ap : oNone ρ s = .ok none s := rfl
@[simp] theorem oSome_ap : oSome f ρ s = (f ρ s).bind fun v s1 => R.of ((int? v).map some) s1 := rfl
@[simp] theorem mSl_ap {l h : MO} : mSl f l h ρ s = (f ρ s).bind fun v s1 => (l ρ s1).bind fun l s2 => (h ρ s2).bind fun h s3 => R.of (phSl v l h s3) s3 := rfl
@[simp] theorem mCall_ap {n : Nat} {g : MF} : mCall n g r ρ s = (r ρ s).bind fun vs s1 => if vs.length = n ∧ vs.all noX = true then g vs s1 else .bad := rfl
@[simp] theorem sSeq_ap : sSeq a b ρ s = (a ρ s).seq b := rfl
@[simp] theorem sExpr_ap : sExpr f ρ s = (f ρ s).to ρ fun _ s1 => .nx ρ s1 := rfl
@[simp] theorem sRet_ap : sRet f ρ s = (f ρ s).to ρ fun v s1 => .rt v s1 := rfl
@[simp] theorem sRetN_ap : sRetN ρ s = .rt (.dat .none) s := rfl
@[simp] theorem sIf_ap : sIf t a b ρ s = (t ρ s).to ρ fun c s1 => if c = true then a ρ s1 else b ρ s1 := rfl
@[simp] theorem sSet_ap {i : Nat} : sSet i f ρ s = (f ρ s).to ρ fun v s1 => .nx (ρ.set i (some v)) s1 := rfl
@[simp] theorem sAsg_ap {g : MG} : sAsg f g ρ s = (f ρ s).to ρ fun v s1 => (g v ρ s1).thn fun ρ2 s2 => .nx ρ2 s2 := rfl
@[simp] theorem sPar_ap {i j : Nat} : sPar i j r ρ s = (r ρ s).to ρ fun vs s1 => match vs with | [v, w] => .nx ((ρ.set i (some v)).set j (some w)) s1 | _ => .bad := rfl
@[simp] theorem sPar3_ap {i j l : Nat} : sPar3 i j l r ρ s = (r ρ s).to ρ fun vs s1 => match vs with | [v, w, x] => .nx (((ρ.set i (some v)).set j (some w)).set l (some x)) s1 | _ => .bad := rfl
@[simp] theorem sRaise2_ap {nm f1 f2 : Str} : sRaise2 nm f1 f2 r ρ s = (r ρ s).to ρ fun vs s1 => match vs with | [.dat x, .dat y] => .ex (nm, [(f2, y), (f1, x)]) ρ s1 | _ => .bad := rfl
@[simp] theorem sFor_ap {it : MI} {g : MG} : sFor it g b ρ s = (it ρ s).to ρ fun c s1 => forM c g b c.items ρ s1 := rfl
@[simp] theorem iSeq_ap : iSeq f ρ s = (f ρ s).bind fun v s1 => R.of (src v s1) s1 := rfl
@[simp] theorem gSet_ap {i : Nat} {v : Vl} : gSetM i v ρ s = .nx (ρ.set i (some v)) s := rfl
@[simp] theorem gNil_ap : gNilM [] ρ s = .nx ρ s := rfl
@[simp] theorem gCons_ap {g : MG} {r : MGs} {v : Vl} {vs : List Vl} : gConsM g r (v :: vs) ρ s = (g v ρ s).thn fun ρ1 s1 => r vs ρ1 s1 := rfl
@[simp] theorem gTup_ap {n : Nat} {r : MGs} {ds : List PyData} : gTupM n r (.dat (.tuple ds)) ρ s = if ds.length = n then r (ds.map Vl.dat) ρ s else .bad := rfl
@[simp] theorem iEn_ap : iEn r ρ s = (r ρ s).bind fun vs s1 => match vs with | [.dat (.tuple ds)] => .ok ⟨pairs ds 0, none⟩ s1 | _ => .bad := rfl
@[simp] theorem datas_nil : datas [] = some [] := rfl
@[simp] theorem datas_cons {p : PyData} {l : List Vl} : datas (.dat p :: l) = (datas l).map (p :: ·) := rfl
@[simp] theorem noX_dat {p : PyData} : noX (.dat p) = true := rfl
@[simp] theorem noX_ref {n : Nat} : noX (.ref n) = true := rfl
@[simp] theorem noX_scr {n : List Int} : noX (.scr n) = true := rfl
@[simp] theorem noX_fn {n : Str} : noX (.fn n) = true := rfl
@[simp] theorem bool?_b {k : Bool} : bool? (.dat (.bool k)) = some k := rfl
@[simp] theorem int?_i {i : Int} : int? (.dat (.int i)) = some i := rfl
@[simp] theorem tru_b {k : Bool} : tru (.dat (.bool k)) s = some k := rfl
@[simp] theorem tru_l {l : List PyData} : tru (.dat (.list l)) s = some (!l.isEmpty) := rfl
@[simp] theorem tru_t {l : List PyData} : tru (.dat (.tuple l)) s = some (!l.isEmpty) := rfl
@[simp] theorem tru_n : tru (.dat .none) s = some false := rfl
@[simp] theorem tru_i {i : Int} : tru (.dat (.int i)) s = some (i != 0) := rfl
@[simp] theorem src_t {l : List PyData} : src (.dat (.tuple l)) s = some ⟨l.map Vl.dat, none⟩ := rfl
@[simp] theorem src_l {l : List PyData} : src (.dat (.list l)) s = some ⟨l.map Vl.dat, none⟩ := rfl
@[simp] theorem phIsi_d {g : PyData → Bool} {p : PyData} : phIsi g (.dat p) s = some (.dat (.bool (g p))) := rfl
@[simp] theorem phAdd_i {i j : Int} : phAdd (.dat (.int i)) (.dat (.int j)) s = some (.dat (.int (i + j))) := rfl
@[simp] theorem phSub_i {i j : Int} : phSub (.dat (.int i)) (.dat (.int j)) s = some (.dat (.int (i - j))) := rfl
@[simp] theorem phNeg_i {i : Int} : phNeg (.dat (.int i)) s = some (.dat (.int (-i))) := rfl
@[simp] theorem phLt_i {i j : Int} : phLt (.dat (.int i)) (.dat (.int j)) s = some (.dat (.bool (decide (i < j)))) := rfl
@[simp] theorem phLe_i {i j : Int} : phLe (.dat (.int i)) (.dat (.int j)) s = some (.dat (.bool (decide (i ≤ j)))) := rfl
@[simp] theorem phGt_i {i j : Int} : phGt (.dat (.int i)) (.dat (.int j)) s = some (.dat (.bool (decide (j < i)))) := rfl
@[simp] theorem phGe_i {i j : Int} : phGe (.dat (.int i)) (.dat (.int j)) s = some (.dat (.bool (decide (j ≤ i)))) := rfl
@[simp] theorem phIx_t {ds : List PyData} {i : Int} : phIx (.dat (.tuple ds)) (.dat (.int i)) s = (atI ds i).map Vl.dat := rfl
@[simp] theorem phIx_l {ds : List PyData} {i : Int} : phIx (.dat (.list ds)) (.dat (.int i)) s = (atI ds i).map Vl.dat := rfl
@[simp] theorem phSl_t {ds : List PyData} {l h : Option Int} : phSl (.dat (.tuple ds)) l h s = some (.dat (.tuple (cut ds l h))) := rfl
@[simp] theorem phSl_l {ds : List PyData} {l h : Option Int} : phSl (.dat (.list ds)) l h s = some (.dat (.list (cut ds l h))) := rfl
@[simp] theorem phLen_t {ds : List PyData} : phLen [.dat (.tuple ds)] s = some (.dat (.int ds.length)) := rfl
@[simp] theorem phLen_l {ds : List PyData} : phLen [.dat (.list ds)] s = some (.dat (.int ds.length)) := rfl
@[simp] theorem phTuple_l {ds : List PyData} : phTuple [.dat (.list ds)] s = some (.dat (.tuple ds)) := rfl
@[simp] theorem phTuple_t {ds : List PyData} : phTuple [.dat (.tuple ds)] s = some (.dat (.tuple ds)) := rfl
@[simp] theorem phList_t {ds : List PyData} : phList [.dat (.tuple ds)] s = some (.dat (.list ds)) := rfl
@[simp] theorem phAll_l {ds : List PyData} : phAll [.dat (.list ds)] s = (bls ds).map fun bs => .dat (.bool (bs.all id)) := rfl
@[simp] theorem phAdd_t {x y : List PyData} : phAdd (.dat (.tuple x)) (.dat (.tuple y)) s = if x.length + y.length ≤ mil then some (.dat (.tuple (x ++ y))) else none := rfl
@[simp] theorem wipeM_nil : wipeM ρ [] = ρ := rfl
@[simp] theorem wipeM_cons {v : Nat} {vs : List Nat} : wipeM ρ (v :: vs) = (wipeM ρ vs).set v none := rfl
@[simp] theorem atI_0 {α : Type} {x : α} {l : List α} : atI (x :: l) 0 = some x := by
  unfold atI ixN
  rw [if_pos (Int.le_refl 0), if_pos (by simp)]
  rfl
theorem atI_nat' {α : Type} {l : List α} {n : Nat} : atI l (n : Int) = l[n]? := by
  unfold atI ixN
  rw [if_pos (by omega)]
  by_cases h : n < l.length
  · rw [if_pos (by omega)]
    rfl
  · rw [if_neg (by omega), List.getElem?_eq_none (by omega)]
    rfl
@[simp] theorem atI_1 {α : Type} {x y : α} {l : List α} : atI (x :: y :: l) 1 = some y := atI_nat' (n := 1)
@[simp] theorem atI_2 {α : Type} {x y z : α} {l : List α} : atI (x :: y :: z :: l) 2 = some z := atI_nat' (n := 2)
@[simp] theorem atI_3 {α : Type} {x y z w : α} {l : List α} : atI (x :: y :: z :: w :: l) 3 = some w := atI_nat' (n := 3)
end
end Pm
namespace Pm
open PySem PySem.Spec PyProof.Rows L2 Sw
theorem i62 {n : Nat} (h : n ≤ mil) : In62 (n : Int) := by
  have h : n ≤ 1000000 := h
  constructor
  · exact Int.le_trans (by decide) (Int.natCast_nonneg n)
  · exact Int.lt_of_le_of_lt (Int.ofNat_le.mpr h) (by decide)
end Pm
set_option maxRecDepth 100000
set_option maxHeartbeats 4000000
set_option maxRecDepth 100000
set_option maxHeartbeats 4000000
namespace Pm
open PySem PySem.Spec PyProof.Rows L2 Sw
inductive An (S L : Type) where
  | nx (a : S) (s : Sto)
  | rt (v : Vl) (s : Sto)
  | bk (a : L) (s : Sto)
  | ct (a : L) (s : Sto)
  | ex (x : Exn) (s : Sto)
  | bad
section
variable {α S S' L L' : Type}
def R.an (r : R α) (k : α → Sto → An S L) : An S L := match r with
  | .ok a s => k a s
  | .ex x s => .ex x s
  | .bad => .bad
def An.thn (f : An S L) (k : S → Sto → An S' L) : An S' L := match f with
  | .nx a s => k a s
  | .rt v s => .rt v s
  | .bk a s => .bk a s
  | .ct a s => .ct a s
  | .ex x s => .ex x s
  | .bad => .bad
/-- one that never goes on -/
def An.up (f : An Empty L) : An S L := match f with
  | .rt v s => .rt v s
  | .bk a s => .bk a s
  | .ct a s => .ct a s
  | .ex x s => .ex x s
  | .bad => .bad
def An.fin (f : An Unit Empty) : R Vl := match f with
  | .nx _ s => .ok (.dat .none) s
  | .rt v s => .ok v s
  | .ex x s => .ex x s
  | .bad => .bad
@[simp] theorem R.an_ok (a : α) (s : Sto) (k : α → Sto → An S L) : (R.ok a s).an k = k a s := rfl
@[simp] theorem R.an_ex (x : Exn) (s : Sto) (k : α → Sto → An S L) : (R.ex x s : R α).an k = .ex x s := rfl
@[simp] theorem R.an_bad (k : α → Sto → An S L) : (R.bad : R α).an k = .bad := rfl
@[simp] theorem An.thn_nx (a : S) (s : Sto) (k : S → Sto → An S' L) : (An.nx a s : An S L).thn k = k a s := rfl
@[simp] theorem An.thn_rt (a : Vl) (s : Sto) (k : S → Sto → An S' L) : (An.rt a s : An S L).thn k = .rt a s := rfl
@[simp] theorem An.thn_bk (a : L) (s : Sto) (k : S → Sto → An S' L) : (An.bk a s : An S L).thn k = .bk a s := rfl
@[simp] theorem An.thn_ct (a : L) (s : Sto) (k : S → Sto → An S' L) : (An.ct a s : An S L).thn k = .ct a s := rfl
@[simp] theorem An.thn_ex (a : Exn) (s : Sto) (k : S → Sto → An S' L) : (An.ex a s : An S L).thn k = .ex a s := rfl
@[simp] theorem An.thn_bad (k : S → Sto → An S' L) : (An.bad : An S L).thn k = .bad := rfl
@[simp] theorem An.up_rt (a : Vl) (s : Sto) : (An.rt a s : An Empty L).up = (.rt a s : An S L) := rfl
@[simp] theorem An.up_bk (a : L) (s : Sto) : (An.bk a s : An Empty L).up = (.bk a s : An S L) := rfl
@[simp] theorem An.up_ct (a : L) (s : Sto) : (An.ct a s : An Empty L).up = (.ct a s : An S L) := rfl
@[simp] theorem An.up_ex (a : Exn) (s : Sto) : (An.ex a s : An Empty L).up = (.ex a s : An S L) := rfl
@[simp] theorem An.up_bad : (An.bad : An Empty L).up = (.bad : An S L) := rfl
@[simp] theorem An.fin_nx (a : Unit) (s : Sto) : (An.nx a s).fin = .ok (.dat .none) s := rfl
@[simp] theorem An.fin_rt (a : Vl) (s : Sto) : (An.rt a s).fin = .ok a s := rfl
@[simp] theorem An.fin_ex (a : Exn) (s : Sto) : (An.ex a s).fin = .ex a s := rfl
@[simp] theorem An.fin_bad : An.bad.fin = .bad := rfl
end
inductive LeL : Loc → Loc → Prop where
  | nil : LeL [] []
  | non {o : Option Vl} {l m : Loc} (h : LeL l m) : LeL (none :: l) (o :: m)
  | som {v : Option Vl} {l m : Loc} (h : LeL l m) : LeL (v :: l) (v :: m)
theorem LeL.len {l m : Loc} (h : LeL l m) : l.length = m.length := by
  induction h with
  | nil => rfl
  | non _ ih => simp [ih]
  | som _ ih => simp [ih]
theorem LeL.get {l m : Loc} (h : LeL l m) : ∀ {i : Nat} {v : Vl}, l[i]? = some (some v) → m[i]? = some (some v) := by
  induction h with
  | nil => intro i v e; simp at e
  | non _ ih =>
    intro i v e
    cases i with
    | zero => simp at e
    | succ i => simp at e ⊢; exact ih e
  | som _ ih =>
    intro i v e
    cases i with
    | zero => simpa using e
    | succ i => simp at e ⊢; exact ih e
theorem LeL.refl : ∀ l : Loc, LeL l l
  | [] => .nil
  | _ :: l => .som (LeL.refl l)
theorem LeL.nones : ∀ {n : Nat} {l : Loc}, l.length = n → LeL (List.replicate n none) l
  | 0, [], _ => .nil
  | n + 1, o :: l, h => .non (LeL.nones (by simpa using h))
  | 0, _ :: _, h => by cases h
  | n + 1, [], h => by cases h
theorem RelL.le {G : Cf} {H : Hp} {β : Bs} {ρ ρ' : Loc} {σ : L2.St} (e : LeL ρ' ρ) (h : RelL G H β ρ σ) : RelL G H β ρ' σ := ⟨by rw [e.len, h.len], fun i v q => h.at' i v (e.get q)⟩
/-- what is known of the locals where an exception leaves -/
def ExR (G : Cf) (ox : Option Loc) (H : Hp) (β : Bs) (σ : L2.St) : Prop := match ox with
  | none => True
  | some ρ => RelL G H β ρ σ
def OxLe (ox : Option Loc) (ρ : Loc) : Prop := match ox with
  | none => True
  | some ρx => LeL ρx ρ
theorem ox0 {ρ : Loc} : OxLe none ρ := trivial
theorem OxLe.rel {G : Cf} {H : Hp} {β : Bs} {ρ : Loc} {σ : L2.St} {ox : Option Loc} (e : OxLe ox ρ) (h : RelL G H β ρ σ) : ExR G ox H β σ := by
  cases ox with
  | none => trivial
  | some ρx => exact h.le e
section
variable {α υ S S' L : Type} {G : Cf} {W : WX} {mkS : S → Loc} {mkL : L → Loc} {ox : Option Loc}
def PostN (G : Cf) (W : WX) (mkS : S → Loc) (mkL : L → Loc) (ox : Option Loc) (β : Bs) (H : Hp) (D : Ends) : An S L → Prop
  | .nx a s => ∀ β' σ' H', Step β H β' H' → RelL G H' β' (mkS a) σ' → RelS G β' s H' → D.nx σ' H'
  | .rt v s => ∀ β' H' u, Step β H β' H' → RelS G β' s H' → Rv G H' β' v u → D.rt u H'
  | .bk a s => ∀ β' σ' H', Step β H β' H' → RelL G H' β' (mkL a) σ' → RelS G β' s H' → D.bk σ' H'
  | .ct a s => ∀ β' σ' H', Step β H β' H' → RelL G H' β' (mkL a) σ' → RelS G β' s H' → D.ct σ' H'
  | .ex x s => ∀ β' σ' H' c d, Step β H β' H' → ExR G ox H' β' σ' → RelS G β' s H' → RX G H' β' x c d → W c d σ' H'
  | .bad => False
theorem PostN.step {β β1 : Bs} {H H1 : Hp} {D : Ends} {f : An S L} (h : PostN G W mkS mkL ox β H D f) (s : Step β H β1 H1) : PostN G W mkS mkL ox β1 H1 D f := by
  cases f with
  | nx ρ st => exact fun β' σ' H' s' => h β' σ' H' (s.trans s')
  | rt v st => exact fun β' H' u s' => h β' H' u (s.trans s')
  | bk ρ st => exact fun β' σ' H' s' => h β' σ' H' (s.trans s')
  | ct ρ st => exact fun β' σ' H' s' => h β' σ' H' (s.trans s')
  | ex x st => exact fun β' σ' H' c d s' => h β' σ' H' c d (s.trans s')
  | bad => exact h
/-- a block's reading, its locals at its beginning being ρ -/
def tN (G : Cf) (W : WX) (mkS : S → Loc) (mkL : L → Loc) (ox : Option Loc) (ρ : Loc) (n : Sto → An S L) : TS := fun D σ H => ∃ β s, RelL G H β ρ σ ∧ RelS G β s H ∧ PostN G W mkS mkL ox β H D (n s)
theorem PostN.an {rel : Rel α υ} {σ : L2.St} {ρ : Loc} {β : Bs} {H : Hp} {D : Ends} {Q1 : υ → Hp → Prop} {r : R α} {k : α → Sto → An S L} (hl : RelL G H β ρ σ) (hx : OxLe ox ρ) (h : PostN G W mkS mkL ox β H D (r.an k))
    (hk : ∀ v s1 β1 H1 u, Step β H β1 H1 → RelS G β1 s1 H1 → rel H1 β1 v u → PostN G W mkS mkL ox β1 H1 D (k v s1) → Q1 u H1) : Post G rel W σ β H Q1 r := by
  cases r with
  | ok v st => exact fun β' H' u s' hs hr => hk v st β' H' u s' hs hr (PostN.step (show PostN G W mkS mkL ox β H D (k v st) from h) s')
  | ex x st => exact fun β' H' c d s' hs hx' => h β' σ H' c d s' (hx.rel (hl.step s')) hs hx'
  | bad => exact h
/-- less is asked of what comes behind -/
theorem PostN.up {mk' : S' → Loc} {mk0 : Empty → Loc} {β : Bs} {H : Hp} {D : Ends} {f : An Empty L} (nx' : L2.St → Hp → Prop) (h : PostN G W mk' mkL ox β H D (f.up : An S' L)) : PostN G W mk0 mkL ox β H { D with nx := nx' } f := by
  cases f with
  | nx a s => exact a.elim
  | rt v s => exact h
  | bk a s => exact h
  | ct a s => exact h
  | ex x s => exact h
  | bad => exact h
theorem PostN.thn {mk1 : S → Loc} {mk2 : S' → Loc} {β : Bs} {H : Hp} {D : Ends} {f : An S L} {k : S → Sto → An S' L} (h : PostN G W mk2 mkL ox β H D (f.thn k)) : PostN G W mk1 mkL ox β H { D with nx := fun σ' H' => ∃ a, tN G W mk2 mkL ox (mk1 a) (k a) D σ' H' } f := by
  cases f with
  | nx a s => exact fun β' σ' H' st hl hs => ⟨a, β', s, hl, hs, PostN.step (show PostN G W mk2 mkL ox β H D (k a s) from h) st⟩
  | rt v s => exact h
  | bk a s => exact h
  | ct a s => exact h
  | ex x s => exact h
  | bad => exact h
end
theorem pss_ex {X : Cx} {b : List Stmt} {J : Type} {t : J → TS} (h : ∀ j, PSs X b (t j)) : PSs X b (fun D σ H => ∃ j, t j D σ H) := ⟨fun pins s σ H D I ⟨j, q⟩ => (h j).run pins s σ H D I q⟩
abbrev NSs {S L : Type} (X : Cx) (zx : Exo) (W : WX) (ox : Option Loc) (mkS : S → Loc) (mkL : L → Loc) (ρ : Loc) (b : List Stmt) (n : Sto → An S L) : Prop := PSs X b (tN (cf X zx) W mkS mkL ox ρ n)
abbrev NS {S L : Type} (X : Cx) (zx : Exo) (W : WX) (ox : Option Loc) (mkS : S → Loc) (mkL : L → Loc) (ρ : Loc) (b : Stmt) (n : Sto → An S L) : Prop := PS X b (tN (cf X zx) W mkS mkL ox ρ n)
section
variable {S S' L : Type} {X : Cx} {zx : Exo} {W : WX} {mkS : S → Loc} {mkL : L → Loc} {ox : Option Loc} {ρ : Loc} {st : Stmt} {rest : List Stmt} {e : Expr} {F : ME} {f : Sto → R Vl} {pos : Pos}
theorem nss_nil {a : S} (h : LeL (mkS a) ρ) : NSs X zx W ox mkS mkL ρ [] (fun s => .nx a s) := PSs.imp pss_nil fun D σ H ⟨β, s, hl, hs, q⟩ => q β σ H (Step.refl _ _) (hl.le h) hs
theorem nss_cons {mk1 : S' → Loc} {n1 : Sto → An S' L} {k : S' → Sto → An S L} (h1 : NS X zx W ox mk1 mkL ρ st n1) (h2 : ∀ j, NSs X zx W ox mkS mkL (mk1 j) rest (k j)) : NSs X zx W ox mkS mkL ρ (st :: rest) (fun s => (n1 s).thn k) :=
  PSs.imp (pss_cons h1 (pss_ex h2)) fun D σ H ⟨β, s, hl, hs, q⟩ => ⟨β, s, hl, hs, PostN.thn q⟩
/-- a statement that goes on with all it has -/
theorem nss_step {ρ' : Loc} {n : Sto → An S L} {t : TS} (h1 : PS X st t) (h2 : NSs X zx W ox mkS mkL ρ' rest n) {m : Sto → An S L}
    (h : ∀ D σ H, tN (cf X zx) W mkS mkL ox ρ m D σ H → t { D with nx := tN (cf X zx) W mkS mkL ox ρ' n D } σ H) : NSs X zx W ox mkS mkL ρ (st :: rest) m := PSs.imp (pss_cons h1 h2) h
theorem nss_expr {k : Sto → An S L} (he : DE X zx W e F) (h2 : NSs X zx W ox mkS mkL ρ rest k) (hx : OxLe ox ρ) (hF : ∀ s, F ρ s = f s := by intro _; rfl) (hs : swapsWith e none pos.line X.env = pure false := by rfl) : NSs X zx W ox mkS mkL ρ (.Expr e pos :: rest) (fun s => (f s).an fun _ s1 => k s1) :=
  nss_step (ps_expr he hs) h2 fun D σ H ⟨β, s, hl, hs, q⟩ => ⟨β, ρ, s, hl, hs, by
    rw [hF]
    exact PostN.an hl hx q fun v s1 β1 H1 u st1 hs1 _ h1 => ⟨β1, s1, hl.step st1, hs1, h1⟩⟩
theorem nss_set {i : Nat} {x : Str} {pos' : Pos} {ρ' : Vl → Loc} {k : Vl → Sto → An S L} (hN : X.N.Nodup) (hi : X.N[i]? = some x) (hx : L2.Loc X.env.scope x) (he : DE X zx W e F) (h2 : ∀ v, NSs X zx W ox mkS mkL (ρ' v) rest (k v)) (hox : OxLe ox ρ) (hF : ∀ s, F ρ s = f s := by intro _; rfl) (hρ : ∀ v, ρ.set i (some v) = ρ' v := by intro _; rfl)
    (hs : swapsWith e (some (.Name x pos')) pos.line X.env = pure false := by rfl) (hf : X.fn x = true ∨ X.env.scope.names.lookup x = some .local := by first | exact .inl rfl | exact .inr rfl | assumption) :
    NSs X zx W ox mkS mkL ρ (.Assign [.Name x pos'] e pos :: rest) (fun s => (f s).an fun v s1 => k v s1) :=
  PSs.imp (pss_cons (ps_set hN hi hx he hs hf) (pss_ex h2)) fun D σ H ⟨β, s, hl, hs, q⟩ => ⟨β, ρ, s, hl, hs, by
    rw [hF]
    exact PostN.an hl hox q fun v s1 β1 H1 u st1 hs1 r1 h1 => ⟨v, β1, s1, by rw [← hρ]; exact (hl.step st1).set r1, hs1, h1⟩⟩
theorem nss_par {i j : Nat} {x y : Str} {a b : Expr} {r : MA} {fr : Sto → R (List Vl)} {px py pt : Pos} {kt k2 pt2} {ρ' : Vl → Vl → Loc} {k : Vl → Vl → Sto → An S L} (hc : X.calm = true) (hN : X.N.Nodup) (hi : X.N[i]? = some x) (hj : X.N[j]? = some y) (hij : i ≠ j)
    (hx : X.env.scope.names.lookup x = some .local) (hy : X.env.scope.names.lookup y = some .local) (ha : DA X zx W [a, b] r) (h2 : ∀ v w, NSs X zx W ox mkS mkL (ρ' v w) rest (k v w)) (hox : OxLe ox ρ) (hF : ∀ s, r ρ s = fr s := by intro _; rfl) (hρ : ∀ v w, (ρ.set i (some v)).set j (some w) = ρ' v w := by intro _ _; rfl)
    (hw : swappedStores [.Tuple [.Name x px, .Name y py] kt pt] (.Tuple [a, b] k2 pt2) X.env = pure (some [x, y]) := by rfl)
    (hs : swapsWithSole [.Tuple [.Name x px, .Name y py] kt pt] (.Tuple [a, b] k2 pt2) pos.line X.env = pure false := by rfl) :
    NSs X zx W ox mkS mkL ρ (.Assign [.Tuple [.Name x px, .Name y py] kt pt] (.Tuple [a, b] k2 pt2) pos :: rest) (fun s => (fr s).an fun vs s1 => match vs with | [v, w] => k v w s1 | _ => .bad) :=
  PSs.imp (pss_cons (ps_par hc hN hi hj hij hx hy ha hw hs) (pss_ex fun v => pss_ex (h2 v))) fun D σ H ⟨β, s, hl, hs, q⟩ => ⟨β, ρ, s, hl, hs, by
    rw [hF]
    exact PostN.an hl hox q fun vs s1 β1 H1 us st1 hs1 r1 h1 => by
      cases r1 with
      | nil => exact h1.elim
      | cons r0 r1 =>
        cases r1 with
        | nil => exact h1.elim
        | cons r1 r2 =>
          cases r2 with
          | nil => exact ⟨_, _, rfl, _, _, β1, s1, by rw [← hρ]; exact ((hl.step st1).set r0).set r1, hs1, h1⟩
          | cons _ _ => exact h1.elim⟩
theorem nss_par3 {i j l : Nat} {x y z : Str} {a b c : Expr} {r : MA} {fr : Sto → R (List Vl)} {px py pz pt : Pos} {kt k2 pt2} {ρ' : Vl → Vl → Vl → Loc} {k : Vl → Vl → Vl → Sto → An S L} (hc : X.calm = true) (hN : X.N.Nodup) (hi : X.N[i]? = some x) (hj : X.N[j]? = some y) (hk : X.N[l]? = some z) (hij : i ≠ j) (hik : i ≠ l) (hjk : j ≠ l)
    (hx : X.env.scope.names.lookup x = some .local) (hy : X.env.scope.names.lookup y = some .local) (hz : X.env.scope.names.lookup z = some .local) (ha : DA X zx W [a, b, c] r) (h2 : ∀ v w u, NSs X zx W ox mkS mkL (ρ' v w u) rest (k v w u)) (hox : OxLe ox ρ) (hF : ∀ s, r ρ s = fr s := by intro _; rfl) (hρ : ∀ v w u, ((ρ.set i (some v)).set j (some w)).set l (some u) = ρ' v w u := by intro _ _ _; rfl)
    (hw : swappedStores [.Tuple [.Name x px, .Name y py, .Name z pz] kt pt] (.Tuple [a, b, c] k2 pt2) X.env = pure (some [x, y, z]) := by rfl)
    (hs : swapsWithSole [.Tuple [.Name x px, .Name y py, .Name z pz] kt pt] (.Tuple [a, b, c] k2 pt2) pos.line X.env = pure false := by rfl) :
    NSs X zx W ox mkS mkL ρ (.Assign [.Tuple [.Name x px, .Name y py, .Name z pz] kt pt] (.Tuple [a, b, c] k2 pt2) pos :: rest) (fun s => (fr s).an fun vs s1 => match vs with | [v, w, u] => k v w u s1 | _ => .bad) :=
  PSs.imp (pss_cons (ps_par3 hc hN hi hj hk hij hik hjk hx hy hz ha hw hs) (pss_ex fun v => pss_ex fun w => pss_ex (h2 v w))) fun D σ H ⟨β, s, hl, hs, q⟩ => ⟨β, ρ, s, hl, hs, by
    rw [hF]
    exact PostN.an hl hox q fun vs s1 β1 H1 us st1 hs1 r1 h1 => by
      cases r1 with
      | nil => exact h1.elim
      | cons r0 r1 =>
        cases r1 with
        | nil => exact h1.elim
        | cons r1 r2 =>
          cases r2 with
          | nil => exact h1.elim
          | cons r2 r3 =>
            cases r3 with
            | nil => exact ⟨_, _, _, rfl, _, _, _, β1, s1, by rw [← hρ]; exact (((hl.step st1).set r0).set r1).set r2, hs1, h1⟩
            | cons _ _ => exact h1.elim⟩
theorem nss_ret (he : DE X zx W e F) (hox : OxLe ox ρ) (hF : ∀ s, F ρ s = f s := by intro _; rfl) : NSs X zx W ox mkS mkL ρ [.Return (some e) pos] (fun s => (f s).an fun v s1 => .rt v s1) :=
  PSs.imp (pss_one (ps_ret he)) fun D σ H ⟨β, s, hl, hs, q⟩ => ⟨β, ρ, s, hl, hs, by
    rw [hF]
    exact PostN.an hl hox q fun v s1 β1 H1 u st1 hs1 r1 h1 => h1 β1 H1 u (Step.refl _ _) hs1 r1⟩
/-- raise -/
def raise2N (nm f1 f2 : Str) (vs : List Vl) (s : Sto) : An S L := match vs with
  | [.dat x, .dat y] => .ex (nm, [(f2, y), (f1, x)]) s
  | _ => .bad
def raise1N (nm f1 : Str) (vs : List Vl) (s : Sto) : An S L := match vs with
  | [.dat x] => .ex (nm, [(f1, x)]) s
  | _ => .bad
@[simp] theorem raise2N_d {nm f1 f2 : Str} {x y : PyData} {s : Sto} : (raise2N nm f1 f2 [.dat x, .dat y] s : An S L) = .ex (nm, [(f2, y), (f1, x)]) s := rfl
@[simp] theorem raise1N_d {nm f1 : Str} {x : PyData} {s : Sto} : (raise1N nm f1 [.dat x] s : An S L) = .ex (nm, [(f1, x)]) s := rfl
theorem nss_raise {g : MS} {n : Sto → An S L} (h : DS X zx W st g) (hox : OxLe ox ρ) (hg : ∀ s, n s = .bad ∨ ∃ x s1, n s = .ex x s1 ∧ g ρ s = .ex x ρ s1) : NSs X zx W ox mkS mkL ρ [st] n :=
  PSs.imp (pss_one h) fun D σ H ⟨β, s, hl, hs, q⟩ => ⟨β, ρ, s, hl, hs, by
    rcases hg s with e | ⟨x, s1, e1, e2⟩
    · rw [e] at q; exact q.elim
    · rw [e1] at q
      rw [e2]
      exact fun β' σ' H' c d st' hl' hs' rx => q β' σ' H' c d st' (hox.rel hl') hs' rx⟩
theorem nss_raise2 {nm f1 f2 : Str} {r : MA} {fr : Sto → R (List Vl)} (h : DS X zx W st (sRaise2 nm f1 f2 r)) (hox : OxLe ox ρ) (hF : ∀ s, r ρ s = fr s := by intro _; rfl) : NSs X zx W ox mkS mkL ρ [st] (fun s => (fr s).an fun vs s1 => raise2N nm f1 f2 vs s1) :=
  nss_raise h hox fun s => by
    show _ ∨ ∃ x s1, _ ∧ ((r ρ s).to ρ fun vs s1 => match vs with
      | [.dat x, .dat y] => .ex (nm, [(f2, y), (f1, x)]) ρ s1
      | _ => .bad) = _
    rw [hF]
    cases fr s with
    | bad => exact .inl rfl
    | ex x s1 => exact .inr ⟨x, s1, rfl, rfl⟩
    | ok vs s1 =>
      show raise2N nm f1 f2 vs s1 = _ ∨ _
      unfold raise2N
      split
      · exact .inr ⟨_, _, rfl, rfl⟩
      · exact .inl rfl
/-- a statement that is never come to -/
theorem nss_never : NSs X zx W ox mkS mkL ρ [st] (fun _ => .bad) := PSs.imp (pss_one ps_never) fun D σ H ⟨_, _, _, _, q⟩ => q
theorem nss_ifx {mk0 : Empty → Loc} {c : Expr} {a : List Stmt} {T : MT} {tt : Sto → R Bool} {na : Sto → An Empty L} {nr : Sto → An S L} (hc : DT X zx W c T) (ha : NSs X zx W ox mk0 mkL ρ a na) (hr : NSs X zx W ox mkS mkL ρ rest nr) (hox : OxLe ox ρ) (hT : ∀ s, T ρ s = tt s := by intro _; rfl) :
    NSs X zx W ox mkS mkL ρ (.If c a [] pos :: rest) (fun s => (tt s).an fun k s1 => if k = true then (na s1).up else nr s1) :=
  PSs.imp (pss_cons (ps_if hc ha pss_nil) hr) fun D σ H ⟨β, s, hl, hs, q⟩ => ⟨β, ρ, s, hl, hs, by
    rw [hT]
    exact PostN.an hl hox q fun v s1 β1 H1 u st1 hs1 r1 h1 => by
      cases (show v = u from r1)
      cases v with
      | true => exact iteT ⟨β1, s1, hl.step st1, hs1, PostN.up _ h1⟩
      | false => exact iteF ⟨β1, s1, hl.step st1, hs1, h1⟩⟩
/-- the last one of a block -/
theorem nss_if1 {c : Expr} {a b : List Stmt} {T : MT} {tt : Sto → R Bool} {na nb : Sto → An S L} (hc : DT X zx W c T) (ha : NSs X zx W ox mkS mkL ρ a na) (hb : NSs X zx W ox mkS mkL ρ b nb) (hox : OxLe ox ρ) (hT : ∀ s, T ρ s = tt s := by intro _; rfl) :
    NSs X zx W ox mkS mkL ρ [.If c a b pos] (fun s => (tt s).an fun k s1 => if k = true then na s1 else nb s1) :=
  PSs.imp (pss_one (ps_if hc ha hb)) fun D σ H ⟨β, s, hl, hs, q⟩ => ⟨β, ρ, s, hl, hs, by
    rw [hT]
    exact PostN.an hl hox q fun v s1 β1 H1 u st1 hs1 r1 h1 => by
      cases (show v = u from r1)
      cases v with
      | true => exact iteT ⟨β1, s1, hl.step st1, hs1, h1⟩
      | false => exact iteF ⟨β1, s1, hl.step st1, hs1, h1⟩⟩
theorem ns_if {mk1 : S' → Loc} {c : Expr} {a b : List Stmt} {T : MT} {tt : Sto → R Bool} {na nb : Sto → An S' L} (hc : DT X zx W c T) (ha : NSs X zx W ox mk1 mkL ρ a na) (hb : NSs X zx W ox mk1 mkL ρ b nb) (hox : OxLe ox ρ) (hT : ∀ s, T ρ s = tt s := by intro _; rfl) :
    NS X zx W ox mk1 mkL ρ (.If c a b pos) (fun s => (tt s).an fun k s1 => if k = true then na s1 else nb s1) :=
  PS.imp (ps_if hc ha hb) fun D σ H ⟨β, s, hl, hs, q⟩ => ⟨β, ρ, s, hl, hs, by
    rw [hT]
    exact PostN.an hl hox q fun v s1 β1 H1 u st1 hs1 r1 h1 => by
      cases (show v = u from r1)
      cases v with
      | true => exact iteT ⟨β1, s1, hl.step st1, hs1, h1⟩
      | false => exact iteF ⟨β1, s1, hl.step st1, hs1, h1⟩⟩
end
end Pm
set_option maxRecDepth 100000
set_option maxHeartbeats 4000000
namespace Pm
open PySem PySem.Spec PyProof.Rows L2 Sw
def locOk (n : Nat) : Loc → Prop
  | [] => True
  | none :: l => locOk n l
  | some v :: l => refOk n v ∧ locOk n l
def stoOk (n : Nat) : Sto → Prop
  | [] => True
  | o :: s => obOk n o ∧ stoOk n s
theorem stoOk_iff {n : Nat} : ∀ {s : Sto}, stoOk n s ↔ ∀ o ∈ s, obOk n o
  | [] => by simp [stoOk]
  | o :: s => by simp [stoOk, stoOk_iff]
theorem locOk_get {n : Nat} : ∀ {l : Loc} {i : Nat} {v : Vl}, locOk n l → l[i]? = some (some v) → refOk n v
  | [], _, _, _, e => by simp at e
  | none :: l, 0, _, _, e => by simp at e
  | none :: l, i + 1, v, h, e => locOk_get (l := l) (i := i) h (by simpa using e)
  | some w :: l, 0, v, h, e => by
    have : w = v := by simpa using e
    rw [← this]; exact h.1
  | some w :: l, i + 1, v, h, e => locOk_get (l := l) (i := i) h.2 (by simpa using e)
@[simp] theorem locOk_nil {n : Nat} : locOk n [] = True := rfl
@[simp] theorem locOk_none {n : Nat} {l : Loc} : locOk n (none :: l) = locOk n l := rfl
@[simp] theorem locOk_some {n : Nat} {v : Vl} {l : Loc} : locOk n (some v :: l) = (refOk n v ∧ locOk n l) := rfl
@[simp] theorem stoOk_nil {n : Nat} : stoOk n [] = True := rfl
@[simp] theorem stoOk_cons {n : Nat} {o : Ob} {l : Sto} : stoOk n (o :: l) = (obOk n o ∧ stoOk n l) := rfl
@[simp] theorem refOk_dat {n : Nat} {p : PyData} : refOk n (.dat p) = True := rfl
@[simp] theorem refOk_scr {n : Nat} {p : List Int} : refOk n (.scr p) = True := rfl
@[simp] theorem refOk_fn {n : Nat} {p : Str} : refOk n (.fn p) = True := rfl
@[simp] theorem refOk_ref {n m : Nat} : refOk n (.ref m) = (m < n) := rfl
@[simp] theorem obOk_lst {n : Nat} {l : List Vl} : obOk n (.lst l) = ∀ v ∈ l, refOk n v := rfl
@[simp] theorem obOk_dic {n : Nat} {t : Bool} {l : List (PyData × Vl)} : obOk n (.dic t l) = ∀ v ∈ l, refOk n v.2 := rfl
open Classical in
/-- behind a turn that began with a store of length n -/
noncomputable def tidyN {S S' L : Type} (mk : S → Loc) (n : Nat) (a : S) (s : Sto) (k : S → Sto → An S' L) : An S' L :=
  if s.length = n then k a s else if n ≤ s.length ∧ stoOk n (s.take n) ∧ locOk n (mk a) then k a (s.take n) else k a s
theorem RelL.cut {G : Cf} {H : Hp} {β : Bs} {n : Nat} {ρ : Loc} {σ : L2.St} (h : locOk n ρ) (r : RelL G H β ρ σ) : RelL G H (β.cut n) ρ σ := ⟨r.len, fun i v e => by
  obtain ⟨u, h1, h2⟩ := r.at' i v e
  exact ⟨u, h1, Rv.cut (locOk_get h e) h2⟩⟩
theorem RelS.cutN {G : Cf} {H : Hp} {β : Bs} {s : Sto} {n : Nat} (h : RelS G β s H) (hn : n ≤ s.length) (hc : stoOk n (s.take n)) : RelS G (β.cut n) (s.take n) H := by
  have e : (s.take n).length = n := by rw [List.length_take]; omega
  have h' : RelS G β (s.take n ++ s.drop n) H := by rw [List.take_append_drop]; exact h
  have := RelS.cut h' (fun o ho => by rw [e]; exact stoOk_iff.mp hc o ho)
  rw [e] at this
  exact this
section
variable {S S' L : Type} {G : Cf} {W : WX} {mk : S → Loc} {mkS : S' → Loc} {mkL : L → Loc} {ox : Option Loc}
theorem tidy_go {β β4 : Bs} {H H4 : Hp} {D : Ends} {n : Nat} {a : S} {s4 : Sto} {σ4 : L2.St} {k : S → Sto → An S' L} (q : PostN G W mkS mkL ox β H D (tidyN mk n a s4 k)) (hn : β.b.length ≤ n) (st : Step β H β4 H4) (hl : RelL G H4 β4 (mk a) σ4) (hs : RelS G β4 s4 H4) :
    ∃ β5 s5, Step β H β5 H4 ∧ RelL G H4 β5 (mk a) σ4 ∧ RelS G β5 s5 H4 ∧ PostN G W mkS mkL ox β5 H4 D (k a s5) := by
  unfold tidyN at q
  split at q
  · exact ⟨β4, s4, st, hl, hs, PostN.step q st⟩
  · split at q
    · rename_i h
      have st' := st.cut hn
      exact ⟨β4.cut n, s4.take n, st', hl.cut h.2.2, hs.cutN h.1 h.2.1, PostN.step q st'⟩
    · exact ⟨β4, s4, st, hl, hs, PostN.step q st⟩
noncomputable def An.lp (f : An S S) (mk : S → Loc) (n : Nat) (k : S → Sto → An S L) : An S L := match f with
  | .nx a s => tidyN mk n a s k
  | .ct a s => tidyN mk n a s k
  | .bk a s => tidyN mk n a s fun a s => .nx a s
  | .rt v s => .rt v s
  | .ex x s => .ex x s
  | .bad => .bad
open Classical in
noncomputable def forN (ck : Sto → Prop) (mk : S → Loc) (nb : Vl → S → Sto → An S S) : List Vl → S → Sto → An S L
  | [], a, s => if ck s then .nx a s else .bad
  | v :: r, a, s => if ck s then (nb v a s).lp mk s.length (forN ck mk nb r) else .bad
/-- nothing is asked of the store -/
def okT : Sto → Prop := fun _ => True
theorem src_ok_none {l : List Vl} : Src.ok ⟨l, none⟩ = okT := funext fun _ => rfl
@[simp] theorem forN_nil {mk : S → Loc} {nb : Vl → S → Sto → An S S} {a : S} {s : Sto} : (forN okT mk nb [] a s : An S L) = .nx a s := by
  unfold forN
  exact if_pos trivial
theorem forN_cons {mk : S → Loc} {nb : Vl → S → Sto → An S S} {v : Vl} {r : List Vl} {a : S} {s : Sto} : (forN okT mk nb (v :: r) a s : An S L) = (nb v a s).lp mk s.length (forN okT mk nb r) := by
  rw [forN]
  exact if_pos trivial
@[simp] theorem lp_nx {mk : S → Loc} {n : Nat} {a : S} {s : Sto} {k : S → Sto → An S L} : (An.nx a s : An S S).lp mk n k = tidyN mk n a s k := rfl
@[simp] theorem lp_ct {mk : S → Loc} {n : Nat} {a : S} {s : Sto} {k : S → Sto → An S L} : (An.ct a s : An S S).lp mk n k = tidyN mk n a s k := rfl
@[simp] theorem lp_bk {mk : S → Loc} {n : Nat} {a : S} {s : Sto} {k : S → Sto → An S L} : (An.bk a s : An S S).lp mk n k = tidyN mk n a s fun a s => .nx a s := rfl
@[simp] theorem lp_rt {mk : S → Loc} {n : Nat} {v : Vl} {s : Sto} {k : S → Sto → An S L} : (An.rt v s : An S S).lp mk n k = .rt v s := rfl
@[simp] theorem lp_ex {mk : S → Loc} {n : Nat} {v : Exn} {s : Sto} {k : S → Sto → An S L} : (An.ex v s : An S S).lp mk n k = .ex v s := rfl
@[simp] theorem lp_bad {mk : S → Loc} {n : Nat} {k : S → Sto → An S L} : (An.bad : An S S).lp mk n k = .bad := rfl
theorem tidy_same {mk : S → Loc} {n : Nat} {a : S} {s : Sto} {k : S → Sto → An S' L} (h : s.length = n) : tidyN mk n a s k = k a s := if_pos h
end
section
variable {S' L P : Type} {X : Cx} {zx : Exo} {W : WX} {mk1 : S' → Loc} {mkL : L → Loc} {ox : Option Loc} {ρ : Loc} {body : List Stmt} {pos : Pos}
theorem ns_for {tg iter : Expr} {IT : MI} {it : Sto → R Src} {g : MG} {pat : Vl → Option P} {ρb : P → S' → Loc} {nb : P → S' → Sto → An S' S'} {a0 : S'} (hp : PassesOwn (model X.prog X.w) X.A X.env X.xe) (hc : X.calm = true) (hi : DI X zx W tg iter IT) (hg : DG X zx tg g)
    (hb : ∀ p a, NSs X zx W ox mk1 mk1 (ρb p a) body (nb p a)) (hgp : ∀ v a s, g v (mk1 a) s = (match pat v with | some p => .nx (ρb p a) s | none => .bad)) (h0 : LeL (mk1 a0) ρ) (hox : OxLe ox ρ) (hF : ∀ s, IT ρ s = it s := by intro _; rfl)
    (hs : ∀ x, foldedSetIterable iter X.env x = pure x := by intro _; rfl) :
    NS X zx W ox mk1 mkL ρ (.For tg iter body [] pos) (fun s => (it s).an fun c s1 => forN c.ok mk1 (fun v a s => match pat v with | some p => nb p a s | none => .bad) c.items a0 s1) := PS.imp (ps_for hp hc hi hg (pss_ex fun p => pss_ex fun a => hb p a) hs) fun D σ H ⟨β, s, hl, hs, q⟩ => by
  refine ⟨β, ρ, s, hl, hs, ?_⟩
  rw [hF]
  refine PostN.an hl hox q fun c s1 β1 H1 J st1 hs1 wm h1 => ?_
  generalize hnb : (fun (v : Vl) (a : S') (s : Sto) => (match pat v with | some p => nb p a s | none => An.bad : An S' S')) = nb' at h1
  refine ⟨fun i m σ' H' => m = c.items.length - i ∧ i ≤ c.items.length ∧ ∃ β' a' s', Step β1 H1 β' H' ∧ RelL (cf X zx) H' β' (mk1 a') σ' ∧ RelS (cf X zx) β' s' H' ∧ PostN (cf X zx) W mk1 mkL ox β' H' D (forN c.ok mk1 nb' (c.items.drop i) a' s'),
    ⟨_, rfl, Nat.zero_le _, β1, a0, s1, Step.refl _ _, (hl.step st1).le h0, hs1, h1⟩, ?_⟩
  rintro i m σ' H' ⟨rfl, hi, β', a', s', st', hl', hs', q'⟩
  by_cases hlt : i < c.items.length
  · rw [List.drop_eq_getElem_cons hlt, forN] at q'
    by_cases ok : c.ok s'
    rotate_left
    · rw [if_neg ok] at q'; exact q'.elim
    rw [if_pos ok] at q'
    refine .inr ⟨wm.go i β' s' H' hlt st'.w hs' ok, fun σ2 H2 => i + 1 ≤ c.items.length ∧ ∃ β2 a2 s2, Step β1 H1 β2 H2 ∧ RelL (cf X zx) H2 β2 (mk1 a2) σ2 ∧ RelS (cf X zx) β2 s2 H2 ∧ PostN (cf X zx) W mk1 mkL ox β2 H2 D (forN c.ok mk1 nb' (c.items.drop (i + 1)) a2 s2),
      fun σ2 H2 h2 => ⟨_, by omega, rfl, h2.1, h2.2⟩, fun x H2 y => ?_⟩
    obtain ⟨sm, v, hv, rv⟩ := wm.yld i β' s' H' x H2 hlt st'.w hs' ok y
    rw [List.getElem?_eq_getElem hlt] at hv
    cases hv
    have st2 : Step β' H' β' H2 := Step.same sm
    refine ⟨β', mk1 a', s', _, hl'.step st2, hs'.same sm, rv, ?_⟩
    have q2 := PostN.step q' st2
    generalize c.items[i] = v at q2 ⊢
    rw [← hnb] at q2
    dsimp only at q2
    rw [hgp]
    cases eg : pat v with
    | none => rw [eg] at q2; exact q2.elim
    | some p =>
      rw [eg] at q2
      dsimp only at q2
      rw [hnb] at q2
      intro β3 σ3 H3 st3 hl3 hs3
      have q3 := PostN.step q2 st3
      have hlen : β3.b.length = s'.length := hs3.len
      have tr : ∀ {β4 H4}, Step β3 H3 β4 H4 → Step β1 H1 β4 H4 := fun h => ((st'.trans st2).trans st3).trans h
      refine ⟨p, a', β3, s', hl3, hs3, ?_⟩
      have ongo : ∀ a4 s4, PostN (cf X zx) W mk1 mkL ox β3 H3 D (tidyN mk1 s'.length a4 s4 (forN c.ok mk1 nb' (c.items.drop (i + 1)))) → ∀ β4 σ4 H4, Step β3 H3 β4 H4 → RelL (cf X zx) H4 β4 (mk1 a4) σ4 → RelS (cf X zx) β4 s4 H4 →
          i + 1 ≤ c.items.length ∧ ∃ β2 a2 s2, Step β1 H1 β2 H4 ∧ RelL (cf X zx) H4 β2 (mk1 a2) σ4 ∧ RelS (cf X zx) β2 s2 H4 ∧ PostN (cf X zx) W mk1 mkL ox β2 H4 D (forN c.ok mk1 nb' (c.items.drop (i + 1)) a2 s2) := fun a4 s4 q4 β4 σ4 H4 st4 hl4 hs4 => by
        obtain ⟨β5, s5, st5, hl5, hs5, q5⟩ := tidy_go q4 (Nat.le_of_eq hlen) st4 hl4 hs4
        exact ⟨hlt, β5, a4, s5, tr st5, hl5, hs5, q5⟩
      cases eb : nb p a' s' with
      | nx a4 s4 => rw [eb] at q3; exact ongo a4 s4 q3
      | ct a4 s4 => rw [eb] at q3; exact ongo a4 s4 q3
      | bk a4 s4 =>
        rw [eb] at q3
        intro β4 σ4 H4 st4 hl4 hs4
        obtain ⟨β5, s5, st5, hl5, hs5, q5⟩ := tidy_go (k := fun a s => .nx a s) q3 (Nat.le_of_eq hlen) st4 hl4 hs4
        exact q5 β5 σ4 H4 (Step.refl _ _) hl5 hs5
      | rt v s4 => rw [eb] at q3; exact q3
      | ex x s4 => rw [eb] at q3; exact q3
      | bad => rw [eb] at q3; exact q3
  · have e : i = c.items.length := by omega
    subst e
    rw [List.drop_length, forN] at q'
    by_cases ok : c.ok s'
    rotate_left
    · rw [if_neg ok] at q'; exact q'.elim
    rw [if_pos ok] at q'
    exact .inl ⟨wm.stop β' s' H' st'.w hs' ok, q' β' σ' H' (Step.refl _ _) hl' hs'⟩
end
section
variable {S L : Type}
noncomputable def whileF (mk : S → Loc) (tt : S → Sto → R Bool) (nb : S → Sto → An S S) : Nat → S → Sto → An S L
  | 0, _, _ => .bad
  | n + 1, a, s => (tt a s).an fun c s1 => if c = true then (nb a s1).lp mk s1.length (whileF mk tt nb n) else .nx a s1
open Classical in
noncomputable def whl (mk : S → Loc) (tt : S → Sto → R Bool) (nb : S → Sto → An S S) (a : S) (s : Sto) : An S L := if h : ∃ n, (whileF mk tt nb n a s : An S L) ≠ .bad then whileF mk tt nb h.choose a s else .bad
theorem tidy_mono {mk : S → Loc} {n : Nat} {a : S} {s : Sto} {k k' : S → Sto → An S L} (h : ∀ a s, k a s ≠ .bad → k' a s = k a s) (hb : tidyN mk n a s k ≠ .bad) : tidyN mk n a s k' = tidyN mk n a s k := by
  unfold tidyN at hb ⊢
  split
  · rename_i e; rw [if_pos e] at hb; exact h _ _ hb
  · rename_i e
    rw [if_neg e] at hb
    split
    · rename_i e2; rw [if_pos e2] at hb; exact h _ _ hb
    · rename_i e2; rw [if_neg e2] at hb; exact h _ _ hb
theorem whileF_mono {mk : S → Loc} {tt : S → Sto → R Bool} {nb : S → Sto → An S S} : ∀ {n m : Nat} {a : S} {s : Sto}, n ≤ m → (whileF mk tt nb n a s : An S L) ≠ .bad → (whileF mk tt nb m a s : An S L) = whileF mk tt nb n a s
  | 0, _, _, _, _, h => absurd rfl h
  | n + 1, 0, _, _, h, _ => by omega
  | n + 1, m + 1, a, s, h, hb => by
    rw [whileF] at hb ⊢
    rw [whileF]
    cases et : tt a s with
    | bad => rfl
    | ex x s1 => rfl
    | ok c s1 =>
      rw [et] at hb
      cases c with
      | false => rfl
      | true =>
        simp only [R.an_ok, if_true] at hb ⊢
        have key : ∀ a s, (whileF mk tt nb n a s : An S L) ≠ .bad → (whileF mk tt nb m a s : An S L) = whileF mk tt nb n a s := fun a s hb => whileF_mono (by omega) hb
        cases eb : nb a s1 with
        | nx ρ2 s2 => rw [eb] at hb; exact tidy_mono key hb
        | ct ρ2 s2 => rw [eb] at hb; exact tidy_mono key hb
        | _ => rfl
theorem whl_of {mk : S → Loc} {tt : S → Sto → R Bool} {nb : S → Sto → An S S} {n : Nat} {a : S} {s : Sto} (h : (whileF mk tt nb n a s : An S L) ≠ .bad) : (whl mk tt nb a s : An S L) = whileF mk tt nb n a s := by
  have hx : ∃ n, (whileF mk tt nb n a s : An S L) ≠ .bad := ⟨n, h⟩
  unfold whl
  rw [dif_pos hx]
  rcases Nat.le_total n hx.choose with z | z
  · exact whileF_mono z h
  · exact (whileF_mono z hx.choose_spec).symm
/-- one turn of a while -/
theorem whl_unfold {mk : S → Loc} {tt : S → Sto → R Bool} {nb : S → Sto → An S S} {a : S} {s : Sto} : (whl mk tt nb a s : An S L) = (tt a s).an fun c s1 => if c = true then (nb a s1).lp mk s1.length (whl mk tt nb) else .nx a s1 := by
  have main : ∀ r : An S L, r ≠ .bad → ((whl mk tt nb a s : An S L) = r ↔ ((tt a s).an fun c s1 => if c = true then (nb a s1).lp mk s1.length (whl mk tt nb) else .nx a s1 : An S L) = r) := by
    intro r hr
    constructor
    · intro h
      have hb : (whl mk tt nb a s : An S L) ≠ .bad := by rw [h]; exact hr
      have hx : ∃ n, (whileF mk tt nb n a s : An S L) ≠ .bad := by
        refine Classical.byContradiction fun z => hb ?_
        unfold whl
        rw [dif_neg z]
      obtain ⟨n, hn⟩ := hx
      rw [whl_of hn] at h
      rw [← h]
      cases n with
      | zero => exact absurd rfl hn
      | succ n =>
        rw [whileF] at hn ⊢
        cases et : tt a s with
        | bad => rfl
        | ex x s1 => rfl
        | ok c s1 =>
          rw [et] at hn
          cases c with
          | false => rfl
          | true =>
            simp only [R.an_ok, if_true] at hn ⊢
            have key : ∀ a s, (whileF mk tt nb n a s : An S L) ≠ .bad → (whl mk tt nb a s : An S L) = whileF mk tt nb n a s := fun a s hb => whl_of hb
            cases eb : nb a s1 with
            | nx ρ2 s2 => rw [eb] at hn; exact tidy_mono key hn
            | ct ρ2 s2 => rw [eb] at hn; exact tidy_mono key hn
            | _ => rfl
    · intro h
      -- some number of turns serves
      have : ∃ n, (whileF mk tt nb n a s : An S L) = r := by
        cases et : tt a s with
        | bad => rw [et] at h; exact absurd h.symm hr
        | ex x s1 => rw [et] at h; exact ⟨1, by rw [whileF, et]; exact h⟩
        | ok c s1 =>
          rw [et] at h
          cases c with
          | false => exact ⟨1, by rw [whileF, et]; exact h⟩
          | true =>
            simp only [R.an_ok, if_true] at h
            have go : ∀ a2 s2, (tidyN mk s1.length a2 s2 (whl mk tt nb) : An S L) = r → ∃ n, (tidyN mk s1.length a2 s2 (whileF mk tt nb n) : An S L) = r := by
              intro a2 s2 h2
              unfold tidyN at h2 ⊢
              have ex : ∀ a s, (whl mk tt nb a s : An S L) = r → ∃ n, (whileF mk tt nb n a s : An S L) = r := by
                intro a s h3
                unfold whl at h3
                split at h3
                · rename_i hx; exact ⟨_, h3⟩
                · exact absurd h3.symm hr
              split
              · rename_i e; rw [if_pos e] at h2; exact ex _ _ h2
              · rename_i e
                rw [if_neg e] at h2
                split
                · rename_i e2; rw [if_pos e2] at h2; exact ex _ _ h2
                · rename_i e2; rw [if_neg e2] at h2; exact ex _ _ h2
            cases eb : nb a s1 with
            | nx a2 s2 =>
              rw [eb] at h
              obtain ⟨n, hn⟩ := go a2 s2 h
              exact ⟨n + 1, by rw [whileF, et, R.an_ok, if_pos rfl, eb]; exact hn⟩
            | ct a2 s2 =>
              rw [eb] at h
              obtain ⟨n, hn⟩ := go a2 s2 h
              exact ⟨n + 1, by rw [whileF, et, R.an_ok, if_pos rfl, eb]; exact hn⟩
            | bk a2 s2 => rw [eb] at h; exact ⟨1, by rw [whileF, et, R.an_ok, if_pos rfl, eb]; exact h⟩
            | rt a2 s2 => rw [eb] at h; exact ⟨1, by rw [whileF, et, R.an_ok, if_pos rfl, eb]; exact h⟩
            | ex a2 s2 => rw [eb] at h; exact ⟨1, by rw [whileF, et, R.an_ok, if_pos rfl, eb]; exact h⟩
            | bad => rw [eb] at h; exact absurd h.symm hr
      obtain ⟨n, hn⟩ := this
      rw [← hn]
      exact whl_of (by rw [hn]; exact hr)
  by_cases h : (whl mk tt nb a s : An S L) = .bad
  · rw [h]
    refine Classical.byContradiction fun z => ?_
    have := (main _ (fun e => z e.symm)).mpr rfl
    rw [h] at this
    exact z this
  · exact ((main _ h).mp rfl).symm
end
section
variable {S' L : Type} {X : Cx} {zx : Exo} {W : WX} {mk1 : S' → Loc} {mkL : L → Loc} {ox : Option Loc} {ρ : Loc} {body : List Stmt} {pos : Pos}
theorem ns_while {c : Expr} {T : MT} {tt : S' → Sto → R Bool} {nb : S' → Sto → An S' S'} {a0 : S'} (hp : PassesOwn (model X.prog X.w) X.A X.env X.xe) (hc : DT X zx W c T) (hb : ∀ a, NSs X zx W ox mk1 mk1 (mk1 a) body (nb a)) (h0 : LeL (mk1 a0) ρ) (hox : ∀ a, OxLe ox (mk1 a)) (hT : ∀ a s, T (mk1 a) s = tt a s := by intro _ _; rfl) :
    NS X zx W ox mk1 mkL ρ (.While c body [] pos) (fun s => whl mk1 tt nb a0 s) := PS.imp (ps_while hp hc (pss_ex hb)) fun D σ H ⟨β, s, hl, hs, q⟩ => by
  dsimp only at q
  unfold whl at q
  split at q
  rotate_left
  · exact q.elim
  rename_i hx
  generalize hx.choose = n at q
  refine ⟨fun m σ' H' => ∃ β' a' s', RelL (cf X zx) H' β' (mk1 a') σ' ∧ RelS (cf X zx) β' s' H' ∧ PostN (cf X zx) W mk1 mkL ox β' H' D (whileF mk1 tt nb m a' s'), ⟨n, β, a0, s, hl.le h0, hs, q⟩, ?_⟩
  rintro m σ' H' ⟨β', a', s', hl', hs', q'⟩
  cases m with
  | zero => exact q'.elim
  | succ m =>
    rw [whileF] at q'
    refine ⟨β', mk1 a', s', hl', hs', ?_⟩
    rw [hT]
    refine PostN.an hl' (hox a') q' fun v s1 β1 H1 u st1 hs1 r1 h1 => ?_
    cases (show v = u from r1)
    cases v with
    | false => exact iteF (h1 β1 σ' H1 (Step.refl _ _) (hl'.step st1) hs1)
    | true =>
      have hlen : β1.b.length = s1.length := hs1.len
      refine iteT ⟨fun σ2 H2 => ∃ β2 a2 s2, RelL (cf X zx) H2 β2 (mk1 a2) σ2 ∧ RelS (cf X zx) β2 s2 H2 ∧ PostN (cf X zx) W mk1 mkL ox β2 H2 D (whileF mk1 tt nb m a2 s2), fun σ2 H2 h2 => ⟨m, Nat.lt_succ_self _, h2⟩, a', β1, s1, hl'.step st1, hs1, ?_⟩
      have h1 : PostN (cf X zx) W mk1 mkL ox β1 H1 D ((nb a' s1).lp mk1 s1.length (whileF mk1 tt nb m)) := h1
      have ongo : ∀ a4 s4, PostN (cf X zx) W mk1 mkL ox β1 H1 D (tidyN mk1 s1.length a4 s4 (whileF mk1 tt nb m)) → ∀ β4 σ4 H4, Step β1 H1 β4 H4 → RelL (cf X zx) H4 β4 (mk1 a4) σ4 → RelS (cf X zx) β4 s4 H4 →
          ∃ β2 a2 s2, RelL (cf X zx) H4 β2 (mk1 a2) σ4 ∧ RelS (cf X zx) β2 s2 H4 ∧ PostN (cf X zx) W mk1 mkL ox β2 H4 D (whileF mk1 tt nb m a2 s2) := fun a4 s4 q4 β4 σ4 H4 st4 hl4 hs4 => by
        obtain ⟨β5, s5, st5, hl5, hs5, q5⟩ := tidy_go q4 (Nat.le_of_eq hlen) st4 hl4 hs4
        exact ⟨β5, a4, s5, hl5, hs5, q5⟩
      cases eb : nb a' s1 with
      | nx a4 s4 => rw [eb] at h1; exact ongo a4 s4 h1
      | ct a4 s4 => rw [eb] at h1; exact ongo a4 s4 h1
      | bk a4 s4 =>
        rw [eb] at h1
        intro β4 σ4 H4 st4 hl4 hs4
        obtain ⟨β5, s5, st5, hl5, hs5, q5⟩ := tidy_go (k := fun a s => .nx a s) h1 (Nat.le_of_eq hlen) st4 hl4 hs4
        exact q5 β5 σ4 H4 (Step.refl _ _) hl5 hs5
      | rt v s4 => rw [eb] at h1; exact h1
      | ex x s4 => rw [eb] at h1; exact h1
      | bad => rw [eb] at h1; exact h1
end
end Pm
set_option maxRecDepth 100000
set_option maxHeartbeats 4000000
namespace Pm
open PySem PySem.Spec PyProof.Rows L2 Sw
def okX : Option Vl → Bool
  | some v => noX v
  | none => true
/-- behind a suite no exception is had by a name -/
def An.unx {S L : Type} (mk : S → Loc) (mkL : L → Loc) (f : An S L) : An S L := match f with
  | .nx a s => if (mk a).all okX = true then .nx a s else .bad
  | .rt v s => if noX v = true then .rt v s else .bad
  | .bk a s => if (mkL a).all okX = true then .bk a s else .bad
  | .ct a s => if (mkL a).all okX = true then .ct a s else .bad
  | _ => .bad
@[simp] theorem unx_rt {S L : Type} {mk : S → Loc} {mkL : L → Loc} {v : Vl} {s : Sto} : (An.rt v s : An S L).unx mk mkL = if noX v = true then .rt v s else .bad := rfl
@[simp] theorem unx_nx {S L : Type} {mk : S → Loc} {mkL : L → Loc} {a : S} {s : Sto} : (An.nx a s : An S L).unx mk mkL = if (mk a).all okX = true then .nx a s else .bad := rfl
@[simp] theorem unx_ct {S L : Type} {mk : S → Loc} {mkL : L → Loc} {a : L} {s : Sto} : (An.ct a s : An S L).unx mk mkL = if (mkL a).all okX = true then .ct a s else .bad := rfl
@[simp] theorem unx_bk {S L : Type} {mk : S → Loc} {mkL : L → Loc} {a : L} {s : Sto} : (An.bk a s : An S L).unx mk mkL = if (mkL a).all okX = true then .bk a s else .bad := rfl
/-- t tells whether the clause takes an exception of that name -/
def tryN {S L : Type} (mk : S → Loc) (mkL : L → Loc) (nb : Sto → An S L) (t : Str → Option Bool) (nsu : Exn → Sto → An S L) (s : Sto) : An S L := match nb s with
  | .ex x s1 => (match t x.1 with
    | some true => (nsu x s1).unx mk mkL
    | some false => .ex x s1
    | none => .bad)
  | r => r
theorem RelL.dnN {K : PySem.W.Frag} {mg : Str → Option Value} {z : Exo} {H : Hp} {β : Bs} {ρ : Loc} {σ : L2.St} (h : RelL ⟨K, mg, z⟩ H β ρ σ) (hn : ρ.all okX = true) : RelL ⟨K, mg, none⟩ H β ρ σ := ⟨h.len, fun i v e => by
  obtain ⟨u, h1, h2⟩ := h.at' i v e
  exact ⟨u, h1, Rv.dn (G := ⟨K, mg, z⟩) (List.all_eq_true.mp hn _ (List.mem_of_getElem? e)) h2⟩⟩
section
variable {S' L : Type} {X : Cx} {W : WX} {mk1 : S' → Loc} {mkL : L → Loc} {ox : Option Loc} {ρ ρx : Loc} {x n : Str} {c : Value} {i : Nat} {body suite : List Stmt} {b₀ : Stmt} {np pos pos' : Pos} {nb : Sto → An S' L} {nsu : Exn → Sto → An S' L} {t : Str → Option Bool}
/-- without a name -/
theorem suite_go0 {a : Addr} {c1 : Value} {d1 : Option Addr} {β1 : Bs} {H1 : Hp} {D : Ends} {fl : An S' L} (q2 : PostN (cf X none) W mk1 mkL ox β1 H1 D (fl.unx mk1 mkL)) : PostN (cf X (some (a, c1, d1))) WF mk1 mkL none β1 H1 D fl := by
  cases fl with
  | nx a2 s2 =>
    intro β2 σ2 H2 st2 hl2 hs2
    unfold An.unx at q2
    dsimp only at q2
    split at q2
    · rename_i hall
      exact q2 β2 _ H2 st2 (RelL.dnN hl2 hall) hs2.oz
    · exact q2.elim
  | bk a2 s2 =>
    intro β2 σ2 H2 st2 hl2 hs2
    unfold An.unx at q2
    dsimp only at q2
    split at q2
    · rename_i hall
      exact q2 β2 _ H2 st2 (RelL.dnN hl2 hall) hs2.oz
    · exact q2.elim
  | ct a2 s2 =>
    intro β2 σ2 H2 st2 hl2 hs2
    unfold An.unx at q2
    dsimp only at q2
    split at q2
    · rename_i hall
      exact q2 β2 _ H2 st2 (RelL.dnN hl2 hall) hs2.oz
    · exact q2.elim
  | rt v s2 =>
    intro β2 H2 u st2 hs2 rv
    unfold An.unx at q2
    dsimp only at q2
    split at q2
    · rename_i hn
      exact q2 β2 H2 u st2 hs2.oz (Rv.dn (G := cf X (some (a, c1, d1))) hn rv)
    · exact q2.elim
  | ex x2 s2 => exact q2.elim
  | bad => exact q2.elim
theorem ns_try_only (hs : X.stack = X.env :: X.outer) (hf : X.env.frame = some X.env.locals) (hc : Names X x c) (tk : Takes X W)
    (ht : ∀ nm C b, X.mg nm = some (.ref C) → t nm = some b → PySem.W.exmOne X.K (.ref C) c = some b)
    (hb : ∀ (W : WX) (pn : List (Addr × Obj)) (xe : Value → Shared → Prop), Takes (X.tr pn xe) W → PassesOwn (model X.prog X.w) X.A X.env xe → NSs (X.tr pn xe) none W (some ρx) mk1 mkL ρ body nb)
    (hsu : ∀ (a : Addr) (oe : Obj) (cls : Value) (d : Option Addr) (pn : List (Addr × Obj)), Zc cls d oe → (∃ vs, oe.data = .fields vs) → ∀ x : Exn, NSs (X.suite a ((a, oe) :: pn)) (some (a, cls, d)) WF none mk1 mkL ρx (b₀ :: suite) (nsu x)) (hox : OxLe ox ρx) :
    NS X none W ox mk1 mkL ρ (.Try body [.ExceptHandler (some (.Name x np)) none (b₀ :: suite) pos'] [] [] pos) (tryN mk1 mkL nb t nsu) :=
  PS.imp (ps_try_only (tb := fun W => tN (cf X none) W mk1 mkL (some ρx) ρ nb) (ts := fun a cls d => fun D σ H => ∃ x : Exn, tN (cf X (some (a, cls, d))) WF mk1 mkL none ρx (nsu x) D σ H) hs hf hc tk hb (fun a oe cls d pn h1 h2 => pss_ex (hsu a oe cls d pn h1 h2))) fun D σ H ⟨β, s, hl, hs, q⟩ => by
  refine ⟨β, s, hl, hs, ?_⟩
  unfold tryN at q
  cases ef : nb s with
  | ex x1 s1 =>
    rw [ef] at q
    dsimp only at q
    intro β1 σ1 H1 c1 d1 st1 hl1 hs1 rx
    obtain ⟨C, dd, xs, h1, h2, h3, h4, h5, h6⟩ := id rx
    have hl1 : RelL (cf X none) H1 β1 ρx σ1 := hl1
    cases et : t x1.1 with
    | none => rw [et] at q; exact q.elim
    | some b =>
      rw [et] at q
      refine ⟨b, by rw [h2]; exact ht _ C b h1 et, fun hb a ha => ?_, fun hb => ?_⟩
      · subst hb
        dsimp only at q
        exact ⟨x1, β1, s1, RelL.up hl1, hs1.oz, suite_go0 (PostN.step q st1)⟩
      · subst hb
        dsimp only at q
        exact q β1 σ1 H1 c1 d1 st1 (hox.rel hl1) hs1 rx
  | nx a1 s1 => rw [ef] at q; exact q
  | rt v s1 => rw [ef] at q; exact q
  | bk a1 s1 => rw [ef] at q; exact q
  | ct a1 s1 => rw [ef] at q; exact q
  | bad => rw [ef] at q; exact q
end
def mkU (n : Nat) : Unit → Loc := fun _ => List.replicate n none
def mkE : Empty → Loc := fun a => a.elim
theorem post_finN {G : Cf} {E : XK} {β : Bs} {H : Hp} {Q : VK} {n : Nat} {f : An Unit Empty} (h : Post G (Rv G) (fun c d _ H => E c d H) [] β H Q f.fin) : PostN G (fun c d _ H => E c d H) (mkU n) mkE none β H { nx := fun _ H' => Q .non H', rt := Q } f := by
  cases f with
  | nx a s => exact fun β' σ' H' st _ hs => h β' H' .non st hs .non
  | rt v s => exact h
  | ex x s => exact fun β' σ' H' c d st _ hs r => h β' H' c d st hs r
  | bk a s => exact a.elim
  | ct a s => exact a.elim
  | bad => exact h.elim
/-- a def by its native function -/
def runN (nf : List Vl → Sto → An Unit Empty) : MF := fun xs s => (nf xs s).fin
section
variable {P : Program} {w : World} {K : PySem.W.Frag} {mg : Str → Option Value} {base : Heap}
theorem fnN_of {x qual : Str} {st : Stmt} {f : Addr} {fd : FuncData} {N ps : List Str} {k : Nat} {nf : List Vl → Sto → An Unit Empty} (F : Fun K x qual st f fd) (S : FnScope N ps (defScope st))
    (hb : ∀ (cdv : Value) (A : Around) (outer : List Env) (s : Shared) (H : Hp) (E : XK), A.guards = some [] → Room k (A.deeper (envOfC qual (defScope st) s.heap.objs.size f cdv)) →
      ∀ xs : List Vl, xs.length = ps.length → NSs (cxOf (L2.CX P w) P w K mg base N qual (defScope st) f cdv A outer s H E) none (fun c d _ H => E c d H) none (mkU N.length) mkE (startM N.length xs) (defBody st) (nf xs)) : FnD P w K mg base (k + 1) f fd ps (runN nf) := by
  refine ⟨fun A outer s H args us vs Q E hg hr e0 bd r hsp => ?_⟩
  obtain ⟨oc, od, kV, doc, pm, an, cdv, ct, osl, rfl, lk, hcd⟩ := F.ex
  obtain ⟨β, st0, xs, hs, rx, hlen, hp⟩ := hsp
  have ht := hb cdv A outer s H E hg (hr.deeper _) xs hlen
  have hvl : vs.length = ps.length := by rw [← rx.len]; exact hlen
  have kin : K.In s.heap := e0.mod.kin.keeps fun b o e => (e0.bs b o e).1
  refine codeAny_call_function hr.depth (kin _ _ lk) rfl S.co S.gen rfl (PySem.W.codeRec_of kin hcd) (bd _ _ _ _ ?_)
  refine wpAny_newFunctionEnv_cells S.kind ?_ fun env he s1 x => ?_
  · rintro ⟨n, v⟩ hy
    rcases S.par n (List.of_mem_zip hy).1 with q | q
    · exact .inl q
    · exact .inr ⟨q, PySem.W.cellsFrom_some _ _ _ (.inl q)⟩
  · subst he
    refine ⟨(e0.mod.nolimit.keeps fun b o e => (e0.bs b o e).1).keeps x.toInCall.keep, codeAny_func ?_⟩
    refine wpAny_mono (ht.run [] s1 (start N vs) H { nx := fun _ H' => Q .non H', rt := Q } (inv_start S hr.hd e0 hvl r x) ⟨β, st0, start_rel rx, hs, post_finN hp⟩) (fun fl s' hs => ?_) fun e s' hs => hs
    cases fl with
    | ret u =>
      obtain ⟨v, σ', H', J, rv, q⟩ := hs
      exact ⟨v, H', J.os, J.bare, J.base, J.hok, rv, q⟩
    | next =>
      obtain ⟨σ', H', J, q⟩ := hs
      exact ⟨V.non, H', J.os, J.bare, J.base, J.hok, rfl, q⟩
    | brk =>
      obtain ⟨_, _, _, q⟩ := hs
      exact q.elim
    | cont =>
      obtain ⟨_, _, _, q⟩ := hs
      exact q.elim
end
end Pm
set_option maxRecDepth 100000
set_option maxHeartbeats 4000000
namespace Pm
open PySem PySem.Spec PyProof.Rows L2 Sw
def refsOf : List Vl → List Nat
  | [] => []
  | .ref n :: r => n :: refsOf r
  | .lam _ _ _ _ _ :: r => 0 :: 0 :: refsOf r
  | _ :: r => refsOf r
def renam : Nat → List Vl → List Vl
  | _, [] => []
  | j, .ref _ :: r => .ref j :: renam (j + 1) r
  | j, v :: r => v :: renam j r
def pickS (s : Sto) : List Nat → Option Sto
  | [] => some []
  | n :: r => (s[n]?).bind fun o => (pickS s r).map (o :: ·)
def putB : Sto → List Nat → Sto → Sto
  | s, n :: r, o :: t => putB (s.set n o) r t
  | s, _, _ => s
def dvs (f : Vl → Option PyData) : List Vl → Option (List PyData)
  | [] => some []
  | v :: r => (f v).bind fun d => (dvs f r).map (d :: ·)
def dkv (f : Vl → Option PyData) : List (PyData × Vl) → Option (List (PyData × PyData))
  | [] => some []
  | p :: r => (f p.2).bind fun d => (dkv f r).map ((p.1, d) :: ·)
/-- what a def has laid, as data -/
def deepV (k : Nat) (s : Sto) : Nat → Vl → Option PyData
  | _, .dat p => some p
  | n + 1, .ref m => if m < k then none else match s[m]? with
    | some (.lst l) => (dvs (deepV k s n) l).map .list
    | some (.dic false l) => (dkv (deepV k s n) l).map .dict
    | some (.dic true l) => (dkv (deepV k s n) l).map fun z => .dict ((.none, .none) :: z)
    | some (.tup l) => (dvs (deepV k s n) l).bind fun ds => if isO ds = true then none else some (.tuple ds)
    | _ => none
  | _, _ => none
theorem dvs_dat {f : Vl → Option PyData} (h : ∀ p, f (.dat p) = some p) : ∀ ds : List PyData, dvs f (ds.map Vl.dat) = some ds
  | [] => rfl
  | d :: ds => by rw [List.map_cons, dvs, h, dvs_dat h ds]; rfl
theorem dkv_dat {f : Vl → Option PyData} (h : ∀ p, f (.dat p) = some p) : ∀ ds : List (PyData × PyData), dkv f (ds.map fun p => (p.1, Vl.dat p.2)) = some ds
  | [] => rfl
  | (a, d) :: ds => by rw [List.map_cons, dkv, h, dkv_dat h ds]; rfl
theorem deep_dat {k n : Nat} {s : Sto} (p : PyData) : deepV k s n (.dat p) = some p := by cases n <;> rfl
theorem deep_lst {k m n : Nat} {s : Sto} {ds : List PyData} (h : s[m]? = some (.lst (ds.map Vl.dat))) (hm : ¬ m < k) : deepV k s (n + 1) (.ref m) = some (.list ds) := by
  unfold deepV
  rw [if_neg hm, h]
  show (dvs (deepV k s n) (ds.map Vl.dat)).map _ = _
  rw [dvs_dat deep_dat]
  rfl
theorem deep_dic {k m n : Nat} {s : Sto} {ds : List (PyData × PyData)} (h : s[m]? = some (.dic false (ds.map fun p => (p.1, Vl.dat p.2)))) (hm : ¬ m < k) : deepV k s (n + 1) (.ref m) = some (.dict ds) := by
  unfold deepV
  rw [if_neg hm, h]
  show (dkv (deepV k s n) (ds.map fun p => (p.1, Vl.dat p.2))).map _ = _
  rw [dkv_dat deep_dat]
  rfl
def frV (ks : List Nat) (s2 : Sto) : Vl → Option Vl
  | .dat p => some (.dat p)
  | .ref m => if m < ks.length then (ks[m]?).map Vl.ref else (deepV ks.length s2 4 (.ref m)).map .dat
  | _ => none
open Classical in
noncomputable def frameG (g : MF) : MF := fun xs s => if (refsOf xs).Nodup then (match pickS s (refsOf xs) with
  | none => .bad
  | some s0 => if stoOk 0 s0 then (match g (renam 0 xs) s0 with
    | .ok v s2 => if s0.length ≤ s2.length ∧ stoOk 0 (s2.take s0.length) then R.of (frV (refsOf xs) s2 v) (putB s (refsOf xs) s2) else .bad
    | .ex x s2 => if s0.length ≤ s2.length ∧ stoOk 0 (s2.take s0.length) then .ex x (putB s (refsOf xs) s2) else .bad
    | .bad => .bad) else .bad) else .bad
theorem Dq.conv {K : PySem.W.Frag} {H : Hp} {β β' : Bs} (i : ∀ x, x ∉ β.b → x ∉ β.g → x ∉ β'.b ∧ x ∉ β'.g) {v : V} {d : PyData} (h : Dq K H β v d) : Dq K H β' v d := h.tr (fun _ _ _ h => ⟨h.1, (i _ h.2.1 h.2.2).1, (i _ h.2.1 h.2.2).2⟩) fun _ _ _ h => h
section
variable {K : PySem.W.Frag} {mg : Str → Option Value} {H : Hp} {β β' : Bs}
theorem Rv.conv (i : ∀ x, x ∉ β.b → x ∉ β.g → x ∉ β'.b ∧ x ∉ β'.g) {v : Vl} {u : V} (h : refOk 0 v) (r : Rv ⟨K, mg, none⟩ H β v u) : Rv ⟨K, mg, none⟩ H β' v u := by
  cases v with
  | dat p => exact Dq.conv i r
  | ref m => exact absurd (show m < 0 from h) (Nat.not_lt_zero _)
  | scr ns => exact r
  | exo nm fs => obtain ⟨_, _, _, e, _⟩ := r; cases e
  | fn nm => exact r
  | lam f c q σ ρ =>
    obtain ⟨e, hc, nn, r⟩ := r
    refine ⟨e, hc, i _ nn.1 nn.2, r.1, fun j x e => ?_⟩
    obtain ⟨u, h1, h2⟩ := r.2 j x e
    refine ⟨u, h1, ?_⟩
    cases x with
    | inl p => exact Dq.conv i h2
    | inr m => exact absurd (h j m e) (Nat.not_lt_zero _)
theorem Rvs.conv (i : ∀ x, x ∉ β.b → x ∉ β.g → x ∉ β'.b ∧ x ∉ β'.g) : ∀ {vs : List Vl} {us : List V}, (∀ v ∈ vs, refOk 0 v) → Rvs ⟨K, mg, none⟩ H β vs us → Rvs ⟨K, mg, none⟩ H β' vs us
  | _, _, _, .nil => .nil
  | _, _, h, .cons r t => .cons (Rv.conv i (h _ List.mem_cons_self) r) (Rvs.conv i (fun p hp => h p (List.mem_cons_of_mem _ hp)) t)
theorem pair_conv (i : ∀ x, x ∉ β.b → x ∉ β.g → x ∉ β'.b ∧ x ∉ β'.g) {α : Type} {κ : α → Vl} {γ : Type} {μ : γ → V} {F : α → γ → Prop} : ∀ {l : List α} {m : List γ}, (∀ p ∈ l, refOk 0 (κ p)) → Paired (fun p q => F p q ∧ Rv ⟨K, mg, none⟩ H β (κ p) (μ q)) l m → Paired (fun p q => F p q ∧ Rv ⟨K, mg, none⟩ H β' (κ p) (μ q)) l m
  | _, _, _, .nil => .nil
  | _, _, h, .cons r t => .cons ⟨r.1, Rv.conv i (h _ List.mem_cons_self) r.2⟩ (pair_conv i (fun p hp => h p (List.mem_cons_of_mem _ hp)) t)
theorem RO.conv (i : ∀ x, x ∉ β.b → x ∉ β.g → x ∉ β'.b ∧ x ∉ β'.g) (hx : ∀ x a, H x = some (.own a) → x ∉ β'.b) {a : Addr} {o : Ob} (h : obOk 0 o) (r : RO ⟨K, mg, none⟩ H β a o) : RO ⟨K, mg, none⟩ H β' a o := by
  cases o with
  | tup l => obtain ⟨hl, xs, e, r⟩ := r; exact ⟨hl, xs, e, Rvs.conv i h r⟩
  | lst l => obtain ⟨hl, xs, e, r⟩ := r; exact ⟨hl, xs, e, Rvs.conv i h r⟩
  | dic t l =>
    cases t
    · obtain ⟨xs, e, r⟩ := r; exact ⟨xs, e, pair_conv i (κ := fun p : PyData × Vl => p.2) (μ := fun q : Key × V => q.2) (F := fun p q => p.1 = keyD q.1) h r⟩
    · obtain ⟨xs, e, r⟩ := r; exact ⟨xs, e, pair_conv i (κ := fun p : PyData × Vl => p.2) (μ := fun q : List Key × V => q.2) (F := fun p q => p.1 = keysD q.1) h r⟩
  | ins c l =>
    obtain ⟨C, dx, xs, hm, e, hd, nn, r⟩ := r
    exact ⟨C, dx, xs, hm, e, hd, hx dx a hd, pair_conv i (κ := fun p : Str × Vl => p.2) (μ := fun q : Str × V => q.2) (F := fun p q => p.1 = q.1) h r⟩
end
theorem stoOk_get {n : Nat} : ∀ {s : Sto} {i : Nat} {o : Ob}, stoOk n s → s[i]? = some o → obOk n o := fun h e => stoOk_iff.mp h _ (List.mem_of_getElem? e)
/-- which addresses are handed on -/
def pickA (b : List Addr) (ks : List Nat) : List Addr := ks.filterMap fun n => b[n]?
theorem pick_len {s : Sto} : ∀ {ks : List Nat} {s0 : Sto}, pickS s ks = some s0 → s0.length = ks.length ∧ (∀ n ∈ ks, n < s.length) ∧ ∀ (i n : Nat), ks[i]? = some n → s0[i]? = s[n]?
  | [], s0, h => by
    have : [] = s0 := by simpa [pickS] using h
    subst this
    exact ⟨rfl, (fun n h => by cases h), (fun i n h => by simp at h)⟩
  | n :: r, s0, h => by
    unfold pickS at h
    cases e : s[n]? with
    | none => rw [e] at h; cases h
    | some o =>
      rw [e] at h
      cases e2 : pickS s r with
      | none => rw [e2] at h; cases h
      | some t =>
        rw [e2] at h
        have : o :: t = s0 := by simpa using h
        subst this
        obtain ⟨h1, h2, h3⟩ := pick_len e2
        refine ⟨by simp [h1], fun m hm => ?_, fun i m hi => ?_⟩
        · rcases List.mem_cons.mp hm with rfl | hm
          · exact (List.getElem?_eq_some_iff.mp e).1
          · exact h2 m hm
        · cases i with
          | zero => have : n = m := by simpa using hi
                    subst this; simp [e]
          | succ i => simpa using h3 i m (by simpa using hi)
theorem pickA_get {b : List Addr} : ∀ {ks : List Nat}, (∀ n ∈ ks, n < b.length) → (pickA b ks).length = ks.length ∧ ∀ (i n : Nat), ks[i]? = some n → (pickA b ks)[i]? = b[n]?
  | [], _ => ⟨rfl, fun i n h => by simp at h⟩
  | k :: r, h => by
    have hk := h k List.mem_cons_self
    obtain ⟨h1, h2⟩ := pickA_get (b := b) (ks := r) fun n hn => h n (List.mem_cons_of_mem _ hn)
    have e : pickA b (k :: r) = b[k] :: pickA b r := by
      unfold pickA
      rw [List.filterMap_cons_some (List.getElem?_eq_getElem hk)]
    rw [e]
    refine ⟨by simp [h1], fun i n hi => ?_⟩
    cases i with
    | zero => have : k = n := by simpa using hi
              subst this; simp [List.getElem?_eq_getElem hk]
    | succ i => simpa using h2 i n (by simpa using hi)
theorem pickA_mem {b : List Addr} {ks : List Nat} {a : Addr} (h : a ∈ pickA b ks) : a ∈ b := by
  unfold pickA at h
  obtain ⟨n, _, e⟩ := List.mem_filterMap.mp h
  exact List.mem_of_getElem? e
theorem putB_len : ∀ {ks : List Nat} {s t : Sto}, (putB s ks t).length = s.length
  | [], s, t => by cases t <;> rfl
  | n :: r, s, [] => rfl
  | n :: r, s, o :: t => by
    show (putB (s.set n o) r t).length = _
    rw [putB_len, List.length_set]
theorem putB_get : ∀ {ks : List Nat} {s t : Sto}, ks.Nodup → ks.length ≤ t.length → (∀ n ∈ ks, n < s.length) →
    (∀ (i n : Nat), ks[i]? = some n → (putB s ks t)[n]? = t[i]?) ∧ ∀ n, n ∉ ks → (putB s ks t)[n]? = s[n]?
  | [], s, t, _, _, _ => ⟨fun i n h => by simp at h, fun n _ => by cases t <;> rfl⟩
  | k :: r, s, [], _, hl, _ => by simp at hl
  | k :: r, s, o :: t, hd, hl, hb => by
    have hd' := List.nodup_cons.mp hd
    obtain ⟨h1, h2⟩ := putB_get (ks := r) (s := s.set k o) (t := t) hd'.2 (by simpa using hl) (fun n hn => by rw [List.length_set]; exact hb n (List.mem_cons_of_mem _ hn))
    refine ⟨fun i n hi => ?_, fun n hn => ?_⟩
    · show (putB (s.set k o) r t)[n]? = _
      cases i with
      | zero =>
        have : k = n := by simpa using hi
        subst this
        rw [h2 k hd'.1, List.getElem?_set_self (hb k List.mem_cons_self)]
        rfl
      | succ i => rw [h1 i n (by simpa using hi)]; rfl
    · show (putB (s.set k o) r t)[n]? = _
      rw [h2 n (fun z => hn (List.mem_cons_of_mem _ z)), List.getElem?_set_ne (fun z => hn (by rw [← z]; exact List.mem_cons_self))]
section
variable {K : PySem.W.Frag} {mg : Str → Option Value}
theorem renam_rv {H : Hp} {β β' : Bs} (i : ∀ x, x ∉ β.b → x ∉ β.g → x ∉ β'.b ∧ x ∉ β'.g) : ∀ {xs : List Vl} {us : List V} {j : Nat}, (refsOf xs).Nodup → (∀ (m n : Nat), (refsOf xs)[m]? = some n → β'.b[j + m]? = β.b[n]?) → Rvs ⟨K, mg, none⟩ H β xs us → Rvs ⟨K, mg, none⟩ H β' (renam j xs) us
  | [], _, _, _, _, .nil => .nil
  | .ref n :: xs, _, j, nd, h, .cons r t => by
    obtain ⟨a, e, q⟩ := r
    refine .cons ⟨a, ?_, q⟩ (renam_rv i (xs := xs) (j := j + 1) (List.nodup_cons.mp (show (n :: refsOf xs).Nodup from nd)).2 (fun m k hk => ?_) t)
    · have := h 0 n rfl
      rw [Nat.add_zero] at this
      rw [this]; exact e
    · have := h (m + 1) k (by simpa [refsOf] using hk)
      rw [← this]
      congr 1; omega
  | .dat p :: xs, _, j, nd, h, .cons r t => .cons (Dq.conv i r) (renam_rv i (xs := xs) nd (fun m k hk => h m k (by simpa [refsOf] using hk)) t)
  | .scr p :: xs, _, j, nd, h, .cons r t => .cons r (renam_rv i (xs := xs) nd (fun m k hk => h m k (by simpa [refsOf] using hk)) t)
  | .exo p q :: xs, _, j, nd, h, .cons r t => by obtain ⟨_, _, _, e, _⟩ := r; cases e
  | .fn p :: xs, _, j, nd, h, .cons r t => .cons r (renam_rv i (xs := xs) nd (fun m k hk => h m k (by simpa [refsOf] using hk)) t)
  | .lam _ _ _ _ _ :: xs, _, j, nd, h, .cons r t => absurd (show (0 :: 0 :: refsOf xs).Nodup from nd) (by simp)
theorem renam_len : ∀ {xs : List Vl} {j : Nat}, (renam j xs).length = xs.length
  | [], _ => rfl
  | .ref n :: xs, j => by simp [renam, renam_len]
  | .dat p :: xs, j => by simp [renam, renam_len]
  | .scr p :: xs, j => by simp [renam, renam_len]
  | .exo p q :: xs, j => by simp [renam, renam_len]
  | .fn p :: xs, j => by simp [renam, renam_len]
  | .lam _ _ _ _ _ :: xs, j => by simp [renam, renam_len]
end
theorem dvs_dq {G : Cf} {H : Hp} {β β' : Bs} {f : Vl → Option PyData} (h : ∀ v u d, Rv G H β v u → f v = some d → Dq G.K H β' u d) : ∀ {vs : List Vl} {us : List V} {ds : List PyData}, Rvs G H β vs us → dvs f vs = some ds → DqAll G.K H β' us ds
  | _, _, _, .nil, e => by cases e; exact .nil
  | v :: vs, _, ds, .cons r t, e => by
    unfold dvs at e
    cases e1 : f v with
    | none => rw [e1] at e; cases e
    | some d =>
      rw [e1] at e
      cases e2 : dvs f vs with
      | none => rw [e2] at e; cases e
      | some l =>
        rw [e2] at e
        cases e
        exact .cons (h _ _ _ r e1) (dvs_dq h t e2)
theorem dkv_dq {G : Cf} {H : Hp} {β β' : Bs} {f : Vl → Option PyData} (h : ∀ v u d, Rv G H β v u → f v = some d → Dq G.K H β' u d) {κ : Type} {g : κ → PyData} : ∀ {vs : List (PyData × Vl)} {us : List (κ × V)} {ds : List (PyData × PyData)}, Paired (fun p q => p.1 = g q.1 ∧ Rv G H β p.2 q.2) vs us → dkv f vs = some ds → DqKv G.K H β' κ g us ds
  | _, _, _, .nil, e => by cases e; exact .nil
  | (a, v) :: vs, (b, u) :: us, ds, .cons ⟨ha, r⟩ t, e => by
    unfold dkv at e
    dsimp only at ha e r
    subst ha
    cases e1 : f v with
    | none => rw [e1] at e; cases e
    | some d =>
      rw [e1] at e
      cases e2 : dkv f vs with
      | none => rw [e2] at e; cases e
      | some l =>
        rw [e2] at e
        cases e
        exact .cons (h _ _ _ r e1) (dkv_dq h t e2)
theorem deep_dq {K : PySem.W.Frag} {mg : Str → Option Value} {H : Hp} {β β' : Bs} {s : Sto} {k : Nat} (hs : RelS ⟨K, mg, none⟩ β s H) (hb : ∀ x, x ∉ β.b → x ∉ β.g → x ∉ β'.b ∧ x ∉ β'.g) (ho : ∀ m a, ¬ m < k → β.b[m]? = some a → a ∉ β'.b ∧ a ∉ β'.g) : ∀ (n : Nat) (v : Vl) (u : V) (d : PyData), Rv ⟨K, mg, none⟩ H β v u → deepV k s n v = some d → Dq K H β' u d
  | 0, v, u, d, r, e => by
    cases v with
    | dat p => cases e; exact Dq.conv hb r
    | _ => cases e
  | n + 1, v, u, d, r, e => by
    cases v with
    | dat p => cases e; exact Dq.conv hb r
    | scr _ => cases e
    | exo _ _ => cases e
    | fn _ => cases e
    | lam _ _ _ _ _ => cases e
    | ref m =>
      obtain ⟨a, ha, rfl⟩ := r
      unfold deepV at e
      split at e
      · cases e
      · rename_i hm
        have hsd : ∀ o, H a = some o → Sd H β' a o := fun o h => ⟨h, ho m a hm ha⟩
        split at e
        · rename_i l hl
          obtain ⟨z, h1, h2⟩ := Option.map_eq_some_iff.mp e
          subst h2
          obtain ⟨hz, ys, h3, h4⟩ := hs.ob m _ a hl ha
          have dd := dvs_dq (fun v u d r e => deep_dq hs hb ho n v u d r e) h4 h1
          exact .lst (hsd _ h3) (by rw [← dd.len, ← h4.len]; exact hz) dd
        · rename_i l hl
          obtain ⟨z, h1, h2⟩ := Option.map_eq_some_iff.mp e
          subst h2
          obtain ⟨ys, h3, h4⟩ := hs.ob m _ a hl ha
          exact .dic (hsd _ h3) (dkv_dq (fun v u d r e => deep_dq hs hb ho n v u d r e) h4 h1)
        · rename_i l hl
          obtain ⟨z, h1, h2⟩ := Option.map_eq_some_iff.mp e
          subst h2
          obtain ⟨ys, h3, h4⟩ := hs.ob m _ a hl ha
          exact .dit (hsd _ h3) (dkv_dq (fun v u d r e => deep_dq hs hb ho n v u d r e) h4 h1)
        · rename_i l hl
          obtain ⟨z, h1, h2⟩ := Option.bind_eq_some_iff.mp e
          split at h2
          · cases h2
          · rename_i hO
            cases h2
            obtain ⟨hz, ys, h3, h4⟩ := hs.ob m _ a hl ha
            have dd := dvs_dq (fun v u d r e => deep_dq hs hb ho n v u d r e) h4 h1
            exact .tup (TupA.of (by simpa using hO) h3) (by rw [← dd.len, ← h4.len]; exact hz) dd
        · cases e
theorem FnD.frame {P : Program} {w : World} {K : PySem.W.Frag} {mg : Str → Option Value} {base : Heap} {f : Addr} {fd : FuncData} {ps : List Str} {k : Nat} {g : MF} (F : FnD P w K mg base k f fd ps g) : FnD P w K mg base k f fd ps (frameG g) := by
  refine ⟨fun A outer s H args us vs Q E hg hr e0 bd r ⟨β, s0, xs, hs, rx, hl, hp⟩ => ?_⟩
  unfold frameG at hp
  split at hp
  rotate_left
  · exact hp.elim
  rename_i hnd
  cases hpk : pickS s0 (refsOf xs) with
  | none => rw [hpk] at hp; exact hp.elim
  | some st =>
    rw [hpk] at hp
    dsimp only at hp
    split at hp
    rotate_left
    · exact hp.elim
    rename_i hok
    obtain ⟨hlen, hin, hat⟩ := pick_len hpk
    generalize hks : refsOf xs = ks at *
    have hinb : ∀ n ∈ ks, n < β.b.length := fun n hn => by rw [hs.len]; exact hin n hn
    obtain ⟨hal, hag⟩ := pickA_get hinb
    have hnda : (pickA β.b ks).Nodup := by
      have gen : ∀ ks : List Nat, ks.Nodup → (∀ n ∈ ks, n < β.b.length) → (pickA β.b ks).Nodup := by
        intro ks
        induction ks with
        | nil => intro _ _; exact List.nodup_nil
        | cons k r ih =>
          intro h1 h2
          have h1' := List.nodup_cons.mp h1
          have hk := h2 k List.mem_cons_self
          have e : pickA β.b (k :: r) = β.b[k] :: pickA β.b r := by
            unfold pickA
            rw [List.filterMap_cons_some (List.getElem?_eq_getElem hk)]
          rw [e, List.nodup_cons]
          refine ⟨fun z => ?_, ih h1'.2 fun n hn => h2 n (List.mem_cons_of_mem _ hn)⟩
          unfold pickA at z
          obtain ⟨n, hn, en⟩ := List.mem_filterMap.mp z
          have hn2 := h2 n (List.mem_cons_of_mem _ hn)
          rw [List.getElem?_eq_getElem hn2] at en
          have := (List.getElem_inj hs.nd).mp (Option.some.inj en)
          exact h1'.1 (by rw [← this]; exact hn)
      exact gen ks hnd hinb
    have hconv : ∀ x, x ∉ β.b → x ∉ β.g → x ∉ (⟨pickA β.b ks, (β.b.filter fun a => decide (a ∉ pickA β.b ks)) ++ β.g⟩ : Bs).b ∧ x ∉ (⟨pickA β.b ks, (β.b.filter fun a => decide (a ∉ pickA β.b ks)) ++ β.g⟩ : Bs).g := fun x h1 h2 => by
      refine ⟨fun z => h1 (pickA_mem z), fun z => ?_⟩
      rcases List.mem_append.mp z with z | z
      · exact h1 (List.mem_filter.mp z).1
      · exact h2 z
    generalize hβ' : (⟨pickA β.b ks, (β.b.filter fun a => decide (a ∉ pickA β.b ks)) ++ β.g⟩ : Bs) = β' at hconv
    have hb' : β'.b = pickA β.b ks := by rw [← hβ']
    have hg' : β'.g = (β.b.filter fun a => decide (a ∉ pickA β.b ks)) ++ β.g := by rw [← hβ']
    have notown : ∀ x a, H x = some (.own a) → x ∉ β.b := fun x a e z => by
      obtain ⟨n, hn, en⟩ := List.getElem_of_mem z
      have hn2 : n < s0.length := by rw [← hs.len]; exact hn
      have ro := hs.ob n _ x (List.getElem?_eq_getElem hn2) (by rw [List.getElem?_eq_getElem hn, en])
      generalize s0[n] = o at ro
      cases o with
      | lst l => obtain ⟨_, xs, e2, _⟩ := ro; rw [e] at e2; cases e2
      | dic t l => cases t <;> (obtain ⟨xs, e2, _⟩ := ro; rw [e] at e2; cases e2)
      | ins c l => obtain ⟨_, _, xs, _, e2, _⟩ := ro; rw [e] at e2; cases e2
      | tup l => obtain ⟨_, xs, e2, _⟩ := ro; rw [e] at e2; cases e2
    have tbβ : ∀ {H : Hp}, TabsB β H → TabsB β' H := fun t => TabsB.mono (β := β) (β' := β') (fun x hx => .inl (pickA_mem (by rw [hb'] at hx; exact hx))) (fun x hx => by
      rw [hg'] at hx
      rcases List.mem_append.mp hx with z | z
      · exact .inl (List.mem_filter.mp z).1
      · exact .inr (.inl z)) t
    have hs' : RelS ⟨K, mg, none⟩ β' st H := by
      refine ⟨by rw [hb', hal, hlen], by rw [hb']; exact hnda, fun n o a h1 h2 => ?_, fun a ha => ?_, tbβ hs.tb⟩
      · have hn : n < ks.length := by rw [← hlen]; exact (List.getElem?_eq_some_iff.mp h1).1
        have e1 := hat n _ (List.getElem?_eq_getElem hn)
        have e2 := hag n _ (List.getElem?_eq_getElem hn)
        rw [hb', e2] at h2
        rw [e1] at h1
        refine RO.conv hconv (fun x a2 e z => ?_) (stoOk_get hok (by rw [e1]; exact h1)) (hs.ob _ o a h1 h2)
        rw [hb'] at z
        exact notown x a2 e (pickA_mem z)
      · rw [hg'] at ha
        rcases List.mem_append.mp ha with z | z
        · obtain ⟨z1, z2⟩ := List.mem_filter.mp z
          obtain ⟨x, hx, _⟩ := hs.own z1
          exact ⟨⟨x, hx⟩, by rw [hb']; simpa using z2⟩
        · obtain ⟨h1, h2⟩ := hs.gs a z
          exact ⟨h1, fun y => h2 (pickA_mem (by rw [hb'] at y; exact y))⟩
    have rx' : Rvs ⟨K, mg, none⟩ H β' (renam 0 xs) vs := renam_rv hconv (by rw [hks]; exact hnd) (fun m n hmn => by
      rw [hks] at hmn
      rw [Nat.zero_add, hb']
      exact hag m n hmn) rx
    refine F.goes A outer s H args us vs Q E hg hr e0 bd r ⟨β', st, renam 0 xs, hs', rx', by rw [renam_len]; exact hl, ?_⟩
    -- what follows
    have key : ∀ (s2 : Sto) β2 H', st.length ≤ s2.length → stoOk 0 (s2.take st.length) → Step β' H β2 H' → RelS ⟨K, mg, none⟩ β2 s2 H' → Step β H β H' ∧ RelS ⟨K, mg, none⟩ β (putB s0 ks s2) H' ∧ (∀ x, x ∉ β2.b → x ∉ β2.g → x ∉ β.b ∧ x ∉ β.g) ∧ (∀ m n, ks[m]? = some n → β2.b[m]? = β.b[n]?) := fun s2 β2 H' hl2 hok2 st2 hs2 => by
      have hback : ∀ x, x ∉ β2.b → x ∉ β2.g → x ∉ β.b ∧ x ∉ β.g := fun x h1 h2 => by
        refine ⟨fun z => ?_, fun z => h2 (st2.gsub x (by rw [hg']; exact List.mem_append_right _ z))⟩
        by_cases hx : x ∈ pickA β.b ks
        · obtain ⟨t, ht⟩ := st2.pre
          exact h1 (by rw [← ht, hb']; exact List.mem_append_left _ hx)
        · exact h2 (st2.gsub x (by rw [hg']; exact List.mem_append_left _ (List.mem_filter.mpr ⟨z, by simpa using hx⟩)))
      have stp : Step β H β H' := ⟨List.prefix_refl _, fun _ h => h, fun _ h => .inl h, fun _ h => .inl h, fun a o nt e n => st2.keep a o nt e fun z => n (pickA_mem (by rw [hb'] at z; exact z)), st2.tups, st2.frzs, st2.liv, fun t => TabsB.mono (β := β2) (β' := β) (fun x hx => Classical.byContradiction fun z => (hback x (fun h => z (.inl h)) (fun h => z (.inr (.inl h)))).1 hx) (fun x hx => Classical.byContradiction fun z => (hback x (fun h => z (.inl h)) (fun h => z (.inr (.inl h)))).2 hx) (st2.tbs (tbβ t))⟩
      have hbk : ∀ m n, ks[m]? = some n → β2.b[m]? = β.b[n]? := fun m n hmn => by
        obtain ⟨t, ht⟩ := st2.pre
        have hm : m < ks.length := (List.getElem?_eq_some_iff.mp hmn).1
        rw [← ht, List.getElem?_append_left (by rw [hb', hal]; exact hm), hb', hag m n hmn]
      obtain ⟨pg1, pg2⟩ := putB_get (ks := ks) (s := s0) (t := s2) hnd (by rw [← hlen]; exact hl2) hin
      refine ⟨stp, ⟨by rw [putB_len, hs.len], hs.nd, fun n o a h1 h2 => ?_, fun a ha => ?_, stp.tbs hs.tb⟩, hback, hbk⟩
      · by_cases hn : n ∈ ks
        · obtain ⟨m, hm, em⟩ := List.getElem_of_mem hn
          have e1 : ks[m]? = some n := by rw [List.getElem?_eq_getElem hm, em]
          rw [pg1 m n e1] at h1
          refine RO.conv hback (fun x a2 e z => ?_) (stoOk_get hok2 (by rw [List.getElem?_take_of_lt (by rw [hlen]; exact hm)]; exact h1)) (hs2.ob m o a h1 (by rw [hbk m n e1]; exact h2))
          -- an own dict is none of the store's
          obtain ⟨i, hi, ei⟩ := List.getElem_of_mem z
          obtain ⟨y, hy, hyo⟩ := hs.own z
          by_cases hx : x ∈ pickA β.b ks
          · obtain ⟨t, ht⟩ := st2.pre
            have hx2 : x ∈ β2.b := by rw [← ht, hb']; exact List.mem_append_left _ hx
            obtain ⟨j, hj, ej⟩ := List.getElem_of_mem hx2
            have hj2 : j < s2.length := by rw [← hs2.len]; exact hj
            have ro := hs2.ob j _ x (List.getElem?_eq_getElem hj2) (by rw [List.getElem?_eq_getElem hj, ej])
            generalize s2[j] = o3 at ro
            cases o3 with
            | lst l => obtain ⟨_, xs, e2, _⟩ := ro; rw [e] at e2; cases e2
            | dic t l => cases t <;> (obtain ⟨xs, e2, _⟩ := ro; rw [e] at e2; cases e2)
            | ins c l => obtain ⟨_, _, xs, _, e2, _⟩ := ro; rw [e] at e2; cases e2
            | tup l => obtain ⟨_, xs, e2, _⟩ := ro; rw [e] at e2; cases e2
          · have := st2.keep x y hyo hy (by rw [hb']; exact hx)
            rw [e] at this
            cases this
            exact notown x a2 hy z
        · rw [pg2 n hn] at h1
          have ro := hs.ob n o a h1 h2
          have hna : a ∉ β'.b := fun z => by
            rw [hb'] at z
            obtain ⟨m, hm, em⟩ := List.getElem_of_mem z
            rw [hal] at hm
            have e2 := hag m _ (List.getElem?_eq_getElem hm)
            rw [List.getElem?_eq_getElem (by rw [hal]; exact hm), em, ← h2] at e2
            obtain ⟨i1, q1⟩ := List.getElem?_eq_some_iff.mp h2
            have b1 := hinb _ (List.getElem_mem hm)
            rw [List.getElem?_eq_getElem i1, List.getElem?_eq_getElem b1] at e2
            have := (List.getElem_inj hs.nd).mp (Option.some.inj e2)
            exact hn (by rw [this]; exact List.getElem_mem hm)
          obtain ⟨x, hx, hnt⟩ := ro.ownN
          exact ro.step stp (by rw [st2.keep a x hnt hx hna, hx])
      · obtain ⟨⟨o, ho⟩, hn⟩ := hs.gs a ha
        exact ⟨st2.liv a o ho, hn⟩
    cases eg : g (renam 0 xs) st with
    | bad => rw [eg] at hp; exact hp.elim
    | ex x s2 =>
      rw [eg] at hp
      dsimp only at hp
      split at hp
      rotate_left
      · exact hp.elim
      rename_i hc
      intro β2 H' c d st2 hs2 rx2
      obtain ⟨stp, hsn, hback, _⟩ := key s2 β2 H' hc.1 hc.2 st2 hs2
      refine hp β H' c d stp hsn ?_
      obtain ⟨C, dd, ys, h1, h2, h3, h4, h5, h6⟩ := rx2
      refine ⟨C, dd, ys, h1, h2, h3, h4, fun z => ?_, Paired.mapP h6 fun p q z => ⟨z.1, Dq.conv hback z.2⟩⟩
      obtain ⟨n, hn, en⟩ := List.getElem_of_mem z
      have hn2 : n < (putB s0 ks s2).length := by rw [← hsn.len]; exact hn
      have ro := hsn.ob n _ dd (List.getElem?_eq_getElem hn2) (by rw [List.getElem?_eq_getElem hn, en])
      generalize (putB s0 ks s2)[n] = o at ro
      cases o with
      | lst l => obtain ⟨_, xs, e2, _⟩ := ro; rw [h4] at e2; cases e2
      | dic t l => cases t <;> (obtain ⟨xs, e2, _⟩ := ro; rw [h4] at e2; cases e2)
      | ins c l => obtain ⟨_, _, xs, _, e2, _⟩ := ro; rw [h4] at e2; cases e2
      | tup l => obtain ⟨_, xs, e2, _⟩ := ro; rw [h4] at e2; cases e2
    | ok v s2 =>
      rw [eg] at hp
      dsimp only at hp
      split at hp
      rotate_left
      · exact hp.elim
      rename_i hc
      intro β2 H' u st2 hs2 rv2
      obtain ⟨stp, hsn, hback, hbk⟩ := key s2 β2 H' hc.1 hc.2 st2 hs2
      cases ev : frV ks s2 v with
      | none => rw [ev] at hp; exact hp.elim
      | some z =>
        rw [ev] at hp
        refine hp β H' u stp hsn ?_
        cases v with
        | dat p => cases ev; exact Dq.conv hback rv2
        | scr p => cases ev
        | exo p q => cases ev
        | fn _ => cases ev
        | lam _ _ _ _ _ => cases ev
        | ref m =>
          obtain ⟨a, ha, rfl⟩ := rv2
          unfold frV at ev
          dsimp only at ev
          split at ev
          · rename_i hm
            rw [List.getElem?_eq_getElem hm] at ev
            cases ev
            exact ⟨a, by rw [← hbk m _ (List.getElem?_eq_getElem hm)]; exact ha, rfl⟩
          · obtain ⟨z', ez, rfl⟩ := Option.map_eq_some_iff.mp ev
            refine deep_dq hs2 hback (fun m a hm ha => ?_) 4 (.ref m) (.ref a) z' ⟨a, ha, rfl⟩ ez
            have hag2 : a ∉ β2.g := fun z => (hs2.gs a z).2 (List.mem_of_getElem? ha)
            have hanb : a ∉ β.b := fun z => by
              by_cases hx : a ∈ pickA β.b ks
              · obtain ⟨t, ht⟩ := st2.pre
                obtain ⟨j, hj, ej⟩ := List.getElem_of_mem hx
                have e3 : β2.b[j]? = some a := by rw [← ht, hb', List.getElem?_append_left hj, List.getElem?_eq_getElem hj, ej]
                obtain ⟨i1, q1⟩ := List.getElem?_eq_some_iff.mp e3
                obtain ⟨i2, q2⟩ := List.getElem?_eq_some_iff.mp ha
                have := (List.getElem_inj hs2.nd).mp (q1.trans q2.symm)
                rw [hal] at hj
                omega
              · exact hag2 (st2.gsub a (by rw [hg']; exact List.mem_append_left _ (List.mem_filter.mpr ⟨z, by simpa using hx⟩)))
            exact ⟨hanb, fun z => hag2 (st2.gsub a (by rw [hg']; exact List.mem_append_right _ z))⟩
end Pm
set_option maxRecDepth 100000
set_option maxHeartbeats 4000000
namespace Pm
open PySem PySem.Spec PyProof.Rows L2 Sw
def pV : Vl → Option Vl := some
def pT1 {A : Type} (p : Vl → Option A) : Vl → Option A := fun v => match v with
  | .dat (.tuple [x]) => p (.dat x)
  | _ => none
def pT2 {A B : Type} (p : Vl → Option A) (q : Vl → Option B) : Vl → Option (A × B) := fun v => match v with
  | .dat (.tuple [x, y]) => (p (.dat x)).bind fun a => (q (.dat y)).map fun b => (a, b)
  | _ => none
def pT3 {A B C : Type} (p : Vl → Option A) (q : Vl → Option B) (r : Vl → Option C) : Vl → Option (A × B × C) := fun v => match v with
  | .dat (.tuple [x, y, z]) => (p (.dat x)).bind fun a => (q (.dat y)).bind fun b => (r (.dat z)).map fun c => (a, b, c)
  | _ => none
def pT4 {A B C D : Type} (p : Vl → Option A) (q : Vl → Option B) (r : Vl → Option C) (t : Vl → Option D) : Vl → Option (A × B × C × D) := fun v => match v with
  | .dat (.tuple [x, y, z, w]) => (p (.dat x)).bind fun a => (q (.dat y)).bind fun b => (r (.dat z)).bind fun c => (t (.dat w)).map fun d => (a, b, c, d)
  | _ => none
@[simp] theorem pV_ap {v : Vl} : pV v = some v := rfl
@[simp] theorem pT1_ap {A : Type} {p : Vl → Option A} {x : PyData} : pT1 p (.dat (.tuple [x])) = p (.dat x) := rfl
@[simp] theorem pT2_ap {A B : Type} {p : Vl → Option A} {q : Vl → Option B} {x y : PyData} : pT2 p q (.dat (.tuple [x, y])) = (p (.dat x)).bind fun a => (q (.dat y)).map fun b => (a, b) := rfl
@[simp] theorem pT3_ap {A B C : Type} {p : Vl → Option A} {q : Vl → Option B} {r : Vl → Option C} {x y z : PyData} : pT3 p q r (.dat (.tuple [x, y, z])) = (p (.dat x)).bind fun a => (q (.dat y)).bind fun b => (r (.dat z)).map fun c => (a, b, c) := rfl
@[simp] theorem pT4_ap {A B C D : Type} {p : Vl → Option A} {q : Vl → Option B} {r : Vl → Option C} {t : Vl → Option D} {x y z w : PyData} : pT4 p q r t (.dat (.tuple [x, y, z, w])) = (p (.dat x)).bind fun a => (q (.dat y)).bind fun b => (r (.dat z)).bind fun c => (t (.dat w)).map fun d => (a, b, c, d) := rfl
/-- what a target does -/
def TgP {P : Type} (g : MG) (p : Vl → Option P) (st : P → Loc → Loc) : Prop := ∀ v ρ s, g v ρ s = (match p v with | some x => .nx (st x ρ) s | none => .bad)
theorem tgp_n {i : Nat} : TgP (gSetM i) pV (fun v ρ => ρ.set i (some v)) := fun _ _ _ => rfl
theorem gTup_bad {n : Nat} {r : MGs} {v : Vl} {ρ : Loc} {s : Sto} (h : ∀ ds, v = .dat (.tuple ds) → ds.length ≠ n) : gTupM n r v ρ s = .bad := by
  unfold gTupM
  split
  · rename_i ds
    exact if_neg (h ds rfl)
  · rfl
theorem pT2_none {A B : Type} {p1 : Vl → Option A} {p2 : Vl → Option B} {v : Vl} (h : ¬ ∃ x y, v = .dat (.tuple [x, y])) : pT2 p1 p2 v = none := by
  unfold pT2
  split
  · exact absurd ⟨_, _, rfl⟩ h
  · rfl
theorem tgp_2 {A B : Type} {g1 g2 : MG} {p1 : Vl → Option A} {p2 : Vl → Option B} {st1 : A → Loc → Loc} {st2 : B → Loc → Loc} (h1 : TgP g1 p1 st1) (h2 : TgP g2 p2 st2) : TgP (gTupM 2 (gConsM g1 (gConsM g2 gNilM))) (pT2 p1 p2) (fun p ρ => (st2 p.2 (st1 p.1 ρ))) := fun v ρ s => by
  by_cases hv : ∃ x y, v = .dat (.tuple [x, y])
  · obtain ⟨x, y, rfl⟩ := hv
    show (if 2 = 2 then ((g1 (.dat x) ρ s).thn fun ρ1 s1 => (g2 (.dat y) ρ1 s1).thn fun ρ2 s2 => gNilM [] ρ2 s2) else (.bad : Fl)) = _
    rw [if_pos rfl, h1]
    rw [pT2_ap]
    cases e1 : p1 (.dat x) with
    | none => rfl
    | some a1 =>
      show ((g2 (.dat y) (st1 a1 ρ) s).thn _) = _
      rw [h2]
      dsimp only [Option.bind_some]
      cases e2 : p2 (.dat y) with
      | none => rfl
      | some a2 =>
        rfl
  · rw [pT2_none hv]
    refine gTup_bad fun ds e hl => ?_
    match ds, hl with
    | [x, y], _ => exact hv ⟨x, y, e⟩
def patN {S L P : Type} (o : Option P) (k : P → An S L) : An S L := match o with
  | some p => k p
  | none => .bad
@[simp] theorem patN_some {S L P : Type} (p : P) (k : P → An S L) : patN (some p) k = k p := rfl
@[simp] theorem patN_none {S L P : Type} (k : P → An S L) : patN none k = .bad := rfl
def callN (n : Nat) (g : MF) (vs : List Vl) (s : Sto) : R Vl := if vs.length = n ∧ vs.all noX = true then g vs s else .bad
def tupN (vs : List Vl) : Option Vl := (datas vs).bind fun ds => if ds.length ≤ 1000 then some (.dat (.tuple ds)) else none
def lstN (vs : List Vl) : Option Vl := (datas vs).bind fun ds => if ds.length ≤ 1000 then some (.dat (.list ds)) else none
def newN (vs : List Vl) (s : Sto) : R Vl := if vs.length ≤ 1000 ∧ vs.all noX = true then .ok (.ref s.length) (s ++ [.lst vs]) else .bad
def andN (v : Vl) (s : Sto) (r : R Vl) : R Vl := match tru v s with
  | some true => r
  | some false => .ok v s
  | none => .bad
def orN (v : Vl) (s : Sto) (r : R Vl) : R Vl := match tru v s with
  | some true => .ok v s
  | some false => r
  | none => .bad
def notV (v : Vl) (s : Sto) : Option Vl := (tru v s).map fun k => .dat (.bool (!k))
def optN (o : Option Vl) (s : Sto) : R Vl := match o with
  | some v => .ok v s
  | none => .bad
def appN (v : Vl) (s1 : Sto) (r : Sto → R (List Vl)) : R Vl := match v with
  | .ref n => (match lstAt s1 n with
    | none => .bad
    | some _ => (r s1).bind fun vs s2 => match vs, lstAt s2 n with
      | [w], some l => if l.length < mil ∧ noX w = true then .ok (.dat .none) (s2.set n (.lst (l ++ [w]))) else .bad
      | _, _ => .bad)
  | _ => .bad
def extN (v : Vl) (s1 : Sto) (r : Sto → R (List Vl)) : R Vl := match v with
  | .ref n => (match lstAt s1 n with
    | none => .bad
    | some _ => (r s1).bind fun vs s2 => match vs, lstAt s2 n with
      | [.dat (.list ds)], some l => if l.length + ds.length ≤ mil then .ok (.dat .none) (s2.set n (.lst (l ++ ds.map Vl.dat))) else .bad
      | _, _ => .bad)
  | _ => .bad
@[simp] theorem callN_ap {n : Nat} {g : MF} {vs : List Vl} {s : Sto} : callN n g vs s = if vs.length = n ∧ vs.all noX = true then g vs s else .bad := rfl
@[simp] theorem tupN_ap {vs : List Vl} : tupN vs = (datas vs).bind fun ds => if ds.length ≤ 1000 then some (.dat (.tuple ds)) else none := rfl
@[simp] theorem lstN_ap {vs : List Vl} : lstN vs = (datas vs).bind fun ds => if ds.length ≤ 1000 then some (.dat (.list ds)) else none := rfl
@[simp] theorem newN_ap {vs : List Vl} {s : Sto} : newN vs s = if vs.length ≤ 1000 ∧ vs.all noX = true then .ok (.ref s.length) (s ++ [.lst vs]) else .bad := rfl
@[simp] theorem andN_ap {v : Vl} {s : Sto} {r : R Vl} : andN v s r = (match tru v s with | some true => r | some false => .ok v s | none => .bad) := rfl
@[simp] theorem orN_ap {v : Vl} {s : Sto} {r : R Vl} : orN v s r = (match tru v s with | some true => .ok v s | some false => r | none => .bad) := rfl
@[simp] theorem notV_ap {v : Vl} {s : Sto} : notV v s = (tru v s).map fun k => .dat (.bool (!k)) := rfl
@[simp] theorem optN_some {v : Vl} {s : Sto} : optN (some v) s = .ok v s := rfl
def par2N {S L : Type} (vs : List Vl) (k : Vl → Vl → An S L) : An S L := match vs with
  | [v, w] => k v w
  | _ => .bad
def par3N {S L : Type} (vs : List Vl) (k : Vl → Vl → Vl → An S L) : An S L := match vs with
  | [v, w, u] => k v w u
  | _ => .bad
@[simp] theorem par2N_ap {S L : Type} {v w : Vl} (k : Vl → Vl → An S L) : par2N [v, w] k = k v w := rfl
@[simp] theorem par3N_ap {S L : Type} {v w u : Vl} (k : Vl → Vl → Vl → An S L) : par3N [v, w, u] k = k v w u := rfl
open Classical in
noncomputable def rngN1 (vs : List Vl) (s1 : Sto) : R Src := match vs with
  | [.dat (.int j)] => if In62 j then .ok ⟨rgs 0 j.toNat, none⟩ s1 else .bad
  | _ => .bad
def enN (vs : List Vl) (s1 : Sto) : R Src := match vs with
  | [.dat (.tuple ds)] => .ok ⟨pairs ds 0, none⟩ s1
  | _ => .bad
@[simp] theorem enN_ap {ds : List PyData} {s : Sto} : enN [.dat (.tuple ds)] s = .ok ⟨pairs ds 0, none⟩ s := rfl
theorem rngN1_n {n : Nat} {s : Sto} (h : n ≤ mil) : rngN1 [.dat (.int (n : Int))] s = .ok ⟨rgs 0 n, none⟩ s := by
  unfold rngN1
  simp only []
  rw [if_pos (i62 h), Int.toNat_natCast]
section
variable {S S' L : Type} {X : Cx} {zx : Exo} {W : WX} {mkS : S → Loc} {mkL : L → Loc} {ox : Option Loc} {ρ : Loc} {st : Stmt} {rest : List Stmt} {e : Expr} {F : ME} {f : Sto → R Vl} {pos : Pos}
theorem nss_par2 {i j : Nat} {x y : Str} {a b : Expr} {r : MA} {fr : Sto → R (List Vl)} {px py pt : Pos} {kt k2 pt2} {ρ' : Vl → Vl → Loc} {k : Vl → Vl → Sto → An S L} (hc : X.calm = true) (hN : X.N.Nodup) (hi : X.N[i]? = some x) (hj : X.N[j]? = some y) (hij : i ≠ j)
    (hx : X.env.scope.names.lookup x = some .local) (hy : X.env.scope.names.lookup y = some .local) (ha : DA X zx W [a, b] r) (h2 : ∀ v w, NSs X zx W ox mkS mkL (ρ' v w) rest (k v w)) (hox : OxLe ox ρ) (hF : ∀ s, r ρ s = fr s := by intro _; rfl) (hρ : ∀ v w, (ρ.set i (some v)).set j (some w) = ρ' v w := by intro _ _; rfl)
    (hw : swappedStores [.Tuple [.Name x px, .Name y py] kt pt] (.Tuple [a, b] k2 pt2) X.env = pure (some [x, y]) := by rfl)
    (hs : swapsWithSole [.Tuple [.Name x px, .Name y py] kt pt] (.Tuple [a, b] k2 pt2) pos.line X.env = pure false := by rfl) :
    NSs X zx W ox mkS mkL ρ (.Assign [.Tuple [.Name x px, .Name y py] kt pt] (.Tuple [a, b] k2 pt2) pos :: rest) (fun s => (fr s).an fun vs s1 => par2N vs fun v w => k v w s1) := nss_par hc hN hi hj hij hx hy ha h2 hox hF hρ hw hs
theorem nss_par3N {i j l : Nat} {x y z : Str} {a b c : Expr} {r : MA} {fr : Sto → R (List Vl)} {px py pz pt : Pos} {kt k2 pt2} {ρ' : Vl → Vl → Vl → Loc} {k : Vl → Vl → Vl → Sto → An S L} (hc : X.calm = true) (hN : X.N.Nodup) (hi : X.N[i]? = some x) (hj : X.N[j]? = some y) (hk : X.N[l]? = some z) (hij : i ≠ j) (hik : i ≠ l) (hjk : j ≠ l)
    (hx : X.env.scope.names.lookup x = some .local) (hy : X.env.scope.names.lookup y = some .local) (hz : X.env.scope.names.lookup z = some .local) (ha : DA X zx W [a, b, c] r) (h2 : ∀ v w u, NSs X zx W ox mkS mkL (ρ' v w u) rest (k v w u)) (hox : OxLe ox ρ) (hF : ∀ s, r ρ s = fr s := by intro _; rfl) (hρ : ∀ v w u, ((ρ.set i (some v)).set j (some w)).set l (some u) = ρ' v w u := by intro _ _ _; rfl)
    (hw : swappedStores [.Tuple [.Name x px, .Name y py, .Name z pz] kt pt] (.Tuple [a, b, c] k2 pt2) X.env = pure (some [x, y, z]) := by rfl)
    (hs : swapsWithSole [.Tuple [.Name x px, .Name y py, .Name z pz] kt pt] (.Tuple [a, b, c] k2 pt2) pos.line X.env = pure false := by rfl) :
    NSs X zx W ox mkS mkL ρ (.Assign [.Tuple [.Name x px, .Name y py, .Name z pz] kt pt] (.Tuple [a, b, c] k2 pt2) pos :: rest) (fun s => (fr s).an fun vs s1 => par3N vs fun v w u => k v w u s1) := nss_par3 hc hN hi hj hk hij hik hjk hx hy hz ha h2 hox hF hρ hw hs
theorem ns_forP {P : Type} {mk1 : S' → Loc} {body : List Stmt} {tg iter : Expr} {IT : MI} {it : Sto → R Src} {g : MG} {pat : Vl → Option P} {stp : P → Loc → Loc} {ρb : P → S' → Loc} {nb : P → S' → Sto → An S' S'} {a0 : S'} (hp : PassesOwn (model X.prog X.w) X.A X.env X.xe) (hc : X.calm = true) (hi : DI X zx W tg iter IT) (hg : DG X zx tg g)
    (hgp : TgP g pat stp) (hb : ∀ p a, NSs X zx W ox mk1 mk1 (ρb p a) body (nb p a)) (h0 : LeL (mk1 a0) ρ) (hox : OxLe ox ρ) (hρ : ∀ p a, stp p (mk1 a) = ρb p a := by intro _ _; rfl) (hF : ∀ s, IT ρ s = it s := by intro _; rfl)
    (hs : ∀ x, foldedSetIterable iter X.env x = pure x := by intro _; rfl) :
    NS X zx W ox mk1 mkL ρ (.For tg iter body [] pos) (fun s => (it s).an fun c s1 => forN c.ok mk1 (fun v a s => patN (pat v) fun p => nb p a s) c.items a0 s1) := by
  have e : (fun (v : Vl) (a : S') (s : Sto) => (patN (pat v) fun p => nb p a s : An S' S')) = fun v a s => (match pat v with | some p => nb p a s | none => .bad) := by
    funext v a s
    cases pat v <;> rfl
  rw [e]
  exact ns_for hp hc hi hg hb (fun v a s => by
    rw [hgp v (mk1 a) s]
    cases pat v with
    | none => rfl
    | some p => dsimp only; rw [hρ]) h0 hox hF hs
/-- what is shown, said -/
theorem nss_at {mkS : S → Loc} {mkL : L → Loc} {ρ : Loc} {n : Sto → An S L} {b : List Stmt} (h : NSs X zx W ox mkS mkL ρ b n) : NSs X zx W ox mkS mkL ρ b n := h
/-- a, b, .. = value -/
theorem nss_asgT {tg : Expr} {g : MG} {P : Type} {pat : Vl → Option P} {stp : P → Loc → Loc} {ρ' : P → Loc} {k : P → Sto → An S L} (he : DE X zx W e F) (hg : DG X zx tg g) (hgp : TgP g pat stp) (h2 : ∀ p, NSs X zx W ox mkS mkL (ρ' p) rest (k p)) (hox : OxLe ox ρ)
    (hρ : ∀ p, stp p ρ = ρ' p := by intro _; rfl) (hF : ∀ s, F ρ s = f s := by intro _; rfl) (hs : swapsWithSole [tg] e pos.line X.env = pure false := by rfl) (hw : swappedStores [tg] e X.env = pure none := by rfl)
    (h1 : (assignEach [tg] X.env).map (·.2) = [assign tg X.env] := by rfl) : NSs X zx W ox mkS mkL ρ (.Assign [tg] e pos :: rest) (fun s => (f s).an fun v s1 => patN (pat v) fun p => k p s1) :=
  PSs.imp (pss_cons (ps_asg he hg hs hw h1) (pss_ex h2)) fun D σ H ⟨β, s, hl, hs, q⟩ => ⟨β, ρ, s, hl, hs, by
    rw [hF]
    refine PostN.an hl hox q fun v s1 β1 H1 u st1 hs1 r1 h1 => ⟨β1, ρ, s1, v, hl.step st1, hs1, r1, ?_⟩
    rw [hgp]
    cases e : pat v with
    | some p =>
      rw [e] at h1
      dsimp only
      rw [hρ]
      exact fun β' σ' H' st' hl' hs' => ⟨p, β', s1, hl', hs', PostN.step h1 st'⟩
    | none => rw [e] at h1; exact h1.elim⟩
/-- what a store into a part does -/
def TgS (ρ : Loc) (g : MG) (u : Vl → Sto → Option Sto) : Prop := ∀ v s, g v ρ s = (match u v s with | some s1 => .nx ρ s1 | none => .bad)
def stoN {S L : Type} (o : Option Sto) (k : Sto → An S L) : An S L := match o with
  | some s => k s
  | none => .bad
@[simp] theorem stoN_some {S L : Type} (s : Sto) (k : Sto → An S L) : stoN (some s) k = k s := rfl
theorem nss_asgS {tg : Expr} {g : MG} {u : Vl → Sto → Option Sto} {k : Sto → An S L} (he : DE X zx W e F) (hg : DG X zx tg g) (hgp : TgS ρ g u) (h2 : NSs X zx W ox mkS mkL ρ rest k) (hox : OxLe ox ρ) (hF : ∀ s, F ρ s = f s := by intro _; rfl) (hs : swapsWithSole [tg] e pos.line X.env = pure false := by rfl) (hw : swappedStores [tg] e X.env = pure none := by rfl)
    (h1 : (assignEach [tg] X.env).map (·.2) = [assign tg X.env] := by rfl) : NSs X zx W ox mkS mkL ρ (.Assign [tg] e pos :: rest) (fun s => (f s).an fun v s1 => stoN (u v s1) k) :=
  PSs.imp (pss_cons (ps_asg he hg hs hw h1) h2) fun D σ H ⟨β, s, hl, hs, q⟩ => ⟨β, ρ, s, hl, hs, by
    rw [hF]
    refine PostN.an hl hox q fun v s1 β1 H1 u1 st1 hs1 r1 h1 => ⟨β1, ρ, s1, v, hl.step st1, hs1, r1, ?_⟩
    rw [hgp]
    cases e : u v s1 with
    | some s2 => rw [e] at h1; exact fun β' σ' H' st' hl' hs' => ⟨β', s2, hl', hs', PostN.step h1 st'⟩
    | none => rw [e] at h1; exact h1.elim⟩
/-- xs[i] = v -/
def subU (o : R Vl) (g : Sto → R Vl) (v : Vl) : Option Sto := match o with
  | .ok (.ref n) s1 => (match g s1 with
    | .ok i s2 => putIx n i v s2
    | _ => none)
  | _ => none
theorem tgs_sub {o i : ME} {fo : Sto → R Vl} {fi : Sto → R Vl} (h1 : ∀ s, o ρ s = fo s := by intro _; rfl) (h2 : ∀ s, i ρ s = fi s := by intro _; rfl) : TgS ρ (gSubM o i) (fun v s => subU (fo s) fi v) := fun v s => by
  have e2 : i ρ = fi := funext h2
  show gSubM o i v ρ s = (match subU (fo s) fi v with | some s1 => .nx ρ s1 | none => .bad)
  unfold gSubM subU
  rw [h1, e2]
  generalize fo s = a
  cases a with
  | ok w s1 =>
    cases w with
    | ref n =>
      dsimp only
      generalize fi s1 = b
      cases b with
      | ok w2 s2 => rfl
      | _ => rfl
    | _ => rfl
  | _ => rfl
/-- xs[i] += e of ints -/
def getI (v i : Vl) (s : Sto) : Option Int := match v, i with
  | .ref n, .dat (.int k) => (lstAt s n).bind fun l => if 0 ≤ k then (match l[k.toNat]? with
    | some (.dat (.int old)) => some old
    | _ => none) else none
  | _, _ => none
def putI (v i y : Vl) (old : Int) (s : Sto) : Option Sto := match v, i, y with
  | .ref n, .dat (.int k), .dat (.int d) => (lstAt s n).bind fun l => if k < l.length then some (s.set n (.lst (l.set k.toNat (.dat (.int (old + d)))))) else none
  | _, _, _ => none
theorem nss_augS {o i e : Expr} {tpos : Pos} {fo fi fh : ME} {go gi gh : Sto → R Vl} {k : Sto → An S L} (ho : DE X zx W o fo) (hi : DE X zx W i fi) (he : DE X zx W e fh) (h2 : NSs X zx W ox mkS mkL ρ rest k) (hox : OxLe ox ρ) (e1 : ∀ s, fo ρ s = go s := by intro _; rfl) (e2 : ∀ s, fi ρ s = gi s := by intro _; rfl) (e3 : ∀ s, fh ρ s = gh s := by intro _; rfl)
    (ha : ∀ ov iv new, augStore i ov iv new = (do holding [new, ov, iv] (setItem ov iv new); release [new, ov, iv] []; pure .next) := by intros; rfl) :
    NSs X zx W ox mkS mkL ρ (.AugAssign (.Subscript o i tpos) .Add e pos :: rest) (fun s => (go s).an fun v s1 => (gi s1).an fun i s2 => patN (getI v i s2) fun old => (gh s2).an fun y s3 => stoN (putI v i y old s3) k) :=
  PSs.imp (pss_cons (ps_augS ho hi get_list he ip_add set_list ha) h2) fun D σ H ⟨β, s, hl, hs, q⟩ => by
  refine ⟨β, ρ, s, hl, hs, ?_⟩
  rw [e1]
  refine PostN.an hl hox q fun v s1 β1 H1 u st1 hs1 r1 h1 => ?_
  have hl1 := hl.step st1
  refine ⟨β1, ρ, s1, hl1, hs1, ?_⟩
  rw [e2]
  refine PostN.an hl1 hox h1 fun iv s2 β2 H2 u2 st2 hs2 r2 h2 => ?_
  have hl2 := hl1.step st2
  cases eg : getI v iv s2 with
  | none => rw [eg] at h2; exact h2.elim
  | some old =>
    rw [eg] at h2
    dsimp only [patN] at h2
    unfold getI at eg
    split at eg
    · rename_i n k
      obtain ⟨a, hb, rfl⟩ := r1
      cases r2
      cases el : lstAt s2 n with
      | none => rw [el] at eg; cases eg
      | some l =>
        rw [el] at eg
        dsimp only [Option.bind_some] at eg
        split at eg
        · rename_i hk
          split at eg
          · rename_i old' eo
            cases eg
            obtain ⟨t, ht⟩ := st2.pre
            have hb2 : β2.b[n]? = some a := by
              rw [← ht, List.getElem?_append_left (List.getElem?_eq_some_iff.mp hb).1]
              exact hb
            obtain ⟨hz, xs2, hx2, rv2⟩ := hs2.ob n _ a (lstAt_eq el) hb2
            obtain ⟨w, hw, rw2⟩ := rv2.get' eo
            cases rw2
            refine ⟨a, xs2, k, _, rfl, rfl, hk, SqL.of hx2, hw, β2, ρ, s2, hl2, hs2, ?_⟩
            rw [e3]
            refine PostN.an hl2 hox h2 fun y s3 β3 H3 u3 st3 hs3 r3 h3 => ?_
            cases ep : putI (.ref n) (.dat (.int k)) y old s3 with
            | none => rw [ep] at h3; exact h3.elim
            | some s4 =>
              rw [ep] at h3
              dsimp only [stoN] at h3
              unfold putI at ep
              split at ep
              · rename_i n' k' d3 en ek
                cases en
                cases ek
                cases r3
                cases el3 : lstAt s3 n with
                | none => rw [el3] at ep; cases ep
                | some l3 =>
                  rw [el3] at ep
                  dsimp only [Option.bind_some] at ep
                  split at ep
                  · rename_i hlt
                    cases ep
                    obtain ⟨t3, ht3⟩ := st3.pre
                    have hb3 : β3.b[n]? = some a := by
                      rw [← ht3, List.getElem?_append_left (List.getElem?_eq_some_iff.mp hb2).1]
                      exact hb2
                    obtain ⟨hz3, xs3, hx3, rv3⟩ := hs3.ob n _ a (lstAt_eq el3) hb3
                    obtain ⟨st4, hs4⟩ := put_lst (l' := l3.set k.toNat (.dat (.int (old + d3)))) (xs' := xs3.set k.toNat (.int (old + d3))) hs3 (lstAt_eq el3) hb3 hx3 (by rw [List.length_set]; exact hz3) (Rvs.set (v := .dat (.int (old + d3))) (.int _) _ rv3)
                    refine ⟨old, d3, rfl, rfl, a, xs3, k, k.toNat, rfl, rfl, hx3, ?_, β3, _, (hl2.step st3).step st4, hs4, PostN.step h3 st4⟩
                    unfold ixN
                    rw [if_pos hk, if_pos (by rw [← rv3.len]; exact hlt)]
                  · cases ep
              · cases ep
          · cases eg
        · cases eg
    · cases eg
end
end Pm
set_option maxRecDepth 100000
set_option maxHeartbeats 4000000
namespace Pm
open PySem PySem.Spec PyProof.Rows L2 Sw
section
variable {K : PySem.W.Frag} {G : Cf} {H : Hp} {β : Bs} {p : Addr} {o : HO} {g' : List Addr}
theorem Gp.sdm (g : Gp β H p) (hg : ∀ x ∈ g', x ∈ β.g) {a : Addr} {x : HO} (h : Sd H β a x) : Sd (upd H p o) ⟨β.b ++ [p], g'⟩ a x := by
  have ne : a ≠ p := fun z => h.2.2 (by rw [z]; exact g.mem)
  refine ⟨by rw [upd_ne ne]; exact h.1, fun z => ?_, fun z => h.2.2 (hg a z)⟩
  rcases List.mem_append.mp (show a ∈ β.b ++ [p] from z) with z | z
  · exact h.2.1 z
  · exact ne (by simpa using z)
theorem Gp.dqm (g : Gp β H p) (hg : ∀ x ∈ g', x ∈ β.g) {v : V} {d : PyData} (h : Dq K H β v d) : Dq K (upd H p o) ⟨β.b ++ [p], g'⟩ v d := h.tr (fun _ _ _ h => g.sdm hg h) fun _ _ _ h => g.tupA h
theorem Rv.mine (g : Gp β H p) (hg : ∀ x ∈ g', x ∈ β.g) : ∀ {v : Vl} {u : V}, Rv G H β v u → Rv G (upd H p o) ⟨β.b ++ [p], g'⟩ v u
  | .dat _, _, h => g.dqm hg h
  | .ref n, _, ⟨a, e, q⟩ => ⟨a, by
      show (β.b ++ [p])[n]? = some a
      rw [List.getElem?_append_left (List.getElem?_eq_some_iff.mp e).1]
      exact e, q⟩
  | .scr _, _, ⟨a, e, q⟩ => ⟨a, e, g.scr q⟩
  | .exo _ _, _, ⟨a, c, d, e, q, C, dd, xs, h1, h2, h3, h4, h5, h6⟩ => by
    obtain ⟨y, hp, hc⟩ := g.lst
    have ne : dd ≠ p := ne_of h4 hp (isC_xd hc)
    refine ⟨a, c, d, e, q, C, dd, xs, h1, h2, h3, by rw [upd_ne ne]; exact h4, fun z => ?_, Paired.mapP h6 fun p q z => ⟨z.1, g.dqm hg z.2⟩⟩
    rcases List.mem_append.mp (show dd ∈ β.b ++ [p] from z) with z | z
    · exact h5 z
    · exact ne (by simpa using z)
  | .fn _, _, h => h
  | .lam _ c _ _ _, _, ⟨e, h, n, r⟩ => by
    obtain ⟨y, hp, hc⟩ := g.lst
    have ne : c ≠ p := ne_of h hp (isC_code hc)
    refine ⟨e, by rw [upd_ne ne]; exact h, ⟨fun z => ?_, fun z => n.2 (hg _ z)⟩, r.map (fun _ _ h => g.dqm hg h) fun m a e => ?_⟩
    · rcases List.mem_append.mp (show c ∈ β.b ++ [p] from z) with z | z
      · exact n.1 z
      · exact ne (by simpa using z)
    · show (β.b ++ [p])[m]? = some a
      rw [List.getElem?_append_left (List.getElem?_eq_some_iff.mp e).1]
      exact e
theorem Rvs.mine (g : Gp β H p) (hg : ∀ x ∈ g', x ∈ β.g) : ∀ {vs : List Vl} {us : List V}, Rvs G H β vs us → Rvs G (upd H p o) ⟨β.b ++ [p], g'⟩ vs us
  | _, _, .nil => .nil
  | _, _, .cons h r => .cons (Rv.mine g hg h) (Rvs.mine g hg r)
theorem RO.mine (g : Gp β H p) (hg : ∀ x ∈ g', x ∈ β.g) {a : Addr} {ob : Ob} (ne : a ≠ p) (h : RO G H β a ob) : RO G (upd H p o) ⟨β.b ++ [p], g'⟩ a ob := by
  cases ob with
  | tup l => obtain ⟨hl, xs, e, r⟩ := h; exact ⟨hl, xs, by rw [upd_ne ne]; exact e, Rvs.mine g hg r⟩
  | lst l => obtain ⟨hl, xs, e, r⟩ := h; exact ⟨hl, xs, by rw [upd_ne ne]; exact e, Rvs.mine g hg r⟩
  | dic t l => cases t <;> (obtain ⟨xs, e, r⟩ := h; exact ⟨xs, by rw [upd_ne ne]; exact e, Paired.mapP r fun p q z => ⟨z.1, Rv.mine g hg z.2⟩⟩)
  | ins c l =>
    obtain ⟨C, dx, xs, hm, e, hd, n, r⟩ := h
    obtain ⟨y, hp, hc⟩ := g.lst
    have nx : dx ≠ p := ne_of hd hp (isC_own hc)
    refine ⟨C, dx, xs, hm, by rw [upd_ne ne]; exact e, by rw [upd_ne nx]; exact hd, fun z => ?_, Paired.mapP r fun p q z => ⟨z.1, Rv.mine g hg z.2⟩⟩
    rcases List.mem_append.mp (show dx ∈ β.b ++ [p] from z) with z | z
    · exact n z
    · exact nx (by simpa using z)
theorem RelS.mine (g : Gp β H p) {s : Sto} {ob : Ob} (h : RelS G β s H) (hg : ∀ x ∈ g', x ∈ β.g) (r : RO G (upd H p o) ⟨β.b ++ [p], g'⟩ p ob) (hpg : p ∉ g' := by assumption) : RelS G ⟨β.b ++ [p], g'⟩ (s ++ [ob]) (upd H p o) := by
  have np := (h.gs p g.mem).2
  refine ⟨by simp [h.len], ?_, fun n x a h1 h2 => ?_, fun a ha => ?_, TabsB.mono (β := β) (β' := ⟨β.b ++ [p], g'⟩) (fun x hx => ?_) (fun x hx => .inr (.inl (hg x hx))) (h.tb.put (.inr g.mem))⟩
  rotate_right
  · rcases List.mem_append.mp (show x ∈ β.b ++ [p] from hx) with z | z
    · exact .inl z
    · exact .inr (.inl (by rw [show x = p by simpa using z]; exact g.mem))
  · show (β.b ++ [p]).Nodup
    rw [List.nodup_append]
    exact ⟨h.nd, by simp, fun a ha b hb => by
      have : b = p := by simpa using hb
      subst this
      exact fun z => np (z ▸ ha)⟩
  · have h2 : (β.b ++ [p])[n]? = some a := h2
    by_cases hlt : n < s.length
    · rw [List.getElem?_append_left hlt] at h1
      rw [List.getElem?_append_left (by rw [h.len]; exact hlt)] at h2
      exact (h.ob n x a h1 h2).mine g hg fun z => np (by rw [← z]; exact List.mem_of_getElem? h2)
    · have hlt2 : n < (s ++ [ob]).length := (List.getElem?_eq_some_iff.mp h1).1
      have : n = s.length := by simp at hlt2; omega
      subst this
      rw [List.getElem?_append_right (Nat.le_refl _), Nat.sub_self] at h1
      rw [← h.len, List.getElem?_append_right (Nat.le_refl _), Nat.sub_self] at h2
      cases h1; cases h2
      exact r
  · obtain ⟨⟨x, hx⟩, n⟩ := h.gs a (hg a ha)
    have ne : a ≠ p := fun z => hpg (by rw [← z]; exact ha)
    refine ⟨⟨x, by rw [upd_ne ne]; exact hx⟩, fun z => ?_⟩
    rcases List.mem_append.mp (show a ∈ β.b ++ [p] from z) with z | z
    · exact n z
    · exact ne (by simpa using z)
end
def okL (l : List Vl) : Bool := l.all noX
def finN (acc : List Vl) (s : Sto) : R Vl := if okL acc = true then .ok (.ref s.length) (s ++ [.lst acc]) else .bad
end Pm
set_option maxRecDepth 100000
set_option maxHeartbeats 4000000
namespace Pm
open PySem PySem.Spec PyProof.Rows L2 Sw
section
variable {G : Cf} {H : Hp} {β : Bs}
theorem push_ix {s : Sto} (hs : RelS G β s H) (p : Addr) : (β.push p).b[s.length]? = some p := by
  show (β.b ++ [p])[s.length]? = some p
  rw [← hs.len, List.getElem?_append_right (Nat.le_refl _), Nat.sub_self]
  rfl
theorem Rvs.dropLast : ∀ {vs : List Vl} {us : List V}, Rvs G H β vs us → Rvs G H β vs.dropLast us.dropLast
  | _, _, .nil => .nil
  | _, _, .cons h .nil => .nil
  | _, _, .cons h (.cons h2 r) => .cons h (Rvs.dropLast (.cons h2 r))
theorem Rvs.eraseIdx : ∀ {vs : List Vl} {us : List V} (k : Nat), Rvs G H β vs us → Rvs G H β (vs.eraseIdx k) (us.eraseIdx k)
  | _, _, _, .nil => .nil
  | _, _, 0, .cons _ r => r
  | _, _, k + 1, .cons h r => .cons h (Rvs.eraseIdx k r)
end
def mNewD (t : Bool) : ME := fun _ s => .ok (.ref s.length) (s ++ [.dic t []])
def popN (v : Vl) (s1 : Sto) : R Vl := match v with
  | .ref n => (match lstAt s1 n with
    | some l => (match l[l.length - 1]? with
      | some y => .ok y (s1.set n (.lst l.dropLast))
      | none => .bad)
    | none => .bad)
  | _ => .bad
def mPop (f : ME) : ME := fun ρ s => (f ρ s).bind popN
def popAtN (v : Vl) (vs : List Vl) (s2 : Sto) : R Vl := match v, vs with
  | .ref n, [.dat (.int i)] => (match lstAt s2 n with
    | some l => (match ixN l.length i with
      | some k => (match l[k]? with
        | some y => .ok y (s2.set n (.lst (l.eraseIdx k)))
        | none => .bad)
      | none => .bad)
    | none => .bad)
  | _, _ => .bad
def isRl (v : Vl) (s : Sto) : Bool := match v with
  | .ref n => (lstAt s n).isSome
  | _ => false
section
variable {X : Cx} {zx : Exo} {W : WX} {o e e2 : Expr} {f f1 f2 : ME} {r : MA} {apos cpos pos : Pos}
theorem de_newK : DE X zx W (.Dict [] [] pos) (mNewD false) := PE.imp pe_dnewK fun σ H Q ⟨β, ρ, s, hl, hs, hp⟩ p hn => hp (β.push p) _ _ (Step.push hn) (hs.push hn ⟨[], upd_same, .nil⟩) ⟨p, push_ix hs p, rfl⟩
theorem de_pop (ho : DE X zx W o f) (hbase : attributeBase o "pop" X.env (eval o X.env) = eval o X.env := by rfl) (hline : (apos.endLine == cpos.line) = true := by rfl) : DE X zx W (.Call (.Attribute o "pop" apos) [] [] cpos) (mPop f) :=
  PE.imp (pe_bm0 PySem.F.plainAttrs_list PySem.F.slot_list_pop PySem.F.type_list_pop mt_pop ho hbase hline) fun σ H Q ⟨β, ρ, s, hl, hs, hp⟩ => by
  refine ⟨β, ρ, s, hl, hs, Post.bind hp fun v s1 β1 H1 u st1 hs1 r1 h1 => ?_⟩
  unfold popN at h1
  split at h1
  · rename_i n
    obtain ⟨a, hb, rfl⟩ := r1
    split at h1
    · rename_i l el
      split at h1
      · rename_i y ey
        obtain ⟨hz, xs, hx, rv⟩ := hs1.ob n _ a (lstAt_eq el) hb
        obtain ⟨w, hw, ry⟩ := rv.get' ey
        have hd := rv.dropLast
        obtain ⟨st2, hs2⟩ := put_lst (l' := l.dropLast) (xs' := xs.dropLast) hs1 (lstAt_eq el) hb hx (by rw [List.length_dropLast]; omega) hd
        exact ⟨.inl ⟨rfl, xs, SqL.of hx⟩, a, xs, w, rfl, rfl, hx, by rw [← rv.len]; exact hw, h1 β1 _ w st2 hs2 (st2.rv (Rv.up ry))⟩
      · exact h1.elim
    · exact h1.elim
  · exact h1.elim
end
end Pm
set_option maxRecDepth 100000
set_option maxHeartbeats 4000000
namespace Pm
open PySem PySem.Spec PyProof.Rows L2 Sw
section
variable {P : Type}
open Classical in
noncomputable def compP (ok : Sto → Prop) (pat : Vl → Option P) (t : P → Sto → R Bool) (e : P → Sto → R Vl) : List Vl → List Vl → Sto → R (List Vl)
  | [], acc, s => if ok s then .ok acc s else .bad
  | v :: r, acc, s => if ok s then (match pat v with
    | none => .bad
    | some p => match t p s with
      | .ok true s1 => (match e p s1 with
        | .ok y s2 => if acc.length < sizeLine then compP ok pat t e r (acc ++ [y]) s2 else .bad
        | _ => .bad)
      | .ok false s1 => compP ok pat t e r acc s1
      | _ => .bad) else .bad
def gmP (pat : Vl → Option P) (st : P → Loc → Loc) : Vl → Loc → Option Loc := fun v ρ => (pat v).map fun p => st p ρ
theorem compM_P {c : Src} {pat : Vl → Option P} {st : P → Loc → Loc} {t : MT} {e : ME} {ρ0 : Loc} : ∀ (l acc : List Vl) (s : Sto), compM c (gmP pat st) t e ρ0 l acc s = compP c.ok pat (fun p => t (st p ρ0)) (fun p => e (st p ρ0)) l acc s
  | [], acc, s => rfl
  | v :: r, acc, s => by
    rw [compM, compP]
    split
    · unfold gmP
      cases pat v with
      | none => rfl
      | some p =>
        dsimp only [Option.map_some]
        cases t (st p ρ0) s with
        | ok b s1 =>
          cases b with
          | true =>
            dsimp only
            cases e (st p ρ0) s1 with
            | ok y s2 =>
              dsimp only
              split
              · exact compM_P r _ s2
              · rfl
            | ex _ _ => rfl
            | bad => rfl
          | false => exact compM_P r acc s1
        | ex _ _ => rfl
        | bad => rfl
    · rfl
noncomputable def lcP (r : R Src) (pat : Vl → Option P) (t : P → Sto → R Bool) (e : P → Sto → R Vl) : R Vl := r.bind fun c s1 => (compP c.ok pat t e c.items [] s1).bind fun acc s2 => R.of ((datas acc).map fun ds => .dat (.list ds)) s2
noncomputable def lcPN (r : R Src) (pat : Vl → Option P) (t : P → Sto → R Bool) (e : P → Sto → R Vl) : R Vl := r.bind fun c s1 => (compP c.ok pat t e c.items [] s1).bind finN
noncomputable def mLcP (it : MI) (pat : Vl → Option P) (st : P → Loc → Loc) (t : MT) (e : ME) (vs : List Nat) : ME := fun ρ s => lcP (it ρ s) pat (fun p s => t (st p (wipeM ρ vs)) s) (fun p s => e (st p (wipeM ρ vs)) s)
theorem mLcP_eq {it : MI} {pat : Vl → Option P} {st : P → Loc → Loc} {t : MT} {e : ME} {vs : List Nat} : mLc it (gmP pat st) t e vs = mLcP it pat st t e vs := by
  funext ρ s
  unfold mLc mLc0 mLcP lcP
  cases it ρ s with
  | ok c s1 => simp only [R.bind_ok, compM_P]
  | ex _ _ => rfl
  | bad => rfl
end
theorem gokP_n {G : Cf} {i : Nat} {vs : List Nat} (h : i ∈ vs) : GOk G (gName i) (gmP pV (fun v ρ => ρ.set i (some v))) vs := fun x v σ ρ ρ2 β H Q hl r e q => by
  cases e
  exact q _ (hl.set r) (wipe_set h)
theorem gokP_2 {G : Cf} {A B : Type} {vs : List Nat} {g1 g2 : TG} {p1 : Vl → Option A} {p2 : Vl → Option B} {st1 : A → Loc → Loc} {st2 : B → Loc → Loc} (h1 : GOk G g1 (gmP p1 st1) vs) (h2 : GOk G g2 (gmP p2 st2) vs) : GOk G (gTup G.K 2 (gCons g1 (gCons g2 gNil))) (gmP (pT2 p1 p2) (fun p ρ => (st2 p.2 (st1 p.1 ρ)))) vs := fun x v σ ρ ρ2 β H Q hl r e q => by
  by_cases hv : ∃ x y, v = .dat (.tuple [x, y])
  · obtain ⟨d1, d2, rfl⟩ := hv
    unfold gmP at e
    rw [pT2_ap] at e
    cases e1 : p1 (.dat d1) with
    | none => rw [e1] at e; cases e
    | some a1 =>
      cases e2 : p2 (.dat d2) with
      | none => rw [e1, e2] at e; cases e
      | some a2 =>
        rw [e1, e2] at e
        cases e
        cases r with
        | @tup a xs _ ht hz d =>
          cases d with
          | cons r1 d =>
            cases d with
            | cons r2 d =>
              cases d
              exact ⟨a, _, rfl, ht.sqt, rfl, _, _, rfl, h1 _ (.dat d1) σ ρ _ β H _ hl r1 (by unfold gmP; rw [e1]; rfl) fun σ1 hl1 w1 =>
                ⟨_, _, rfl, h2 _ (.dat d2) σ1 _ _ β H _ hl1 r2 (by unfold gmP; rw [e2]; rfl) fun σ2 hl2 w2 => ⟨rfl, q σ2 hl2 (w2.trans w1)⟩⟩⟩
  · unfold gmP at e
    rw [pT2_none hv] at e
    cases e
section
variable {X : Cx} {zx : Exo} {W : WX} {P : Type}
theorem de_lcP {elt tg iter : Expr} {ifs : List Expr} {scope : Scope} {own : List (Str × Nat)} {pos : Pos} {it : MI} {g : TG} {pat : Vl → Option P} {st : P → Loc → Loc} {t : MT} {e : ME} (hc : X.calm = true) (hN : X.N.Nodup) (hi : DI X zx W tg iter it) (ok : BlkOk X.N X.env.scope scope own) (go : GOk (cf X zx) g (gmP pat st) (own.map (·.2)))
    (hg : ∀ (s : Shared) (H : Hp) (C : Addr) (cl : List (Str × Addr)) (fp : List Addr), PG (X.blk s H scope (compEnvC scope cl C X.env) fp) tg g) (ht : ∀ (s : Shared) (H : Hp) (C : Addr) (cl : List (Str × Addr)) (fp : List Addr), PTs (X.blk s H scope (compEnvC scope cl C X.env) fp) ifs (tG (cf X zx) rB WF t))
    (he : ∀ (s : Shared) (H : Hp) (C : Addr) (cl : List (Str × Addr)) (fp : List Addr), PE (X.blk s H scope (compEnvC scope cl C X.env) fp) elt (tG (cf X zx) (Rv (cf X zx)) WF e)) (hs : ∀ x, foldedSetIterable iter X.env x = pure x := by intro _; rfl) :
    DE X zx W (.ListComp elt [⟨tg, iter, ifs, 0⟩] scope pos) (mLcP it pat st t e (own.map (·.2))) := mLcP_eq ▸ de_lc hc hN hi ok go hg ht he hs
/-- name = [comprehension] -/
theorem nss_setLcP {S L : Type} {mkS : S → Loc} {mkL : L → Loc} {ox : Option Loc} {ρ : Loc} {rest : List Stmt} {f : Sto → R Vl} {i : Nat} {y : Str} {py : Pos} {ρ' : Vl → Loc} {k : Vl → Sto → An S L} {elt tg iter : Expr} {ifs : List Expr} {scope : Scope} {own : List (Str × Nat)} {pos spos : Pos} {it : MI} {g : TG} {pat : Vl → Option P} {st : P → Loc → Loc} {t : MT} {e : ME} (hc : X.calm = true) (hN : X.N.Nodup) (hy : X.N[i]? = some y) (hyl : X.env.scope.names.lookup y = some .local)
    (hsw : swapsWith (.ListComp elt [⟨tg, iter, ifs, 0⟩] scope pos) (some (.Name y py)) spos.line X.env = pure true) (hi : DI X zx W tg iter it) (ok : BlkOk X.N X.env.scope scope own) (go : GOk (cf X zx) g (gmP pat st) (own.map (·.2)))
    (hg : ∀ (s : Shared) (H : Hp) (C : Addr) (cl : List (Str × Addr)) (fp : List Addr), PG (X.blk s H scope (compEnvC scope cl C X.env) fp) tg g) (ht : ∀ (s : Shared) (H : Hp) (C : Addr) (cl : List (Str × Addr)) (fp : List Addr), PTs (X.blk s H scope (compEnvC scope cl C X.env) fp) ifs (tG (cf X zx) rB WF t))
    (he : ∀ (s : Shared) (H : Hp) (C : Addr) (cl : List (Str × Addr)) (fp : List Addr), PE (X.blk s H scope (compEnvC scope cl C X.env) fp) elt (tG (cf X zx) (Rv (cf X zx)) WF e)) (h2 : ∀ v, NSs X zx W ox mkS mkL (ρ' v) rest (k v)) (hox : OxLe ox ρ)
    (hs : ∀ x, foldedSetIterable iter X.env x = pure x := by intro _; rfl) (hF : ∀ s, mLcP it pat st t e (own.map (·.2)) ρ s = f s := by intro _; rfl) (hρ : ∀ v, ρ.set i (some v) = ρ' v := by intro _; rfl) :
    NSs X zx W ox mkS mkL ρ (.Assign [.Name y py] (.ListComp elt [⟨tg, iter, ifs, 0⟩] scope pos) spos :: rest) (fun s => (f s).an fun v s1 => k v s1) :=
  PSs.imp (pss_cons (ps_setLc hc hN hy hyl hsw hi ok hg ht he hs) (pss_ex h2)) fun D σ H ⟨β, s, hl, hs, q⟩ => by
  show tLc (tG (cf X zx) (rI (cf X zx)) W it) g (tG (cf X zx) rB WF t) (tG (cf X zx) (Rv (cf X zx)) WF e) (own.map (·.2)) σ H (fun x H1 => ∃ j, tN (cf X zx) W mkS mkL ox (ρ' j) (k j) D (σ.set i (some x)) H1)
  refine lc_go (W := W) go ⟨β, ρ, s, hl, hs, ?_⟩
  have q' : PostN (cf X zx) W mkS mkL ox β H D ((mLc it (gmP pat st) t e (own.map (·.2)) ρ s).an fun v s1 => k v s1) := by rw [mLcP_eq, hF]; exact q
  have hp := PostN.an (rel := Rv (cf X zx)) (Q1 := fun u H' => ∃ v, tN (cf X zx) W mkS mkL ox (ρ' v) (k v) D (σ.set i (some u)) H') hl hox q' fun v s1 β1 H1 u st1 hs1 r1 h1 => ⟨v, β1, s1, by rw [← hρ]; exact (hl.step st1).set r1, hs1, h1⟩
  refine Post.bind hp fun acc s1 β1 H1 D st1 hs1 r1 h1 => ?_
  obtain ⟨n1, n2, hlen, xs, hx, rx⟩ := r1
  cases ed : datas acc with
  | none => rw [ed] at h1; exact h1.elim
  | some ds =>
    rw [ed] at h1
    have ea := datas_eq ed
    rw [ea] at rx hlen
    exact h1 β1 H1 _ (Step.refl _ _) hs1 (Dq.lst ⟨hx, n1, n2⟩ (by simpa using hlen) (Rvs.undats rx))
end
end Pm
set_option maxRecDepth 100000
set_option maxHeartbeats 4000000
namespace Sw
open PySem PySem.Spec PyProof.Rows L2
def Mem1 (w : World) (e : Int × Value) (x : Str) : Prop := ∃ t, e.2 = Value.str x t ∧ e.1 = hashStr w x
/-- the set at a holds the texts L, none twice -/
def TxtSet (w : World) (h : Heap) (a : Addr) (L : List Str) : Prop :=
  ∃ o es ep t, h.get? a = some o ∧ o.ExactSet ∧ o.data = .set es ep t ∧ Paired (Mem1 w) es.toList L ∧ L.Nodup ∧ es.size < scanBound ∧ t.fits es.size = true ∧ Ris t.place.toList ∧
    (w.params.followText "set-order" = true ∨ t.led = true)
theorem TxtSet.at {w : World} {h h' : Heap} {a : Addr} {L : List Str} (R : TxtSet w h a L) (k : ∀ o, h.get? a = some o → h'.get? a = some o) : TxtSet w h' a L := by
  obtain ⟨o, es, ep, t, ho, r⟩ := R
  exact ⟨o, es, ep, t, k o ho, r⟩
end Sw
set_option maxRecDepth 100000
set_option maxHeartbeats 4000000
namespace Sw
open PySem PySem.Spec PyProof.Rows L2
/-- L: what is met in the first i of xs -/
def Met (xs : List Str) (i : Nat) (L : List Str) : Prop := L.length ≤ i ∧ ∀ x, x ∈ L ↔ x ∈ xs.take i
theorem Met.step {xs L L' : List Str} {i : Nat} {x : Str} (g : Met xs i L) (hx : xs[i]? = some x) (h : x ∈ L ∧ L' = L ∨ x ∉ L ∧ L'.Perm (x :: L)) : Met xs (i + 1) L' := by
  have et : xs.take (i + 1) = xs.take i ++ [x] := by rw [List.take_add_one, hx]; rfl
  rcases h with ⟨hm, rfl⟩ | ⟨hm, pm⟩
  · refine ⟨Nat.le_succ_of_le g.1, fun y => ?_⟩
    rw [et, List.mem_append, ← g.2 y]
    constructor
    · exact .inl
    · rintro (h | h)
      · exact h
      · rw [List.mem_singleton.mp h]; exact hm
  · refine ⟨by rw [pm.length_eq, List.length_cons]; exact Nat.succ_le_succ g.1, fun y => ?_⟩
    rw [pm.mem_iff, et, List.mem_append, ← g.2 y, List.mem_cons, List.mem_singleton]
    exact Or.comm
end Sw
set_option maxRecDepth 100000
set_option maxHeartbeats 4000000
namespace Sw
open PySem PySem.Spec PyProof.Rows L2
end Sw
set_option maxRecDepth 100000
set_option maxHeartbeats 4000000
namespace Sw
open PySem PySem.Spec PyProof.Rows L2
def LtS (a b : Str) : Prop := a.cps.toList < b.cps.toList
theorem LtS.trans {a b c : Str} (h1 : LtS a b) (h2 : LtS b c) : LtS a c := List.lt_trans h1 h2
theorem LtS.irr {a : Str} : ¬ LtS a a := List.lt_irrefl _
theorem LtS.tri {a b : Str} (h : ¬ LtS b a) (hne : a ≠ b) : LtS a b := by
  have h1 : a.cps.toList ≤ b.cps.toList := h
  rcases List.le_iff_lt_or_eq.mp h1 with h2 | h2
  · exact h2
  · exfalso
    apply hne
    cases a with
    | mk x =>
      cases b with
      | mk y =>
        have : x = y := by
          have := congrArg List.toArray h2
          simpa using this
        rw [this]
end Sw
set_option maxRecDepth 100000
set_option maxHeartbeats 4000000
namespace Sw
open PySem PySem.Spec PyProof.Rows L2
abbrev tupO (its : List Value) : Obj := { cls := .type "tuple", data := .seq its.toArray }
def TupF (H : Hp) (a : Addr) (xs : List V) : Prop := ∃ its, H a = some (.frz (tupO its) (.tup xs))
theorem TupF.sq {K : PySem.W.Frag} {H : Hp} {a : Addr} {xs : List V} (h : TupF H a xs) : SqT K H a xs := .inl (.inr ⟨_, h.choose_spec⟩)
theorem TupF.same {H H' : Hp} {a : Addr} {xs : List V} (s : Same H H') (h : TupF H a xs) : TupF H' a xs := ⟨_, s _ _ h.choose_spec⟩
end Sw
set_option maxRecDepth 100000
set_option maxHeartbeats 4000000
namespace Sw
open PySem PySem.Spec PyProof.Rows L2
end Sw
set_option maxRecDepth 100000
set_option maxHeartbeats 4000000
namespace Sw
open PySem PySem.Spec PyProof.Rows L2
theorem nodup_le : ∀ {L xs : List Str}, L.Nodup → (∀ x ∈ L, x ∈ xs) → L.length ≤ xs.length
  | [], xs, _, _ => Nat.zero_le _
  | y :: L, xs, nd, h => by
    rw [List.nodup_cons] at nd
    have hy := h y List.mem_cons_self
    have := nodup_le (L := L) (xs := xs.erase y) nd.2 fun x hx => (List.mem_erase_of_ne (show x ≠ y from fun e => nd.1 (e ▸ hx))).mpr (h x (List.mem_cons_of_mem _ hx))
    rw [List.length_erase_of_mem hy] at this
    have := List.length_pos_of_mem hy
    rw [List.length_cons]
    omega
theorem twice_of : ∀ {xs : List Str}, ¬ xs.Nodup → ∃ x ∈ xs, x ∈ xs.erase x
  | [], h => absurd List.nodup_nil h
  | y :: xs, h => by
    by_cases hy : y ∈ xs
    · exact ⟨y, List.mem_cons_self, by rw [List.erase_cons_head]; exact hy⟩
    · obtain ⟨x, hx, hx2⟩ := twice_of (xs := xs) fun nd => h (List.nodup_cons.mpr ⟨hy, nd⟩)
      have ne : x ≠ y := fun e => hy (e ▸ hx)
      refine ⟨x, List.mem_cons_of_mem _ hx, ?_⟩
      rw [List.erase_cons_tail (by simpa using Ne.symm ne)]
      exact List.mem_cons_of_mem _ hx2
/-- as many in the set as in the list: none twice -/
theorem nodup_iff {L xs : List Str} (nd : L.Nodup) (hl : L.length ≤ xs.length) (h : ∀ x, x ∈ L ↔ x ∈ xs) : L.length = xs.length ↔ xs.Nodup := by
  constructor
  · intro e
    refine Decidable.byContradiction fun hx => ?_
    obtain ⟨x, hx1, hx2⟩ := twice_of hx
    have := nodup_le (L := L) (xs := xs.erase x) nd fun z hz => by
      by_cases ez : z = x
      · rw [ez]; exact hx2
      · exact (List.mem_erase_of_ne ez).mpr ((h z).mp hz)
    rw [List.length_erase_of_mem hx1] at this
    have := List.length_pos_of_mem hx1
    omega
  · intro hx
    have := nodup_le hx fun z hz => (h z).mpr hz
    omega
end Sw
set_option maxRecDepth 100000
set_option maxHeartbeats 4000000
namespace Sw
open PySem PySem.Spec PyProof.Rows L2
def PairSI (h : Heap) (v : Value) (x : Str) (y : Int) : Prop := ∃ a o t u n, v = .ref a ∧ h.get? a = some o ∧ o.cls = .type "tuple" ∧ o.data = .seq #[.str x t, .int y u] n
theorem PairSI.keeps {h h' : Heap} {v : Value} {x : Str} {y : Int} (p : PairSI h v x y) (k : ∀ b o, h.get? b = some o → o.cls = .type "tuple" → h'.get? b = some o) : PairSI h' v x y := by
  obtain ⟨a, o, t, u, n, e, ho, hc, hd⟩ := p
  exact ⟨a, o, t, u, n, e, k _ _ ho hc, hc, hd⟩
end Sw
set_option maxRecDepth 100000
set_option maxHeartbeats 4000000
namespace Pm
open PySem PySem.Spec PyProof.Rows L2 Sw
abbrev MP := Loc → Sto → R (List (Vl × Vl))
abbrev RvPs (G : Cf) : Rel (List (Vl × Vl)) (List (V × V)) := fun H β => Paired fun p q => Rv G H β p.1 q.1 ∧ Rv G H β p.2 q.2
def pNilM : MP := fun _ s => .ok [] s
def pConsM (f g : ME) (r : MP) : MP := fun ρ s => (f ρ s).bind fun k s1 => (g ρ s1).bind fun v s2 => (r ρ s2).bind fun ps s3 => .ok ((k, v) :: ps) s3
def DPs (X : Cx) (zx : Exo) (W : WX) (pos : Pos) (keys : List (Option Expr)) (values : List Expr) (r : MP) : Prop := ∃ trs, PPs X pos keys values trs ∧ ∀ σ H Q, tG (cf X zx) (RvPs (cf X zx)) W r σ H Q → tPairs trs σ H Q
def dMerge (ps : List (PyData × Vl)) : List (PyData × Vl) := ps.foldl (fun acc p => dPut acc p.1 p.2) []
def dMergeD (ps : List (PyData × PyData)) : List (PyData × PyData) := ps.foldl (fun acc p => dPut acc p.1 p.2) []
def pKeys : List (Vl × Vl) → Option (List (PyData × Vl))
  | [] => some []
  | (.dat k, v) :: r => if (keyQ k).isSome = true ∧ noX v = true then (pKeys r).map ((k, v) :: ·) else none
  | _ => none
def pDats : List (Vl × Vl) → Option (List (PyData × PyData))
  | [] => some []
  | (.dat k, .dat v) :: r => if (keyQ k).isSome = true then (pDats r).map ((k, v) :: ·) else none
  | _ => none
def dispN (ps : List (Vl × Vl)) (s : Sto) : R Vl := match pKeys ps with
  | some kvs => if kvs.length ≤ 15 then .ok (.ref s.length) (s ++ [.dic false (dMerge kvs)]) else .bad
  | none => .bad
def dispD (ps : List (Vl × Vl)) : Option Vl := (pDats ps).bind fun kvs => if kvs.length ≤ 15 then some (.dat (.dict (dMergeD kvs))) else none
def mDispN (r : MP) : ME := fun ρ s => (r ρ s).bind dispN
theorem Step.mine {β β2 : Bs} {H H2 : Hp} {p : Addr} {o o2 : HO} (hp : H p = none) (st : Step (β.add p) (upd H p o) β2 H2) : Step β H ⟨β2.b ++ [p], β.g⟩ (upd H2 p o2) := by
  have f1 : Step β H β2 H2 := (Step.add hp).trans st
  refine ⟨f1.pre.trans (List.prefix_append _ _), fun _ h => h, fun _ h => .inl h, fun a ha => ?_, fun a o nt h n => ?_, fun a o h => ?_, fun a o w h => ?_, fun a o h => ?_, fun t => TabsB.mono (β := β2) (β' := ⟨β2.b ++ [p], β.g⟩) (fun x hx => (List.mem_append.mp (show x ∈ β2.b ++ [p] from hx)).elim (fun z => .inl z) fun z => .inr (.inl (by rw [show x = p by simpa using z]; exact st.gsub p List.mem_cons_self))) (fun x hx => .inr (.inl (f1.gsub x hx))) ((f1.tbs t).put (.inr (st.gsub p List.mem_cons_self)))⟩
  · rcases List.mem_append.mp (show a ∈ β2.b ++ [p] from ha) with z | z
    · exact f1.new a z
    · have : a = p := by simpa using z
      exact .inr (by rw [this]; exact hp)
  · rw [upd_ne (ne_of_none h hp)]; exact f1.keep a o nt h n
  · rw [upd_ne (ne_of_none h hp)]; exact f1.tups a o h
  · rw [upd_ne (ne_of_none h hp)]; exact f1.frzs a o w h
  · rw [upd_ne (ne_of_none h hp)]; exact f1.liv a o h
theorem pKeys_kv {G : Cf} {H : Hp} {β : Bs} : ∀ {ps : List (Vl × Vl)} {us : List (V × V)} {kvs : List (PyData × Vl)}, RvPs G H β ps us → pKeys ps = some kvs → ∃ ks : List (Key × V), us = ks.map (fun kv => (kV kv.1, kv.2)) ∧ KvR keyD (Rv G.o H β) kvs ks
  | [], _, kvs, .nil, e => by cases e; exact ⟨[], rfl, .nil⟩
  | p :: ps, u :: us, kvs, .cons h t, e => by
    unfold pKeys at e
    split at e
    · cases ‹p :: ps = []›
    · rename_i k v r ep
      cases ep
      split at e
      · rename_i hc
        cases e2 : pKeys ps with
        | none => rw [e2] at e; cases e
        | some l =>
          rw [e2] at e
          cases e
          obtain ⟨ks, rfl, r2⟩ := pKeys_kv t e2
          obtain ⟨k', ek⟩ := Option.isSome_iff_exists.mp hc.1
          have e3 := key_V h.1 ek
          have e4 := keyQ_eq ek
          obtain ⟨u1, u2⟩ := u
          dsimp only at e3
          subst e3
          exact ⟨(k', u2) :: ks, rfl, .cons ⟨e4, Rv.dn hc.2 h.2⟩ r2⟩
      · cases e
    · cases e
theorem KvR.merge {α : Type} {R : α → V → Prop} : ∀ {ks : List (Key × V)} {kvs : List (PyData × α)} {acc : List (PyData × α)} {ac : List (Key × V)}, KvR keyD R acc ac → KvR keyD R kvs ks → KvR keyD R (kvs.foldl (fun acc p => dPut acc p.1 p.2) acc) (mergeK ac ks)
  | [], [], _, _, h, .nil => h
  | k :: ks, p :: kvs, acc, ac, h, .cons h1 t => by
    have h2 := KvR.put kEq_D (k := k.1) h1.2 h
    rw [← h1.1] at h2
    exact KvR.merge (kvs := kvs) (ks := ks) (acc := dPut acc p.1 p.2) (ac := putK ac k.1 k.2) h2 t
section
variable {X : Cx} {zx : Exo} {W : WX} {pos : Pos} {keys : List (Option Expr)} {values : List Expr} {r : MP}
theorem dps_nil : DPs X zx W pos [] [] pNilM := ⟨[], pps_nil, fun σ H Q ⟨β, ρ, s, hl, hs, hp⟩ => hp β H [] (Step.refl _ _) hs .nil⟩
theorem dps_cons {k v : Expr} {f g : ME} (hk : DE X zx W k f) (hv : DE X zx W v g) (hr : DPs X zx W pos keys values r) : DPs X zx W pos (some k :: keys) (v :: values) (pConsM f g r) := by
  obtain ⟨trs, hp, hi⟩ := hr
  refine ⟨_, pps_cons hk hv hp, fun σ H Q ⟨β, ρ, s, hl, hs, hp⟩ => ?_⟩
  refine ⟨β, ρ, s, hl, hs, Post.bind hp fun k s1 β1 H1 u st1 hs1 r1 h1 => ?_⟩
  refine ⟨β1, ρ, s1, hl.step st1, hs1, Post.bind h1 fun v s2 β2 H2 u2 st2 hs2 r2 h2 => ?_⟩
  refine hi _ _ _ ⟨β2, ρ, s2, (hl.step st1).step st2, hs2, Post.bind h2 fun ps s3 β3 H3 us st3 hs3 r3 h3 => ?_⟩
  exact h3 β3 H3 _ (Step.refl _ _) hs3 (.cons ⟨st3.rv (st2.rv r1), st3.rv r2⟩ r3)
theorem de_dispN (h : DPs X zx W pos keys values r) (hall : keys.all (·.isSome) = true := by rfl) (hl : keys.length = values.length := by rfl) (h0 : keys ≠ [] := by intro z; cases z) (h15 : keys.length ≤ 15 := by decide) : DE X zx W (.Dict keys values pos) (mDispN r) := by
  obtain ⟨trs, hp, hi⟩ := h
  refine PE.imp (pe_disp hp hall hl h0 h15) fun σ H Q ⟨β, ρ, s, hl, hs, hp⟩ p hn => ?_
  refine hi _ _ _ ⟨β.add p, ρ, s, hl.step (Step.add hn), hs.add hn, ?_⟩
  unfold mDispN at hp
  cases er : r ρ s with
  | bad => rw [er] at hp; exact hp.elim
  | ex x s1 => rw [er] at hp; exact fun β' H' c d st => hp β' H' c d ((Step.add hn).trans st)
  | ok ps s1 =>
    rw [er] at hp
    intro β1 H1 us st1 hs1 r1
    have h1 : Post (cf X zx) (Rv (cf X zx)) W σ β H Q (dispN ps s1) := hp
    have hpg : p ∈ β1.g := st1.gsub p List.mem_cons_self
    have hpe : H1 p = some (.dK []) := st1.keep p _ trivial upd_same (hs.nin hn)
    unfold dispN at h1
    split at h1
    · rename_i kvs ek
      split at h1
      · rename_i h15
        obtain ⟨ks, rfl, kv⟩ := pKeys_kv r1 ek
        have gp : Gp β1 H1 p := ⟨hpg, _, hpe, trivial⟩
        refine ⟨hpe, ks, rfl, by rw [← Paired.length kv]; exact h15, ?_⟩
        have mg : KvR keyD (Rv (cf X zx).o H1 β1) (dMerge kvs) (mergeK [] ks) := KvR.merge (kvs := kvs) .nil kv
        have hsub : ∀ x ∈ β.g, x ∈ β1.g := fun x hx => st1.gsub x (List.mem_cons_of_mem _ hx)
        have hs2 := RelS.mine (o := .dK (mergeK [] ks)) (g' := β.g) (ob := .dic false (dMerge kvs)) (hpg := hs.nig hn) gp hs1 hsub ⟨mergeK [] ks, upd_same, Paired.mapP mg fun p q z => ⟨z.1, Rv.mine gp hsub z.2⟩⟩
        exact h1 ⟨β1.b ++ [p], β.g⟩ _ (.ref p) (Step.mine hn st1) hs2 ⟨p, by
          show (β1.b ++ [p])[s1.length]? = some p
          rw [← hs1.len, List.getElem?_append_right (Nat.le_refl _), Nat.sub_self]
          rfl, rfl⟩
      · exact h1.elim
    · exact h1.elim
end
end Pm
set_option maxRecDepth 100000
set_option maxHeartbeats 4000000
namespace Pm
open PySem PySem.Spec PyProof.Rows L2 Sw
section
variable {α : Type} (le : α → α → Bool)
def insB (a : α) : List α → List α
  | [] => [a]
  | b :: r => if le a b = true then a :: b :: r else b :: insB a r
def srtB (l : List α) : List α := l.foldr (insB le) []
end
section
variable {α : Type} {le : α → α → Bool}
theorem insB_perm (a : α) : ∀ l : List α, (insB le a l).Perm (a :: l)
  | [] => .refl _
  | b :: r => by
    unfold insB
    split
    · exact .refl _
    · exact ((insB_perm a r).cons b).trans (.swap a b r)
theorem srtB_perm : ∀ l : List α, (srtB le l).Perm l
  | [] => .refl _
  | a :: l => (insB_perm a (srtB le l)).trans ((srtB_perm l).cons a)
/-- all are told ahead of those behind them -/
abbrev SrB (le : α → α → Bool) (l : List α) : Prop := l.Pairwise fun a b => le a b = true
theorem insB_srt (tot : ∀ a b, le a b = true ∨ le b a = true) (tr : ∀ a b c, le a b = true → le b c = true → le a c = true) (a : α) : ∀ l : List α, SrB le l → SrB le (insB le a l)
  | [], _ => List.pairwise_singleton _ _
  | b :: r, h => by
    obtain ⟨h1, h2⟩ := List.pairwise_cons.mp h
    unfold insB
    split
    · rename_i hab
      refine List.pairwise_cons.mpr ⟨fun x hx => ?_, h⟩
      rcases List.mem_cons.mp hx with rfl | hx
      · exact hab
      · exact tr _ _ _ hab (h1 x hx)
    · rename_i hab
      refine List.pairwise_cons.mpr ⟨fun x hx => ?_, insB_srt tot tr a r h2⟩
      rcases List.mem_cons.mp ((insB_perm a r).mem_iff.mp hx) with rfl | hx
      · exact (tot x b).resolve_left hab
      · exact h1 x hx
theorem srtB_srt (tot : ∀ a b, le a b = true ∨ le b a = true) (tr : ∀ a b c, le a b = true → le b c = true → le a c = true) : ∀ l : List α, SrB le (srtB le l)
  | [] => .nil
  | a :: l => insB_srt tot tr a _ (srtB_srt tot tr l)
theorem sr_unique (anti : ∀ a b, le a b = true → le b a = true → a = b) : ∀ {l m : List α}, SrB le l → SrB le m → l.Perm m → l = m
  | [], m, _, _, p => by rw [List.nil_perm.mp p]
  | a :: l, [], _, _, p => by have := p.length_eq; simp at this
  | a :: l, b :: m, h1, h2, p => by
    obtain ⟨a1, a2⟩ := List.pairwise_cons.mp h1
    obtain ⟨b1, b2⟩ := List.pairwise_cons.mp h2
    have e : a = b := by
      rcases List.mem_cons.mp (p.mem_iff.mp List.mem_cons_self) with h | h
      · exact h
      · rcases List.mem_cons.mp (p.mem_iff.mpr (List.mem_cons_self (a := b) (l := m))) with h' | h'
        · exact h'.symm
        · exact anti _ _ (a1 b h') (b1 a h)
    subst e
    rw [sr_unique anti a2 b2 (List.Perm.cons_inv p)]
end
def leI (a b : Int) : Bool := decide (a ≤ b)
def leS (x y : Str) : Bool := !ltCps y.cps.toList x.cps.toList
abbrev srtI : List Int → List Int := srtB leI
abbrev srtS : List Str → List Str := srtB leS
theorem srtI_eq {ns ms : List Int} (p : ms.Perm ns) (h : ms.Pairwise (· ≤ ·)) : ms = srtI ns :=
  sr_unique (le := leI) (fun a b h1 h2 => by simp only [leI, decide_eq_true_eq] at h1 h2; omega) (h.imp fun h => decide_eq_true h)
    (srtB_srt (fun a b => by simp only [leI, decide_eq_true_eq]; omega) (fun a b c h1 h2 => by simp only [leI, decide_eq_true_eq] at *; omega) ns) (p.trans (srtB_perm ns).symm)
theorem leS_tot (x y : Str) : leS x y = true ∨ leS y x = true := by
  unfold leS
  rw [ltCps_eq, ltCps_eq, Bool.not_eq_true', Bool.not_eq_true', decide_eq_false_iff_not, decide_eq_false_iff_not]
  rcases Classical.em (y.cps.toList < x.cps.toList) with h | h
  · exact .inr fun z => absurd (LtS.trans (a := x) (b := y) (c := x) z h) LtS.irr
  · exact .inl h
theorem leS_lt {x y : Str} : leS x y = true ↔ ¬ LtS y x := by
  unfold leS
  rw [ltCps_eq, Bool.not_eq_true', decide_eq_false_iff_not]
  rfl
theorem leS_tr (x y z : Str) (h1 : leS x y = true) (h2 : leS y z = true) : leS x z = true := by
  rw [leS_lt] at *
  intro h
  by_cases e : x = y
  · subst e; exact h2 h
  · exact h2 (LtS.trans h (LtS.tri h1 e))
theorem leS_anti (x y : Str) (h1 : leS x y = true) (h2 : leS y x = true) : x = y := by
  rw [leS_lt] at *
  refine Classical.byContradiction fun e => ?_
  exact h2 (LtS.tri h1 e)
theorem sortedS_pw : ∀ {ys : List Str}, sortedS ys = true → SrB leS ys
  | [], _ => .nil
  | p :: r, h => by
    have key : ∀ (p : Str) (r : List Str), risingS p r = true → SrB leS (p :: r) := by
      intro p r
      induction r generalizing p with
      | nil => intro _; exact List.pairwise_singleton _ _
      | cons x r ih =>
        intro h
        have h' : (!ltCps x.cps.toList p.cps.toList && risingS x r) = true := h
        rw [Bool.and_eq_true] at h'
        have h2 := ih x h'.2
        refine List.pairwise_cons.mpr ⟨fun y hy => ?_, h2⟩
        have hx : leS p x = true := h'.1
        rcases List.mem_cons.mp hy with rfl | hy
        · exact hx
        · exact leS_tr _ _ _ hx ((List.pairwise_cons.mp h2).1 y hy)
    exact key p r h
theorem srtS_eq {ns ms : List Str} (p : ms.Perm ns) (h : sortedS ms = true) : ms = srtS ns :=
  sr_unique leS_anti (sortedS_pw h) (srtB_srt leS_tot leS_tr ns) (p.trans (srtB_perm ns).symm)
/-- all of a list are texts -/
def txs : List PyData → Option (List Str)
  | [] => some []
  | .str i :: r => (txs r).map (i :: ·)
  | _ :: _ => none
theorem txs_eq : ∀ {ds : List PyData} {ns : List Str}, txs ds = some ns → ds = ns.map PyData.str
  | [], ns, h => by
    have : [] = ns := by simpa [txs] using h
    subst this
    rfl
  | d :: r, ns, h => by
    cases d with
    | str i =>
      cases e : txs r with
      | none => simp [txs, e] at h
      | some l =>
        have : i :: l = ns := by simpa [txs, e] using h
        subst this
        rw [txs_eq e]
        rfl
    | _ => simp [txs] at h
@[simp] theorem txs_map : ∀ ns : List Str, txs (ns.map PyData.str) = some ns
  | [] => rfl
  | n :: ns => by simp [txs, txs_map ns]
theorem dq_strs_of {K : PySem.W.Frag} {H : Hp} {β : Bs} : ∀ {ns : List Str} {xs : List V}, DqAll K H β xs (ns.map PyData.str) → xs = ns.map V.str
  | [], [], _ => rfl
  | n :: ns, x :: xs, .cons h t => by
    rw [dq_strs_of t]
    cases h
    rfl
theorem dq_strs {K : PySem.W.Frag} {H : Hp} {β : Bs} : ∀ {ns : List Str}, (∀ x ∈ ns, x.length ≤ sizeLine) → DqAll K H β (ns.map V.str) (ns.map PyData.str)
  | [], _ => .nil
  | n :: ns, h => .cons (.str (h n List.mem_cons_self)) (dq_strs fun x hx => h x (List.mem_cons_of_mem _ hx))
theorem dq_strs_len {K : PySem.W.Frag} {H : Hp} {β : Bs} : ∀ {ns : List Str} {xs : List V}, DqAll K H β xs (ns.map PyData.str) → ∀ x ∈ ns, x.length ≤ sizeLine
  | n :: ns, _, .cons h t, x, hx => by
    rcases List.mem_cons.mp hx with rfl | hx
    · cases h with
      | str h => exact h
    · exact dq_strs_len t x hx
def srtD (ds : List PyData) : Option Vl := match nums ds with
  | some ns => if ns.length < 64 then some (.dat (.list ((srtI ns).map .int))) else none
  | none => (txs ds).bind fun zs => if zs.length < 64 ∧ (zs.all fun x => decide (x.length ≤ mil)) = true then some (.dat (.list ((srtS zs).map .str))) else none
def phSorted : List Vl → Sto → Option Vl
  | [v], s => match dOf v s with
    | some (false, kvs) => srtD (kvs.map (·.1))
    | some (true, _) => none
    | none => (lsD v s).bind srtD
  | _, _ => none
theorem kv_keys {α : Type} {R : α → V → Prop} : ∀ {kvs : List (PyData × α)} {ks : List (Key × V)}, KvR keyD R kvs ks → kvs.map (·.1) = (ks.map (·.1)).map keyD
  | _, _, .nil => rfl
  | _, _, .cons h t => by rw [List.map_cons, kv_keys t, h.1]; rfl
theorem keys_nums : ∀ {ks : List Key} {ns : List Int}, nums (ks.map keyD) = some ns → ks = ns.map Sum.inl
  | [], ns, h => by cases h; rfl
  | .inl i :: ks, ns, h => by
    have h : (nums (ks.map keyD)).map (i :: ·) = some ns := h
    obtain ⟨l, e, rfl⟩ := Option.map_eq_some_iff.mp h
    rw [keys_nums e]; rfl
  | .inr i :: ks, ns, h => by cases h
theorem keys_txs : ∀ {ks : List Key} {ns : List Str}, txs (ks.map keyD) = some ns → ks = ns.map Sum.inr
  | [], ns, h => by cases h; rfl
  | .inr i :: ks, ns, h => by
    have h : (txs (ks.map keyD)).map (i :: ·) = some ns := h
    obtain ⟨l, e, rfl⟩ := Option.map_eq_some_iff.mp h
    rw [keys_txs e]; rfl
  | .inl i :: ks, ns, h => by cases h
section
variable {X : Cx} {zx : Exo} {W : WX}
theorem srt_lst {H : Hp} {β : Bs} {st : Sto} {ms : List Int} {p : Addr} (hs : RelS (cf X zx) β st H) (hp : H p = none) (hl : ms.length < 64) : Rv (cf X zx) (upd H p (.lst (ms.map V.int))) β (.dat (.list (ms.map .int))) (.ref p) :=
  .lst ⟨upd_same, hs.nin hp, hs.nig hp⟩ (by rw [List.length_map]; exact thou (by omega)) (dq_ints _)
theorem srt_lstS {H : Hp} {β : Bs} {st : Sto} {ms : List Str} {p : Addr} (hs : RelS (cf X zx) β st H) (hp : H p = none) (hl : ms.length < 64) (hz : ∀ x ∈ ms, x.length ≤ sizeLine) : Rv (cf X zx) (upd H p (.lst (ms.map V.str))) β (.dat (.list (ms.map .str))) (.ref p) :=
  .lst ⟨upd_same, hs.nin hp, hs.nig hp⟩ (by rw [List.length_map]; exact thou (by omega)) (dq_strs hz)
theorem mc_sorted (hc : X.calm = true) : CallR X (.builtin "sorted") (rn (cf X zx) phSorted) := by
  intro pins s σ H xs us Q I rx h
  obtain ⟨β, st, vs, z, hs, rv, e, q⟩ := h
  unfold phSorted at e
  split at e
  · rename_i v s'
    obtain ⟨x, rfl, r⟩ := rvs1 rv
    split at e
    · rename_i kvs ed
      obtain ⟨a, rfl, da⟩ := dOf_at hs r ed
      cases da with
      | @k ks _ h1 kv =>
        have ek := kv_keys kv
        rw [ek] at e
        unfold srtD at e
        split at e
        · rename_i ns en
          split at e
          · rename_i hl
            cases e
            refine call_sortedDI hc pins s σ H _ us Q I rx ⟨a, ks, ns, rfl, .inl h1, keys_nums en, hl, fun ys p pm hp hn => ?_⟩
            rw [srtI_eq pm hp]
            exact q _ _ (same_new hn) (srt_lst hs hn (by rw [(srtB_perm ns).length_eq]; exact hl))
          · cases e
        · obtain ⟨zs, ez, e⟩ := Option.bind_eq_some_iff.mp e
          split at e
          · rename_i hl
            cases e
            refine call_sortedD hc pins s σ H _ us Q I rx ⟨a, ks, zs, rfl, .inl h1, keys_txs ez, hl.1, fun ys p pm hp hn => ?_⟩
            rw [srtS_eq pm hp]
            exact q _ _ (same_new hn) (srt_lstS hs hn (by rw [(srtB_perm zs).length_eq]; exact hl.1) fun x hx => mil_le (by simpa using List.all_eq_true.mp hl.2 x ((srtB_perm zs).mem_iff.mp hx)))
          · cases e
    · cases e
    · obtain ⟨ds, el, e⟩ := Option.bind_eq_some_iff.mp e
      obtain ⟨a, xs, rfl, h1, dx⟩ := lsD_at hs r el
      unfold srtD at e
      split at e
      · rename_i ns en
        split at e
        · rename_i hl
          cases e
          have := nums_eq en
          subst this
          rw [dq_ints_of dx] at h1
          refine cr_sorted pins s σ H _ us Q I rx ⟨a, ns, rfl, SqL.of h1, hl, fun ys p pm hp hn => ?_⟩
          rw [srtI_eq pm hp]
          exact q _ _ (same_new hn) (srt_lst hs hn (by rw [(srtB_perm ns).length_eq]; exact hl))
        · cases e
      · obtain ⟨zs, ez, e⟩ := Option.bind_eq_some_iff.mp e
        split at e
        · rename_i hl
          cases e
          have := txs_eq ez
          subst this
          have hz := dq_strs_len dx
          rw [dq_strs_of dx] at h1
          refine cr_sortedS pins s σ H _ us Q I rx ⟨a, zs, rfl, SqL.of h1, hl.1, fun ys p pm hp hn => ?_⟩
          rw [srtS_eq pm hp]
          exact q _ _ (same_new hn) (srt_lstS hs hn (by rw [(srtB_perm zs).length_eq]; exact hl.1) fun x hx => hz x ((srtB_perm zs).mem_iff.mp hx))
        · cases e
  · cases e
end
end Pm
set_option maxRecDepth 100000
set_option maxHeartbeats 4000000
namespace Pm
open PySem PySem.Spec PyProof.Rows L2 Sw
def minL : List Int → Int
  | [] => 0
  | [a] => a
  | a :: b :: r => min a (minL (b :: r))
def numsL (v : Vl) (s : Sto) : Option (List Int) := ((lsD v s).bind nums).bind fun ns => if ns.isEmpty = true then none else some ns
def phMin1 : List Vl → Sto → Option Vl
  | [v], s => (numsL v s).map fun ns => .dat (.int (minL ns))
  | _, _ => none
def phInt : List Vl → Sto → Option Vl
  | [.dat (.int i)], _ => some (.dat (.int i))
  | [.dat (.bool k)], _ => some (.dat (.int (if k then 1 else 0)))
  | _, _ => none
def pair2 : PyData → Option (PyData × PyData)
  | .tuple [.str k, v] => some (.str k, v)
  | _ => none
def pairs2 : List PyData → Option (List (PyData × PyData))
  | [] => some []
  | d :: r => (pair2 d).bind fun p => (pairs2 r).map (p :: ·)
def phDict : List Vl → Sto → Option Vl
  | [.dat (.tuple ds)], _ => if isO ds = true then (pairs2 ds).map fun kvs => .dat (.dict (dMergeD kvs)) else none
  | _, _ => none
def zpairs : List PyData → List PyData → List Vl
  | x :: xs, y :: ys => .dat (.tuple [x, y]) :: zpairs xs ys
  | _, _ => []
theorem zpairs_len : ∀ (xs ys : List PyData), (zpairs xs ys).length = min xs.length ys.length
  | [], _ => by simp [zpairs]
  | _ :: _, [] => by simp [zpairs]
  | x :: xs, y :: ys => by simp [zpairs, zpairs_len xs ys] <;> omega
theorem zpairs_get : ∀ {xs ys : List PyData} {i : Nat} {x y : PyData}, xs[i]? = some x → ys[i]? = some y → (zpairs xs ys)[i]? = some (.dat (.tuple [x, y]))
  | [], _, _, _, _, h, _ => by simp at h
  | _ :: _, [], _, _, _, _, h => by simp at h
  | a :: xs, b :: ys, 0, x, y, h1, h2 => by
    have e1 : a = x := by simpa using h1
    have e2 : b = y := by simpa using h2
    rw [e1, e2]; rfl
  | a :: xs, b :: ys, i + 1, x, y, h1, h2 => by
    show (zpairs xs ys)[i]? = _
    exact zpairs_get (by simpa using h1) (by simpa using h2)
/-- none of the pairs is one of two pairs of a text and a number -/
def zOk (xs ys : List PyData) : Bool := !(xs.any isO1 && ys.any isO1)
theorem zOk_at {xs ys : List PyData} (h : zOk xs ys = true) {x y : PyData} (hx : x ∈ xs) (hy : y ∈ ys) : isO [x, y] = false := by
  unfold isO
  simp only [List.isEmpty_cons, Bool.not_false, Bool.true_and, List.all_cons, List.all_nil, Bool.and_true]
  cases e1 : isO1 x with
  | false => rfl
  | true =>
    cases e2 : isO1 y with
    | false => rfl
    | true =>
      have a1 : xs.any isO1 = true := List.any_eq_true.mpr ⟨x, hx, e1⟩
      have a2 : ys.any isO1 = true := List.any_eq_true.mpr ⟨y, hy, e2⟩
      unfold zOk at h
      rw [a1, a2] at h
      cases h
def zipN (vs : List Vl) (s1 : Sto) : R Src := match vs with
  | [.dat (.tuple ds), .dat (.tuple es)] => if zOk ds es = true then .ok ⟨zpairs ds es, none⟩ s1 else .bad
  | [.dat (.list ds), .dat (.list es)] => if zOk ds es = true then .ok ⟨zpairs ds es, none⟩ s1 else .bad
  | [.ref n, .dat (.list es)] => (match lsD (.ref n) s1 with
    | some ds => if zOk ds es = true then .ok ⟨zpairs ds es, some (n, ds.map Vl.dat)⟩ s1 else .bad
    | none => .bad)
  | _ => .bad
def iZip (r : MA) : MI := fun ρ s => (r ρ s).bind zipN
section
variable {X : Cx} {zx : Exo} {W : WX}
theorem DqAll.mem {K : PySem.W.Frag} {H : Hp} {β : Bs} {xs : List V} {ds : List PyData} {i : Nat} {d : PyData} (h : ds[i]? = some d) : d ∈ ds := List.mem_of_getElem? h
theorem di_zip {e e2 : Expr} {r : MA} {p pos tpos : Pos} {elts : List Expr} {kk : Nat} (hg : Gl X "zip") (hm : X.mg "zip" = none) (ha : DA X zx W [e, e2] r) (hs : starEach [e, e2] X.env = (false, eval e X.env) :: starEach [e2] X.env := by rfl) (hpl : (backTo pos (starEach [e2] X.env)).any (·.1) = false := by rfl) :
    DI X zx W (.Tuple elts kk tpos) (.Call (.Name "zip" p) [e, e2] [] pos) (iZip r) := PI.imp (RZ.pi_zipA hg hm ha hs hpl) fun σ H T ⟨β, ρ, s, hl, hs, hp⟩ => by
  refine ⟨β, ρ, s, hl, hs, Post.bind hp fun vs s1 β1 H1 us st1 hs1 r1 h1 => ?_⟩
  unfold zipN at h1
  split at h1
  · split at h1
    · rename_i ds es hz
      obtain ⟨x, y, rfl, rx, ry⟩ := rvs2 r1
      cases rx with
      | @tup a xs _ hx hzx dx =>
        cases ry with
        | @tup b ys _ hy hzy dy =>
          refine ⟨a, b, xs, ys, rfl, .inr ⟨hx.sqt, hy.sqt, h1 β1 H1 _ (Step.refl _ _) hs1 ?_⟩⟩
          have l1 := dx.len
          have l2 := dy.len
          refine ⟨fun i β' s' H' hi st hs' _ => ?_, fun β' s' H' st hs' _ => ?_, fun i β' s' H' v H2 hi st hs' _ y => ?_⟩
          · have hi : i < min ds.length es.length := by rw [← zpairs_len]; exact hi
            have a1 : i < xs.length := by omega
            have a2 : i < ys.length := by omega
            exact ⟨xs, ys, xs[i], ys[i], st.sqt hx.sqt, st.sqt hy.sqt, by simp [a1], by simp [a2]⟩
          · exact ⟨xs, ys, st.sqt hx.sqt, st.sqt hy.sqt, by show xs.length ≤ (zpairs ds es).length ∨ ys.length ≤ (zpairs ds es).length; rw [zpairs_len]; omega⟩
          · obtain ⟨T2, u1, u2, rfl, hT, rfl, g1, g2⟩ := y
            obtain ⟨d1, k1, k2⟩ := (st.dqs dx).get (g1 xs (st.sqt hx.sqt))
            obtain ⟨d2, k3, k4⟩ := (st.dqs dy).get (g2 ys (st.sqt hy.sqt))
            refine ⟨same_new hT, _, zpairs_get k1 k3, ?_⟩
            exact Dq.tup (TupA.of (zOk_at hz (List.mem_of_getElem? k1) (List.mem_of_getElem? k3)) upd_same) (thou (by show 2 ≤ 1000; decide)) (.cons ((Step.lay hT).dq k2) (.cons ((Step.lay hT).dq k4) .nil))
    · exact h1.elim
  · split at h1
    · rename_i ds es hz
      obtain ⟨x, y, rfl, rx, ry⟩ := rvs2 r1
      cases rx with
      | @lst a xs _ hx hzx dx =>
        cases ry with
        | @lst b ys _ hy hzy dy =>
          refine ⟨a, b, xs, ys, rfl, .inl ⟨hx.sq, hy.sq, h1 β1 H1 _ (Step.refl _ _) hs1 ?_⟩⟩
          have l1 := dx.len
          have l2 := dy.len
          have kx : ∀ {β' H'}, StepW β1 H1 β' H' → SqL X.K H' a xs := fun st => (st.sl hx).sq
          have ky : ∀ {β' H'}, StepW β1 H1 β' H' → SqL X.K H' b ys := fun st => (st.sl hy).sq
          refine ⟨fun i β' s' H' hi st hs' _ => ?_, fun β' s' H' st hs' _ => ?_, fun i β' s' H' v H2 hi st hs' _ y => ?_⟩
          · have hi : i < min ds.length es.length := by rw [← zpairs_len]; exact hi
            have a1 : i < xs.length := by omega
            have a2 : i < ys.length := by omega
            exact ⟨xs, ys, xs[i], ys[i], kx st, ky st, by simp [a1], by simp [a2]⟩
          · exact ⟨xs, ys, kx st, ky st, by show xs.length ≤ (zpairs ds es).length ∨ ys.length ≤ (zpairs ds es).length; rw [zpairs_len]; omega⟩
          · obtain ⟨T2, u1, u2, rfl, hT, rfl, g1, g2⟩ := y
            obtain ⟨d1, k1, k2⟩ := (st.dqs dx).get (g1 xs (kx st))
            obtain ⟨d2, k3, k4⟩ := (st.dqs dy).get (g2 ys (ky st))
            refine ⟨same_new hT, _, zpairs_get k1 k3, ?_⟩
            exact Dq.tup (TupA.of (zOk_at hz (List.mem_of_getElem? k1) (List.mem_of_getElem? k3)) upd_same) (thou (by show 2 ≤ 1000; decide)) (.cons ((Step.lay hT).dq k2) (.cons ((Step.lay hT).dq k4) .nil))
    · exact h1.elim
  · rename_i n es
    split at h1
    · rename_i ds eds
      split at h1
      · rename_i hz
        obtain ⟨x, y, rfl, rx, ry⟩ := rvs2 r1
        obtain ⟨a, hb, rfl⟩ := rx
        cases ry with
        | @lst b ys _ hy hzy dy =>
          have ky : ∀ {β' H'}, StepW β1 H1 β' H' → SqL X.K H' b ys := fun st => (st.sl hy).sq
          have l2 := dy.len
          have kx : ∀ {β' s' H'}, StepW β1 H1 β' H' → RelS (cf X zx) β' s' H' → s'[n]? = some (.lst (ds.map Vl.dat)) → ∃ xs, H' a = some (.lst xs) ∧ DqAll X.K H' β' xs ds := fun {β' s' H'} st hs' e => by
            obtain ⟨t, ht⟩ := st.pre
            obtain ⟨_, xs, h1, h2⟩ := hs'.ob n _ a e (by rw [← ht, List.getElem?_append_left (List.getElem?_eq_some_iff.mp hb).1]; exact hb)
            exact ⟨xs, h1, Rvs.undats (Rvs.up h2)⟩
          have e0 : s1[n]? = some (.lst (ds.map Vl.dat)) := by
            have eds' : (match s1[n]? with | some (.lst l) => datas l | _ => none) = some ds := eds
            split at eds'
            · rename_i l hl
              rw [hl, datas_eq eds']
            · cases eds'
          obtain ⟨xs0, g0, _⟩ := kx (Step.refl β1 H1).w hs1 e0
          refine ⟨a, b, xs0, ys, rfl, .inl ⟨SqL.of g0, hy.sq, h1 β1 H1 _ (Step.refl _ _) hs1 ?_⟩⟩
          refine ⟨fun i β' s' H' hi st hs' ok => ?_, fun β' s' H' st hs' ok => ?_, fun i β' s' H' v H2 hi st hs' ok y => ?_⟩
          · obtain ⟨xs, g1, dx⟩ := kx st hs' ok
            have hi : i < min ds.length es.length := by rw [← zpairs_len]; exact hi
            have l1 := dx.len
            have a1 : i < xs.length := by omega
            have a2 : i < ys.length := by omega
            exact ⟨xs, ys, xs[i], ys[i], SqL.of g1, ky st, by simp [a1], by simp [a2]⟩
          · obtain ⟨xs, g1, dx⟩ := kx st hs' ok
            have l1 := dx.len
            exact ⟨xs, ys, SqL.of g1, ky st, by show xs.length ≤ (zpairs ds es).length ∨ ys.length ≤ (zpairs ds es).length; rw [zpairs_len]; omega⟩
          · obtain ⟨xs, g1, dx⟩ := kx st hs' ok
            obtain ⟨T2, u1, u2, rfl, hT, rfl, q1, q2⟩ := y
            obtain ⟨d1, k1, k2⟩ := dx.get (q1 xs (SqL.of g1))
            obtain ⟨d2, k3, k4⟩ := (st.dqs dy).get (q2 ys (ky st))
            refine ⟨same_new hT, _, zpairs_get k1 k3, ?_⟩
            exact Dq.tup (TupA.of (zOk_at hz (List.mem_of_getElem? k1) (List.mem_of_getElem? k3)) upd_same) (thou (by show 2 ≤ 1000; decide)) (.cons ((Step.lay hT).dq k2) (.cons ((Step.lay hT).dq k4) .nil))
      · exact h1.elim
    · exact h1.elim
  · exact h1.elim
end
end Pm
set_option maxRecDepth 100000
set_option maxHeartbeats 4000000
namespace Pm
open PySem PySem.Spec PyProof.Rows L2 Sw
def idxN (v : Vl) (vs : List Vl) : Option Vl := match v, vs with
  | .dat (.str a), [.dat (.str b)] => (Txt.index0 a b).map fun (k : Nat) => Vl.dat (.int (k : Int))
  | _, _ => none
def isSv : Vl → Bool
  | .dat (.str _) => true
  | _ => false
def chN (r : R Vl) (k : Sto → R Vl) : R Vl := r.bind fun z s => match z with
  | .dat (.bool true) => k s
  | .dat (.bool false) => .ok (.dat (.bool false)) s
  | _ => .bad
@[simp] theorem chN_t {s : Sto} {k : Sto → R Vl} : chN (.ok (.dat (.bool true)) s) k = k s := rfl
@[simp] theorem chN_f {s : Sto} {k : Sto → R Vl} : chN (.ok (.dat (.bool false)) s) k = .ok (.dat (.bool false)) s := rfl
def augI (g : Int → Int → Int) (v y : Vl) : Option Vl := match v, y with
  | .dat (.int i), .dat (.int j) => some (.dat (.int (g i j)))
  | _, _ => none
@[simp] theorem augI_i {g : Int → Int → Int} {i j : Int} : augI g (.dat (.int i)) (.dat (.int j)) = some (.dat (.int (g i j))) := rfl
end Pm
set_option maxRecDepth 100000
set_option maxHeartbeats 4000000
namespace Sw
open PySem PySem.Spec PyProof.Rows L2
structure IsWord (z : Str) : Prop where
  lo : 1 ≤ z.length
  hi : z.length ≤ 8
  ok : ∀ c ∈ z.cps.toList, okSign c = true
theorem len_list (z : Str) : z.length = z.cps.toList.length := by simp [Str.length]
theorem app_list (x y : Str) : (x ++ y).cps.toList = x.cps.toList ++ y.cps.toList := by
  show (x.cps ++ y.cps).toList = _
  simp
theorem app_len (x y : Str) : (x ++ y).length = x.length + y.length := by
  rw [len_list, len_list, len_list, app_list, List.length_append]
theorem IsWord.ascii {z : Str} (h : IsWord z) : ∀ c ∈ z.cps.toList, c < 128 := fun c hc => by
  have := h.ok c hc
  unfold okSign at this
  rw [Bool.and_eq_true, decide_eq_true_eq, decide_eq_true_eq] at this
  omega
theorem IsWord.app {x y : Str} (hx : IsWord x) (hy : ∀ c ∈ y.cps.toList, okSign c = true) (hl : x.length + y.length ≤ 8) : IsWord (x ++ y) := by
  refine ⟨by rw [app_len]; have := hx.lo; omega, by rw [app_len]; exact hl, fun c hc => ?_⟩
  rw [app_list, List.mem_append] at hc
  exact hc.elim (hx.ok c) (hy c)
def val (l : List Nat) : Nat := l.foldl (fun a c => a * 26 + (c - 97)) 0
theorem val_from : ∀ (l : List Nat) (a : Nat), (∀ c ∈ l, okSign c = true) → l.foldl (fun a c => a * 26 + (c - 97)) a < (a + 1) * 26 ^ l.length
  | [], a, _ => by simp
  | c :: l, a, h => by
    have h2 := h c List.mem_cons_self
    unfold okSign at h2
    rw [Bool.and_eq_true, decide_eq_true_eq, decide_eq_true_eq] at h2
    have ih := val_from l (a * 26 + (c - 97)) fun d hd => h d (List.mem_cons_of_mem _ hd)
    rw [List.foldl_cons, List.length_cons, Nat.pow_succ, Nat.mul_comm (26 ^ l.length) 26, ← Nat.mul_assoc]
    exact Nat.lt_of_lt_of_le ih (Nat.mul_le_mul_right _ (by omega))
theorem val_lt (l : List Nat) (h : ∀ c ∈ l, okSign c = true) : val l < 26 ^ l.length := by
  have := val_from l 0 h
  rw [Nat.zero_add, Nat.one_mul] at this
  exact this
def Nx (z z' : Str) : Prop := (z.length < 8 ∧ z'.length = z.length + 1) ∨ (z.length = 8 ∧ z'.length = 8 ∧ val z'.cps.toList = (val z.cps.toList + 1) % 26 ^ 8)
/-- u comes t words ahead of z -/
def Bf (t : Nat) (u z : Str) : Prop := (u.length < 8 ∧ u.length < z.length) ∨ (u.length = 8 ∧ z.length = 8 ∧ val z.cps.toList = (val u.cps.toList + t) % 26 ^ 8)
theorem Bf.ne {t : Nat} {u z : Str} (h : Bf t u z) (h1 : 1 ≤ t) (h2 : t ≤ 100) (hu : IsWord u) : z ≠ u := by
  intro e
  subst e
  rcases h with h | ⟨h8, _, h⟩
  · omega
  · have := val_lt z.cps.toList hu.ok
    rw [← len_list, h8] at this
    have e8 : (26 : Nat) ^ 8 = 208827064576 := by decide
    rw [e8] at h this
    omega
theorem Bf.next {t : Nat} {u z z' : Str} (h : Bf t u z) (n : Nx z z') : Bf (t + 1) u z' := by
  rcases h with h | ⟨h8, hz, h⟩
  · rcases n with n | n
    · exact .inl ⟨h.1, by omega⟩
    · exact .inl ⟨h.1, by omega⟩
  · rcases n with n | ⟨_, n8, n⟩
    · omega
    · refine .inr ⟨h8, n8, ?_⟩
      have e8 : (26 : Nat) ^ 8 = 208827064576 := by decide
      rw [e8] at h n ⊢
      omega
theorem Bf.one {z z' : Str} (n : Nx z z') : Bf 1 z z' := by
  rcases n with n | ⟨h8, n8, n⟩
  · exact .inl ⟨n.1, by omega⟩
  · exact .inr ⟨h8, n8, n⟩
/-- i words were tried, all of them there; z is the next -/
structure Tried (zs ws : List Str) (z : Str) (i : Nat) : Prop where
  len : ws.length = i
  nd : ws.Nodup
  sub : ∀ u ∈ ws, u ∈ zs
  bf : ∀ u ∈ ws, ∃ t, 1 ≤ t ∧ t ≤ i ∧ Bf t u z
theorem Tried.nil {zs : List Str} {z : Str} : Tried zs [] z 0 := ⟨rfl, List.nodup_nil, by simp, by simp⟩
theorem Tried.next {zs ws : List Str} {z z' : Str} {i : Nat} (h : Tried zs ws z i) (hi : i < 60) (hw : ∀ u ∈ zs, IsWord u) (hz : IsWord z) (hin : z ∈ zs) (n : Nx z z') : Tried zs (z :: ws) z' (i + 1) := by
  refine ⟨by rw [List.length_cons, h.len], List.nodup_cons.mpr ⟨fun m => ?_, h.nd⟩, fun u hu => ?_, fun u hu => ?_⟩
  · obtain ⟨t, t1, t2, b⟩ := h.bf z m
    exact b.ne t1 (by omega) hz rfl
  · rcases List.mem_cons.mp hu with rfl | hu
    · exact hin
    · exact h.sub u hu
  · rcases List.mem_cons.mp hu with rfl | hu
    · exact ⟨1, Nat.le_refl _, by omega, Bf.one n⟩
    · obtain ⟨t, t1, t2, b⟩ := h.bf u hu
      exact ⟨t + 1, by omega, by omega, b.next n⟩
theorem inV_strs {z : Str} {zs : List Str} : inV (.str z) (zs.map V.str) = decide (z ∈ zs) := by
  unfold inV
  rw [List.any_map]
  by_cases h : z ∈ zs
  · rw [decide_eq_true h, List.any_eq_true]
    exact ⟨z, h, by simp [eqV]⟩
  · rw [decide_eq_false h, List.any_eq_false]
    intro y hy
    have : y ≠ z := fun e => h (e ▸ hy)
    simp [eqV, this]
end Sw
set_option maxRecDepth 100000
set_option maxHeartbeats 4000000
namespace Pm
open PySem PySem.Spec PyProof.Rows L2 Sw
@[simp] theorem putB_nil {s t : Sto} : putB s [] t = s := by cases t <;> rfl
@[simp] theorem refsOf_nil : refsOf [] = [] := rfl
@[simp] theorem refsOf_dat {p : PyData} {r : List Vl} : refsOf (.dat p :: r) = refsOf r := rfl
@[simp] theorem refsOf_fn {p : Str} {r : List Vl} : refsOf (.fn p :: r) = refsOf r := rfl
@[simp] theorem refsOf_scr {p : List Int} {r : List Vl} : refsOf (.scr p :: r) = refsOf r := rfl
@[simp] theorem refsOf_ref {n : Nat} {r : List Vl} : refsOf (.ref n :: r) = n :: refsOf r := rfl
@[simp] theorem renam_nil {j : Nat} : renam j [] = [] := rfl
@[simp] theorem renam_dat {j : Nat} {p : PyData} {r : List Vl} : renam j (.dat p :: r) = .dat p :: renam j r := rfl
@[simp] theorem renam_fn {j : Nat} {p : Str} {r : List Vl} : renam j (.fn p :: r) = .fn p :: renam j r := rfl
@[simp] theorem renam_scr {j : Nat} {p : List Int} {r : List Vl} : renam j (.scr p :: r) = .scr p :: renam j r := rfl
@[simp] theorem renam_ref {j n : Nat} {r : List Vl} : renam j (.ref n :: r) = .ref j :: renam (j + 1) r := rfl
/-- without references -/
theorem fr0 {g : MF} {xs : List Vl} {s s2 : Sto} {p : PyData} (h : g xs [] = .ok (.dat p) s2) (hx : refsOf xs = [] := by rfl) (hr : renam 0 xs = xs := by rfl) : frameG g xs s = .ok (.dat p) s := by
  unfold frameG
  rw [hx, if_pos List.nodup_nil]
  simp only [pickS]
  rw [if_pos (show stoOk 0 [] from trivial), hr, h]
  simp only []
  rw [if_pos ⟨Nat.zero_le _, trivial⟩, putB_nil]
  rfl
theorem fr0l {g : MF} {xs : List Vl} {s s2 : Sto} {m : Nat} {ds : List PyData} (h : g xs [] = .ok (.ref m) s2) (he : s2[m]? = some (.lst (ds.map Vl.dat))) (hx : refsOf xs = [] := by rfl) (hr : renam 0 xs = xs := by rfl) : frameG g xs s = .ok (.dat (.list ds)) s := by
  unfold frameG
  rw [hx, if_pos List.nodup_nil]
  simp only [pickS]
  rw [if_pos (show stoOk 0 [] from trivial), hr, h]
  simp only []
  rw [if_pos ⟨Nat.zero_le _, trivial⟩]
  unfold frV
  simp only [List.length_nil]
  rw [if_neg (Nat.not_lt_zero _), deep_lst he (Nat.not_lt_zero _), putB_nil]
  rfl
theorem fr0x {g : MF} {xs : List Vl} {s s2 : Sto} {x : Exn} (h : g xs [] = .ex x s2) (hx : refsOf xs = [] := by rfl) (hr : renam 0 xs = xs := by rfl) : frameG g xs s = .ex x s := by
  unfold frameG
  rw [hx, if_pos List.nodup_nil]
  simp only [pickS]
  rw [if_pos (show stoOk 0 [] from trivial), hr, h]
  simp only []
  rw [if_pos ⟨Nat.zero_le _, trivial⟩, putB_nil]
/-- the first argument is one of the store's -/
theorem fr1 {g : MF} {xs : List Vl} {s more : Sto} {k : Nat} {o o' : Ob} {p : PyData} (h : g (.ref 0 :: xs) [o] = .ok (.dat p) (o' :: more)) (hk : s[k]? = some o) (ho : obOk 0 o) (ho' : obOk 0 o') (hx : refsOf xs = [] := by rfl) (hr : renam 1 xs = xs := by rfl) : frameG g (.ref k :: xs) s = .ok (.dat p) (s.set k o') := by
  unfold frameG
  rw [refsOf_ref, hx, if_pos (by simp)]
  simp only [pickS, hk, Option.bind_some, Option.map_some]
  rw [if_pos (show stoOk 0 [o] from ⟨ho, trivial⟩), renam_ref, hr, h]
  simp only []
  rw [if_pos ⟨by simp, show stoOk 0 ((o' :: more).take 1) from ⟨ho', trivial⟩⟩]
  show R.ok _ (putB (s.set k o') [] more) = _
  rw [putB_nil]
theorem sh_int (i : Int) : SeqAt.shaped (.int i) = true := by simp [SeqAt.shaped, PyData.canLay0, PyData.depth]
theorem sh_data {M : Nat} {d : PyData} (h : leaf M d = true) (hd : d.depth ≤ 64) : SeqAt.shaped d = true := by
  unfold SeqAt.shaped
  rw [leaf_canLay _ h, Bool.true_and, decide_eq_true hd]
theorem eqv_ii (i j : Int) : PyData.eqv (.int i) (.int j) = decide (i = j) := by
  simp only [PyData.eqv]
  exact Bool.beq_eq_decide_eq i j
theorem eqv_ss (x y : Str) : PyData.eqv (.str x) (.str y) = decide (x = y) := by
  simp only [PyData.eqv]
  exact Bool.beq_eq_decide_eq x y
@[simp] theorem phEq_i {i j : Int} {s : Sto} : phEq (.dat (.int i)) (.dat (.int j)) s = some (.dat (.bool (decide (i = j)))) := by
  simp only [phEq]
  rw [if_pos ⟨sh_int _, sh_int _⟩, eqv_ii]
@[simp] theorem phNe_i {i j : Int} {s : Sto} : phNe (.dat (.int i)) (.dat (.int j)) s = some (.dat (.bool (!decide (i = j)))) := by
  simp only [phNe]
  rw [if_pos ⟨sh_int _, sh_int _⟩, eqv_ii]
@[simp] theorem phEq_s {x y : Str} {s : Sto} : phEq (.dat (.str x)) (.dat (.str y)) s = some (.dat (.bool (decide (x = y)))) := rfl
@[simp] theorem phNe_s {x y : Str} {s : Sto} : phNe (.dat (.str x)) (.dat (.str y)) s = some (.dat (.bool (!decide (x = y)))) := rfl
theorem phEq_sh {a b : PyData} {s : Sto} (ha : SeqAt.shaped a = true) (hb : SeqAt.shaped b = true) : phEq (.dat a) (.dat b) s = some (.dat (.bool (PyData.eqv a b))) := by
  cases a <;> cases b <;> simp only [phEq, eqv_ss] <;> rw [if_pos ⟨ha, hb⟩]
theorem phNe_sh {a b : PyData} {s : Sto} (ha : SeqAt.shaped a = true) (hb : SeqAt.shaped b = true) : phNe (.dat a) (.dat b) s = some (.dat (.bool (!PyData.eqv a b))) := by
  cases a <;> cases b <;> simp only [phNe, eqv_ss] <;> rw [if_pos ⟨ha, hb⟩]
/-- two written texts -/
theorem eqS (x y : Str) (k : Bool) {s : Sto} (h : (decide (x = y) == k) = true) : phEq (.dat (.str x)) (.dat (.str y)) s = some (.dat (.bool k)) := by
  rw [phEq_s, eq_of_beq h]
theorem fVs_ints : ∀ ns : List Int, fVs (ns.map PyData.int) = some (ns.map V.int)
  | [] => rfl
  | n :: ns => by
    show ((fV (.int n)).bind fun v => (fVs (ns.map PyData.int)).map (v :: ·)) = _
    rw [fVs_ints ns]
    rfl
theorem inV_ints {z : Int} {zs : List Int} : inV (.int z) (zs.map V.int) = decide (z ∈ zs) := by
  unfold inV
  rw [List.any_map, Bool.eq_iff_iff, List.any_eq_true, decide_eq_true_iff]
  constructor
  · rintro ⟨x, hx, e⟩
    have : x = z := by simpa [eqV] using e
    exact this ▸ hx
  · intro h
    exact ⟨z, h, by simp [eqV]⟩
theorem phIn_t {neg : Bool} {z : Int} {zs : List Int} {s : Sto} : phIn neg (.dat (.int z)) (.dat (.tuple (zs.map PyData.int))) s = some (.dat (.bool (if neg = true then !decide (z ∈ zs) else decide (z ∈ zs)))) := by
  show ((fV (.int z)).bind fun vx => (seqD (.dat (.tuple (zs.map PyData.int))) s).bind fun ds => (fVs ds).map fun vs => Vl.dat (.bool (if neg = true then !inV vx vs else inV vx vs))) = _
  show ((fVs (zs.map PyData.int)).map fun vs => Vl.dat (.bool (if neg = true then !inV (.int z) vs else inV (.int z) vs))) = _
  rw [fVs_ints]
  simp only [Option.map_some, inV_ints]
theorem bls_map {α : Type} {f : α → Bool} : ∀ l : List α, bls (l.map fun x => PyData.bool (f x)) = some (l.map f)
  | [] => rfl
  | x :: l => by
    show (bls (l.map fun x => PyData.bool (f x))).map (f x :: ·) = _
    rw [bls_map l]
    rfl
theorem rgs_zero {lo : Int} : rgs lo 0 = [] := rfl
theorem rgs_succ {lo : Int} {n : Nat} : rgs lo (n + 1) = .dat (.int lo) :: rgs (lo + 1) n := by
  unfold rgs
  rw [List.range_succ_eq_map, List.map_cons, List.map_map]
  congr 1
  · simp
  · apply List.map_congr_left
    intro a _
    show Vl.dat (.int (lo + ((a + 1 : Nat) : Int))) = _
    congr 2
    omega
def Wp {S L : Type} (Q : An S L → Prop) (z : An S L) : Prop := Q z
theorem wp_of {S L : Type} {Q : An S L → Prop} {z : An S L} (h : Wp Q z) : Q z := h
theorem wp_an {α S L : Type} {Q : An S L → Prop} {r : R α} {k : α → Sto → An S L} {a : α} {s : Sto} (h : r = .ok a s) (h2 : Wp Q (k a s)) : Wp Q (r.an k) := by
  rw [h]; exact h2
theorem wp_ex {α S L : Type} {Q : An S L → Prop} {r : R α} {k : α → Sto → An S L} (P : α → Sto → Prop) (h : ∃ a s, r = .ok a s ∧ P a s) (h2 : ∀ a s, P a s → Wp Q (k a s)) : Wp Q (r.an k) := by
  obtain ⟨a, s, e, p⟩ := h
  rw [e]; exact h2 a s p
theorem wp_if {S L : Type} {Q : An S L → Prop} {r : R Bool} {k : Bool → Sto → An S L} {b : Bool} {s : Sto} (h : r = .ok b s) (h2 : Wp Q (k b s)) : Wp Q (r.an k) := by
  rw [h]; exact h2
theorem wp_thn {S S' L : Type} {Q : An S' L → Prop} {f : An S L} {k : S → Sto → An S' L} {a : S} {s : Sto} (h : f = .nx a s) (h2 : Wp Q (k a s)) : Wp Q (f.thn k) := by
  rw [h]; exact h2
theorem runN_ap {nf : List Vl → Sto → An Unit Empty} {xs : List Vl} {s : Sto} : runN nf xs s = (nf xs s).fin := rfl
theorem filter_true {α : Type} (l : List α) : l.filter (fun _ => true) = l := List.filter_eq_self.mpr fun _ _ => rfl
theorem th_mil {n : Nat} (h : n ≤ 1000) : n ≤ mil := Nat.le_trans h (by unfold mil; omega)
theorem mil_sz {n : Nat} (h : n < mil) : n < sizeLine := Nat.lt_of_lt_of_le h (mil_le (Nat.le_refl _))
section
variable {P : Type} {ok : Sto → Prop} {pat : Vl → Option P} {t : P → Sto → R Bool} {e : P → Sto → R Vl}
theorem compP_nil {acc : List Vl} {s : Sto} (h : ok s) : compP ok pat t e [] acc s = .ok acc s := by
  rw [compP, if_pos h]
theorem compP_yes {v : Vl} {r acc : List Vl} {s s1 s2 : Sto} {p : P} {y : Vl} (h : ok s) (hp : pat v = some p) (ht : t p s = .ok true s1) (he : e p s1 = .ok y s2) (hl : acc.length < mil) : compP ok pat t e (v :: r) acc s = compP ok pat t e r (acc ++ [y]) s2 := by
  rw [compP, if_pos h, hp]
  simp only [ht, he]
  rw [if_pos (mil_sz hl)]
theorem compP_no {v : Vl} {r acc : List Vl} {s s1 : Sto} {p : P} (h : ok s) (hp : pat v = some p) (ht : t p s = .ok false s1) : compP ok pat t e (v :: r) acc s = compP ok pat t e r acc s1 := by
  rw [compP, if_pos h, hp]
  simp only [ht]
theorem compP_pure {α : Type} {s : Sto} (f : α → Vl) (p : α → P) (b : α → Bool) (y : α → Vl) (hok : ok s) : ∀ (l : List α) (acc : List Vl), (∀ x ∈ l, pat (f x) = some (p x) ∧ t (p x) s = .ok (b x) s ∧ (b x = true → e (p x) s = .ok (y x) s)) → acc.length + l.length ≤ mil → compP ok pat t e (l.map f) acc s = .ok (acc ++ (l.filter b).map y) s
  | [], acc, _, _ => by rw [List.map_nil, compP_nil hok]; simp
  | x :: l, acc, h, hl => by
    obtain ⟨h1, h2, h3⟩ := h x List.mem_cons_self
    have hl' : acc.length + (l.length + 1) ≤ mil := hl
    rw [List.map_cons]
    cases hb : b x with
    | true =>
      rw [compP_yes hok h1 (by rw [h2, hb]) (h3 hb) (by omega), compP_pure f p b y hok l _ (fun z hz => h z (List.mem_cons_of_mem _ hz)) (by rw [List.length_append, List.length_singleton]; omega), List.filter_cons, if_pos hb, List.map_cons, List.append_assoc]
      rfl
    | false =>
      rw [compP_no hok h1 (by rw [h2, hb]), compP_pure f p b y hok l _ (fun z hz => h z (List.mem_cons_of_mem _ hz)) (by omega), List.filter_cons, if_neg (by rw [hb]; decide)]
theorem datas_dats {α : Type} {f : α → PyData} : ∀ l : List α, datas (l.map fun x => Vl.dat (f x)) = some (l.map f)
  | [] => rfl
  | x :: l => by
    show (datas (l.map fun x => Vl.dat (f x))).map (f x :: ·) = _
    rw [datas_dats l]
    rfl
theorem lcP_pure {α : Type} {s : Sto} {a' : Option (Nat × List Vl)} {l : List α} (f : α → Vl) (p : α → P) (b : α → Bool) (y : α → PyData) (hok : Src.ok ⟨l.map f, a'⟩ s) (h : ∀ x ∈ l, pat (f x) = some (p x) ∧ t (p x) s = .ok (b x) s ∧ (b x = true → e (p x) s = .ok (.dat (y x)) s)) (hl : l.length ≤ mil) : lcP (.ok ⟨l.map f, a'⟩ s) pat t e = .ok (.dat (.list ((l.filter b).map y))) s := by
  unfold lcP
  rw [R.bind_ok]
  show (compP (Src.ok ⟨l.map f, a'⟩) pat t e (l.map f) [] s).bind _ = _
  rw [compP_pure f p b (fun x => .dat (y x)) hok l [] h (by simpa using hl), R.bind_ok, List.nil_append, datas_dats]
  rfl
theorem lcP_map {α : Type} {s : Sto} {a' : Option (Nat × List Vl)} {l : List α} (f : α → Vl) (p : α → P) (y : α → PyData) (hok : Src.ok ⟨l.map f, a'⟩ s) (h : ∀ x ∈ l, pat (f x) = some (p x) ∧ e (p x) s = .ok (.dat (y x)) s) (hl : l.length ≤ mil) : lcP (.ok ⟨l.map f, a'⟩ s) pat (fun _ s => .ok true s) e = .ok (.dat (.list (l.map y))) s := by
  have := lcP_pure (t := fun _ s => .ok true s) f p (fun _ => true) y hok (fun x hx => ⟨(h x hx).1, rfl, fun _ => (h x hx).2⟩) hl
  rwa [filter_true] at this
theorem lcD_map {s : Sto} {ds : List PyData} (p : PyData → P) (y : PyData → PyData) (h : ∀ x ∈ ds, pat (.dat x) = some (p x) ∧ e (p x) s = .ok (.dat (y x)) s) (hl : ds.length ≤ mil) : lcP (.ok ⟨ds.map Vl.dat, none⟩ s) pat (fun _ s => .ok true s) e = .ok (.dat (.list (ds.map y))) s := lcP_map Vl.dat p y trivial h hl
end
end Pm
set_option maxRecDepth 100000
set_option maxHeartbeats 4000000
namespace Pm
open PySem PySem.Spec PyProof.Rows L2 Sw
inductive Opd where
  | n (i : Int)
  | v (x : Str)
structure Adr where
  names : List Str
  pick : Opd
  index : Opd
inductive Row where
  | load (x : Str) (a : Adr)
  | store (a : Adr) (o : Opd)
  | touch (a : Adr)
  | set (x w : Str) (p q : Opd)
  | tell (o : Opd)
  | need (o : Opd)
  | call (f : Str)
inductive Endd where
  | go (b : Int)
  | iff (o : Opd) (b c : Int)
  | back
structure Blk where
  rows : List Row
  fin : Endd
structure Cod where
  objs : List (Str × Int)
  rts : List (Str × List Blk)
def Opd.d : Opd → PyData
  | .n i => .int i
  | .v x => .str x
def strsD (l : List Str) : PyData := .tuple (l.map .str)
def Adr.d (a : Adr) : PyData := .tuple [strsD a.names, a.pick.d, a.index.d]
def Row.d : Row → PyData
  | .load x a => .tuple [.str "load", .str x, a.d]
  | .store a o => .tuple [.str "store", a.d, o.d]
  | .touch a => .tuple [.str "touch", a.d]
  | .set x w p q => .tuple [.str "set", .str x, .str w, p.d, q.d]
  | .tell o => .tuple [.str "tell", o.d]
  | .need o => .tuple [.str "need", o.d]
  | .call f => .tuple [.str "call", .str f]
def Endd.d : Endd → PyData
  | .go b => .tuple [.str "go", .int b]
  | .iff o b c => .tuple [.str "if", o.d, .int b, .int c]
  | .back => .tuple [.str "back"]
def rowsD (l : List Row) : PyData := .tuple (l.map Row.d)
def Blk.d (b : Blk) : PyData := .tuple [rowsD b.rows, b.fin.d]
def blksD (l : List Blk) : PyData := .tuple (l.map Blk.d)
def rtD (r : Str × List Blk) : PyData := .tuple [.str r.1, blksD r.2]
def objD (o : Str × Int) : PyData := .tuple [.str o.1, .int o.2]
def objsD (l : List (Str × Int)) : PyData := .tuple (l.map objD)
def Cod.d (c : Cod) : PyData := .tuple [objsD c.objs, .tuple (c.rts.map rtD)]
def Endd.all : Endd → List Int
  | .go b => [b]
  | .iff _ b c => [b, c]
  | .back => []
def Endd.goals (e : Endd) : List Int := risI e.all
def intsD (l : List Int) : PyData := .tuple (l.map .int)
noncomputable def n_is_number (v_thing : Vl) : Sto → An Unit Empty := fun s =>
  ((R.of (phIsi isaInt v_thing s) s).bind fun x1 s2 => andN x1 s2 ((R.of (phIsi isaBool v_thing s2) s2).bind fun x3 s4 => R.of (notV x3 s4) s4)).an fun x5 s6 => .rt x5 s6
noncomputable def r_is_number : MF := runN fun xs => match xs with
  | [v_thing] => n_is_number v_thing
  | _ => fun _ => .bad
noncomputable def G_is_number : MF := frameG (r_is_number)
noncomputable def n_goals (v_end : Vl) : Sto → An Unit Empty := fun s =>
  (((R.of (phIx v_end (Vl.dat (.int 0)) s) s).bind fun x1 s2 => R.of (phEq x1 (Vl.dat (.str "go")) s2) s2).bind fun x3 s4 => R.of (bool? x3) s4).an fun c5 s6 => if c5 = true then
    ((((R.of (phIx v_end (Vl.dat (.int 1)) s6) s6).bind fun x7 s8 => R.ok [x7] s8).bind fun l9 s10 => R.of (tupN l9) s10).an fun x11 s12 => .rt x11 s12 : An Empty _).up
    else
    (((R.of (phIx v_end (Vl.dat (.int 0)) s6) s6).bind fun x13 s14 => R.of (phEq x13 (Vl.dat (.str "if")) s14) s14).bind fun x15 s16 => R.of (bool? x15) s16).an fun c17 s18 => if c17 = true then
    (((((((R.of ((int? (Vl.dat (.int 2))).map some) s18).bind fun o19 s20 => R.of (phSl v_end o19 none s20) s20).bind fun x21 s22 => R.ok [x21] s22).bind fun l23 s24 => R.of (phSS l23 s24) s24).bind fun x25 s26 => R.ok [x25] s26).bind fun l27 s28 => R.of (phTuple l27 s28) s28).an fun x29 s30 => .rt x29 s30 : An Empty _).up
    else
    (R.of (tupN []) s18).an fun x31 s32 => .rt x31 s32
noncomputable def r_goals : MF := runN fun xs => match xs with
  | [v_end] => n_goals v_end
  | _ => fun _ => .bad
noncomputable def G_goals : MF := frameG (r_goals)
def mk_blocks_of_1 (v_name : Vl) : Unit → Loc := fun a => [none, some v_name, none, none]
noncomputable def nb_blocks_of_1 (v_name : Vl) (v_word : Vl) (v_blocks : Vl) : Sto → An Unit Unit := fun s =>
  ((R.of (phEq v_word v_name s) s).bind fun x3 s4 => R.of (bool? x3) s4).an fun c5 s6 => if c5 = true then
    (R.ok v_blocks s6).an fun x7 s8 => .rt x7 s8
    else
    .nx () s6
noncomputable def lp_blocks_of_1 {L : Type} (v_name : Vl) (ck : Sto → Prop) : List Vl → Unit → Sto → An Unit L := forN ck (mk_blocks_of_1 v_name) (fun v a s => patN ((pT2 pV pV) v) fun p => nb_blocks_of_1 v_name p.1 p.2 s)
@[simp] theorem lp_blocks_of_1_nil {L : Type} (v_name : Vl) {a : Unit} {s : Sto} : (lp_blocks_of_1 (L := L) v_name okT [] a s) = .nx a s := forN_nil
theorem lp_blocks_of_1_cons {L : Type} (v_name : Vl) {v : Vl} {r : List Vl} {a : Unit} {s : Sto} : (lp_blocks_of_1 (L := L) v_name okT (v :: r) a s) = (patN ((pT2 pV pV) v) fun p => nb_blocks_of_1 v_name p.1 p.2 s).lp (mk_blocks_of_1 v_name) s.length (lp_blocks_of_1 v_name okT r) := forN_cons
noncomputable def kt_blocks_of_1 (v_name : Vl) : Sto → An Unit Empty := fun s =>
  .bad
noncomputable def n_blocks_of (v_code : Vl) (v_name : Vl) : Sto → An Unit Empty := fun s =>
  (((R.of (phIx v_code (Vl.dat (.int 1)) s) s).bind fun x1 s2 => R.of (src x1 s2) s2).an fun c9 s10 => lp_blocks_of_1 v_name c9.ok c9.items () s10).thn fun j11 s12 => kt_blocks_of_1 v_name  s12
noncomputable def r_blocks_of : MF := runN fun xs => match xs with
  | [v_code, v_name] => n_blocks_of v_code v_name
  | _ => fun _ => .bad
noncomputable def G_blocks_of : MF := frameG (r_blocks_of)
noncomputable def n_nexts (v_code : Vl) (v_name : Vl) (v_block : Vl) : Sto → An Unit Empty := fun s =>
  ((callN 2 G_blocks_of [v_code, v_name] s).bind fun x1 s2 => R.of (phIx x1 v_block s2) s2).an fun x4 s5 => patN ((pT2 pV pV) x4) fun p3 =>
    (callN 1 G_goals [p3.2] s5).an fun x6 s7 => .rt x6 s7
noncomputable def r_nexts : MF := runN fun xs => match xs with
  | [v_code, v_name, v_block] => n_nexts v_code v_name v_block
  | _ => fun _ => .bad
noncomputable def G_nexts : MF := frameG (r_nexts)
noncomputable def ce_is_numbers_1  (v_part : Vl) : Sto → R Vl := fun s => callN 1 G_is_number [v_part] s
noncomputable def n_is_numbers (v_thing : Vl) : Sto → An Unit Empty := fun s =>
  ((R.of (phIsi isaTup v_thing s) s).bind fun x1 s2 => andN x1 s2 (((lcP (R.of (src v_thing s2) s2) pV (fun p s => R.ok true s) (fun p s => ce_is_numbers_1 p s)).bind fun x3 s4 => R.ok [x3] s4).bind fun l5 s6 => R.of (phAll l5 s6) s6)).an fun x7 s8 => .rt x7 s8
noncomputable def r_is_numbers : MF := runN fun xs => match xs with
  | [v_thing] => n_is_numbers v_thing
  | _ => fun _ => .bad
noncomputable def G_is_numbers : MF := frameG (r_is_numbers)
theorem G_is_number_eq (d : PyData) (s : Sto) : G_is_number [.dat d] s = .ok (.dat (.bool (dNum d))) s := by
  refine fr0 (s2 := []) ?_
  cases d <;> simp [r_is_number, runN_ap, n_is_number, isaInt, isaBool, dNum]
theorem phSS_i {ns : List Int} {s : Sto} (h : ns.length ≤ 60) : phSS [.dat (.tuple (ns.map PyData.int))] s = some (.dat (.list ((risI ns).map PyData.int))) := by
  simp [phSS, h]
theorem G_goals_eq (e : Endd) (s : Sto) : G_goals [.dat e.d] s = .ok (.dat (intsD e.goals)) s := by
  refine fr0 (s2 := []) ?_
  cases e with
  | go a => simp [r_goals, runN_ap, n_goals, Endd.d, eqS "go" "go" true (by decide), Endd.goals, Endd.all, intsD, risI, insI]
  | back => simp [r_goals, runN_ap, n_goals, Endd.d, eqS "back" "go" false (by decide), eqS "back" "if" false (by decide), Endd.goals, Endd.all, intsD, risI]
  | iff o a b =>
    have ec : cut [PyData.str "if", o.d, .int a, .int b] (some 2) none = ([a, b].map PyData.int) := rfl
    simp only [List.map_cons, List.map_nil] at ec
    have e2 := phSS_i (ns := [a, b]) (s := []) (by show 2 ≤ 60; decide)
    simp only [List.map_cons, List.map_nil] at e2
    simp [r_goals, runN_ap, n_goals, Endd.d, eqS "if" "go" false (by decide), eqS "if" "if" true (by decide), ec, e2, Endd.goals, Endd.all, intsD]
theorem lp_blocks_of_eq {nm : Str} {bs : List Blk} {L : Type} (s : Sto) : ∀ (l : List (Str × List Blk)), l.lookup nm = some bs → (lp_blocks_of_1 (L := L) (.dat (.str nm)) okT (l.map fun r => .dat (rtD r)) () s) = .rt (.dat (blksD bs)) s
  | [], h => by simp at h
  | r :: l, h => by
    rw [List.map_cons, lp_blocks_of_1_cons]
    have e : phEq (.dat (.str r.1)) (.dat (.str nm)) s = some (.dat (.bool (decide (r.1 = nm)))) := phEq_s
    rw [List.lookup_cons] at h
    by_cases hr : r.1 = nm
    · subst hr
      rw [beq_self_eq_true] at h
      cases h
      simp [show rtD r = .tuple [.str r.1, blksD r.2] from rfl, nb_blocks_of_1, e]
    · have hb : (nm == r.1) = false := by rw [beq_eq_false_iff_ne]; exact fun z => hr z.symm
      rw [hb] at h
      have ih := lp_blocks_of_eq (L := L) s l h
      simp [show rtD r = .tuple [.str r.1, blksD r.2] from rfl, nb_blocks_of_1, e, hr, tidy_same, ih]
theorem G_blocks_of_eq {c : Cod} {nm : Str} {bs : List Blk} (h : c.rts.lookup nm = some bs) (s : Sto) : G_blocks_of [.dat c.d, .dat (.str nm)] s = .ok (.dat (blksD bs)) s := by
  refine fr0 (s2 := []) ?_
  have e := lp_blocks_of_eq (L := Empty) [] c.rts h
  simp [r_blocks_of, runN_ap, n_blocks_of, Cod.d, src_ok_none, Function.comp_def, e]
/-- the goals of a routine's block -/
def goalsB (bs : List Blk) (b : Int) : List Int := match atI bs b with
  | some k => k.fin.goals
  | none => []
theorem atI_map {α β : Type} {f : α → β} {l : List α} {i : Int} : atI (l.map f) i = (atI l i).map f := by
  unfold atI
  rw [List.length_map]
  cases ixN l.length i with
  | none => rfl
  | some j => simp
theorem G_nexts_eq {c : Cod} {nm : Str} {bs : List Blk} {b : Int} {k : Blk} (h : c.rts.lookup nm = some bs) (hk : atI bs b = some k) (s : Sto) : G_nexts [.dat c.d, .dat (.str nm), .dat (.int b)] s = .ok (.dat (intsD k.fin.goals)) s := by
  refine fr0 (s2 := []) ?_
  simp [r_nexts, runN_ap, n_nexts, G_blocks_of_eq h, blksD, atI_map, hk, Blk.d, G_goals_eq]
def dNums : PyData → Bool
  | .tuple ds => ds.all dNum
  | _ => false
theorem G_is_numbers_eq (d : PyData) (s : Sto) (hl : ∀ ds, d = .tuple ds → ds.length ≤ mil) : G_is_numbers [.dat d] s = .ok (.dat (.bool (dNums d))) s := by
  refine fr0 (s2 := []) ?_
  cases d with
  | tuple ds =>
    have e := fun s => lcD_map (pat := pV) (e := fun p s => ce_is_numbers_1 p s) (s := s) (fun d => .dat d) (fun d => .bool (dNum d)) (fun x _ => ⟨rfl, by simp [ce_is_numbers_1, G_is_number_eq]⟩) (hl ds rfl)
    simp [r_is_numbers, runN_ap, n_is_numbers, isaTup, e, bls_map, dNums, List.all_map]
  | _ => simp [r_is_numbers, runN_ap, n_is_numbers, isaTup, dNums]
end Pm
set_option maxRecDepth 100000
set_option maxHeartbeats 4000000
namespace Pm
open PySem PySem.Spec PyProof.Rows L2 Sw
/-- a feed that draws: Fd j o says that o is one after at most j draws -/
structure DrawSp (dr : MF) (Fd : Nat → Ob → Prop) : Prop where
  mono : ∀ {j k : Nat} {o : Ob}, Fd j o → j ≤ k → Fd k o
  ok : ∀ {j : Nat} {o : Ob}, Fd j o → obOk 0 o
  go : ∀ {j k : Nat} {f : Ob} {s : Sto} {m : Int}, Fd j f → j ≤ 1000000 → 1 ≤ m → m < 1073741824 → s[k]? = some f → ∃ r f', dr [.ref k, .dat (.int m)] s = .ok (.dat (.int r)) (s.set k f') ∧ Fd (j + 1) f' ∧ 0 ≤ r ∧ r < m
theorem DrawSp.go0 {dr : MF} {Fd : Nat → Ob → Prop} (D : DrawSp dr Fd) {j : Nat} {f : Ob} {t : Sto} {m : Int} (h : Fd j f) (hj : j ≤ 1000000) (h1 : 1 ≤ m) (h2 : m < 1073741824) : ∃ r f', dr [.ref 0, .dat (.int m)] (f :: t) = .ok (.dat (.int r)) (f' :: t) ∧ Fd (j + 1) f' ∧ 0 ≤ r ∧ r < m := by
  obtain ⟨r, f', e, h⟩ := D.go (k := 0) (s := f :: t) h hj h1 h2 rfl
  exact ⟨r, f', e, h⟩
theorem phMod_p {i j : Int} {s : Sto} (h : 0 < j) : phMod (.dat (.int i)) (.dat (.int j)) s = some (.dat (.int (i % j))) := if_pos h
theorem phDiv_p {i j : Int} {s : Sto} (h : 0 < j) (h2 : j < 1073741824) : phDiv (.dat (.int i)) (.dat (.int j)) s = some (.dat (.int (i / j))) := by
  simp only [phDiv]
  exact if_pos ⟨h, h2⟩
theorem phMul_l {i j : Int} {s : Sto} (h : 0 ≤ i) (h2 : i ≤ 1000000000000000000) : phMul (.dat (.int i)) (.dat (.int j)) s = some (.dat (.int (i * j))) := by
  simp only [phMul]
  refine if_pos (.inl (.inl ⟨?_, ?_⟩))
  · have : -(2 ^ 64 : Int) < 0 := by decide
    omega
  · have : (1000000000000000000 : Int) < 2 ^ 64 := by decide
    omega
theorem phMul_r {i j : Int} {s : Sto} (h : 0 ≤ j) (h2 : j ≤ 1000000000000000000) : phMul (.dat (.int i)) (.dat (.int j)) s = some (.dat (.int (i * j))) := by
  simp only [phMul]
  refine if_pos (.inl (.inr ⟨?_, ?_⟩))
  · have : -(2 ^ 64 : Int) < 0 := by decide
    omega
  · have : (1000000000000000000 : Int) < 2 ^ 64 := by decide
    omega
theorem phPow_c {i j : Int} {s : Sto} (h : 0 ≤ j ∧ j ≤ 1000000 ∧ i.natAbs < 2 ^ 64) : phPow (.dat (.int i)) (.dat (.int j)) s = some (.dat (.int (i ^ j.toNat))) := by
  simp only [phPow]
  exact if_pos h
theorem sh_ints (ns : List Int) : SeqAt.shaped (.list (ns.map PyData.int)) = true := by
  have hf : PyData.canLayAll0 (ns.map PyData.int) = true := by
    induction ns with
    | nil => simp [PyData.canLayAll0]
    | cons n ns ih => simp [PyData.canLayAll0, PyData.canLay0, ih]
  unfold SeqAt.shaped
  rw [show (PyData.list (ns.map PyData.int)).canLay0 = true by simpa [PyData.canLay0] using hf, Bool.true_and, decide_eq_true_eq]
  have : (PyData.list (ns.map PyData.int)).depth ≤ 0 + 1 := depth_list.mpr fun x hx => by
    obtain ⟨z, _, rfl⟩ := List.mem_map.mp hx
    simp [PyData.depth]
  omega
theorem phEq_ints {ns : List Int} {s : Sto} : phEq (.dat (.list (ns.map PyData.int))) (.dat (.list [])) s = some (.dat (.bool ns.isEmpty)) := by
  simp only [phEq]
  rw [if_pos ⟨sh_ints ns, sh_ints []⟩]
  cases ns <;> rfl
def fdL (ns : List Int) (a b c : Int) : Ob := .lst [.dat (.list (ns.map PyData.int)), .dat (.int a), .dat (.int b), .dat (.int c)]
def FdL (j : Nat) (o : Ob) : Prop := ∃ (ns : List Int) (a b c : Int), o = fdL ns a b c ∧ ns.length ≤ 63 ∧ 0 ≤ a ∧ 0 ≤ c ∧ c ≤ (j : Int)
noncomputable def n_law_feed_k01 (w_script : Vl) : Sto → An Unit Empty := fun s =>
  ((((R.of ((int? (Vl.dat (.int 63))).map some) s).bind fun o1 s2 => R.of (phSl w_script none o1 s2) s2).bind fun x3 s4 => R.ok [x3, (Vl.dat (.int 0)), (Vl.dat (.int 0)), (Vl.dat (.int 0))] s4).bind fun l5 s6 => newN l5 s6).an fun x7 s8 => .rt x7 s8
noncomputable def r_law_feed_k01 : MF := runN fun xs => match xs with
  | [w_script] => n_law_feed_k01 w_script
  | _ => fun _ => .bad
noncomputable def G_law_feed_k01 : MF := r_law_feed_k01
noncomputable def n_law_draw_k01 (w_feed_here : Vl) (w_many : Vl) : Sto → An Unit Empty := fun s =>
  (R.ok w_feed_here s).an fun x1 s2 => (R.ok (Vl.dat (.int 3)) s2).an fun x3 s4 => patN (getI x1 x3 s4) fun o5 => (R.ok (Vl.dat (.int 1)) s4).an fun x6 s7 => stoN (putI x1 x3 x6 o5 s7) fun s8 =>
    (((R.of (phIx w_feed_here (Vl.dat (.int 2)) s8) s8).bind fun x9 s10 => R.of (phGt x9 (Vl.dat (.int 0)) s10) s10).bind fun x11 s12 => R.of (bool? x11) s12).an fun c13 s14 => if c13 = true then
    (((R.of (phIx w_feed_here (Vl.dat (.int 2)) s14) s14).bind fun x16 s17 => R.of (phMod x16 w_many s17) s17).an fun w_told s15 =>
      ((R.of (phIx w_feed_here (Vl.dat (.int 2)) s15) s15).bind fun x18 s19 => R.of (phDiv x18 w_many s19) s19).an fun x20 s21 => stoN (subU (R.ok w_feed_here s21) (fun z => R.ok (Vl.dat (.int 2)) z) x20) fun s22 =>
      (R.ok w_told s22).an fun x23 s24 => .rt x23 s24 : An Empty _).up
    else
    ((((R.of (phIx w_feed_here (Vl.dat (.int 0)) s14) s14).bind fun x26 s27 => (R.of (lstN []) s27).bind fun x28 s29 => R.of (phEq x26 x28 s29) s29).bind fun x30 s31 => R.of (bool? x30) s31).bind fun c32 s33 => if c32 = true then R.ok (Vl.dat (.int 7)) s33 else (R.of (phIx w_feed_here (Vl.dat (.int 0)) s33) s33).bind fun x34 s35 => ((R.of (phIx w_feed_here (Vl.dat (.int 1)) s35) s35).bind fun x36 s37 => (((R.of (phIx w_feed_here (Vl.dat (.int 0)) s37) s37).bind fun x38 s39 => R.ok [x38] s39).bind fun l40 s41 => R.of (phLen l40 s41) s41).bind fun x42 s43 => R.of (phMod x36 x42 s43) s43).bind fun x44 s45 => R.of (phIx x34 x44 s45) s45).an fun w_cell s25 =>
    (R.ok w_feed_here s25).an fun x46 s47 => (R.ok (Vl.dat (.int 1)) s47).an fun x48 s49 => patN (getI x46 x48 s49) fun o50 => (R.ok (Vl.dat (.int 1)) s49).an fun x51 s52 => stoN (putI x46 x48 x51 o50 s52) fun s53 =>
    ((((R.of (phPow (Vl.dat (.int 10)) (Vl.dat (.int 18)) s53) s53).bind fun x54 s55 => R.of (phGe w_cell x54 s55) s55).bind fun x56 s57 => R.of (bool? x56) s57).bind fun c58 s59 => if c58 = true then ((R.of (phIx w_feed_here (Vl.dat (.int 1)) s59) s59).bind fun x60 s61 => (((R.of (phIx w_feed_here (Vl.dat (.int 0)) s61) s61).bind fun x62 s63 => R.ok [x62] s63).bind fun l64 s65 => R.of (phLen l64 s65) s65).bind fun x66 s67 => R.of (phLe x60 x66 s67) s67).bind fun x68 s69 => R.of (bool? x68) s69 else R.ok false s59).an fun c70 s71 => if c70 = true then
    ((R.of (phDiv w_cell w_many s71) s71).an fun x72 s73 => stoN (subU (R.ok w_feed_here s73) (fun z => R.ok (Vl.dat (.int 2)) z) x72) fun s74 =>
      (R.of (phMod w_cell w_many s74) s74).an fun x75 s76 => .rt x75 s76 : An Empty _).up
    else
    (R.of (phIx w_feed_here (Vl.dat (.int 3)) s71) s71).an fun w_turn s77 =>
    ((((R.of (phMod w_cell (Vl.dat (.int 2147483629)) s77) s77).bind fun x79 s80 => ((R.of (phMul (Vl.dat (.int 69621)) w_turn s80) s80).bind fun x81 s82 => R.of (phMul x81 w_turn s82) s82).bind fun x83 s84 => R.of (phAdd x79 x83 s84) s84).bind fun x85 s86 => (R.of (phMul (Vl.dat (.int 7)) w_turn s86) s86).bind fun x87 s88 => R.of (phAdd x85 x87 s88) s88).bind fun x89 s90 => R.of (phMod x89 (Vl.dat (.int 2147483629)) s90) s90).an fun w_mixed s78 =>
    (((R.of (phMul w_mixed w_mixed s78) s78).bind fun x92 s93 => (R.of (phMul (Vl.dat (.int 48271)) w_turn s93) s93).bind fun x94 s95 => R.of (phAdd x92 x94 s95) s95).bind fun x96 s97 => R.of (phMod x96 (Vl.dat (.int 2147483647)) s97) s97).an fun w_mixed s91 =>
    (((R.of (phMul w_mixed w_mixed s91) s91).bind fun x99 s100 => (R.of (phMul (Vl.dat (.int 16807)) w_turn s100) s100).bind fun x101 s102 => R.of (phAdd x99 x101 s102) s102).bind fun x103 s104 => R.of (phMod x103 (Vl.dat (.int 2147483587)) s104) s104).an fun w_mixed s98 =>
    (((((R.of (phMul w_mixed w_mixed s98) s98).bind fun x105 s106 => R.of (phAdd x105 w_turn s106) s106).bind fun x107 s108 => R.of (phMod x107 (Vl.dat (.int 2147483629)) s108) s108).bind fun x109 s110 => R.of (phDiv x109 (Vl.dat (.int 131)) s110) s110).bind fun x111 s112 => R.of (phMod x111 w_many s112) s112).an fun x113 s114 => .rt x113 s114
noncomputable def r_law_draw_k01 : MF := runN fun xs => match xs with
  | [w_feed_here, w_many] => n_law_draw_k01 w_feed_here w_many
  | _ => fun _ => .bad
noncomputable def G_law_draw_k01 : MF := frameG (r_law_draw_k01)
section
variable {ns : List Int} {a b c x : Int} {t : Sto}
@[simp] theorem fdL_ix0 : phIx (.ref 0) (.dat (.int 0)) (fdL ns a b c :: t) = some (.dat (.list (ns.map PyData.int))) := by simp [fdL, phIx]
@[simp] theorem fdL_ix1 : phIx (.ref 0) (.dat (.int 1)) (fdL ns a b c :: t) = some (.dat (.int a)) := by simp [fdL, phIx]
@[simp] theorem fdL_ix2 : phIx (.ref 0) (.dat (.int 2)) (fdL ns a b c :: t) = some (.dat (.int b)) := by simp [fdL, phIx]
@[simp] theorem fdL_ix3 : phIx (.ref 0) (.dat (.int 3)) (fdL ns a b c :: t) = some (.dat (.int c)) := by simp [fdL, phIx]
@[simp] theorem fdL_get3 : getI (.ref 0) (.dat (.int 3)) (fdL ns a b c :: t) = some c := rfl
@[simp] theorem fdL_get1 : getI (.ref 0) (.dat (.int 1)) (fdL ns a b c :: t) = some a := rfl
@[simp] theorem fdL_put3 : putI (.ref 0) (.dat (.int 3)) (.dat (.int x)) c (fdL ns a b c :: t) = some (fdL ns a b (c + x) :: t) := rfl
@[simp] theorem fdL_put1 : putI (.ref 0) (.dat (.int 1)) (.dat (.int x)) a (fdL ns a b c :: t) = some (fdL ns (a + x) b c :: t) := rfl
@[simp] theorem fdL_sub2 : subU (.ok (.ref 0) (fdL ns a b c :: t)) (fun z => .ok (.dat (.int 2)) z) (.dat (.int x)) = some (fdL ns a x c :: t) := rfl
end
theorem cellL {ns : List Int} {a : Int} (ha : 0 ≤ a) (hne : ns.isEmpty = false) : ∃ q : Int, atI (ns.map PyData.int) (a % (ns.length : Int)) = some (.int q) := by
  have hl : (0 : Int) < (ns.length : Int) := by cases ns with
    | nil => simp at hne
    | cons _ _ => simp
  have h1 := Int.emod_nonneg a (show (ns.length : Int) ≠ 0 by omega)
  have h2 := Int.emod_lt_of_pos a hl
  obtain ⟨q, hq⟩ : ∃ q : Nat, a % (ns.length : Int) = q := ⟨(a % (ns.length : Int)).toNat, by omega⟩
  have hq2 : q < ns.length := by omega
  exact ⟨ns[q], by rw [hq, atI_nat', List.getElem?_map, List.getElem?_eq_getElem hq2]; rfl⟩
theorem draw_k01 : DrawSp G_law_draw_k01 FdL := by
  refine ⟨fun ⟨ns, a, b, c, h1, h2, h3, h4, h5⟩ h => ⟨ns, a, b, c, h1, h2, h3, h4, by omega⟩, fun ⟨ns, a, b, c, h1, _⟩ => by subst h1; simp [fdL], ?_⟩
  rintro j k f s m ⟨ns, a, b, c, rfl, hn, ha, hc, hcj⟩ hj m1 m2 hs
  have key : ∃ r a' b', r_law_draw_k01 [.ref 0, .dat (.int m)] [fdL ns a b c] = .ok (.dat (.int r)) [fdL ns a' b' (c + 1)] ∧ 0 ≤ a' ∧ 0 ≤ r ∧ r < m := by
    have hm : (0 : Int) < m := by omega
    have fin : ∀ x : Int, 0 ≤ x % m ∧ x % m < m := fun x => ⟨Int.emod_nonneg x (by omega), Int.emod_lt_of_pos x hm⟩
    rw [r_law_draw_k01, runN_ap]
    simp only [n_law_draw_k01]
    by_cases hb : 0 < b
    · exact ⟨b % m, a, b / m, by simp [hb, phMod_p hm, phDiv_p hm m2], ha, fin b⟩
    · refine wp_of (Q := fun z => ∃ r a' b', An.fin z = .ok (.dat (.int r)) [fdL ns a' b' (c + 1)] ∧ 0 ≤ a' ∧ 0 ≤ r ∧ r < m) ?_
      simp only [R.an_ok, fdL_get3, patN_some, fdL_put3, stoN_some, fdL_ix2, R.of_some, R.bind_ok, phGt_i, decide_eq_false hb, bool?_b, if_false, Bool.false_eq_true]
      refine wp_ex (fun v s => ∃ q : Int, v = .dat (.int q) ∧ s = [fdL ns a b (c + 1)]) ?_ ?_
      · cases he : ns.isEmpty with
        | true => exact ⟨_, _, by simp [phEq_ints, he], 7, rfl, rfl⟩
        | false =>
          obtain ⟨q, hq⟩ := cellL ha he
          have hl : (0 : Int) < (ns.length : Int) := by cases ns with
            | nil => simp at he
            | cons _ _ => simp
          exact ⟨_, _, by simp [phEq_ints, he, phMod_p hl, hq], q, rfl, rfl⟩
      rintro _ _ ⟨q, rfl, rfl⟩
      have ep : ∀ s, phPow (.dat (.int 10)) (.dat (.int 18)) s = some (.dat (.int 1000000000000000000)) := fun s => by rw [phPow_c (by decide)]; rfl
      simp only [R.an_ok, fdL_get1, patN_some, fdL_put1, stoN_some]
      by_cases h18 : (1000000000000000000 : Int) ≤ q ∧ a + 1 ≤ (ns.length : Int)
      · exact ⟨q % m, a + 1, q / m, by simp [ep, h18.1, h18.2, phMod_p hm, phDiv_p hm m2], by omega, fin q⟩
      · have c1 : 0 ≤ c + 1 := by omega
        have c2 : c + 1 ≤ 1000000000000000000 := by omega
        refine wp_if (b := false) (s := [fdL ns (a + 1) b (c + 1)]) ?_ ?_
        · by_cases h1 : (1000000000000000000 : Int) ≤ q
          · have h2 : ¬ (a + 1 ≤ (ns.length : Int)) := fun z => h18 ⟨h1, z⟩
            simp [ep, h1, h2]
          · simp [ep, h1]
        have last : ∀ z : An Unit Empty, (∃ x : Int, z.fin = .ok (.dat (.int (x % m))) [fdL ns (a + 1) b (c + 1)]) → Wp (fun z => ∃ r a' b', An.fin z = .ok (.dat (.int r)) [fdL ns a' b' (c + 1)] ∧ 0 ≤ a' ∧ 0 ≤ r ∧ r < m) z := fun z ⟨x, h⟩ => ⟨x % m, a + 1, b, h, by omega, fin x⟩
        refine last _ ⟨?_, ?_⟩
        rotate_left
        · simp (disch := omega) [phMod_p, phDiv_p, phMul_l, phMul_r, hm, m2]
          rfl
  obtain ⟨r, a', b', e, h1, h2, h3⟩ := key
  exact ⟨r, _, fr1 e hs (by simp [fdL]) (by simp [fdL]), ⟨ns, a', b', c + 1, rfl, hn, h1, by omega, by omega⟩, h2, h3⟩
end Pm
set_option maxRecDepth 100000
set_option maxHeartbeats 4000000
namespace Pm
open PySem PySem.Spec PyProof.Rows L2 Sw
def mk_law_after_k01_1 (w_word_here : Vl) (w_letters : Vl) : (Vl) → Loc := fun a => [some w_word_here, some w_letters, some a, none]
noncomputable def tb_law_after_k01_1 (w_word_here : Vl) (w_letters : Vl) (w_at : Vl) : Sto → R Bool := fun s => ((R.of (phGt w_at (Vl.dat (.int 0)) s) s).bind fun x11 s12 => R.of (bool? x11) s12).bind fun c13 s14 => if c13 = true then ((R.of (phIx w_word_here w_at s14) s14).bind fun x15 s16 => R.of (phEq x15 (Vl.dat (.str "z")) s16) s16).bind fun x17 s18 => R.of (bool? x17) s18 else R.ok false s14
noncomputable def nb_law_after_k01_1 (w_word_here : Vl) (w_letters : Vl) (w_at : Vl) : Sto → An (Vl) (Vl) := fun s =>
  (R.ok (Vl.dat (.int 1)) s).an fun x19 s20 => patN (augI (fun i j => i - j) w_at x19) fun w_at =>
    .nx w_at s20
noncomputable def wl_law_after_k01_1 {L : Type} (w_word_here : Vl) (w_letters : Vl) : (Vl) → Sto → An (Vl) L := whl (mk_law_after_k01_1 w_word_here w_letters) (fun a s => tb_law_after_k01_1 w_word_here w_letters a s) (fun a s => nb_law_after_k01_1 w_word_here w_letters a s)
noncomputable def kt_law_after_k01_1 (w_word_here : Vl) (w_letters : Vl) (w_at : Vl) : Sto → An Unit Empty := fun s =>
  ((((if isSv w_letters = true then ((R.of (phIx w_word_here w_at s) s).bind fun x24 s25 => R.ok [x24] s25).bind fun l26 s27 => R.of (idxN w_letters l26) s27 else .bad).bind fun x28 s29 => R.of (phAdd x28 (Vl.dat (.int 1)) s29) s29).bind fun x30 s31 => R.of (phMod x30 (Vl.dat (.int 26)) s31) s31).bind fun x32 s33 => R.of (phIx w_letters x32 s33) s33).an fun w_sign s23 =>
    ((((R.of ((int? w_at).map some) s23).bind fun o34 s35 => R.of (phSl w_word_here none o34 s35) s35).bind fun x36 s37 => R.of (phAdd x36 w_sign s37) s37).bind fun x38 s39 => ((R.of (phSub (Vl.dat (.int 7)) w_at s39) s39).bind fun x40 s41 => R.of (phMul (Vl.dat (.str "a")) x40 s41) s41).bind fun x42 s43 => R.of (phAdd x38 x42 s43) s43).an fun x44 s45 => .rt x44 s45
noncomputable def n_law_after_k01 (w_word_here : Vl) : Sto → An Unit Empty := fun s =>
  (R.ok (Vl.dat (.str "abcdefghijklmnopqrstuvwxyz")) s).an fun w_letters s1 =>
    (((R.of (phLen [w_word_here] s1) s1).bind fun x2 s3 => R.of (phLt x2 (Vl.dat (.int 8)) s3) s3).bind fun x4 s5 => R.of (bool? x4) s5).an fun c6 s7 => if c6 = true then
    ((R.of (phAdd w_word_here (Vl.dat (.str "a")) s7) s7).an fun x8 s9 => .rt x8 s9 : An Empty _).up
    else
    (R.ok (Vl.dat (.int 7)) s7).an fun w_at s10 =>
    (wl_law_after_k01_1 w_word_here w_letters w_at s10).thn fun j21 s22 => kt_law_after_k01_1 w_word_here w_letters j21 s22
noncomputable def r_law_after_k01 : MF := runN fun xs => match xs with
  | [w_word_here] => n_law_after_k01 w_word_here
  | _ => fun _ => .bad
noncomputable def G_law_after_k01 : MF := frameG (r_law_after_k01)
def mk_law_word_k01_2 (w_feed_here : Vl) (w_found : Vl) (w_letters : Vl) : (Vl) → Loc := fun a => [some w_feed_here, some w_found, some w_letters, none, some a, none, none]
noncomputable def nb_law_word_k01_1 (dr : MF) (w_feed_here : Vl) (w_found : Vl) (w_letters : Vl) (w_k : Vl) (w_word_here : Vl) : Sto → An (Vl) (Vl) := fun s =>
  (((callN 2 dr [w_feed_here, (Vl.dat (.int 26))] s).bind fun x21 s22 => R.of (phIx w_letters x21 s22) s22).bind fun x23 s24 => R.of (phAdd w_word_here x23 s24) s24).an fun w_word_here s20 =>
    .nx w_word_here s20
noncomputable def lp_law_word_k01_1 {L : Type} (dr : MF) (w_feed_here : Vl) (w_found : Vl) (w_letters : Vl) (ck : Sto → Prop) : List Vl → (Vl) → Sto → An (Vl) L := forN ck (mk_law_word_k01_2 w_feed_here w_found w_letters) (fun v a s => patN (pV v) fun p => nb_law_word_k01_1 dr w_feed_here w_found w_letters p a s)
@[simp] theorem lp_law_word_k01_1_nil {L : Type} (dr : MF) (w_feed_here : Vl) (w_found : Vl) (w_letters : Vl) {a : (Vl)} {s : Sto} : (lp_law_word_k01_1 (L := L) dr w_feed_here w_found w_letters okT [] a s) = .nx a s := forN_nil
noncomputable def kt_law_word_k01_1 (dr : MF) (w_feed_here : Vl) (w_found : Vl) (w_letters : Vl) (w_word_here : Vl) : Sto → An (Vl) Empty := fun s =>
  .nx w_word_here s
def mk_law_word_k01_3 (w_found : Vl) : (Vl) → Loc := fun a => [none, some w_found, none, none, some a, none, none]
noncomputable def nb_law_word_k01_2 (dr : MF) (w_found : Vl) (w_k : Vl) (w_word_here : Vl) : Sto → An (Vl) (Vl) := fun s =>
  ((R.of ((phIn true) w_word_here w_found s) s).bind fun x65 s66 => R.of (bool? x65) s66).an fun c67 s68 => if c67 = true then
    (.bk w_word_here s68 : An Empty _).up
    else
    (callN 1 G_law_after_k01 [w_word_here] s68).an fun w_word_here s69 =>
    .nx w_word_here s69
noncomputable def lp_law_word_k01_2 {L : Type} (dr : MF) (w_found : Vl) (ck : Sto → Prop) : List Vl → (Vl) → Sto → An (Vl) L := forN ck (mk_law_word_k01_3 w_found) (fun v a s => patN (pV v) fun p => nb_law_word_k01_2 dr w_found p a s)
@[simp] theorem lp_law_word_k01_2_nil {L : Type} (dr : MF) (w_found : Vl) {a : (Vl)} {s : Sto} : (lp_law_word_k01_2 (L := L) dr w_found okT [] a s) = .nx a s := forN_nil
noncomputable def kt_law_word_k01_3 (dr : MF) (w_found : Vl) (w_word_here : Vl) : Sto → An Unit Empty := fun s =>
  (R.ok w_word_here s).an fun x74 s75 => .rt x74 s75
noncomputable def kt_law_word_k01_2 (dr : MF) (w_found : Vl) (w_word_here : Vl) : Sto → An Unit Empty := fun s =>
  ((rngN1 [(Vl.dat (.int 60))] s).an fun c70 s71 => lp_law_word_k01_2 dr w_found c70.ok c70.items w_word_here s71).thn fun j72 s73 => kt_law_word_k01_3 dr w_found j72 s73
noncomputable def n_law_word_k01 (dr : MF) (w_feed_here : Vl) (w_found : Vl) : Sto → An Unit Empty := fun s =>
  (R.ok (Vl.dat (.str "abcdefghijklmnopqrstuvwxyz")) s).an fun w_letters s1 =>
    (callN 2 dr [w_feed_here, (Vl.dat (.int 5))] s1).an fun w_way s2 =>
    ((callN 2 dr [w_feed_here, (Vl.dat (.int 26))] s2).bind fun x4 s5 => R.of (phIx w_letters x4 s5) s5).an fun w_word_here s3 =>
    ((((R.of (phGt w_way (Vl.dat (.int 1)) s3) s3).bind fun x6 s7 => R.of (bool? x6) s7).bind fun c8 s9 => if c8 = true then R.ok true s9 else ((R.of (lstN []) s9).bind fun x10 s11 => R.of (phEq w_found x10 s11) s11).bind fun x12 s13 => R.of (bool? x12) s13).an fun c14 s15 => if c14 = true then
    ((((callN 2 dr [w_feed_here, (Vl.dat (.int 8))] s15).bind fun x16 s17 => R.ok [x16] s17).bind fun l18 s19 => rngN1 l18 s19).an fun c25 s26 => lp_law_word_k01_1 dr w_feed_here w_found w_letters c25.ok c25.items w_word_here s26).thn fun j27 s28 => kt_law_word_k01_1 dr w_feed_here w_found w_letters j27 s28
    else
    (((((R.of (phLen [w_found] s15) s15).bind fun x30 s31 => R.ok [x30] s31).bind fun l32 s33 => R.ok (w_feed_here :: l32) s33).bind fun l34 s35 => callN 2 dr l34 s35).bind fun x36 s37 => R.of (phIx w_found x36 s37) s37).an fun w_own s29 =>
      (((R.of (phEq w_way (Vl.dat (.int 0)) s29) s29).bind fun x39 s40 => R.of (bool? x39) s40).bind fun c41 s42 => if c41 = true then ((((((R.of (phLen [w_own] s42) s42).bind fun x43 s44 => R.ok [x43] s44).bind fun l45 s46 => R.ok (w_feed_here :: l45) s46).bind fun l47 s48 => callN 2 dr l47 s48).bind fun x49 s50 => R.of (phAdd (Vl.dat (.int 1)) x49 s50) s50).bind fun x53 s54 => R.of ((int? x53).map some) s54).bind fun o51 s52 => R.of (phSl w_own none o51 s52) s52 else ((R.of ((int? (Vl.dat (.int 7))).map some) s42).bind fun o55 s56 => R.of (phSl w_own none o55 s56) s56).bind fun x57 s58 => ((callN 2 dr [w_feed_here, (Vl.dat (.int 26))] s58).bind fun x59 s60 => R.of (phIx w_letters x59 s60) s60).bind fun x61 s62 => R.of (phAdd x57 x61 s62) s62).an fun w_word_here s38 =>
      .nx w_word_here s38).thn fun j63 s64 => kt_law_word_k01_2 dr w_found j63 s64
noncomputable def r_law_word_k01 (dr : MF) : MF := runN fun xs => match xs with
  | [w_feed_here, w_found] => n_law_word_k01 dr w_feed_here w_found
  | _ => fun _ => .bad
noncomputable def G_law_word_k01 (dr : MF) : MF := frameG (r_law_word_k01 dr)
@[simp] theorem isSv_s {x : Str} : isSv (.dat (.str x)) = true := rfl
/-- a list of texts, beside a feed that draws -/
structure Fnd (w : Vl) (t : Sto) (zs : List Str) : Prop where
  len : ∀ f, phLen [w] (f :: t) = some (.dat (.int zs.length))
  isin : ∀ f x, phIn true (.dat (.str x)) w (f :: t) = some (.dat (.bool (!decide (x ∈ zs))))
  ix : ∀ f i, phIx w (.dat (.int i)) (f :: t) = (atI zs i).map fun z => Vl.dat (.str z)
  nil : ∀ f, phEq w (.dat (.list [])) (f :: t) = some (.dat (.bool zs.isEmpty))
end Pm
set_option maxRecDepth 100000
set_option maxHeartbeats 4000000
namespace Pm
open PySem PySem.Spec PyProof.Rows L2 Sw
theorem sh_txts {zs : List Str} (h : ∀ z ∈ zs, IsWord z) : SeqAt.shaped (.list (zs.map PyData.str)) = true := by
  have hf : leaf 0 (.list (zs.map PyData.str)) = true := by
    show leafAll 0 _ = true
    rw [leafAll_iff]
    intro x hx
    obtain ⟨z, hz, rfl⟩ := List.mem_map.mp hx
    exact leaf_str.mpr (h z hz).ascii
  refine sh_data hf ?_
  have : (PyData.list (zs.map PyData.str)).depth ≤ 0 + 1 := depth_list.mpr fun x hx => by
    obtain ⟨z, _, rfl⟩ := List.mem_map.mp hx
    simp [PyData.depth]
  omega
theorem fVs_txts : ∀ zs : List Str, fVs (zs.map PyData.str) = some (zs.map V.str)
  | [] => rfl
  | z :: zs => by
    show ((fV (.str z)).bind fun v => (fVs (zs.map PyData.str)).map (v :: ·)) = _
    rw [fVs_txts zs]
    rfl
theorem eqv_nil (zs : List Str) : PyData.eqv (.list (zs.map PyData.str)) (.list []) = zs.isEmpty := by cases zs <;> rfl
theorem Fnd.dat {zs : List Str} {t : Sto} (h : ∀ z ∈ zs, IsWord z) : Fnd (.dat (.list (zs.map PyData.str))) t zs := by
  refine ⟨fun f => by rw [show phLen [.dat (.list (zs.map PyData.str))] (f :: t) = some (.dat (.int (zs.map PyData.str).length)) from rfl, List.length_map], fun f x => ?_, fun f i => ?_, fun f => ?_⟩
  · show ((fVs (zs.map PyData.str)).map fun vs => Vl.dat (.bool (if true = true then !inV (.str x) vs else inV (.str x) vs))) = _
    rw [fVs_txts, Option.map_some, if_pos rfl, inV_strs]
  · show (atI (zs.map PyData.str) i).map Vl.dat = _
    rw [atI_map, Option.map_map]; rfl
  · rw [phEq_sh (sh_txts h) (show SeqAt.shaped (.list []) = true from sh_ints []), eqv_nil]
theorem Fnd.ref {zs : List Str} {t : Sto} (h : ∀ z ∈ zs, IsWord z) : Fnd (.ref 1) (.lst (zs.map fun z => Vl.dat (.str z)) :: t) zs := by
  have ed : datas (zs.map fun z => Vl.dat (.str z)) = some (zs.map PyData.str) := datas_dats zs
  refine ⟨fun f => by rw [show phLen [.ref 1] (f :: .lst (zs.map fun z => Vl.dat (.str z)) :: t) = some (.dat (.int (zs.map fun z => Vl.dat (.str z)).length)) from rfl, List.length_map], fun f x => ?_, fun f i => ?_, fun f => ?_⟩
  · show ((datas (zs.map fun z => Vl.dat (.str z))).bind fun ds => (fVs ds).map fun vs => Vl.dat (.bool (if true = true then !inV (.str x) vs else inV (.str x) vs))) = _
    rw [ed, Option.bind_some, fVs_txts, Option.map_some, if_pos rfl, inV_strs]
  · show atI (zs.map fun z => Vl.dat (.str z)) i = _
    rw [atI_map]
  · show ((datas (zs.map fun z => Vl.dat (.str z))).map PyData.list).bind _ = _
    rw [ed]
    show (if SeqAt.shaped (.list (zs.map PyData.str)) = true ∧ SeqAt.shaped (.list []) = true then some (Vl.dat (.bool (PyData.eqv (.list (zs.map PyData.str)) (.list [])))) else none) = _
    rw [if_pos ⟨sh_txts h, sh_ints []⟩, eqv_nil]
end Pm
set_option maxRecDepth 100000
set_option maxHeartbeats 4000000
namespace Pm
open PySem PySem.Spec PyProof.Rows L2 Sw
structure ObjsOk (os : List (Str × Int)) : Prop where
  pos : 0 < os.length
  few : os.length ≤ 4
  word : ∀ o ∈ os, IsWord o.1
  rise : (os.map (·.1)).Pairwise LtS
  size : ∀ o ∈ os, 1 ≤ o.2 ∧ o.2 ≤ 4
def mk_law_objects_k01_1 (w_feed_here : Vl) (w_found : Vl) : Unit → Loc := fun a => [some w_feed_here, some w_found, none, none]
noncomputable def nb_law_objects_k01_1 (dr : MF) (w_feed_here : Vl) (w_found : Vl) (w_k : Vl) : Sto → An Unit Unit := fun s =>
  (appN w_found s (fun s8 => (callN 2 (G_law_word_k01 dr) [w_feed_here, w_found] s8).bind fun x9 s10 => R.ok [x9] s10)).an fun _ s11 =>
    .nx () s11
noncomputable def lp_law_objects_k01_1 {L : Type} (dr : MF) (w_feed_here : Vl) (w_found : Vl) (ck : Sto → Prop) : List Vl → Unit → Sto → An Unit L := forN ck (mk_law_objects_k01_1 w_feed_here w_found) (fun v a s => patN (pV v) fun p => nb_law_objects_k01_1 dr w_feed_here w_found p s)
@[simp] theorem lp_law_objects_k01_1_nil {L : Type} (dr : MF) (w_feed_here : Vl) (w_found : Vl) {a : Unit} {s : Sto} : (lp_law_objects_k01_1 (L := L) dr w_feed_here w_found okT [] a s) = .nx a s := forN_nil
noncomputable def n_law_operand_k06 (dr : MF) (w_feed_here : Vl) : Sto → An Unit Empty := fun s =>
  (((((callN 2 dr [w_feed_here, (Vl.dat (.int 5))] s).bind fun x2 s3 => R.of (phSub x2 (Vl.dat (.int 1)) s3) s3).bind fun x4 s5 => (((R.of (phPow (Vl.dat (.int 10)) (Vl.dat (.int 6)) s5) s5).bind fun x6 s7 => (callN 2 dr [w_feed_here, (Vl.dat (.int 2))] s7).bind fun x8 s9 => R.of (phSub x6 x8 s9) s9).bind fun x10 s11 => (((R.of (phPow (Vl.dat (.int 10)) (Vl.dat (.int 6)) s11) s11).bind fun x12 s13 => R.of (phNeg x12 s13) s13).bind fun x14 s15 => R.ok [x14] s15).bind fun l16 s17 => R.ok (x10 :: l16) s17).bind fun l18 s19 => R.ok (x4 :: l18) s19).bind fun l20 s21 => R.of (tupN l20) s21).bind fun x22 s23 => (callN 2 dr [w_feed_here, (Vl.dat (.int 3))] s23).bind fun x24 s25 => R.of (phIx x22 x24 s25) s25).an fun w_number s1 =>
    ((R.of (tupN [w_number, w_number, (Vl.dat (.str "i")), (Vl.dat (.str "j")), (Vl.dat (.str "ij")), (Vl.dat (.str "n"))]) s1).bind fun x26 s27 => (callN 2 dr [w_feed_here, (Vl.dat (.int 6))] s27).bind fun x28 s29 => R.of (phIx x26 x28 s29) s29).an fun x30 s31 => .rt x30 s31
noncomputable def r_law_operand_k06 (dr : MF) : MF := runN fun xs => match xs with
  | [w_feed_here] => n_law_operand_k06 dr w_feed_here
  | _ => fun _ => .bad
noncomputable def G_law_operand_k06 (dr : MF) : MF := frameG (r_law_operand_k06 dr)
end Pm
set_option maxRecDepth 100000
set_option maxHeartbeats 4000000
namespace Pm
open PySem PySem.Spec PyProof.Rows L2 Sw
theorem ObjsOk.nd {os : List (Str × Int)} (h : ObjsOk os) : (os.map (·.1)).Nodup := List.Pairwise.imp (fun {a b} (hl : LtS a b) (e : a = b) => LtS.irr (a := b) (e ▸ hl)) h.rise
theorem lookup_mem {α : Type} {x : Str} : ∀ {kvs : List (Str × α)}, x ∈ kvs.map (·.1) → ∃ n, kvs.lookup x = some n ∧ (x, n) ∈ kvs
  | [], h => by cases h
  | o :: r, h => by
    rw [List.lookup_cons]
    by_cases e : x = o.1
    · subst e
      rw [beq_self_eq_true]
      exact ⟨_, rfl, List.mem_cons_self⟩
    · have : (x == o.1) = false := by rw [beq_eq_false_iff_ne]; exact e
      rw [this]
      rw [List.map_cons, List.mem_cons] at h
      obtain ⟨n, h1, h2⟩ := lookup_mem (h.resolve_left e)
      exact ⟨n, h1, List.mem_cons_of_mem _ h2⟩
noncomputable def ce_law_address_k02_1 (dr : MF)  (w_word_here : Vl) : Sto → R Vl := fun s => R.ok w_word_here s
def mk_law_address_k02_1 (w_feed_here : Vl) (w_objects_here : Vl) (w_rest : Vl) (w_some : Vl) : Unit → Loc := fun a => [some w_feed_here, some w_objects_here, none, none, none, none, some w_rest, some w_some, none, none]
noncomputable def nb_law_address_k02_1 (dr : MF) (w_feed_here : Vl) (w_objects_here : Vl) (w_rest : Vl) (w_some : Vl) (w_k : Vl) : Sto → An Unit Unit := fun s =>
  (appN w_some s (fun s21 => (if isRl w_rest s21 = true then (((((R.of (phLen [w_rest] s21) s21).bind fun x22 s23 => R.ok [x22] s23).bind fun l24 s25 => R.ok (w_feed_here :: l24) s25).bind fun l26 s27 => callN 2 dr l26 s27).bind fun x28 s29 => R.ok [x28] s29).bind fun l30 s31 => popAtN w_rest l30 s31 else .bad).bind fun x32 s33 => R.ok [x32] s33)).an fun _ s34 =>
    .nx () s34
noncomputable def lp_law_address_k02_1 {L : Type} (dr : MF) (w_feed_here : Vl) (w_objects_here : Vl) (w_rest : Vl) (w_some : Vl) (ck : Sto → Prop) : List Vl → Unit → Sto → An Unit L := forN ck (mk_law_address_k02_1 w_feed_here w_objects_here w_rest w_some) (fun v a s => patN (pV v) fun p => nb_law_address_k02_1 dr w_feed_here w_objects_here w_rest w_some p s)
@[simp] theorem lp_law_address_k02_1_nil {L : Type} (dr : MF) (w_feed_here : Vl) (w_objects_here : Vl) (w_rest : Vl) (w_some : Vl) {a : Unit} {s : Sto} : (lp_law_address_k02_1 (L := L) dr w_feed_here w_objects_here w_rest w_some okT [] a s) = .nx a s := forN_nil
noncomputable def ce_law_address_k02_2 (dr : MF) (w_objects_here : Vl) (w_word_here : Vl) : Sto → R Vl := fun s => (R.of (phDict [w_objects_here] s) s).bind fun x40 s41 => R.of (phIx x40 w_word_here s41) s41
noncomputable def kt_law_address_k02_1 (dr : MF) (w_feed_here : Vl) (w_objects_here : Vl) (w_rest : Vl) (w_some : Vl) : Sto → An Unit Empty := fun s =>
  (((lcP (R.of (src w_some s) s) pV (fun p s => R.ok true s) (fun p s => ce_law_address_k02_2 dr w_objects_here p s)).bind fun x42 s43 => R.ok [x42] s43).bind fun l44 s45 => R.of (phMin1 l44 s45) s45).an fun w_least s39 =>
    (((((((R.of (phLen [w_some] s39) s39).bind fun x47 s48 => R.ok [x47] s48).bind fun l49 s50 => R.ok (w_feed_here :: l49) s50).bind fun l51 s52 => callN 2 dr l51 s52).bind fun x53 s54 => (((R.of (tupN [(Vl.dat (.str "i")), (Vl.dat (.str "p"))]) s54).bind fun x55 s56 => (callN 2 dr [w_feed_here, (Vl.dat (.int 2))] s56).bind fun x57 s58 => R.of (phIx x55 x57 s58) s58).bind fun x59 s60 => R.ok [x59] s60).bind fun l61 s62 => R.ok (x53 :: l61) s62).bind fun l63 s64 => R.of (tupN l63) s64).bind fun x65 s66 => (callN 2 dr [w_feed_here, (Vl.dat (.int 2))] s66).bind fun x67 s68 => R.of (phIx x65 x67 s68) s68).an fun w_pick s46 =>
    ((((callN 2 dr [w_feed_here, w_least] s46).bind fun x70 s71 => (((R.of (tupN [(Vl.dat (.str "i")), (Vl.dat (.str "j"))]) s71).bind fun x72 s73 => (callN 2 dr [w_feed_here, (Vl.dat (.int 2))] s73).bind fun x74 s75 => R.of (phIx x72 x74 s75) s75).bind fun x76 s77 => R.ok [x76] s77).bind fun l78 s79 => R.ok (x70 :: l78) s79).bind fun l80 s81 => R.of (tupN l80) s81).bind fun x82 s83 => (callN 2 dr [w_feed_here, (Vl.dat (.int 2))] s83).bind fun x84 s85 => R.of (phIx x82 x84 s85) s85).an fun w_index s69 =>
    (((R.of (phTuple [w_some] s69) s69).bind fun x86 s87 => R.ok [x86, w_pick, w_index] s87).bind fun l88 s89 => R.of (tupN l88) s89).an fun x90 s91 => .rt x90 s91
noncomputable def n_law_address_k02 (dr : MF) (w_feed_here : Vl) (w_objects_here : Vl) : Sto → An Unit Empty := fun s =>
  ((lcPN (R.of (src w_objects_here s) s) (pT2 pV pV) (fun p s => R.ok true s) (fun p s => ce_law_address_k02_1 dr p.1 s)).bind fun x1 s2 => ((newN [] s2).bind fun x3 s4 => R.ok [x3] s4).bind fun l5 s6 => R.ok (x1 :: l5) s6).an fun l8 s7 => par2N l8 fun w_rest w_some =>
    ((((((((R.of (phLen [w_objects_here] s7) s7).bind fun x9 s10 => R.ok [x9] s10).bind fun l11 s12 => R.ok (w_feed_here :: l11) s12).bind fun l13 s14 => callN 2 dr l13 s14).bind fun x15 s16 => R.of (phAdd (Vl.dat (.int 1)) x15 s16) s16).bind fun x17 s18 => R.ok [x17] s18).bind fun l19 s20 => rngN1 l19 s20).an fun c35 s36 => lp_law_address_k02_1 dr w_feed_here w_objects_here w_rest w_some c35.ok c35.items () s36).thn fun j37 s38 => kt_law_address_k02_1 dr w_feed_here w_objects_here w_rest w_some  s38
noncomputable def r_law_address_k02 (dr : MF) : MF := runN fun xs => match xs with
  | [w_feed_here, w_objects_here] => n_law_address_k02 dr w_feed_here w_objects_here
  | _ => fun _ => .bad
noncomputable def G_law_address_k02 (dr : MF) : MF := frameG (r_law_address_k02 dr)
theorem app_go {n : Nat} {s s2 : Sto} {l0 l : List Vl} {w : Vl} {r : Sto → R (List Vl)} (h0 : lstAt s n = some l0) (h : r s = .ok [w] s2) (h2 : lstAt s2 n = some l) (hl : l.length ≤ 999) (hw : noX w = true) : appN (.ref n) s r = .ok (.dat .none) (s2.set n (.lst (l ++ [w]))) := by
  have h3 : l.length < mil := Nat.lt_of_lt_of_le (Nat.lt_succ_of_le hl) (th_mil (Nat.le_refl 1000))
  unfold appN
  simp only [h0, h, R.bind_ok, h2]
  rw [if_pos ⟨h3, hw⟩]
end Pm
set_option maxRecDepth 100000
set_option maxHeartbeats 4000000
namespace Pm
open PySem PySem.Spec PyProof.Rows L2 Sw
def szO (os : List (Str × Int)) (x : Str) : Int := (os.lookup x).getD 0
section
variable {dr : MF} {Fd : Nat → Ob → Prop} {os : List (Str × Int)}
theorem ObjsOk.look (ok : ObjsOk os) {x : Str} (h : x ∈ os.map (·.1)) : os.lookup x = some (szO os x) ∧ 1 ≤ szO os x ∧ szO os x ≤ 4 := by
  obtain ⟨n, h1, h2⟩ := lookup_mem h
  have := ok.size _ h2
  unfold szO
  rw [h1]
  exact ⟨rfl, this.1, this.2⟩
end
end Pm
set_option maxRecDepth 100000
set_option maxHeartbeats 4000000
namespace Pm
open PySem PySem.Spec PyProof.Rows L2 Sw
noncomputable def n_law_row_k06 (dr : MF) (w_feed_here : Vl) (w_objects_here : Vl) (w_called : Vl) : Sto → An Unit Empty := fun s =>
  ((R.of (tupN [(Vl.dat (.str "load")), (Vl.dat (.str "store")), (Vl.dat (.str "touch")), (Vl.dat (.str "set")), (Vl.dat (.str "tell")), (Vl.dat (.str "need")), (Vl.dat (.str "call"))]) s).bind fun x2 s3 => ((((((((R.of (lstN []) s3).bind fun x4 s5 => R.of (phNe w_called x4 s5) s5).bind fun x6 s7 => R.ok [x6] s7).bind fun l8 s9 => R.of (phInt l8 s9) s9).bind fun x10 s11 => R.of (phAdd (Vl.dat (.int 6)) x10 s11) s11).bind fun x12 s13 => R.ok [x12] s13).bind fun l14 s15 => R.ok (w_feed_here :: l14) s15).bind fun l16 s17 => callN 2 dr l16 s17).bind fun x18 s19 => R.of (phIx x2 x18 s19) s19).an fun w_word_here s1 =>
    (((R.of (tupN [(Vl.dat (.str "i")), (Vl.dat (.str "j")), (Vl.dat (.str "n"))]) s1).bind fun x20 s21 => (callN 2 dr [w_feed_here, (Vl.dat (.int 3))] s21).bind fun x22 s23 => R.of (phIx x20 x22 s23) s23).bind fun x24 s25 => ((callN 2 (G_law_address_k02 dr) [w_feed_here, w_objects_here] s25).bind fun x26 s27 => ((callN 1 (G_law_operand_k06 dr) [w_feed_here] s27).bind fun x28 s29 => R.ok [x28] s29).bind fun l30 s31 => R.ok (x26 :: l30) s31).bind fun l32 s33 => R.ok (x24 :: l32) s33).an fun l35 s34 => par3N l35 fun w_name w_address_here w_operand_here =>
    (((R.of (tupN [(Vl.dat (.str "+")), (Vl.dat (.str "-")), (Vl.dat (.str "*")), (Vl.dat (.str "<"))]) s34).bind fun x36 s37 => (callN 2 dr [w_feed_here, (Vl.dat (.int 4))] s37).bind fun x38 s39 => R.of (phIx x36 x38 s39) s39).bind fun x40 s41 => ((callN 1 (G_law_operand_k06 dr) [w_feed_here] s41).bind fun x42 s43 => R.ok [x42] s43).bind fun l44 s45 => R.ok (x40 :: l44) s45).an fun l47 s46 => par2N l47 fun w_sign w_other =>
    ((R.of (phEq w_word_here (Vl.dat (.str "load")) s46) s46).bind fun x48 s49 => R.of (bool? x48) s49).an fun c50 s51 => if c50 = true then
    ((R.of (tupN [w_word_here, w_name, w_address_here]) s51).an fun x52 s53 => .rt x52 s53 : An Empty _).up
    else
    ((R.of (phEq w_word_here (Vl.dat (.str "store")) s51) s51).bind fun x54 s55 => R.of (bool? x54) s55).an fun c56 s57 => if c56 = true then
    ((R.of (tupN [w_word_here, w_address_here, w_operand_here]) s57).an fun x58 s59 => .rt x58 s59 : An Empty _).up
    else
    ((R.of (phEq w_word_here (Vl.dat (.str "touch")) s57) s57).bind fun x60 s61 => R.of (bool? x60) s61).an fun c62 s63 => if c62 = true then
    ((R.of (tupN [w_word_here, w_address_here]) s63).an fun x64 s65 => .rt x64 s65 : An Empty _).up
    else
    ((R.of (phEq w_word_here (Vl.dat (.str "set")) s63) s63).bind fun x66 s67 => R.of (bool? x66) s67).an fun c68 s69 => if c68 = true then
    ((R.of (tupN [w_word_here, w_name, w_sign, w_operand_here, w_other]) s69).an fun x70 s71 => .rt x70 s71 : An Empty _).up
    else
    (((R.of (phEq w_word_here (Vl.dat (.str "call")) s69) s69).bind fun x72 s73 => R.of (bool? x72) s73).bind fun c74 s75 => if c74 = true then (((((((R.of (phLen [w_called] s75) s75).bind fun x76 s77 => R.ok [x76] s77).bind fun l78 s79 => R.ok (w_feed_here :: l78) s79).bind fun l80 s81 => callN 2 dr l80 s81).bind fun x82 s83 => R.of (phIx w_called x82 s83) s83).bind fun x84 s85 => R.ok [x84] s85).bind fun l86 s87 => R.ok (w_word_here :: l86) s87).bind fun l88 s89 => R.of (tupN l88) s89 else R.of (tupN [w_word_here, w_operand_here]) s75).an fun x90 s91 => .rt x90 s91
noncomputable def r_law_row_k06 (dr : MF) : MF := runN fun xs => match xs with
  | [w_feed_here, w_objects_here, w_called] => n_law_row_k06 dr w_feed_here w_objects_here w_called
  | _ => fun _ => .bad
noncomputable def G_law_row_k06 (dr : MF) : MF := frameG (r_law_row_k06 dr)
noncomputable def n_law_end_k06 (dr : MF) (w_feed_here : Vl) (w_many : Vl) : Sto → An Unit Empty := fun s =>
  ((callN 2 dr [w_feed_here, w_many] s).bind fun x1 s2 => ((callN 2 dr [w_feed_here, w_many] s2).bind fun x3 s4 => ((callN 1 (G_law_operand_k06 dr) [w_feed_here] s4).bind fun x5 s6 => R.ok [x5] s6).bind fun l7 s8 => R.ok (x3 :: l7) s8).bind fun l9 s10 => R.ok (x1 :: l9) s10).an fun l12 s11 => par3N l12 fun w_first w_second w_operand_here =>
    (((R.of (tupN [(Vl.dat (.str "go")), w_first]) s11).bind fun x14 s15 => ((R.of (tupN [(Vl.dat (.str "if")), w_operand_here, w_first, w_second]) s15).bind fun x16 s17 => ((R.of (tupN [(Vl.dat (.str "if")), w_operand_here, w_first, w_second]) s17).bind fun x18 s19 => ((R.of (tupN [(Vl.dat (.str "back"))]) s19).bind fun x20 s21 => R.ok [x20] s21).bind fun l22 s23 => R.ok (x18 :: l22) s23).bind fun l24 s25 => R.ok (x16 :: l24) s25).bind fun l26 s27 => R.ok (x14 :: l26) s27).bind fun l28 s29 => R.of (lstN l28) s29).an fun w_ends s13 =>
    ((callN 2 dr [w_feed_here, (Vl.dat (.int 4))] s13).bind fun x30 s31 => R.of (phIx w_ends x30 s31) s31).an fun x32 s33 => .rt x32 s33
noncomputable def r_law_end_k06 (dr : MF) : MF := runN fun xs => match xs with
  | [w_feed_here, w_many] => n_law_end_k06 dr w_feed_here w_many
  | _ => fun _ => .bad
noncomputable def G_law_end_k06 (dr : MF) : MF := frameG (r_law_end_k06 dr)
def mk_law_code_k07_1 (w_feed_here : Vl) (w_blocks : Vl) (w_rows : Vl) (w_objects_here : Vl) (w_called : Vl) : Unit → Loc := fun a => [some w_feed_here, none, some w_blocks, some w_rows, none, none, none, some w_objects_here, some w_called, none, none, none, none]
noncomputable def nb_law_code_k07_1 (dr : MF) (w_feed_here : Vl) (w_blocks : Vl) (w_rows : Vl) (w_objects_here : Vl) (w_called : Vl) (w_k : Vl) : Sto → An Unit Unit := fun s =>
  (appN w_called s (fun s13 => (((((R.of (lstN [(Vl.dat (.str "main"))]) s13).bind fun x14 s15 => R.of (phAdd w_called x14 s15) s15).bind fun x16 s17 => R.ok [x16] s17).bind fun l18 s19 => R.ok (w_feed_here :: l18) s19).bind fun l20 s21 => callN 2 (G_law_word_k01 dr) l20 s21).bind fun x22 s23 => R.ok [x22] s23)).an fun _ s24 =>
    .nx () s24
noncomputable def lp_law_code_k07_1 {L : Type} (dr : MF) (w_feed_here : Vl) (w_blocks : Vl) (w_rows : Vl) (w_objects_here : Vl) (w_called : Vl) (ck : Sto → Prop) : List Vl → Unit → Sto → An Unit L := forN ck (mk_law_code_k07_1 w_feed_here w_blocks w_rows w_objects_here w_called) (fun v a s => patN (pV v) fun p => nb_law_code_k07_1 dr w_feed_here w_blocks w_rows w_objects_here w_called p s)
@[simp] theorem lp_law_code_k07_1_nil {L : Type} (dr : MF) (w_feed_here : Vl) (w_blocks : Vl) (w_rows : Vl) (w_objects_here : Vl) (w_called : Vl) {a : Unit} {s : Sto} : (lp_law_code_k07_1 (L := L) dr w_feed_here w_blocks w_rows w_objects_here w_called okT [] a s) = .nx a s := forN_nil
def mk_law_code_k07_2 (w_feed_here : Vl) (w_blocks : Vl) (w_rows : Vl) (w_found : Vl) (w_objects_here : Vl) (w_called : Vl) : Unit → Loc := fun a => [some w_feed_here, none, some w_blocks, some w_rows, none, some w_found, none, some w_objects_here, some w_called, none, none, none, none]
def mk_law_code_k07_3 (w_feed_here : Vl) (w_blocks : Vl) (w_rows : Vl) (w_found : Vl) (w_name : Vl) (w_objects_here : Vl) (w_called : Vl) (w_many : Vl) (w_own : Vl) : Unit → Loc := fun a => [some w_feed_here, none, some w_blocks, some w_rows, none, some w_found, some w_name, some w_objects_here, some w_called, some w_many, some w_own, none, none]
noncomputable def ce_law_code_k07_1 (dr : MF) (w_feed_here : Vl) (w_objects_here : Vl) (w_called : Vl) : Sto → R Vl := fun s => callN 3 (G_law_row_k06 dr) [w_feed_here, w_objects_here, w_called] s
noncomputable def nb_law_code_k07_3 (dr : MF) (w_feed_here : Vl) (w_blocks : Vl) (w_rows : Vl) (w_found : Vl) (w_name : Vl) (w_objects_here : Vl) (w_called : Vl) (w_many : Vl) (w_own : Vl) (w_block : Vl) : Sto → An Unit Unit := fun s =>
  (lcP ((((((R.of (phAdd w_rows (Vl.dat (.int 1)) s) s).bind fun x43 s44 => R.ok [x43] s44).bind fun l45 s46 => R.ok (w_feed_here :: l45) s46).bind fun l47 s48 => callN 2 dr l47 s48).bind fun x49 s50 => R.ok [x49] s50).bind fun l51 s52 => rngN1 l51 s52) pV (fun p s => R.ok true s) (fun p s => ce_law_code_k07_1 dr w_feed_here w_objects_here w_called s)).an fun w_some s42 =>
    (appN w_own s42 (fun s53 => (((R.of (phTuple [w_some] s53) s53).bind fun x54 s55 => ((callN 2 (G_law_end_k06 dr) [w_feed_here, w_many] s55).bind fun x56 s57 => R.ok [x56] s57).bind fun l58 s59 => R.ok (x54 :: l58) s59).bind fun l60 s61 => R.of (tupN l60) s61).bind fun x62 s63 => R.ok [x62] s63)).an fun _ s64 =>
    .nx () s64
noncomputable def lp_law_code_k07_3 {L : Type} (dr : MF) (w_feed_here : Vl) (w_blocks : Vl) (w_rows : Vl) (w_found : Vl) (w_name : Vl) (w_objects_here : Vl) (w_called : Vl) (w_many : Vl) (w_own : Vl) (ck : Sto → Prop) : List Vl → Unit → Sto → An Unit L := forN ck (mk_law_code_k07_3 w_feed_here w_blocks w_rows w_found w_name w_objects_here w_called w_many w_own) (fun v a s => patN (pV v) fun p => nb_law_code_k07_3 dr w_feed_here w_blocks w_rows w_found w_name w_objects_here w_called w_many w_own p s)
@[simp] theorem lp_law_code_k07_3_nil {L : Type} (dr : MF) (w_feed_here : Vl) (w_blocks : Vl) (w_rows : Vl) (w_found : Vl) (w_name : Vl) (w_objects_here : Vl) (w_called : Vl) (w_many : Vl) (w_own : Vl) {a : Unit} {s : Sto} : (lp_law_code_k07_3 (L := L) dr w_feed_here w_blocks w_rows w_found w_name w_objects_here w_called w_many w_own okT [] a s) = .nx a s := forN_nil
noncomputable def kt_law_code_k07_2 (dr : MF) (w_feed_here : Vl) (w_blocks : Vl) (w_rows : Vl) (w_found : Vl) (w_name : Vl) (w_objects_here : Vl) (w_called : Vl) (w_many : Vl) (w_own : Vl) : Sto → An Unit Unit := fun s =>
  (appN w_found s (fun s69 => ((((R.of (phTuple [w_own] s69) s69).bind fun x70 s71 => R.ok [x70] s71).bind fun l72 s73 => R.ok (w_name :: l72) s73).bind fun l74 s75 => R.of (tupN l74) s75).bind fun x76 s77 => R.ok [x76] s77)).an fun _ s78 =>
    .nx () s78
noncomputable def nb_law_code_k07_2 (dr : MF) (w_feed_here : Vl) (w_blocks : Vl) (w_rows : Vl) (w_found : Vl) (w_objects_here : Vl) (w_called : Vl) (w_name : Vl) : Sto → An Unit Unit := fun s =>
  ((callN 2 dr [w_feed_here, w_blocks] s).bind fun x39 s40 => R.of (phAdd (Vl.dat (.int 1)) x39 s40) s40).an fun w_many s38 =>
    (newN [] s38).an fun w_own s41 =>
    ((rngN1 [w_many] s41).an fun c65 s66 => lp_law_code_k07_3 dr w_feed_here w_blocks w_rows w_found w_name w_objects_here w_called w_many w_own c65.ok c65.items () s66).thn fun j67 s68 => kt_law_code_k07_2 dr w_feed_here w_blocks w_rows w_found w_name w_objects_here w_called w_many w_own  s68
noncomputable def lp_law_code_k07_2 {L : Type} (dr : MF) (w_feed_here : Vl) (w_blocks : Vl) (w_rows : Vl) (w_found : Vl) (w_objects_here : Vl) (w_called : Vl) (ck : Sto → Prop) : List Vl → Unit → Sto → An Unit L := forN ck (mk_law_code_k07_2 w_feed_here w_blocks w_rows w_found w_objects_here w_called) (fun v a s => patN (pV v) fun p => nb_law_code_k07_2 dr w_feed_here w_blocks w_rows w_found w_objects_here w_called p s)
@[simp] theorem lp_law_code_k07_2_nil {L : Type} (dr : MF) (w_feed_here : Vl) (w_blocks : Vl) (w_rows : Vl) (w_found : Vl) (w_objects_here : Vl) (w_called : Vl) {a : Unit} {s : Sto} : (lp_law_code_k07_2 (L := L) dr w_feed_here w_blocks w_rows w_found w_objects_here w_called okT [] a s) = .nx a s := forN_nil
end Pm
set_option maxRecDepth 100000
set_option maxHeartbeats 4000000
set_option maxRecDepth 100000
set_option maxHeartbeats 4000000
namespace Pm
open PySem PySem.Spec PyProof.Rows L2 Sw
theorem atI_in {α : Type} {l : List α} {b : Int} (h0 : 0 ≤ b) (h1 : b < (l.length : Int)) : ∃ x, atI l b = some x ∧ x ∈ l := by
  obtain ⟨n, rfl⟩ : ∃ n : Nat, b = n := ⟨b.toNat, by omega⟩
  have hn : n < l.length := by omega
  exact ⟨l[n], by rw [atI_nat', List.getElem?_eq_getElem hn], List.getElem_mem hn⟩
/-- all goals of a block as they stand -/
def allB (bs : List Blk) (b : Int) : List Int := match atI bs b with
  | some k => k.fin.all
  | none => []
theorem mem_goalsB {bs : List Blk} {b k : Int} : k ∈ goalsB bs b ↔ k ∈ allB bs b := by
  unfold goalsB allB
  cases atI bs b with
  | none => exact Iff.rfl
  | some x => exact mem_risI
/-- blocks whose goals are blocks -/
def GoIn (bs : List Blk) : Prop := 0 < bs.length ∧ ∀ b ∈ bs, ∀ x ∈ b.fin.all, 0 ≤ x ∧ x < (bs.length : Int)
theorem GoIn.all {bs : List Blk} (h : GoIn bs) {b x : Int} (hx : x ∈ allB bs b) : 0 ≤ x ∧ x < (bs.length : Int) := by
  unfold allB at hx
  cases e : atI bs b with
  | none => rw [e] at hx; cases hx
  | some k =>
    rw [e] at hx
    refine h.2 k ?_ x hx
    unfold atI at e
    cases hi : ixN bs.length b with
    | none => rw [hi] at e; cases e
    | some j => rw [hi] at e; exact List.mem_of_getElem? e
/-- reached from block 0 -/
inductive Rch (bs : List Blk) : Int → Prop
  | zero : Rch bs 0
  | step {a b : Int} : Rch bs a → b ∈ allB bs a → Rch bs b
theorem Rch.in {bs : List Blk} (ok : GoIn bs) {x : Int} (h : Rch bs x) : 0 ≤ x ∧ x < (bs.length : Int) := by
  cases h with
  | zero => have := ok.1; omega
  | step _ h => exact ok.all h
theorem few_ints : ∀ {L xs : List Int}, L.Nodup → (∀ x ∈ L, x ∈ xs) → L.length ≤ xs.length
  | [], xs, _, _ => Nat.zero_le _
  | y :: L, xs, nd, h => by
    rw [List.nodup_cons] at nd
    have hy := h y List.mem_cons_self
    have := few_ints (L := L) (xs := xs.erase y) nd.2 fun x hx => (List.mem_erase_of_ne (show x ≠ y from fun e => nd.1 (e ▸ hx))).mpr (h x (List.mem_cons_of_mem _ hx))
    rw [List.length_erase_of_mem hy] at this
    have := List.length_pos_of_mem hy
    rw [List.length_cons]
    omega
theorem few_in {L : List Int} {n : Nat} (nd : L.Nodup) (h : ∀ x ∈ L, 0 ≤ x ∧ x < (n : Int)) : L.length ≤ n := by
  have := few_ints (xs := (List.range n).map fun (k : Nat) => (k : Int)) nd fun x hx => List.mem_map.mpr ⟨x.toNat, List.mem_range.mpr (by have := h x hx; omega), by have := h x hx; omega⟩
  rwa [List.length_map, List.length_range] at this
theorem srtI_rise {ns : List Int} (nd : ns.Nodup) : (srtI ns).Pairwise (· < ·) := by
  have hp := srtB_perm (le := leI) ns
  have hs : (srtI ns).Pairwise (· ≤ ·) := by
    have := srtB_srt (le := leI) (fun a b => by simp only [leI, decide_eq_true_eq]; omega) (fun a b c => by simp only [leI, decide_eq_true_eq]; omega) ns
    exact List.Pairwise.imp (fun {a b} h => of_decide_eq_true h) this
  have hn : (srtI ns).Nodup := hp.nodup_iff.mpr nd
  exact List.Pairwise.imp₂ (fun a b h1 h2 => by omega) hs hn
theorem mem_srtI {ns : List Int} {x : Int} : x ∈ srtI ns ↔ x ∈ ns := (srtB_perm (le := leI) ns).mem_iff
abbrev kvL (K : List (Int × PyData)) : Ob := .dic false (K.map fun p => (PyData.int p.1, Vl.dat p.2))
abbrev inL (T : List Int) : Ob := .lst (T.map fun x => Vl.dat (.int x))
theorem dHas_int {x : Int} : ∀ {K : List (Int × PyData)}, dHas (K.map fun p => (PyData.int p.1, Vl.dat p.2)) (.int x) = decide (x ∈ K.map (·.1))
  | [] => rfl
  | p :: K => by
    show (kEq (.int p.1) (.int x) || dHas (K.map fun p => (PyData.int p.1, Vl.dat p.2)) (.int x)) = _
    rw [dHas_int, kEq_i, List.map_cons, Bool.eq_iff_iff, Bool.or_eq_true, decide_eq_true_iff, decide_eq_true_iff, decide_eq_true_iff, List.mem_cons]
    exact or_congr (⟨fun e => e.symm, fun e => e.symm⟩) Iff.rfl
theorem dPut_int {x : Int} {d : PyData} {K : List (Int × PyData)} (h : x ∉ K.map (·.1)) : dPut (K.map fun p => (PyData.int p.1, Vl.dat p.2)) (.int x) (.dat d) = (K ++ [(x, d)]).map fun p => (PyData.int p.1, Vl.dat p.2) := by
  unfold dPut
  rw [dHas_int, if_neg (by simpa using h), List.map_append]
  rfl
theorem phIn_kv {neg : Bool} {x : Int} {K : List (Int × PyData)} {t : Sto} : phIn neg (.dat (.int x)) (.ref 0) (kvL K :: t) = some (.dat (.bool (if neg = true then !decide (x ∈ K.map (·.1)) else decide (x ∈ K.map (·.1))))) := by
  show (if kOk false (.int x) = true then some (Vl.dat (.bool (if neg = true then !dHas (K.map fun p => (PyData.int p.1, Vl.dat p.2)) (.int x) else dHas (K.map fun p => (PyData.int p.1, Vl.dat p.2)) (.int x)))) else none) = _
  rw [if_pos (show kOk false (.int x) = true from rfl), dHas_int]
def mk_led_around_1 (v_code : Vl) (v_name : Vl) (v_over : Vl) (v_ahead : Vl) (v_todo : Vl) : Unit → Loc := fun a => [some v_code, some v_name, some v_over, some v_ahead, some v_todo, none, none]
noncomputable def tb_led_around_1 (v_code : Vl) (v_name : Vl) (v_over : Vl) (v_ahead : Vl) (v_todo : Vl) : Sto → R Bool := fun s => R.of (tru v_todo s) s
def mk_led_around_2 (v_code : Vl) (v_name : Vl) (v_over : Vl) (v_ahead : Vl) (v_todo : Vl) (v_block : Vl) : Unit → Loc := fun a => [some v_code, some v_name, some v_over, some v_ahead, some v_todo, some v_block, none]
noncomputable def nb_led_around_2 (v_code : Vl) (v_name : Vl) (v_over : Vl) (v_ahead : Vl) (v_todo : Vl) (v_block : Vl) (v_goal : Vl) : Sto → An Unit Unit := fun s =>
  (((R.of (phNe v_goal v_over s) s).bind fun x12 s13 => R.of (bool? x12) s13).bind fun c14 s15 => if c14 = true then (R.of ((phIn true) v_goal v_ahead s15) s15).bind fun x16 s17 => R.of (bool? x16) s17 else R.ok false s15).an fun c18 s19 => if c18 = true then
    (R.ok v_block s19).an fun x20 s21 => stoN (subU (R.ok v_ahead s21) (fun z => R.ok v_goal z) x20) fun s22 =>
      (appN v_todo s22 (fun s23 => R.ok [v_goal] s23)).an fun _ s24 =>
      .nx () s24
    else
    .nx () s19
noncomputable def lp_led_around_2 {L : Type} (v_code : Vl) (v_name : Vl) (v_over : Vl) (v_ahead : Vl) (v_todo : Vl) (v_block : Vl) (ck : Sto → Prop) : List Vl → Unit → Sto → An Unit L := forN ck (mk_led_around_2 v_code v_name v_over v_ahead v_todo v_block) (fun v a s => patN (pV v) fun p => nb_led_around_2 v_code v_name v_over v_ahead v_todo v_block p s)
@[simp] theorem lp_led_around_2_nil {L : Type} (v_code : Vl) (v_name : Vl) (v_over : Vl) (v_ahead : Vl) (v_todo : Vl) (v_block : Vl) {a : Unit} {s : Sto} : (lp_led_around_2 (L := L) v_code v_name v_over v_ahead v_todo v_block okT [] a s) = .nx a s := forN_nil
theorem lp_led_around_2_cons {L : Type} (v_code : Vl) (v_name : Vl) (v_over : Vl) (v_ahead : Vl) (v_todo : Vl) (v_block : Vl) {v : Vl} {r : List Vl} {a : Unit} {s : Sto} : (lp_led_around_2 (L := L) v_code v_name v_over v_ahead v_todo v_block okT (v :: r) a s) = (patN (pV v) fun p => nb_led_around_2 v_code v_name v_over v_ahead v_todo v_block p s).lp (mk_led_around_2 v_code v_name v_over v_ahead v_todo v_block) s.length (lp_led_around_2 v_code v_name v_over v_ahead v_todo v_block okT r) := forN_cons
noncomputable def kt_led_around_1 (v_code : Vl) (v_name : Vl) (v_over : Vl) (v_ahead : Vl) (v_todo : Vl) (v_block : Vl) : Sto → An Unit Unit := fun s =>
  .nx () s
noncomputable def nb_led_around_1 (v_code : Vl) (v_name : Vl) (v_over : Vl) (v_ahead : Vl) (v_todo : Vl) : Sto → An Unit Unit := fun s =>
  (popN v_todo s).an fun v_block s9 =>
    (((callN 3 G_nexts [v_code, v_name, v_block] s9).bind fun x10 s11 => R.of (src x10 s11) s11).an fun c25 s26 => lp_led_around_2 v_code v_name v_over v_ahead v_todo v_block c25.ok c25.items () s26).thn fun j27 s28 => kt_led_around_1 v_code v_name v_over v_ahead v_todo v_block  s28
noncomputable def wl_led_around_1 {L : Type} (v_code : Vl) (v_name : Vl) (v_over : Vl) (v_ahead : Vl) (v_todo : Vl) : Unit → Sto → An Unit L := whl (mk_led_around_1 v_code v_name v_over v_ahead v_todo) (fun a s => tb_led_around_1 v_code v_name v_over v_ahead v_todo s) (fun a s => nb_led_around_1 v_code v_name v_over v_ahead v_todo s)
theorem wl_led_around_1_un {L : Type} (v_code : Vl) (v_name : Vl) (v_over : Vl) (v_ahead : Vl) (v_todo : Vl) {a : Unit} {s : Sto} : (wl_led_around_1 (L := L) v_code v_name v_over v_ahead v_todo a s) = (tb_led_around_1 v_code v_name v_over v_ahead v_todo s).an fun c s1 => if c = true then (nb_led_around_1 v_code v_name v_over v_ahead v_todo s1).lp (mk_led_around_1 v_code v_name v_over v_ahead v_todo) s1.length (wl_led_around_1 v_code v_name v_over v_ahead v_todo) else .nx a s1 := whl_unfold
noncomputable def kt_led_around_2 (v_code : Vl) (v_name : Vl) (v_over : Vl) (v_ahead : Vl) (v_todo : Vl) : Sto → An Unit Empty := fun s =>
  (R.ok v_ahead s).an fun x31 s32 => .rt x31 s32
noncomputable def n_led_around (v_code : Vl) (v_name : Vl) (v_over : Vl) : Sto → An Unit Empty := fun s =>
  ((R.of (phEq v_over (Vl.dat (.int 0)) s) s).bind fun x1 s2 => R.of (bool? x1) s2).an fun c3 s4 => if c3 = true then
    ((R.ok (.ref s4.length) (s4 ++ [.dic false []])).an fun x5 s6 => .rt x5 s6 : An Empty _).up
    else
    (dispN [((Vl.dat (.int 0)), (Vl.dat .none))] s4).an fun v_ahead s7 =>
    (newN [(Vl.dat (.int 0))] s7).an fun v_todo s8 =>
    (wl_led_around_1 v_code v_name v_over v_ahead v_todo () s8).thn fun j29 s30 => kt_led_around_2 v_code v_name v_over v_ahead v_todo  s30
noncomputable def r_led_around : MF := runN fun xs => match xs with
  | [v_code, v_name, v_over] => n_led_around v_code v_name v_over
  | _ => fun _ => .bad
noncomputable def G_led_around : MF := frameG (r_led_around)
noncomputable def n_reached (v_code : Vl) (v_name : Vl) : Sto → An Unit Empty := fun s =>
  (((((callN 3 G_led_around [v_code, v_name, (Vl.dat .none)] s).bind fun x1 s2 => R.ok [x1] s2).bind fun l3 s4 => R.of (phSorted l3 s4) s4).bind fun x5 s6 => R.ok [x5] s6).bind fun l7 s8 => R.of (phTuple l7 s8) s8).an fun x9 s10 => .rt x9 s10
noncomputable def r_reached : MF := runN fun xs => match xs with
  | [v_code, v_name] => n_reached v_code v_name
  | _ => fun _ => .bad
noncomputable def G_reached : MF := frameG (r_reached)
theorem goalsB_len {bs : List Blk} {b : Int} : (goalsB bs b).length ≤ 2 := by
  unfold goalsB
  cases atI bs b with
  | none => exact Nat.zero_le _
  | some k =>
    refine Nat.le_trans (risI_len _) ?_
    cases k.fin <;> simp [Endd.all]
structure LedI (bs : List Blk) (K : List (Int × PyData)) (T : List Int) : Prop where
  nd : (K.map (·.1)).Nodup
  rch : ∀ x ∈ K.map (·.1), Rch bs x
  sub : ∀ x ∈ T, x ∈ K.map (·.1)
  few : T.length ≤ K.length
  fst : (0 : Int) ∈ K.map (·.1)
  all : ∀ x ∈ K.map (·.1), x ∉ T → ∀ g ∈ allB bs x, g ∈ K.map (·.1)
theorem LedI.len {bs : List Blk} (ok : GoIn bs) {K : List (Int × PyData)} {T : List Int} (h : LedI bs K T) : K.length ≤ bs.length := by
  have := few_in h.nd fun x hx => (h.rch x hx).in ok
  rwa [List.length_map] at this
theorem nums_ints : ∀ ns : List Int, nums (ns.map PyData.int) = some ns
  | [] => rfl
  | n :: ns => by
    show (nums (ns.map PyData.int)).map (n :: ·) = _
    rw [nums_ints ns]; rfl
theorem srtD_ints {ns : List Int} (h : ns.length < 64) : srtD (ns.map PyData.int) = some (.dat (.list ((srtI ns).map .int))) := by
  unfold srtD
  rw [nums_ints]
  exact if_pos h
theorem dOf_ints {K : List (Int × PyData)} {s : Sto} : dOf (.dat (.dict (K.map fun p => (PyData.int p.1, p.2)))) s = some (false, K.map fun p => (PyData.int p.1, Vl.dat p.2)) := by
  cases K with
  | nil => rfl
  | cons p r =>
    show some (false, _) = _
    rw [List.map_cons, List.map_cons, List.map_map]
    rfl
end Pm
set_option maxRecDepth 100000
set_option maxHeartbeats 4000000
namespace Pm
open PySem PySem.Spec PyProof.Rows L2 Sw
inductive RchO (bs : List Blk) (o : Int) : Int → Prop
  | zero : o ≠ 0 → RchO bs o 0
  | step {a b : Int} : RchO bs o a → b ∈ goalsB bs a → b ≠ o → RchO bs o b
theorem RchO.in {bs : List Blk} (ok : GoIn bs) {o x : Int} (h : RchO bs o x) : 0 ≤ x ∧ x < (bs.length : Int) := by
  cases h with
  | zero _ => have := ok.1; omega
  | step _ h _ => exact ok.all (mem_goalsB.mp h)
theorem RchO.ne {bs : List Blk} {o x : Int} (h : RchO bs o x) : x ≠ o := by
  cases h with
  | zero h => exact fun e => h e.symm
  | step _ _ h => exact h
/-- a way, its last block first -/
def RP (bs : List Blk) (o : Int) : List Int → Prop
  | [] => False
  | [b] => b = 0 ∧ o ≠ 0
  | b :: a :: r => b ∈ goalsB bs a ∧ b ≠ o ∧ RP bs o (a :: r)
theorem RP.cons {bs : List Blk} {o b a : Int} {r : List Int} (h : RP bs o (a :: r)) (hb : b ∈ goalsB bs a) (ho : b ≠ o) : RP bs o (b :: a :: r) := ⟨hb, ho, h⟩
theorem RP.rch {bs : List Blk} {o : Int} : ∀ {w : List Int} {b : Int}, RP bs o (b :: w) → RchO bs o b
  | [], b, h => by obtain ⟨rfl, h⟩ := h; exact .zero h
  | a :: r, b, h => .step (RP.rch h.2.2) h.1 h.2.1
/-- the way back that a dict tells -/
inductive Up (K : List (Int × PyData)) : Int → List Int → Prop
  | zero : K.lookup 0 = some .none → Up K 0 [0]
  | step {g p : Int} {w : List Int} : K.lookup g = some (.int p) → Up K p w → Up K g (g :: w)
theorem look_app {K N : List (Int × PyData)} {g : Int} {d : PyData} (h : K.lookup g = some d) : (K ++ N).lookup g = some d := by
  rw [List.lookup_append, h]; rfl
theorem Up.app {K N : List (Int × PyData)} {x : Int} {w : List Int} (h : Up K x w) : Up (K ++ N) x w := by
  induction h with
  | zero h => exact .zero (look_app h)
  | step h _ ih => exact .step (look_app h) ih
theorem look_new : ∀ {K N : List (Int × PyData)} {g : Int} {d : PyData}, g ∉ K.map (·.1) → (K ++ (g, d) :: N).lookup g = some d
  | [], N, g, d, _ => by simp
  | p :: K, N, g, d, h => by
    rw [List.map_cons, List.mem_cons, not_or] at h
    rw [List.cons_append, List.lookup_cons, beq_eq_false_iff_ne.mpr h.1]
    exact look_new h.2
theorem Up.head {K : List (Int × PyData)} {x : Int} {w : List Int} (h : Up K x w) : ∃ r, w = x :: r := by
  cases h with
  | zero _ => exact ⟨_, rfl⟩
  | step _ _ => exact ⟨_, rfl⟩
section
variable {c nm : Vl} {o bb : Int} {K : List (Int × PyData)} {T : List Int}
theorem nb_led3 {g : Int} (hK : K.length ≤ 900) (hT : T.length ≤ 900) :
    nb_led_around_2 c nm (.dat (.int o)) (.ref 0) (.ref 1) (.dat (.int bb)) (.dat (.int g)) [kvL K, inL T] = if g = o ∨ g ∈ K.map (·.1) then .nx () [kvL K, inL T] else .nx () [kvL (K ++ [(g, .int bb)]), inL (T ++ [g])] := by
  by_cases ho : g = o
  · rw [if_pos (.inl ho)]
    simp [nb_led_around_2, ho]
  by_cases h : g ∈ K.map (·.1)
  · rw [if_pos (.inr h)]
    have hne : phNe (.dat (.int g)) (.dat (.int o)) [kvL K, inL T] = some (.dat (.bool true)) := by simp [ho]
    simp only [nb_led_around_2, hne, R.of_some, R.bind_ok, bool?_b, if_true, phIn_kv, decide_eq_true h, R.an_ok]
    simp
  · rw [if_neg (fun z => z.elim ho h)]
    have hs : subU (.ok (.ref 0) [kvL K, inL T]) (fun z => .ok (.dat (.int g)) z) (.dat (.int bb)) = some [kvL (K ++ [(g, .int bb)]), inL T] := by
      show (if kOk false (.int g) = true ∧ noX (.dat (.int bb)) = true ∧ (K.map fun p => (PyData.int p.1, Vl.dat p.2)).length < mil then some [Ob.dic false (dPut (K.map fun p => (PyData.int p.1, Vl.dat p.2)) (.int g) (.dat (.int bb))), inL T] else none) = _
      rw [if_pos ⟨rfl, rfl, by rw [List.length_map]; have := th_mil (n := 901) (by decide); omega⟩, dPut_int h]
    have ha : ∀ D, appN (.ref 1) [D, inL T] (fun s => R.ok [.dat (.int g)] s) = .ok (.dat .none) [D, inL (T ++ [g])] := fun D => by
      rw [app_go (n := 1) (l0 := T.map fun x => .dat (.int x)) (l := T.map fun x => .dat (.int x)) (w := .dat (.int g)) (s2 := [D, inL T]) rfl rfl rfl (by rw [List.length_map]; omega) rfl]
      show R.ok _ [D, .lst ((T.map fun x => Vl.dat (.int x)) ++ [.dat (.int g)])] = _
      rw [inL, List.map_append]
      rfl
    have hne : phNe (.dat (.int g)) (.dat (.int o)) [kvL K, inL T] = some (.dat (.bool true)) := by simp [ho]
    simp only [nb_led_around_2, hne, R.of_some, R.bind_ok, bool?_b, if_true, phIn_kv, decide_eq_false h, R.an_ok, Bool.not_false, hs, stoN_some, ha]
end
/-- what the goals of a block bring -/
theorem lp_led3 {c nm : Vl} {o bb : Int} {L : Type} : ∀ (gs : List Int) (K : List (Int × PyData)) (T : List Int), K.length + gs.length ≤ 900 → T.length + gs.length ≤ 900 → (K.map (·.1)).Nodup →
    ∃ N : List Int, (lp_led_around_2 (L := L) c nm (.dat (.int o)) (.ref 0) (.ref 1) (.dat (.int bb)) okT (gs.map fun g => .dat (.int g)) () [kvL K, inL T]) = .nx () [kvL (K ++ N.map fun g => (g, .int bb)), inL (T ++ N)] ∧ (K.map (·.1) ++ N).Nodup ∧ (∀ x ∈ N, x ∈ gs ∧ x ≠ o) ∧ ∀ g ∈ gs, g ≠ o → g ∈ K.map (·.1) ++ N
  | [], K, T, _, _, nd => ⟨[], by rw [List.map_nil, lp_led_around_2_nil, List.append_nil, List.map_nil, List.append_nil], by rw [List.append_nil]; exact nd, (fun x h => by cases h), fun x h => by cases h⟩
  | g :: gs, K, T, hK, hT, nd => by
    rw [List.length_cons] at hK hT
    have hb := nb_led3 (c := c) (nm := nm) (o := o) (bb := bb) (K := K) (T := T) (g := g) (by omega) (by omega)
    by_cases h : g = o ∨ g ∈ K.map (·.1)
    · rw [if_pos h] at hb
      obtain ⟨N, e1, e3, e4, e5⟩ := lp_led3 (L := L) gs K T (by omega) (by omega) nd
      refine ⟨N, ?_, e3, fun x hx => ⟨List.mem_cons_of_mem _ (e4 x hx).1, (e4 x hx).2⟩, fun x hx ho => ?_⟩
      · rw [List.map_cons, lp_led_around_2_cons, pV_ap, patN_some, hb, lp_nx, tidy_same (by simp), e1]
      · rcases List.mem_cons.mp hx with rfl | hx
        · exact List.mem_append_left _ (h.resolve_left ho)
        · exact e5 x hx ho
    · rw [if_neg h] at hb
      rw [not_or] at h
      have em : (K ++ [(g, PyData.int bb)]).map (·.1) = K.map (·.1) ++ [g] := by rw [List.map_append]; rfl
      obtain ⟨N, e1, e3, e4, e5⟩ := lp_led3 (o := o) (L := L) gs (K ++ [(g, .int bb)]) (T ++ [g]) (by rw [List.length_append, List.length_singleton]; omega) (by rw [List.length_append, List.length_singleton]; omega) (by
        rw [em, List.nodup_append]
        refine ⟨nd, by simp, fun a ha b hb => ?_⟩
        have : b = g := by simpa using hb
        intro e; exact h.2 (by rw [← this, ← e]; exact ha))
      rw [em] at e3 e5
      refine ⟨g :: N, ?_, by rw [List.append_assoc] at e3; exact e3, fun x hx => ?_, fun x hx ho => ?_⟩
      · rw [List.map_cons, lp_led_around_2_cons, pV_ap, patN_some, hb, lp_nx, tidy_same (by simp), e1, List.append_assoc, List.append_assoc]
        rfl
      · rcases List.mem_cons.mp hx with rfl | hx
        · exact ⟨List.mem_cons_self, h.1⟩
        · exact ⟨List.mem_cons_of_mem _ (e4 x hx).1, (e4 x hx).2⟩
      · have e5 := fun x hx ho => (List.append_assoc _ _ _ ▸ e5 x hx ho : x ∈ K.map (·.1) ++ ([g] ++ N))
        rcases List.mem_cons.mp hx with rfl | hx
        · exact List.mem_append_right _ List.mem_cons_self
        · exact e5 x hx ho
structure LedO (bs : List Blk) (o : Int) (K : List (Int × PyData)) (T : List Int) : Prop where
  nd : (K.map (·.1)).Nodup
  sub : ∀ x ∈ T, x ∈ K.map (·.1)
  few : T.length ≤ K.length
  fst : (0 : Int) ∈ K.map (·.1)
  all : ∀ x ∈ K.map (·.1), x ∉ T → ∀ g ∈ goalsB bs x, g ≠ o → g ∈ K.map (·.1)
  up : ∀ x ∈ K.map (·.1), ∃ w, Up K x w ∧ RP bs o w ∧ w.Nodup ∧ ∀ y ∈ w, y ∈ K.map (·.1)
theorem LedO.rch {bs : List Blk} {o : Int} {K : List (Int × PyData)} {T : List Int} (h : LedO bs o K T) {x : Int} (hx : x ∈ K.map (·.1)) : RchO bs o x := by
  obtain ⟨w, hu, hp, _⟩ := h.up x hx
  obtain ⟨r, rfl⟩ := hu.head
  exact hp.rch
theorem LedO.len {bs : List Blk} (ok : GoIn bs) {o : Int} {K : List (Int × PyData)} {T : List Int} (h : LedO bs o K T) : K.length ≤ bs.length := by
  have := few_in h.nd fun x hx => (h.rch hx).in ok
  rwa [List.length_map] at this
theorem wl_led3 {c : Cod} {nm : Str} {bs : List Blk} {o : Int} (hc : c.rts.lookup nm = some bs) (ok : GoIn bs) (few : bs.length ≤ 60) {L : Type} : ∀ (m : Nat) (K : List (Int × PyData)) (T : List Int), LedO bs o K T → 2 * (bs.length - K.length) + T.length ≤ m →
    ∃ K', (wl_led_around_1 (L := L) (.dat c.d) (.dat (.str nm)) (.dat (.int o)) (.ref 0) (.ref 1) () [kvL K, inL T]) = .nx () [kvL K', inL []] ∧ LedO bs o K' [] := by
  intro m
  induction m with
  | zero =>
    intro K T h hm
    have hT : T = [] := List.eq_nil_of_length_eq_zero (by omega)
    subst hT
    refine ⟨K, ?_, h⟩
    rw [wl_led_around_1_un]
    simp [tb_led_around_1, tru]
  | succ m ih =>
    intro K T h hm
    rcases List.eq_nil_or_concat T with rfl | ⟨T0, b, rfl⟩
    · refine ⟨K, ?_, h⟩
      rw [wl_led_around_1_un]
      simp [tb_led_around_1, tru]
    · rw [List.concat_eq_append] at h hm ⊢
      have hl := h.len ok
      have hbk := h.sub b (by simp)
      have hbi := (h.rch hbk).in ok
      obtain ⟨x, hx, _⟩ := atI_in hbi.1 hbi.2
      have eg : goalsB bs b = x.fin.goals := by unfold goalsB; rw [hx]
      have hg2 := goalsB_len (bs := bs) (b := b)
      have hfew := h.few
      rw [List.length_append, List.length_singleton] at hfew hm
      obtain ⟨N, e1, e3, e4, e5⟩ := lp_led3 (c := .dat c.d) (nm := .dat (.str nm)) (o := o) (bb := b) (L := Unit) (goalsB bs b) K T0 (by omega) (by omega) h.nd
      have e2 : (K ++ N.map fun g => (g, PyData.int b)).map (·.1) = K.map (·.1) ++ N := by
        rw [List.map_append, List.map_map]
        congr 1
        exact List.map_id _
      obtain ⟨wb, ub, pb, nb, sb⟩ := h.up b hbk
      obtain ⟨rb, rfl⟩ := ub.head
      have I' : LedO bs o (K ++ N.map fun g => (g, .int b)) (T0 ++ N) := by
        refine ⟨by rw [e2]; exact e3, fun y hy => ?_, by rw [List.length_append, List.length_append, List.length_map]; omega, by rw [e2]; exact List.mem_append_left _ h.fst, fun y hy hn g hg ho => ?_, fun y hy => ?_⟩
        · rw [e2]
          rcases List.mem_append.mp hy with hy | hy
          · exact List.mem_append_left _ (h.sub y (List.mem_append_left _ hy))
          · exact List.mem_append_right _ hy
        · rw [e2] at hy ⊢
          by_cases hyb : y = b
          · subst hyb
            exact e5 g hg ho
          · rcases List.mem_append.mp hy with hy | hy
            · refine List.mem_append_left _ (h.all y hy (fun hm => ?_) g hg ho)
              rcases List.mem_append.mp hm with hm | hm
              · exact hn (List.mem_append_left _ hm)
              · exact hyb (by simpa using hm)
            · exact absurd (List.mem_append_right _ hy) hn
        · rw [e2] at hy ⊢
          rcases List.mem_append.mp hy with hy | hy
          · obtain ⟨w, hu, hp, hn, hs⟩ := h.up y hy
            exact ⟨w, hu.app, hp, hn, fun z hz => List.mem_append_left _ (hs z hz)⟩
          · have hyK : y ∉ K.map (·.1) := fun z => (List.nodup_append.mp e3).2.2 y z y hy rfl
            have ly : (K ++ N.map fun g => (g, PyData.int b)).lookup y = some (.int b) := by
              obtain ⟨N1, N2, rfl⟩ := List.append_of_mem hy
              have nn := (List.nodup_append.mp e3).2.1
              rw [List.map_append, List.map_cons, ← List.append_assoc]
              refine look_new fun z => ?_
              rw [List.map_append, List.map_map] at z
              rcases List.mem_append.mp z with z | z
              · exact hyK z
              · have z : y ∈ N1 := by
                  have := List.map_id N1
                  obtain ⟨q, hq, rfl⟩ := List.mem_map.mp z
                  exact hq
                exact (List.nodup_append.mp nn).2.2 y z y List.mem_cons_self rfl
            refine ⟨y :: b :: rb, .step ly ub.app, pb.cons (e4 y hy).1 (e4 y hy).2, List.nodup_cons.mpr ⟨fun z => hyK (sb y z), nb⟩, fun z hz => ?_⟩
            rcases List.mem_cons.mp hz with rfl | hz
            · exact List.mem_append_right _ hy
            · exact List.mem_append_left _ (sb z hz)
      have hl' := I'.len ok
      rw [List.length_append, List.length_map] at hl'
      obtain ⟨K2, f1, f2⟩ := ih _ (T0 ++ N) I' (by rw [List.length_append, List.length_append, List.length_map]; omega)
      refine ⟨K2, ?_, f2⟩
      have hp : popN (.ref 1) [kvL K, inL (T0 ++ [b])] = .ok (.dat (.int b)) [kvL K, inL T0] := by
        have em : (T0 ++ [b]).map (fun x => Vl.dat (.int x)) = T0.map (fun x => Vl.dat (.int x)) ++ [.dat (.int b)] := by rw [List.map_append]; rfl
        show (match ((T0 ++ [b]).map fun x => Vl.dat (.int x))[((T0 ++ [b]).map fun x => Vl.dat (.int x)).length - 1]? with
          | some y => R.ok y [kvL K, .lst ((T0 ++ [b]).map fun x => Vl.dat (.int x)).dropLast]
          | none => .bad) = _
        rw [em, List.length_append, List.length_singleton, Nat.add_sub_cancel, List.dropLast_concat]
        rw [List.getElem?_append_right (Nat.le_refl _), Nat.sub_self]
        rfl
      have hbody : nb_led_around_1 (.dat c.d) (.dat (.str nm)) (.dat (.int o)) (.ref 0) (.ref 1) [kvL K, inL (T0 ++ [b])] = .nx () [kvL (K ++ N.map fun g => (g, .int b)), inL (T0 ++ N)] := by
        refine wp_of (Q := fun z => z = _) ?_
        simp only [nb_led_around_1]
        refine wp_an hp ?_
        refine wp_thn (a := ()) (s := [kvL (K ++ N.map fun g => (g, PyData.int b)), inL (T0 ++ N)]) ?_ rfl
        have em : (x.fin.goals.map PyData.int).map Vl.dat = (goalsB bs b).map fun g => Vl.dat (.int g) := by rw [eg, List.map_map]; rfl
        simp only [callN_ap, List.length_cons, List.length_nil, List.all_cons, List.all_nil, noX, Bool.and_self, and_self, if_true, G_nexts_eq hc hx, R.bind_ok, intsD, src, R.of_some, em, R.an_ok, src_ok_none]
        exact e1
      rw [wl_led_around_1_un]
      have ht : tru (.ref 1) [kvL K, inL (T0 ++ [b])] = some true := by
        show some (!((T0 ++ [b]).map fun x => Vl.dat (.int x)).isEmpty) = _
        rw [List.map_append]
        cases T0 <;> rfl
      simp only [tb_led_around_1, ht, R.of_some, R.an_ok, if_true, hbody, lp_nx]
      rw [tidy_same (by simp), f1]
/-- what the program finds -/
structure LedF (bs : List Blk) (o : Int) (K : List (Int × PyData)) : Prop where
  nd : (K.map (·.1)).Nodup
  mem : ∀ x, x ∈ K.map (·.1) ↔ RchO bs o x
  up : ∀ x ∈ K.map (·.1), ∃ w, Up K x w ∧ RP bs o w ∧ w.Nodup
abbrev kvD (K : List (Int × PyData)) : PyData := .dict (K.map fun p => (PyData.int p.1, p.2))
theorem frame_kv {g : MF} {xs : List Vl} {K : List (Int × PyData)} {m : Nat} {st : Sto} (hx : refsOf xs = []) (hr : renam 0 xs = xs) (h : g xs [] = .ok (.ref m) st) (hm : st[m]? = some (kvL K)) (s : Sto) : frameG g xs s = .ok (.dat (kvD K)) s := by
  unfold frameG
  rw [hx, if_pos List.nodup_nil]
  simp only [pickS]
  rw [if_pos (show stoOk 0 [] from trivial), hr, h]
  simp only []
  rw [if_pos ⟨Nat.zero_le _, trivial⟩]
  unfold frV
  simp only [List.length_nil]
  rw [if_neg (Nat.not_lt_zero _), deep_dic (ds := K.map fun p => (PyData.int p.1, p.2)) (by
    rw [hm, List.map_map]
    rfl) (Nat.not_lt_zero _), putB_nil]
  rfl
theorem G_led3_eq {c : Cod} {nm : Str} {bs : List Blk} (hc : c.rts.lookup nm = some bs) (ok : GoIn bs) (few : bs.length ≤ 60) (o : Int) : ∃ K, LedF bs o K ∧ ∀ s, G_led_around [.dat c.d, .dat (.str nm), .dat (.int o)] s = .ok (.dat (kvD K)) s := by
  by_cases h0 : o = 0
  · subst h0
    refine ⟨[], ⟨List.nodup_nil, fun x => ⟨fun h => (by cases h), fun h => ?_⟩, fun x h => by cases h⟩, fun s => frame_kv (m := 0) (st := [kvL []]) rfl rfl ?_ rfl s⟩
    · exfalso
      induction h with
      | zero h => exact h rfl
      | step _ _ _ ih => exact ih
    · rw [r_led_around, runN_ap]
      simp [n_led_around]
  · obtain ⟨K, h, I⟩ := wl_led3 hc ok few (o := o) (L := Empty) (2 * bs.length + 1) [(0, .none)] [0] ⟨by simp, fun x hx => by simpa using hx, Nat.le_refl _, by simp, fun x hx hn => absurd (by simpa using hx) (by simpa using hn), fun x hx => by
      have : x = 0 := by simpa using hx
      subst this
      exact ⟨[0], .zero rfl, ⟨rfl, h0⟩, by simp, fun y hy => hy⟩⟩ (by simp only [List.length_cons, List.length_nil]; omega)
    refine ⟨K, ⟨I.nd, fun x => ⟨I.rch, fun hx => ?_⟩, fun x hx => ?_⟩, fun s => frame_kv (m := 0) (st := [kvL K, inL []]) rfl rfl ?_ rfl s⟩
    · induction hx with
      | zero _ => exact I.fst
      | step _ hg ho ih => exact I.all _ ih (by simp) _ hg ho
    · obtain ⟨w, hu, hp, hn, _⟩ := I.up x hx
      exact ⟨w, hu, hp, hn⟩
    · rw [r_led_around, runN_ap]
      refine wp_of (Q := fun z => An.fin z = _) ?_
      simp only [n_led_around]
      refine wp_if (b := false) (s := []) (by simp [h0]) ?_
      rw [if_neg (by decide)]
      refine wp_an (a := .ref 0) (s := [kvL [(0, .none)]]) rfl ?_
      refine wp_an (a := .ref 1) (s := [kvL [(0, .none)], inL [0]]) (by simp) ?_
      refine wp_thn h ?_
      simp [Wp, kt_led_around_2]
end Pm
set_option maxRecDepth 100000
set_option maxHeartbeats 4000000
namespace Pm
open PySem PySem.Spec PyProof.Rows L2 Sw
section
variable {X : Cx} {zx : Exo} {W : WX} {pos : Pos} {e : Expr} {es : List Expr} {f : ME} {r : MA}
theorem PK.imp {X : Cx} {es : List Keyword} {t t' : TA} (h : PK X es t) (i : ∀ σ H Q, t' σ H Q → t σ H Q) : PK X es t' := ⟨fun p pins s σ H Q I q => h.run p pins s σ H Q I (i σ H Q q)⟩
end
end Pm
set_option maxRecDepth 100000
set_option maxHeartbeats 4000000
set_option maxRecDepth 100000
set_option maxHeartbeats 4000000
namespace Sw
open PySem PySem.Spec PyProof.Rows L2
end Sw
set_option maxRecDepth 100000
set_option maxHeartbeats 4000000
set_option maxRecDepth 100000
set_option maxHeartbeats 4000000
set_option maxRecDepth 100000
set_option maxHeartbeats 4000000
namespace Pm
open PySem PySem.Spec PyProof.Rows L2 Sw
section
variable {X : Cx} {zx : Exo} {W : WX} {e : Expr} {f : ME} {pos : Pos}
def phRev (v : Vl) (s : Sto) : Option Vl := (lsD v s).bind fun ds => if ds.length ≤ mil then some (.dat (.list ds.reverse)) else none
theorem DqAll.app2 {K : PySem.W.Frag} {H : Hp} {β : Bs} : ∀ {xs ys : List V} {ds es : List PyData}, DqAll K H β xs ds → DqAll K H β ys es → DqAll K H β (xs ++ ys) (ds ++ es)
  | _, _, _, _, .nil, h => h
  | _, _, _, _, .cons a t, h => .cons a (DqAll.app2 t h)
theorem DqAll.rev2 {K : PySem.W.Frag} {H : Hp} {β : Bs} : ∀ {xs : List V} {ds : List PyData}, DqAll K H β xs ds → DqAll K H β xs.reverse ds.reverse
  | _, _, .nil => .nil
  | _, _, .cons a t => by
    rw [List.reverse_cons, List.reverse_cons]
    exact DqAll.app2 (DqAll.rev2 t) (.cons a .nil)
theorem de_rev {k : Nat} {p1 p2 p3 : Pos} (he : DE X zx W e f) : DE X zx W (.Subscript e (.Slice none none (some (.UnaryOp .USub (.Constant (.int 1) k p1) p2)) p3) pos) (m1 phRev f) := PE.imp (pe_revL he) fun σ H Q ⟨β, ρ, s, hl, hs, hp⟩ => by
  refine ⟨β, ρ, s, hl, hs, Post.bind hp fun v s1 β1 H1 u st1 hs1 r1 h1 => ?_⟩
  obtain ⟨z, ez, q⟩ := post_of h1 hs1
  obtain ⟨ds, e1, e2⟩ := Option.bind_eq_some_iff.mp ez
  have e2 : (if ds.length ≤ mil then some (Vl.dat (.list ds.reverse)) else none) = some z := e2
  split at e2
  · rename_i hlen
    cases e2
    obtain ⟨a, xs, rfl, hx, dq⟩ := lsD_at hs1 r1 e1
    exact ⟨a, xs, rfl, SqL.of hx, fun p hp => q _ _ (same_new hp) (Dq.lst ⟨upd_same, hs1.nin hp, hs1.nig hp⟩ (by rw [List.length_reverse]; exact mil_le hlen) ((Step.lay hp).dqs (DqAll.rev2 dq)))⟩
  · cases e2
end
end Pm
set_option maxRecDepth 100000
set_option maxHeartbeats 4000000
set_option maxRecDepth 100000
set_option maxHeartbeats 4000000
namespace Pm
open PySem PySem.Spec PyProof.Rows L2 Sw
def inC (r : R (List Vl)) (k : List Vl → Sto → R (List Vl)) : R (List Vl) := match r with
  | .ok a s => k a s
  | _ => .bad
@[simp] theorem inC_ok {a : List Vl} {s : Sto} {k : List Vl → Sto → R (List Vl)} : inC (.ok a s) k = k a s := rfl
@[simp] theorem inC_bad {k : List Vl → Sto → R (List Vl)} : inC .bad k = .bad := rfl
end Pm
set_option maxRecDepth 100000
set_option maxHeartbeats 4000000
set_option maxRecDepth 100000
set_option maxHeartbeats 4000000
set_option maxRecDepth 100000
set_option maxHeartbeats 4000000
namespace Pm
open PySem PySem.Spec PyProof.Rows L2 Sw
def phKin (neg : Bool) (ks : List (Str × PyData)) : Vl → Sto → Option Vl
  | .dat (.str z), _ => some (.dat (.bool (if neg = true then !(ks.lookup z).isSome else (ks.lookup z).isSome)))
  | _, _ => none
def phKix (ks : List (Str × PyData)) : Vl → Sto → Option Vl
  | .dat (.str z), _ => (ks.lookup z).map .dat
  | _, _ => none
@[simp] theorem phKin_s {neg : Bool} {ks : List (Str × PyData)} {z : Str} {s : Sto} : phKin neg ks (.dat (.str z)) s = some (.dat (.bool (if neg = true then !(ks.lookup z).isSome else (ks.lookup z).isSome))) := rfl
@[simp] theorem phKix_s {ks : List (Str × PyData)} {z : Str} {s : Sto} : phKix ks (.dat (.str z)) s = (ks.lookup z).map .dat := rfl
end Pm
set_option maxRecDepth 100000
set_option maxHeartbeats 4000000
namespace Pm
open PySem PySem.Spec PyProof.Rows L2 Sw
def phInD (neg : Bool) : Vl → Vl → Sto → Option Vl
  | .dat x, c, s => match dOf c s with
    | some (t, kvs) => if kOk t x = true then some (.dat (.bool (if neg = true then !dHas kvs x else dHas kvs x))) else none
    | none => (seqD c s).bind fun ds => if x.depth ≤ 60 ∧ SeqAt.shaped x = true ∧ SeqAt.shaped (.list ds) = true then some (.dat (.bool (if neg = true then !ds.any (fun z => PyData.eqv z x) else ds.any fun z => PyData.eqv z x))) else none
  | _, _, _ => none
theorem noDict_shs {ds : List PyData} (h : SeqAt.shaped (.list ds) = true) : PyData.hasDictAll ds = false := by
  have := noDict_sh h
  simpa [PyData.hasDict] using this
section
variable {X : Cx} {zx : Exo}
theorem inD_key {neg : Bool} {H : Hp} {x y : V} {Q : VK} (h : r2 (cf X zx) (phInD neg) x y H Q) : (∃ d ds, Dp X.K H x d ∧ (Dp X.K H y (.list ds) ∨ Dp X.K H y (.tuple ds)) ∧ d.depth ≤ 60 ∧ SeqAt.shaped d = true ∧ SeqAt.shaped (.list ds) = true ∧ Q (.bl (if neg = true then !ds.any (fun z => PyData.eqv z d) else ds.any fun z => PyData.eqv z d)) H) ∨ ∃ a o, y = .ref a ∧ DGet H a x o ∧ Q (.bl (if neg = true then !o.isSome else o.isSome)) H := by
  obtain ⟨β, st, a, b, z, hs, ra, rb, e, q⟩ := h
  cases a with
  | ref n => cases e
  | scr n => cases e
  | exo _ _ => cases e
  | fn _ => cases e
  | lam _ _ _ _ _ => cases e
  | dat x =>
    have e : (match dOf b st with
      | some (t, kvs) => if kOk t x = true then some (Vl.dat (.bool (if neg = true then !dHas kvs x else dHas kvs x))) else none
      | none => (seqD b st).bind fun ds => if x.depth ≤ 60 ∧ SeqAt.shaped x = true ∧ SeqAt.shaped (.list ds) = true then some (Vl.dat (.bool (if neg = true then !ds.any (fun z => PyData.eqv z x) else ds.any fun z => PyData.eqv z x))) else none) = some z := e
    split at e
    · rename_i t kvs ed
      split at e
      · rename_i hk
        cases e
        obtain ⟨a, rfl, da⟩ := dOf_at hs rb ed
        obtain ⟨o, g, l⟩ := da.get ra hk
        refine .inr ⟨a, o, rfl, g, ?_⟩
        have eo : o.isSome = dHas kvs x := by
          rw [dHas_look]
          rcases l with ⟨h1, h2⟩ | ⟨w, v, h1, h2, _⟩ <;> rw [h1, h2] <;> rfl
        rw [eo]
        exact q H _ (Same.refl H) (.bl _)
      · cases e
    · refine .inl ?_
      obtain ⟨ds, e2, e3⟩ := Option.bind_eq_some_iff.mp e
      split at e3
      · rename_i hc
        cases e3
        obtain ⟨p, xs, rfl, h1, h2, _⟩ := seqD_at hs rb e2
        have dd := DqAll.dp (noDict_shs hc.2.2) h2
        exact ⟨x, ds, Dq.dp (noDict_sh hc.2.1) ra, h1.imp (fun h => .lst h dd) (fun h => .tup h.sqt dd), hc.1, hc.2.1, hc.2.2, q H _ (Same.refl H) (.bl _)⟩
      · cases e3
theorem mo_inD (hu : X.A.units + 64 < cLine) : OpR X (compareOp .In) (r2 (cf X zx) (phInD false)) := fun pins s σ H x y v u Q I rx ry h => by
  rcases inD_key h with ⟨d, ds, hd, hc, h1, h2, h3, q⟩ | ⟨a, o, rfl, g, q⟩
  · obtain ⟨as, r1⟩ := Dp.reads I d x v hd rx
    have hr : X.A.units + 1 + min (PyData.depthAll ds) d.depth < cLine := by have := Nat.min_le_right (PyData.depthAll ds) d.depth; omega
    rcases hc with hc | hc
    · obtain ⟨bs, r2⟩ := Dp.reads I (.list ds) y u hc ry
      exact SeqAt.in_list_reads r2 r1 (SeqAt.canLay_of_shaped h3) (SeqAt.canLay_of_shaped h2) hr ⟨.bl _, H, I, rfl, q⟩
    · obtain ⟨bs, r2⟩ := Dp.reads I (.tuple ds) y u hc ry
      exact SeqAt.in_tuple_reads r2 r1 (SeqAt.canLay_of_shaped h3) (SeqAt.canLay_of_shaped h2) hr ⟨.bl _, H, I, rfl, q⟩
  · cases (show u = Value.ref a from ry)
    exact d_in (by omega) I g rx fun s' I' => ⟨.bl o.isSome, H, I', rfl, q⟩
end
end Pm
set_option maxRecDepth 100000
set_option maxHeartbeats 4000000
set_option maxRecDepth 100000
set_option maxHeartbeats 4000000
set_option maxRecDepth 100000
set_option maxHeartbeats 4000000
namespace Pm
open PySem PySem.Spec PyProof.Rows L2 Sw
def okN (r : R Vl) : R Vl := match r with
  | .ok v s => .ok v s
  | _ => .bad
@[simp] theorem okN_ok {v : Vl} {s : Sto} : okN (.ok v s) = .ok v s := rfl
end Pm
set_option maxRecDepth 100000
set_option maxHeartbeats 4000000
set_option maxRecDepth 100000
set_option maxHeartbeats 4000000
set_option maxRecDepth 100000
set_option maxHeartbeats 4000000
set_option maxRecDepth 100000
set_option maxHeartbeats 4000000
namespace Pm
open PySem PySem.Spec PyProof.Rows L2 Sw
section
variable {X : Cx} {zx : Exo} {W : WX} {k : Nat} {f : Addr} {fd : FuncData} {ps : List Str} {g : MF} {x : Str} {p pos : Pos} {e : Expr} {es : List Expr} {r : MA}
theorem Rvs.app {G : Cf} {H : Hp} {β : Bs} : ∀ {vs ws : List Vl} {us us' : List V}, Rvs G H β vs us → Rvs G H β ws us' → Rvs G H β (vs ++ ws) (us ++ us')
  | _, _, _, _, .nil, h => h
  | _, _, _, _, .cons h t, h2 => .cons h (Rvs.app t h2)
end
def par4N {S L : Type} (vs : List Vl) (k : Vl → Vl → Vl → Vl → An S L) : An S L := match vs with
  | [v, w, u, t] => k v w u t
  | _ => .bad
@[simp] theorem par4N_ap {S L : Type} {v w u t : Vl} (k : Vl → Vl → Vl → Vl → An S L) : par4N [v, w, u, t] k = k v w u t := rfl
end Pm
set_option maxRecDepth 100000
set_option maxHeartbeats 4000000
set_option maxRecDepth 100000
set_option maxHeartbeats 4000000
set_option maxRecDepth 100000
set_option maxHeartbeats 4000000
set_option maxRecDepth 100000
set_option maxHeartbeats 4000000
set_option maxRecDepth 100000
set_option maxHeartbeats 4000000
set_option maxRecDepth 100000
set_option maxHeartbeats 4000000
namespace Sw.RevN
open PySem PySem.Spec PyProof.Rows L2
end Sw.RevN
set_option maxRecDepth 100000
set_option maxHeartbeats 4000000
set_option maxRecDepth 100000
set_option maxHeartbeats 4000000
set_option maxRecDepth 100000
set_option maxHeartbeats 4000000
namespace Sw.RevN
open PySem PySem.Spec PyProof.Rows L2
end Sw.RevN
set_option maxRecDepth 100000
set_option maxHeartbeats 4000000
set_option maxRecDepth 100000
set_option maxHeartbeats 4000000
namespace Pm
open PySem PySem.Spec PyProof.Rows L2 Sw
/-- what is known of a def that is a value -/
structure AskF (X : Cx) (n : Nat) (x : Str) (g : MF) : Prop where
  ex : ∃ (k : Nat) (f : Addr) (fd : FuncData) (ps : List Str), FnD X.prog X.w X.K X.mg X.base k f fd ps g ∧ Room k X.A ∧ Binds X.K fd ps [] ∧ X.mg x = some (.ref f) ∧ PySem.W.keepIn X.K (.ref f) = true ∧ ps.length = n
def AskT (X : Cx) (n : Nat) : List (Str × MF) → Prop
  | [] => True
  | p :: r => AskF X n p.1 p.2 ∧ AskT X n r
theorem AskT.at' {X : Cx} {n : Nat} {x : Str} {g : MF} : ∀ {tbl : List (Str × MF)}, AskT X n tbl → tbl.lookup x = some g → AskF X n x g
  | p :: r, h, e => by
    rw [List.lookup_cons] at e
    by_cases q : x = p.1
    · rw [q, beq_self_eq_true] at e
      cases e
      rw [q]
      exact h.1
    · rw [beq_eq_false_iff_ne.mpr q] at e
      exact AskT.at' h.2 e
end Pm
set_option maxRecDepth 100000
set_option maxHeartbeats 4000000
set_option maxRecDepth 100000
set_option maxHeartbeats 4000000
set_option maxRecDepth 100000
set_option maxHeartbeats 4000000
set_option maxRecDepth 100000
set_option maxHeartbeats 4000000
namespace Pm
open PySem PySem.Spec PyProof.Rows L2 Sw
def cap1 : Option Vl → Option (PyData ⊕ Nat)
  | some (.dat p) => some (.inl p)
  | some (.ref n) => some (.inr n)
  | _ => none
def uncap1 : Option (PyData ⊕ Nat) → Option Vl
  | some (.inl p) => some (.dat p)
  | some (.inr n) => some (.ref n)
  | none => none
/-- a local as the lambda sees it -/
def cap0 : Option Vl → Option Vl
  | some (.dat p) => some (.dat p)
  | some (.ref n) => some (.ref n)
  | _ => none
theorem uncap_cap (o : Option Vl) : uncap1 (cap1 o) = cap0 o := by
  cases o with
  | none => rfl
  | some v => cases v <;> rfl
def capL (ρ : Loc) : Loc := ρ.map cap0
theorem capL_eq (ρ : Loc) : (ρ.map cap1).map uncap1 = capL ρ := by
  rw [List.map_map]
  exact List.map_congr_left fun o _ => uncap_cap o
theorem cap_of {G : Cf} {H : Hp} {β : Bs} {ρ : Loc} {σ : L2.St} (h : RelL G H β ρ σ) : CapR G.K H β (ρ.map cap1) σ := by
  refine ⟨by rw [List.length_map, h.len], fun i x e => ?_⟩
  rw [List.getElem?_map] at e
  obtain ⟨o, e1, e2⟩ := Option.map_eq_some_iff.mp e
  cases o with
  | none => cases e2
  | some v =>
    obtain ⟨u, h1, h2⟩ := h.at' i v e1
    refine ⟨u, h1, ?_⟩
    cases v with
    | dat p => cases e2; exact h2
    | ref n => cases e2; exact h2
    | scr _ => cases e2
    | exo _ _ => cases e2
    | fn _ => cases e2
    | lam _ _ _ _ _ => cases e2
theorem of_cap {G : Cf} {H : Hp} {β : Bs} {ρ : List (Option (PyData ⊕ Nat))} {σ : L2.St} (h : CapR G.K H β ρ σ) : RelL G H β (ρ.map uncap1) σ := by
  refine ⟨by rw [List.length_map, h.1], fun i v e => ?_⟩
  rw [List.getElem?_map] at e
  obtain ⟨o, e1, e2⟩ := Option.map_eq_some_iff.mp e
  cases o with
  | none => cases e2
  | some x =>
    obtain ⟨u, h1, h2⟩ := h.2 i x e1
    refine ⟨u, h1, ?_⟩
    cases x with
    | inl p => cases e2; exact h2
    | inr n => cases e2; exact h2
/-- the table with one more in it, or as it was -/
def Grown (H H1 : Hp) (P c : Addr) (q : Str) : Prop := (H1 = H ∧ H c = some (LamX.CodeO c q)) ∨ ∃ ps ps' : Array Value, H P = some (.tbl ps) ∧ H c = none ∧ H1 = upd (upd H P (.tbl ps')) c (LamX.CodeO c q) ∧ (TriplesOk ps.toList → TriplesOk ps'.toList) ∧
  (TriplesOk ps.toList → ∀ (pos : Pos) (cv : Value), codeAmong pos ps'.toList = some cv → codeAmong pos ps.toList = some cv ∨ cv = .ref c)
theorem Grown.step {β : Bs} {H H1 : Hp} {P c : Addr} {q : Str} (g : Grown H H1 P c q) (hm : (P, q) ∈ tabT) (hu : ∀ p ∈ tabT, p.1 = P → p.2 = q) (nb : ∀ x, H x = none → x ∉ β.b ∧ x ∉ β.g) : Step β H β H1 := by
  rcases g with ⟨rfl, _⟩ | ⟨ps, ps', hP, hc, rfl, ht, ha⟩
  · exact Step.refl _ _
  have nPc : P ≠ c := ne_of_none hP hc
  have at1 : ∀ {b : Addr} {o : HO}, H b = some o → b ≠ P → upd (upd H P (.tbl ps')) c (LamX.CodeO c q) b = some o := fun {b o} e n => by
    rw [upd_ne (ne_of_none e hc), upd_ne n]; exact e
  have nP : ∀ {b : Addr} {o : HO}, H b = some o → NT o → b ≠ P := fun {b o} e n z => by
    rw [z, hP] at e
    cases e
    exact n
  have atP : upd (upd H P (.tbl ps')) c (LamX.CodeO c q) P = some (.tbl ps') := by rw [upd_ne nPc, upd_same]
  refine ⟨List.prefix_refl _, fun _ h => h, fun _ h => .inl h, fun _ h => .inl h, fun a o nt e _ => at1 e (nP e nt), fun a xs e => at1 e (nP e trivial), fun a o u e => at1 e (nP e trivial), fun a o e => ?_, fun t p hp => ?_⟩
  · by_cases z : a = P
    · exact ⟨_, by rw [z]; exact atP⟩
    · exact ⟨o, at1 e z⟩
  · obtain ⟨n1, n2, ps0, e0, ht0, ha0⟩ := t p hp
    by_cases z : p.1 = P
    · have eq2 := hu p hp z
      rw [z, hP] at e0
      cases e0
      refine ⟨n1, n2, ps', by rw [z]; exact atP, ht ht0, fun pos cv hcv => ?_⟩
      rcases ha ht0 pos cv hcv with y | y
      · obtain ⟨c0, ec, hcc, m1, m2⟩ := ha0 pos cv y
        exact ⟨c0, ec, at1 hcc (nP hcc trivial), m1, m2⟩
      · exact ⟨c, y, by rw [eq2]; exact upd_same, (nb c hc).1, (nb c hc).2⟩
    · refine ⟨n1, n2, ps0, at1 e0 z, ht0, fun pos cv hcv => ?_⟩
      obtain ⟨c0, ec, hcc, m1, m2⟩ := ha0 pos cv hcv
      exact ⟨c0, ec, at1 hcc (nP hcc trivial), m1, m2⟩
theorem Grown.code {H H1 : Hp} {P c : Addr} {q : Str} (g : Grown H H1 P c q) : H1 c = some (LamX.CodeO c q) := by
  rcases g with ⟨rfl, e⟩ | ⟨ps, ps', hP, hc, rfl, ht, ha⟩
  · exact e
  · exact upd_same
theorem Grown.at' {H H1 : Hp} {P c : Addr} {q : Str} (g : Grown H H1 P c q) {b : Addr} {o : HO} (e : H b = some o) (n : NT o) : H1 b = some o := by
  rcases g with ⟨rfl, _⟩ | ⟨ps, ps', hP, hc, rfl, ht, ha⟩
  · exact e
  · rw [upd_ne (ne_of_none e hc), upd_ne (fun z => by rw [z, hP] at e; cases e; exact n)]
    exact e
theorem Grown.rels {G : Cf} {β : Bs} {s : Sto} {H H1 : Hp} {P c : Addr} {q : Str} (g : Grown H H1 P c q) (st : Step β H β H1) (hs : RelS G β s H) : RelS G β s H1 :=
  ⟨hs.len, hs.nd, fun n o a h1 h2 => (hs.ob n o a h1 h2).step st (by
    obtain ⟨x, hx, nt⟩ := (hs.ob n o a h1 h2).ownN
    rw [hx]
    exact g.at' hx nt), fun a ha => by
    obtain ⟨⟨o, ho⟩, n⟩ := hs.gs a ha
    exact ⟨st.liv a o ho, n⟩, st.tbs hs.tb⟩
theorem fresh_out {X : Cx} {pins : List (Addr × Obj)} {σ : L2.St} {H : Hp} {s : Shared} (I : Inv X pins σ H s) {f : Addr} (hf : s.heap.objs.size ≤ f) : f ∉ frs X.stack := by
  intro z
  have h1 := I.lt
  rcases List.mem_cons.mp (I.stkSub _ z) with e | e
  · exact absurd (Nat.lt_of_lt_of_le (show f < s.heap.objs.size by rw [e]; exact h1) hf) (Nat.lt_irrefl f)
  · exact absurd e (I.nofs hf)
theorem snoc_among {pos p' : Pos} {c cv : Value} {l : List Value} (h : TriplesOk l) (hc : codeAmong p' (l ++ [rawInt pos.line, rawInt pos.col, c]) = some cv) : codeAmong p' l = some cv ∨ cv = c := LamX.among_app l h hc
theorem lam_made {X : Cx} {pins : List (Addr × Obj)} {σ : L2.St} {H : Hp} {s : Shared} {β : Bs} {c P : Addr} {params : Arguments} {body : Expr} {scope : Scope} {pos : Pos} {E : Value → Shared → Prop} {Q : Value → Shared → Prop} (I : Inv X pins σ H s) (B : LamX.TabB X.base X.mg c P) (ec : X.env.code = .ref c)
    (hm : (P, X.env.qual ++ "<lambda>") ∈ tabT) (t : TabsB β H) (ed : defaultsOf params X.env = ([], [])) (free : ∀ y ∈ scope.names, y.2 = .free → ∃ c, X.env.cells.lookup y.1 = some c)
    (q : ∀ (f c' : Addr) (pm ctv : Value) (H1 : Hp) (s' : Shared), Inv X pins σ H1 s' → Grown H H1 P c' (X.env.qual ++ "<lambda>") → (H c' = none ∨ (c' ∉ β.b ∧ c' ∉ β.g)) →
      s'.heap.get? f = some (PySem.W.kla_obj "<lambda>" (X.env.qual ++ "<lambda>") params body scope (cloFrom X.env.cells scope.names []) pm c' ctv) → H1 f = none → f ∉ frs X.stack → Q (.ref f) s') :
    wpAny (model X.prog X.w) X.A (eval (.Lambda params body scope pos) X.env) Q E s := by
  obtain ⟨_, _, ps, hP, ht, ha⟩ := t _ hm
  have lay : s.heap.get? P = some { cls := .none, data := .fields ps } := I.hok P _ hP
  have bP := B.bm.keeps I.bk
  refine PySem.W.kla_eval ed ?_
  cases among : codeAmong pos ps.toList with
  | some cv =>
    obtain ⟨c', rfl, hc', nn⟩ := ha pos cv among
    refine PySem.W.kla_makeFunctionHit (mg := X.mg) (P := P) (ps := ps) (c := c) (closure_ok free) I.ok.glob (I.mod.glob.keeps I.bk) ec (B.code.keeps I.bk) lay ht among bP ?_
    intro ctv h' tk up sz
    refine q h'.objs.size c' _ ctv H _ (I.kept fun b o e => Heap.get?_push_of_some _ (up b o e)) (.inl ⟨rfl, hc'⟩) (.inr nn) (Heap.get?_push_size _ rfl) (I.hok.fresh sz) (fresh_out I sz)
  | none =>
    refine PySem.W.kla_makeFunction (mg := X.mg) (P := P) (ps := ps) (c := c) (closure_ok free) I.ok.glob (I.mod.glob.keeps I.bk) ec (B.code.keeps I.bk) lay ht among B.gP bP ?_
    intro c' ctv h' tk up ge lt rec_ tab
    obtain ⟨c2, oc, vs, tt, e2, hoc, hd, hv⟩ := rec_
    cases e2
    have sz : s.heap.objs.size ≤ h'.objs.size := by omega
    have hc := I.hok.fresh ge
    have I1 := LamX.inv_table (t' := tk) (more := #[rawInt pos.line, rawInt pos.col, .ref c']) (h' := h'.push (PySem.W.kla_obj "<lambda>" (X.env.qual ++ "<lambda>") params body scope (cloFrom X.env.cells scope.names []) ((X.mg "__name__").getD .none) c' ctv)) I hP
      (fun b o hb e => Heap.get?_push_of_some _ (up b o hb e)) (Heap.get?_push_of_some _ tab) ge ⟨oc, vs, tt, Heap.get?_push_of_some _ hoc, hd, hv⟩
    have el : (ps ++ #[rawInt pos.line, rawInt pos.col, .ref c']).toList = ps.toList ++ [rawInt pos.line, rawInt pos.col, .ref c'] := by simp
    refine q h'.objs.size c' _ ctv _ _ I1 (.inr ⟨ps, _, hP, hc, rfl, fun h => by rw [el]; exact PySem.TriplesOk_snoc _ _ _ _ h, fun h p' cv hcv => ?_⟩) (.inl hc) (Heap.get?_push_size _ rfl) ?_ (fresh_out I sz)
    · rw [el] at hcv
      exact snoc_among h hcv
    · have hPl := Heap.lt_size lay
      have n1 : h'.objs.size ≠ c' := (Nat.ne_of_lt lt).symm
      have n2 : h'.objs.size ≠ P := (Nat.ne_of_lt (Nat.lt_of_lt_of_le hPl sz)).symm
      exact (upd_ne n1).trans ((upd_ne n2).trans (I.hok.fresh sz))
open Classical in
/-- x(), where x is the lambda lv -/
noncomputable def mAct (i : Nat) (lv : Vl) (act : Sto → R Vl) : ME := fun ρ s => match ρ[i]? with
  | some (some v) => if v = lv then act s else .bad
  | _ => .bad
open Classical in
noncomputable def actG (lv : Vl) (act : Sto → R Vl) (v : Vl) (s : Sto) : R Vl := if v = lv then act s else .bad
@[simp] theorem actG_self {lv : Vl} {act : Sto → R Vl} {s : Sto} : actG lv act lv s = act s := if_pos rfl
section
variable {X : Cx} {pins : List (Addr × Obj)} {σ : L2.St} {H : Hp} {s : Shared}
/-- what stands at the lambda's object -/
structure LamAt (X : Cx) (pins : List (Addr × Obj)) (σ : L2.St) (H : Hp) (s : Shared) (f c' : Addr) (params : Arguments) (body : Expr) (scope : Scope) : Prop where
  inv : Inv X pins σ H s
  obj : ∃ pm ctv, s.heap.get? f = some (PySem.W.kla_obj "<lambda>" (X.env.qual ++ "<lambda>") params body scope (cloFrom X.env.cells scope.names []) pm c' ctv)
  new : H f = none
  out : f ∉ frs X.stack
/-- the lambda's body, read by the machine -/
def LamB (X : Cx) (k : Nat) (scope : Scope) (body : Expr) (fb : ME) : Prop := ∀ (A : Around) (outer : List Env) (s : Shared) (H : Hp) (E : XK) (f c' : Addr), A.guards = some [] → Room k (A.deeper (LamX.lamEnv X scope s.heap.objs.size f c')) →
  DE (LamX.lamCx X A outer s H E scope f c') none (fun c d _ H => E c d H) body fb
def NoBind (params : Arguments) (body : Expr) (scope : Scope) : Prop := ∀ (q : Str) (cl : List (Str × Addr)) (pm cv ctv : Value), bindArgs (PySem.W.kla_fn "<lambda>" q params body scope cl pm cv ctv) ⟨[], []⟩ = pure []
theorem de_act {N : List Str} {qual : Str} {sg : Scope} {g f c' : Addr} {cdg : Value} {params : Arguments} {body : Expr} {scope : Scope} {k i : Nat} {a : Str} {pn : List (Addr × Obj)} {xe : Value → Shared → Prop} {W : WX} {E : XK} {p1 p2 : Pos} {fb : ME} {ρc : Loc}
    (h : LamAt X pins σ H s f c' params body scope) (L : LamX.LamS X.env.scope scope) (hbind : NoBind params body scope) (hg : X.A.guards = some []) (hr : Room (k + 1) (X.A.deeper (envOfC qual sg s.heap.objs.size g cdg))) (hb : LamB X k scope body fb)
    (tk : Takes ((cxOf (L2.CX X.prog X.w) X.prog X.w X.K X.mg X.base N qual sg g cdg X.A X.stack s H E).tr pn xe) W) (hN : N[i]? = some a) (hv : Vis sg a)
    (hd : (a == ("__debug__" : Str)) = false := by decide) (hcd : (a == ("__classdict__" : Str)) = false := by decide) :
    DE ((cxOf (L2.CX X.prog X.w) X.prog X.w X.K X.mg X.base N qual sg g cdg X.A X.stack s H E).tr pn xe) none W (.Call (.Name a p1) [] [] p2) (mAct i (.lam f c' (X.env.qual ++ "<lambda>") σ (ρc.map cap1)) (fb (capL ρc))) := by
  refine ⟨fun pinsZ sZ σZ HZ Q IZ hq => ?_⟩
  obtain ⟨β, ρ, s0, hl, hs, hp⟩ := hq
  unfold mAct at hp
  split at hp
  rotate_left
  · exact hp.elim
  rename_i v ev
  split at hp
  rotate_left
  · exact hp.elim
  rename_i ev2
  subst ev2
  obtain ⟨u, hu, eu, hc, _, cr⟩ := hl.at' i _ ev
  subst eu
  obtain ⟨I, ⟨pm, ctv, hobj⟩, hnew, hout⟩ := h
  refine wpAny_Call_Name_kw (thn ((pe_var (pos := p1) (i := i) hN hv hd hcd).run pinsZ sZ σZ HZ (fun v H1 => v = .ref f ∧ H1 = HZ) IZ ⟨_, hu, rfl, rfl⟩) fun u s1 ⟨v, H1, I1, r1, q1, q2⟩ => ?_)
  subst q1
  subst q2
  cases (show u = Value.ref f from r1)
  have of1 := I1.base.keep f _ hobj hnew hout (fun z => nomatch (show f ∈ ([] : List Addr) from z))
  refine PySem.W.callWith_F0 ⟨_, _, _, _, of1⟩ ?_
  obtain ⟨⟨oc, vs, t, hoc, hdc, hvc⟩, _, _⟩ := I1.hok c' _ hc
  have un : Un (frs X.stack) [] H H1 s.heap s1.heap := I1.base
  have rc : codeAny (model X.prog X.w) (X.A.deeper (envOfC qual sg s.heap.objs.size g cdg)) (.call (.ref f) ⟨[], []⟩) (CR (L2.CX X.prog X.w) (envOfC qual sg s.heap.objs.size g cdg :: X.stack) X.prog X.w H1 s1 Q (fun c d H' => W c d σZ H')) s1 := ?run
  refine wpAny_call (codeAny_mono rc ?after)
  case after =>
    intro r s' hq
    cases r with
    | error e => exact tk e s' (XE.of_call I1 (fun _ _ _ h => h) hq)
    | ok fl =>
      cases fl with
      | ret u => exact I1.after hq
      | next => exact False.elim hq
      | brk => exact False.elim hq
      | cont => exact False.elim hq
  case run =>
    refine PySem.W.kla_callFunE hr.depth of1 rfl L.co L.gen rfl ⟨c', oc, vs, t, rfl, hoc, hdc, hvc⟩ ?_
    rw [hbind]
    refine wpAny_pure (wpAny_newFunctionEnv (fun y hy => (L.own y hy).2) (fun y hy => absurd hy (by simp)) (fun h₁ hns hsb => ⟨I1.nolimit.fresh _ hsb, ?_⟩) L.kind)
    have kp : ∀ b o, s1.heap.get? b = some o → h₁.get? b = some o := fun b o e => hsb.extBut b o (Nat.ne_of_lt (Heap.lt_size e)) (Heap.get?_push_of_some _ e)
    have J := LamX.lam_start2 (f := f) (c' := c') (A := X.A.deeper (envOfC qual sg s.heap.objs.size g cdg)) (outer := envOfC qual sg s.heap.objs.size g cdg :: X.stack) (E := fun c d H' => W c d σZ H') (tk := s1.toks + ([] : List (Str × Value)).length) I L I1.env0 hr.hd un hns kp
    have hrel := of_cap (G := cf X none) cr
    rw [capL_eq] at hrel
    refine PySem.W.kla_codeExpr (wpAny_mono ((hb (X.A.deeper (envOfC qual sg s.heap.objs.size g cdg)) _ s1 H1 (fun c d H' => W c d σZ H') f c' hg (hr.deeper _)).run [] _ _ H1 Q J ⟨β, capL ρc, s0, hrel, hs, ?_⟩) (fun v s' hq => ?_) fun e s' hq => hq)
    · generalize fb (capL ρc) s0 = r at hp ⊢
      cases r with
      | ok v s2 => exact hp
      | ex x s2 => exact hp
      | bad => exact hp
    · obtain ⟨w', H', J', rv, q⟩ := hq
      exact ⟨w', H', J'.os, J'.bare, J'.base, J'.hok, rv, q⟩
end
/-- a def that is handed a lambda -/
structure LamD (P : Program) (w : World) (K : PySem.W.Frag) (mg : Str → Option Value) (base : Heap) (k : Nat) (x : Str) (st : Stmt) (N : List Str) (a : Str) (f : Addr) (fd : FuncData) (nf : Vl → (Sto → R Vl) → Sto → An Unit Empty) : Prop where
  go : ∀ (cdv : Value) (A : Around) (outer : List Env) (s : Shared) (H : Hp) (E : XK) (lv : Vl) (act : Sto → R Vl), A.guards = some [] → Room k (A.deeper (envOfC x (defScope st) s.heap.objs.size f cdv)) →
    (∀ (W : WX) (pn : List (Addr × Obj)) (xe : Value → Shared → Prop) (p1 p2 : Pos), Takes ((cxOf (L2.CX P w) P w K mg base N x (defScope st) f cdv A outer s H E).tr pn xe) W →
      DE ((cxOf (L2.CX P w) P w K mg base N x (defScope st) f cdv A outer s H E).tr pn xe) none W (.Call (.Name a p1) [] [] p2) (mAct 0 lv act)) →
    NSs (cxOf (L2.CX P w) P w K mg base N x (defScope st) f cdv A outer s H E) none (fun c d _ H => E c d H) none (mkU N.length) mkE (startM N.length [lv]) (defBody st) (nf lv act)
  ind : ∀ lv act s, nf lv act s = nf (.dat .none) act s
  sc : FnScope N [a] (defScope st)
  nd : N[0]? = some a
  vis : Vis (defScope st) a
theorem LamD.mono {P : Program} {w : World} {K : PySem.W.Frag} {mg : Str → Option Value} {base : Heap} {j k : Nat} {x : Str} {st : Stmt} {N : List Str} {a : Str} {f : Addr} {fd : FuncData} {nf : Vl → (Sto → R Vl) → Sto → An Unit Empty} (F : LamD P w K mg base j x st N a f fd nf) (h : j ≤ k) : LamD P w K mg base k x st N a f fd nf :=
  ⟨fun cdv A outer s H E lv act hg hr => F.go cdv A outer s H E lv act hg (hr.mono h), F.ind, F.sc, F.nd, F.vis⟩
/-- a name that a lambda has caught -/
def capN (v : Vl) (s : Sto) : R Vl := mVar 0 [cap0 (some v)] s
@[simp] theorem capN_dat {p : PyData} {s : Sto} : capN (.dat p) s = .ok (.dat p) s := rfl
@[simp] theorem capN_ref {n : Nat} {s : Sto} : capN (.ref n) s = .ok (.ref n) s := rfl
noncomputable def capO (v : Option Vl) (s : Sto) : R Vl := mVar 0 [cap0 v] s
@[simp] theorem capO_dat {p : PyData} {s : Sto} : capO (some (.dat p)) s = .ok (.dat p) s := rfl
/-- which code object a def has -/
def CodeOf (K : PySem.W.Frag) (f c : Addr) : Prop := ∃ oc od fd osl, K.lookup f = some ⟨oc, od, .func fd, osl⟩ ∧ fd.code = .ref c
/-- as fnN_of, its code object known -/
theorem fnN_ofC {P : Program} {w : World} {K : PySem.W.Frag} {mg : Str → Option Value} {base : Heap} {x qual : Str} {st : Stmt} {f c : Addr} {fd : FuncData} {N ps : List Str} {k : Nat} {nf : List Vl → Sto → An Unit Empty} (C : CodeOf K f c) (F : Fun K x qual st f fd) (S : FnScope N ps (defScope st))
    (hb : ∀ (cdv : Value) (A : Around) (outer : List Env) (s : Shared) (H : Hp) (E : XK), cdv = .ref c → A.guards = some [] → Room k (A.deeper (envOfC qual (defScope st) s.heap.objs.size f cdv)) →
      ∀ xs : List Vl, xs.length = ps.length → NSs (cxOf (L2.CX P w) P w K mg base N qual (defScope st) f cdv A outer s H E) none (fun c d _ H => E c d H) none (mkU N.length) mkE (startM N.length xs) (defBody st) (nf xs)) : FnD P w K mg base (k + 1) f fd ps (runN nf) := by
  refine ⟨fun A outer s H args us vs Q E hg hr e0 bd r hsp => ?_⟩
  obtain ⟨oc, od, kV, doc, pm, an, cdv, ct, osl, rfl, lk, hcd⟩ := F.ex
  obtain ⟨oc2, od2, fd2, osl2, lk2, ec⟩ := C
  rw [lk] at lk2
  cases lk2
  obtain ⟨β, st0, xs, hs, rx, hlen, hp⟩ := hsp
  have ht := hb cdv A outer s H E ec hg (hr.deeper _) xs hlen
  have hvl : vs.length = ps.length := by rw [← rx.len]; exact hlen
  have kin : K.In s.heap := e0.mod.kin.keeps fun b o e => (e0.bs b o e).1
  refine codeAny_call_function hr.depth (kin _ _ lk) rfl S.co S.gen rfl (PySem.W.codeRec_of kin hcd) (bd _ _ _ _ ?_)
  refine wpAny_newFunctionEnv_cells S.kind ?_ fun env he s1 x => ?_
  · rintro ⟨n, v⟩ hy
    rcases S.par n (List.of_mem_zip hy).1 with q | q
    · exact .inl q
    · exact .inr ⟨q, PySem.W.cellsFrom_some _ _ _ (.inl q)⟩
  · subst he
    refine ⟨(e0.mod.nolimit.keeps fun b o e => (e0.bs b o e).1).keeps x.toInCall.keep, codeAny_func ?_⟩
    refine wpAny_mono (ht.run [] s1 (start N vs) H { nx := fun _ H' => Q .non H', rt := Q } (inv_start S hr.hd e0 hvl r x) ⟨β, st0, start_rel rx, hs, post_finN hp⟩) (fun fl s' hs => ?_) fun e s' hs => hs
    cases fl with
    | ret u =>
      obtain ⟨v, σ', H', J, rv, q⟩ := hs
      exact ⟨v, H', J.os, J.bare, J.base, J.hok, rv, q⟩
    | next =>
      obtain ⟨σ', H', J, q⟩ := hs
      exact ⟨V.non, H', J.os, J.bare, J.base, J.hok, rfl, q⟩
    | brk =>
      obtain ⟨_, _, _, q⟩ := hs
      exact q.elim
    | cont =>
      obtain ⟨_, _, _, q⟩ := hs
      exact q.elim
noncomputable def lamN (nf : Vl → (Sto → R Vl) → Sto → An Unit Empty) (act : Sto → R Vl) (s : Sto) : R Vl := (nf (.dat .none) act s).fin
noncomputable def mLam (nf : Vl → (Sto → R Vl) → Sto → An Unit Empty) (fb : ME) : ME := fun ρ s => lamN nf (fb (capL ρ)) s
section
variable {X : Cx} {zx : Exo} {W : WX}
theorem de_lam {x a : Str} {st : Stmt} {N : List Str} {f c P : Addr} {fd : FuncData} {j : Nat} {nf : Vl → (Sto → R Vl) → Sto → An Unit Empty} {params : Arguments} {body : Expr} {scope : Scope} {fb : ME} {p lpos pos : Pos}
    (hG : X.A.guards = some []) (D : Df X.K X.mg x st [a] f fd) (F : LamD X.prog X.w X.K X.mg X.base (j + 1) x st N a f fd nf) (hr : Room (j + 2) X.A) (tk : Takes X W) (hg : Gl X x)
    (B : LamX.TabB X.base X.mg c P) (ec : X.env.code = .ref c) (hm : (P, X.env.qual ++ "<lambda>") ∈ tabT) (hu : ∀ p ∈ tabT, p.1 = P → p.2 = X.env.qual ++ "<lambda>") (L : LamX.LamS X.env.scope scope) (ed : defaultsOf params X.env = ([], []))
    (hbind : NoBind params body scope) (hb : LamB X j scope body fb)
    (hdb : (x == ("__debug__" : Str)) = false := by decide) (hd : (a == ("__debug__" : Str)) = false := by decide) (hcd : (a == ("__classdict__" : Str)) = false := by decide) :
    DE X zx W (.Call (.Name x p) [.Lambda params body scope lpos] [] pos) (mLam nf fb) := by
  refine ⟨fun pins s σ H Q I hq => ?_⟩
  obtain ⟨β, ρ, s0, hl, hs, hp⟩ := hq
  obtain ⟨oc, od, kV, doc, pmd, an, cdv, ct, osl, rfl, lk, hcd2⟩ := D.fn.ex
  refine wpAny_Call_Name_kw (ld_glob I hg D.gl ?_ hdb)
  refine PySem.W.callWith_K (h₀ := X.base) I.ok.mod.kin D.fn.kp ?_ (by rfl) (by rfl)
  show wpAny _ _ (spliced ((false, eval (.Lambda params body scope lpos) X.env) :: backTo pos (starEach [] X.env))) _ _ s
  refine Calls.spliced_cons (lam_made (β := β) I B ec hm hs.tb ed (L.has I.ok) fun fl c' pm' ctv H1 s' I1 gr nb hobj hnew hout => ?_)
  refine Calls.spliced_nil ⟨I1.kIn, ?_⟩
  have stp : Step β H β H1 := gr.step hm hu fun y hy => ⟨hs.nin hy, hs.nig hy⟩
  have hs1 := gr.rels stp hs
  have nn : c' ∉ β.b ∧ c' ∉ β.g := nb.elim (fun e => ⟨hs.nin e, hs.nig e⟩) id
  have rx : Rvs (cf X none) H1 β [.lam fl c' (X.env.qual ++ "<lambda>") σ (ρ.map cap1)] [.ref fl] := .cons ⟨rfl, gr.code, nn, cap_of (G := cf X zx) (hl.step stp)⟩ .nil
  have hp2 : Post (cf X none) (Rv (cf X none)) (fun c d _ H' => W c d σ H') [] β H1 Q ((nf (.lam fl c' (X.env.qual ++ "<lambda>") σ (ρ.map cap1)) (fb (capL ρ)) s0).fin) := by
    rw [F.ind]
    exact post_oz (Post.step hp stp)
  have e0 := I1.env0
  have kin : X.K.In s'.heap := e0.mod.kin.keeps fun b o e => (e0.bs b o e).1
  have rc : codeAny (model X.prog X.w) X.A (.call (.ref f) ⟨[.ref fl], []⟩) (CR (L2.CX X.prog X.w) X.stack X.prog X.w H1 s' Q (fun c d H' => W c d σ H')) s' := by
    have ht := F.go cdv X.A X.stack s' H1 (fun c d H' => W c d σ H') (.lam fl c' (X.env.qual ++ "<lambda>") σ (ρ.map cap1)) (fb (capL ρ)) hG (hr.deeper _) fun W2 pn xe p1 p2 tk2 =>
      de_act (i := 0) ⟨I1, ⟨pm', ctv, hobj⟩, hnew, hout⟩ L hbind hG (hr.deeper _) hb tk2 F.nd F.vis hd hcd
    refine codeAny_call_function hr.depth (kin _ _ lk) rfl F.sc.co F.sc.gen rfl (PySem.W.codeRec_of kin hcd2) (D.bd s' [.ref fl] kin rfl _ _ _ _ ?_)
    refine wpAny_newFunctionEnv_cells F.sc.kind ?_ fun env he s1 x => ?_
    · rintro ⟨n, v⟩ hy
      rcases F.sc.par n (List.of_mem_zip hy).1 with q | q
      · exact .inl q
      · exact .inr ⟨q, PySem.W.cellsFrom_some _ _ _ (.inl q)⟩
    · subst he
      refine ⟨(e0.mod.nolimit.keeps fun b o e => (e0.bs b o e).1).keeps x.toInCall.keep, codeAny_func ?_⟩
      refine wpAny_mono (ht.run [] s1 (start N [.ref fl]) H1 { nx := fun _ H' => Q .non H', rt := Q } (inv_start F.sc hr.hd e0 rfl (.cons rfl .nil) x) ⟨β, s0, start_rel rx, hs1.oz, post_finN hp2⟩) (fun r s' hs => ?_) fun e s' hs => hs
      cases r with
      | ret u =>
        obtain ⟨v, σ', H', J, rv, q⟩ := hs
        exact ⟨v, H', J.os, J.bare, J.base, J.hok, rv, q⟩
      | next =>
        obtain ⟨σ', H', J, q⟩ := hs
        exact ⟨V.non, H', J.os, J.bare, J.base, J.hok, rfl, q⟩
      | brk =>
        obtain ⟨_, _, _, q⟩ := hs
        exact q.elim
      | cont =>
        obtain ⟨_, _, _, q⟩ := hs
        exact q.elim
  refine wpAny_call (codeAny_mono rc fun r s2 hq => ?_)
  cases r with
  | error e => exact tk e s2 (XE.of_call I1 (fun _ _ _ h => h) hq)
  | ok fl =>
    cases fl with
    | ret u => exact I1.after hq
    | next => exact False.elim hq
    | brk => exact False.elim hq
    | cont => exact False.elim hq
end
end Pm
set_option maxRecDepth 100000
set_option maxHeartbeats 4000000
namespace Pm
open PySem PySem.Spec PyProof.Rows L2 Sw
def mk_around_1 (v_ahead : Vl) (v_way : Vl) : (Vl) → Loc := fun a => [none, none, none, none, some v_ahead, some v_way, some a]
noncomputable def tb_around_1 (v_ahead : Vl) (v_way : Vl) (v_block : Vl) : Sto → R Bool := fun s => (R.of (phIsNot v_block (Vl.dat .none) s) s).bind fun x10 s11 => R.of (bool? x10) s11
noncomputable def nb_around_1 (v_ahead : Vl) (v_way : Vl) (v_block : Vl) : Sto → An (Vl) (Vl) := fun s =>
  (appN v_way s (fun s12 => R.ok [v_block] s12)).an fun _ s13 =>
    (R.of (phIx v_ahead v_block s13) s13).an fun v_block s14 =>
    .nx v_block s14
noncomputable def wl_around_1 {L : Type} (v_ahead : Vl) (v_way : Vl) : (Vl) → Sto → An (Vl) L := whl (mk_around_1 v_ahead v_way) (fun a s => tb_around_1 v_ahead v_way a s) (fun a s => nb_around_1 v_ahead v_way a s)
theorem wl_around_1_un {L : Type} (v_ahead : Vl) (v_way : Vl) {a : (Vl)} {s : Sto} : (wl_around_1 (L := L) v_ahead v_way a s) = (tb_around_1 v_ahead v_way a s).an fun c s1 => if c = true then (nb_around_1 v_ahead v_way a s1).lp (mk_around_1 v_ahead v_way) s1.length (wl_around_1 v_ahead v_way) else .nx a s1 := whl_unfold
noncomputable def kt_around_1 (v_ahead : Vl) (v_way : Vl) (v_block : Vl) : Sto → An Unit Empty := fun s =>
  (((R.of (phRev v_way s) s).bind fun x17 s18 => R.ok [x17] s18).bind fun l19 s20 => R.of (phTuple l19 s20) s20).an fun x21 s22 => .rt x21 s22
noncomputable def n_around (v_code : Vl) (v_name : Vl) (v_over : Vl) (v_under : Vl) : Sto → An Unit Empty := fun s =>
  (callN 3 G_led_around [v_code, v_name, v_over] s).an fun v_ahead s1 =>
    ((R.of ((phIn true) v_under v_ahead s1) s1).bind fun x2 s3 => R.of (bool? x2) s3).an fun c4 s5 => if c4 = true then
    ((R.ok (Vl.dat .none) s5).an fun x6 s7 => .rt x6 s7 : An Empty _).up
    else
    (newN [] s5).an fun v_way s8 =>
    (R.ok v_under s8).an fun v_block s9 =>
    (wl_around_1 v_ahead v_way v_block s9).thn fun j15 s16 => kt_around_1 v_ahead v_way j15 s16
noncomputable def r_around : MF := runN fun xs => match xs with
  | [v_code, v_name, v_over, v_under] => n_around v_code v_name v_over v_under
  | _ => fun _ => .bad
noncomputable def G_around : MF := frameG (r_around)
noncomputable def n_fence (v_code : Vl) (v_name : Vl) (v_over : Vl) (v_under : Vl) : Sto → An Unit Empty := fun s =>
  (callN 3 G_led_around [v_code, v_name, v_over] s).an fun v_ahead s1 =>
    (((R.of ((phIn false) v_under v_ahead s1) s1).bind fun x2 s3 => R.of (bool? x2) s3).bind fun c4 s5 => if c4 = true then R.ok (Vl.dat .none) s5 else ((R.of (phSorted [v_ahead] s5) s5).bind fun x6 s7 => R.ok [x6] s7).bind fun l8 s9 => R.of (phTuple l8 s9) s9).an fun x10 s11 => .rt x10 s11
noncomputable def r_fence : MF := runN fun xs => match xs with
  | [v_code, v_name, v_over, v_under] => n_fence v_code v_name v_over v_under
  | _ => fun _ => .bad
noncomputable def G_fence : MF := frameG (r_fence)
noncomputable def n_dominates (v_code : Vl) (v_name : Vl) (v_over : Vl) (v_under : Vl) : Sto → An Unit Empty := fun s =>
  ((callN 3 G_led_around [v_code, v_name, v_over] s).bind fun x1 s2 => R.of ((phIn true) v_under x1 s2) s2).an fun x3 s4 => .rt x3 s4
noncomputable def r_dominates : MF := runN fun xs => match xs with
  | [v_code, v_name, v_over, v_under] => n_dominates v_code v_name v_over v_under
  | _ => fun _ => .bad
noncomputable def G_dominates : MF := frameG (r_dominates)
theorem look_kv {x : Int} {d : PyData} : ∀ {K : List (Int × PyData)}, K.lookup x = some d → dLook (K.map fun p => (PyData.int p.1, Vl.dat p.2)) (.int x) = some (.dat d)
  | [], h => by cases h
  | p :: K, h => by
    rw [List.map_cons, dLook_cons, kEq_i]
    rw [List.lookup_cons] at h
    by_cases e : x = p.1
    · subst e
      rw [beq_self_eq_true] at h
      cases h
      rw [if_pos (by simp)]
    · rw [beq_eq_false_iff_ne.mpr e] at h
      rw [if_neg (by simpa using fun z => e z.symm)]
      exact look_kv h
theorem phIx_kv {K : List (Int × PyData)} {x : Int} {d : PyData} {s : Sto} (h : K.lookup x = some d) : phIx (.dat (kvD K)) (.dat (.int x)) s = some (.dat d) := by
  show (match dOf (.dat (kvD K)) s with
    | some (t, kvs) => if kOk t (.int x) = true then dLook kvs (.int x) else none
    | none => none) = _
  rw [dOf_ints]
  show (if kOk false (.int x) = true then dLook (K.map fun p => (PyData.int p.1, Vl.dat p.2)) (.int x) else none) = _
  rw [if_pos (show kOk false (.int x) = true from rfl), look_kv h]
theorem phIn_kvD {neg : Bool} {K : List (Int × PyData)} {x : Int} {s : Sto} : phIn neg (.dat (.int x)) (.dat (kvD K)) s = some (.dat (.bool (if neg = true then !decide (x ∈ K.map (·.1)) else decide (x ∈ K.map (·.1))))) := by
  show (match dOf (.dat (kvD K)) s with
    | some (t, kvs) => if kOk t (.int x) = true then some (Vl.dat (.bool (if neg = true then !dHas kvs (.int x) else dHas kvs (.int x)))) else none
    | none => _) = _
  rw [dOf_ints]
  show (if kOk false (.int x) = true then some (Vl.dat (.bool (if neg = true then !dHas (K.map fun p => (PyData.int p.1, Vl.dat p.2)) (.int x) else dHas (K.map fun p => (PyData.int p.1, Vl.dat p.2)) (.int x)))) else none) = _
  rw [if_pos (show kOk false (.int x) = true from rfl), dHas_int]
theorem phSorted_kv {K : List (Int × PyData)} {s : Sto} (h : K.length < 64) : phSorted [.dat (kvD K)] s = some (.dat (.list ((srtI (K.map (·.1))).map .int))) := by
  show (match dOf (.dat (.dict (K.map fun p => (PyData.int p.1, p.2)))) s with
    | some (false, kvs) => srtD (kvs.map (Prod.fst : PyData × Vl → PyData))
    | some (true, _) => none
    | none => (lsD (.dat (.dict (K.map fun p : Int × PyData => (PyData.int p.1, p.2)))) s).bind srtD) = _
  rw [dOf_ints]
  show srtD ((K.map fun p : Int × PyData => (PyData.int p.1, Vl.dat p.2)).map (Prod.fst : PyData × Vl → PyData)) = _
  have em : (K.map fun p : Int × PyData => (PyData.int p.1, Vl.dat p.2)).map (Prod.fst : PyData × Vl → PyData) = (K.map (·.1)).map PyData.int := by rw [List.map_map, List.map_map]; rfl
  rw [em]
  exact srtD_ints (by rw [List.length_map]; exact h)
theorem app_in {w : List Int} {x : Int} (h : w.length ≤ 900) : appN (.ref 0) [inL w] (fun s => R.ok [.dat (.int x)] s) = .ok (.dat .none) [inL (w ++ [x])] := by
  rw [app_go (n := 0) (l0 := w.map fun x => .dat (.int x)) (l := w.map fun x => .dat (.int x)) (w := .dat (.int x)) (s2 := [inL w]) rfl rfl rfl (by rw [List.length_map]; omega) rfl]
  show R.ok _ [Ob.lst ((w.map fun x => Vl.dat (.int x)) ++ [.dat (.int x)])] = _
  rw [inL, List.map_append]
  rfl
theorem isNot_nn {s : Sto} : phIsNot (.dat .none) (.dat .none) s = some (.dat (.bool false)) := rfl
theorem isNot_in {x : Int} {s : Sto} : phIsNot (.dat (.int x)) (.dat .none) s = some (.dat (.bool true)) := rfl
theorem isNot_tn {x : List PyData} {s : Sto} : phIsNot (.dat (.tuple x)) (.dat .none) s = some (.dat (.bool true)) := rfl
theorem wl_around_eq {K : List (Int × PyData)} {L : Type} {x : Int} {w : List Int} (h : Up K x w) : ∀ acc : List Int, acc.length + w.length ≤ 900 → (wl_around_1 (L := L) (.dat (kvD K)) (.ref 0) (.dat (.int x)) [inL acc]) = .nx (.dat .none) [inL (acc ++ w)] := by
  have fin : ∀ s, (wl_around_1 (L := L) (.dat (kvD K)) (.ref 0) (.dat .none) s) = .nx (.dat .none) s := fun s => by
    rw [wl_around_1_un]
    simp [tb_around_1, isNot_nn]
  induction h with
  | zero h =>
    intro acc hl
    rw [wl_around_1_un]
    have ha := app_in (w := acc) (x := 0) (by simp at hl; omega)
    have hb : nb_around_1 (.dat (kvD K)) (.ref 0) (.dat (.int 0)) [inL acc] = .nx (.dat .none) [inL (acc ++ [0])] := by
      simp only [nb_around_1, ha, R.an_ok, phIx_kv h, R.of_some]
    simp [tb_around_1, isNot_in, hb, tidy_same, fin]
  | @step g p w h hu ih =>
    intro acc hl
    rw [List.length_cons] at hl
    rw [wl_around_1_un]
    have ha := app_in (w := acc) (x := g) (by omega)
    have hb : nb_around_1 (.dat (kvD K)) (.ref 0) (.dat (.int g)) [inL acc] = .nx (.dat (.int p)) [inL (acc ++ [g])] := by
      simp only [nb_around_1, ha, R.an_ok, phIx_kv h, R.of_some]
    have hi := ih (acc ++ [g]) (by rw [List.length_append, List.length_singleton]; omega)
    rw [List.append_assoc] at hi
    simp [tb_around_1, isNot_in, hb, tidy_same]
    exact hi
section
variable {c : Cod} {nm : Str} {bs : List Blk} {o : Int} {K : List (Int × PyData)} (hK : LedF bs o K) (few : K.length ≤ 60) (e : ∀ s, G_led_around [.dat c.d, .dat (.str nm), .dat (.int o)] s = .ok (.dat (kvD K)) s)
include few e
theorem G_around_no {u : Int} (hu : u ∉ K.map (·.1)) (s : Sto) : G_around [.dat c.d, .dat (.str nm), .dat (.int o), .dat (.int u)] s = .ok (.dat .none) s := by
  refine fr0 (s2 := []) ?_
  rw [r_around, runN_ap]
  simp only [n_around, callN_ap, List.length_cons, List.length_nil, List.all_cons, List.all_nil, noX, Bool.and_self, and_self, if_true, e, R.an_ok, phIn_kvD, decide_eq_false hu]
  simp
theorem G_around_go {u : Int} {w : List Int} (hw : Up K u w) (hl : w.length ≤ 60) (hu : u ∈ K.map (·.1)) (s : Sto) : G_around [.dat c.d, .dat (.str nm), .dat (.int o), .dat (.int u)] s = .ok (.dat (intsD w.reverse)) s := by
  refine fr0 (s2 := [inL w]) ?_
  rw [r_around, runN_ap]
  have hwl := wl_around_eq (K := K) (L := Empty) hw [] (by simp; omega)
  rw [List.nil_append] at hwl
  have hwl : wl_around_1 (L := Empty) (.dat (kvD K)) (.ref 0) (.dat (.int u)) [Ob.lst []] = .nx (.dat .none) [inL w] := hwl
  have hr : phRev (.ref 0) [inL w] = some (.dat (.list (w.reverse.map PyData.int))) := by
    show (lsD (.ref 0) [inL w]).bind (fun ds => if ds.length ≤ mil then some (Vl.dat (.list ds.reverse)) else none) = _
    have : lsD (.ref 0) [inL w] = some (w.map PyData.int) := by
      show datas (w.map fun x => Vl.dat (.int x)) = _
      exact datas_dats w
    rw [this]
    show (if (w.map PyData.int).length ≤ mil then some (Vl.dat (.list (w.map PyData.int).reverse)) else none) = _
    rw [if_pos (by rw [List.length_map]; exact th_mil (by omega)), List.map_reverse]
  simp only [n_around, callN_ap, List.length_cons, List.length_nil, List.all_cons, List.all_nil, noX, Bool.and_self, and_self, if_true, e, R.an_ok, phIn_kvD, decide_eq_true hu]
  have hn : newN [] ([] : Sto) = .ok (.ref 0) [inL []] := by simp
  simp [hn, hwl, kt_around_1, hr, phTuple, seqD, intsD]
theorem G_dominates_eq {u : Int} (s : Sto) : G_dominates [.dat c.d, .dat (.str nm), .dat (.int o), .dat (.int u)] s = .ok (.dat (.bool (!decide (u ∈ K.map (·.1))))) s := by
  refine fr0 (s2 := []) ?_
  rw [r_dominates, runN_ap]
  simp [n_dominates, e, phIn_kvD]
theorem G_fence_no {u : Int} (hu : u ∈ K.map (·.1)) (s : Sto) : G_fence [.dat c.d, .dat (.str nm), .dat (.int o), .dat (.int u)] s = .ok (.dat .none) s := by
  refine fr0 (s2 := []) ?_
  rw [r_fence, runN_ap]
  simp only [n_fence, callN_ap, List.length_cons, List.length_nil, List.all_cons, List.all_nil, noX, Bool.and_self, and_self, if_true, e, R.an_ok, phIn_kvD, decide_eq_true hu]
  simp
theorem G_fence_go {u : Int} (hu : u ∉ K.map (·.1)) (s : Sto) : G_fence [.dat c.d, .dat (.str nm), .dat (.int o), .dat (.int u)] s = .ok (.dat (intsD (srtI (K.map (·.1))))) s := by
  refine fr0 (s2 := []) ?_
  rw [r_fence, runN_ap]
  have es := fun s => phSorted_kv (K := K) (s := s) (by omega)
  simp only [n_fence, callN_ap, List.length_cons, List.length_nil, List.all_cons, List.all_nil, noX, Bool.and_self, and_self, if_true, e, R.an_ok, phIn_kvD, decide_eq_false hu]
  simp [es, phTuple, seqD, intsD]
end
end Pm
set_option maxRecDepth 100000
set_option maxHeartbeats 4000000
namespace Pm
open PySem PySem.Spec PyProof.Rows L2 Sw
theorem atI_last {α : Type} (l : List α) : atI l (-1) = l.getLast? := by
  unfold atI ixN
  rw [if_neg (by omega), List.getLast?_eq_getElem?]
  by_cases h : l.length = 0
  · rw [if_neg (by omega), List.getElem?_eq_none (by omega)]
    rfl
  · rw [if_pos (by omega)]
    show l[(-1 + (l.length : Int)).toNat]? = _
    rw [show (-1 + (l.length : Int)).toNat = l.length - 1 by omega]
/-- how numbers are judged as a way around, from the goals of the one ahead on -/
def arN (g : Int → List Int) (o : Int) : List Int → Nat → List Int → Option (Str × Int)
  | _, _, [] => none
  | gs, k, b :: r => if b ∉ gs then some ("next", (k : Int)) else if b = o then some ("over", (k : Int)) else arN g o (g b) (k + 1) r
def arL (g : Int → List Int) (o u : Int) (ns : List Int) : Option (Str × Int) := match arN g o [0] 0 ns with
  | some p => some p
  | none => if ns.getLast? = some u then none else some ("last", -1)
def arJ (g : Int → List Int) (o u : Int) (d : PyData) : Option (Str × Int) := match d with
  | .tuple ds => (match nums ds with
    | some [] => some ("shape", -1)
    | some ns => arL g o u ns
    | none => some ("shape", -1))
  | _ => some ("shape", -1)
def papE (w : Str) (y : Int) : Exn := ("NoPaper", [("at", .int y), ("word", .str w)])
theorem nums_all : ∀ {ds : List PyData}, ds.all dNum = (nums ds).isSome
  | [] => rfl
  | d :: ds => by
    rw [List.all_cons, nums_all]
    cases d with
    | int i =>
      show (true && (nums ds).isSome) = ((nums ds).map (i :: ·)).isSome
      cases nums ds <;> rfl
    | _ => rfl
def mk_lets_around_1 (v_code : Vl) (v_name : Vl) (v_over : Vl) (v_under : Vl) (v_thing : Vl) : (Vl) → Loc := fun a => [some v_code, some v_name, some v_over, some v_under, some v_thing, some a, none, none]
noncomputable def nb_lets_around_1 (v_code : Vl) (v_name : Vl) (v_over : Vl) (v_under : Vl) (v_thing : Vl) (v_k : Vl) (v_block : Vl) (v_goals : Vl) : Sto → An (Vl) (Vl) := fun s =>
  ((R.of ((phIn true) v_block v_goals s) s).bind fun x18 s19 => R.of (bool? x18) s19).an fun c20 s21 => if c20 = true then
    ((R.ok [(Vl.dat (.str "next")), v_k] s21).an fun x22 s23 => raise2N "NoPaper" "word" "at" x22 s23 : An Empty _).up
    else
    ((R.of (phEq v_block v_over s21) s21).bind fun x24 s25 => R.of (bool? x24) s25).an fun c26 s27 => if c26 = true then
    ((R.ok [(Vl.dat (.str "over")), v_k] s27).an fun x28 s29 => raise2N "NoPaper" "word" "at" x28 s29 : An Empty _).up
    else
    (callN 3 G_nexts [v_code, v_name, v_block] s27).an fun v_goals s30 =>
    .nx v_goals s30
noncomputable def lp_lets_around_1 {L : Type} (v_code : Vl) (v_name : Vl) (v_over : Vl) (v_under : Vl) (v_thing : Vl) (ck : Sto → Prop) : List Vl → (Vl) → Sto → An (Vl) L := forN ck (mk_lets_around_1 v_code v_name v_over v_under v_thing) (fun v a s => patN ((pT2 pV pV) v) fun p => nb_lets_around_1 v_code v_name v_over v_under v_thing p.1 p.2 a s)
@[simp] theorem lp_lets_around_1_nil {L : Type} (v_code : Vl) (v_name : Vl) (v_over : Vl) (v_under : Vl) (v_thing : Vl) {a : (Vl)} {s : Sto} : (lp_lets_around_1 (L := L) v_code v_name v_over v_under v_thing okT [] a s) = .nx a s := forN_nil
theorem lp_lets_around_1_cons {L : Type} (v_code : Vl) (v_name : Vl) (v_over : Vl) (v_under : Vl) (v_thing : Vl) {v : Vl} {r : List Vl} {a : (Vl)} {s : Sto} : (lp_lets_around_1 (L := L) v_code v_name v_over v_under v_thing okT (v :: r) a s) = (patN ((pT2 pV pV) v) fun p => nb_lets_around_1 v_code v_name v_over v_under v_thing p.1 p.2 a s).lp (mk_lets_around_1 v_code v_name v_over v_under v_thing) s.length (lp_lets_around_1 v_code v_name v_over v_under v_thing okT r) := forN_cons
noncomputable def kt_lets_around_1 (v_code : Vl) (v_name : Vl) (v_over : Vl) (v_under : Vl) (v_thing : Vl) (v_goals : Vl) : Sto → An Unit Empty := fun s =>
  ((((R.of (phNeg (Vl.dat (.int 1)) s) s).bind fun x35 s36 => R.of (phIx v_thing x35 s36) s36).bind fun x37 s38 => R.of (phNe x37 v_under s38) s38).bind fun x39 s40 => R.of (bool? x39) s40).an fun c41 s42 => if c41 = true then
    ((((R.of (phNeg (Vl.dat (.int 1)) s42) s42).bind fun x43 s44 => R.ok [x43] s44).bind fun l45 s46 => R.ok ((Vl.dat (.str "last")) :: l45) s46).an fun x47 s48 => raise2N "NoPaper" "word" "at" x47 s48 : An Empty _).up
    else
    (R.ok (Vl.dat (.bool true)) s42).an fun x49 s50 => .rt x49 s50
noncomputable def n_lets_around (v_code : Vl) (v_name : Vl) (v_over : Vl) (v_under : Vl) (v_thing : Vl) : Sto → An Unit Empty := fun s =>
  ((((callN 1 G_is_numbers [v_thing] s).bind fun x1 s2 => R.of (tru x1 s2) s2).bind fun c3 s4 => R.ok (!c3) s4).bind fun c5 s6 => if c5 = true then R.ok true s6 else (R.of (tru v_thing s6) s6).bind fun c7 s8 => R.ok (!c7) s8).an fun c9 s10 => if c9 = true then
    ((((R.of (phNeg (Vl.dat (.int 1)) s10) s10).bind fun x11 s12 => R.ok [x11] s12).bind fun l13 s14 => R.ok ((Vl.dat (.str "shape")) :: l13) s14).an fun x15 s16 => raise2N "NoPaper" "word" "at" x15 s16 : An Empty _).up
    else
    (R.of (tupN [(Vl.dat (.int 0))]) s10).an fun v_goals s17 =>
    ((enN [v_thing] s17).an fun c31 s32 => lp_lets_around_1 v_code v_name v_over v_under v_thing c31.ok c31.items v_goals s32).thn fun j33 s34 => kt_lets_around_1 v_code v_name v_over v_under v_thing j33 s34
noncomputable def r_lets_around : MF := runN fun xs => match xs with
  | [v_code, v_name, v_over, v_under, v_thing] => n_lets_around v_code v_name v_over v_under v_thing
  | _ => fun _ => .bad
noncomputable def G_lets_around : MF := frameG (r_lets_around)
noncomputable def ce_is_rising_blocks_1  (v_one : Vl) (v_other : Vl) : Sto → R Vl := fun s => R.of (phLt v_one v_other s) s
noncomputable def n_is_rising_blocks (v_code : Vl) (v_name : Vl) (v_thing : Vl) : Sto → An Unit Empty := fun s =>
  ((((callN 1 G_is_numbers [v_thing] s).bind fun x1 s2 => R.of (tru x1 s2) s2).bind fun c3 s4 => R.ok (!c3) s4).bind fun c5 s6 => if c5 = true then R.ok true s6 else ((((lcP (((((R.of ((int? (Vl.dat (.int 1))).map some) s6).bind fun o7 s8 => R.of (phSl v_thing o7 none s8) s8).bind fun x9 s10 => R.ok [x9] s10).bind fun l11 s12 => R.ok (v_thing :: l11) s12).bind fun l13 s14 => zipN l13 s14) (pT2 pV pV) (fun p s => R.ok true s) (fun p s => ce_is_rising_blocks_1 p.1 p.2 s)).bind fun x15 s16 => R.ok [x15] s16).bind fun l17 s18 => R.of (phAll l17 s18) s18).bind fun x19 s20 => R.of (tru x19 s20) s20).bind fun c21 s22 => R.ok (!c21) s22).an fun c23 s24 => if c23 = true then
    ((R.ok (Vl.dat (.bool false)) s24).an fun x25 s26 => .rt x25 s26 : An Empty _).up
    else
    ((R.of (notV v_thing s24) s24).bind fun x27 s28 => orN x27 s28 (((R.of (phIx v_thing (Vl.dat (.int 0)) s28) s28).bind fun x29 s30 => R.of (phGe x29 (Vl.dat (.int 0)) s30) s30).bind fun x31 s32 => andN x31 s32 (((R.of (phNeg (Vl.dat (.int 1)) s32) s32).bind fun x33 s34 => R.of (phIx v_thing x33 s34) s34).bind fun x35 s36 => (((callN 2 G_blocks_of [v_code, v_name] s36).bind fun x37 s38 => R.ok [x37] s38).bind fun l39 s40 => R.of (phLen l39 s40) s40).bind fun x41 s42 => R.of (phLt x35 x41 s42) s42))).an fun x43 s44 => .rt x43 s44
noncomputable def r_is_rising_blocks : MF := runN fun xs => match xs with
  | [v_code, v_name, v_thing] => n_is_rising_blocks v_code v_name v_thing
  | _ => fun _ => .bad
noncomputable def G_is_rising_blocks : MF := frameG (r_is_rising_blocks)
def mk_lets_fence_1 (v_code : Vl) (v_name : Vl) (v_over : Vl) (v_under : Vl) (v_thing : Vl) : Unit → Loc := fun a => [some v_code, some v_name, some v_over, some v_under, some v_thing, none, none]
noncomputable def nb_lets_fence_1 (v_code : Vl) (v_name : Vl) (v_over : Vl) (v_under : Vl) (v_thing : Vl) (v_block : Vl) : Sto → An Unit Unit := fun s =>
  (((R.of (tupN [v_over, v_under]) s).bind fun x13 s14 => R.of ((phIn false) v_block x13 s14) s14).bind fun x15 s16 => R.of (bool? x15) s16).an fun c17 s18 => if c17 = true then
    (R.ok [(Vl.dat (.str "in")), v_block] s18).an fun x19 s20 => raise2N "NoPaper" "word" "at" x19 s20
    else
    .nx () s18
noncomputable def lp_lets_fence_1 {L : Type} (v_code : Vl) (v_name : Vl) (v_over : Vl) (v_under : Vl) (v_thing : Vl) (ck : Sto → Prop) : List Vl → Unit → Sto → An Unit L := forN ck (mk_lets_fence_1 v_code v_name v_over v_under v_thing) (fun v a s => patN (pV v) fun p => nb_lets_fence_1 v_code v_name v_over v_under v_thing p s)
@[simp] theorem lp_lets_fence_1_nil {L : Type} (v_code : Vl) (v_name : Vl) (v_over : Vl) (v_under : Vl) (v_thing : Vl) {a : Unit} {s : Sto} : (lp_lets_fence_1 (L := L) v_code v_name v_over v_under v_thing okT [] a s) = .nx a s := forN_nil
theorem lp_lets_fence_1_cons {L : Type} (v_code : Vl) (v_name : Vl) (v_over : Vl) (v_under : Vl) (v_thing : Vl) {v : Vl} {r : List Vl} {a : Unit} {s : Sto} : (lp_lets_fence_1 (L := L) v_code v_name v_over v_under v_thing okT (v :: r) a s) = (patN (pV v) fun p => nb_lets_fence_1 v_code v_name v_over v_under v_thing p s).lp (mk_lets_fence_1 v_code v_name v_over v_under v_thing) s.length (lp_lets_fence_1 v_code v_name v_over v_under v_thing okT r) := forN_cons
def mk_lets_fence_2 (v_code : Vl) (v_name : Vl) (v_over : Vl) (v_thing : Vl) : Unit → Loc := fun a => [some v_code, some v_name, some v_over, none, some v_thing, none, none]
noncomputable def ce_lets_fence_1 (v_over : Vl) (v_thing : Vl) (v_goal : Vl) : Sto → R Vl := fun s => (R.of (phEq v_goal v_over s) s).bind fun x41 s42 => orN x41 s42 (R.of ((phIn false) v_goal v_thing s42) s42)
noncomputable def nb_lets_fence_2 (v_code : Vl) (v_name : Vl) (v_over : Vl) (v_thing : Vl) (v_block : Vl) : Sto → An Unit Unit := fun s =>
  (((((lcP ((callN 3 G_nexts [v_code, v_name, v_block] s).bind fun x39 s40 => R.of (src x39 s40) s40) pV (fun p s => R.ok true s) (fun p s => ce_lets_fence_1 v_over v_thing p s)).bind fun x43 s44 => R.ok [x43] s44).bind fun l45 s46 => R.of (phAll l45 s46) s46).bind fun x47 s48 => R.of (tru x47 s48) s48).bind fun c49 s50 => R.ok (!c49) s50).an fun c51 s52 => if c51 = true then
    (R.ok [(Vl.dat (.str "next")), v_block] s52).an fun x53 s54 => raise2N "NoPaper" "word" "at" x53 s54
    else
    .nx () s52
noncomputable def lp_lets_fence_2 {L : Type} (v_code : Vl) (v_name : Vl) (v_over : Vl) (v_thing : Vl) (ck : Sto → Prop) : List Vl → Unit → Sto → An Unit L := forN ck (mk_lets_fence_2 v_code v_name v_over v_thing) (fun v a s => patN (pV v) fun p => nb_lets_fence_2 v_code v_name v_over v_thing p s)
@[simp] theorem lp_lets_fence_2_nil {L : Type} (v_code : Vl) (v_name : Vl) (v_over : Vl) (v_thing : Vl) {a : Unit} {s : Sto} : (lp_lets_fence_2 (L := L) v_code v_name v_over v_thing okT [] a s) = .nx a s := forN_nil
theorem lp_lets_fence_2_cons {L : Type} (v_code : Vl) (v_name : Vl) (v_over : Vl) (v_thing : Vl) {v : Vl} {r : List Vl} {a : Unit} {s : Sto} : (lp_lets_fence_2 (L := L) v_code v_name v_over v_thing okT (v :: r) a s) = (patN (pV v) fun p => nb_lets_fence_2 v_code v_name v_over v_thing p s).lp (mk_lets_fence_2 v_code v_name v_over v_thing) s.length (lp_lets_fence_2 v_code v_name v_over v_thing okT r) := forN_cons
noncomputable def kt_lets_fence_2 (v_code : Vl) (v_name : Vl) (v_over : Vl) (v_thing : Vl) : Sto → An Unit Empty := fun s =>
  (R.ok (Vl.dat (.bool true)) s).an fun x59 s60 => .rt x59 s60
noncomputable def kt_lets_fence_1 (v_code : Vl) (v_name : Vl) (v_over : Vl) (v_under : Vl) (v_thing : Vl) : Sto → An Unit Empty := fun s =>
  (((R.of (phNe v_over (Vl.dat (.int 0)) s) s).bind fun x25 s26 => R.of (bool? x25) s26).bind fun c27 s28 => if c27 = true then (R.of ((phIn true) (Vl.dat (.int 0)) v_thing s28) s28).bind fun x29 s30 => R.of (bool? x29) s30 else R.ok false s28).an fun c31 s32 => if c31 = true then
    ((((R.of (phNeg (Vl.dat (.int 1)) s32) s32).bind fun x33 s34 => R.ok [x33] s34).bind fun l35 s36 => R.ok ((Vl.dat (.str "first")) :: l35) s36).an fun x37 s38 => raise2N "NoPaper" "word" "at" x37 s38 : An Empty _).up
    else
    ((R.of (src v_thing s32) s32).an fun c55 s56 => lp_lets_fence_2 v_code v_name v_over v_thing c55.ok c55.items () s56).thn fun j57 s58 => kt_lets_fence_2 v_code v_name v_over v_thing  s58
noncomputable def n_lets_fence (v_code : Vl) (v_name : Vl) (v_over : Vl) (v_under : Vl) (v_thing : Vl) : Sto → An Unit Empty := fun s =>
  (((callN 3 G_is_rising_blocks [v_code, v_name, v_thing] s).bind fun x1 s2 => R.of (tru x1 s2) s2).bind fun c3 s4 => R.ok (!c3) s4).an fun c5 s6 => if c5 = true then
    ((((R.of (phNeg (Vl.dat (.int 1)) s6) s6).bind fun x7 s8 => R.ok [x7] s8).bind fun l9 s10 => R.ok ((Vl.dat (.str "shape")) :: l9) s10).an fun x11 s12 => raise2N "NoPaper" "word" "at" x11 s12 : An Empty _).up
    else
    ((R.of (src v_thing s6) s6).an fun c21 s22 => lp_lets_fence_1 v_code v_name v_over v_under v_thing c21.ok c21.items () s22).thn fun j23 s24 => kt_lets_fence_1 v_code v_name v_over v_under v_thing  s24
noncomputable def r_lets_fence : MF := runN fun xs => match xs with
  | [v_code, v_name, v_over, v_under, v_thing] => n_lets_fence v_code v_name v_over v_under v_thing
  | _ => fun _ => .bad
noncomputable def G_lets_fence : MF := frameG (r_lets_fence)
theorem lp_lets_around_eq {c : Cod} {nm : Str} {bs : List Blk} (hc : c.rts.lookup nm = some bs) (ok : GoIn bs) {o u : Int} {th : Vl} {L : Type} (s : Sto) : ∀ (ns : List Int) (k : Nat) (gs : List Int), (∀ g ∈ gs, 0 ≤ g ∧ g < (bs.length : Int)) →
    ∃ v, (lp_lets_around_1 (L := L) (.dat c.d) (.dat (.str nm)) (.dat (.int o)) (.dat (.int u)) th okT (pairs (ns.map PyData.int) k) (.dat (intsD gs)) s) = (match arN (goalsB bs) o gs k ns with
      | some (w, y) => .ex (papE w y) s
      | none => .nx v s)
  | [], k, gs, _ => ⟨_, by
    show lp_lets_around_1 (L := L) _ _ _ _ _ okT [] _ _ = _
    rw [lp_lets_around_1_nil]
    rfl⟩
  | b :: r, k, gs, hg => by
    show ∃ v, lp_lets_around_1 (L := L) _ _ _ _ _ okT (.dat (.tuple [.int (k : Nat), .int b]) :: pairs (r.map PyData.int) (k + 1)) _ _ = _
    rw [lp_lets_around_1_cons]
    by_cases hm : b ∈ gs
    · by_cases ho : b = o
      · refine ⟨.dat .none, ?_⟩
        rw [arN, if_neg (not_not_intro hm), if_pos ho]
        subst ho
        simp [nb_lets_around_1, intsD, phIn_t, hm, papE]
      · obtain ⟨b0, b1⟩ := hg b hm
        obtain ⟨x, hx, _⟩ := atI_in b0 b1
        obtain ⟨v, hv⟩ := lp_lets_around_eq hc ok (o := o) (u := u) (th := th) (L := L) s r (k + 1) (goalsB bs b) (fun g hg => ok.all (mem_goalsB.mp hg))
        refine ⟨v, ?_⟩
        have eg : goalsB bs b = x.fin.goals := by unfold goalsB; rw [hx]
        rw [arN, if_neg (not_not_intro hm), if_neg ho, ← hv, eg]
        simp [nb_lets_around_1, intsD, phIn_t, hm, ho, G_nexts_eq hc hx, tidy_same]
    · refine ⟨.dat .none, ?_⟩
      rw [arN, if_pos hm]
      simp [nb_lets_around_1, intsD, phIn_t, hm, papE]
def saidR (j : Option (Str × Int)) (s : Sto) : R Vl := match j with
  | some (w, y) => .ex (papE w y) s
  | none => .ok (.dat (.bool true)) s
theorem G_lets_around_eq {c : Cod} {nm : Str} {bs : List Blk} (hc : c.rts.lookup nm = some bs) (ok : GoIn bs) {o u : Int} {d : PyData} (hd : ∀ ds, d = .tuple ds → ds.length ≤ 1000) (s : Sto) : G_lets_around [.dat c.d, .dat (.str nm), .dat (.int o), .dat (.int u), .dat d] s = saidR (arJ (goalsB bs) o u d) s := by
  have key : ∀ s, r_lets_around [.dat c.d, .dat (.str nm), .dat (.int o), .dat (.int u), .dat d] s = saidR (arJ (goalsB bs) o u d) s := fun s => by
    rw [r_lets_around, runN_ap]
    have e1 := fun s => G_is_numbers_eq d s fun ds h => th_mil (hd ds h)
    have sh : dNums d = false → (n_lets_around (.dat c.d) (.dat (.str nm)) (.dat (.int o)) (.dat (.int u)) (.dat d) s).fin = saidR (some ("shape", -1)) s := fun hn => by
      simp [n_lets_around, e1, hn, saidR, papE]
    cases d with
    | tuple ds =>
      cases en : nums ds with
      | none =>
        rw [show arJ (goalsB bs) o u (.tuple ds) = some (("shape" : Str), (-1 : Int)) by simp only [arJ, en]]
        exact sh (by show ds.all dNum = false; rw [nums_all, en]; rfl)
      | some ns =>
        have := nums_eq en
        subst this
        cases ns with
        | nil =>
          have e1' := e1
          simp only [List.map_nil] at e1' ⊢
          simp [arJ, nums, saidR, papE, n_lets_around, e1', dNums]
        | cons n r =>
          have hnn : dNums (.tuple ((n :: r).map PyData.int)) = true := by show List.all _ dNum = true; rw [nums_all, en]; rfl
          obtain ⟨v, h1⟩ := lp_lets_around_eq hc ok (o := o) (u := u) (th := .dat (.tuple ((n :: r).map PyData.int))) (L := Empty) s (n :: r) 0 [0] (fun g hg => by
            have : g = 0 := by simpa using hg
            have := ok.1
            omega)
          have hlast : atI ((n :: r).map PyData.int) (-1) = some (.int ((n :: r).getLast (by simp))) := by
            rw [atI_last, List.getLast?_map, List.getLast?_eq_some_getLast (by simp)]
            rfl
          have ej : arJ (goalsB bs) o u (.tuple ((n :: r).map PyData.int)) = arL (goalsB bs) o u (n :: r) := by
            simp only [arJ, nums_map]
          rw [ej]
          unfold arL
          rw [List.getLast?_eq_some_getLast (by simp)]
          generalize (n :: r).getLast (by simp) = l at hlast ⊢
          simp only [List.map_cons, intsD, List.map_nil] at h1 hnn e1 hlast ⊢
          simp [n_lets_around, e1, hnn, src_ok_none, h1]
          cases ea : arN (goalsB bs) o [0] 0 (n :: r) with
          | some p => simp [saidR]
          | none =>
            by_cases hu : l = u
            · simp [kt_lets_around_1, hlast, hu, saidR]
            · simp [kt_lets_around_1, hlast, hu, saidR, papE]
    | _ => rw [sh rfl]; rfl
  cases ej : arJ (goalsB bs) o u d with
  | none => exact fr0 (s2 := []) ((key []).trans (by rw [ej]; rfl))
  | some p => exact fr0x (s2 := []) ((key []).trans (by rw [ej]; rfl))
theorem sIx_at (n d k : Nat) (h : k ≤ n) : HT.sIx n d (some (k : Int)) = k := by rw [HT.sIx_nat]; omega
theorem cut_to {α : Type} (ds : List α) {k : Nat} (h : k ≤ ds.length) : cut ds none (some (k : Int)) = ds.take k := by
  unfold cut
  rw [sIx_at _ _ _ h]
  show (ds.drop 0).take (k - 0) = _
  simp
theorem cut_from {α : Type} (ds : List α) {k : Nat} (h : k ≤ ds.length) : cut ds (some (k : Int)) none = ds.drop k := by
  unfold cut
  rw [sIx_at _ _ _ h]
  show (ds.drop k).take (ds.length - k) = _
  rw [List.take_of_length_le (by rw [List.length_drop]; omega)]
theorem zip_ints (l m : List Int) (s : Sto) : zipN [.dat (intsD l), .dat (intsD m)] s = .ok ⟨(l.zip m).map fun p => Vl.dat (.tuple [.int p.1, .int p.2]), none⟩ s := by
  show (if zOk (l.map PyData.int) (m.map PyData.int) = true then R.ok (Src.mk (zpairs (l.map PyData.int) (m.map PyData.int)) none) s else .bad) = _
  have hz : zOk (l.map PyData.int) (m.map PyData.int) = true := by
    unfold zOk
    have : (l.map PyData.int).any isO1 = false := by
      rw [List.any_eq_false]
      intro x hx
      obtain ⟨z, _, rfl⟩ := List.mem_map.mp hx
      simp [isO1]
    rw [this]; rfl
  have hzz : ∀ (a b : List Int), zpairs (a.map PyData.int) (b.map PyData.int) = (a.zip b).map fun p => Vl.dat (.tuple [.int p.1, .int p.2]) := by
    intro a
    induction a with
    | nil => intro b; cases b <;> rfl
    | cons k ks ih =>
      intro r
      cases r with
      | nil => rfl
      | cons x r =>
        show Vl.dat (.tuple [.int k, .int x]) :: zpairs (ks.map PyData.int) (r.map PyData.int) = _
        rw [ih r]
        rfl
  rw [if_pos hz, hzz]
theorem rise_zip : ∀ {zs : List Int}, zs.Pairwise (· < ·) → ∀ p ∈ zs.zip (zs.drop 1), p.1 < p.2
  | [], _, p, h => by simp at h
  | [a], _, p, h => by simp at h
  | a :: b :: r, h, p, hp => by
    rw [List.pairwise_cons] at h
    rcases List.mem_cons.mp (show p ∈ (a, b) :: (b :: r).zip ((b :: r).drop 1) from hp) with rfl | hp
    · exact h.1 b List.mem_cons_self
    · exact rise_zip h.2 p hp
theorem sl_one {zs : List Int} {s : Sto} : phSl (.dat (intsD zs)) (some 1) none s = some (.dat (intsD (zs.drop 1))) := by
  show some (Vl.dat (.tuple (cut (zs.map PyData.int) (some 1) none))) = _
  cases zs with
  | nil => rfl
  | cons a r =>
    have := cut_from (ds := (a :: r).map PyData.int) (k := 1) (by simp)
    have : cut ((a :: r).map PyData.int) (some 1) none = ((a :: r).map PyData.int).drop 1 := this
    rw [this, ← List.map_drop]
    rfl
theorem nums_int (zs : List Int) : dNums (intsD zs) = true := by
  show (zs.map PyData.int).all dNum = true
  rw [List.all_eq_true]
  intro x hx
  obtain ⟨z, _, rfl⟩ := List.mem_map.mp hx
  rfl
theorem G_nums_int {zs : List Int} (hl : zs.length ≤ 60) (s : Sto) : G_is_numbers [.dat (intsD zs)] s = .ok (.dat (.bool true)) s := by
  rw [G_is_numbers_eq (intsD zs) s fun ds h => by
    have h : PyData.tuple (zs.map PyData.int) = .tuple ds := h
    cases h
    rw [List.length_map]
    exact th_mil (by omega), nums_int]
theorem G_rising_eq {c : Cod} {nm : Str} {bs : List Blk} (hc : c.rts.lookup nm = some bs) {zs : List Int} (hr : zs.Pairwise (· < ·)) (hin : ∀ z ∈ zs, 0 ≤ z ∧ z < (bs.length : Int)) (hl : zs.length ≤ 60) (s : Sto) :
    G_is_rising_blocks [.dat c.d, .dat (.str nm), .dat (intsD zs)] s = .ok (.dat (.bool true)) s := by
  refine fr0 (s2 := []) ?_
  rw [r_is_rising_blocks, runN_ap]
  have e1 := fun s => G_nums_int (zs := zs) hl s
  have ez := zip_ints zs (zs.drop 1) []
  have el := lcP_map (s := ([] : Sto)) (a' := none) (l := zs.zip (zs.drop 1)) (pat := pT2 pV pV) (e := fun p s => ce_is_rising_blocks_1 p.1 p.2 s) (fun p => Vl.dat (.tuple [.int p.1, .int p.2])) (fun p => (Vl.dat (.int p.1), Vl.dat (.int p.2))) (fun p => .bool (decide (p.1 < p.2))) trivial (fun p _ => ⟨rfl, by simp [ce_is_rising_blocks_1]⟩) (by rw [List.length_zip, List.length_drop]; exact th_mil (by omega))
  have ea : ∀ s, phAll [.dat (.list ((zs.zip (zs.drop 1)).map fun p => PyData.bool (decide (p.1 < p.2))))] s = some (.dat (.bool true)) := fun s => by
    rw [phAll_l, bls_map]
    show some (Vl.dat (.bool _)) = _
    have : ((zs.zip (zs.drop 1)).map fun p => decide (p.1 < p.2)).all id = true := by
      rw [List.all_eq_true]
      intro x hx
      obtain ⟨p, hp, rfl⟩ := List.mem_map.mp hx
      exact decide_eq_true (rise_zip hr p hp)
    rw [this]
  refine wp_of (Q := fun z => An.fin z = _) ?_
  simp only [n_is_rising_blocks]
  refine wp_if (b := false) (s := []) ?_ ?_
  · simp only [callN_ap, List.length_cons, List.length_nil, List.all_cons, List.all_nil, noX, Bool.and_self, and_self, if_true, e1, R.bind_ok]
    have ht : ∀ b : Bool, tru (.dat (.bool b)) ([] : Sto) = some b := fun b => rfl
    simp only [ht, R.of_some, R.bind_ok, Bool.not_true, Bool.false_eq_true, if_false, int?, Option.map_some, sl_one, ez, el, ea]
  rw [if_neg Bool.false_ne_true]
  cases zs with
  | nil => simp [Wp, notV, intsD, orN, tru]
  | cons z r =>
    have hz := hin z List.mem_cons_self
    have hlast := hin _ (List.getLast_mem (show z :: r ≠ [] by simp))
    have el : atI ((z :: r).map PyData.int) (-1) = some (.int ((z :: r).getLast (by simp))) := by
      rw [atI_last, List.getLast?_map, List.getLast?_eq_some_getLast (by simp)]
      rfl
    have e0 : atI ((z :: r).map PyData.int) 0 = some (.int z) := by
      show atI _ ((0 : Nat) : Int) = _
      rw [atI_nat']
      rfl
    generalize (z :: r).getLast (by simp) = l at el hlast
    rw [List.map_cons] at el e0
    have enot : notV (.dat (intsD (z :: r))) ([] : Sto) = some (.dat (.bool false)) := rfl
    have eb := G_blocks_of_eq hc
    have hblen : ∀ s, phLen [.dat (blksD bs)] s = some (.dat (.int (bs.length : Int))) := fun s => by
      show some (Vl.dat (.int ((bs.map Blk.d).length : Int))) = _
      rw [List.length_map]
    simp only [Wp, enot, R.of_some, R.bind_ok, orN, tru]
    simp [intsD, e0, el, eb, hblen, andN, tru, hz.1, hlast.2]
/-- whether a rising list is let as a fence -/
def fenB (bs : List Blk) (o u : Int) (zs : List Int) : Bool := (zs.all fun b => decide (b ≠ o ∧ b ≠ u)) && (decide (o = 0 ∨ 0 ∈ zs) && zs.all fun b => (goalsB bs b).all fun g => decide (g = o ∨ g ∈ zs))
theorem lp_fence1 {c nm th : Vl} {o u : Int} {L : Type} (s : Sto) : ∀ zs : List Int, (zs.all (fun b => decide (b ≠ o ∧ b ≠ u)) = true → (lp_lets_fence_1 (L := L) c nm (.dat (.int o)) (.dat (.int u)) th okT (zs.map fun z => .dat (.int z)) () s) = .nx () s) ∧
    (zs.all (fun b => decide (b ≠ o ∧ b ≠ u)) = false → ∃ e, (lp_lets_fence_1 (L := L) c nm (.dat (.int o)) (.dat (.int u)) th okT (zs.map fun z => .dat (.int z)) () s) = .ex ("NoPaper", e) s)
  | [] => ⟨fun _ => by rw [List.map_nil, lp_lets_fence_1_nil], fun h => by simp at h⟩
  | z :: zs => by
    have hin : ∀ s, phIn false (.dat (.int z)) (.dat (.tuple [.int o, .int u])) s = some (.dat (.bool (decide (z ∈ [o, u])))) := fun s => phIn_t (neg := false) (zs := [o, u])
    obtain ⟨i1, i2⟩ := lp_fence1 (c := c) (nm := nm) (th := th) (o := o) (u := u) (L := L) s zs
    rw [List.all_cons, List.map_cons, lp_lets_fence_1_cons, pV_ap, patN_some]
    by_cases h : z ∈ [o, u]
    · have hz : decide (z ≠ o ∧ z ≠ u) = false := by
        rw [decide_eq_false_iff_not]
        rintro ⟨h1, h2⟩
        simp [h1, h2] at h
      rw [hz]
      refine ⟨fun z => by simp at z, fun _ => ⟨[("at", .int z), ("word", .str "in")], ?_⟩⟩
      have h' : z = o ∨ z = u := by simpa using h
      simp [nb_lets_fence_1, hin, h']
    · have hz : decide (z ≠ o ∧ z ≠ u) = true := by
        rw [decide_eq_true_iff]
        exact ⟨fun e => h (by simp [e]), fun e => h (by simp [e])⟩
      rw [hz, Bool.true_and]
      have hb : nb_lets_fence_1 c nm (.dat (.int o)) (.dat (.int u)) th (.dat (.int z)) s = .nx () s := by
        have h' : ¬ z = o ∧ ¬ z = u := by simpa using h
        simp [nb_lets_fence_1, hin, h'.1, h'.2]
      rw [hb, lp_nx, tidy_same (by simp)]
      exact ⟨i1, i2⟩
theorem lp_fence2 {c : Cod} {nm : Str} {bs : List Blk} (hc : c.rts.lookup nm = some bs) {o : Int} {ws : List Int} {L : Type} (s : Sto) : ∀ zs : List Int, (∀ z ∈ zs, 0 ≤ z ∧ z < (bs.length : Int)) → (zs.all (fun b => (goalsB bs b).all fun g => decide (g = o ∨ g ∈ ws)) = true → (lp_lets_fence_2 (L := L) (.dat c.d) (.dat (.str nm)) (.dat (.int o)) (.dat (intsD ws)) okT (zs.map fun z => .dat (.int z)) () s) = .nx () s) ∧
    (zs.all (fun b => (goalsB bs b).all fun g => decide (g = o ∨ g ∈ ws)) = false → ∃ e, (lp_lets_fence_2 (L := L) (.dat c.d) (.dat (.str nm)) (.dat (.int o)) (.dat (intsD ws)) okT (zs.map fun z => .dat (.int z)) () s) = .ex ("NoPaper", e) s)
  | [], _ => ⟨fun _ => by rw [List.map_nil, lp_lets_fence_2_nil], fun h => by simp at h⟩
  | z :: zs, hz => by
    obtain ⟨i1, i2⟩ := lp_fence2 hc (o := o) (ws := ws) (L := L) s zs fun x hx => hz x (List.mem_cons_of_mem _ hx)
    rw [List.all_cons, List.map_cons, lp_lets_fence_2_cons, pV_ap, patN_some]
    obtain ⟨z0, z1⟩ := hz z List.mem_cons_self
    obtain ⟨x, hx, _⟩ := atI_in z0 z1
    have eg : goalsB bs z = x.fin.goals := by unfold goalsB; rw [hx]
    have hg2 := goalsB_len (bs := bs) (b := z)
    have el := lcP_map (s := s) (a' := none) (l := goalsB bs z) (pat := pV) (e := fun p s => ce_lets_fence_1 (.dat (.int o)) (.dat (intsD ws)) p s) (fun g => Vl.dat (.int g)) (fun g => Vl.dat (.int g)) (fun g => .bool (decide (g = o ∨ g ∈ ws))) trivial (fun g _ => ⟨rfl, by
      by_cases ho : g = o
      · simp [ce_lets_fence_1, ho, orN, tru]
      · simp [ce_lets_fence_1, ho, orN, tru, intsD, phIn_t]⟩) (th_mil (by omega))
    have en : ∀ s, G_nexts [.dat c.d, .dat (.str nm), .dat (.int z)] s = .ok (.dat (intsD (goalsB bs z))) s := fun s => by rw [G_nexts_eq hc hx, eg]
    have es : src (.dat (intsD (goalsB bs z))) s = some ⟨(goalsB bs z).map fun g => Vl.dat (.int g), none⟩ := by
      show some (Src.mk (((goalsB bs z).map PyData.int).map Vl.dat) none) = _
      rw [List.map_map]
      rfl
    have ea : ∀ s, phAll [.dat (.list ((goalsB bs z).map fun g => PyData.bool (decide (g = o ∨ g ∈ ws))))] s = some (.dat (.bool ((goalsB bs z).all fun g => decide (g = o ∨ g ∈ ws)))) := fun s => by
      rw [phAll_l, bls_map]
      show some (Vl.dat (.bool _)) = _
      rw [List.all_map]
      rfl
    have ht : ∀ (b : Bool) (s : Sto), tru (.dat (.bool b)) s = some b := fun b s => rfl
    have hb : nb_lets_fence_2 (.dat c.d) (.dat (.str nm)) (.dat (.int o)) (.dat (intsD ws)) (.dat (.int z)) s = if (goalsB bs z).all (fun g => decide (g = o ∨ g ∈ ws)) = true then .nx () s else .ex ("NoPaper", [("at", .int z), ("word", .str "next")]) s := by
      simp only [nb_lets_fence_2, callN_ap, List.length_cons, List.length_nil, List.all_cons, List.all_nil, noX, Bool.and_self, and_self, if_true, en, R.bind_ok, es, R.of_some, el, ea, ht, R.an_ok]
      cases (goalsB bs z).all fun g => decide (g = o ∨ g ∈ ws) <;> simp
    rw [hb]
    cases h : (goalsB bs z).all fun g => decide (g = o ∨ g ∈ ws) with
    | true =>
      rw [if_pos rfl, lp_nx, tidy_same (by simp), Bool.true_and]
      exact ⟨i1, i2⟩
    | false =>
      rw [if_neg Bool.false_ne_true]
      exact ⟨fun z => by simp at z, fun _ => ⟨[("at", .int z), ("word", .str "next")], by simp⟩⟩
theorem G_lets_fence_eq {c : Cod} {nm : Str} {bs : List Blk} (hc : c.rts.lookup nm = some bs) {o u : Int} {zs : List Int} (hr : zs.Pairwise (· < ·)) (hin : ∀ z ∈ zs, 0 ≤ z ∧ z < (bs.length : Int)) (hl : zs.length ≤ 60) (s : Sto) :
    (fenB bs o u zs = true → G_lets_fence [.dat c.d, .dat (.str nm), .dat (.int o), .dat (.int u), .dat (intsD zs)] s = .ok (.dat (.bool true)) s) ∧ (fenB bs o u zs = false → ∃ e, G_lets_fence [.dat c.d, .dat (.str nm), .dat (.int o), .dat (.int u), .dat (intsD zs)] s = .ex ("NoPaper", e) s) := by
  have er := fun s => G_rising_eq hc hr hin hl s
  have es : src (.dat (intsD zs)) ([] : Sto) = some ⟨zs.map fun g => Vl.dat (.int g), none⟩ := by
    show some (Src.mk ((zs.map PyData.int).map Vl.dat) none) = _
    rw [List.map_map]
    rfl
  obtain ⟨a1, a2⟩ := lp_fence1 (c := .dat c.d) (nm := .dat (.str nm)) (th := .dat (intsD zs)) (o := o) (u := u) (L := Empty) [] zs
  obtain ⟨b1, b2⟩ := lp_fence2 hc (o := o) (ws := zs) (L := Empty) [] zs hin
  have i0 : ∀ s, phIn true (.dat (.int 0)) (.dat (intsD zs)) s = some (.dat (.bool (!decide (0 ∈ zs)))) := fun s => phIn_t (neg := true)
  have ht : ∀ (b : Bool) (s : Sto), tru (.dat (.bool b)) s = some b := fun b s => rfl
  have key : (fenB bs o u zs = true → r_lets_fence [.dat c.d, .dat (.str nm), .dat (.int o), .dat (.int u), .dat (intsD zs)] [] = .ok (.dat (.bool true)) []) ∧ (fenB bs o u zs = false → ∃ e, r_lets_fence [.dat c.d, .dat (.str nm), .dat (.int o), .dat (.int u), .dat (intsD zs)] [] = .ex ("NoPaper", e) []) := by
    rw [r_lets_fence, runN_ap]
    unfold fenB
    cases h1 : zs.all (fun b => decide (b ≠ o ∧ b ≠ u)) with
    | false =>
      obtain ⟨e, he⟩ := a2 h1
      refine ⟨fun z => by simp at z, fun _ => ⟨e, ?_⟩⟩
      simp [n_lets_fence, er, ht, es, src_ok_none, he]
    | true =>
      have e1 := a1 h1
      by_cases h2 : o = 0 ∨ 0 ∈ zs
      · have hk : kt_lets_fence_1 (.dat c.d) (.dat (.str nm)) (.dat (.int o)) (.dat (.int u)) (.dat (intsD zs)) [] = (lp_lets_fence_2 (L := Empty) (.dat c.d) (.dat (.str nm)) (.dat (.int o)) (.dat (intsD zs)) okT (zs.map fun z => .dat (.int z)) () []).thn fun _ s => kt_lets_fence_2 (.dat c.d) (.dat (.str nm)) (.dat (.int o)) (.dat (intsD zs)) s := by
          by_cases h0 : o = 0
          · simp [kt_lets_fence_1, h0, es, src_ok_none]
          · have hm := h2.resolve_left h0
            simp [kt_lets_fence_1, h0, i0, hm, es, src_ok_none]
        rw [decide_eq_true h2]
        simp only [Bool.true_and]
        have top : (n_lets_fence (.dat c.d) (.dat (.str nm)) (.dat (.int o)) (.dat (.int u)) (.dat (intsD zs)) []).fin = (kt_lets_fence_1 (.dat c.d) (.dat (.str nm)) (.dat (.int o)) (.dat (.int u)) (.dat (intsD zs)) []).fin := by
          simp [n_lets_fence, er, ht, es, src_ok_none, e1]
        rw [top, hk]
        refine ⟨fun h => ?_, fun h => ?_⟩
        · rw [b1 h]
          simp [kt_lets_fence_2]
        · obtain ⟨e, he⟩ := b2 h
          exact ⟨e, by rw [he]; simp⟩
      · rw [not_or] at h2
        rw [decide_eq_false (fun z => z.elim h2.1 h2.2)]
        refine ⟨fun z => by simp at z, fun _ => ⟨[("at", .int (-1)), ("word", .str "first")], ?_⟩⟩
        simp [n_lets_fence, er, ht, es, src_ok_none, e1, kt_lets_fence_1, h2.1, h2.2, i0]
  exact ⟨fun h => fr0 (s2 := []) (key.1 h), fun h => by
    obtain ⟨e, he⟩ := key.2 h
    exact ⟨e, fr0x (s2 := []) he⟩⟩
end Pm
set_option maxRecDepth 100000
set_option maxHeartbeats 4000000
namespace Pm
open PySem PySem.Spec PyProof.Rows L2 Sw
theorem forN_same {S L : Type} {mk : S → Loc} {nb : Vl → S → Sto → An S S} {a : S} {s : Sto} : ∀ {items : List Vl}, (∀ v ∈ items, nb v a s = .nx a s) → (forN okT mk nb items a s : An S L) = .nx a s
  | [], _ => forN_nil
  | v :: r, h => by
    rw [forN_cons, h v List.mem_cons_self, lp_nx, tidy_same rfl]
    exact forN_same fun w hw => h w (List.mem_cons_of_mem _ hw)
/-- data whose text is at hand -/
structure Rpr (d : PyData) : Prop where
  sh : d.showable = true
  nd : d.hasDict = false
  dp : d.depth ≤ 60
  ln : d.shown.length ≤ sizeLine
theorem Rpr.of {M l n B : Nat} {d : PyData} (h : Fit M l n B d) (hM : M < 10 ^ 240) (hn : n ≤ 60) (hB : B ≤ 16000000) : Rpr d :=
  ⟨leaf_shows (Nat.lt_trans hM (by decide)) d h.lf, leaf_noDict d h.lf, Nat.le_trans h.dp hn, Nat.le_trans (shown_wt hM d h.lf) (by rw [sizeLine_eq]; have := h.wg; omega)⟩
theorem rgs_mem {lo : Int} {n : Nat} {v : Vl} (h : v ∈ rgs lo n) : ∃ i : Int, v = .dat (.int i) ∧ lo ≤ i ∧ i < lo + n := by
  unfold rgs at h
  obtain ⟨k, hk, rfl⟩ := List.mem_map.mp h
  have := List.mem_range.mp hk
  exact ⟨lo + k, rfl, by omega, by omega⟩
def pv (bs : List Blk) (k : Nat) : Vl := match bs[k]? with
  | some b => .dat (.tuple [.int (k : Int), b.d])
  | none => .dat .none
noncomputable def ct_befores_1 (v_block : Vl) (v_end : Vl) : Sto → R Bool := fun s => ((callN 1 G_goals [v_end] s).bind fun x5 s6 => R.of ((phIn false) v_block x5 s6) s6).bind fun x7 s8 => R.of (bool? x7) s8
noncomputable def ce_befores_2  (v_other : Vl) : Sto → R Vl := fun s => R.ok v_other s
noncomputable def n_befores (v_code : Vl) (v_name : Vl) (v_block : Vl) : Sto → An Unit Empty := fun s =>
  (((lcP (((callN 2 G_blocks_of [v_code, v_name] s).bind fun x1 s2 => R.ok [x1] s2).bind fun l3 s4 => enN l3 s4) (pT2 pV (pT2 pV pV)) (fun p s => ct_befores_1 v_block p.2.2 s) (fun p s => ce_befores_2 p.1 s)).bind fun x9 s10 => R.ok [x9] s10).bind fun l11 s12 => R.of (phTuple l11 s12) s12).an fun x13 s14 => .rt x13 s14
noncomputable def r_befores : MF := runN fun xs => match xs with
  | [v_code, v_name, v_block] => n_befores v_code v_name v_block
  | _ => fun _ => .bad
noncomputable def G_befores : MF := frameG (r_befores)
def mk_law_goes_1 (w_blocks : Vl) (w_found : Vl) : Unit → Loc := fun a => [some w_blocks, some w_found, none, none, none, none]
noncomputable def ct_law_goes_1 (w_parts : Vl) (w_block : Vl) : Sto → R Bool := fun s => (R.of ((phIn false) w_block w_parts s) s).bind fun x28 s29 => R.of (bool? x28) s29
noncomputable def ce_law_goes_2  (w_block : Vl) : Sto → R Vl := fun s => R.ok w_block s
noncomputable def nb_law_goes_1 (w_blocks : Vl) (w_found : Vl) (w_rows : Vl) (w_end_here : Vl) : Sto → An Unit Unit := fun s =>
  (((((R.of ((int? (Vl.dat (.int 1))).map some) s).bind fun o3 s4 => R.of (phSl w_end_here o3 none s4) s4).bind fun x5 s6 => (((R.of ((int? (Vl.dat (.int 2))).map some) s6).bind fun o7 s8 => R.of (phSl w_end_here o7 none s8) s8).bind fun x9 s10 => ((R.of (tupN []) s10).bind fun x11 s12 => R.ok [((Vl.dat (.str "back")), x11)] s12).bind fun l13 s14 => R.ok (((Vl.dat (.str "if")), x9) :: l13) s14).bind fun l15 s16 => R.ok (((Vl.dat (.str "go")), x5) :: l15) s16).bind fun l17 s18 => R.of (dispD l17) s18).bind fun x19 s20 => (R.of (phIx w_end_here (Vl.dat (.int 0)) s20) s20).bind fun x21 s22 => R.of (phIx x19 x21 s22) s22).an fun w_parts s2 =>
    (appN w_found s2 (fun s23 => (lcP (((R.of (phLen [w_blocks] s23) s23).bind fun x24 s25 => R.ok [x24] s25).bind fun l26 s27 => rngN1 l26 s27) pV (fun p s => ct_law_goes_1 w_parts p s) (fun p s => ce_law_goes_2 p s)).bind fun x30 s31 => R.ok [x30] s31)).an fun _ s32 =>
    .nx () s32
noncomputable def lp_law_goes_1 {L : Type} (w_blocks : Vl) (w_found : Vl) (ck : Sto → Prop) : List Vl → Unit → Sto → An Unit L := forN ck (mk_law_goes_1 w_blocks w_found) (fun v a s => patN ((pT2 pV pV) v) fun p => nb_law_goes_1 w_blocks w_found p.1 p.2 s)
@[simp] theorem lp_law_goes_1_nil {L : Type} (w_blocks : Vl) (w_found : Vl) {a : Unit} {s : Sto} : (lp_law_goes_1 (L := L) w_blocks w_found okT [] a s) = .nx a s := forN_nil
noncomputable def kt_law_goes_1 (w_blocks : Vl) (w_found : Vl) : Sto → An Unit Empty := fun s =>
  (R.ok w_found s).an fun x37 s38 => .rt x37 s38
noncomputable def n_law_goes (w_blocks : Vl) : Sto → An Unit Empty := fun s =>
  (newN [] s).an fun w_found s1 =>
    ((R.of (src w_blocks s1) s1).an fun c33 s34 => lp_law_goes_1 w_blocks w_found c33.ok c33.items () s34).thn fun j35 s36 => kt_law_goes_1 w_blocks w_found  s36
noncomputable def r_law_goes : MF := runN fun xs => match xs with
  | [w_blocks] => n_law_goes w_blocks
  | _ => fun _ => .bad
noncomputable def G_law_goes : MF := frameG (r_law_goes)
def mk_law_comes_k07_1 (w_arrows : Vl) (w_found : Vl) : Unit → Loc := fun a => [some w_arrows, some w_found, none, none, none]
def mk_law_comes_k07_2 (w_arrows : Vl) (w_found : Vl) : Unit → Loc := fun a => [some w_arrows, some w_found, none, none, none]
noncomputable def ct_law_comes_k07_1 (w_arrows : Vl) (w_block : Vl) (w_one : Vl) : Sto → R Bool := fun s => ((R.of (phIx w_arrows w_one s) s).bind fun x14 s15 => R.of ((phIn false) w_block x14 s15) s15).bind fun x16 s17 => R.of (bool? x16) s17
noncomputable def ce_law_comes_k07_2  (w_one : Vl) : Sto → R Vl := fun s => R.ok w_one s
noncomputable def nb_law_comes_k07_2 (w_arrows : Vl) (w_found : Vl) (w_block : Vl) : Sto → An Unit Unit := fun s =>
  (((R.of ((phIn true) w_block w_found s) s).bind fun x10 s11 => R.of (bool? x10) s11).bind fun c12 s13 => if c12 = true then ((lcP (R.of (src w_found s13) s13) pV (fun p s => ct_law_comes_k07_1 w_arrows w_block p s) (fun p s => ce_law_comes_k07_2 p s)).bind fun x18 s19 => (R.of (lstN []) s19).bind fun x20 s21 => R.of (phNe x18 x20 s21) s21).bind fun x22 s23 => R.of (bool? x22) s23 else R.ok false s13).an fun c24 s25 => if c24 = true then
    (appN w_found s25 (fun s26 => R.ok [w_block] s26)).an fun _ s27 =>
      .nx () s27
    else
    .nx () s25
noncomputable def lp_law_comes_k07_2 {L : Type} (w_arrows : Vl) (w_found : Vl) (ck : Sto → Prop) : List Vl → Unit → Sto → An Unit L := forN ck (mk_law_comes_k07_2 w_arrows w_found) (fun v a s => patN (pV v) fun p => nb_law_comes_k07_2 w_arrows w_found p s)
@[simp] theorem lp_law_comes_k07_2_nil {L : Type} (w_arrows : Vl) (w_found : Vl) {a : Unit} {s : Sto} : (lp_law_comes_k07_2 (L := L) w_arrows w_found okT [] a s) = .nx a s := forN_nil
noncomputable def kt_law_comes_k07_1 (w_arrows : Vl) (w_found : Vl) : Sto → An Unit Unit := fun s =>
  .nx () s
noncomputable def nb_law_comes_k07_1 (w_arrows : Vl) (w_found : Vl) (w_turn : Vl) : Sto → An Unit Unit := fun s =>
  ((((R.of (phLen [w_arrows] s) s).bind fun x6 s7 => R.ok [x6] s7).bind fun l8 s9 => rngN1 l8 s9).an fun c28 s29 => lp_law_comes_k07_2 w_arrows w_found c28.ok c28.items () s29).thn fun j30 s31 => kt_law_comes_k07_1 w_arrows w_found  s31
noncomputable def lp_law_comes_k07_1 {L : Type} (w_arrows : Vl) (w_found : Vl) (ck : Sto → Prop) : List Vl → Unit → Sto → An Unit L := forN ck (mk_law_comes_k07_1 w_arrows w_found) (fun v a s => patN (pV v) fun p => nb_law_comes_k07_1 w_arrows w_found p s)
@[simp] theorem lp_law_comes_k07_1_nil {L : Type} (w_arrows : Vl) (w_found : Vl) {a : Unit} {s : Sto} : (lp_law_comes_k07_1 (L := L) w_arrows w_found okT [] a s) = .nx a s := forN_nil
noncomputable def kt_law_comes_k07_2 (w_arrows : Vl) (w_found : Vl) : Sto → An Unit Empty := fun s =>
  (R.of (phSorted [w_found] s) s).an fun x36 s37 => .rt x36 s37
noncomputable def n_law_comes_k07 (w_arrows : Vl) : Sto → An Unit Empty := fun s =>
  (newN [(Vl.dat (.int 0))] s).an fun w_found s1 =>
    ((((R.of (phLen [w_arrows] s1) s1).bind fun x2 s3 => R.ok [x2] s3).bind fun l4 s5 => rngN1 l4 s5).an fun c32 s33 => lp_law_comes_k07_1 w_arrows w_found c32.ok c32.items () s33).thn fun j34 s35 => kt_law_comes_k07_2 w_arrows w_found  s35
noncomputable def r_law_comes_k07 : MF := runN fun xs => match xs with
  | [w_arrows] => n_law_comes_k07 w_arrows
  | _ => fun _ => .bad
noncomputable def G_law_comes_k07 : MF := frameG (r_law_comes_k07)
def mk_law_right_k07_1 (w_code_here : Vl) : Unit → Loc := fun a => [some w_code_here, none, none, none, none, none, none, none]
def mk_law_right_k07_2 (w_code_here : Vl) (w_name : Vl) (w_blocks : Vl) (w_arrows : Vl) : Unit → Loc := fun a => [some w_code_here, some w_name, some w_blocks, some w_arrows, none, none, none, none]
noncomputable def ct_law_right_k07_1 (w_arrows : Vl) (w_block : Vl) (w_one : Vl) : Sto → R Bool := fun s => ((R.of (phIx w_arrows w_one s) s).bind fun x13 s14 => R.of ((phIn false) w_block x13 s14) s14).bind fun x15 s16 => R.of (bool? x15) s16
noncomputable def ce_law_right_k07_2  (w_one : Vl) : Sto → R Vl := fun s => R.ok w_one s
noncomputable def nb_law_right_k07_2 (w_code_here : Vl) (w_name : Vl) (w_blocks : Vl) (w_arrows : Vl) (w_block : Vl) : Sto → An Unit Unit := fun s =>
  (lcP (((R.of (phLen [w_blocks] s) s).bind fun x9 s10 => R.ok [x9] s10).bind fun l11 s12 => rngN1 l11 s12) pV (fun p s => ct_law_right_k07_1 w_arrows w_block p s) (fun p s => ce_law_right_k07_2 p s)).an fun w_ahead s8 =>
    (((callN 3 G_nexts [w_code_here, w_name, w_block] s8).bind fun x18 s19 => ((callN 3 G_befores [w_code_here, w_name, w_block] s19).bind fun x20 s21 => R.ok [x20] s21).bind fun l22 s23 => R.ok (x18 :: l22) s23).bind fun l24 s25 => R.of (tupN l24) s25).an fun w_told s17 =>
    (((R.of (phRepr [w_told] s17) s17).bind fun x26 s27 => (((((((R.of (phIx w_arrows w_block s27) s27).bind fun x28 s29 => R.ok [x28] s29).bind fun l30 s31 => R.of (phTuple l30 s31) s31).bind fun x32 s33 => ((R.of (phTuple [w_ahead] s33) s33).bind fun x34 s35 => R.ok [x34] s35).bind fun l36 s37 => R.ok (x32 :: l36) s37).bind fun l38 s39 => R.of (tupN l38) s39).bind fun x40 s41 => R.ok [x40] s41).bind fun l42 s43 => R.of (phRepr l42 s43) s43).bind fun x44 s45 => R.of (phNe x26 x44 s45) s45).bind fun x46 s47 => R.of (bool? x46) s47).an fun c48 s49 => if c48 = true then
    (R.ok (Vl.dat (.bool false)) s49).an fun x50 s51 => .rt x50 s51
    else
    .nx () s49
noncomputable def lp_law_right_k07_2 {L : Type} (w_code_here : Vl) (w_name : Vl) (w_blocks : Vl) (w_arrows : Vl) (ck : Sto → Prop) : List Vl → Unit → Sto → An Unit L := forN ck (mk_law_right_k07_2 w_code_here w_name w_blocks w_arrows) (fun v a s => patN (pV v) fun p => nb_law_right_k07_2 w_code_here w_name w_blocks w_arrows p s)
@[simp] theorem lp_law_right_k07_2_nil {L : Type} (w_code_here : Vl) (w_name : Vl) (w_blocks : Vl) (w_arrows : Vl) {a : Unit} {s : Sto} : (lp_law_right_k07_2 (L := L) w_code_here w_name w_blocks w_arrows okT [] a s) = .nx a s := forN_nil
noncomputable def kt_law_right_k07_1 (w_code_here : Vl) (w_name : Vl) (w_blocks : Vl) (w_arrows : Vl) : Sto → An Unit Unit := fun s =>
  (((((callN 2 G_reached [w_code_here, w_name] s).bind fun x56 s57 => R.ok [x56] s57).bind fun l58 s59 => R.of (phRepr l58 s59) s59).bind fun x60 s61 => (((((callN 1 G_law_comes_k07 [w_arrows] s61).bind fun x62 s63 => R.ok [x62] s63).bind fun l64 s65 => R.of (phTuple l64 s65) s65).bind fun x66 s67 => R.ok [x66] s67).bind fun l68 s69 => R.of (phRepr l68 s69) s69).bind fun x70 s71 => R.of (phNe x60 x70 s71) s71).bind fun x72 s73 => R.of (bool? x72) s73).an fun c74 s75 => if c74 = true then
    (R.ok (Vl.dat (.bool false)) s75).an fun x76 s77 => .rt x76 s77
    else
    .nx () s75
noncomputable def nb_law_right_k07_1 (w_code_here : Vl) (w_name : Vl) (w_blocks : Vl) : Sto → An Unit Unit := fun s =>
  (callN 1 G_law_goes [w_blocks] s).an fun w_arrows s3 =>
    ((((R.of (phLen [w_blocks] s3) s3).bind fun x4 s5 => R.ok [x4] s5).bind fun l6 s7 => rngN1 l6 s7).an fun c52 s53 => lp_law_right_k07_2 w_code_here w_name w_blocks w_arrows c52.ok c52.items () s53).thn fun j54 s55 => kt_law_right_k07_1 w_code_here w_name w_blocks w_arrows  s55
noncomputable def lp_law_right_k07_1 {L : Type} (w_code_here : Vl) (ck : Sto → Prop) : List Vl → Unit → Sto → An Unit L := forN ck (mk_law_right_k07_1 w_code_here) (fun v a s => patN ((pT2 pV pV) v) fun p => nb_law_right_k07_1 w_code_here p.1 p.2 s)
@[simp] theorem lp_law_right_k07_1_nil {L : Type} (w_code_here : Vl) {a : Unit} {s : Sto} : (lp_law_right_k07_1 (L := L) w_code_here okT [] a s) = .nx a s := forN_nil
end Pm
set_option maxRecDepth 100000
set_option maxHeartbeats 4000000
namespace Pm
open PySem PySem.Spec PyProof.Rows L2 Sw
def mk_law_fences_1  : (Vl) → Loc := fun a => [none, some a, none, none]
noncomputable def ce_law_fences_1 (w_block : Vl) (w_shut : Vl) : Sto → R Vl := fun s => (R.of (tupN [w_block]) s).bind fun x7 s8 => R.of (phAdd w_shut x7 s8) s8
noncomputable def nb_law_fences_1  (w_block : Vl) (w_found : Vl) : Sto → An (Vl) (Vl) := fun s =>
  ((lcP (R.of (src w_found s) s) pV (fun p s => R.ok true s) (fun p s => ce_law_fences_1 w_block p s)).bind fun x9 s10 => R.of (phAdd w_found x9 s10) s10).an fun w_found s6 =>
    .nx w_found s6
noncomputable def lp_law_fences_1 {L : Type}  (ck : Sto → Prop) : List Vl → (Vl) → Sto → An (Vl) L := forN ck mk_law_fences_1 (fun v a s => patN (pV v) fun p => nb_law_fences_1 p a s)
@[simp] theorem lp_law_fences_1_nil {L : Type}  {a : (Vl)} {s : Sto} : (lp_law_fences_1 (L := L)  okT [] a s) = .nx a s := forN_nil
theorem lp_law_fences_1_cons {L : Type}  {v : Vl} {r : List Vl} {a : (Vl)} {s : Sto} : (lp_law_fences_1 (L := L)  okT (v :: r) a s) = (patN (pV v) fun p => nb_law_fences_1 p a s).lp mk_law_fences_1 s.length (lp_law_fences_1  okT r) := forN_cons
noncomputable def kt_law_fences_1  (w_found : Vl) : Sto → An Unit Empty := fun s =>
  (R.ok w_found s).an fun x15 s16 => .rt x15 s16
noncomputable def n_law_fences (w_many : Vl) : Sto → An Unit Empty := fun s =>
  (((R.of (tupN []) s).bind fun x2 s3 => R.ok [x2] s3).bind fun l4 s5 => R.of (lstN l4) s5).an fun w_found s1 =>
    ((rngN1 [w_many] s1).an fun c11 s12 => lp_law_fences_1  c11.ok c11.items w_found s12).thn fun j13 s14 => kt_law_fences_1 j13 s14
noncomputable def r_law_fences : MF := runN fun xs => match xs with
  | [w_many] => n_law_fences w_many
  | _ => fun _ => .bad
noncomputable def G_law_fences : MF := frameG (r_law_fences)
def mk_law_ways_k15_1 (w_code : Vl) (w_found : Vl) : Unit → Loc := fun a => [some w_code, some w_found, none, none]
noncomputable def ce_law_ways_k15_1 (w_found : Vl) (w_at : Vl) (w_block : Vl) : Sto → R Vl := fun s => (R.of (phIx w_found w_at s) s).bind fun x43 s44 => (R.of (tupN [w_block]) s44).bind fun x45 s46 => R.of (phAdd x43 x45 s46) s46
noncomputable def nb_law_ways_k15_1 (w_code : Vl) (w_found : Vl) (w_at : Vl) : Sto → An Unit Unit := fun s =>
  ((((R.of (phLen [w_found] s) s).bind fun x6 s7 => R.of (phLt w_at x6 s7) s7).bind fun x8 s9 => R.of (bool? x8) s9).bind fun c10 s11 => if c10 = true then (((R.of (phLen [w_found] s11) s11).bind fun x12 s13 => R.of (phLt x12 (Vl.dat (.int 200)) s13) s13).bind fun x14 s15 => R.of (bool? x14) s15).bind fun c16 s17 => if c16 = true then ((((R.of (phIx w_found w_at s17) s17).bind fun x18 s19 => R.ok [x18] s19).bind fun l20 s21 => R.of (phLen l20 s21) s21).bind fun x22 s23 => R.of (phLt x22 (Vl.dat (.int 6)) s23) s23).bind fun x24 s25 => R.of (bool? x24) s25 else R.ok false s17 else R.ok false s11).an fun c26 s27 => if c26 = true then
    (extN w_found s27 (fun s28 => (lcP (((((((R.of (phIx w_found w_at s28) s28).bind fun x29 s30 => (R.of (phNeg (Vl.dat (.int 1)) s30) s30).bind fun x31 s32 => R.of (phIx x29 x31 s32) s32).bind fun x33 s34 => R.ok [x33] s34).bind fun l35 s36 => R.ok ((Vl.dat (.str "main")) :: l35) s36).bind fun l37 s38 => R.ok (w_code :: l37) s38).bind fun l39 s40 => callN 3 G_nexts l39 s40).bind fun x41 s42 => R.of (src x41 s42) s42) pV (fun p s => R.ok true s) (fun p s => ce_law_ways_k15_1 w_found w_at p s)).bind fun x47 s48 => R.ok [x47] s48)).an fun _ s49 =>
      .nx () s49
    else
    .nx () s27
noncomputable def lp_law_ways_k15_1 {L : Type} (w_code : Vl) (w_found : Vl) (ck : Sto → Prop) : List Vl → Unit → Sto → An Unit L := forN ck (mk_law_ways_k15_1 w_code w_found) (fun v a s => patN (pV v) fun p => nb_law_ways_k15_1 w_code w_found p s)
@[simp] theorem lp_law_ways_k15_1_nil {L : Type} (w_code : Vl) (w_found : Vl) {a : Unit} {s : Sto} : (lp_law_ways_k15_1 (L := L) w_code w_found okT [] a s) = .nx a s := forN_nil
theorem lp_law_ways_k15_1_cons {L : Type} (w_code : Vl) (w_found : Vl) {v : Vl} {r : List Vl} {a : Unit} {s : Sto} : (lp_law_ways_k15_1 (L := L) w_code w_found okT (v :: r) a s) = (patN (pV v) fun p => nb_law_ways_k15_1 w_code w_found p s).lp (mk_law_ways_k15_1 w_code w_found) s.length (lp_law_ways_k15_1 w_code w_found okT r) := forN_cons
noncomputable def kt_law_ways_k15_1 (w_code : Vl) (w_found : Vl) : Sto → An Unit Empty := fun s =>
  (R.ok w_found s).an fun x54 s55 => .rt x54 s55
noncomputable def n_law_ways_k15 (w_code : Vl) : Sto → An Unit Empty := fun s =>
  (((R.of (tupN [(Vl.dat (.int 0))]) s).bind fun x2 s3 => R.ok [x2] s3).bind fun l4 s5 => newN l4 s5).an fun w_found s1 =>
    ((rngN1 [(Vl.dat (.int 120))] s1).an fun c50 s51 => lp_law_ways_k15_1 w_code w_found c50.ok c50.items () s51).thn fun j52 s53 => kt_law_ways_k15_1 w_code w_found  s53
noncomputable def r_law_ways_k15 : MF := runN fun xs => match xs with
  | [w_code] => n_law_ways_k15 w_code
  | _ => fun _ => .bad
noncomputable def G_law_ways_k15 : MF := frameG (r_law_ways_k15)
def fences : Nat → List (List Int)
  | 0 => [[]]
  | n + 1 => fences n ++ (fences n).map fun z => z ++ [(n : Int)]
theorem mem_fences : ∀ {n : Nat} {zs : List Int}, zs ∈ fences n ↔ zs.Pairwise (· < ·) ∧ ∀ z ∈ zs, 0 ≤ z ∧ z < (n : Int)
  | 0, zs => by
    show zs ∈ [[]] ↔ _
    rw [List.mem_singleton]
    constructor
    · rintro rfl; exact ⟨.nil, fun z h => by cases h⟩
    · rintro ⟨_, h⟩
      cases zs with
      | nil => rfl
      | cons z r => have := h z List.mem_cons_self; omega
  | n + 1, zs => by
    show zs ∈ fences n ++ (fences n).map _ ↔ _
    rw [List.mem_append, List.mem_map, mem_fences]
    constructor
    · rintro (⟨h1, h2⟩ | ⟨z', hz, rfl⟩)
      · exact ⟨h1, fun z hz => by have := h2 z hz; omega⟩
      · obtain ⟨h1, h2⟩ := mem_fences.mp hz
        refine ⟨List.pairwise_append.mpr ⟨h1, List.pairwise_singleton _ _, fun a ha b hb => ?_⟩, fun z hz => ?_⟩
        · have : b = (n : Int) := by simpa using hb
          have := h2 a ha
          omega
        · rcases List.mem_append.mp hz with hz | hz
          · have := h2 z hz; omega
          · have : z = (n : Int) := by simpa using hz
            omega
    · rintro ⟨h1, h2⟩
      rcases List.eq_nil_or_concat zs with rfl | ⟨l, a, rfl⟩
      · exact .inl ⟨.nil, fun z h => by cases h⟩
      · rw [List.concat_eq_append] at h1 h2 ⊢
        obtain ⟨p1, _, p3⟩ := List.pairwise_append.mp h1
        have ha := h2 a (by simp)
        by_cases hlt : a < (n : Int)
        · refine .inl ⟨h1, fun z hz => ?_⟩
          have h0 := h2 z hz
          rcases List.mem_append.mp hz with hz | hz
          · have := p3 z hz a (by simp); omega
          · have : z = a := by simpa using hz
            omega
        · have ea : a = (n : Int) := by omega
          refine .inr ⟨l, mem_fences.mpr ⟨p1, fun z hz => ?_⟩, by rw [ea]⟩
          have h0 := h2 z (List.mem_append_left _ hz)
          have := p3 z hz a (by simp)
          omega
theorem fences_len : ∀ n : Nat, (fences n).length = 2 ^ n
  | 0 => rfl
  | n + 1 => by
    show (fences n ++ (fences n).map _).length = _
    rw [List.length_append, List.length_map, fences_len n, Nat.pow_succ]
    omega
theorem rise_len {n : Nat} {zs : List Int} (h1 : zs.Pairwise (· < ·)) (h2 : ∀ z ∈ zs, 0 ≤ z ∧ z < (n : Int)) : zs.length ≤ n := few_in (List.Pairwise.imp (fun h e => by omega) h1) h2
theorem pow_five {k : Nat} (h : k ≤ 5) : 2 ^ k ≤ 32 := Nat.pow_le_pow_right (n := 2) (by decide) h
theorem nb_fences {k : Nat} (h : k ≤ 5) (s : Sto) : nb_law_fences_1 (.dat (.int (k : Int))) (.dat (.list ((fences k).map intsD))) s = .nx (.dat (.list ((fences (k + 1)).map intsD))) s := by
  have hl := fences_len k
  have hp := pow_five h
  have el := lcP_map (s := s) (a' := none) (l := fences k) (pat := pV) (e := fun p s => ce_law_fences_1 (.dat (.int (k : Int))) p s) (fun z => Vl.dat (intsD z)) (fun z => Vl.dat (intsD z)) (fun z => intsD (z ++ [(k : Int)])) trivial (fun z hz => ⟨rfl, by
    obtain ⟨h1, h2⟩ := mem_fences.mp hz
    have := rise_len h1 h2
    have ea : phAdd (.dat (intsD z)) (.dat (.tuple [.int (k : Int)])) s = some (.dat (intsD (z ++ [(k : Int)]))) := by
      show (if (z.map PyData.int).length + [PyData.int (k : Int)].length ≤ mil then some (Vl.dat (.tuple (z.map PyData.int ++ [PyData.int (k : Int)]))) else none) = _
      rw [if_pos (by rw [List.length_map, List.length_singleton]; exact th_mil (by omega))]
      show _ = some (Vl.dat (.tuple ((z ++ [(k : Int)]).map PyData.int)))
      rw [List.map_append]
      rfl
    simp [ce_law_fences_1, ea]⟩) (th_mil (by omega))
  have es : src (.dat (.list ((fences k).map intsD))) s = some ⟨(fences k).map fun z => Vl.dat (intsD z), none⟩ := by
    show some (Src.mk (((fences k).map intsD).map Vl.dat) none) = _
    rw [List.map_map]
    rfl
  have ea : phAdd (.dat (.list ((fences k).map intsD))) (.dat (.list ((fences k).map fun z => intsD (z ++ [(k : Int)])))) s = some (.dat (.list ((fences (k + 1)).map intsD))) := by
    show (if ((fences k).map intsD).length + ((fences k).map fun z => intsD (z ++ [(k : Int)])).length ≤ mil then some (Vl.dat (.list ((fences k).map intsD ++ (fences k).map fun z => intsD (z ++ [(k : Int)])))) else none) = _
    rw [if_pos (by rw [List.length_map, List.length_map]; exact th_mil (by omega))]
    show _ = some (Vl.dat (.list ((fences k ++ (fences k).map fun z => z ++ [(k : Int)]).map intsD)))
    rw [List.map_append, List.map_map]
    rfl
  simp only [nb_law_fences_1, es, R.of_some, el, R.bind_ok, ea, R.an_ok]
theorem lp_fences {L : Type} (s : Sto) : ∀ (m k : Nat), k + m ≤ 5 → (lp_law_fences_1 (L := L) okT (rgs (k : Int) m) (.dat (.list ((fences k).map intsD))) s) = .nx (.dat (.list ((fences (k + m)).map intsD))) s
  | 0, k, _ => by rw [rgs_zero, lp_law_fences_1_nil]; rfl
  | m + 1, k, h => by
    have := lp_fences (L := L) s m (k + 1) (by omega)
    rw [show ((k + 1 : Nat) : Int) = (k : Int) + 1 by omega] at this
    rw [rgs_succ, lp_law_fences_1_cons, pV_ap, patN_some, nb_fences (by omega), lp_nx, tidy_same (by simp), this, show k + 1 + m = k + (m + 1) by omega]
theorem G_law_fences_eq {n : Nat} (h : n ≤ 5) (s : Sto) : G_law_fences [.dat (.int (n : Int))] s = .ok (.dat (.list ((fences n).map intsD))) s := by
  refine fr0 (s2 := []) ?_
  rw [r_law_fences, runN_ap]
  have e := lp_fences (L := Empty) [] n 0 (by omega)
  rw [Nat.zero_add] at e
  have e : (lp_law_fences_1 (L := Empty) okT (rgs 0 n) (.dat (.list [.tuple []])) []) = .nx (.dat (.list ((fences n).map intsD))) [] := e
  have er := rngN1_n (n := n) (s := ([] : Sto)) (th_mil (by omega))
  simp [n_law_fences, -rngN1, er, src_ok_none, e, kt_law_fences_1]
def extW (bs : List Blk) (p : List Int) : List (List Int) := (goalsB bs (p.getLastD 0)).map fun b => p ++ [b]
def stepW (bs : List Blk) (k : Nat) (w : List (List Int)) : List (List Int) := if k < w.length ∧ w.length < 200 ∧ (w.getD k []).length < 6 then w ++ extW bs (w.getD k []) else w
def Ws (bs : List Blk) : Nat → List (List Int)
  | 0 => [[0]]
  | k + 1 => stepW bs k (Ws bs k)
structure WOk (bs : List Blk) (p : List Int) : Prop where
  ne : p ≠ []
  rng : ∀ x ∈ p, 0 ≤ x ∧ x < (bs.length : Int)
  len : p.length ≤ 7
theorem last_mem {p : List Int} (h : p ≠ []) : p.getLastD 0 ∈ p := by
  rw [List.getLastD_eq_getLast?, List.getLast?_eq_some_getLast h]
  exact List.getLast_mem h
theorem Ws_len (bs : List Blk) : ∀ k, (Ws bs k).length ≤ 1 + 2 * k
  | 0 => by show 1 ≤ _; omega
  | k + 1 => by
    show (stepW bs k (Ws bs k)).length ≤ _
    have := Ws_len bs k
    unfold stepW
    split
    · rw [List.length_append, extW, List.length_map]
      have := goalsB_len (bs := bs) (b := ((Ws bs k).getD k []).getLastD 0)
      omega
    · omega
theorem Ws_ok {bs : List Blk} (ok : GoIn bs) : ∀ k, ∀ p ∈ Ws bs k, WOk bs p
  | 0, p, h => by
    have : p = [0] := by simpa [Ws] using h
    subst this
    exact ⟨by simp, fun x hx => by
      have : x = 0 := by simpa using hx
      have := ok.1
      omega, by simp⟩
  | k + 1, p, h => by
    have ih := Ws_ok ok k
    have h : p ∈ stepW bs k (Ws bs k) := h
    unfold stepW at h
    split at h
    · rename_i hc
      rcases List.mem_append.mp h with h | h
      · exact ih p h
      · obtain ⟨b, hb, rfl⟩ := List.mem_map.mp h
        have hq : (Ws bs k).getD k [] ∈ Ws bs k := by
          rw [List.getD_eq_getElem?_getD, List.getElem?_eq_getElem hc.1]
          exact List.getElem_mem hc.1
        have q := ih _ hq
        refine ⟨by simp, fun x hx => ?_, by rw [List.length_append, List.length_singleton]; omega⟩
        rcases List.mem_append.mp hx with hx | hx
        · exact q.rng x hx
        · have : x = b := by simpa using hx
          subst this
          exact ok.all (mem_goalsB.mp hb)
    · exact ih p h
theorem Ws_pre (bs : List Blk) (i : Nat) : ∀ k, Ws bs i <+: Ws bs (i + k)
  | 0 => List.prefix_refl _
  | k + 1 => by
    refine (Ws_pre bs i k).trans ?_
    show Ws bs (i + k) <+: stepW bs (i + k) (Ws bs (i + k))
    unfold stepW
    split
    · exact List.prefix_append _ _
    · exact List.prefix_refl _
theorem pre_at {α : Type} {l m : List α} {i : Nat} {x : α} (h : l <+: m) (e : l[i]? = some x) : m[i]? = some x := by
  obtain ⟨t, rfl⟩ := h
  rw [List.getElem?_append_left (List.getElem?_eq_some_iff.mp e).1]
  exact e
/-- each short way is met soon -/
theorem way_at {bs : List Blk} {o : Int} : ∀ w : List Int, RP bs o w → w.length ≤ 5 → ∃ j, (Ws bs j)[j]? = some w.reverse ∧ j + 1 < 2 ^ w.length
  | [], h, _ => h.elim
  | [b], h, _ => by
    obtain ⟨rfl, _⟩ := h
    exact ⟨0, rfl, by decide⟩
  | b :: a :: r, h, hl => by
    obtain ⟨hb, _, hr⟩ := h
    obtain ⟨i, hi, hi2⟩ := way_at (a :: r) hr (by simp only [List.length_cons] at hl ⊢; omega)
    have hlen : (a :: r).length ≤ 4 := by simp only [List.length_cons] at hl ⊢; omega
    have h16 : 2 ^ (a :: r).length ≤ 16 := (Nat.pow_le_pow_right (n := 2) (by decide) hlen : _ ≤ 2 ^ 4)
    have hil := (List.getElem?_eq_some_iff.mp hi).1
    have hwl := Ws_len bs i
    have hget : (Ws bs i).getD i [] = (a :: r).reverse := by rw [List.getD_eq_getElem?_getD, hi]; rfl
    have hstep : Ws bs (i + 1) = Ws bs i ++ extW bs (a :: r).reverse := by
      show stepW bs i (Ws bs i) = _
      unfold stepW
      rw [hget, if_pos ⟨hil, by omega, by rw [List.length_reverse]; omega⟩]
    have hlast : (a :: r).reverse.getLastD 0 = a := by
      rw [List.getLastD_eq_getLast?, List.getLast?_reverse]
      rfl
    have hm : (b :: a :: r).reverse ∈ extW bs (a :: r).reverse := by
      unfold extW
      rw [hlast]
      exact List.mem_map.mpr ⟨b, hb, by rw [List.reverse_cons (a := b)]⟩
    obtain ⟨m, hm1, hm2⟩ := List.getElem_of_mem hm
    have hat : (Ws bs (i + 1))[(Ws bs i).length + m]? = some (b :: a :: r).reverse := by
      rw [hstep, List.getElem?_append_right (by omega), Nat.add_sub_cancel_left, List.getElem?_eq_getElem hm1, hm2]
    have hwl2 := Ws_len bs (i + 1)
    have hlt := (List.getElem?_eq_some_iff.mp hat).1
    refine ⟨(Ws bs i).length + m, ?_, ?_⟩
    · have hp := Ws_pre bs (i + 1) ((Ws bs i).length + m - (i + 1))
      rw [show i + 1 + ((Ws bs i).length + m - (i + 1)) = (Ws bs i).length + m by omega] at hp
      exact pre_at hp hat
    · rw [List.length_cons (a := b), Nat.pow_succ]
      omega
theorem way_in {bs : List Blk} {o : Int} {w : List Int} (h : RP bs o w) (hl : w.length ≤ 5) : w.reverse ∈ Ws bs 120 := by
  obtain ⟨j, h1, h2⟩ := way_at w h hl
  have h32 : 2 ^ w.length ≤ 32 := pow_five hl
  have hp := Ws_pre bs j (120 - j)
  rw [show j + (120 - j) = 120 by omega] at hp
  exact List.mem_of_getElem? (pre_at hp h1)
theorem ar_app {g : Int → List Int} {o b : Int} : ∀ (xs gs : List Int) (k : Nat), arN g o gs k (xs ++ [b]) = none ↔ arN g o gs k xs = none ∧ b ∈ (match xs.getLast? with | some a => g a | none => gs) ∧ b ≠ o
  | [], gs, k => by
    show arN g o gs k [b] = none ↔ arN g o gs k [] = none ∧ b ∈ gs ∧ b ≠ o
    have e : arN g o gs k [b] = if b ∉ gs then some (("next" : Str), (k : Int)) else if b = o then some (("over" : Str), (k : Int)) else none := rfl
    rw [e]
    by_cases h : b ∈ gs
    · rw [if_neg (not_not_intro h)]
      by_cases h2 : b = o
      · rw [if_pos h2]; simp [h2]
      · rw [if_neg h2]; simp [arN, h, h2]
    · rw [if_pos h]; simp [h]
  | x :: xs, gs, k => by
    have ih := ar_app (g := g) (o := o) (b := b) xs (g x) (k + 1)
    have el : (match (x :: xs).getLast? with | some a => g a | none => gs) = (match xs.getLast? with | some a => g a | none => g x) := by
      cases xs with
      | nil => rfl
      | cons y r => rw [List.getLast?_cons_cons]; cases h : (y :: r).getLast? with
        | none => simp at h
        | some a => rfl
    rw [el, List.cons_append, arN, arN]
    by_cases h : x ∈ gs
    · rw [if_neg (not_not_intro h), if_neg (not_not_intro h)]
      by_cases h2 : x = o
      · rw [if_pos h2, if_pos h2]; simp
      · rw [if_neg h2, if_neg h2]; exact ih
    · rw [if_pos h, if_pos h]; simp
theorem rp_ar {bs : List Blk} {o : Int} : ∀ {w : List Int}, w ≠ [] → (RP bs o w ↔ arN (goalsB bs) o [0] 0 w.reverse = none)
  | [], h => absurd rfl h
  | [b], _ => by
    rw [show [b].reverse = [] ++ [b] from rfl, ar_app]
    show b = 0 ∧ o ≠ 0 ↔ _ ∧ b ∈ [0] ∧ b ≠ o
    rw [List.mem_singleton]
    constructor
    · rintro ⟨rfl, h⟩; exact ⟨rfl, rfl, fun e => h e.symm⟩
    · rintro ⟨_, rfl, h⟩; exact ⟨rfl, fun e => h e.symm⟩
  | b :: a :: r, _ => by
    rw [List.reverse_cons, ar_app, ← rp_ar (w := a :: r) (by simp), List.getLast?_reverse]
    show b ∈ goalsB bs a ∧ b ≠ o ∧ RP bs o (a :: r) ↔ RP bs o (a :: r) ∧ b ∈ goalsB bs a ∧ b ≠ o
    constructor
    · rintro ⟨h1, h2, h3⟩; exact ⟨h3, h1, h2⟩
    · rintro ⟨h3, h1, h2⟩; exact ⟨h1, h2, h3⟩
theorem arJ_ints {g : Int → List Int} {o u : Int} {ns : List Int} : arJ g o u (intsD ns) = none ↔ ns ≠ [] ∧ arN g o [0] 0 ns = none ∧ ns.getLast? = some u := by
  show (match nums (ns.map PyData.int) with
    | some [] => some (("shape" : Str), (-1 : Int))
    | some ns => arL g o u ns
    | none => some ("shape", -1)) = none ↔ _
  rw [nums_ints]
  cases ns with
  | nil => simp
  | cons n r =>
    show arL g o u (n :: r) = none ↔ _
    unfold arL
    cases e : arN g o [0] 0 (n :: r) with
    | some p => simp
    | none =>
      dsimp only
      by_cases h : (n :: r).getLast? = some u
      · rw [if_pos h]; simp [h]
      · rw [if_neg h]; simp [h]
/-- a way that is led along is let -/
theorem ar_rp {bs : List Blk} {o u : Int} {r : List Int} (h : RP bs o (u :: r)) : arJ (goalsB bs) o u (intsD (u :: r).reverse) = none :=
  arJ_ints.mpr ⟨by simp, (rp_ar (by simp)).mp h, by rw [List.getLast?_reverse]; rfl⟩
theorem ar_rch {bs : List Blk} {o u : Int} {ns : List Int} (h : arJ (goalsB bs) o u (intsD ns) = none) : RchO bs o u := by
  obtain ⟨h1, h2, h3⟩ := arJ_ints.mp h
  have e : ns.reverse.reverse = ns := List.reverse_reverse ns
  have hr : RP bs o ns.reverse := (rp_ar (by simpa using h1)).mpr (by rw [e]; exact h2)
  have hh : ns.reverse.head? = some u := by rw [List.head?_reverse]; exact h3
  cases ew : ns.reverse with
  | nil => rw [ew] at hh; cases hh
  | cons b r =>
    rw [ew] at hh hr
    cases hh
    exact hr.rch
/-- all that is gone on a way that is let is let -/
theorem rp_tail {bs : List Blk} {o : Int} : ∀ {w : List Int} (k : Nat), RP bs o w → k < w.length → RP bs o (w.drop k)
  | w, 0, h, _ => h
  | [], k + 1, h, _ => h.elim
  | [b], k + 1, _, hk => by simp at hk
  | b :: a :: r, k + 1, h, hk => rp_tail (w := a :: r) k h.2.2 (by simpa using hk)
theorem fen_sound {bs : List Blk} {o u : Int} {zs : List Int} (h : fenB bs o u zs = true) : ¬ RchO bs o u := by
  unfold fenB at h
  simp only [Bool.and_eq_true, List.all_eq_true, decide_eq_true_eq] at h
  obtain ⟨h1, h2, h3⟩ := h
  have key : ∀ x, RchO bs o x → x ∈ zs := fun x hx => by
    induction hx with
    | zero h => exact h2.resolve_left h
    | step _ hg ho ih => exact (h3 _ ih _ hg).resolve_left ho
  exact fun hu => (h1 u (key u hu)).2 rfl
theorem fen_all {bs : List Blk} {o u : Int} {zs : List Int} (hz : ∀ x, x ∈ zs ↔ RchO bs o x) (hu : u ∉ zs) : fenB bs o u zs = true := by
  unfold fenB
  simp only [Bool.and_eq_true, List.all_eq_true, decide_eq_true_eq]
  refine ⟨fun b hb => ⟨((hz b).mp hb).ne, fun e => hu (e ▸ hb)⟩, ?_, fun b hb g hg => ?_⟩
  · by_cases h : o = 0
    · exact .inl h
    · exact .inr ((hz 0).mpr (.zero h))
  · by_cases h : g = o
    · exact .inl h
    · exact .inr ((hz g).mpr (.step ((hz b).mp hb) hg h))
end Pm
set_option maxRecDepth 100000
set_option maxHeartbeats 4000000
namespace Pm
open PySem PySem.Spec PyProof.Rows L2 Sw
/-- a list of lists of numbers, in the store -/
abbrev wL (w : List (List Int)) : Ob := .lst (w.map fun p => Vl.dat (intsD p))
theorem ext_w {s s2 : Sto} {l : List Vl} {es : List PyData} {r : Sto → R (List Vl)} (h : r s = .ok [.dat (.list es)] s2) (h0 : lstAt s 0 = some l) (h2 : lstAt s2 0 = some l) (hl : l.length + es.length ≤ 1000) : extN (.ref 0) s r = .ok (.dat .none) (s2.set 0 (.lst (l ++ es.map Vl.dat))) := by
  have h3 : l.length + es.length ≤ mil := th_mil hl
  unfold extN
  simp only [h0, h, R.bind_ok, h2]
  rw [if_pos h3]
section
variable {c : Cod} {bs : List Blk} (hc : c.rts.lookup ("main" : Str) = some bs) (ok : GoIn bs)
include hc ok
theorem nb_ways {k : Nat} {w : List (List Int)} (hw : ∀ p ∈ w, WOk bs p) (hl : w.length ≤ 300) : nb_law_ways_k15_1 (.dat c.d) (.ref 0) (.dat (.int (k : Int))) [wL w] = .nx () [wL (stepW bs k w)] := by
  have hlen : phLen [.ref 0] [wL w] = some (.dat (.int (w.length : Int))) := by
    show some (Vl.dat (.int ((w.map fun p => Vl.dat (intsD p)).length : Int))) = _
    rw [List.length_map]
  unfold stepW
  by_cases h1 : k < w.length
  rotate_left
  · rw [if_neg (fun z => h1 z.1)]
    have h1' : ¬ (k : Int) < (w.length : Int) := by omega
    simp [nb_law_ways_k15_1, hlen, h1']
  have h1' : (k : Int) < (w.length : Int) := by omega
  by_cases h2 : w.length < 200
  rotate_left
  · rw [if_neg (fun z => h2 z.2.1)]
    have h2' : ¬ (w.length : Int) < 200 := by omega
    simp [nb_law_ways_k15_1, hlen, h1', h2']
  have h2' : (w.length : Int) < 200 := by omega
  have hg : w.getD k [] = w[k] := by rw [List.getD_eq_getElem?_getD, List.getElem?_eq_getElem h1]; rfl
  have hpm : w[k] ∈ w := List.getElem_mem h1
  rw [hg]
  have hix : phIx (.ref 0) (.dat (.int (k : Int))) [wL w] = some (.dat (intsD w[k])) := by
    show atI (w.map fun p => Vl.dat (intsD p)) (k : Int) = _
    rw [atI_nat', List.getElem?_map, List.getElem?_eq_getElem h1]
    rfl
  generalize w[k] = p at hpm hix ⊢
  have hp := hw p hpm
  have hpl : ∀ s, phLen [.dat (intsD p)] s = some (.dat (.int (p.length : Int))) := fun s => by
    show some (Vl.dat (.int ((p.map PyData.int).length : Int))) = _
    rw [List.length_map]
  by_cases h3 : p.length < 6
  rotate_left
  · rw [if_neg (fun z => h3 z.2.2)]
    have h3' : ¬ (p.length : Int) < 6 := by omega
    simp [nb_law_ways_k15_1, hlen, h1', h2', hix, hpl, h3']
  have h3' : (p.length : Int) < 6 := by omega
  rw [if_pos ⟨h1, h2, h3⟩]
  have hlast : phIx (.dat (intsD p)) (.dat (.int (-1))) [wL w] = some (.dat (.int (p.getLastD 0))) := by
    show (atI (p.map PyData.int) (-1)).map Vl.dat = _
    rw [atI_last, List.getLast?_map, List.getLast?_eq_some_getLast hp.ne, List.getLastD_eq_getLast?, List.getLast?_eq_some_getLast hp.ne]
    rfl
  obtain ⟨l0, l1⟩ := hp.rng _ (last_mem hp.ne)
  obtain ⟨x, hx, _⟩ := atI_in l0 l1
  have eg : goalsB bs (p.getLastD 0) = x.fin.goals := by unfold goalsB; rw [hx]
  have hg2 := goalsB_len (bs := bs) (b := p.getLastD 0)
  have en : ∀ s, G_nexts [.dat c.d, .dat (.str "main"), .dat (.int (p.getLastD 0))] s = .ok (.dat (intsD (goalsB bs (p.getLastD 0)))) s := fun s => by rw [G_nexts_eq hc hx, eg]
  have es : src (.dat (intsD (goalsB bs (p.getLastD 0)))) [wL w] = some ⟨(goalsB bs (p.getLastD 0)).map fun g => Vl.dat (.int g), none⟩ := by
    show some (Src.mk (((goalsB bs (p.getLastD 0)).map PyData.int).map Vl.dat) none) = _
    rw [List.map_map]
    rfl
  have el := lcP_map (s := [wL w]) (a' := none) (l := goalsB bs (p.getLastD 0)) (pat := pV) (e := fun q s => ce_law_ways_k15_1 (.ref 0) (.dat (.int (k : Int))) q s) (fun g => Vl.dat (.int g)) (fun g => Vl.dat (.int g)) (fun g => intsD (p ++ [g])) trivial (fun g _ => ⟨rfl, by
    have ea : phAdd (.dat (intsD p)) (.dat (.tuple [.int g])) [wL w] = some (.dat (intsD (p ++ [g]))) := by
      show (if (p.map PyData.int).length + [PyData.int g].length ≤ mil then some (Vl.dat (.tuple (p.map PyData.int ++ [PyData.int g]))) else none) = _
      rw [if_pos (by rw [List.length_map, List.length_singleton]; exact th_mil (by omega))]
      show _ = some (Vl.dat (.tuple ((p ++ [g]).map PyData.int)))
      rw [List.map_append]
      rfl
    simp [ce_law_ways_k15_1, hix, ea]⟩) (th_mil (by omega))
  have hext : extN (.ref 0) [wL w] (fun s28 => (lcP (((((((R.of (phIx (.ref 0) (.dat (.int (k : Int))) s28) s28).bind fun x29 s30 => (R.of (phNeg (Vl.dat (.int 1)) s30) s30).bind fun x31 s32 => R.of (phIx x29 x31 s32) s32).bind fun x33 s34 => R.ok [x33] s34).bind fun l35 s36 => R.ok ((Vl.dat (.str "main")) :: l35) s36).bind fun l37 s38 => R.ok ((.dat c.d) :: l37) s38).bind fun l39 s40 => callN 3 G_nexts l39 s40).bind fun x41 s42 => R.of (src x41 s42) s42) pV (fun p s => R.ok true s) (fun p s => ce_law_ways_k15_1 (.ref 0) (.dat (.int (k : Int))) p s)).bind fun x47 s48 => R.ok [x47] s48) = .ok (.dat .none) [wL (w ++ extW bs p)] := by
    rw [ext_w (s2 := [wL w]) (l := w.map fun p => Vl.dat (intsD p)) (es := (goalsB bs (p.getLastD 0)).map fun g => intsD (p ++ [g])) ?_ rfl rfl (by rw [List.length_map, List.length_map]; omega)]
    · show R.ok _ [Ob.lst _] = R.ok _ [Ob.lst _]
      rw [extW, List.map_append, List.map_map, List.map_map]
      rfl
    · have eneg : ∀ s, phNeg (.dat (.int 1)) s = some (.dat (.int (-1))) := fun s => rfl
      simp only [hix, eneg, hlast, R.of_some, R.bind_ok, callN_ap, List.length_cons, List.length_nil, List.all_cons, List.all_nil, noX, Bool.and_self, and_self, if_true, en, es, el]
  refine wp_of (Q := fun z => z = _) ?_
  simp only [nb_law_ways_k15_1]
  refine wp_if (b := true) (s := [wL w]) (by simp [h1', h2', h3', hlen, hix, hpl]) ?_
  rw [if_pos rfl]
  exact wp_an hext rfl
theorem lp_ways {L : Type} : ∀ (m k : Nat), k + m ≤ 120 → (lp_law_ways_k15_1 (L := L) (.dat c.d) (.ref 0) okT (rgs (k : Int) m) () [wL (Ws bs k)]) = .nx () [wL (Ws bs (k + m))]
  | 0, k, _ => by rw [rgs_zero, lp_law_ways_k15_1_nil]; rfl
  | m + 1, k, h => by
    have := lp_ways (L := L) m (k + 1) (by omega)
    rw [show ((k + 1 : Nat) : Int) = (k : Int) + 1 by omega] at this
    have hl := Ws_len bs k
    rw [rgs_succ, lp_law_ways_k15_1_cons, pV_ap, patN_some, nb_ways hc ok (Ws_ok ok k) (by omega), lp_nx, tidy_same (by simp)]
    show (lp_law_ways_k15_1 (L := L) (.dat c.d) (.ref 0) okT (rgs ((k : Int) + 1) m) () [wL (Ws bs (k + 1))]) = _
    rw [this, show k + 1 + m = k + (m + 1) by omega]
theorem G_law_ways_eq (s : Sto) : G_law_ways_k15 [.dat c.d] s = .ok (.dat (.list ((Ws bs 120).map intsD))) s := by
  refine fr0l (s2 := [wL (Ws bs 120)]) (m := 0) ?_ (by rw [List.map_map]; rfl)
  rw [r_law_ways_k15, runN_ap]
  have e := lp_ways hc ok (L := Empty) 120 0 (by omega)
  have e : (lp_law_ways_k15_1 (L := Empty) (.dat c.d) (.ref 0) okT (rgs 0 120) () [Ob.lst [.dat (.tuple [.int 0])]]) = .nx () [wL (Ws bs 120)] := e
  have er := rngN1_n (n := 120) (s := ([Ob.lst [.dat (.tuple [.int 0])]] : Sto)) (th_mil (by omega))
  have er : rngN1 [.dat (.int 120)] [Ob.lst [.dat (.tuple [.int 0])]] = .ok ⟨rgs 0 120, none⟩ [Ob.lst [.dat (.tuple [.int 0])]] := er
  refine wp_of (Q := fun z => An.fin z = _) ?_
  simp only [n_law_ways_k15]
  refine wp_an (a := .ref 0) (s := [Ob.lst [.dat (.tuple [.int 0])]]) (by simp) ?_
  rw [er, R.an_ok, src_ok_none]
  refine wp_thn e ?_
  simp [Wp, kt_law_ways_k15_1]
end
end Pm
set_option maxRecDepth 100000
set_option maxHeartbeats 4000000
namespace Pm
open PySem PySem.Spec PyProof.Rows L2 Sw
def cod2 (bs : List Blk) : Cod := ⟨[("a", 1)], [("main", bs)]⟩
structure GrOk (bs : List Blk) : Prop where
  few : bs.length ≤ 6
  pos : 0 < bs.length
  rng : ∀ b ∈ bs, ∀ x ∈ b.fin.all, 0 ≤ x ∧ x < (bs.length : Int)
  nor : ∀ b ∈ bs, b.rows = [] ∧ ∀ o x y, b.fin = .iff o x y → o = .v "i"
def mk_law_graph_1 (w_feed_here : Vl) (w_many : Vl) (w_blocks : Vl) : Unit → Loc := fun a => [some w_feed_here, none, some w_many, some w_blocks, none, none, none, none, none]
noncomputable def nb_law_graph_1 (dr : MF) (w_feed_here : Vl) (w_many : Vl) (w_blocks : Vl) (w_block : Vl) : Sto → An Unit Unit := fun s =>
  ((callN 2 dr [w_feed_here, w_many] s).bind fun x5 s6 => ((callN 2 dr [w_feed_here, w_many] s6).bind fun x7 s8 => (((R.of (phAdd w_block (Vl.dat (.int 1)) s8) s8).bind fun x9 s10 => R.of (phMod x9 w_many s10) s10).bind fun x11 s12 => R.ok [x11] s12).bind fun l13 s14 => R.ok (x7 :: l13) s14).bind fun l15 s16 => R.ok (x5 :: l15) s16).an fun l18 s17 => par3N l18 fun w_first w_second w_near =>
    (((R.of (tupN [(Vl.dat (.str "go")), w_first]) s17).bind fun x20 s21 => ((R.of (tupN [(Vl.dat (.str "go")), w_near]) s21).bind fun x22 s23 => ((R.of (tupN [(Vl.dat (.str "if")), (Vl.dat (.str "i")), w_first, w_second]) s23).bind fun x24 s25 => ((R.of (tupN [(Vl.dat (.str "if")), (Vl.dat (.str "i")), w_near, w_first]) s25).bind fun x26 s27 => ((R.of (tupN [(Vl.dat (.str "back"))]) s27).bind fun x28 s29 => R.ok [x28] s29).bind fun l30 s31 => R.ok (x26 :: l30) s31).bind fun l32 s33 => R.ok (x24 :: l32) s33).bind fun l34 s35 => R.ok (x22 :: l34) s35).bind fun l36 s37 => R.ok (x20 :: l36) s37).bind fun l38 s39 => R.of (lstN l38) s39).an fun w_ends s19 =>
    (appN w_blocks s19 (fun s40 => (((R.of (tupN []) s40).bind fun x41 s42 => (((callN 2 dr [w_feed_here, (Vl.dat (.int 5))] s42).bind fun x43 s44 => R.of (phIx w_ends x43 s44) s44).bind fun x45 s46 => R.ok [x45] s46).bind fun l47 s48 => R.ok (x41 :: l47) s48).bind fun l49 s50 => R.of (tupN l49) s50).bind fun x51 s52 => R.ok [x51] s52)).an fun _ s53 =>
    .nx () s53
noncomputable def lp_law_graph_1 {L : Type} (dr : MF) (w_feed_here : Vl) (w_many : Vl) (w_blocks : Vl) (ck : Sto → Prop) : List Vl → Unit → Sto → An Unit L := forN ck (mk_law_graph_1 w_feed_here w_many w_blocks) (fun v a s => patN (pV v) fun p => nb_law_graph_1 dr w_feed_here w_many w_blocks p s)
@[simp] theorem lp_law_graph_1_nil {L : Type} (dr : MF) (w_feed_here : Vl) (w_many : Vl) (w_blocks : Vl) {a : Unit} {s : Sto} : (lp_law_graph_1 (L := L) dr w_feed_here w_many w_blocks okT [] a s) = .nx a s := forN_nil
theorem lp_law_graph_1_cons {L : Type} (dr : MF) (w_feed_here : Vl) (w_many : Vl) (w_blocks : Vl) {v : Vl} {r : List Vl} {a : Unit} {s : Sto} : (lp_law_graph_1 (L := L) dr w_feed_here w_many w_blocks okT (v :: r) a s) = (patN (pV v) fun p => nb_law_graph_1 dr w_feed_here w_many w_blocks p s).lp (mk_law_graph_1 w_feed_here w_many w_blocks) s.length (lp_law_graph_1 dr w_feed_here w_many w_blocks okT r) := forN_cons
noncomputable def kt_law_graph_1 (dr : MF) (w_feed_here : Vl) (w_many : Vl) (w_blocks : Vl) : Sto → An Unit Empty := fun s =>
  (((((R.of (tupN [(Vl.dat (.str "a")), (Vl.dat (.int 1))]) s).bind fun x58 s59 => R.ok [x58] s59).bind fun l60 s61 => R.of (tupN l60) s61).bind fun x62 s63 => (((((((R.of (phTuple [w_blocks] s63) s63).bind fun x64 s65 => R.ok [x64] s65).bind fun l66 s67 => R.ok ((Vl.dat (.str "main")) :: l66) s67).bind fun l68 s69 => R.of (tupN l68) s69).bind fun x70 s71 => R.ok [x70] s71).bind fun l72 s73 => R.of (tupN l72) s73).bind fun x74 s75 => R.ok [x74] s75).bind fun l76 s77 => R.ok (x62 :: l76) s77).bind fun l78 s79 => R.of (tupN l78) s79).an fun x80 s81 => .rt x80 s81
noncomputable def n_law_graph (dr : MF) (w_feed_here : Vl) (w_most : Vl) : Sto → An Unit Empty := fun s =>
  ((callN 2 dr [w_feed_here, w_most] s).bind fun x2 s3 => R.of (phAdd (Vl.dat (.int 1)) x2 s3) s3).an fun w_many s1 =>
    (newN [] s1).an fun w_blocks s4 =>
    ((rngN1 [w_many] s4).an fun c54 s55 => lp_law_graph_1 dr w_feed_here w_many w_blocks c54.ok c54.items () s55).thn fun j56 s57 => kt_law_graph_1 dr w_feed_here w_many w_blocks  s57
noncomputable def r_law_graph (dr : MF) : MF := runN fun xs => match xs with
  | [w_feed_here, w_most] => n_law_graph dr w_feed_here w_most
  | _ => fun _ => .bad
noncomputable def G_law_graph (dr : MF) : MF := frameG (r_law_graph dr)
theorem atI_ends {a b n : Int} {k : Int} (h0 : 0 ≤ k) (h1 : k < 5) : ∃ e : Endd, atI [(Endd.go a).d, (Endd.go n).d, (Endd.iff (.v "i") a b).d, (Endd.iff (.v "i") n a).d, Endd.back.d] k = some e.d ∧ (∀ x ∈ e.all, x = a ∨ x = b ∨ x = n) ∧ ∀ o x y, e = .iff o x y → o = .v "i" := by
  have : k = 0 ∨ k = 1 ∨ k = 2 ∨ k = 3 ∨ k = 4 := by omega
  rcases this with rfl | rfl | rfl | rfl | rfl
  · exact ⟨.go a, rfl, fun x hx => by simp [Endd.all] at hx; exact .inl hx, fun o x y h => by cases h⟩
  · exact ⟨.go n, rfl, fun x hx => by simp [Endd.all] at hx; exact .inr (.inr hx), fun o x y h => by cases h⟩
  · exact ⟨.iff (.v "i") a b, rfl, fun x hx => by simp [Endd.all] at hx; rcases hx with h | h; exact .inl h; exact .inr (.inl h), fun o x y h => by cases h; rfl⟩
  · exact ⟨.iff (.v "i") n a, rfl, fun x hx => by simp [Endd.all] at hx; rcases hx with h | h; exact .inr (.inr h); exact .inl h, fun o x y h => by cases h; rfl⟩
  · exact ⟨.back, rfl, fun x hx => by simp [Endd.all] at hx, fun o x y h => by cases h⟩
theorem nb_law_graph_eq {dr : MF} {Fd : Nat → Ob → Prop} (D : DrawSp dr Fd) {j : Nat} {f : Ob} {m i : Int} {acc : List Vl} (hf : Fd j f) (hj : j ≤ 900000) (m1 : 1 ≤ m) (m2 : m ≤ 6) (hacc : acc.length ≤ 100) :
    ∃ (b : Blk) (f' : Ob), nb_law_graph_1 dr (.ref 0) (.dat (.int m)) (.ref 1) (.dat (.int i)) [f, .lst acc] = .nx () [f', .lst (acc ++ [.dat b.d])] ∧ Fd (j + 3) f' ∧ (∀ x ∈ b.fin.all, 0 ≤ x ∧ x < m) ∧ b.rows = [] ∧ ∀ o x y, b.fin = .iff o x y → o = .v "i" := by
  obtain ⟨a, fa, ha, hfa, a0, a1⟩ := D.go0 (t := [.lst acc]) hf (by omega) m1 (show m < 1073741824 by omega)
  obtain ⟨b, fb, hb, hfb, b0, b1⟩ := D.go0 (t := [.lst acc]) hfa (by omega) m1 (show m < 1073741824 by omega)
  obtain ⟨k, fk, hk, hfk, k0, k1⟩ := D.go0 (t := [.lst acc]) (m := 5) hfb (by omega) (by decide) (by decide)
  have hm : (0 : Int) < m := by omega
  have n0 := Int.emod_nonneg (i + 1) (show m ≠ 0 by omega)
  have n1 := Int.emod_lt_of_pos (i + 1) hm
  obtain ⟨e, he, hx, hio⟩ := atI_ends (a := a) (b := b) (n := (i + 1) % m) k0 k1
  have hm2 : acc.length < mil := by unfold mil; omega
  refine ⟨⟨[], e⟩, fk, ?_, hfk, fun x hx' => ?_, rfl, hio⟩
  · have he' : atI [PyData.tuple [.str "go", .int a], .tuple [.str "go", .int ((i + 1) % m)], .tuple [.str "if", .str "i", .int a, .int b], .tuple [.str "if", .str "i", .int ((i + 1) % m), .int a], .tuple [.str "back"]] k = some e.d := he
    simp [nb_law_graph_1, ha, hb, hk, phMod_p hm, he', appN, lstAt, hm2, Blk.d, rowsD]
  · rcases hx x hx' with rfl | rfl | rfl
    · exact ⟨a0, a1⟩
    · exact ⟨b0, b1⟩
    · exact ⟨n0, n1⟩
theorem lp_law_graph_eq {dr : MF} {Fd : Nat → Ob → Prop} (D : DrawSp dr Fd) {m : Int} (m1 : 1 ≤ m) (m2 : m ≤ 6) {L : Type} : ∀ (k : Nat) (i : Int) (j : Nat) (f : Ob) (bs : List Blk), Fd j f → j + 3 * k ≤ 900000 → bs.length + k ≤ 100 →
    ∃ f' bs', (lp_law_graph_1 (L := L) dr (.ref 0) (.dat (.int m)) (.ref 1) okT (rgs i k) () [f, .lst (bs.map fun b => .dat b.d)]) = .nx () [f', .lst ((bs ++ bs').map fun b => .dat b.d)] ∧ Fd (j + 3 * k) f' ∧ bs'.length = k ∧ ∀ b ∈ bs', (∀ x ∈ b.fin.all, 0 ≤ x ∧ x < m) ∧ b.rows = [] ∧ ∀ o x y, b.fin = .iff o x y → o = .v "i"
  | 0, i, j, f, bs, hf, hj, hl => ⟨f, [], by simp [rgs_zero], hf, rfl, fun b hb => by cases hb⟩
  | k + 1, i, j, f, bs, hf, hj, hl => by
    obtain ⟨b, f1, h1, hf1, hx⟩ := nb_law_graph_eq (i := i) (acc := bs.map fun b => .dat b.d) D hf (by omega) m1 m2 (by simp; omega)
    obtain ⟨f', bs', h2, hf2, hl2, hx2⟩ := lp_law_graph_eq D m1 m2 (L := L) k (i + 1) (j + 3) f1 (bs ++ [b]) hf1 (by omega) (by simp; omega)
    refine ⟨f', b :: bs', ?_, D.mono hf2 (by omega), by simp [hl2], fun y hy => ?_⟩
    · rw [rgs_succ, lp_law_graph_1_cons]
      simp only [List.map_append, List.map_cons, List.map_nil] at h2
      simp [h1, tidy_same, h2]
    · rcases List.mem_cons.mp hy with rfl | hy
      · exact hx
      · exact hx2 y hy
theorem G_law_graph_eq {dr : MF} {Fd : Nat → Ob → Prop} (D : DrawSp dr Fd) {j : Nat} {f : Ob} {t : Sto} {q : Int} (hf : Fd j f) (hj : j ≤ 800000) (q1 : 1 ≤ q) (q2 : q ≤ 6) : ∃ bs f', G_law_graph dr [.ref 0, .dat (.int q)] (f :: t) = .ok (.dat (cod2 bs).d) (f' :: t) ∧ Fd (j + 30) f' ∧ GrOk bs ∧ (bs.length : Int) ≤ q := by
  obtain ⟨k, f1, h1, hf1, k0, k1⟩ := D.go0 (t := []) hf (by omega) q1 (show q < 1073741824 by omega)
  obtain ⟨n, hn⟩ : ∃ n : Nat, 1 + k = (n : Int) := ⟨(1 + k).toNat, by omega⟩
  obtain ⟨f', bs, h2, hf2, hl2, hx2⟩ := lp_law_graph_eq D (m := (n : Int)) (by omega) (by omega) (L := Empty) n 0 (j + 1) f1 [] hf1 (by omega) (by show 0 + n ≤ 100; omega)
  refine ⟨bs, f', fr1 (o' := f') (more := [.lst (bs.map fun b => .dat b.d)]) ?_ rfl (D.ok hf) (D.ok hf2), D.mono hf2 (by omega), ⟨by omega, by omega, fun b hb => by rw [hl2]; exact (hx2 b hb).1, fun b hb => (hx2 b hb).2⟩, by omega⟩
  have hseq : phTuple [.ref 1] [f', .lst (bs.map fun b => .dat b.d)] = some (.dat (.tuple (bs.map Blk.d))) := by
    show (datas (bs.map fun b => .dat b.d)).map _ = _
    rw [datas_dats]
    rfl
  simp only [List.nil_append, List.map_nil] at h2
  rw [r_law_graph, runN_ap]
  refine wp_of (Q := fun z => An.fin z = _) ?_
  simp only [n_law_graph]
  refine wp_an (by simp [h1, hn]; first | done | rfl | exact ⟨rfl, rfl⟩) ?_
  refine wp_an (by simp []; first | done | rfl | exact ⟨rfl, rfl⟩) ?_
  refine wp_thn (by simp [rngN1_n (show n ≤ mil by unfold mil; omega), src_ok_none, h2]; first | done | rfl | exact ⟨rfl, rfl⟩) ?_
  simp [Wp, kt_law_graph_1, hseq, cod2, Cod.d, objsD, objD, rtD, blksD]
end Pm
set_option maxRecDepth 100000
set_option maxHeartbeats 4000000
namespace Pm
open PySem PySem.Spec PyProof.Rows L2 Sw
def mk_law_let_k15_1  : Unit → Loc := fun a => [none]
noncomputable def kt_law_let_k15_1  : Sto → An Unit Empty := fun s =>
  .nx () s
noncomputable def n_law_let_k15 (lv : Vl) (act : Sto → R Vl) : Sto → An Unit Empty := fun s =>
  (tryN mk_law_let_k15_1 mkE (fun s1 =>
    (actG lv act lv s1).an fun x4 s5 => .rt x4 s5) (fun nm => if nm = "NoPaper" then some true else none) (fun e3 s2 =>
    (R.ok (Vl.dat (.bool false)) s2).an fun x6 s7 => .rt x6 s7) s).thn fun j8 s9 => kt_law_let_k15_1  s9
noncomputable def ct_law_right_k15_1 (w_code : Vl) (w_over : Vl) (w_under : Vl) (w_shut : Vl) : Sto → R Bool := fun s => ((lamN n_law_let_k15 (fun s3 => ((capN w_code s3).bind fun x4 s5 => (((capN w_over s5).bind fun x6 s7 => ((capN w_under s7).bind fun x8 s9 => ((capN w_shut s9).bind fun x10 s11 => R.ok [x10] s11).bind fun l12 s13 => R.ok (x8 :: l12) s13).bind fun l14 s15 => R.ok (x6 :: l14) s15).bind fun l16 s17 => R.ok ((Vl.dat (.str "main")) :: l16) s17).bind fun l18 s19 => R.ok (x4 :: l18) s19).bind fun l20 s21 => callN 5 G_lets_fence l20 s21) s).bind fun x22 s23 => R.of (phIs x22 (Vl.dat (.bool true)) s23) s23).bind fun x24 s25 => R.of (bool? x24) s25
noncomputable def ce_law_right_k15_2  (w_shut : Vl) : Sto → R Vl := fun s => R.ok w_shut s
noncomputable def ct_law_right_k15_3 (w_code : Vl) (w_over : Vl) (w_under : Vl) (w_way : Vl) : Sto → R Bool := fun s => ((lamN n_law_let_k15 (fun s27 => ((capN w_code s27).bind fun x28 s29 => (((capN w_over s29).bind fun x30 s31 => ((capN w_under s31).bind fun x32 s33 => ((capN w_way s33).bind fun x34 s35 => R.ok [x34] s35).bind fun l36 s37 => R.ok (x32 :: l36) s37).bind fun l38 s39 => R.ok (x30 :: l38) s39).bind fun l40 s41 => R.ok ((Vl.dat (.str "main")) :: l40) s41).bind fun l42 s43 => R.ok (x28 :: l42) s43).bind fun l44 s45 => callN 5 G_lets_around l44 s45) s).bind fun x46 s47 => R.of (phIs x46 (Vl.dat (.bool true)) s47) s47).bind fun x48 s49 => R.of (bool? x48) s49
noncomputable def ce_law_right_k15_4  (w_way : Vl) : Sto → R Vl := fun s => R.ok w_way s
noncomputable def n_law_right_k15 (w_code : Vl) (w_over : Vl) (w_under : Vl) (w_shuts : Vl) (w_ways_here : Vl) : Sto → An Unit Empty := fun s =>
  (callN 4 G_dominates [w_code, (Vl.dat (.str "main")), w_over, w_under] s).an fun w_above s1 =>
    (lcP (R.of (src w_shuts s1) s1) pV (fun p s => ct_law_right_k15_1 w_code w_over w_under p s) (fun p s => ce_law_right_k15_2 p s)).an fun w_let_here s2 =>
    (lcP (R.of (src w_ways_here s2) s2) pV (fun p s => ct_law_right_k15_3 w_code w_over w_under p s) (fun p s => ce_law_right_k15_4 p s)).an fun w_went s26 =>
    (((((R.of (lstN []) s26).bind fun x50 s51 => R.of (phNe w_let_here x50 s51) s51).bind fun x52 s53 => R.of (phNe x52 w_above s53) s53).bind fun x54 s55 => R.of (bool? x54) s55).bind fun c56 s57 => if c56 = true then R.ok true s57 else (((R.of (lstN []) s57).bind fun x58 s59 => R.of (phNe w_went x58 s59) s59).bind fun x60 s61 => R.of (phEq x60 w_above s61) s61).bind fun x62 s63 => R.of (bool? x62) s63).an fun c64 s65 => if c64 = true then
    ((R.ok (Vl.dat (.bool false)) s65).an fun x66 s67 => .rt x66 s67 : An Empty _).up
    else
    ((callN 4 G_around [w_code, (Vl.dat (.str "main")), w_over, w_under] s65).bind fun x68 s69 => ((callN 4 G_fence [w_code, (Vl.dat (.str "main")), w_over, w_under] s69).bind fun x70 s71 => R.ok [x70] s71).bind fun l72 s73 => R.ok (x68 :: l72) s73).an fun l75 s74 => par2N l75 fun w_way w_shut =>
    ((((R.of (phIs w_way (Vl.dat .none) s74) s74).bind fun x76 s77 => R.of (phNe x76 w_above s77) s77).bind fun x78 s79 => R.of (bool? x78) s79).bind fun c80 s81 => if c80 = true then R.ok true s81 else ((R.of (phIs w_shut (Vl.dat .none) s81) s81).bind fun x82 s83 => R.of (phEq x82 w_above s83) s83).bind fun x84 s85 => R.of (bool? x84) s85).an fun c86 s87 => if c86 = true then
    ((R.ok (Vl.dat (.bool false)) s87).an fun x88 s89 => .rt x88 s89 : An Empty _).up
    else
    ((R.of (tru w_above s87) s87).bind fun c90 s91 => if c90 = true then R.of ((phInD false) w_shut w_let_here s91) s91 else (callN 5 G_lets_around [w_code, (Vl.dat (.str "main")), w_over, w_under, w_way] s91).bind fun x92 s93 => R.of (phIs x92 (Vl.dat (.bool true)) s93) s93).an fun x94 s95 => .rt x94 s95
noncomputable def r_law_right_k15 : MF := runN fun xs => match xs with
  | [w_code, w_over, w_under, w_shuts, w_ways_here] => n_law_right_k15 w_code w_over w_under w_shuts w_ways_here
  | _ => fun _ => .bad
noncomputable def G_law_right_k15 : MF := frameG (r_law_right_k15)
def mk_law_more_right_1 (w_code : Vl) (w_over : Vl) (w_way : Vl) : Unit → Loc := fun a => [some w_code, some w_over, none, none, none, some w_way, none, none]
def mk_law_more_right_2 (w_code : Vl) (w_over : Vl) (w_way : Vl) (w_shut : Vl) : Unit → Loc := fun a => [some w_code, some w_over, none, none, none, some w_way, some w_shut, none]
noncomputable def nb_law_more_right_1 (w_code : Vl) (w_over : Vl) (w_way : Vl) (w_shut : Vl) (w_other : Vl) : Sto → An Unit Unit := fun s =>
  (((R.of ((phIn true) w_other w_shut s) s).bind fun x13 s14 => R.of (bool? x13) s14).bind fun c15 s16 => if c15 = true then ((callN 5 G_lets_fence [w_code, (Vl.dat (.str "main")), w_over, w_other, w_shut] s16).bind fun x17 s18 => R.of (phIsNot x17 (Vl.dat (.bool true)) s18) s18).bind fun x19 s20 => R.of (bool? x19) s20 else R.ok false s16).an fun c21 s22 => if c21 = true then
    (R.ok (Vl.dat (.bool false)) s22).an fun x23 s24 => .rt x23 s24
    else
    .nx () s22
noncomputable def lp_law_more_right_1 {L : Type} (w_code : Vl) (w_over : Vl) (w_way : Vl) (w_shut : Vl) (ck : Sto → Prop) : List Vl → Unit → Sto → An Unit L := forN ck (mk_law_more_right_2 w_code w_over w_way w_shut) (fun v a s => patN (pV v) fun p => nb_law_more_right_1 w_code w_over w_way w_shut p s)
@[simp] theorem lp_law_more_right_1_nil {L : Type} (w_code : Vl) (w_over : Vl) (w_way : Vl) (w_shut : Vl) {a : Unit} {s : Sto} : (lp_law_more_right_1 (L := L) w_code w_over w_way w_shut okT [] a s) = .nx a s := forN_nil
noncomputable def kt_law_more_right_1 (w_code : Vl) (w_over : Vl) (w_way : Vl) (w_shut : Vl) : Sto → An Unit Empty := fun s =>
  .nx () s
def mk_law_more_right_3 (w_code : Vl) (w_over : Vl) (w_way : Vl) : Unit → Loc := fun a => [some w_code, some w_over, none, none, none, some w_way, none, none]
noncomputable def nb_law_more_right_2 (w_code : Vl) (w_over : Vl) (w_way : Vl) (w_k : Vl) : Sto → An Unit Unit := fun s =>
  ((((((((R.of (phIx w_way w_k s) s).bind fun x39 s40 => ((((R.of (phAdd w_k (Vl.dat (.int 1)) s40) s40).bind fun x43 s44 => R.of ((int? x43).map some) s44).bind fun o41 s42 => R.of (phSl w_way none o41 s42) s42).bind fun x45 s46 => R.ok [x45] s46).bind fun l47 s48 => R.ok (x39 :: l47) s48).bind fun l49 s50 => R.ok (w_over :: l49) s50).bind fun l51 s52 => R.ok ((Vl.dat (.str "main")) :: l51) s52).bind fun l53 s54 => R.ok (w_code :: l53) s54).bind fun l55 s56 => callN 5 G_lets_around l55 s56).bind fun x57 s58 => R.of (phIsNot x57 (Vl.dat (.bool true)) s58) s58).bind fun x59 s60 => R.of (bool? x59) s60).an fun c61 s62 => if c61 = true then
    (R.ok (Vl.dat (.bool false)) s62).an fun x63 s64 => .rt x63 s64
    else
    .nx () s62
noncomputable def lp_law_more_right_2 {L : Type} (w_code : Vl) (w_over : Vl) (w_way : Vl) (ck : Sto → Prop) : List Vl → Unit → Sto → An Unit L := forN ck (mk_law_more_right_3 w_code w_over w_way) (fun v a s => patN (pV v) fun p => nb_law_more_right_2 w_code w_over w_way p s)
@[simp] theorem lp_law_more_right_2_nil {L : Type} (w_code : Vl) (w_over : Vl) (w_way : Vl) {a : Unit} {s : Sto} : (lp_law_more_right_2 (L := L) w_code w_over w_way okT [] a s) = .nx a s := forN_nil
noncomputable def kt_law_more_right_3 (w_code : Vl) (w_over : Vl) (w_way : Vl) : Sto → An Unit Empty := fun s =>
  (R.ok (Vl.dat (.bool true)) s).an fun x69 s70 => .rt x69 s70
noncomputable def kt_law_more_right_2 (w_code : Vl) (w_over : Vl) (w_way : Vl) : Sto → An Unit Empty := fun s =>
  ((((((R.of (phIsNot w_way (Vl.dat .none) s) s).bind fun x31 s32 => R.of (bool? x31) s32).bind fun c33 s34 => if c33 = true then R.of (phLen [w_way] s34) s34 else R.ok (Vl.dat (.int 0)) s34).bind fun x35 s36 => R.ok [x35] s36).bind fun l37 s38 => rngN1 l37 s38).an fun c65 s66 => lp_law_more_right_2 w_code w_over w_way c65.ok c65.items () s66).thn fun j67 s68 => kt_law_more_right_3 w_code w_over w_way  s68
noncomputable def n_law_more_right (w_code : Vl) (w_over : Vl) (w_under : Vl) (w_many : Vl) : Sto → An Unit Empty := fun s =>
  ((callN 4 G_around [w_code, (Vl.dat (.str "main")), w_over, w_under] s).bind fun x1 s2 => ((callN 4 G_fence [w_code, (Vl.dat (.str "main")), w_over, w_under] s2).bind fun x3 s4 => R.ok [x3] s4).bind fun l5 s6 => R.ok (x1 :: l5) s6).an fun l8 s7 => par2N l8 fun w_way w_shut =>
    (((R.of (phIsNot w_shut (Vl.dat .none) s7) s7).bind fun x9 s10 => R.of (bool? x9) s10).an fun c11 s12 => if c11 = true then
    ((rngN1 [w_many] s12).an fun c25 s26 => lp_law_more_right_1 w_code w_over w_way w_shut c25.ok c25.items () s26).thn fun j27 s28 => kt_law_more_right_1 w_code w_over w_way w_shut  s28
    else
    .nx () s12).thn fun j29 s30 => kt_law_more_right_2 w_code w_over w_way  s30
noncomputable def r_law_more_right : MF := runN fun xs => match xs with
  | [w_code, w_over, w_under, w_many] => n_law_more_right w_code w_over w_under w_many
  | _ => fun _ => .bad
noncomputable def G_law_more_right : MF := frameG (r_law_more_right)
theorem let_ok {act : Sto → R Vl} {s s' : Sto} {v : Vl} (h : act s = .ok v s') : lamN n_law_let_k15 act s = .ok v s' := by
  simp [lamN, n_law_let_k15, tryN, h]
theorem let_no {act : Sto → R Vl} {s s' : Sto} {e : List (Str × PyData)} (h : act s = .ex ("NoPaper", e) s') : lamN n_law_let_k15 act s = .ok (.dat (.bool false)) s' := by
  simp [lamN, n_law_let_k15, tryN, h, An.unx, okX, noX]
theorem is_tt {b : Bool} {s : Sto} : phIs (.dat (.bool b)) (.dat (.bool true)) s = some (.dat (.bool (decide (b = true)))) := rfl
theorem isNot_tt {b : Bool} {s : Sto} : phIsNot (.dat (.bool b)) (.dat (.bool true)) s = some (.dat (.bool (!decide (b = true)))) := rfl
theorem is_nn {s : Sto} : phIs (.dat .none) (.dat .none) s = some (.dat (.bool true)) := rfl
theorem is_tn {x : List PyData} {s : Sto} : phIs (.dat (.tuple x)) (.dat .none) s = some (.dat (.bool false)) := rfl
theorem sh_b (b : Bool) : SeqAt.shaped (.bool b) = true := by simp [SeqAt.shaped, PyData.canLay0, PyData.depth]
theorem ne_bb {a b : Bool} {s : Sto} : phNe (.dat (.bool a)) (.dat (.bool b)) s = some (.dat (.bool (a != b))) := by
  rw [phNe_sh (sh_b a) (sh_b b)]
  cases a <;> cases b <;> simp [PyData.eqv]
theorem eq_bb {a b : Bool} {s : Sto} : phEq (.dat (.bool a)) (.dat (.bool b)) s = some (.dat (.bool (a == b))) := by
  rw [phEq_sh (sh_b a) (sh_b b)]
  cases a <;> cases b <;> simp [PyData.eqv]
theorem lay_i (z : List Int) : PyData.canLayAll0 (z.map PyData.int) = true := by
  induction z with
  | nil => simp [PyData.canLayAll0]
  | cons n ns ih => simp [PyData.canLayAll0, PyData.canLay0, ih]
theorem dep_i (z : List Int) : (intsD z).depth ≤ 1 := depth_tuple.mpr fun x hx => by
  obtain ⟨y, _, rfl⟩ := List.mem_map.mp hx
  simp [PyData.depth]
theorem sh_i (z : List Int) : SeqAt.shaped (intsD z) = true := by
  unfold SeqAt.shaped
  rw [show (intsD z).canLay0 = true by simpa [intsD, PyData.canLay0] using lay_i z, Bool.true_and, decide_eq_true_eq]
  have := dep_i z
  omega
theorem sh_il (L : List (List Int)) : SeqAt.shaped (.list (L.map intsD)) = true := by
  have hf : PyData.canLayAll0 (L.map intsD) = true := by
    induction L with
    | nil => simp [PyData.canLayAll0]
    | cons z L ih =>
      have hz : (intsD z).canLay0 = true := by simpa [intsD, PyData.canLay0] using lay_i z
      simp only [List.map_cons, PyData.canLayAll0, hz, ih, Bool.and_self]
  unfold SeqAt.shaped
  rw [show (PyData.list (L.map intsD)).canLay0 = true by simpa [PyData.canLay0] using hf, Bool.true_and, decide_eq_true_eq]
  have : (PyData.list (L.map intsD)).depth ≤ 1 + 1 := depth_list.mpr fun x hx => by
    obtain ⟨z, _, rfl⟩ := List.mem_map.mp hx
    exact dep_i z
  omega
theorem ne_il {L : List (List Int)} {s : Sto} : phNe (.dat (.list (L.map intsD))) (.dat (.list [])) s = some (.dat (.bool (!L.isEmpty))) := by
  rw [phNe_sh (sh_il L) (show SeqAt.shaped (.list []) = true from sh_il [])]
  cases L with
  | nil => simp [PyData.eqv, PyData.eqvAll]
  | cons _ _ => simp [PyData.eqv, PyData.eqvAll]
theorem ne_00 {s : Sto} : phNe (.dat (.list [])) (.dat (.list [])) s = some (.dat (.bool false)) := ne_il (L := [])
theorem in_il {L : List (List Int)} {z : List Int} (h : z ∈ L) (s : Sto) : phInD false (.dat (intsD z)) (.dat (.list (L.map intsD))) s = some (.dat (.bool true)) := by
  show (if (intsD z).depth ≤ 60 ∧ SeqAt.shaped (intsD z) = true ∧ SeqAt.shaped (.list (L.map intsD)) = true then some (Vl.dat (.bool (if false = true then _ else (L.map intsD).any fun w => PyData.eqv w (intsD z)))) else none) = _
  have hd := dep_i z
  rw [if_pos ⟨by omega, sh_i z, sh_il L⟩, if_neg (by decide)]
  have : ((L.map intsD).any fun w => PyData.eqv w (intsD z)) = true := List.any_eq_true.mpr ⟨intsD z, List.mem_map_of_mem h, SeqAt.eqv_refl _ (SeqAt.canLay_of_shaped (sh_i z))⟩
  rw [this]
section
variable {bs : List Blk} (ok : GoIn bs) (n5 : bs.length ≤ 5) (o u : Int)
abbrev mainD (bs : List Blk) : Vl := .dat (cod2 bs).d
theorem hc2 (bs : List Blk) : (cod2 bs).rts.lookup ("main" : Str) = some bs := rfl
include ok n5
theorem ct_fence {z : List Int} (hz : z ∈ fences bs.length) (s : Sto) : ct_law_right_k15_1 (mainD bs) (.dat (.int o)) (.dat (.int u)) (.dat (intsD z)) s = .ok (fenB bs o u z) s := by
  obtain ⟨h1, h2⟩ := mem_fences.mp hz
  have hl := rise_len h1 h2
  obtain ⟨a, b⟩ := G_lets_fence_eq (hc2 bs) (o := o) (u := u) h1 h2 (by omega) s
  cases e : fenB bs o u z with
  | true =>
    have h' := let_ok (a e)
    simp [ct_law_right_k15_1, h', is_tt]
  | false =>
    obtain ⟨x, hx⟩ := b e
    have h' := let_no hx
    simp [ct_law_right_k15_1, h', is_tt]
theorem lets_ar {z : List Int} (hl : z.length ≤ 100) (s : Sto) : G_lets_around [mainD bs, .dat (.str "main"), .dat (.int o), .dat (.int u), .dat (intsD z)] s = saidR (arJ (goalsB bs) o u (intsD z)) s :=
  G_lets_around_eq (hc2 bs) ok (fun ds h => by
    have h : PyData.tuple (z.map PyData.int) = .tuple ds := h
    cases h
    rw [List.length_map]
    omega) s
theorem ct_around {z : List Int} (hz : z ∈ Ws bs 120) (s : Sto) : ct_law_right_k15_3 (mainD bs) (.dat (.int o)) (.dat (.int u)) (.dat (intsD z)) s = .ok (decide (arJ (goalsB bs) o u (intsD z) = none)) s := by
  have hw := Ws_ok ok 120 z hz
  have e := lets_ar ok n5 o u (z := z) (by have := hw.len; omega) s
  cases ea : arJ (goalsB bs) o u (intsD z) with
  | none =>
    rw [ea] at e
    have h' := let_ok (show G_lets_around _ s = .ok (.dat (.bool true)) s from e)
    simp [ct_law_right_k15_3, h', is_tt]
  | some p =>
    rw [ea] at e
    have h' := let_no (show G_lets_around _ s = .ex ("NoPaper", [("at", .int p.2), ("word", .str p.1)]) s from e)
    simp [ct_law_right_k15_3, h', is_tt]
theorem src_il {L : List (List Int)} {s : Sto} : src (.dat (.list (L.map intsD))) s = some ⟨L.map fun z => Vl.dat (intsD z), none⟩ := by
  show some (Src.mk ((L.map intsD).map Vl.dat) none) = _
  rw [List.map_map]
  rfl
theorem G_law_right_eq (s : Sto) : G_law_right_k15 [mainD bs, .dat (.int o), .dat (.int u), .dat (.list ((fences bs.length).map intsD)), .dat (.list ((Ws bs 120).map intsD))] s = .ok (.dat (.bool true)) s := by
  refine fr0 (s2 := []) ?_
  obtain ⟨K, hK, e⟩ := G_led3_eq (hc2 bs) ok (by omega) o
  have hkl : K.length ≤ 5 := by
    have := few_in hK.nd fun x hx => ((hK.mem x).mp hx).in ok
    rw [List.length_map] at this
    omega
  have hfl := fences_len bs.length
  have hf32 := pow_five n5
  have hwl := Ws_len bs 120
  have ed := G_dominates_eq (K := K) (by omega) e (u := u)
  have e1 := lcP_pure (s := ([] : Sto)) (a' := none) (l := fences bs.length) (pat := pV) (t := fun p s => ct_law_right_k15_1 (mainD bs) (.dat (.int o)) (.dat (.int u)) p s) (e := fun p s => ce_law_right_k15_2 p s) (fun z => Vl.dat (intsD z)) (fun z => Vl.dat (intsD z)) (fun z => fenB bs o u z) (fun z => intsD z) trivial (fun z hz => ⟨rfl, ct_fence ok n5 o u hz [], fun _ => rfl⟩) (th_mil (by omega))
  have e2 := lcP_pure (s := ([] : Sto)) (a' := none) (l := Ws bs 120) (pat := pV) (t := fun p s => ct_law_right_k15_3 (mainD bs) (.dat (.int o)) (.dat (.int u)) p s) (e := fun p s => ce_law_right_k15_4 p s) (fun z => Vl.dat (intsD z)) (fun z => Vl.dat (intsD z)) (fun z => decide (arJ (goalsB bs) o u (intsD z) = none)) (fun z => intsD z) trivial (fun z hz => ⟨rfl, ct_around ok n5 o u hz [], fun _ => rfl⟩) (th_mil (by omega))
  generalize hLH : (fences bs.length).filter (fun z => fenB bs o u z) = LH at e1
  generalize hLW : (Ws bs 120).filter (fun z => decide (arJ (goalsB bs) o u (intsD z) = none)) = LW at e2
  have mLH : ∀ z, z ∈ LH ↔ z ∈ fences bs.length ∧ fenB bs o u z = true := fun z => by rw [← hLH, List.mem_filter]
  have mLW : ∀ z, z ∈ LW ↔ z ∈ Ws bs 120 ∧ arJ (goalsB bs) o u (intsD z) = none := fun z => by rw [← hLW, List.mem_filter, decide_eq_true_eq]
  rw [r_law_right_k15, runN_ap]
  refine wp_of (Q := fun z => An.fin z = _) ?_
  simp only [n_law_right_k15]
  refine wp_an (a := .dat (.bool (!decide (u ∈ K.map (·.1))))) (s := []) (by simp [ed]) ?_
  refine wp_an (a := .dat (.list (LH.map intsD))) (s := []) (by rw [src_il ok n5, R.of_some]; exact e1) ?_
  refine wp_an (a := .dat (.list (LW.map intsD))) (s := []) (by rw [src_il ok n5, R.of_some]; exact e2) ?_
  by_cases hu : u ∈ K.map (·.1)
  · obtain ⟨w, hup, hp, hn⟩ := hK.up u hu
    obtain ⟨r, rfl⟩ := hup.head
    have hrch := (hK.mem u).mp hu
    have hlen : (u :: r).length ≤ 5 := by
      have := few_in hn fun x hx => by
        obtain ⟨k, hk, rfl⟩ := List.getElem_of_mem hx
        have := rp_tail k hp hk
        rw [List.drop_eq_getElem_cons hk] at this
        exact (RP.rch this).in ok
      omega
    have hLH0 : LH = [] := List.eq_nil_iff_forall_not_mem.mpr fun z hz => fen_sound ((mLH z).mp hz).2 hrch
    have hLW0 : LW.isEmpty = false := by
      have := (mLW _).mpr ⟨way_in hp hlen, ar_rp hp⟩
      cases LW with
      | nil => cases this
      | cons _ _ => rfl
    have ea := G_around_go (K := K) (by omega) e hup (by omega) hu
    have ef := G_fence_no (K := K) (by omega) e hu
    have el := lets_ar ok n5 o u (z := (u :: r).reverse) (by rw [List.length_reverse]; omega)
    rw [ar_rp hp] at el
    have el : ∀ s, G_lets_around [mainD bs, .dat (.str "main"), .dat (.int o), .dat (.int u), .dat (intsD (u :: r).reverse)] s = .ok (.dat (.bool true)) s := el
    generalize (u :: r).reverse = rv at ea el
    have itn : ∀ s, phIs (.dat (intsD rv)) (.dat .none) s = some (.dat (.bool false)) := fun s => is_tn
    refine wp_if (b := false) (s := []) (by simp [ne_il, ne_00, hLH0, hLW0, ne_bb, eq_bb, decide_eq_true hu]) ?_
    rw [if_neg Bool.false_ne_true]
    refine wp_an (a := [.dat (intsD rv), .dat .none]) (s := []) (by simp [ea, ef]) ?_
    simp only [par2N]
    refine wp_if (b := false) (s := []) (by simp [itn, is_nn, ne_bb, eq_bb, decide_eq_true hu]) ?_
    rw [if_neg Bool.false_ne_true]
    simp [Wp, decide_eq_true hu, tru, el, is_tt]
  · have hrch : ¬ RchO bs o u := fun h => hu ((hK.mem u).mpr h)
    have hR : srtI (K.map (·.1)) ∈ LH := (mLH _).mpr ⟨mem_fences.mpr ⟨srtI_rise hK.nd, fun z hz => ((hK.mem z).mp (mem_srtI.mp hz)).in ok⟩, fen_all (fun x => mem_srtI.trans (hK.mem x)) fun h => hu (mem_srtI.mp h)⟩
    have hLH0 : LH.isEmpty = false := by
      cases LH with
      | nil => cases hR
      | cons _ _ => rfl
    have hLW0 : LW = [] := List.eq_nil_iff_forall_not_mem.mpr fun z hz => hrch (ar_rch ((mLW z).mp hz).2)
    have ea := G_around_no (K := K) (by omega) e hu
    have ef := G_fence_go (K := K) (by omega) e hu
    have ein := in_il hR
    generalize srtI (K.map (·.1)) = R0 at ef ein
    have itn : ∀ s, phIs (.dat (intsD R0)) (.dat .none) s = some (.dat (.bool false)) := fun s => is_tn
    refine wp_if (b := false) (s := []) (by simp [ne_il, ne_00, hLH0, hLW0, ne_bb, eq_bb, decide_eq_false hu]) ?_
    rw [if_neg Bool.false_ne_true]
    refine wp_an (a := [.dat .none, .dat (intsD R0)]) (s := []) (by simp [ea, ef]) ?_
    simp only [par2N]
    refine wp_if (b := false) (s := []) (by simp [itn, is_nn, ne_bb, eq_bb, decide_eq_false hu]) ?_
    rw [if_neg Bool.false_ne_true]
    simp [Wp, decide_eq_false hu, tru, ein]
end
end Pm
set_option maxRecDepth 100000
set_option maxHeartbeats 4000000
namespace Pm
open PySem PySem.Spec PyProof.Rows L2 Sw
def mk_law_k15_1 (w_feed_here : Vl) : Unit → Loc := fun a => [none, some w_feed_here, none, none, none, none, none, none, none]
def mk_law_k15_2 (w_feed_here : Vl) (w_code : Vl) (w_many : Vl) (w_shuts : Vl) (w_ways_here : Vl) : Unit → Loc := fun a => [none, some w_feed_here, none, some w_code, some w_many, none, some w_shuts, some w_ways_here, none]
def mk_law_k15_3 (w_feed_here : Vl) (w_code : Vl) (w_many : Vl) (w_over : Vl) (w_shuts : Vl) (w_ways_here : Vl) : Unit → Loc := fun a => [none, some w_feed_here, none, some w_code, some w_many, some w_over, some w_shuts, some w_ways_here, none]
noncomputable def nb_law_k15_3 (dr : MF) (w_feed_here : Vl) (w_code : Vl) (w_many : Vl) (w_over : Vl) (w_shuts : Vl) (w_ways_here : Vl) (w_under : Vl) : Sto → An Unit Unit := fun s =>
  ((((callN 5 G_law_right_k15 [w_code, w_over, w_under, w_shuts, w_ways_here] s).bind fun x20 s21 => R.of (tru x20 s21) s21).bind fun c22 s23 => R.ok (!c22) s23).bind fun c24 s25 => if c24 = true then R.ok true s25 else ((callN 4 G_law_more_right [w_code, w_over, w_under, w_many] s25).bind fun x26 s27 => R.of (tru x26 s27) s27).bind fun c28 s29 => R.ok (!c28) s29).an fun c30 s31 => if c30 = true then
    (R.ok (Vl.dat (.bool false)) s31).an fun x32 s33 => .rt x32 s33
    else
    .nx () s31
noncomputable def lp_law_k15_3 {L : Type} (dr : MF) (w_feed_here : Vl) (w_code : Vl) (w_many : Vl) (w_over : Vl) (w_shuts : Vl) (w_ways_here : Vl) (ck : Sto → Prop) : List Vl → Unit → Sto → An Unit L := forN ck (mk_law_k15_3 w_feed_here w_code w_many w_over w_shuts w_ways_here) (fun v a s => patN (pV v) fun p => nb_law_k15_3 dr w_feed_here w_code w_many w_over w_shuts w_ways_here p s)
@[simp] theorem lp_law_k15_3_nil {L : Type} (dr : MF) (w_feed_here : Vl) (w_code : Vl) (w_many : Vl) (w_over : Vl) (w_shuts : Vl) (w_ways_here : Vl) {a : Unit} {s : Sto} : (lp_law_k15_3 (L := L) dr w_feed_here w_code w_many w_over w_shuts w_ways_here okT [] a s) = .nx a s := forN_nil
noncomputable def kt_law_k15_1 (dr : MF) (w_feed_here : Vl) (w_code : Vl) (w_many : Vl) (w_over : Vl) (w_shuts : Vl) (w_ways_here : Vl) : Sto → An Unit Unit := fun s =>
  .nx () s
noncomputable def nb_law_k15_2 (dr : MF) (w_feed_here : Vl) (w_code : Vl) (w_many : Vl) (w_shuts : Vl) (w_ways_here : Vl) (w_over : Vl) : Sto → An Unit Unit := fun s =>
  ((rngN1 [w_many] s).an fun c34 s35 => lp_law_k15_3 dr w_feed_here w_code w_many w_over w_shuts w_ways_here c34.ok c34.items () s35).thn fun j36 s37 => kt_law_k15_1 dr w_feed_here w_code w_many w_over w_shuts w_ways_here  s37
noncomputable def lp_law_k15_2 {L : Type} (dr : MF) (w_feed_here : Vl) (w_code : Vl) (w_many : Vl) (w_shuts : Vl) (w_ways_here : Vl) (ck : Sto → Prop) : List Vl → Unit → Sto → An Unit L := forN ck (mk_law_k15_2 w_feed_here w_code w_many w_shuts w_ways_here) (fun v a s => patN (pV v) fun p => nb_law_k15_2 dr w_feed_here w_code w_many w_shuts w_ways_here p s)
@[simp] theorem lp_law_k15_2_nil {L : Type} (dr : MF) (w_feed_here : Vl) (w_code : Vl) (w_many : Vl) (w_shuts : Vl) (w_ways_here : Vl) {a : Unit} {s : Sto} : (lp_law_k15_2 (L := L) dr w_feed_here w_code w_many w_shuts w_ways_here okT [] a s) = .nx a s := forN_nil
noncomputable def kt_law_k15_2 (dr : MF) (w_feed_here : Vl) (w_code : Vl) (w_many : Vl) (w_shuts : Vl) (w_ways_here : Vl) : Sto → An Unit Unit := fun s =>
  .nx () s
noncomputable def nb_law_k15_1 (dr : MF) (w_feed_here : Vl) (w_turn : Vl) : Sto → An Unit Unit := fun s =>
  (callN 2 (G_law_graph dr) [w_feed_here, (Vl.dat (.int 5))] s).an fun w_code s2 =>
    (((((R.of (phIx w_code (Vl.dat (.int 1)) s2) s2).bind fun x4 s5 => R.of (phIx x4 (Vl.dat (.int 0)) s5) s5).bind fun x6 s7 => R.of (phIx x6 (Vl.dat (.int 1)) s7) s7).bind fun x8 s9 => R.ok [x8] s9).bind fun l10 s11 => R.of (phLen l10 s11) s11).an fun w_many s3 =>
    ((callN 1 G_law_fences [w_many] s3).bind fun x12 s13 => ((callN 1 G_law_ways_k15 [w_code] s13).bind fun x14 s15 => R.ok [x14] s15).bind fun l16 s17 => R.ok (x12 :: l16) s17).an fun l19 s18 => par2N l19 fun w_shuts w_ways_here =>
    ((rngN1 [w_many] s18).an fun c38 s39 => lp_law_k15_2 dr w_feed_here w_code w_many w_shuts w_ways_here c38.ok c38.items () s39).thn fun j40 s41 => kt_law_k15_2 dr w_feed_here w_code w_many w_shuts w_ways_here  s41
noncomputable def lp_law_k15_1 {L : Type} (dr : MF) (w_feed_here : Vl) (ck : Sto → Prop) : List Vl → Unit → Sto → An Unit L := forN ck (mk_law_k15_1 w_feed_here) (fun v a s => patN (pV v) fun p => nb_law_k15_1 dr w_feed_here p s)
@[simp] theorem lp_law_k15_1_nil {L : Type} (dr : MF) (w_feed_here : Vl) {a : Unit} {s : Sto} : (lp_law_k15_1 (L := L) dr w_feed_here okT [] a s) = .nx a s := forN_nil
theorem lp_law_k15_1_cons {L : Type} (dr : MF) (w_feed_here : Vl) {v : Vl} {r : List Vl} {a : Unit} {s : Sto} : (lp_law_k15_1 (L := L) dr w_feed_here okT (v :: r) a s) = (patN (pV v) fun p => nb_law_k15_1 dr w_feed_here p s).lp (mk_law_k15_1 w_feed_here) s.length (lp_law_k15_1 dr w_feed_here okT r) := forN_cons
noncomputable def kt_law_k15_3 (dr : MF) (w_feed_here : Vl) : Sto → An Unit Empty := fun s =>
  (R.ok (Vl.dat (.bool true)) s).an fun x46 s47 => .rt x46 s47
noncomputable def n_law_k15 (dr : MF) (w_script : Vl) : Sto → An Unit Empty := fun s =>
  (callN 1 G_law_feed_k01 [w_script] s).an fun w_feed_here s1 =>
    ((rngN1 [(Vl.dat (.int 4))] s1).an fun c42 s43 => lp_law_k15_1 dr w_feed_here c42.ok c42.items () s43).thn fun j44 s45 => kt_law_k15_3 dr w_feed_here  s45
noncomputable def r_law_k15 (dr : MF) : MF := runN fun xs => match xs with
  | [w_script] => n_law_k15 dr w_script
  | _ => fun _ => .bad
noncomputable def G_law_k15 (dr : MF) : MF := frameG (r_law_k15 dr)
section
variable {bs : List Blk} (ok : GoIn bs) (n5 : bs.length ≤ 5) (o u : Int)
include ok n5
theorem more_fence {R : List Int} (hR : R.Pairwise (· < ·)) (hin : ∀ z ∈ R, 0 ≤ z ∧ z < (bs.length : Int)) (hz : ∀ x, x ∈ R ↔ RchO bs o x) {w : Vl} {n : Nat} {L : Type} (s : Sto) : (lp_law_more_right_1 (L := L) (mainD bs) (.dat (.int o)) w (.dat (intsD R)) okT (rgs 0 n) () s) = .nx () s := by
  have hl := rise_len hR hin
  refine forN_same fun v hv => ?_
  obtain ⟨x, rfl, _⟩ := rgs_mem hv
  rw [pV_ap, patN_some]
  refine wp_of (Q := fun z : An Unit Unit => z = _) ?_
  simp only [nb_law_more_right_1]
  have ei : ∀ s, phIn true (.dat (.int x)) (.dat (intsD R)) s = some (.dat (.bool (!decide (x ∈ R)))) := fun s => phIn_t (neg := true)
  refine wp_if (b := false) (s := s) ?_ rfl
  by_cases hx : x ∈ R
  · simp [ei, hx]
  · have ef := (G_lets_fence_eq (hc2 bs) (o := o) (u := x) hR hin (by omega) s).1 (fen_all hz hx)
    simp [ei, hx, ef, isNot_tt]
theorem more_way {w : List Int} (hp : RP bs o w) (hw : w ≠ []) (hl : w.length ≤ 5) {L : Type} (s : Sto) : (lp_law_more_right_2 (L := L) (mainD bs) (.dat (.int o)) (.dat (intsD w.reverse)) okT (rgs 0 w.length) () s) = .nx () s := by
  refine forN_same fun v hv => ?_
  obtain ⟨x, rfl, x0, x1⟩ := rgs_mem hv
  obtain ⟨k, rfl⟩ : ∃ k : Nat, x = (k : Int) := ⟨x.toNat, by omega⟩
  have hk : k < w.length := by omega
  have hj : w.length - (k + 1) < w.length := by omega
  rw [pV_ap, patN_some]
  refine wp_of (Q := fun z : An Unit Unit => z = _) ?_
  simp only [nb_law_more_right_2]
  have hd := rp_tail (w.length - (k + 1)) hp hj
  rw [List.drop_eq_getElem_cons hj] at hd
  have ha := ar_rp hd
  rw [← List.drop_eq_getElem_cons hj] at ha
  have et : (w.drop (w.length - (k + 1))).reverse = w.reverse.take (k + 1) := by rw [List.take_reverse]
  rw [et] at ha
  have eg : w.reverse[k]? = some (w[w.length - (k + 1)]) := by
    rw [List.getElem?_eq_getElem (by rw [List.length_reverse]; exact hk), List.getElem_reverse]
    congr 2
    omega
  generalize w[w.length - (k + 1)] = b at ha eg
  have hix : ∀ s, phIx (.dat (intsD w.reverse)) (.dat (.int (k : Int))) s = some (.dat (.int b)) := fun s => by
    show (atI (w.reverse.map PyData.int) (k : Int)).map Vl.dat = _
    rw [atI_nat', List.getElem?_map, eg]
    rfl
  have hsl : ∀ s, phSl (.dat (intsD w.reverse)) none (some ((k : Int) + 1)) s = some (.dat (intsD (w.reverse.take (k + 1)))) := fun s => by
    show some (Vl.dat (.tuple (cut (w.reverse.map PyData.int) none (some ((k : Int) + 1))))) = _
    have := cut_to (w.reverse.map PyData.int) (k := k + 1) (by rw [List.length_map, List.length_reverse]; omega)
    rw [show ((k + 1 : Nat) : Int) = (k : Int) + 1 by omega] at this
    rw [this, ← List.map_take]
    rfl
  have el := lets_ar ok n5 o b (z := w.reverse.take (k + 1)) (by rw [List.length_take, List.length_reverse]; omega)
  rw [ha] at el
  have el : ∀ s, G_lets_around [mainD bs, .dat (.str "main"), .dat (.int o), .dat (.int b), .dat (intsD (w.reverse.take (k + 1)))] s = .ok (.dat (.bool true)) s := el
  have eadd : ∀ s, phAdd (.dat (.int (k : Int))) (.dat (.int 1)) s = some (.dat (.int ((k : Int) + 1))) := fun s => rfl
  refine wp_if (b := false) (s := s) ?_ rfl
  simp [hix, eadd, int?, hsl, el, isNot_tt]
theorem G_law_more_right_eq {n : Nat} (hn : n ≤ 60) (s : Sto) : G_law_more_right [mainD bs, .dat (.int o), .dat (.int u), .dat (.int (n : Int))] s = .ok (.dat (.bool true)) s := by
  refine fr0 (s2 := []) ?_
  obtain ⟨K, hK, e⟩ := G_led3_eq (hc2 bs) ok (by omega) o
  have hkl : K.length ≤ 5 := by
    have := few_in hK.nd fun x hx => ((hK.mem x).mp hx).in ok
    rw [List.length_map] at this
    omega
  rw [r_law_more_right, runN_ap]
  refine wp_of (Q := fun z => An.fin z = _) ?_
  simp only [n_law_more_right]
  by_cases hu : u ∈ K.map (·.1)
  · obtain ⟨w, hup, hp, hn⟩ := hK.up u hu
    obtain ⟨r, rfl⟩ := hup.head
    have hlen : (u :: r).length ≤ 5 := by
      have := few_in hn fun x hx => by
        obtain ⟨k, hk, rfl⟩ := List.getElem_of_mem hx
        have := rp_tail k hp hk
        rw [List.drop_eq_getElem_cons hk] at this
        exact (RP.rch this).in ok
      omega
    have ea := G_around_go (K := K) (by omega) e hup (by omega) hu
    have ef := G_fence_no (K := K) (by omega) e hu
    have hm := more_way ok n5 o hp (by simp) hlen (L := Empty) []
    have hlr : ∀ s, phLen [.dat (intsD (u :: r).reverse)] s = some (.dat (.int ((u :: r).length : Int))) := fun s => by
      show some (Vl.dat (.int (((u :: r).reverse.map PyData.int).length : Int))) = _
      rw [List.length_map, List.length_reverse]
    have er := rngN1_n (n := (u :: r).length) (s := ([] : Sto)) (th_mil (by omega))
    have itn : ∀ s, phIsNot (.dat (intsD (u :: r).reverse)) (.dat .none) s = some (.dat (.bool true)) := fun s => isNot_tn
    generalize (u :: r).reverse = rv at ea hm hlr itn
    generalize (u :: r).length = m at hm hlr er
    refine wp_an (a := [.dat (intsD rv), .dat .none]) (s := []) (by simp [ea, ef]) ?_
    simp only [par2N]
    refine wp_thn (a := ()) (s := []) (by simp [isNot_nn]) ?_
    simp only [kt_law_more_right_2]
    refine wp_thn (a := ()) (s := []) ?_ (by simp [Wp, kt_law_more_right_3])
    simp only [itn, R.of_some, R.bind_ok, bool?_b, if_true, hlr, er, R.an_ok, src_ok_none]
    exact hm
  · have hR := srtI_rise hK.nd
    have hin : ∀ z ∈ srtI (K.map (·.1)), 0 ≤ z ∧ z < (bs.length : Int) := fun z hz => ((hK.mem z).mp (mem_srtI.mp hz)).in ok
    have hz : ∀ x, x ∈ srtI (K.map (·.1)) ↔ RchO bs o x := fun x => mem_srtI.trans (hK.mem x)
    have ea := G_around_no (K := K) (by omega) e hu
    have ef := G_fence_go (K := K) (by omega) e hu
    have hm := more_fence ok n5 o hR hin hz (w := .dat .none) (n := n) (L := Empty) []
    have er := rngN1_n (n := n) (s := ([] : Sto)) (th_mil (by omega))
    have itn : ∀ s, phIsNot (.dat (intsD (srtI (K.map (·.1))))) (.dat .none) s = some (.dat (.bool true)) := fun s => isNot_tn
    generalize srtI (K.map (·.1)) = R0 at ef hm itn
    refine wp_an (a := [.dat .none, .dat (intsD R0)]) (s := []) (by simp [ea, ef]) ?_
    simp only [par2N]
    refine wp_thn (a := ()) (s := []) ?_ ?_
    · refine wp_of (Q := fun z : An Unit Empty => z = _) ?_
      refine wp_if (b := true) (s := []) (by simp [itn]) ?_
      rw [if_pos rfl]
      rw [er, R.an_ok, src_ok_none]
      exact wp_thn hm rfl
    · simp only [kt_law_more_right_2]
      have er0 := rngN1_n (n := 0) (s := ([] : Sto)) (th_mil (by omega))
      have er0 : rngN1 [.dat (.int 0)] ([] : Sto) = .ok ⟨[], none⟩ [] := er0
      refine wp_thn (a := ()) (s := []) ?_ (by simp [Wp, kt_law_more_right_3])
      simp only [isNot_nn, R.of_some, R.bind_ok, bool?_b, Bool.false_eq_true, if_false, er0, R.an_ok, src_ok_none]
      exact lp_law_more_right_2_nil _ _ _
end
theorem law_turn {dr : MF} {Fd : Nat → Ob → Prop} (D : DrawSp dr Fd) {j : Nat} {f : Ob} {k : Vl} (hf : Fd j f) (hj : j ≤ 500000) : ∃ f', nb_law_k15_1 dr (.ref 0) k [f] = .nx () [f'] ∧ Fd (j + 30) f' := by
  obtain ⟨bs, f1, h1, hf1, ok, h5⟩ := G_law_graph_eq D (t := []) (q := 5) hf (by omega) (by decide) (by decide)
  have n5 : bs.length ≤ 5 := by omega
  have go : GoIn bs := ⟨ok.pos, ok.rng⟩
  have er := fun s => rngN1_n (n := bs.length) (s := s) (th_mil (by omega))
  have in3 : ∀ (o : Int) (L : Type), (lp_law_k15_3 (L := L) dr (.ref 0) (mainD bs) (.dat (.int (bs.length : Int))) (.dat (.int o)) (.dat (.list ((fences bs.length).map intsD))) (.dat (.list ((Ws bs 120).map intsD))) okT (rgs 0 bs.length) () [f1]) = .nx () [f1] := fun o L => by
    refine forN_same fun v hv => ?_
    obtain ⟨u, rfl, _⟩ := rgs_mem hv
    rw [pV_ap, patN_some]
    refine wp_of (Q := fun z : An Unit Unit => z = _) ?_
    simp only [nb_law_k15_3]
    have e1 := G_law_right_eq go n5 o u [f1]
    have e2 := G_law_more_right_eq go n5 o u (n := bs.length) (by omega) [f1]
    refine wp_if (b := false) (s := [f1]) ?_ rfl
    simp [e1, e2, tru]
  have in2 : ∀ (L : Type), (lp_law_k15_2 (L := L) dr (.ref 0) (mainD bs) (.dat (.int (bs.length : Int))) (.dat (.list ((fences bs.length).map intsD))) (.dat (.list ((Ws bs 120).map intsD))) okT (rgs 0 bs.length) () [f1]) = .nx () [f1] := fun L => by
    refine forN_same fun v hv => ?_
    obtain ⟨o, rfl, _⟩ := rgs_mem hv
    rw [pV_ap, patN_some]
    refine wp_of (Q := fun z : An Unit Unit => z = _) ?_
    simp only [nb_law_k15_2]
    refine wp_thn (a := ()) (s := [f1]) ?_ rfl
    rw [er, R.an_ok, src_ok_none]
    exact in3 o _
  refine ⟨f1, ?_, hf1⟩
  refine wp_of (Q := fun z : An Unit Unit => z = _) ?_
  simp only [nb_law_k15_1]
  refine wp_an (a := mainD bs) (s := [f1]) (by simp [h1]) ?_
  refine wp_an (a := .dat (.int (bs.length : Int))) (s := [f1]) ?_ ?_
  · have a1 : ∀ s, phIx (mainD bs) (.dat (.int 1)) s = some (.dat (.tuple [rtD ("main", bs)])) := fun s => rfl
    have a2 : ∀ s, phIx (.dat (.tuple [rtD ("main", bs)])) (.dat (.int 0)) s = some (.dat (rtD ("main", bs))) := fun s => rfl
    have a3 : ∀ s, phIx (.dat (rtD ("main", bs))) (.dat (.int 1)) s = some (.dat (blksD bs)) := fun s => rfl
    have a4 : ∀ s, phLen [.dat (blksD bs)] s = some (.dat (.int (bs.length : Int))) := fun s => by
      show some (Vl.dat (.int ((bs.map Blk.d).length : Int))) = _
      rw [List.length_map]
    simp only [a1, a2, a3, a4, R.of_some, R.bind_ok]
  have e3 := fun s => G_law_fences_eq n5 s
  have e4 := fun s => G_law_ways_eq (hc2 bs) go s
  refine wp_an (a := [.dat (.list ((fences bs.length).map intsD)), .dat (.list ((Ws bs 120).map intsD))]) (s := [f1]) (by simp [e3, e4]) ?_
  simp only [par2N]
  refine wp_thn (a := ()) (s := [f1]) ?_ rfl
  rw [er, R.an_ok, src_ok_none]
  exact in2 _
theorem law_turns {dr : MF} {Fd : Nat → Ob → Prop} (D : DrawSp dr Fd) {L : Type} : ∀ (n : Nat) (i : Int) (j : Nat) (f : Ob), Fd j f → j + 30 * n ≤ 500000 → ∃ f', (lp_law_k15_1 (L := L) dr (.ref 0) okT (rgs i n) () [f]) = .nx () [f'] ∧ Fd (j + 30 * n) f'
  | 0, i, j, f, hf, hj => ⟨f, by rw [rgs_zero, lp_law_k15_1_nil], hf⟩
  | n + 1, i, j, f, hf, hj => by
    obtain ⟨f1, h1, hf1⟩ := law_turn D (k := .dat (.int i)) hf (by omega)
    obtain ⟨f2, h2, hf2⟩ := law_turns D (L := L) n (i + 1) (j + 30) f1 hf1 (by omega)
    refine ⟨f2, ?_, D.mono hf2 (by omega)⟩
    rw [rgs_succ, lp_law_k15_1_cons, pV_ap, patN_some, h1, lp_nx, tidy_same (by simp), h2]
theorem cut_map {α γ : Type} (g : α → γ) (xs : List α) (l h : Option Int) : cut (xs.map g) l h = (cut xs l h).map g := by
  unfold cut
  rw [List.length_map, List.map_take, List.map_drop]
theorem cut_le {α : Type} (xs : List α) (n : Nat) : cut xs none (some (n : Int)) = xs.take n := by
  unfold cut
  rw [HT.sIx_nat]
  show (xs.drop 0).take (min n xs.length - 0) = _
  rw [List.drop_zero, Nat.sub_zero, ← List.take_eq_take_min]
theorem n_law_feed_k01_eq {ns : List Int} (hl : ns.length ≤ 63) (s : Sto) : (n_law_feed_k01 (.scr ns) s).fin = .ok (.ref s.length) (s ++ [fdL ns 0 0 0]) := by
  have e : ∀ s, phSl (.scr ns) none (some 63) s = some (.dat (.list (ns.map PyData.int))) := fun s => by
    simp only [phSl]
    rw [if_pos (show ns.length ≤ mil from Nat.le_trans hl (by unfold mil; omega)), cut_map, show (63 : Int) = ((63 : Nat) : Int) from rfl, cut_le, List.take_of_length_le hl]
  simp [n_law_feed_k01, e, fdL]
theorem fdl0 {ns : List Int} (hl : ns.length ≤ 63) : FdL 0 (fdL ns 0 0 0) := ⟨ns, 0, 0, 0, rfl, hl, Int.le_refl _, Int.le_refl _, Int.le_refl _⟩
theorem law_k15_true : ∀ ns : List Int, ns.length ≤ 63 → (∀ z ∈ ns, PySem.Builtin.Int.intBits z ≤ 1048576) → ∃ s1, (G_law_k15 G_law_draw_k01) [.scr ns] [] = .ok (.dat (.bool true)) s1 := by
  intro ns hl _
  obtain ⟨f', h1, hf1⟩ := law_turns draw_k01 (L := Empty) 4 0 0 (fdL ns 0 0 0) (fdl0 hl) (by omega)
  refine ⟨[], fr0 (s2 := [f']) ?_⟩
  rw [r_law_k15, runN_ap]
  refine wp_of (Q := fun z => An.fin z = _) ?_
  simp only [n_law_k15]
  have e0 : callN 1 G_law_feed_k01 [.scr ns] [] = .ok (.ref 0) [fdL ns 0 0 0] := n_law_feed_k01_eq hl []
  refine wp_an e0 ?_
  have er := fun s => rngN1_n (n := 4) (s := s) (th_mil (by omega))
  simp only [show ((4 : Nat) : Int) = 4 from rfl] at er
  refine wp_thn (a := ()) (s := [f']) (by rw [er, R.an_ok, src_ok_none]; exact h1) ?_
  rfl
end Pm
set_option maxRecDepth 100000
set_option maxHeartbeats 4000000
namespace Pm
open PySem PySem.Spec PyProof.Rows L2 Sw
def topS (i : Nat) : Stmt := PySem.Challenge.pw_storeways_k15_whole_around_or_fence.main.body.getD i (.Pass ⟨0, 0, 0, 0⟩)
def mthS (i j : Nat) : Stmt := (clsB (topS i)).getD j (.Pass ⟨0, 0, 0, 0⟩)
structure Bn (mg : Str → Option Value) : Prop where
  b_all : mg "all" = none
  b_bool : mg "bool" = none
  b_enumerate : mg "enumerate" = none
  b_int : mg "int" = none
  b_isinstance : mg "isinstance" = none
  b_len : mg "len" = none
  b_range : mg "range" = none
  b_set : mg "set" = none
  b_sorted : mg "sorted" = none
  b_tuple : mg "tuple" = none
  b_zip : mg "zip" = none
/-- what the text says of NoPaper where it is caught -/
structure PapZ (K : PySem.W.Frag) (mg : Str → Option Value) (C : Addr) : Prop where
  g_NoPaper : mg "NoPaper" = some (.ref C)
  t_NoPaper : ∀ nm D b, mg nm = some (.ref D) → (if nm = "NoPaper" then some true else none) = some b → PySem.W.exmOne K (.ref D) (.ref C) = some b
section
variable {P : Program} {w : World} {K : PySem.W.Frag} {mg : Str → Option Value} {base : Heap}
abbrev N_is_number : List Str := ["thing"]
theorem sc_is_number : FnScope N_is_number ["thing"] (defScope (topS 6)) := ⟨rfl, rfl, rfl, by decide +kernel, rfl, by decide +kernel, by decide +kernel⟩
theorem ok_is_number {f : Addr} {fd : FuncData} {k : Nat} (D : Df K mg "is_number" (topS 6) ["thing"] f fd) (B : Bn mg) :
    FnD P w K mg base (k + 1) f fd ["thing"] (frameG (r_is_number)) := by
  refine FnD.frame (fnN_of D.fn sc_is_number (fun cdv A outer s H E hg hr xs hx => ?_))
  have nd := sc_is_number.nd
  have hu := hr.units
  have hG : (A.deeper (envOfC "is_number" (defScope (topS 6)) s.heap.objs.size f cdv)).guards = some [] := hg
  have tk : Takes (cxOf (L2.CX P w) P w K mg base N_is_number "is_number" (defScope (topS 6)) f cdv A outer s H E) (fun c d _ H => E c d H) := takes_of rfl rfl rfl rfl
  match xs, hx with
  | [v_thing], _ =>
  exact (nss_at (mkS := mkU 1) (mkL := mkE) (ρ := [some v_thing]) (n := n_is_number v_thing)
  (nss_ret (de_and (de_isi isd_int (by rfl) B.b_isinstance (de_var (i := 0) rfl (by first | exact Or.inl rfl | exact Or.inr (Or.inl rfl) | exact Or.inr (Or.inr rfl))) (by rfl) B.b_int (by decide +kernel)) (de_one (de_not (de_isi isd_bool (by rfl) B.b_isinstance (de_var (i := 0) rfl (by first | exact Or.inl rfl | exact Or.inr (Or.inl rfl) | exact Or.inr (Or.inr rfl))) (by rfl) B.b_bool (by decide +kernel))))) ox0))
abbrev N_blocks_of : List Str := ["code", "name", "word", "blocks"]
theorem sc_blocks_of : FnScope N_blocks_of ["code", "name"] (defScope (topS 8)) := ⟨rfl, rfl, rfl, by decide +kernel, rfl, by decide +kernel, by decide +kernel⟩
theorem ok_blocks_of {f : Addr} {fd : FuncData} {k : Nat} (D : Df K mg "blocks_of" (topS 8) ["code", "name"] f fd) (B : Bn mg) :
    FnD P w K mg base (k + 1) f fd ["code", "name"] (frameG (r_blocks_of)) := by
  refine FnD.frame (fnN_of D.fn sc_blocks_of (fun cdv A outer s H E hg hr xs hx => ?_))
  have nd := sc_blocks_of.nd
  have hu := hr.units
  have hG : (A.deeper (envOfC "blocks_of" (defScope (topS 8)) s.heap.objs.size f cdv)).guards = some [] := hg
  have tk : Takes (cxOf (L2.CX P w) P w K mg base N_blocks_of "blocks_of" (defScope (topS 8)) f cdv A outer s H E) (fun c d _ H => E c d H) := takes_of rfl rfl rfl rfl
  match xs, hx with
  | [v_code, v_name], _ =>
  exact (nss_at (mkS := mkU 4) (mkL := mkE) (ρ := [some v_code, some v_name, none, none]) (n := n_blocks_of v_code v_name)
  (nss_cons (mk1 := (mk_blocks_of_1 v_name)) (ns_forP (mk1 := (mk_blocks_of_1 v_name)) (ρb := fun p a => [none, some v_name, some p.1, some p.2]) (a0 := ()) PassesOwn.leaving rfl (di_seq (de_ix (mx_ix hu) (de_var (i := 0) rfl (by first | exact Or.inl rfl | exact Or.inr (Or.inl rfl) | exact Or.inr (Or.inr rfl))) de_int (fun _ _ => rfl))) (dg_tup rfl (dgs_cons (dg_name (i := 2) nd rfl (by first | exact Or.inl rfl | exact Or.inr rfl)) (dgs_cons (dg_name (i := 3) nd rfl (by first | exact Or.inl rfl | exact Or.inr rfl)) dgs_nil))) (tgp_2 tgp_n tgp_n) (fun p a =>
  (let v_word : Vl := p.1; (let v_blocks : Vl := p.2; (nss_at (mkS := (mk_blocks_of_1 v_name)) (mkL := (mk_blocks_of_1 v_name)) (ρ := [none, some v_name, some v_word, some v_blocks]) (n := nb_blocks_of_1 v_name v_word v_blocks)
  (nss_if1 (dt_cmp (mo_eq hu) (de_var (i := 2) rfl (by first | exact Or.inl rfl | exact Or.inr (Or.inl rfl) | exact Or.inr (Or.inr rfl))) (de_var (i := 1) rfl (by first | exact Or.inl rfl | exact Or.inr (Or.inl rfl) | exact Or.inr (Or.inr rfl))) (nomark _))
  (nss_ret (de_var (i := 3) rfl (by first | exact Or.inl rfl | exact Or.inr (Or.inl rfl) | exact Or.inr (Or.inr rfl))) ox0)
  (nss_nil (a := ()) (.non (.som (.non (.non .nil))))) ox0))))) (.non (.som (.non (.non .nil)))) ox0) (fun j11 =>
  (nss_at (mkS := (mkU 4)) (mkL := mkE) (ρ := [none, some v_name, none, none]) (n := kt_blocks_of_1 v_name)
  nss_never))))
abbrev N_goals : List Str := ["end"]
theorem sc_goals : FnScope N_goals ["end"] (defScope (topS 10)) := ⟨rfl, rfl, rfl, by decide +kernel, rfl, by decide +kernel, by decide +kernel⟩
theorem ok_goals {f : Addr} {fd : FuncData} {k : Nat} (D : Df K mg "goals" (topS 10) ["end"] f fd) (B : Bn mg) :
    FnD P w K mg base (k + 1) f fd ["end"] (frameG (r_goals)) := by
  refine FnD.frame (fnN_of D.fn sc_goals (fun cdv A outer s H E hg hr xs hx => ?_))
  have nd := sc_goals.nd
  have hu := hr.units
  have hG : (A.deeper (envOfC "goals" (defScope (topS 10)) s.heap.objs.size f cdv)).guards = some [] := hg
  have tk : Takes (cxOf (L2.CX P w) P w K mg base N_goals "goals" (defScope (topS 10)) f cdv A outer s H E) (fun c d _ H => E c d H) := takes_of rfl rfl rfl rfl
  match xs, hx with
  | [v_end], _ =>
  exact (nss_at (mkS := mkU 1) (mkL := mkE) (ρ := [some v_end]) (n := n_goals v_end)
  (nss_ifx (mk0 := mkE) (dt_cmp (mo_eq hu) (de_ix (mx_ix hu) (de_var (i := 0) rfl (by first | exact Or.inl rfl | exact Or.inr (Or.inl rfl) | exact Or.inr (Or.inr rfl))) de_int (fun _ _ => rfl)) de_str (nomark _))
  (nss_ret (de_tup (da_cons (de_ix (mx_ix hu) (de_var (i := 0) rfl (by first | exact Or.inl rfl | exact Or.inr (Or.inl rfl) | exact Or.inr (Or.inr rfl))) de_int (fun _ _ => rfl)) da_nil)) ox0)
  (nss_ifx (mk0 := mkE) (dt_cmp (mo_eq hu) (de_ix (mx_ix hu) (de_var (i := 0) rfl (by first | exact Or.inl rfl | exact Or.inr (Or.inl rfl) | exact Or.inr (Or.inr rfl))) de_int (fun _ _ => rfl)) de_str (nomark _))
  (nss_ret (de_callTy mc_tuple (by rfl) B.b_tuple (by decide +kernel) (da_cons (de_ss rfl (by rfl) B.b_sorted (by rfl) B.b_set (da_cons (de_slice (de_var (i := 0) rfl (by first | exact Or.inl rfl | exact Or.inr (Or.inl rfl) | exact Or.inr (Or.inr rfl))) (do_some de_int) do_none) da_nil)) da_nil)) ox0)
  (nss_ret (de_tup da_nil) ox0) ox0) ox0))
abbrev N_nexts : List Str := ["code", "name", "block", "rows", "end"]
theorem sc_nexts : FnScope N_nexts ["code", "name", "block"] (defScope (topS 11)) := ⟨rfl, rfl, rfl, by decide +kernel, rfl, by decide +kernel, by decide +kernel⟩
theorem ok_nexts {f f1 f2 : Addr} {fd fd1 fd2 : FuncData} {k k1 k2 : Nat} (D : Df K mg "nexts" (topS 11) ["code", "name", "block"] f fd)
    (D1 : Df K mg "blocks_of" (topS 8) ["code", "name"] f1 fd1) (G1 : FnD P w K mg base k1 f1 fd1 ["code", "name"] G_blocks_of) (h1 : k1 ≤ k)
    (D2 : Df K mg "goals" (topS 10) ["end"] f2 fd2) (G2 : FnD P w K mg base k2 f2 fd2 ["end"] G_goals) (h2 : k2 ≤ k) (B : Bn mg) :
    FnD P w K mg base (k + 1) f fd ["code", "name", "block"] (frameG (r_nexts)) := by
  refine FnD.frame (fnN_of D.fn sc_nexts (fun cdv A outer s H E hg hr xs hx => ?_))
  have nd := sc_nexts.nd
  have hu := hr.units
  have hG : (A.deeper (envOfC "nexts" (defScope (topS 11)) s.heap.objs.size f cdv)).guards = some [] := hg
  have tk : Takes (cxOf (L2.CX P w) P w K mg base N_nexts "nexts" (defScope (topS 11)) f cdv A outer s H E) (fun c d _ H => E c d H) := takes_of rfl rfl rfl rfl
  match xs, hx with
  | [v_code, v_name, v_block], _ =>
  exact (nss_at (mkS := mkU 5) (mkL := mkE) (ρ := [some v_code, some v_name, some v_block, none, none]) (n := n_nexts v_code v_name v_block)
  (nss_asgT (ρ' := fun p3 => [some v_code, some v_name, some v_block, some p3.1, some p3.2]) (de_ix (mx_ix hu) (de_call hG G1 (hr.mono h1) D1.bd tk (by rfl) D1.gl D1.fn.kp (da_cons (de_var (i := 0) rfl (by first | exact Or.inl rfl | exact Or.inr (Or.inl rfl) | exact Or.inr (Or.inr rfl))) (da_cons (de_var (i := 1) rfl (by first | exact Or.inl rfl | exact Or.inr (Or.inl rfl) | exact Or.inr (Or.inr rfl))) da_nil))) (de_var (i := 2) rfl (by first | exact Or.inl rfl | exact Or.inr (Or.inl rfl) | exact Or.inr (Or.inr rfl))) (fun _ _ => rfl)) (dg_tup rfl (dgs_cons (dg_name (i := 3) nd rfl (by first | exact Or.inl rfl | exact Or.inr rfl)) (dgs_cons (dg_name (i := 4) nd rfl (by first | exact Or.inl rfl | exact Or.inr rfl)) dgs_nil))) (tgp_2 tgp_n tgp_n) (fun p3 =>
  (nss_ret (de_call hG G2 (hr.mono h2) D2.bd tk (by rfl) D2.gl D2.fn.kp (da_cons (de_var (i := 4) rfl (by first | exact Or.inl rfl | exact Or.inr (Or.inl rfl) | exact Or.inr (Or.inr rfl))) da_nil)) ox0)) ox0))
abbrev N_led_around : List Str := ["code", "name", "over", "ahead", "todo", "block", "goal"]
theorem sc_led_around : FnScope N_led_around ["code", "name", "over"] (defScope (topS 12)) := ⟨rfl, rfl, rfl, by decide +kernel, rfl, by decide +kernel, by decide +kernel⟩
theorem ok_led_around {f f1 : Addr} {fd fd1 : FuncData} {k k1 : Nat} (D : Df K mg "led_around" (topS 12) ["code", "name", "over"] f fd)
    (D1 : Df K mg "nexts" (topS 11) ["code", "name", "block"] f1 fd1) (G1 : FnD P w K mg base k1 f1 fd1 ["code", "name", "block"] G_nexts) (h1 : k1 ≤ k) (B : Bn mg) :
    FnD P w K mg base (k + 1) f fd ["code", "name", "over"] (frameG (r_led_around)) := by
  refine FnD.frame (fnN_of D.fn sc_led_around (fun cdv A outer s H E hg hr xs hx => ?_))
  have nd := sc_led_around.nd
  have hu := hr.units
  have hG : (A.deeper (envOfC "led_around" (defScope (topS 12)) s.heap.objs.size f cdv)).guards = some [] := hg
  have tk : Takes (cxOf (L2.CX P w) P w K mg base N_led_around "led_around" (defScope (topS 12)) f cdv A outer s H E) (fun c d _ H => E c d H) := takes_of rfl rfl rfl rfl
  match xs, hx with
  | [v_code, v_name, v_over], _ =>
  exact (nss_at (mkS := mkU 7) (mkL := mkE) (ρ := [some v_code, some v_name, some v_over, none, none, none, none]) (n := n_led_around v_code v_name v_over)
  (nss_ifx (mk0 := mkE) (dt_cmp (mo_eq hu) (de_var (i := 2) rfl (by first | exact Or.inl rfl | exact Or.inr (Or.inl rfl) | exact Or.inr (Or.inr rfl))) de_int (nomark _))
  (nss_ret de_newK ox0)
  (nss_set (i := 3) (ρ' := fun v_ahead => [some v_code, some v_name, some v_over, some v_ahead, none, none, none]) nd rfl (by first | exact Or.inl rfl | exact Or.inr rfl) (de_dispN (dps_cons de_int de_non dps_nil)) (fun v_ahead =>
  (nss_set (i := 4) (ρ' := fun v_todo => [some v_code, some v_name, some v_over, some v_ahead, some v_todo, none, none]) nd rfl (by first | exact Or.inl rfl | exact Or.inr rfl) (de_new (da_cons de_int da_nil)) (fun v_todo =>
  (nss_cons (mk1 := (mk_led_around_1 v_code v_name v_over v_ahead v_todo)) (ns_while (mk1 := (mk_led_around_1 v_code v_name v_over v_ahead v_todo)) (a0 := ()) PassesOwn.leaving (dt_tru (de_var (i := 4) rfl (by first | exact Or.inl rfl | exact Or.inr (Or.inl rfl) | exact Or.inr (Or.inr rfl)))) (fun a =>
  (nss_at (mkS := (mk_led_around_1 v_code v_name v_over v_ahead v_todo)) (mkL := (mk_led_around_1 v_code v_name v_over v_ahead v_todo)) (ρ := [some v_code, some v_name, some v_over, some v_ahead, some v_todo, none, none]) (n := nb_led_around_1 v_code v_name v_over v_ahead v_todo)
  (nss_set (i := 5) (ρ' := fun v_block => [some v_code, some v_name, some v_over, some v_ahead, some v_todo, some v_block, none]) nd rfl (by first | exact Or.inl rfl | exact Or.inr rfl) (de_pop (de_var (i := 4) rfl (by first | exact Or.inl rfl | exact Or.inr (Or.inl rfl) | exact Or.inr (Or.inr rfl)))) (fun v_block =>
  (nss_cons (mk1 := (mk_led_around_2 v_code v_name v_over v_ahead v_todo v_block)) (ns_forP (mk1 := (mk_led_around_2 v_code v_name v_over v_ahead v_todo v_block)) (ρb := fun p a => [some v_code, some v_name, some v_over, some v_ahead, some v_todo, some v_block, some p]) (a0 := ()) PassesOwn.leaving rfl (di_seq (de_call hG G1 (hr.mono h1) D1.bd tk (by rfl) D1.gl D1.fn.kp (da_cons (de_var (i := 0) rfl (by first | exact Or.inl rfl | exact Or.inr (Or.inl rfl) | exact Or.inr (Or.inr rfl))) (da_cons (de_var (i := 1) rfl (by first | exact Or.inl rfl | exact Or.inr (Or.inl rfl) | exact Or.inr (Or.inr rfl))) (da_cons (de_var (i := 5) rfl (by first | exact Or.inl rfl | exact Or.inr (Or.inl rfl) | exact Or.inr (Or.inr rfl))) da_nil))))) (dg_name (i := 6) nd rfl (by first | exact Or.inl rfl | exact Or.inr rfl)) tgp_n (fun p a =>
  (let v_goal : Vl := p; (nss_at (mkS := (mk_led_around_2 v_code v_name v_over v_ahead v_todo v_block)) (mkL := (mk_led_around_2 v_code v_name v_over v_ahead v_todo v_block)) (ρ := [some v_code, some v_name, some v_over, some v_ahead, some v_todo, some v_block, some v_goal]) (n := nb_led_around_2 v_code v_name v_over v_ahead v_todo v_block v_goal)
  (nss_if1 (dt_w (dw_and (dt_cmp (mo_ne hu) (de_var (i := 6) rfl (by first | exact Or.inl rfl | exact Or.inr (Or.inl rfl) | exact Or.inr (Or.inr rfl))) (de_var (i := 2) rfl (by first | exact Or.inl rfl | exact Or.inr (Or.inl rfl) | exact Or.inr (Or.inr rfl))) (nomark _)) (dw_and1 (dt_cmp (mo_notIn hu) (de_var (i := 6) rfl (by first | exact Or.inl rfl | exact Or.inr (Or.inl rfl) | exact Or.inr (Or.inr rfl))) (de_var (i := 3) rfl (by first | exact Or.inl rfl | exact Or.inr (Or.inl rfl) | exact Or.inr (Or.inr rfl))) (by with_unfolding_all rfl)))))
  (nss_asgS (de_var (i := 5) rfl (by first | exact Or.inl rfl | exact Or.inr (Or.inl rfl) | exact Or.inr (Or.inr rfl))) (dg_sub hu (de_var (i := 3) rfl (by first | exact Or.inl rfl | exact Or.inr (Or.inl rfl) | exact Or.inr (Or.inr rfl))) (de_var (i := 6) rfl (by first | exact Or.inl rfl | exact Or.inr (Or.inl rfl) | exact Or.inr (Or.inr rfl)))) (tgs_sub (fo := fun s21 => R.ok v_ahead s21) (fi := fun z => R.ok v_goal z))
  (nss_expr (de_append (de_var (i := 4) rfl (by first | exact Or.inl rfl | exact Or.inr (Or.inl rfl) | exact Or.inr (Or.inr rfl))) (da_cons (de_var (i := 6) rfl (by first | exact Or.inl rfl | exact Or.inr (Or.inl rfl) | exact Or.inr (Or.inr rfl))) da_nil))
  (nss_nil (a := ()) (.som (.som (.som (.som (.som (.som (.non .nil)))))))) ox0) ox0)
  (nss_nil (a := ()) (.som (.som (.som (.som (.som (.som (.non .nil)))))))) ox0)))) (.som (.som (.som (.som (.som (.som (.non .nil))))))) ox0) (fun j27 =>
  (nss_at (mkS := (mk_led_around_1 v_code v_name v_over v_ahead v_todo)) (mkL := (mk_led_around_1 v_code v_name v_over v_ahead v_todo)) (ρ := [some v_code, some v_name, some v_over, some v_ahead, some v_todo, some v_block, none]) (n := kt_led_around_1 v_code v_name v_over v_ahead v_todo v_block)
  (nss_nil (a := ()) (.som (.som (.som (.som (.som (.non (.non .nil)))))))))))) ox0))) (.som (.som (.som (.som (.som (.non (.non .nil))))))) (fun a => ox0)) (fun j29 =>
  (nss_at (mkS := (mkU 7)) (mkL := mkE) (ρ := [some v_code, some v_name, some v_over, some v_ahead, some v_todo, none, none]) (n := kt_led_around_2 v_code v_name v_over v_ahead v_todo)
  (nss_ret (de_var (i := 3) rfl (by first | exact Or.inl rfl | exact Or.inr (Or.inl rfl) | exact Or.inr (Or.inr rfl))) ox0))))) ox0)) ox0) ox0))
abbrev N_around : List Str := ["code", "name", "over", "under", "ahead", "way", "block"]
theorem sc_around : FnScope N_around ["code", "name", "over", "under"] (defScope (topS 14)) := ⟨rfl, rfl, rfl, by decide +kernel, rfl, by decide +kernel, by decide +kernel⟩
theorem ok_around {f f1 : Addr} {fd fd1 : FuncData} {k k1 : Nat} (D : Df K mg "around" (topS 14) ["code", "name", "over", "under"] f fd)
    (D1 : Df K mg "led_around" (topS 12) ["code", "name", "over"] f1 fd1) (G1 : FnD P w K mg base k1 f1 fd1 ["code", "name", "over"] G_led_around) (h1 : k1 ≤ k) (B : Bn mg) :
    FnD P w K mg base (k + 1) f fd ["code", "name", "over", "under"] (frameG (r_around)) := by
  refine FnD.frame (fnN_of D.fn sc_around (fun cdv A outer s H E hg hr xs hx => ?_))
  have nd := sc_around.nd
  have hu := hr.units
  have hG : (A.deeper (envOfC "around" (defScope (topS 14)) s.heap.objs.size f cdv)).guards = some [] := hg
  have tk : Takes (cxOf (L2.CX P w) P w K mg base N_around "around" (defScope (topS 14)) f cdv A outer s H E) (fun c d _ H => E c d H) := takes_of rfl rfl rfl rfl
  match xs, hx with
  | [v_code, v_name, v_over, v_under], _ =>
  exact (nss_at (mkS := mkU 7) (mkL := mkE) (ρ := [some v_code, some v_name, some v_over, some v_under, none, none, none]) (n := n_around v_code v_name v_over v_under)
  (nss_set (i := 4) (ρ' := fun v_ahead => [some v_code, some v_name, some v_over, some v_under, some v_ahead, none, none]) nd rfl (by first | exact Or.inl rfl | exact Or.inr rfl) (de_call hG G1 (hr.mono h1) D1.bd tk (by rfl) D1.gl D1.fn.kp (da_cons (de_var (i := 0) rfl (by first | exact Or.inl rfl | exact Or.inr (Or.inl rfl) | exact Or.inr (Or.inr rfl))) (da_cons (de_var (i := 1) rfl (by first | exact Or.inl rfl | exact Or.inr (Or.inl rfl) | exact Or.inr (Or.inr rfl))) (da_cons (de_var (i := 2) rfl (by first | exact Or.inl rfl | exact Or.inr (Or.inl rfl) | exact Or.inr (Or.inr rfl))) da_nil)))) (fun v_ahead =>
  (nss_ifx (mk0 := mkE) (dt_cmp (mo_notIn hu) (de_var (i := 3) rfl (by first | exact Or.inl rfl | exact Or.inr (Or.inl rfl) | exact Or.inr (Or.inr rfl))) (de_var (i := 4) rfl (by first | exact Or.inl rfl | exact Or.inr (Or.inl rfl) | exact Or.inr (Or.inr rfl))) (by with_unfolding_all rfl))
  (nss_ret de_non ox0)
  (nss_set (i := 5) (ρ' := fun v_way => [some v_code, some v_name, some v_over, some v_under, some v_ahead, some v_way, none]) nd rfl (by first | exact Or.inl rfl | exact Or.inr rfl) (de_new da_nil) (fun v_way =>
  (nss_set (i := 6) (ρ' := fun v_block => [some v_code, some v_name, some v_over, some v_under, some v_ahead, some v_way, some v_block]) nd rfl (by first | exact Or.inl rfl | exact Or.inr rfl) (de_var (i := 3) rfl (by first | exact Or.inl rfl | exact Or.inr (Or.inl rfl) | exact Or.inr (Or.inr rfl))) (fun v_block =>
  (nss_cons (mk1 := (mk_around_1 v_ahead v_way)) (ns_while (mk1 := (mk_around_1 v_ahead v_way)) (a0 := v_block) PassesOwn.leaving (dt_cmp mo_isNot (de_var (i := 6) rfl (by first | exact Or.inl rfl | exact Or.inr (Or.inl rfl) | exact Or.inr (Or.inr rfl))) de_non (nomark _)) (fun a =>
  (let v_block : Vl := a; (nss_at (mkS := (mk_around_1 v_ahead v_way)) (mkL := (mk_around_1 v_ahead v_way)) (ρ := [none, none, none, none, some v_ahead, some v_way, some v_block]) (n := nb_around_1 v_ahead v_way v_block)
  (nss_expr (de_append (de_var (i := 5) rfl (by first | exact Or.inl rfl | exact Or.inr (Or.inl rfl) | exact Or.inr (Or.inr rfl))) (da_cons (de_var (i := 6) rfl (by first | exact Or.inl rfl | exact Or.inr (Or.inl rfl) | exact Or.inr (Or.inr rfl))) da_nil))
  (nss_set (i := 6) (ρ' := fun v_block => [none, none, none, none, some v_ahead, some v_way, some v_block]) nd rfl (by first | exact Or.inl rfl | exact Or.inr rfl) (de_ix (mx_ix hu) (de_var (i := 4) rfl (by first | exact Or.inl rfl | exact Or.inr (Or.inl rfl) | exact Or.inr (Or.inr rfl))) (de_var (i := 6) rfl (by first | exact Or.inl rfl | exact Or.inr (Or.inl rfl) | exact Or.inr (Or.inr rfl))) (fun _ _ => rfl)) (fun v_block =>
  (nss_nil (a := v_block) (.non (.non (.non (.non (.som (.som (.som .nil))))))))) ox0) ox0)))) (.non (.non (.non (.non (.som (.som (.som .nil))))))) (fun a => ox0)) (fun j15 =>
  (let v_block : Vl := j15; (nss_at (mkS := (mkU 7)) (mkL := mkE) (ρ := [none, none, none, none, some v_ahead, some v_way, some v_block]) (n := kt_around_1 v_ahead v_way v_block)
  (nss_ret (de_callTy mc_tuple (by rfl) B.b_tuple (by decide +kernel) (da_cons (de_rev (de_var (i := 5) rfl (by first | exact Or.inl rfl | exact Or.inr (Or.inl rfl) | exact Or.inr (Or.inr rfl)))) da_nil)) ox0)))))) ox0)) ox0) ox0)) ox0))
abbrev N_fence : List Str := ["code", "name", "over", "under", "ahead"]
theorem sc_fence : FnScope N_fence ["code", "name", "over", "under"] (defScope (topS 15)) := ⟨rfl, rfl, rfl, by decide +kernel, rfl, by decide +kernel, by decide +kernel⟩
theorem ok_fence {f f1 : Addr} {fd fd1 : FuncData} {k k1 : Nat} (D : Df K mg "fence" (topS 15) ["code", "name", "over", "under"] f fd)
    (D1 : Df K mg "led_around" (topS 12) ["code", "name", "over"] f1 fd1) (G1 : FnD P w K mg base k1 f1 fd1 ["code", "name", "over"] G_led_around) (h1 : k1 ≤ k) (B : Bn mg) :
    FnD P w K mg base (k + 1) f fd ["code", "name", "over", "under"] (frameG (r_fence)) := by
  refine FnD.frame (fnN_of D.fn sc_fence (fun cdv A outer s H E hg hr xs hx => ?_))
  have nd := sc_fence.nd
  have hu := hr.units
  have hG : (A.deeper (envOfC "fence" (defScope (topS 15)) s.heap.objs.size f cdv)).guards = some [] := hg
  have tk : Takes (cxOf (L2.CX P w) P w K mg base N_fence "fence" (defScope (topS 15)) f cdv A outer s H E) (fun c d _ H => E c d H) := takes_of rfl rfl rfl rfl
  match xs, hx with
  | [v_code, v_name, v_over, v_under], _ =>
  exact (nss_at (mkS := mkU 5) (mkL := mkE) (ρ := [some v_code, some v_name, some v_over, some v_under, none]) (n := n_fence v_code v_name v_over v_under)
  (nss_set (i := 4) (ρ' := fun v_ahead => [some v_code, some v_name, some v_over, some v_under, some v_ahead]) nd rfl (by first | exact Or.inl rfl | exact Or.inr rfl) (de_call hG G1 (hr.mono h1) D1.bd tk (by rfl) D1.gl D1.fn.kp (da_cons (de_var (i := 0) rfl (by first | exact Or.inl rfl | exact Or.inr (Or.inl rfl) | exact Or.inr (Or.inr rfl))) (da_cons (de_var (i := 1) rfl (by first | exact Or.inl rfl | exact Or.inr (Or.inl rfl) | exact Or.inr (Or.inr rfl))) (da_cons (de_var (i := 2) rfl (by first | exact Or.inl rfl | exact Or.inr (Or.inl rfl) | exact Or.inr (Or.inr rfl))) da_nil)))) (fun v_ahead =>
  (nss_ret (de_if (dt_cmp (mo_in hu) (de_var (i := 3) rfl (by first | exact Or.inl rfl | exact Or.inr (Or.inl rfl) | exact Or.inr (Or.inr rfl))) (de_var (i := 4) rfl (by first | exact Or.inl rfl | exact Or.inr (Or.inl rfl) | exact Or.inr (Or.inr rfl))) (by with_unfolding_all rfl)) de_non (de_callTy mc_tuple (by rfl) B.b_tuple (by decide +kernel) (da_cons (de_callB (mc_sorted rfl) (by rfl) B.b_sorted (by decide +kernel) (da_cons (de_var (i := 4) rfl (by first | exact Or.inl rfl | exact Or.inr (Or.inl rfl) | exact Or.inr (Or.inr rfl))) da_nil)) da_nil))) ox0)) ox0))
abbrev N_is_numbers : List Str := ["thing", "part"]
theorem sc_is_numbers : FnScope N_is_numbers ["thing"] (defScope (topS 17)) := ⟨rfl, rfl, rfl, by decide +kernel, rfl, by decide +kernel, by decide +kernel⟩
theorem ok_is_numbers {f f1 : Addr} {fd fd1 : FuncData} {k k1 : Nat} (D : Df K mg "is_numbers" (topS 17) ["thing"] f fd)
    (D1 : Df K mg "is_number" (topS 6) ["thing"] f1 fd1) (G1 : FnD P w K mg base k1 f1 fd1 ["thing"] G_is_number) (h1 : k1 ≤ k) (B : Bn mg) :
    FnD P w K mg base (k + 1) f fd ["thing"] (frameG (r_is_numbers)) := by
  refine FnD.frame (fnN_of D.fn sc_is_numbers (fun cdv A outer s H E hg hr xs hx => ?_))
  have nd := sc_is_numbers.nd
  have hu := hr.units
  have hG : (A.deeper (envOfC "is_numbers" (defScope (topS 17)) s.heap.objs.size f cdv)).guards = some [] := hg
  have tk : Takes (cxOf (L2.CX P w) P w K mg base N_is_numbers "is_numbers" (defScope (topS 17)) f cdv A outer s H E) (fun c d _ H => E c d H) := takes_of rfl rfl rfl rfl
  match xs, hx with
  | [v_thing], _ =>
  exact (nss_at (mkS := mkU 2) (mkL := mkE) (ρ := [some v_thing, none]) (n := n_is_numbers v_thing)
  (nss_ret (de_and (de_isi isd_tup (by rfl) B.b_isinstance (de_var (i := 0) rfl (by first | exact Or.inl rfl | exact Or.inr (Or.inl rfl) | exact Or.inr (Or.inr rfl))) (by rfl) B.b_tuple (by decide +kernel)) (de_one (de_callB (mc_all rfl) (by rfl) B.b_all (by decide +kernel) (da_cons (de_lcP (own := [("part", 1)]) (g := (gName 1)) (pat := pV) (st := (fun v ρ => ρ.set 1 (some v))) (t := tYesM) (e := (mCall 1 G_is_number (aCons (mVar 1) aNil))) rfl nd (di_seq (de_var (i := 0) rfl (by first | exact Or.inl rfl | exact Or.inr (Or.inl rfl) | exact Or.inr (Or.inr rfl)))) (blkOk_by (N := N_is_numbers) (sc := defScope (topS 17)) (by decide +kernel)) (gokP_n (by decide)) (fun _ _ _ _ _ => (pg_name (i := 1) nd rfl (by first | exact Or.inl rfl | exact Or.inr rfl))) (fun _ _ _ _ _ => dts_nil) (fun _ _ _ _ _ => (de_call hG G1 (hr.mono h1) D1.bd takes0 (by rfl) D1.gl D1.fn.kp (da_cons (de_var (i := 1) rfl (by first | exact Or.inl rfl | exact Or.inr (Or.inl rfl) | exact Or.inr (Or.inr rfl))) da_nil)))) da_nil)))) ox0))
abbrev N_lets_around : List Str := ["code", "name", "over", "under", "thing", "goals", "k", "block"]
theorem sc_lets_around : FnScope N_lets_around ["code", "name", "over", "under", "thing"] (defScope (topS 18)) := ⟨rfl, rfl, rfl, by decide +kernel, rfl, by decide +kernel, by decide +kernel⟩
theorem ok_lets_around {f f1 f2 : Addr} {fd fd1 fd2 : FuncData} {k k1 k2 : Nat} {C_NoPaper fI_NoPaper : Addr} {fdI_NoPaper : FuncData} (D : Df K mg "lets_around" (topS 18) ["code", "name", "over", "under", "thing"] f fd)
    (D1 : Df K mg "is_numbers" (topS 17) ["thing"] f1 fd1) (G1 : FnD P w K mg base k1 f1 fd1 ["thing"] G_is_numbers) (h1 : k1 ≤ k)
    (D2 : Df K mg "nexts" (topS 11) ["code", "name", "block"] f2 fd2) (G2 : FnD P w K mg base k2 f2 fd2 ["code", "name", "block"] G_nexts) (h2 : k2 ≤ k) (B : Bn mg)
    (M_NoPaper : Mk2 K mg "NoPaper" "word" "at" C_NoPaper fI_NoPaper) (I_NoPaper : FnOk P w K mg base CX0 1 fI_NoPaper fdI_NoPaper ["self", "word", "at"] (spIn2 C_NoPaper "word" "at")) (bI_NoPaper : Binds K fdI_NoPaper ["self", "word", "at"] []) (hI : 2 ≤ k) :
    FnD P w K mg base (k + 1) f fd ["code", "name", "over", "under", "thing"] (frameG (r_lets_around)) := by
  refine FnD.frame (fnN_of D.fn sc_lets_around (fun cdv A outer s H E hg hr xs hx => ?_))
  have nd := sc_lets_around.nd
  have hu := hr.units
  have hG : (A.deeper (envOfC "lets_around" (defScope (topS 18)) s.heap.objs.size f cdv)).guards = some [] := hg
  have tk : Takes (cxOf (L2.CX P w) P w K mg base N_lets_around "lets_around" (defScope (topS 18)) f cdv A outer s H E) (fun c d _ H => E c d H) := takes_of rfl rfl rfl rfl
  match xs, hx with
  | [v_code, v_name, v_over, v_under, v_thing], _ =>
  exact (nss_at (mkS := mkU 8) (mkL := mkE) (ρ := [some v_code, some v_name, some v_over, some v_under, some v_thing, none, none, none]) (n := n_lets_around v_code v_name v_over v_under v_thing)
  (nss_ifx (mk0 := mkE) (dt_w (dw_or (dt_not (dt_tru (de_call hG G1 (hr.mono h1) D1.bd tk (by rfl) D1.gl D1.fn.kp (da_cons (de_var (i := 4) rfl (by first | exact Or.inl rfl | exact Or.inr (Or.inl rfl) | exact Or.inr (Or.inr rfl))) da_nil)))) (dw_or1 (dt_not (dt_tru (de_var (i := 4) rfl (by first | exact Or.inl rfl | exact Or.inr (Or.inl rfl) | exact Or.inr (Or.inr rfl))))))))
  (nss_raise2 (ds_raise2 rfl tk M_NoPaper I_NoPaper (hr.mono hI) bI_NoPaper (by rfl) (da_cons de_str (da_cons (de_un mu_neg de_int) da_nil))) ox0)
  (nss_set (i := 5) (ρ' := fun v_goals => [some v_code, some v_name, some v_over, some v_under, some v_thing, some v_goals, none, none]) nd rfl (by first | exact Or.inl rfl | exact Or.inr rfl) (de_tup (da_cons de_int da_nil)) (fun v_goals =>
  (nss_cons (mk1 := (mk_lets_around_1 v_code v_name v_over v_under v_thing)) (ns_forP (mk1 := (mk_lets_around_1 v_code v_name v_over v_under v_thing)) (ρb := fun p a => [some v_code, some v_name, some v_over, some v_under, some v_thing, some a, some p.1, some p.2]) (a0 := v_goals) PassesOwn.leaving rfl (di_enT (by rfl) B.b_enumerate (da_cons (de_var (i := 4) rfl (by first | exact Or.inl rfl | exact Or.inr (Or.inl rfl) | exact Or.inr (Or.inr rfl))) da_nil)) (dg_tup rfl (dgs_cons (dg_name (i := 6) nd rfl (by first | exact Or.inl rfl | exact Or.inr rfl)) (dgs_cons (dg_name (i := 7) nd rfl (by first | exact Or.inl rfl | exact Or.inr rfl)) dgs_nil))) (tgp_2 tgp_n tgp_n) (fun p a =>
  (let v_k : Vl := p.1; (let v_block : Vl := p.2; (let v_goals : Vl := a; (nss_at (mkS := (mk_lets_around_1 v_code v_name v_over v_under v_thing)) (mkL := (mk_lets_around_1 v_code v_name v_over v_under v_thing)) (ρ := [some v_code, some v_name, some v_over, some v_under, some v_thing, some v_goals, some v_k, some v_block]) (n := nb_lets_around_1 v_code v_name v_over v_under v_thing v_k v_block v_goals)
  (nss_ifx (mk0 := mkE) (dt_cmp (mo_notIn hu) (de_var (i := 7) rfl (by first | exact Or.inl rfl | exact Or.inr (Or.inl rfl) | exact Or.inr (Or.inr rfl))) (de_var (i := 5) rfl (by first | exact Or.inl rfl | exact Or.inr (Or.inl rfl) | exact Or.inr (Or.inr rfl))) (by with_unfolding_all rfl))
  (nss_raise2 (ds_raise2 rfl tk M_NoPaper I_NoPaper (hr.mono hI) bI_NoPaper (by rfl) (da_cons de_str (da_cons (de_var (i := 6) rfl (by first | exact Or.inl rfl | exact Or.inr (Or.inl rfl) | exact Or.inr (Or.inr rfl))) da_nil))) ox0)
  (nss_ifx (mk0 := mkE) (dt_cmp (mo_eq hu) (de_var (i := 7) rfl (by first | exact Or.inl rfl | exact Or.inr (Or.inl rfl) | exact Or.inr (Or.inr rfl))) (de_var (i := 2) rfl (by first | exact Or.inl rfl | exact Or.inr (Or.inl rfl) | exact Or.inr (Or.inr rfl))) (nomark _))
  (nss_raise2 (ds_raise2 rfl tk M_NoPaper I_NoPaper (hr.mono hI) bI_NoPaper (by rfl) (da_cons de_str (da_cons (de_var (i := 6) rfl (by first | exact Or.inl rfl | exact Or.inr (Or.inl rfl) | exact Or.inr (Or.inr rfl))) da_nil))) ox0)
  (nss_set (i := 5) (ρ' := fun v_goals => [some v_code, some v_name, some v_over, some v_under, some v_thing, some v_goals, some v_k, some v_block]) nd rfl (by first | exact Or.inl rfl | exact Or.inr rfl) (de_call hG G2 (hr.mono h2) D2.bd tk (by rfl) D2.gl D2.fn.kp (da_cons (de_var (i := 0) rfl (by first | exact Or.inl rfl | exact Or.inr (Or.inl rfl) | exact Or.inr (Or.inr rfl))) (da_cons (de_var (i := 1) rfl (by first | exact Or.inl rfl | exact Or.inr (Or.inl rfl) | exact Or.inr (Or.inr rfl))) (da_cons (de_var (i := 7) rfl (by first | exact Or.inl rfl | exact Or.inr (Or.inl rfl) | exact Or.inr (Or.inr rfl))) da_nil)))) (fun v_goals =>
  (nss_nil (a := v_goals) (.som (.som (.som (.som (.som (.som (.non (.non .nil)))))))))) ox0) ox0) ox0)))))) (.som (.som (.som (.som (.som (.som (.non (.non .nil)))))))) ox0) (fun j33 =>
  (let v_goals : Vl := j33; (nss_at (mkS := (mkU 8)) (mkL := mkE) (ρ := [some v_code, some v_name, some v_over, some v_under, some v_thing, some v_goals, none, none]) (n := kt_lets_around_1 v_code v_name v_over v_under v_thing v_goals)
  (nss_ifx (mk0 := mkE) (dt_cmp (mo_ne hu) (de_ix (mx_ix hu) (de_var (i := 4) rfl (by first | exact Or.inl rfl | exact Or.inr (Or.inl rfl) | exact Or.inr (Or.inr rfl))) (de_un mu_neg de_int) (fun _ _ => rfl)) (de_var (i := 3) rfl (by first | exact Or.inl rfl | exact Or.inr (Or.inl rfl) | exact Or.inr (Or.inr rfl))) (nomark _))
  (nss_raise2 (ds_raise2 rfl tk M_NoPaper I_NoPaper (hr.mono hI) bI_NoPaper (by rfl) (da_cons de_str (da_cons (de_un mu_neg de_int) da_nil))) ox0)
  (nss_ret de_bl ox0) ox0)))))) ox0) ox0))
abbrev N_is_rising_blocks : List Str := ["code", "name", "thing", "one", "other"]
theorem sc_is_rising_blocks : FnScope N_is_rising_blocks ["code", "name", "thing"] (defScope (topS 19)) := ⟨rfl, rfl, rfl, by decide +kernel, rfl, by decide +kernel, by decide +kernel⟩
theorem ok_is_rising_blocks {f f1 f2 : Addr} {fd fd1 fd2 : FuncData} {k k1 k2 : Nat} (D : Df K mg "is_rising_blocks" (topS 19) ["code", "name", "thing"] f fd)
    (D1 : Df K mg "is_numbers" (topS 17) ["thing"] f1 fd1) (G1 : FnD P w K mg base k1 f1 fd1 ["thing"] G_is_numbers) (h1 : k1 ≤ k)
    (D2 : Df K mg "blocks_of" (topS 8) ["code", "name"] f2 fd2) (G2 : FnD P w K mg base k2 f2 fd2 ["code", "name"] G_blocks_of) (h2 : k2 ≤ k) (B : Bn mg) :
    FnD P w K mg base (k + 1) f fd ["code", "name", "thing"] (frameG (r_is_rising_blocks)) := by
  refine FnD.frame (fnN_of D.fn sc_is_rising_blocks (fun cdv A outer s H E hg hr xs hx => ?_))
  have nd := sc_is_rising_blocks.nd
  have hu := hr.units
  have hG : (A.deeper (envOfC "is_rising_blocks" (defScope (topS 19)) s.heap.objs.size f cdv)).guards = some [] := hg
  have tk : Takes (cxOf (L2.CX P w) P w K mg base N_is_rising_blocks "is_rising_blocks" (defScope (topS 19)) f cdv A outer s H E) (fun c d _ H => E c d H) := takes_of rfl rfl rfl rfl
  match xs, hx with
  | [v_code, v_name, v_thing], _ =>
  exact (nss_at (mkS := mkU 5) (mkL := mkE) (ρ := [some v_code, some v_name, some v_thing, none, none]) (n := n_is_rising_blocks v_code v_name v_thing)
  (nss_ifx (mk0 := mkE) (dt_w (dw_or (dt_not (dt_tru (de_call hG G1 (hr.mono h1) D1.bd tk (by rfl) D1.gl D1.fn.kp (da_cons (de_var (i := 2) rfl (by first | exact Or.inl rfl | exact Or.inr (Or.inl rfl) | exact Or.inr (Or.inr rfl))) da_nil)))) (dw_or1 (dt_not (dt_tru (de_callB (mc_all rfl) (by rfl) B.b_all (by decide +kernel) (da_cons (de_lcP (own := [("one", 3), ("other", 4)]) (g := (gTup K 2 (gCons (gName 3) (gCons (gName 4) gNil)))) (pat := (pT2 pV pV)) (st := (fun p ρ => (fun v ρ => ρ.set 4 (some v)) p.2 ((fun v ρ => ρ.set 3 (some v)) p.1 ρ))) (t := tYesM) (e := (m2 phLt (mVar 3) (mVar 4))) rfl nd (di_zip (by rfl) B.b_zip (da_cons (de_var (i := 2) rfl (by first | exact Or.inl rfl | exact Or.inr (Or.inl rfl) | exact Or.inr (Or.inr rfl))) (da_cons (de_slice (de_var (i := 2) rfl (by first | exact Or.inl rfl | exact Or.inr (Or.inl rfl) | exact Or.inr (Or.inr rfl))) (do_some de_int) do_none) da_nil))) (blkOk_by (N := N_is_rising_blocks) (sc := defScope (topS 19)) (by decide +kernel)) (gokP_2 (gokP_n (by decide)) (gokP_n (by decide))) (fun _ _ _ _ _ => (pg_tup rfl (pgs_cons (pg_name (i := 3) nd rfl (by first | exact Or.inl rfl | exact Or.inr rfl)) (pgs_cons (pg_name (i := 4) nd rfl (by first | exact Or.inl rfl | exact Or.inr rfl)) pgs_nil)))) (fun _ _ _ _ _ => dts_nil) (fun _ _ _ _ _ => (de_cmp mo_lt (de_var (i := 3) rfl (by first | exact Or.inl rfl | exact Or.inr (Or.inl rfl) | exact Or.inr (Or.inr rfl))) (de_var (i := 4) rfl (by first | exact Or.inl rfl | exact Or.inr (Or.inl rfl) | exact Or.inr (Or.inr rfl))) (nomark _)))) da_nil)))))))
  (nss_ret de_bl ox0)
  (nss_ret (de_or (de_not (de_var (i := 2) rfl (by first | exact Or.inl rfl | exact Or.inr (Or.inl rfl) | exact Or.inr (Or.inr rfl)))) (de_one (de_and (de_cmp mo_ge (de_ix (mx_ix hu) (de_var (i := 2) rfl (by first | exact Or.inl rfl | exact Or.inr (Or.inl rfl) | exact Or.inr (Or.inr rfl))) de_int (fun _ _ => rfl)) de_int (nomark _)) (de_one (de_cmp mo_lt (de_ix (mx_ix hu) (de_var (i := 2) rfl (by first | exact Or.inl rfl | exact Or.inr (Or.inl rfl) | exact Or.inr (Or.inr rfl))) (de_un mu_neg de_int) (fun _ _ => rfl)) (de_callB mc_len (by rfl) B.b_len PySem.boot_len (da_cons (de_call hG G2 (hr.mono h2) D2.bd tk (by rfl) D2.gl D2.fn.kp (da_cons (de_var (i := 0) rfl (by first | exact Or.inl rfl | exact Or.inr (Or.inl rfl) | exact Or.inr (Or.inr rfl))) (da_cons (de_var (i := 1) rfl (by first | exact Or.inl rfl | exact Or.inr (Or.inl rfl) | exact Or.inr (Or.inr rfl))) da_nil))) da_nil)) (nomark _)))))) ox0) ox0))
abbrev N_lets_fence : List Str := ["code", "name", "over", "under", "thing", "block", "goal"]
theorem sc_lets_fence : FnScope N_lets_fence ["code", "name", "over", "under", "thing"] (defScope (topS 20)) := ⟨rfl, rfl, rfl, by decide +kernel, rfl, by decide +kernel, by decide +kernel⟩
theorem ok_lets_fence {f f1 f2 : Addr} {fd fd1 fd2 : FuncData} {k k1 k2 : Nat} {C_NoPaper fI_NoPaper : Addr} {fdI_NoPaper : FuncData} (D : Df K mg "lets_fence" (topS 20) ["code", "name", "over", "under", "thing"] f fd)
    (D1 : Df K mg "is_rising_blocks" (topS 19) ["code", "name", "thing"] f1 fd1) (G1 : FnD P w K mg base k1 f1 fd1 ["code", "name", "thing"] G_is_rising_blocks) (h1 : k1 ≤ k)
    (D2 : Df K mg "nexts" (topS 11) ["code", "name", "block"] f2 fd2) (G2 : FnD P w K mg base k2 f2 fd2 ["code", "name", "block"] G_nexts) (h2 : k2 ≤ k) (B : Bn mg)
    (M_NoPaper : Mk2 K mg "NoPaper" "word" "at" C_NoPaper fI_NoPaper) (I_NoPaper : FnOk P w K mg base CX0 1 fI_NoPaper fdI_NoPaper ["self", "word", "at"] (spIn2 C_NoPaper "word" "at")) (bI_NoPaper : Binds K fdI_NoPaper ["self", "word", "at"] []) (hI : 2 ≤ k) :
    FnD P w K mg base (k + 1) f fd ["code", "name", "over", "under", "thing"] (frameG (r_lets_fence)) := by
  refine FnD.frame (fnN_of D.fn sc_lets_fence (fun cdv A outer s H E hg hr xs hx => ?_))
  have nd := sc_lets_fence.nd
  have hu := hr.units
  have hG : (A.deeper (envOfC "lets_fence" (defScope (topS 20)) s.heap.objs.size f cdv)).guards = some [] := hg
  have tk : Takes (cxOf (L2.CX P w) P w K mg base N_lets_fence "lets_fence" (defScope (topS 20)) f cdv A outer s H E) (fun c d _ H => E c d H) := takes_of rfl rfl rfl rfl
  match xs, hx with
  | [v_code, v_name, v_over, v_under, v_thing], _ =>
  exact (nss_at (mkS := mkU 7) (mkL := mkE) (ρ := [some v_code, some v_name, some v_over, some v_under, some v_thing, none, none]) (n := n_lets_fence v_code v_name v_over v_under v_thing)
  (nss_ifx (mk0 := mkE) (dt_not (dt_tru (de_call hG G1 (hr.mono h1) D1.bd tk (by rfl) D1.gl D1.fn.kp (da_cons (de_var (i := 0) rfl (by first | exact Or.inl rfl | exact Or.inr (Or.inl rfl) | exact Or.inr (Or.inr rfl))) (da_cons (de_var (i := 1) rfl (by first | exact Or.inl rfl | exact Or.inr (Or.inl rfl) | exact Or.inr (Or.inr rfl))) (da_cons (de_var (i := 4) rfl (by first | exact Or.inl rfl | exact Or.inr (Or.inl rfl) | exact Or.inr (Or.inr rfl))) da_nil))))))
  (nss_raise2 (ds_raise2 rfl tk M_NoPaper I_NoPaper (hr.mono hI) bI_NoPaper (by rfl) (da_cons de_str (da_cons (de_un mu_neg de_int) da_nil))) ox0)
  (nss_cons (mk1 := (mk_lets_fence_1 v_code v_name v_over v_under v_thing)) (ns_forP (mk1 := (mk_lets_fence_1 v_code v_name v_over v_under v_thing)) (ρb := fun p a => [some v_code, some v_name, some v_over, some v_under, some v_thing, some p, none]) (a0 := ()) PassesOwn.leaving rfl (di_seq (de_var (i := 4) rfl (by first | exact Or.inl rfl | exact Or.inr (Or.inl rfl) | exact Or.inr (Or.inr rfl)))) (dg_name (i := 5) nd rfl (by first | exact Or.inl rfl | exact Or.inr rfl)) tgp_n (fun p a =>
  (let v_block : Vl := p; (nss_at (mkS := (mk_lets_fence_1 v_code v_name v_over v_under v_thing)) (mkL := (mk_lets_fence_1 v_code v_name v_over v_under v_thing)) (ρ := [some v_code, some v_name, some v_over, some v_under, some v_thing, some v_block, none]) (n := nb_lets_fence_1 v_code v_name v_over v_under v_thing v_block)
  (nss_if1 (dt_cmp (mo_in hu) (de_var (i := 5) rfl (by first | exact Or.inl rfl | exact Or.inr (Or.inl rfl) | exact Or.inr (Or.inr rfl))) (de_tup (da_cons (de_var (i := 2) rfl (by first | exact Or.inl rfl | exact Or.inr (Or.inl rfl) | exact Or.inr (Or.inr rfl))) (da_cons (de_var (i := 3) rfl (by first | exact Or.inl rfl | exact Or.inr (Or.inl rfl) | exact Or.inr (Or.inr rfl))) da_nil))) (by with_unfolding_all rfl))
  (nss_raise2 (ds_raise2 rfl tk M_NoPaper I_NoPaper (hr.mono hI) bI_NoPaper (by rfl) (da_cons de_str (da_cons (de_var (i := 5) rfl (by first | exact Or.inl rfl | exact Or.inr (Or.inl rfl) | exact Or.inr (Or.inr rfl))) da_nil))) ox0)
  (nss_nil (a := ()) (.som (.som (.som (.som (.som (.non (.non .nil)))))))) ox0)))) (.som (.som (.som (.som (.som (.non (.non .nil))))))) ox0) (fun j23 =>
  (nss_at (mkS := (mkU 7)) (mkL := mkE) (ρ := [some v_code, some v_name, some v_over, some v_under, some v_thing, none, none]) (n := kt_lets_fence_1 v_code v_name v_over v_under v_thing)
  (nss_ifx (mk0 := mkE) (dt_w (dw_and (dt_cmp (mo_ne hu) (de_var (i := 2) rfl (by first | exact Or.inl rfl | exact Or.inr (Or.inl rfl) | exact Or.inr (Or.inr rfl))) de_int (nomark _)) (dw_and1 (dt_cmp (mo_notIn hu) de_int (de_var (i := 4) rfl (by first | exact Or.inl rfl | exact Or.inr (Or.inl rfl) | exact Or.inr (Or.inr rfl))) (by with_unfolding_all rfl)))))
  (nss_raise2 (ds_raise2 rfl tk M_NoPaper I_NoPaper (hr.mono hI) bI_NoPaper (by rfl) (da_cons de_str (da_cons (de_un mu_neg de_int) da_nil))) ox0)
  (nss_cons (mk1 := (mk_lets_fence_2 v_code v_name v_over v_thing)) (ns_forP (mk1 := (mk_lets_fence_2 v_code v_name v_over v_thing)) (ρb := fun p a => [some v_code, some v_name, some v_over, none, some v_thing, some p, none]) (a0 := ()) PassesOwn.leaving rfl (di_seq (de_var (i := 4) rfl (by first | exact Or.inl rfl | exact Or.inr (Or.inl rfl) | exact Or.inr (Or.inr rfl)))) (dg_name (i := 5) nd rfl (by first | exact Or.inl rfl | exact Or.inr rfl)) tgp_n (fun p a =>
  (let v_block : Vl := p; (nss_at (mkS := (mk_lets_fence_2 v_code v_name v_over v_thing)) (mkL := (mk_lets_fence_2 v_code v_name v_over v_thing)) (ρ := [some v_code, some v_name, some v_over, none, some v_thing, some v_block, none]) (n := nb_lets_fence_2 v_code v_name v_over v_thing v_block)
  (nss_if1 (dt_not (dt_tru (de_callB (mc_all rfl) (by rfl) B.b_all (by decide +kernel) (da_cons (de_lcP (own := [("goal", 6)]) (g := (gName 6)) (pat := pV) (st := (fun v ρ => ρ.set 6 (some v))) (t := tYesM) (e := (mOr (m2 phEq (mVar 6) (mVar 2)) (m2 (phIn false) (mVar 6) (mVar 4)))) rfl nd (di_seq (de_call hG G2 (hr.mono h2) D2.bd tk (by rfl) D2.gl D2.fn.kp (da_cons (de_var (i := 0) rfl (by first | exact Or.inl rfl | exact Or.inr (Or.inl rfl) | exact Or.inr (Or.inr rfl))) (da_cons (de_var (i := 1) rfl (by first | exact Or.inl rfl | exact Or.inr (Or.inl rfl) | exact Or.inr (Or.inr rfl))) (da_cons (de_var (i := 5) rfl (by first | exact Or.inl rfl | exact Or.inr (Or.inl rfl) | exact Or.inr (Or.inr rfl))) da_nil))))) (blkOk_by (N := N_lets_fence) (sc := defScope (topS 20)) (by decide +kernel)) (gokP_n (by decide)) (fun _ _ _ _ _ => (pg_name (i := 6) nd rfl (by first | exact Or.inl rfl | exact Or.inr rfl))) (fun _ _ _ _ _ => dts_nil) (fun _ _ _ _ _ => (de_or (de_cmp (mo_eq hu) (de_var (i := 6) rfl (by first | exact Or.inl rfl | exact Or.inr (Or.inl rfl) | exact Or.inr (Or.inr rfl))) (de_var (i := 2) rfl (by first | exact Or.inl rfl | exact Or.inr (Or.inl rfl) | exact Or.inr (Or.inr rfl))) (nomark _)) (de_one (de_cmp (mo_in hu) (de_var (i := 6) rfl (by first | exact Or.inl rfl | exact Or.inr (Or.inl rfl) | exact Or.inr (Or.inr rfl))) (de_var (i := 4) rfl (by first | exact Or.inl rfl | exact Or.inr (Or.inl rfl) | exact Or.inr (Or.inr rfl))) (by with_unfolding_all rfl)))))) da_nil))))
  (nss_raise2 (ds_raise2 rfl tk M_NoPaper I_NoPaper (hr.mono hI) bI_NoPaper (by rfl) (da_cons de_str (da_cons (de_var (i := 5) rfl (by first | exact Or.inl rfl | exact Or.inr (Or.inl rfl) | exact Or.inr (Or.inr rfl))) da_nil))) ox0)
  (nss_nil (a := ()) (.som (.som (.som (.non (.som (.non (.non .nil)))))))) ox0)))) (.som (.som (.som (.non (.som (.non (.non .nil))))))) ox0) (fun j57 =>
  (nss_at (mkS := (mkU 7)) (mkL := mkE) (ρ := [some v_code, some v_name, some v_over, none, some v_thing, none, none]) (n := kt_lets_fence_2 v_code v_name v_over v_thing)
  (nss_ret de_bl ox0)))) ox0)))) ox0))
abbrev N_dominates : List Str := ["code", "name", "over", "under"]
theorem sc_dominates : FnScope N_dominates ["code", "name", "over", "under"] (defScope (topS 22)) := ⟨rfl, rfl, rfl, by decide +kernel, rfl, by decide +kernel, by decide +kernel⟩
theorem ok_dominates {f f1 : Addr} {fd fd1 : FuncData} {k k1 : Nat} (D : Df K mg "dominates" (topS 22) ["code", "name", "over", "under"] f fd)
    (D1 : Df K mg "led_around" (topS 12) ["code", "name", "over"] f1 fd1) (G1 : FnD P w K mg base k1 f1 fd1 ["code", "name", "over"] G_led_around) (h1 : k1 ≤ k) (B : Bn mg) :
    FnD P w K mg base (k + 1) f fd ["code", "name", "over", "under"] (frameG (r_dominates)) := by
  refine FnD.frame (fnN_of D.fn sc_dominates (fun cdv A outer s H E hg hr xs hx => ?_))
  have nd := sc_dominates.nd
  have hu := hr.units
  have hG : (A.deeper (envOfC "dominates" (defScope (topS 22)) s.heap.objs.size f cdv)).guards = some [] := hg
  have tk : Takes (cxOf (L2.CX P w) P w K mg base N_dominates "dominates" (defScope (topS 22)) f cdv A outer s H E) (fun c d _ H => E c d H) := takes_of rfl rfl rfl rfl
  match xs, hx with
  | [v_code, v_name, v_over, v_under], _ =>
  exact (nss_at (mkS := mkU 4) (mkL := mkE) (ρ := [some v_code, some v_name, some v_over, some v_under]) (n := n_dominates v_code v_name v_over v_under)
  (nss_ret (de_cmp (mo_notIn hu) (de_var (i := 3) rfl (by first | exact Or.inl rfl | exact Or.inr (Or.inl rfl) | exact Or.inr (Or.inr rfl))) (de_call hG G1 (hr.mono h1) D1.bd tk (by rfl) D1.gl D1.fn.kp (da_cons (de_var (i := 0) rfl (by first | exact Or.inl rfl | exact Or.inr (Or.inl rfl) | exact Or.inr (Or.inr rfl))) (da_cons (de_var (i := 1) rfl (by first | exact Or.inl rfl | exact Or.inr (Or.inl rfl) | exact Or.inr (Or.inr rfl))) (da_cons (de_var (i := 2) rfl (by first | exact Or.inl rfl | exact Or.inr (Or.inl rfl) | exact Or.inr (Or.inr rfl))) da_nil)))) (by with_unfolding_all rfl)) ox0))
abbrev N_law_feed_k01 : List Str := ["_law_script"]
theorem sc_law_feed_k01 : FnScope N_law_feed_k01 ["_law_script"] (defScope (topS 24)) := ⟨rfl, rfl, rfl, by decide +kernel, rfl, by decide +kernel, by decide +kernel⟩
theorem ok_law_feed_k01 {f : Addr} {fd : FuncData} {k : Nat} (D : Df K mg "_law_feed" (topS 24) ["_law_script"] f fd) (B : Bn mg) :
    FnD P w K mg base (k + 1) f fd ["_law_script"] (r_law_feed_k01) := by
  refine (fnN_of D.fn sc_law_feed_k01 (fun cdv A outer s H E hg hr xs hx => ?_))
  have nd := sc_law_feed_k01.nd
  have hu := hr.units
  have hG : (A.deeper (envOfC "_law_feed" (defScope (topS 24)) s.heap.objs.size f cdv)).guards = some [] := hg
  have tk : Takes (cxOf (L2.CX P w) P w K mg base N_law_feed_k01 "_law_feed" (defScope (topS 24)) f cdv A outer s H E) (fun c d _ H => E c d H) := takes_of rfl rfl rfl rfl
  match xs, hx with
  | [w_script], _ =>
  exact (nss_at (mkS := mkU 1) (mkL := mkE) (ρ := [some w_script]) (n := n_law_feed_k01 w_script)
  (nss_ret (de_new (da_cons (de_slice (de_var (i := 0) rfl (by first | exact Or.inl rfl | exact Or.inr (Or.inl rfl) | exact Or.inr (Or.inr rfl))) do_none (do_some de_int)) (da_cons de_int (da_cons de_int (da_cons de_int da_nil))))) ox0))
abbrev N_law_draw_k01 : List Str := ["_law_feed_here", "_law_many", "_law_cell", "_law_turn", "_law_mixed", "_law_told"]
theorem sc_law_draw_k01 : FnScope N_law_draw_k01 ["_law_feed_here", "_law_many"] (defScope (topS 25)) := ⟨rfl, rfl, rfl, by decide +kernel, rfl, by decide +kernel, by decide +kernel⟩
theorem ok_law_draw_k01 {f : Addr} {fd : FuncData} {k : Nat} (D : Df K mg "_law_draw" (topS 25) ["_law_feed_here", "_law_many"] f fd) (B : Bn mg) :
    FnD P w K mg base (k + 1) f fd ["_law_feed_here", "_law_many"] (frameG (r_law_draw_k01)) := by
  refine FnD.frame (fnN_of D.fn sc_law_draw_k01 (fun cdv A outer s H E hg hr xs hx => ?_))
  have nd := sc_law_draw_k01.nd
  have hu := hr.units
  have hG : (A.deeper (envOfC "_law_draw" (defScope (topS 25)) s.heap.objs.size f cdv)).guards = some [] := hg
  have tk : Takes (cxOf (L2.CX P w) P w K mg base N_law_draw_k01 "_law_draw" (defScope (topS 25)) f cdv A outer s H E) (fun c d _ H => E c d H) := takes_of rfl rfl rfl rfl
  match xs, hx with
  | [w_feed_here, w_many], _ =>
  exact (nss_at (mkS := mkU 6) (mkL := mkE) (ρ := [some w_feed_here, some w_many, none, none, none, none]) (n := n_law_draw_k01 w_feed_here w_many)
  (nss_augS (de_var (i := 0) rfl (by first | exact Or.inl rfl | exact Or.inr (Or.inl rfl) | exact Or.inr (Or.inr rfl))) de_int de_int
  (nss_ifx (mk0 := mkE) (dt_cmp mo_gt (de_ix (mx_ix hu) (de_var (i := 0) rfl (by first | exact Or.inl rfl | exact Or.inr (Or.inl rfl) | exact Or.inr (Or.inr rfl))) de_int (fun _ _ => rfl)) de_int (nomark _))
  (nss_set (i := 5) (ρ' := fun w_told => [some w_feed_here, some w_many, none, none, none, some w_told]) nd rfl (by first | exact Or.inl rfl | exact Or.inr rfl) (de_op mo_mod (de_ix (mx_ix hu) (de_var (i := 0) rfl (by first | exact Or.inl rfl | exact Or.inr (Or.inl rfl) | exact Or.inr (Or.inr rfl))) de_int (fun _ _ => rfl)) (de_var (i := 1) rfl (by first | exact Or.inl rfl | exact Or.inr (Or.inl rfl) | exact Or.inr (Or.inr rfl)))) (fun w_told =>
  (nss_asgS (de_op mo_div (de_ix (mx_ix hu) (de_var (i := 0) rfl (by first | exact Or.inl rfl | exact Or.inr (Or.inl rfl) | exact Or.inr (Or.inr rfl))) de_int (fun _ _ => rfl)) (de_var (i := 1) rfl (by first | exact Or.inl rfl | exact Or.inr (Or.inl rfl) | exact Or.inr (Or.inr rfl)))) (dg_sub hu (de_var (i := 0) rfl (by first | exact Or.inl rfl | exact Or.inr (Or.inl rfl) | exact Or.inr (Or.inr rfl))) de_int) (tgs_sub (fo := fun s21 => R.ok w_feed_here s21) (fi := fun z => R.ok (Vl.dat (.int 2)) z))
  (nss_ret (de_var (i := 5) rfl (by first | exact Or.inl rfl | exact Or.inr (Or.inl rfl) | exact Or.inr (Or.inr rfl))) ox0) ox0)) ox0)
  (nss_set (i := 2) (ρ' := fun w_cell => [some w_feed_here, some w_many, some w_cell, none, none, none]) nd rfl (by first | exact Or.inl rfl | exact Or.inr rfl) (de_if (dt_cmp (mo_eq hu) (de_ix (mx_ix hu) (de_var (i := 0) rfl (by first | exact Or.inl rfl | exact Or.inr (Or.inl rfl) | exact Or.inr (Or.inr rfl))) de_int (fun _ _ => rfl)) (de_lst da_nil) (nomark _)) de_int (de_ix (mx_ix hu) (de_ix (mx_ix hu) (de_var (i := 0) rfl (by first | exact Or.inl rfl | exact Or.inr (Or.inl rfl) | exact Or.inr (Or.inr rfl))) de_int (fun _ _ => rfl)) (de_op mo_mod (de_ix (mx_ix hu) (de_var (i := 0) rfl (by first | exact Or.inl rfl | exact Or.inr (Or.inl rfl) | exact Or.inr (Or.inr rfl))) de_int (fun _ _ => rfl)) (de_callB mc_len (by rfl) B.b_len PySem.boot_len (da_cons (de_ix (mx_ix hu) (de_var (i := 0) rfl (by first | exact Or.inl rfl | exact Or.inr (Or.inl rfl) | exact Or.inr (Or.inr rfl))) de_int (fun _ _ => rfl)) da_nil))) (fun _ _ => rfl))) (fun w_cell =>
  (nss_augS (de_var (i := 0) rfl (by first | exact Or.inl rfl | exact Or.inr (Or.inl rfl) | exact Or.inr (Or.inr rfl))) de_int de_int
  (nss_ifx (mk0 := mkE) (dt_w (dw_and (dt_cmp mo_ge (de_var (i := 2) rfl (by first | exact Or.inl rfl | exact Or.inr (Or.inl rfl) | exact Or.inr (Or.inr rfl))) (de_op mo_pow de_int de_int) (nomark _)) (dw_and1 (dt_cmp mo_le (de_ix (mx_ix hu) (de_var (i := 0) rfl (by first | exact Or.inl rfl | exact Or.inr (Or.inl rfl) | exact Or.inr (Or.inr rfl))) de_int (fun _ _ => rfl)) (de_callB mc_len (by rfl) B.b_len PySem.boot_len (da_cons (de_ix (mx_ix hu) (de_var (i := 0) rfl (by first | exact Or.inl rfl | exact Or.inr (Or.inl rfl) | exact Or.inr (Or.inr rfl))) de_int (fun _ _ => rfl)) da_nil)) (nomark _)))))
  (nss_asgS (de_op mo_div (de_var (i := 2) rfl (by first | exact Or.inl rfl | exact Or.inr (Or.inl rfl) | exact Or.inr (Or.inr rfl))) (de_var (i := 1) rfl (by first | exact Or.inl rfl | exact Or.inr (Or.inl rfl) | exact Or.inr (Or.inr rfl)))) (dg_sub hu (de_var (i := 0) rfl (by first | exact Or.inl rfl | exact Or.inr (Or.inl rfl) | exact Or.inr (Or.inr rfl))) de_int) (tgs_sub (fo := fun s73 => R.ok w_feed_here s73) (fi := fun z => R.ok (Vl.dat (.int 2)) z))
  (nss_ret (de_op mo_mod (de_var (i := 2) rfl (by first | exact Or.inl rfl | exact Or.inr (Or.inl rfl) | exact Or.inr (Or.inr rfl))) (de_var (i := 1) rfl (by first | exact Or.inl rfl | exact Or.inr (Or.inl rfl) | exact Or.inr (Or.inr rfl)))) ox0) ox0)
  (nss_set (i := 3) (ρ' := fun w_turn => [some w_feed_here, some w_many, some w_cell, some w_turn, none, none]) nd rfl (by first | exact Or.inl rfl | exact Or.inr rfl) (de_ix (mx_ix hu) (de_var (i := 0) rfl (by first | exact Or.inl rfl | exact Or.inr (Or.inl rfl) | exact Or.inr (Or.inr rfl))) de_int (fun _ _ => rfl)) (fun w_turn =>
  (nss_set (i := 4) (ρ' := fun w_mixed => [some w_feed_here, some w_many, some w_cell, some w_turn, some w_mixed, none]) nd rfl (by first | exact Or.inl rfl | exact Or.inr rfl) (de_op mo_mod (de_op mo_add (de_op mo_add (de_op mo_mod (de_var (i := 2) rfl (by first | exact Or.inl rfl | exact Or.inr (Or.inl rfl) | exact Or.inr (Or.inr rfl))) de_int) (de_op mo_mul (de_op mo_mul de_int (de_var (i := 3) rfl (by first | exact Or.inl rfl | exact Or.inr (Or.inl rfl) | exact Or.inr (Or.inr rfl)))) (de_var (i := 3) rfl (by first | exact Or.inl rfl | exact Or.inr (Or.inl rfl) | exact Or.inr (Or.inr rfl))))) (de_op mo_mul de_int (de_var (i := 3) rfl (by first | exact Or.inl rfl | exact Or.inr (Or.inl rfl) | exact Or.inr (Or.inr rfl))))) de_int) (fun w_mixed =>
  (nss_set (i := 4) (ρ' := fun w_mixed => [some w_feed_here, some w_many, some w_cell, some w_turn, some w_mixed, none]) nd rfl (by first | exact Or.inl rfl | exact Or.inr rfl) (de_op mo_mod (de_op mo_add (de_op mo_mul (de_var (i := 4) rfl (by first | exact Or.inl rfl | exact Or.inr (Or.inl rfl) | exact Or.inr (Or.inr rfl))) (de_var (i := 4) rfl (by first | exact Or.inl rfl | exact Or.inr (Or.inl rfl) | exact Or.inr (Or.inr rfl)))) (de_op mo_mul de_int (de_var (i := 3) rfl (by first | exact Or.inl rfl | exact Or.inr (Or.inl rfl) | exact Or.inr (Or.inr rfl))))) de_int) (fun w_mixed =>
  (nss_set (i := 4) (ρ' := fun w_mixed => [some w_feed_here, some w_many, some w_cell, some w_turn, some w_mixed, none]) nd rfl (by first | exact Or.inl rfl | exact Or.inr rfl) (de_op mo_mod (de_op mo_add (de_op mo_mul (de_var (i := 4) rfl (by first | exact Or.inl rfl | exact Or.inr (Or.inl rfl) | exact Or.inr (Or.inr rfl))) (de_var (i := 4) rfl (by first | exact Or.inl rfl | exact Or.inr (Or.inl rfl) | exact Or.inr (Or.inr rfl)))) (de_op mo_mul de_int (de_var (i := 3) rfl (by first | exact Or.inl rfl | exact Or.inr (Or.inl rfl) | exact Or.inr (Or.inr rfl))))) de_int) (fun w_mixed =>
  (nss_ret (de_op mo_mod (de_op mo_div (de_op mo_mod (de_op mo_add (de_op mo_mul (de_var (i := 4) rfl (by first | exact Or.inl rfl | exact Or.inr (Or.inl rfl) | exact Or.inr (Or.inr rfl))) (de_var (i := 4) rfl (by first | exact Or.inl rfl | exact Or.inr (Or.inl rfl) | exact Or.inr (Or.inr rfl)))) (de_var (i := 3) rfl (by first | exact Or.inl rfl | exact Or.inr (Or.inl rfl) | exact Or.inr (Or.inr rfl)))) de_int) de_int) (de_var (i := 1) rfl (by first | exact Or.inl rfl | exact Or.inr (Or.inl rfl) | exact Or.inr (Or.inr rfl)))) ox0)) ox0)) ox0)) ox0)) ox0) ox0) ox0)) ox0) ox0) ox0))
abbrev N_law_graph : List Str := ["_law_feed_here", "_law_most", "_law_many", "_law_blocks", "_law_block", "_law_ends", "_law_first", "_law_second", "_law_near"]
theorem sc_law_graph : FnScope N_law_graph ["_law_feed_here", "_law_most"] (defScope (topS 26)) := ⟨rfl, rfl, rfl, by decide +kernel, rfl, by decide +kernel, by decide +kernel⟩
theorem ok_law_graph {f f1 : Addr} {fd fd1 : FuncData} {k k1 : Nat} {dr : MF} (D : Df K mg "_law_graph" (topS 26) ["_law_feed_here", "_law_most"] f fd)
    (D1 : Df K mg "_law_draw" (topS 25) ["_law_feed_here", "_law_many"] f1 fd1) (G1 : FnD P w K mg base k1 f1 fd1 ["_law_feed_here", "_law_many"] dr) (h1 : k1 ≤ k) (B : Bn mg) :
    FnD P w K mg base (k + 1) f fd ["_law_feed_here", "_law_most"] (frameG (r_law_graph dr)) := by
  refine FnD.frame (fnN_of D.fn sc_law_graph (fun cdv A outer s H E hg hr xs hx => ?_))
  have nd := sc_law_graph.nd
  have hu := hr.units
  have hG : (A.deeper (envOfC "_law_graph" (defScope (topS 26)) s.heap.objs.size f cdv)).guards = some [] := hg
  have tk : Takes (cxOf (L2.CX P w) P w K mg base N_law_graph "_law_graph" (defScope (topS 26)) f cdv A outer s H E) (fun c d _ H => E c d H) := takes_of rfl rfl rfl rfl
  match xs, hx with
  | [w_feed_here, w_most], _ =>
  exact (nss_at (mkS := mkU 9) (mkL := mkE) (ρ := [some w_feed_here, some w_most, none, none, none, none, none, none, none]) (n := n_law_graph dr w_feed_here w_most)
  (nss_set (i := 2) (ρ' := fun w_many => [some w_feed_here, some w_most, some w_many, none, none, none, none, none, none]) nd rfl (by first | exact Or.inl rfl | exact Or.inr rfl) (de_op mo_add de_int (de_call hG G1 (hr.mono h1) D1.bd tk (by rfl) D1.gl D1.fn.kp (da_cons (de_var (i := 0) rfl (by first | exact Or.inl rfl | exact Or.inr (Or.inl rfl) | exact Or.inr (Or.inr rfl))) (da_cons (de_var (i := 1) rfl (by first | exact Or.inl rfl | exact Or.inr (Or.inl rfl) | exact Or.inr (Or.inr rfl))) da_nil)))) (fun w_many =>
  (nss_set (i := 3) (ρ' := fun w_blocks => [some w_feed_here, some w_most, some w_many, some w_blocks, none, none, none, none, none]) nd rfl (by first | exact Or.inl rfl | exact Or.inr rfl) (de_new da_nil) (fun w_blocks =>
  (nss_cons (mk1 := (mk_law_graph_1 w_feed_here w_many w_blocks)) (ns_forP (mk1 := (mk_law_graph_1 w_feed_here w_many w_blocks)) (ρb := fun p a => [some w_feed_here, none, some w_many, some w_blocks, some p, none, none, none, none]) (a0 := ()) PassesOwn.leaving rfl (di_range1 (by rfl) B.b_range (da_cons (de_var (i := 2) rfl (by first | exact Or.inl rfl | exact Or.inr (Or.inl rfl) | exact Or.inr (Or.inr rfl))) da_nil)) (dg_name (i := 4) nd rfl (by first | exact Or.inl rfl | exact Or.inr rfl)) tgp_n (fun p a =>
  (let w_block : Vl := p; (nss_at (mkS := (mk_law_graph_1 w_feed_here w_many w_blocks)) (mkL := (mk_law_graph_1 w_feed_here w_many w_blocks)) (ρ := [some w_feed_here, none, some w_many, some w_blocks, some w_block, none, none, none, none]) (n := nb_law_graph_1 dr w_feed_here w_many w_blocks w_block)
  (nss_par3N (i := 6) (j := 7) (l := 8) (ρ' := fun w_first w_second w_near => [some w_feed_here, none, some w_many, some w_blocks, some w_block, none, some w_first, some w_second, some w_near]) rfl nd rfl rfl rfl (by decide) (by decide) (by decide) rfl rfl rfl (da_cons (de_call hG G1 (hr.mono h1) D1.bd tk (by rfl) D1.gl D1.fn.kp (da_cons (de_var (i := 0) rfl (by first | exact Or.inl rfl | exact Or.inr (Or.inl rfl) | exact Or.inr (Or.inr rfl))) (da_cons (de_var (i := 2) rfl (by first | exact Or.inl rfl | exact Or.inr (Or.inl rfl) | exact Or.inr (Or.inr rfl))) da_nil))) (da_cons (de_call hG G1 (hr.mono h1) D1.bd tk (by rfl) D1.gl D1.fn.kp (da_cons (de_var (i := 0) rfl (by first | exact Or.inl rfl | exact Or.inr (Or.inl rfl) | exact Or.inr (Or.inr rfl))) (da_cons (de_var (i := 2) rfl (by first | exact Or.inl rfl | exact Or.inr (Or.inl rfl) | exact Or.inr (Or.inr rfl))) da_nil))) (da_cons (de_op mo_mod (de_op mo_add (de_var (i := 4) rfl (by first | exact Or.inl rfl | exact Or.inr (Or.inl rfl) | exact Or.inr (Or.inr rfl))) de_int) (de_var (i := 2) rfl (by first | exact Or.inl rfl | exact Or.inr (Or.inl rfl) | exact Or.inr (Or.inr rfl)))) da_nil))) (fun w_first w_second w_near =>
  (nss_set (i := 5) (ρ' := fun w_ends => [some w_feed_here, none, some w_many, some w_blocks, some w_block, some w_ends, some w_first, some w_second, some w_near]) nd rfl (by first | exact Or.inl rfl | exact Or.inr rfl) (de_lst (da_cons (de_tup (da_cons de_str (da_cons (de_var (i := 6) rfl (by first | exact Or.inl rfl | exact Or.inr (Or.inl rfl) | exact Or.inr (Or.inr rfl))) da_nil))) (da_cons (de_tup (da_cons de_str (da_cons (de_var (i := 8) rfl (by first | exact Or.inl rfl | exact Or.inr (Or.inl rfl) | exact Or.inr (Or.inr rfl))) da_nil))) (da_cons (de_tup (da_cons de_str (da_cons de_str (da_cons (de_var (i := 6) rfl (by first | exact Or.inl rfl | exact Or.inr (Or.inl rfl) | exact Or.inr (Or.inr rfl))) (da_cons (de_var (i := 7) rfl (by first | exact Or.inl rfl | exact Or.inr (Or.inl rfl) | exact Or.inr (Or.inr rfl))) da_nil))))) (da_cons (de_tup (da_cons de_str (da_cons de_str (da_cons (de_var (i := 8) rfl (by first | exact Or.inl rfl | exact Or.inr (Or.inl rfl) | exact Or.inr (Or.inr rfl))) (da_cons (de_var (i := 6) rfl (by first | exact Or.inl rfl | exact Or.inr (Or.inl rfl) | exact Or.inr (Or.inr rfl))) da_nil))))) (da_cons (de_tup (da_cons de_str da_nil)) da_nil)))))) (fun w_ends =>
  (nss_expr (de_append (de_var (i := 3) rfl (by first | exact Or.inl rfl | exact Or.inr (Or.inl rfl) | exact Or.inr (Or.inr rfl))) (da_cons (de_tup (da_cons (de_tup da_nil) (da_cons (de_ix (mx_ix hu) (de_var (i := 5) rfl (by first | exact Or.inl rfl | exact Or.inr (Or.inl rfl) | exact Or.inr (Or.inr rfl))) (de_call hG G1 (hr.mono h1) D1.bd tk (by rfl) D1.gl D1.fn.kp (da_cons (de_var (i := 0) rfl (by first | exact Or.inl rfl | exact Or.inr (Or.inl rfl) | exact Or.inr (Or.inr rfl))) (da_cons de_int da_nil))) (fun _ _ => rfl)) da_nil))) da_nil))
  (nss_nil (a := ()) (.som (.non (.som (.som (.non (.non (.non (.non (.non .nil)))))))))) ox0)) ox0)) ox0)))) (.som (.non (.som (.som (.non (.non (.non (.non (.non .nil))))))))) ox0) (fun j56 =>
  (nss_at (mkS := (mkU 9)) (mkL := mkE) (ρ := [some w_feed_here, none, some w_many, some w_blocks, none, none, none, none, none]) (n := kt_law_graph_1 dr w_feed_here w_many w_blocks)
  (nss_ret (de_tup (da_cons (de_tup (da_cons (de_tup (da_cons de_str (da_cons de_int da_nil))) da_nil)) (da_cons (de_tup (da_cons (de_tup (da_cons de_str (da_cons (de_callTy mc_tuple (by rfl) B.b_tuple (by decide +kernel) (da_cons (de_var (i := 3) rfl (by first | exact Or.inl rfl | exact Or.inr (Or.inl rfl) | exact Or.inr (Or.inr rfl))) da_nil)) da_nil))) da_nil)) da_nil))) ox0))))) ox0)) ox0))
abbrev N_law_let_k15 : List Str := ["_law_ask"]
theorem sc_law_let_k15 : FnScope N_law_let_k15 ["_law_ask"] (defScope (topS 27)) := ⟨rfl, rfl, rfl, by decide +kernel, rfl, by decide +kernel, by decide +kernel⟩
theorem ok_law_let_k15 {f : Addr} {fd : FuncData} {k : Nat} {C : Addr} (D : Df K mg "_law_let" (topS 27) ["_law_ask"] f fd) (B : Bn mg)
    (T : PapZ K mg C) :
    LamD P w K mg base k "_law_let" (topS 27) N_law_let_k15 "_law_ask" f fd n_law_let_k15 := by
  refine ⟨fun cdv A outer s H E lv act hg hr hact => ?_, fun lv act s => by simp only [n_law_let_k15, actG_self], sc_law_let_k15, rfl, (by first | exact Or.inl rfl | exact Or.inr (Or.inl rfl) | exact Or.inr (Or.inr rfl))⟩
  have nd := sc_law_let_k15.nd
  have hu := hr.units
  have hG : (A.deeper (envOfC "_law_let" (defScope (topS 27)) s.heap.objs.size f cdv)).guards = some [] := hg
  have tk : Takes (cxOf (L2.CX P w) P w K mg base N_law_let_k15 "_law_let" (defScope (topS 27)) f cdv A outer s H E) (fun c d _ H => E c d H) := takes_of rfl rfl rfl rfl
  exact (nss_at (mkS := mkU 1) (mkL := mkE) (ρ := [some lv]) (n := n_law_let_k15 lv act)
  (nss_cons (mk1 := mk_law_let_k15_1) (ns_try_only (ρx := [some lv]) rfl rfl ⟨rfl, by decide, Or.inl T.g_NoPaper⟩ tk T.t_NoPaper (fun W2 pn2 xe2 tk2 po2 =>
  (nss_ret (hact _ _ _ _ _ tk2) (show OxLe (some _) _ from (.som .nil)))) (fun a oe cls d pn hz hf e3 =>
  (nss_ret de_bl ox0)) ox0) (fun j8 =>
  (nss_at (mkS := (mkU 1)) (mkL := mkE) (ρ := [none]) (n := kt_law_let_k15_1 )
  (nss_nil (LeL.nones rfl))))))
abbrev N_law_fences : List Str := ["_law_many", "_law_found", "_law_block", "_law_shut"]
theorem sc_law_fences : FnScope N_law_fences ["_law_many"] (defScope (topS 28)) := ⟨rfl, rfl, rfl, by decide +kernel, rfl, by decide +kernel, by decide +kernel⟩
theorem ok_law_fences {f : Addr} {fd : FuncData} {k : Nat} (D : Df K mg "_law_fences" (topS 28) ["_law_many"] f fd) (B : Bn mg) :
    FnD P w K mg base (k + 1) f fd ["_law_many"] (frameG (r_law_fences)) := by
  refine FnD.frame (fnN_of D.fn sc_law_fences (fun cdv A outer s H E hg hr xs hx => ?_))
  have nd := sc_law_fences.nd
  have hu := hr.units
  have hG : (A.deeper (envOfC "_law_fences" (defScope (topS 28)) s.heap.objs.size f cdv)).guards = some [] := hg
  have tk : Takes (cxOf (L2.CX P w) P w K mg base N_law_fences "_law_fences" (defScope (topS 28)) f cdv A outer s H E) (fun c d _ H => E c d H) := takes_of rfl rfl rfl rfl
  match xs, hx with
  | [w_many], _ =>
  exact (nss_at (mkS := mkU 4) (mkL := mkE) (ρ := [some w_many, none, none, none]) (n := n_law_fences w_many)
  (nss_set (i := 1) (ρ' := fun w_found => [some w_many, some w_found, none, none]) nd rfl (by first | exact Or.inl rfl | exact Or.inr rfl) (de_lst (da_cons (de_tup da_nil) da_nil)) (fun w_found =>
  (nss_cons (mk1 := mk_law_fences_1) (ns_forP (mk1 := mk_law_fences_1) (ρb := fun p a => [none, some a, some p, none]) (a0 := w_found) PassesOwn.leaving rfl (di_range1 (by rfl) B.b_range (da_cons (de_var (i := 0) rfl (by first | exact Or.inl rfl | exact Or.inr (Or.inl rfl) | exact Or.inr (Or.inr rfl))) da_nil)) (dg_name (i := 2) nd rfl (by first | exact Or.inl rfl | exact Or.inr rfl)) tgp_n (fun p a =>
  (let w_block : Vl := p; (let w_found : Vl := a; (nss_at (mkS := mk_law_fences_1) (mkL := mk_law_fences_1) (ρ := [none, some w_found, some w_block, none]) (n := nb_law_fences_1 w_block w_found)
  (nss_set (i := 1) (ρ' := fun w_found => [none, some w_found, some w_block, none]) nd rfl (by first | exact Or.inl rfl | exact Or.inr rfl) (de_op mo_add (de_var (i := 1) rfl (by first | exact Or.inl rfl | exact Or.inr (Or.inl rfl) | exact Or.inr (Or.inr rfl))) (de_lcP (own := [("_law_shut", 3)]) (g := (gName 3)) (pat := pV) (st := (fun v ρ => ρ.set 3 (some v))) (t := tYesM) (e := (m2 phAdd (mVar 3) (mTup (aCons (mVar 2) aNil)))) rfl nd (di_seq (de_var (i := 1) rfl (by first | exact Or.inl rfl | exact Or.inr (Or.inl rfl) | exact Or.inr (Or.inr rfl)))) (blkOk_by (N := N_law_fences) (sc := defScope (topS 28)) (by decide +kernel)) (gokP_n (by decide)) (fun _ _ _ _ _ => (pg_name (i := 3) nd rfl (by first | exact Or.inl rfl | exact Or.inr rfl))) (fun _ _ _ _ _ => dts_nil) (fun _ _ _ _ _ => (de_op mo_add (de_var (i := 3) rfl (by first | exact Or.inl rfl | exact Or.inr (Or.inl rfl) | exact Or.inr (Or.inr rfl))) (de_tup (da_cons (de_var (i := 2) rfl (by first | exact Or.inl rfl | exact Or.inr (Or.inl rfl) | exact Or.inr (Or.inr rfl))) da_nil)))))) (fun w_found =>
  (nss_nil (a := w_found) (.non (.som (.non (.non .nil)))))) ox0))))) (.non (.som (.non (.non .nil)))) ox0) (fun j13 =>
  (let w_found : Vl := j13; (nss_at (mkS := (mkU 4)) (mkL := mkE) (ρ := [none, some w_found, none, none]) (n := kt_law_fences_1 w_found)
  (nss_ret (de_var (i := 1) rfl (by first | exact Or.inl rfl | exact Or.inr (Or.inl rfl) | exact Or.inr (Or.inr rfl))) ox0)))))) ox0))
abbrev N_law_ways_k15 : List Str := ["_law_code", "_law_found", "_law_at", "_law_block"]
theorem sc_law_ways_k15 : FnScope N_law_ways_k15 ["_law_code"] (defScope (topS 29)) := ⟨rfl, rfl, rfl, by decide +kernel, rfl, by decide +kernel, by decide +kernel⟩
theorem ok_law_ways_k15 {f f1 : Addr} {fd fd1 : FuncData} {k k1 : Nat} (D : Df K mg "_law_ways" (topS 29) ["_law_code"] f fd)
    (D1 : Df K mg "nexts" (topS 11) ["code", "name", "block"] f1 fd1) (G1 : FnD P w K mg base k1 f1 fd1 ["code", "name", "block"] G_nexts) (h1 : k1 ≤ k) (B : Bn mg) :
    FnD P w K mg base (k + 1) f fd ["_law_code"] (frameG (r_law_ways_k15)) := by
  refine FnD.frame (fnN_of D.fn sc_law_ways_k15 (fun cdv A outer s H E hg hr xs hx => ?_))
  have nd := sc_law_ways_k15.nd
  have hu := hr.units
  have hG : (A.deeper (envOfC "_law_ways" (defScope (topS 29)) s.heap.objs.size f cdv)).guards = some [] := hg
  have tk : Takes (cxOf (L2.CX P w) P w K mg base N_law_ways_k15 "_law_ways" (defScope (topS 29)) f cdv A outer s H E) (fun c d _ H => E c d H) := takes_of rfl rfl rfl rfl
  match xs, hx with
  | [w_code], _ =>
  exact (nss_at (mkS := mkU 4) (mkL := mkE) (ρ := [some w_code, none, none, none]) (n := n_law_ways_k15 w_code)
  (nss_set (i := 1) (ρ' := fun w_found => [some w_code, some w_found, none, none]) nd rfl (by first | exact Or.inl rfl | exact Or.inr rfl) (de_new (da_cons (de_tup (da_cons de_int da_nil)) da_nil)) (fun w_found =>
  (nss_cons (mk1 := (mk_law_ways_k15_1 w_code w_found)) (ns_forP (mk1 := (mk_law_ways_k15_1 w_code w_found)) (ρb := fun p a => [some w_code, some w_found, some p, none]) (a0 := ()) PassesOwn.leaving rfl (di_range1 (by rfl) B.b_range (da_cons de_int da_nil)) (dg_name (i := 2) nd rfl (by first | exact Or.inl rfl | exact Or.inr rfl)) tgp_n (fun p a =>
  (let w_at : Vl := p; (nss_at (mkS := (mk_law_ways_k15_1 w_code w_found)) (mkL := (mk_law_ways_k15_1 w_code w_found)) (ρ := [some w_code, some w_found, some w_at, none]) (n := nb_law_ways_k15_1 w_code w_found w_at)
  (nss_if1 (dt_w (dw_and (dt_cmp mo_lt (de_var (i := 2) rfl (by first | exact Or.inl rfl | exact Or.inr (Or.inl rfl) | exact Or.inr (Or.inr rfl))) (de_callB mc_len (by rfl) B.b_len PySem.boot_len (da_cons (de_var (i := 1) rfl (by first | exact Or.inl rfl | exact Or.inr (Or.inl rfl) | exact Or.inr (Or.inr rfl))) da_nil)) (nomark _)) (dw_and (dt_cmp mo_lt (de_callB mc_len (by rfl) B.b_len PySem.boot_len (da_cons (de_var (i := 1) rfl (by first | exact Or.inl rfl | exact Or.inr (Or.inl rfl) | exact Or.inr (Or.inr rfl))) da_nil)) de_int (nomark _)) (dw_and1 (dt_cmp mo_lt (de_callB mc_len (by rfl) B.b_len PySem.boot_len (da_cons (de_ix (mx_ix hu) (de_var (i := 1) rfl (by first | exact Or.inl rfl | exact Or.inr (Or.inl rfl) | exact Or.inr (Or.inr rfl))) (de_var (i := 2) rfl (by first | exact Or.inl rfl | exact Or.inr (Or.inl rfl) | exact Or.inr (Or.inr rfl))) (fun _ _ => rfl)) da_nil)) de_int (nomark _))))))
  (nss_expr (de_extend (de_var (i := 1) rfl (by first | exact Or.inl rfl | exact Or.inr (Or.inl rfl) | exact Or.inr (Or.inr rfl))) (da_cons (de_lcP (own := [("_law_block", 3)]) (g := (gName 3)) (pat := pV) (st := (fun v ρ => ρ.set 3 (some v))) (t := tYesM) (e := (m2 phAdd (m2 phIx (mVar 1) (mVar 2)) (mTup (aCons (mVar 3) aNil)))) rfl nd (di_seq (de_call hG G1 (hr.mono h1) D1.bd tk (by rfl) D1.gl D1.fn.kp (da_cons (de_var (i := 0) rfl (by first | exact Or.inl rfl | exact Or.inr (Or.inl rfl) | exact Or.inr (Or.inr rfl))) (da_cons de_str (da_cons (de_ix (mx_ix hu) (de_ix (mx_ix hu) (de_var (i := 1) rfl (by first | exact Or.inl rfl | exact Or.inr (Or.inl rfl) | exact Or.inr (Or.inr rfl))) (de_var (i := 2) rfl (by first | exact Or.inl rfl | exact Or.inr (Or.inl rfl) | exact Or.inr (Or.inr rfl))) (fun _ _ => rfl)) (de_un mu_neg de_int) (fun _ _ => rfl)) da_nil))))) (blkOk_by (N := N_law_ways_k15) (sc := defScope (topS 29)) (by decide +kernel)) (gokP_n (by decide)) (fun _ _ _ _ _ => (pg_name (i := 3) nd rfl (by first | exact Or.inl rfl | exact Or.inr rfl))) (fun _ _ _ _ _ => dts_nil) (fun _ _ _ _ _ => (de_op mo_add (de_ix (mx_ix hu) (de_var (i := 1) rfl (by first | exact Or.inl rfl | exact Or.inr (Or.inl rfl) | exact Or.inr (Or.inr rfl))) (de_var (i := 2) rfl (by first | exact Or.inl rfl | exact Or.inr (Or.inl rfl) | exact Or.inr (Or.inr rfl))) (fun _ _ => rfl)) (de_tup (da_cons (de_var (i := 3) rfl (by first | exact Or.inl rfl | exact Or.inr (Or.inl rfl) | exact Or.inr (Or.inr rfl))) da_nil))))) da_nil))
  (nss_nil (a := ()) (.som (.som (.non (.non .nil))))) ox0)
  (nss_nil (a := ()) (.som (.som (.non (.non .nil))))) ox0)))) (.som (.som (.non (.non .nil)))) ox0) (fun j52 =>
  (nss_at (mkS := (mkU 4)) (mkL := mkE) (ρ := [some w_code, some w_found, none, none]) (n := kt_law_ways_k15_1 w_code w_found)
  (nss_ret (de_var (i := 1) rfl (by first | exact Or.inl rfl | exact Or.inr (Or.inl rfl) | exact Or.inr (Or.inr rfl))) ox0))))) ox0))
abbrev N_law_right_k15 : List Str := ["_law_code", "_law_over", "_law_under", "_law_shuts", "_law_ways_here", "_law_above", "_law_let_here", "_law_went", "_law_way", "_law_shut"]
theorem sc_law_right_k15 : FnScope N_law_right_k15 ["_law_code", "_law_over", "_law_under", "_law_shuts", "_law_ways_here"] (defScope (topS 30)) := ⟨rfl, rfl, rfl, by decide +kernel, rfl, by decide +kernel, by decide +kernel⟩
theorem ok_law_right_k15 {f f1 f2 f3 f4 f5 f6 : Addr} {fd fd1 fd2 fd3 fd4 fd5 fd6 : FuncData} {k k1 k2 k3 k4 k5 k6 : Nat} {c8 : Addr} (D : Df K mg "_law_right" (topS 30) ["_law_code", "_law_over", "_law_under", "_law_shuts", "_law_ways_here"] f fd)
    (D1 : Df K mg "dominates" (topS 22) ["code", "name", "over", "under"] f1 fd1) (G1 : FnD P w K mg base k1 f1 fd1 ["code", "name", "over", "under"] G_dominates) (h1 : k1 ≤ k)
    (D2 : Df K mg "_law_let" (topS 27) ["_law_ask"] f2 fd2) (G2 : LamD P w K mg base k2 "_law_let" (topS 27) N_law_let_k15 "_law_ask" f2 fd2 n_law_let_k15) (mm2 : k2 ≤ k - 2 + 1)
    (D3 : Df K mg "lets_fence" (topS 20) ["code", "name", "over", "under", "thing"] f3 fd3) (G3 : FnD P w K mg base k3 f3 fd3 ["code", "name", "over", "under", "thing"] G_lets_fence) (mm3 : k3 + 2 ≤ k)
    (D4 : Df K mg "lets_around" (topS 18) ["code", "name", "over", "under", "thing"] f4 fd4) (G4 : FnD P w K mg base k4 f4 fd4 ["code", "name", "over", "under", "thing"] G_lets_around) (mm4 : k4 + 2 ≤ k)
    (D5 : Df K mg "around" (topS 14) ["code", "name", "over", "under"] f5 fd5) (G5 : FnD P w K mg base k5 f5 fd5 ["code", "name", "over", "under"] G_around) (h5 : k5 ≤ k)
    (D6 : Df K mg "fence" (topS 15) ["code", "name", "over", "under"] f6 fd6) (G6 : FnD P w K mg base k6 f6 fd6 ["code", "name", "over", "under"] G_fence) (h6 : k6 ≤ k) (B : Bn mg)
    (C8 : CodeOf K f c8) (TB : LamX.TabB base mg c8 196) (hk2 : 2 ≤ k) :
    FnD P w K mg base (k + 1) f fd ["_law_code", "_law_over", "_law_under", "_law_shuts", "_law_ways_here"] (frameG (r_law_right_k15)) := by
  refine FnD.frame (fnN_ofC C8 D.fn sc_law_right_k15 (fun cdv A outer s H E ec hg hr xs hx => ?_))
  have nd := sc_law_right_k15.nd
  have hu := hr.units
  have hrL := hr.mono (show k - 2 + 2 ≤ k by omega)
  have hmT : ((196 : Addr), ("_law_right" : Str) ++ ".<locals>." ++ "<lambda>") ∈ tabT := by decide +kernel
  have huT : ∀ p ∈ tabT, p.1 = (196 : Addr) → p.2 = ("_law_right" : Str) ++ ".<locals>." ++ "<lambda>" := by decide +kernel
  have h3 : k3 ≤ k := by omega
  have h4 : k4 ≤ k := by omega
  have hG : (A.deeper (envOfC "_law_right" (defScope (topS 30)) s.heap.objs.size f cdv)).guards = some [] := hg
  have tk : Takes (cxOf (L2.CX P w) P w K mg base N_law_right_k15 "_law_right" (defScope (topS 30)) f cdv A outer s H E) (fun c d _ H => E c d H) := takes_of rfl rfl rfl rfl
  match xs, hx with
  | [w_code, w_over, w_under, w_shuts, w_ways_here], _ =>
  exact (nss_at (mkS := mkU 10) (mkL := mkE) (ρ := [some w_code, some w_over, some w_under, some w_shuts, some w_ways_here, none, none, none, none, none]) (n := n_law_right_k15 w_code w_over w_under w_shuts w_ways_here)
  (nss_set (i := 5) (ρ' := fun w_above => [some w_code, some w_over, some w_under, some w_shuts, some w_ways_here, some w_above, none, none, none, none]) nd rfl (by first | exact Or.inl rfl | exact Or.inr rfl) (de_call hG G1 (hr.mono h1) D1.bd tk (by rfl) D1.gl D1.fn.kp (da_cons (de_var (i := 0) rfl (by first | exact Or.inl rfl | exact Or.inr (Or.inl rfl) | exact Or.inr (Or.inr rfl))) (da_cons de_str (da_cons (de_var (i := 1) rfl (by first | exact Or.inl rfl | exact Or.inr (Or.inl rfl) | exact Or.inr (Or.inr rfl))) (da_cons (de_var (i := 2) rfl (by first | exact Or.inl rfl | exact Or.inr (Or.inl rfl) | exact Or.inr (Or.inr rfl))) da_nil))))) (fun w_above =>
  (nss_setLcP (own := [("_law_shut", 9)]) (g := (gName 9)) (pat := pV) (st := (fun v ρ => ρ.set 9 (some v))) (t := (mB (m2 phIs (mLam n_law_let_k15 (mCall 5 G_lets_fence (aCons (mVar 0) (aCons (mC (.str "main")) (aCons (mVar 1) (aCons (mVar 2) (aCons (mVar 9) aNil))))))) (mC (.bool true))))) (e := (mVar 9)) (i := 6) (ρ' := fun w_let_here => [some w_code, some w_over, some w_under, some w_shuts, some w_ways_here, some w_above, some w_let_here, none, none, none]) rfl nd rfl rfl (sw_true rfl rfl rfl (by decide +kernel)) (di_seq (de_var (i := 3) rfl (by first | exact Or.inl rfl | exact Or.inr (Or.inl rfl) | exact Or.inr (Or.inr rfl)))) (blkOk_by (N := N_law_right_k15) (sc := defScope (topS 30)) (by decide +kernel)) (gokP_n (by decide)) (fun _ _ _ _ _ => (pg_name (i := 9) nd rfl (by first | exact Or.inl rfl | exact Or.inr rfl))) (fun _ _ _ _ _ => (dts_one (dt_cmp mo_is (de_lam (j := k - 2) hG D2 (LamD.mono G2 mm2) hrL takes0 (by rfl) TB ec hmT huT (LamX.lamS_by rfl) rfl (fun _ _ _ _ _ => rfl) (fun A2 o2 s2 H2 E2 f2 c2 hG hr => have hu := hr.units; have h3 : k3 ≤ k - 2 := Nat.le_sub_of_add_le mm3; (de_call hG G3 (hr.mono h3) D3.bd (takes_of rfl rfl rfl rfl) (by rfl) D3.gl D3.fn.kp (da_cons (de_var (i := 0) rfl (by first | exact Or.inl rfl | exact Or.inr (Or.inl rfl) | exact Or.inr (Or.inr rfl))) (da_cons de_str (da_cons (de_var (i := 1) rfl (by first | exact Or.inl rfl | exact Or.inr (Or.inl rfl) | exact Or.inr (Or.inr rfl))) (da_cons (de_var (i := 2) rfl (by first | exact Or.inl rfl | exact Or.inr (Or.inl rfl) | exact Or.inr (Or.inr rfl))) (da_cons (de_var (i := 9) rfl (by first | exact Or.inl rfl | exact Or.inr (Or.inl rfl) | exact Or.inr (Or.inr rfl))) da_nil)))))))) de_bl (nomark _)))) (fun _ _ _ _ _ => (de_var (i := 9) rfl (by first | exact Or.inl rfl | exact Or.inr (Or.inl rfl) | exact Or.inr (Or.inr rfl)))) (fun w_let_here =>
  (nss_setLcP (own := [("_law_way", 8)]) (g := (gName 8)) (pat := pV) (st := (fun v ρ => ρ.set 8 (some v))) (t := (mB (m2 phIs (mLam n_law_let_k15 (mCall 5 G_lets_around (aCons (mVar 0) (aCons (mC (.str "main")) (aCons (mVar 1) (aCons (mVar 2) (aCons (mVar 8) aNil))))))) (mC (.bool true))))) (e := (mVar 8)) (i := 7) (ρ' := fun w_went => [some w_code, some w_over, some w_under, some w_shuts, some w_ways_here, some w_above, some w_let_here, some w_went, none, none]) rfl nd rfl rfl (sw_true rfl rfl rfl (by decide +kernel)) (di_seq (de_var (i := 4) rfl (by first | exact Or.inl rfl | exact Or.inr (Or.inl rfl) | exact Or.inr (Or.inr rfl)))) (blkOk_by (N := N_law_right_k15) (sc := defScope (topS 30)) (by decide +kernel)) (gokP_n (by decide)) (fun _ _ _ _ _ => (pg_name (i := 8) nd rfl (by first | exact Or.inl rfl | exact Or.inr rfl))) (fun _ _ _ _ _ => (dts_one (dt_cmp mo_is (de_lam (j := k - 2) hG D2 (LamD.mono G2 mm2) hrL takes0 (by rfl) TB ec hmT huT (LamX.lamS_by rfl) rfl (fun _ _ _ _ _ => rfl) (fun A2 o2 s2 H2 E2 f2 c2 hG hr => have hu := hr.units; have h3 : k3 ≤ k - 2 := Nat.le_sub_of_add_le mm3; have h4 : k4 ≤ k - 2 := Nat.le_sub_of_add_le mm4; (de_call hG G4 (hr.mono h4) D4.bd (takes_of rfl rfl rfl rfl) (by rfl) D4.gl D4.fn.kp (da_cons (de_var (i := 0) rfl (by first | exact Or.inl rfl | exact Or.inr (Or.inl rfl) | exact Or.inr (Or.inr rfl))) (da_cons de_str (da_cons (de_var (i := 1) rfl (by first | exact Or.inl rfl | exact Or.inr (Or.inl rfl) | exact Or.inr (Or.inr rfl))) (da_cons (de_var (i := 2) rfl (by first | exact Or.inl rfl | exact Or.inr (Or.inl rfl) | exact Or.inr (Or.inr rfl))) (da_cons (de_var (i := 8) rfl (by first | exact Or.inl rfl | exact Or.inr (Or.inl rfl) | exact Or.inr (Or.inr rfl))) da_nil)))))))) de_bl (nomark _)))) (fun _ _ _ _ _ => (de_var (i := 8) rfl (by first | exact Or.inl rfl | exact Or.inr (Or.inl rfl) | exact Or.inr (Or.inr rfl)))) (fun w_went =>
  (nss_ifx (mk0 := mkE) (dt_w (dw_or (dt_cmp (mo_ne hu) (de_cmp (mo_ne hu) (de_var (i := 6) rfl (by first | exact Or.inl rfl | exact Or.inr (Or.inl rfl) | exact Or.inr (Or.inr rfl))) (de_lst da_nil) (nomark _)) (de_var (i := 5) rfl (by first | exact Or.inl rfl | exact Or.inr (Or.inl rfl) | exact Or.inr (Or.inr rfl))) (nomark _)) (dw_or1 (dt_cmp (mo_eq hu) (de_cmp (mo_ne hu) (de_var (i := 7) rfl (by first | exact Or.inl rfl | exact Or.inr (Or.inl rfl) | exact Or.inr (Or.inr rfl))) (de_lst da_nil) (nomark _)) (de_var (i := 5) rfl (by first | exact Or.inl rfl | exact Or.inr (Or.inl rfl) | exact Or.inr (Or.inr rfl))) (nomark _)))))
  (nss_ret de_bl ox0)
  (nss_par2 (i := 8) (j := 9) (ρ' := fun w_way w_shut => [some w_code, some w_over, some w_under, some w_shuts, some w_ways_here, some w_above, some w_let_here, some w_went, some w_way, some w_shut]) rfl nd rfl rfl (by decide) rfl rfl (da_cons (de_call hG G5 (hr.mono h5) D5.bd tk (by rfl) D5.gl D5.fn.kp (da_cons (de_var (i := 0) rfl (by first | exact Or.inl rfl | exact Or.inr (Or.inl rfl) | exact Or.inr (Or.inr rfl))) (da_cons de_str (da_cons (de_var (i := 1) rfl (by first | exact Or.inl rfl | exact Or.inr (Or.inl rfl) | exact Or.inr (Or.inr rfl))) (da_cons (de_var (i := 2) rfl (by first | exact Or.inl rfl | exact Or.inr (Or.inl rfl) | exact Or.inr (Or.inr rfl))) da_nil))))) (da_cons (de_call hG G6 (hr.mono h6) D6.bd tk (by rfl) D6.gl D6.fn.kp (da_cons (de_var (i := 0) rfl (by first | exact Or.inl rfl | exact Or.inr (Or.inl rfl) | exact Or.inr (Or.inr rfl))) (da_cons de_str (da_cons (de_var (i := 1) rfl (by first | exact Or.inl rfl | exact Or.inr (Or.inl rfl) | exact Or.inr (Or.inr rfl))) (da_cons (de_var (i := 2) rfl (by first | exact Or.inl rfl | exact Or.inr (Or.inl rfl) | exact Or.inr (Or.inr rfl))) da_nil))))) da_nil)) (fun w_way w_shut =>
  (nss_ifx (mk0 := mkE) (dt_w (dw_or (dt_cmp (mo_ne hu) (de_cmp mo_is (de_var (i := 8) rfl (by first | exact Or.inl rfl | exact Or.inr (Or.inl rfl) | exact Or.inr (Or.inr rfl))) de_non (nomark _)) (de_var (i := 5) rfl (by first | exact Or.inl rfl | exact Or.inr (Or.inl rfl) | exact Or.inr (Or.inr rfl))) (nomark _)) (dw_or1 (dt_cmp (mo_eq hu) (de_cmp mo_is (de_var (i := 9) rfl (by first | exact Or.inl rfl | exact Or.inr (Or.inl rfl) | exact Or.inr (Or.inr rfl))) de_non (nomark _)) (de_var (i := 5) rfl (by first | exact Or.inl rfl | exact Or.inr (Or.inl rfl) | exact Or.inr (Or.inr rfl))) (nomark _)))))
  (nss_ret de_bl ox0)
  (nss_ret (de_if (dt_tru (de_var (i := 5) rfl (by first | exact Or.inl rfl | exact Or.inr (Or.inl rfl) | exact Or.inr (Or.inr rfl)))) (de_cmp (mo_inD hu) (de_var (i := 9) rfl (by first | exact Or.inl rfl | exact Or.inr (Or.inl rfl) | exact Or.inr (Or.inr rfl))) (de_var (i := 6) rfl (by first | exact Or.inl rfl | exact Or.inr (Or.inl rfl) | exact Or.inr (Or.inr rfl))) (by with_unfolding_all rfl)) (de_cmp mo_is (de_call hG G4 (hr.mono h4) D4.bd tk (by rfl) D4.gl D4.fn.kp (da_cons (de_var (i := 0) rfl (by first | exact Or.inl rfl | exact Or.inr (Or.inl rfl) | exact Or.inr (Or.inr rfl))) (da_cons de_str (da_cons (de_var (i := 1) rfl (by first | exact Or.inl rfl | exact Or.inr (Or.inl rfl) | exact Or.inr (Or.inr rfl))) (da_cons (de_var (i := 2) rfl (by first | exact Or.inl rfl | exact Or.inr (Or.inl rfl) | exact Or.inr (Or.inr rfl))) (da_cons (de_var (i := 8) rfl (by first | exact Or.inl rfl | exact Or.inr (Or.inl rfl) | exact Or.inr (Or.inr rfl))) da_nil)))))) de_bl (nomark _))) ox0) ox0)) ox0) ox0)) ox0)) ox0)) ox0))
abbrev N_law_more_right : List Str := ["_law_code", "_law_over", "_law_under", "_law_many", "_law_k", "_law_way", "_law_shut", "_law_other"]
theorem sc_law_more_right : FnScope N_law_more_right ["_law_code", "_law_over", "_law_under", "_law_many"] (defScope (topS 31)) := ⟨rfl, rfl, rfl, by decide +kernel, rfl, by decide +kernel, by decide +kernel⟩
theorem ok_law_more_right {f f1 f2 f3 f4 : Addr} {fd fd1 fd2 fd3 fd4 : FuncData} {k k1 k2 k3 k4 : Nat} (D : Df K mg "_law_more_right" (topS 31) ["_law_code", "_law_over", "_law_under", "_law_many"] f fd)
    (D1 : Df K mg "around" (topS 14) ["code", "name", "over", "under"] f1 fd1) (G1 : FnD P w K mg base k1 f1 fd1 ["code", "name", "over", "under"] G_around) (h1 : k1 ≤ k)
    (D2 : Df K mg "fence" (topS 15) ["code", "name", "over", "under"] f2 fd2) (G2 : FnD P w K mg base k2 f2 fd2 ["code", "name", "over", "under"] G_fence) (h2 : k2 ≤ k)
    (D3 : Df K mg "lets_fence" (topS 20) ["code", "name", "over", "under", "thing"] f3 fd3) (G3 : FnD P w K mg base k3 f3 fd3 ["code", "name", "over", "under", "thing"] G_lets_fence) (h3 : k3 ≤ k)
    (D4 : Df K mg "lets_around" (topS 18) ["code", "name", "over", "under", "thing"] f4 fd4) (G4 : FnD P w K mg base k4 f4 fd4 ["code", "name", "over", "under", "thing"] G_lets_around) (h4 : k4 ≤ k) (B : Bn mg) :
    FnD P w K mg base (k + 1) f fd ["_law_code", "_law_over", "_law_under", "_law_many"] (frameG (r_law_more_right)) := by
  refine FnD.frame (fnN_of D.fn sc_law_more_right (fun cdv A outer s H E hg hr xs hx => ?_))
  have nd := sc_law_more_right.nd
  have hu := hr.units
  have hG : (A.deeper (envOfC "_law_more_right" (defScope (topS 31)) s.heap.objs.size f cdv)).guards = some [] := hg
  have tk : Takes (cxOf (L2.CX P w) P w K mg base N_law_more_right "_law_more_right" (defScope (topS 31)) f cdv A outer s H E) (fun c d _ H => E c d H) := takes_of rfl rfl rfl rfl
  match xs, hx with
  | [w_code, w_over, w_under, w_many], _ =>
  exact (nss_at (mkS := mkU 8) (mkL := mkE) (ρ := [some w_code, some w_over, some w_under, some w_many, none, none, none, none]) (n := n_law_more_right w_code w_over w_under w_many)
  (nss_par2 (i := 5) (j := 6) (ρ' := fun w_way w_shut => [some w_code, some w_over, some w_under, some w_many, none, some w_way, some w_shut, none]) rfl nd rfl rfl (by decide) rfl rfl (da_cons (de_call hG G1 (hr.mono h1) D1.bd tk (by rfl) D1.gl D1.fn.kp (da_cons (de_var (i := 0) rfl (by first | exact Or.inl rfl | exact Or.inr (Or.inl rfl) | exact Or.inr (Or.inr rfl))) (da_cons de_str (da_cons (de_var (i := 1) rfl (by first | exact Or.inl rfl | exact Or.inr (Or.inl rfl) | exact Or.inr (Or.inr rfl))) (da_cons (de_var (i := 2) rfl (by first | exact Or.inl rfl | exact Or.inr (Or.inl rfl) | exact Or.inr (Or.inr rfl))) da_nil))))) (da_cons (de_call hG G2 (hr.mono h2) D2.bd tk (by rfl) D2.gl D2.fn.kp (da_cons (de_var (i := 0) rfl (by first | exact Or.inl rfl | exact Or.inr (Or.inl rfl) | exact Or.inr (Or.inr rfl))) (da_cons de_str (da_cons (de_var (i := 1) rfl (by first | exact Or.inl rfl | exact Or.inr (Or.inl rfl) | exact Or.inr (Or.inr rfl))) (da_cons (de_var (i := 2) rfl (by first | exact Or.inl rfl | exact Or.inr (Or.inl rfl) | exact Or.inr (Or.inr rfl))) da_nil))))) da_nil)) (fun w_way w_shut =>
  (nss_cons (mk1 := (mk_law_more_right_1 w_code w_over w_way)) (ns_if (dt_cmp mo_isNot (de_var (i := 6) rfl (by first | exact Or.inl rfl | exact Or.inr (Or.inl rfl) | exact Or.inr (Or.inr rfl))) de_non (nomark _))
  (nss_cons (mk1 := (mk_law_more_right_2 w_code w_over w_way w_shut)) (ns_forP (mk1 := (mk_law_more_right_2 w_code w_over w_way w_shut)) (ρb := fun p a => [some w_code, some w_over, none, none, none, some w_way, some w_shut, some p]) (a0 := ()) PassesOwn.leaving rfl (di_range1 (by rfl) B.b_range (da_cons (de_var (i := 3) rfl (by first | exact Or.inl rfl | exact Or.inr (Or.inl rfl) | exact Or.inr (Or.inr rfl))) da_nil)) (dg_name (i := 7) nd rfl (by first | exact Or.inl rfl | exact Or.inr rfl)) tgp_n (fun p a =>
  (let w_other : Vl := p; (nss_at (mkS := (mk_law_more_right_2 w_code w_over w_way w_shut)) (mkL := (mk_law_more_right_2 w_code w_over w_way w_shut)) (ρ := [some w_code, some w_over, none, none, none, some w_way, some w_shut, some w_other]) (n := nb_law_more_right_1 w_code w_over w_way w_shut w_other)
  (nss_if1 (dt_w (dw_and (dt_cmp (mo_notIn hu) (de_var (i := 7) rfl (by first | exact Or.inl rfl | exact Or.inr (Or.inl rfl) | exact Or.inr (Or.inr rfl))) (de_var (i := 6) rfl (by first | exact Or.inl rfl | exact Or.inr (Or.inl rfl) | exact Or.inr (Or.inr rfl))) (by with_unfolding_all rfl)) (dw_and1 (dt_cmp mo_isNot (de_call hG G3 (hr.mono h3) D3.bd tk (by rfl) D3.gl D3.fn.kp (da_cons (de_var (i := 0) rfl (by first | exact Or.inl rfl | exact Or.inr (Or.inl rfl) | exact Or.inr (Or.inr rfl))) (da_cons de_str (da_cons (de_var (i := 1) rfl (by first | exact Or.inl rfl | exact Or.inr (Or.inl rfl) | exact Or.inr (Or.inr rfl))) (da_cons (de_var (i := 7) rfl (by first | exact Or.inl rfl | exact Or.inr (Or.inl rfl) | exact Or.inr (Or.inr rfl))) (da_cons (de_var (i := 6) rfl (by first | exact Or.inl rfl | exact Or.inr (Or.inl rfl) | exact Or.inr (Or.inr rfl))) da_nil)))))) de_bl (nomark _)))))
  (nss_ret de_bl ox0)
  (nss_nil (a := ()) (.som (.som (.non (.non (.non (.som (.som (.non .nil))))))))) ox0)))) (.som (.som (.non (.non (.non (.som (.som (.non .nil)))))))) ox0) (fun j27 =>
  (nss_at (mkS := (mk_law_more_right_1 w_code w_over w_way)) (mkL := mkE) (ρ := [some w_code, some w_over, none, none, none, some w_way, some w_shut, none]) (n := kt_law_more_right_1 w_code w_over w_way w_shut)
  (nss_nil (a := ()) (.som (.som (.non (.non (.non (.som (.non (.non .nil))))))))))))
  (nss_nil (a := ()) (.som (.som (.non (.non (.non (.som (.non (.non .nil))))))))) ox0) (fun j29 =>
  (nss_at (mkS := (mkU 8)) (mkL := mkE) (ρ := [some w_code, some w_over, none, none, none, some w_way, none, none]) (n := kt_law_more_right_2 w_code w_over w_way)
  (nss_cons (mk1 := (mk_law_more_right_3 w_code w_over w_way)) (ns_forP (mk1 := (mk_law_more_right_3 w_code w_over w_way)) (ρb := fun p a => [some w_code, some w_over, none, none, some p, some w_way, none, none]) (a0 := ()) PassesOwn.leaving rfl (di_range1 (by rfl) B.b_range (da_cons (de_if (dt_cmp mo_isNot (de_var (i := 5) rfl (by first | exact Or.inl rfl | exact Or.inr (Or.inl rfl) | exact Or.inr (Or.inr rfl))) de_non (nomark _)) (de_callB mc_len (by rfl) B.b_len PySem.boot_len (da_cons (de_var (i := 5) rfl (by first | exact Or.inl rfl | exact Or.inr (Or.inl rfl) | exact Or.inr (Or.inr rfl))) da_nil)) de_int) da_nil)) (dg_name (i := 4) nd rfl (by first | exact Or.inl rfl | exact Or.inr rfl)) tgp_n (fun p a =>
  (let w_k : Vl := p; (nss_at (mkS := (mk_law_more_right_3 w_code w_over w_way)) (mkL := (mk_law_more_right_3 w_code w_over w_way)) (ρ := [some w_code, some w_over, none, none, some w_k, some w_way, none, none]) (n := nb_law_more_right_2 w_code w_over w_way w_k)
  (nss_if1 (dt_cmp mo_isNot (de_call hG G4 (hr.mono h4) D4.bd tk (by rfl) D4.gl D4.fn.kp (da_cons (de_var (i := 0) rfl (by first | exact Or.inl rfl | exact Or.inr (Or.inl rfl) | exact Or.inr (Or.inr rfl))) (da_cons de_str (da_cons (de_var (i := 1) rfl (by first | exact Or.inl rfl | exact Or.inr (Or.inl rfl) | exact Or.inr (Or.inr rfl))) (da_cons (de_ix (mx_ix hu) (de_var (i := 5) rfl (by first | exact Or.inl rfl | exact Or.inr (Or.inl rfl) | exact Or.inr (Or.inr rfl))) (de_var (i := 4) rfl (by first | exact Or.inl rfl | exact Or.inr (Or.inl rfl) | exact Or.inr (Or.inr rfl))) (fun _ _ => rfl)) (da_cons (de_slice (de_var (i := 5) rfl (by first | exact Or.inl rfl | exact Or.inr (Or.inl rfl) | exact Or.inr (Or.inr rfl))) do_none (do_some (de_op mo_add (de_var (i := 4) rfl (by first | exact Or.inl rfl | exact Or.inr (Or.inl rfl) | exact Or.inr (Or.inr rfl))) de_int))) da_nil)))))) de_bl (nomark _))
  (nss_ret de_bl ox0)
  (nss_nil (a := ()) (.som (.som (.non (.non (.non (.som (.non (.non .nil))))))))) ox0)))) (.som (.som (.non (.non (.non (.som (.non (.non .nil)))))))) ox0) (fun j67 =>
  (nss_at (mkS := (mkU 8)) (mkL := mkE) (ρ := [some w_code, some w_over, none, none, none, some w_way, none, none]) (n := kt_law_more_right_3 w_code w_over w_way)
  (nss_ret de_bl ox0)))))))) ox0))
abbrev N_law_k15 : List Str := ["_law_script", "_law_feed_here", "_law_turn", "_law_code", "_law_many", "_law_over", "_law_shuts", "_law_ways_here", "_law_under"]
theorem sc_law_k15 : FnScope N_law_k15 ["_law_script"] (defScope (topS 32)) := ⟨rfl, rfl, rfl, by decide +kernel, rfl, by decide +kernel, by decide +kernel⟩
theorem ok_law_k15 {f f1 f2 f3 f4 f5 f6 : Addr} {fd fd1 fd2 fd3 fd4 fd5 fd6 : FuncData} {k k1 k2 k3 k4 k5 k6 : Nat} {dr : MF} (D : Df K mg "law" (topS 32) ["_law_script"] f fd)
    (D1 : Df K mg "_law_feed" (topS 24) ["_law_script"] f1 fd1) (G1 : FnD P w K mg base k1 f1 fd1 ["_law_script"] G_law_feed_k01) (h1 : k1 ≤ k)
    (D2 : Df K mg "_law_graph" (topS 26) ["_law_feed_here", "_law_most"] f2 fd2) (G2 : FnD P w K mg base k2 f2 fd2 ["_law_feed_here", "_law_most"] (G_law_graph dr)) (h2 : k2 ≤ k)
    (D3 : Df K mg "_law_fences" (topS 28) ["_law_many"] f3 fd3) (G3 : FnD P w K mg base k3 f3 fd3 ["_law_many"] G_law_fences) (h3 : k3 ≤ k)
    (D4 : Df K mg "_law_ways" (topS 29) ["_law_code"] f4 fd4) (G4 : FnD P w K mg base k4 f4 fd4 ["_law_code"] G_law_ways_k15) (h4 : k4 ≤ k)
    (D5 : Df K mg "_law_right" (topS 30) ["_law_code", "_law_over", "_law_under", "_law_shuts", "_law_ways_here"] f5 fd5) (G5 : FnD P w K mg base k5 f5 fd5 ["_law_code", "_law_over", "_law_under", "_law_shuts", "_law_ways_here"] G_law_right_k15) (h5 : k5 ≤ k)
    (D6 : Df K mg "_law_more_right" (topS 31) ["_law_code", "_law_over", "_law_under", "_law_many"] f6 fd6) (G6 : FnD P w K mg base k6 f6 fd6 ["_law_code", "_law_over", "_law_under", "_law_many"] G_law_more_right) (h6 : k6 ≤ k) (B : Bn mg) :
    FnD P w K mg base (k + 1) f fd ["_law_script"] (frameG (r_law_k15 dr)) := by
  refine FnD.frame (fnN_of D.fn sc_law_k15 (fun cdv A outer s H E hg hr xs hx => ?_))
  have nd := sc_law_k15.nd
  have hu := hr.units
  have hG : (A.deeper (envOfC "law" (defScope (topS 32)) s.heap.objs.size f cdv)).guards = some [] := hg
  have tk : Takes (cxOf (L2.CX P w) P w K mg base N_law_k15 "law" (defScope (topS 32)) f cdv A outer s H E) (fun c d _ H => E c d H) := takes_of rfl rfl rfl rfl
  match xs, hx with
  | [w_script], _ =>
  exact (nss_at (mkS := mkU 9) (mkL := mkE) (ρ := [some w_script, none, none, none, none, none, none, none, none]) (n := n_law_k15 dr w_script)
  (nss_set (i := 1) (ρ' := fun w_feed_here => [some w_script, some w_feed_here, none, none, none, none, none, none, none]) nd rfl (by first | exact Or.inl rfl | exact Or.inr rfl) (de_call hG G1 (hr.mono h1) D1.bd tk (by rfl) D1.gl D1.fn.kp (da_cons (de_var (i := 0) rfl (by first | exact Or.inl rfl | exact Or.inr (Or.inl rfl) | exact Or.inr (Or.inr rfl))) da_nil)) (fun w_feed_here =>
  (nss_cons (mk1 := (mk_law_k15_1 w_feed_here)) (ns_forP (mk1 := (mk_law_k15_1 w_feed_here)) (ρb := fun p a => [none, some w_feed_here, some p, none, none, none, none, none, none]) (a0 := ()) PassesOwn.leaving rfl (di_range1 (by rfl) B.b_range (da_cons de_int da_nil)) (dg_name (i := 2) nd rfl (by first | exact Or.inl rfl | exact Or.inr rfl)) tgp_n (fun p a =>
  (let w_turn : Vl := p; (nss_at (mkS := (mk_law_k15_1 w_feed_here)) (mkL := (mk_law_k15_1 w_feed_here)) (ρ := [none, some w_feed_here, some w_turn, none, none, none, none, none, none]) (n := nb_law_k15_1 dr w_feed_here w_turn)
  (nss_set (i := 3) (ρ' := fun w_code => [none, some w_feed_here, some w_turn, some w_code, none, none, none, none, none]) nd rfl (by first | exact Or.inl rfl | exact Or.inr rfl) (de_call hG G2 (hr.mono h2) D2.bd tk (by rfl) D2.gl D2.fn.kp (da_cons (de_var (i := 1) rfl (by first | exact Or.inl rfl | exact Or.inr (Or.inl rfl) | exact Or.inr (Or.inr rfl))) (da_cons de_int da_nil))) (fun w_code =>
  (nss_set (i := 4) (ρ' := fun w_many => [none, some w_feed_here, some w_turn, some w_code, some w_many, none, none, none, none]) nd rfl (by first | exact Or.inl rfl | exact Or.inr rfl) (de_callB mc_len (by rfl) B.b_len PySem.boot_len (da_cons (de_ix (mx_ix hu) (de_ix (mx_ix hu) (de_ix (mx_ix hu) (de_var (i := 3) rfl (by first | exact Or.inl rfl | exact Or.inr (Or.inl rfl) | exact Or.inr (Or.inr rfl))) de_int (fun _ _ => rfl)) de_int (fun _ _ => rfl)) de_int (fun _ _ => rfl)) da_nil)) (fun w_many =>
  (nss_par2 (i := 6) (j := 7) (ρ' := fun w_shuts w_ways_here => [none, some w_feed_here, some w_turn, some w_code, some w_many, none, some w_shuts, some w_ways_here, none]) rfl nd rfl rfl (by decide) rfl rfl (da_cons (de_call hG G3 (hr.mono h3) D3.bd tk (by rfl) D3.gl D3.fn.kp (da_cons (de_var (i := 4) rfl (by first | exact Or.inl rfl | exact Or.inr (Or.inl rfl) | exact Or.inr (Or.inr rfl))) da_nil)) (da_cons (de_call hG G4 (hr.mono h4) D4.bd tk (by rfl) D4.gl D4.fn.kp (da_cons (de_var (i := 3) rfl (by first | exact Or.inl rfl | exact Or.inr (Or.inl rfl) | exact Or.inr (Or.inr rfl))) da_nil)) da_nil)) (fun w_shuts w_ways_here =>
  (nss_cons (mk1 := (mk_law_k15_2 w_feed_here w_code w_many w_shuts w_ways_here)) (ns_forP (mk1 := (mk_law_k15_2 w_feed_here w_code w_many w_shuts w_ways_here)) (ρb := fun p a => [none, some w_feed_here, none, some w_code, some w_many, some p, some w_shuts, some w_ways_here, none]) (a0 := ()) PassesOwn.leaving rfl (di_range1 (by rfl) B.b_range (da_cons (de_var (i := 4) rfl (by first | exact Or.inl rfl | exact Or.inr (Or.inl rfl) | exact Or.inr (Or.inr rfl))) da_nil)) (dg_name (i := 5) nd rfl (by first | exact Or.inl rfl | exact Or.inr rfl)) tgp_n (fun p a =>
  (let w_over : Vl := p; (nss_at (mkS := (mk_law_k15_2 w_feed_here w_code w_many w_shuts w_ways_here)) (mkL := (mk_law_k15_2 w_feed_here w_code w_many w_shuts w_ways_here)) (ρ := [none, some w_feed_here, none, some w_code, some w_many, some w_over, some w_shuts, some w_ways_here, none]) (n := nb_law_k15_2 dr w_feed_here w_code w_many w_shuts w_ways_here w_over)
  (nss_cons (mk1 := (mk_law_k15_3 w_feed_here w_code w_many w_over w_shuts w_ways_here)) (ns_forP (mk1 := (mk_law_k15_3 w_feed_here w_code w_many w_over w_shuts w_ways_here)) (ρb := fun p a => [none, some w_feed_here, none, some w_code, some w_many, some w_over, some w_shuts, some w_ways_here, some p]) (a0 := ()) PassesOwn.leaving rfl (di_range1 (by rfl) B.b_range (da_cons (de_var (i := 4) rfl (by first | exact Or.inl rfl | exact Or.inr (Or.inl rfl) | exact Or.inr (Or.inr rfl))) da_nil)) (dg_name (i := 8) nd rfl (by first | exact Or.inl rfl | exact Or.inr rfl)) tgp_n (fun p a =>
  (let w_under : Vl := p; (nss_at (mkS := (mk_law_k15_3 w_feed_here w_code w_many w_over w_shuts w_ways_here)) (mkL := (mk_law_k15_3 w_feed_here w_code w_many w_over w_shuts w_ways_here)) (ρ := [none, some w_feed_here, none, some w_code, some w_many, some w_over, some w_shuts, some w_ways_here, some w_under]) (n := nb_law_k15_3 dr w_feed_here w_code w_many w_over w_shuts w_ways_here w_under)
  (nss_if1 (dt_w (dw_or (dt_not (dt_tru (de_call hG G5 (hr.mono h5) D5.bd tk (by rfl) D5.gl D5.fn.kp (da_cons (de_var (i := 3) rfl (by first | exact Or.inl rfl | exact Or.inr (Or.inl rfl) | exact Or.inr (Or.inr rfl))) (da_cons (de_var (i := 5) rfl (by first | exact Or.inl rfl | exact Or.inr (Or.inl rfl) | exact Or.inr (Or.inr rfl))) (da_cons (de_var (i := 8) rfl (by first | exact Or.inl rfl | exact Or.inr (Or.inl rfl) | exact Or.inr (Or.inr rfl))) (da_cons (de_var (i := 6) rfl (by first | exact Or.inl rfl | exact Or.inr (Or.inl rfl) | exact Or.inr (Or.inr rfl))) (da_cons (de_var (i := 7) rfl (by first | exact Or.inl rfl | exact Or.inr (Or.inl rfl) | exact Or.inr (Or.inr rfl))) da_nil)))))))) (dw_or1 (dt_not (dt_tru (de_call hG G6 (hr.mono h6) D6.bd tk (by rfl) D6.gl D6.fn.kp (da_cons (de_var (i := 3) rfl (by first | exact Or.inl rfl | exact Or.inr (Or.inl rfl) | exact Or.inr (Or.inr rfl))) (da_cons (de_var (i := 5) rfl (by first | exact Or.inl rfl | exact Or.inr (Or.inl rfl) | exact Or.inr (Or.inr rfl))) (da_cons (de_var (i := 8) rfl (by first | exact Or.inl rfl | exact Or.inr (Or.inl rfl) | exact Or.inr (Or.inr rfl))) (da_cons (de_var (i := 4) rfl (by first | exact Or.inl rfl | exact Or.inr (Or.inl rfl) | exact Or.inr (Or.inr rfl))) da_nil))))))))))
  (nss_ret de_bl ox0)
  (nss_nil (a := ()) (.non (.som (.non (.som (.som (.som (.som (.som (.non .nil)))))))))) ox0)))) (.non (.som (.non (.som (.som (.som (.som (.som (.non .nil))))))))) ox0) (fun j36 =>
  (nss_at (mkS := (mk_law_k15_2 w_feed_here w_code w_many w_shuts w_ways_here)) (mkL := (mk_law_k15_2 w_feed_here w_code w_many w_shuts w_ways_here)) (ρ := [none, some w_feed_here, none, some w_code, some w_many, some w_over, some w_shuts, some w_ways_here, none]) (n := kt_law_k15_1 dr w_feed_here w_code w_many w_over w_shuts w_ways_here)
  (nss_nil (a := ()) (.non (.som (.non (.som (.som (.non (.som (.som (.non .nil)))))))))))))))) (.non (.som (.non (.som (.som (.non (.som (.som (.non .nil))))))))) ox0) (fun j40 =>
  (nss_at (mkS := (mk_law_k15_1 w_feed_here)) (mkL := (mk_law_k15_1 w_feed_here)) (ρ := [none, some w_feed_here, none, some w_code, some w_many, none, some w_shuts, some w_ways_here, none]) (n := kt_law_k15_2 dr w_feed_here w_code w_many w_shuts w_ways_here)
  (nss_nil (a := ()) (.non (.som (.non (.non (.non (.non (.non (.non (.non .nil)))))))))))))) ox0)) ox0)) ox0)))) (.non (.som (.non (.non (.non (.non (.non (.non (.non .nil))))))))) ox0) (fun j44 =>
  (nss_at (mkS := (mkU 9)) (mkL := mkE) (ρ := [none, some w_feed_here, none, none, none, none, none, none, none]) (n := kt_law_k15_3 dr w_feed_here)
  (nss_ret de_bl ox0))))) ox0))
end
end Pm
set_option maxRecDepth 100000
set_option maxHeartbeats 4000000
namespace Pm
open PySem PySem.Spec PyProof.Rows L2 Sw
theorem FnD.bad {P : Program} {w : World} {K : PySem.W.Frag} {mg : Str → Option Value} {base : Heap} {f : Addr} {fd : FuncData} {ps : List Str} {k : Nat} : FnD P w K mg base k f fd ps (fun _ _ => .bad) := ⟨fun A outer s H args us vs Q E hg hr e0 bd r ⟨β, s0, xs, hs, rx, hl, hp⟩ => hp.elim⟩
theorem T_take {K : PySem.W.Frag} {mg : Str → Option Value} {x : Str} {C : Addr} {c : Value} (g : mg x = some (.ref C)) (e : PySem.W.exmOne K (.ref C) c = some true) : ∀ nm D b, mg nm = some (.ref D) → (if nm = x then some true else none) = some b → PySem.W.exmOne K (.ref D) c = some b := fun nm D b h1 h2 => by
  split at h2
  · rename_i h
    subst h
    rw [g] at h1
    cases h1
    cases h2
    exact e
  · cases h2
end Pm
set_option maxRecDepth 100000
set_option maxHeartbeats 4000000
namespace Pm
open PySem PySem.Spec PyProof.Rows L2 Sw
/-- as law_goesD, where defs of the text own tables that the law fills: cs has the code objects and their tables -/
theorem law_goesT {P : Program} {w : World} {K : PySem.W.Frag} {mg mb : Str → Option Value} {k : Nat} {fa a : Addr} {fd : FuncData} {x : Str} {g : MF} {s : Shared} {vs : List Value} {ns : List Int} {cs : List (Addr × Addr)}
    (kin : K.In s.heap) (g0 : s.heap.Ns mainGlobals mg) (b : s.heap.Ns builtinsNs mb) (hbb : ∀ y : Str, y ≠ "__name__" → mb y = bootBuiltins y) (nl : s.heap.NoLimit) (gn : s.gens = #[])
    (hcs : tabT.map (·.1) = cs.map (·.2)) (empty : ∀ p ∈ cs, s.heap.get? p.2 = some (PySem.W.tabObj #[])) (outK : ∀ p ∈ cs, K.lookup p.2 = none) (heads : ∀ p ∈ cs, PySem.W.codeHdIn K p.1 p.2 = true)
    (mainM : ∃ (bm : Addr) (ob : Obj), mg "__builtins__" = some (.ref bm) ∧ bm ≠ builtinsNs ∧ s.heap.get? bm = some ob ∧ ob.cls = .type "module" ∧ ob.dict = some builtinsNs ∧ ob.data = .plain)
    (ha : s.heap.get? a = some { cls := .type "list", data := .seq vs.toArray }) (hi : IntsAre vs ns) (hl : ns.length ≤ sizeLine) (hr : Room k callerA)
    (F : ∀ base : Heap, K.In base → base.Ns mainGlobals mg → (∀ p ∈ cs, LamX.TabB base mg p.1 p.2) → FnD P w K mg base k fa fd [x] g) (bd : ∀ (s : Shared) (u : Value), BindsTo s fd ⟨[u], []⟩ [(x, u)])
    (hsp : ∃ s1, g [.scr ns] [] = .ok (.dat (.bool true)) s1) :
    codeAny (model P w) callerA (.call (.ref fa) ⟨[.ref a], []⟩) (fun r s' => r = .ok (.ret (.bool true)) ∧ OldK s.heap s'.heap ∧ s'.os = s.os ∧ AllBare s'.gens) s := by
  have rv := vals_ints hi
  have tabAt : ∀ c, c ∈ cs.map (·.2) → s.heap.get? c = some (PySem.W.tabObj #[]) := fun c hc => by
    obtain ⟨p, hp, e⟩ := List.mem_map.mp hc
    subst e
    exact empty p hp
  have aOut : a ∉ cs.map (·.2) := fun z => by
    have e := tabAt a z
    rw [ha] at e
    cases e
  have step : ∀ H : Hp, Scr K H a (ns.map V.int) → HOk P w H s.heap → (∀ c ∈ cs.map (·.2), H c = some (.tbl #[])) →
      (∀ c u, H c = some u → (c = a ∧ u = .frz { cls := .type "list", data := .seq vs.toArray } (.lst (ns.map V.int)) ∧ K.lookup a = none) ∨ (c ∈ cs.map (·.2) ∧ u = .tbl #[])) →
      codeAny (model P w) callerA (.call (.ref fa) ⟨[.ref a], []⟩) (fun r s' => r = .ok (.ret (.bool true)) ∧ OldK s.heap s'.heap ∧ s'.os = s.os ∧ AllBare s'.gens) s := by
    intro H hS hok hTab only
    have hid : ∀ {c : Addr} {o : Obj}, s.heap.get? c = some o → o ≠ { cls := .type "list", data := .seq vs.toArray } → o ≠ PySem.W.tabObj #[] → H c = none := by
      intro c o e n1 n2
      cases q : H c with
      | none => rfl
      | some u =>
        rcases only c u q with ⟨rfl, _, _⟩ | ⟨z, _⟩
        · rw [ha] at e; cases e; exact absurd rfl n1
        · rw [tabAt c z] at e; cases e; exact absurd rfl n2
    have ns2 : ∀ {c : Addr} {m : Str → Option Value}, s.heap.Ns c m → (hidT s.heap H).Ns c m := by
      rintro c m ⟨o, es, ep, e, d, r⟩
      exact ⟨o, es, ep, hidT_get e (hid e (fun z => by rw [z] at d; cases d) fun z => by rw [z] at d; cases d), d, r⟩
    have kb : K.In (hidT s.heap H) := by
      intro c o e
      refine hidT_get (kin c o e) ?_
      cases q : H c with
      | none => rfl
      | some u =>
        rcases only c u q with ⟨rfl, _, z⟩ | ⟨z, _⟩
        · rw [z] at e; cases e
        · obtain ⟨p, hp, ep⟩ := List.mem_map.mp z
          subst ep
          rw [outK p hp] at e
          cases e
    have md : Mod K mg (hidT s.heap H) := ⟨kb, ns2 g0, ⟨mb, ns2 b, hbb⟩, by
      obtain ⟨mc, h1, h2⟩ := nl
      exact ⟨mc, ns2 h1, h2⟩⟩
    have mainNe : ∀ p ∈ cs, mainGlobals ≠ p.2 := fun p hp z => by
      obtain ⟨o, es, ep, e, d, _⟩ := g0
      rw [z, empty p hp] at e
      cases e
      cases d
    have tabs : ∀ p ∈ cs, LamX.TabB (hidT s.heap H) mg p.1 p.2 := fun p hp => by
      refine NdefX.tabB_of_K kb (heads p hp) ?_ (mainNe p hp)
      obtain ⟨bm, ob, b1, b2, b3, b4, b5, b6⟩ := mainM
      refine ⟨bm, ob, b1, b2, fun z => ?_, fun z => ?_, hidT_get b3 (hid b3 (fun z => by rw [z] at b6; cases b6) fun z => by rw [z] at b6; cases b6), b4, b5, b6⟩
      · obtain ⟨o, es, ep, e, d, _⟩ := g0
        rw [z, e] at b3
        cases b3
        rw [d] at b6
        cases b6
      · rw [z, empty p hp] at b3
        cases b3
        cases b6
    have e0 : Env0 P w K mg (hidT s.heap H) callerA [] s H := ⟨rfl, md, fun c o e => of_hidT e, Nat.le_of_eq (hidT_size _ _), trivial, fun c hc => (nomatch hc), hok, .of_eq gn⟩
    refine codeAny_mono ((F _ kb (ns2 g0) tabs).goes callerA [] s H ⟨[.ref a], []⟩ [.ref a] [.ref a] (fun v _ => v = .bl true) (fun _ _ _ => False) rfl hr e0 (bd s (.ref a)) (.cons rfl .nil) ?sp) ?_
    case sp =>
      obtain ⟨s1, e1⟩ := hsp
      refine ⟨⟨[], []⟩, [], [.scr ns], ⟨rfl, List.nodup_nil, fun n o a h => by simp at h, (fun a h => by cases h), fun p hp => ?_⟩, .cons ⟨a, rfl, hS⟩ .nil, rfl, ?_⟩
      · have hm : p.1 ∈ cs.map (·.2) := by rw [← hcs]; exact List.mem_map_of_mem hp
        exact ⟨(nomatch ·), (nomatch ·), #[], hTab _ hm, trivial, fun pos cv z => by simp [codeAmong] at z⟩
      rw [e1]
      intro β' H' u st hs rv
      cases rv
      rfl
    intro r s' h
    cases r with
    | error e =>
      obtain ⟨_, _, _, _, _, _, _, _, _, _, _, _, z⟩ := h
      exact z.elim
    | ok fl =>
      cases fl with
      | ret u =>
        obtain ⟨v, H', os, bare, un, hok', r', q⟩ := h
        cases (show v = .bl true from q)
        cases (show u = Value.bool true from r')
        have grown : ∀ p ∈ cs, ∃ more : Array Value, s'.heap.get? p.2 = some (PySem.W.tabObj more) := fun p hp => by
          obtain ⟨more, z⟩ := un.tbls p.2 #[] (hTab p.2 (List.mem_map_of_mem hp))
          exact ⟨_, hok' p.2 _ z⟩
        have stays : ∀ c o, c ∉ cs.map (·.2) → s.heap.get? c = some o → s'.heap.get? c = some o := fun c o nc e => by
          cases q : H c with
          | none => exact un.keep c o e q (fun z => nomatch z) (fun z => nomatch z)
          | some u =>
            rcases only c u q with ⟨rfl, rfl, _⟩ | ⟨z, _⟩
            · obtain ⟨e2, _⟩ := hok' _ _ (un.frzs _ _ _ q)
              rw [ha] at e
              cases e
              exact e2
            · exact absurd z nc
        refine ⟨rfl, ⟨fun c o e => ?_, fun c o e => ?_⟩, os, bare⟩
        · by_cases hc : c ∈ cs.map (·.2)
          · obtain ⟨p, hp, ep⟩ := List.mem_map.mp hc
            subst ep
            obtain ⟨more, hm⟩ := grown p hp
            rw [empty p hp] at e
            cases e
            exact .inr (.inl ⟨((PySem.W.codeHd_of_K kin (heads p hp)).tab (empty p hp)).isCodeTable, rfl, #[], more, rfl, by rw [Array.empty_append]; exact hm⟩)
          · exact .inl (stays c o hc e)
        · by_cases hc : c ∈ cs.map (·.2)
          · obtain ⟨p, hp, ep⟩ := List.mem_map.mp hc
            subst ep
            obtain ⟨more, hm⟩ := grown p hp
            exact ⟨_, hm⟩
          · exact ⟨o, stays c o hc e⟩
      | next => exact False.elim h
      | brk => exact False.elim h
      | cont => exact False.elim h
  have tbOk : ∀ c, c ∈ cs.map (·.2) → ∀ H : Hp, ObjOk P w H s.heap c (.tbl #[]) := fun c hc H => tabAt c hc
  cases hk : K.lookup a with
  | some o =>
    have e := kin a o hk
    rw [ha] at e
    cases e
    refine step (fun c => if c ∈ cs.map (·.2) then some (.tbl #[]) else none) (.inr (.inr ⟨_, vs.toArray, _, hk, rfl, rfl, rfl, by rw [List.size_toArray, hi.length]; exact hl, by simpa using rv⟩)) (fun c u z => ?_) (fun c hc => if_pos hc) fun c u z => ?_
    · by_cases hc : c ∈ cs.map (·.2)
      · cases (if_pos hc).symm.trans z
        exact tabAt c hc
      · cases (if_neg hc).symm.trans z
    · by_cases hc : c ∈ cs.map (·.2)
      · cases (if_pos hc).symm.trans z
        exact .inr ⟨hc, rfl⟩
      · cases (if_neg hc).symm.trans z
  | none =>
    refine step (fun c => if c = a then some (.frz { cls := .type "list", data := .seq vs.toArray } (.lst (ns.map V.int))) else if c ∈ cs.map (·.2) then some (.tbl #[]) else none) (.inl ⟨_, if_pos rfl⟩) (fun c u z => ?_) (fun c hc => ?_) fun c u z => ?_
    · by_cases hc : c = a
      · cases (if_pos hc).symm.trans z
        subst hc
        exact ⟨ha, by rw [List.length_map]; exact hl, vs, _, rv, ha⟩
      · have z := (if_neg hc).symm.trans z
        by_cases hc : c ∈ cs.map (·.2)
        · cases (if_pos hc).symm.trans z
          exact tabAt c hc
        · cases (if_neg hc).symm.trans z
    · exact (if_neg fun z => aOut (by rw [← z]; exact hc)).trans (if_pos hc)
    · by_cases hc : c = a
      · exact .inl ⟨hc, (Option.some.inj ((if_pos hc).symm.trans z)).symm, hk⟩
      · have z := (if_neg hc).symm.trans z
        by_cases hc : c ∈ cs.map (·.2)
        · exact .inr ⟨hc, (Option.some.inj ((if_pos hc).symm.trans z)).symm⟩
        · cases (if_neg hc).symm.trans z
/-- the goal that k_head leaves, where there are tables -/
theorem walkT {l : PySem.W.OpenLaw} {n k : Nat} {q : Program} {loose : List Str} {XP : (Str → Option Value) → Heap → Prop} {YP : World → Heap → Prop} {d : DefRec} {K : Params → PySem.W.Frag} {g : MF} {x : Str} (cs : List (Addr × Addr))
    (hn : l.most = some n) (hn2 : n ≤ sizeLine) (hdf : d.params.defaults = []) (hr : Room k callerA) (hY : ∀ (w : World) (h : Heap), YP w h → (K w.params).In h) (hcs : tabT.map (·.1) = cs.map (·.2)) (hT : ∀ (w : World) (h : Heap), YP w h → ∀ p ∈ cs, h.get? p.2 = some (PySem.W.tabObj #[]))
    (outK : ∀ (w : World), ∀ p ∈ cs, (K w.params).lookup p.2 = none) (heads : ∀ (w : World), ∀ p ∈ cs, PySem.W.codeHdIn (K w.params) p.1 p.2 = true)
    (F : ∀ (w : World) (mg : Str → Option Value) (fa : Addr) (h : Heap), (K w.params).In h → h.Ns mainGlobals mg → mg d.name = some (.ref fa) →
      ∃ fd : FuncData, (∀ (s : Shared) (u : Value), BindsTo s fd ⟨[u], []⟩ [(x, u)]) ∧ ∀ base : Heap, (K w.params).In base → base.Ns mainGlobals mg → (∀ p ∈ cs, LamX.TabB base mg p.1 p.2) → FnD l.prog w (K w.params) mg base k fa fd [x] g)
    (hsp : ∀ ns : List Int, ns.length ≤ n → (∀ z ∈ ns, Builtin.Int.intBits z ≤ 1048576) → ∃ s1, g [.scr ns] [] = .ok (.dat (.bool true)) s1) :
    PySem.W.WalkO q loose XP YP l.row.toRowW d [] (fun f vs => PySem.call f vs) := by
  refine Att.attach_callB hn hdf ?_
  intro w s₀ s₁ mg mb fa o pm cd doc a vs ns G Y ho hd hcd hmg hobj hints hlen hbits hg
  obtain ⟨fd, hb, hF⟩ := F w mg fa _ (hY w _ Y) G.T.g hmg
  exact law_goesT (hY w _ Y) G.T.g G.T.b G.T.builtins G.T.nolimit hg hcs (hT w _ Y) (outK w) (heads w) G.T.bmain hobj hints (Nat.le_trans hlen hn2) hr hF hb (hsp ns hlen hbits)
end Pm
set_option maxRecDepth 100000
set_option maxHeartbeats 4000000
namespace Pm
open PySem PySem.Spec PyProof.Rows L2 Sw
theorem scI_NoPaper : FnScope ["self", "word", "at"] ["self", "word", "at"] (defScope (mthS 3 0)) := ⟨rfl, rfl, rfl, by decide +kernel, rfl, by decide +kernel, by decide +kernel⟩
theorem okI_NoPaper {P : Program} {w : World} {K : PySem.W.Frag} {mg : Str → Option Value} {base : Heap} {C fI : Addr} {fd : FuncData} (T : Mk2 K mg "NoPaper" "word" "at" C fI) (F : Fun K "__init__" "NoPaper.__init__" (mthS 3 0) fI fd) : FnOk P w K mg base CX0 1 fI fd ["self", "word", "at"] (spIn2 C "word" "at") := by
  refine F.ok scI_NoPaper (fun vs H Q E h => ?_) (fun cdv A outer s H vs Q E hr h => ?_)
  · obtain ⟨a, x, y, rfl, _⟩ := h
    rfl
  obtain ⟨a, x, y, rfl, ha, q⟩ := h
  refine ⟨_, pss_cons (ps_ost (L2.pv 0) (L2.pv 1)) (pss_one (ps_ost (L2.pv 0) (L2.pv 2))), ?_⟩
  refine ⟨_, rfl, _, rfl, a, C, rfl, T.oex, T.no1, .inl ⟨ha, fun dx hdx ne => ?_⟩⟩
  refine ⟨_, rfl, _, rfl, a, C, rfl, T.oex, T.no2, .inr ⟨dx, _, upd_same, ?_, (by show 1 ≤ 900; decide), q dx hdx ne⟩⟩
  rw [upd_ne ne]
  exact upd_same
theorem all_mk {l : PySem.W.OpenLaw} {w : World} {K : PySem.W.Frag} {h : Heap} {mg : Str → Option Value} {fa f6 f8 f10 f11 f12 f14 f15 f17 f18 f19 f20 f22 f24 f25 f26 f27 f28 f29 f30 f31 f32 : Addr} (X : K.In h) (G : h.Ns mainGlobals mg) (hfa : mg "law" = some (.ref fa))
    {od6 od8 od10 od11 od12 od14 od15 od17 od18 od19 od20 od22 od24 od25 od26 od27 od28 od29 od30 od31 od32 an6 an8 an10 an11 an12 an14 an15 an17 an18 an19 an20 an22 an24 an25 an26 an27 an28 an29 an30 an31 an32 : Option Addr} {sl6 sl8 sl10 sl11 sl12 sl14 sl15 sl17 sl18 sl19 sl20 sl22 sl24 sl25 sl26 sl27 sl28 sl29 sl30 sl31 sl32 : Array (Option Value)} {oc6 oc8 oc10 oc11 oc12 oc14 oc15 oc17 oc18 oc19 oc20 oc22 oc24 oc25 oc26 oc27 oc28 oc29 oc30 oc31 oc32 kV6 kV8 kV10 kV11 kV12 kV14 kV15 kV17 kV18 kV19 kV20 kV22 kV24 kV25 kV26 kV27 kV28 kV29 kV30 kV31 kV32 dc6 dc8 dc10 dc11 dc12 dc14 dc15 dc17 dc18 dc19 dc20 dc22 dc24 dc25 dc26 dc27 dc28 dc29 dc30 dc31 dc32 pm6 pm8 pm10 pm11 pm12 pm14 pm15 pm17 pm18 pm19 pm20 pm22 pm24 pm25 pm26 pm27 pm28 pm29 pm30 pm31 pm32 cd6 cd8 cd10 cd11 cd12 cd14 cd15 cd17 cd18 cd19 cd20 cd22 cd24 cd25 cd26 cd27 cd28 cd29 cd30 cd31 cd32 ct6 ct8 ct10 ct11 ct12 ct14 ct15 ct17 ct18 ct19 ct20 ct22 ct24 ct25 ct26 ct27 ct28 ct29 ct30 ct31 ct32 : Value}
    {c8_30 : Addr} {C_NoPaper fI_NoPaper N_NoPaper : Addr} {nm_NoPaper q_NoPaper : Str} {bs_NoPaper : List Value} {sn_NoPaper : List Str} {sub_NoPaper : List Value} {ab_NoPaper : Bool} {col_NoPaper : Option Bool} {dd_NoPaper odI_NoPaper anI_NoPaper : Option Addr} {m0_NoPaper m1_NoPaper m2_NoPaper m3_NoPaper m5_NoPaper : Option Value} {slI_NoPaper : Array (Option Value)} {ocI_NoPaper kVI_NoPaper dcI_NoPaper pmI_NoPaper cdI_NoPaper ctI_NoPaper : Value} {C_WayError : Addr}
    (a6 : PySem.W.nsIn K mainGlobals "is_number" = some (some (.ref f6))) (l6 : K.lookup f6 = some ⟨oc6, od6, .func (PySem.W.fnOf "is_number" "is_number" (defArgs (topS 6)) (defBody (topS 6)) (defScope (topS 6)) .none kV6 dc6 pm6 an6 cd6 ct6), sl6⟩) (c6 : PySem.W.codeIn K cd6 "is_number" = true) (k6 : PySem.W.keepIn K (.ref f6) = true)
    (a8 : PySem.W.nsIn K mainGlobals "blocks_of" = some (some (.ref f8))) (l8 : K.lookup f8 = some ⟨oc8, od8, .func (PySem.W.fnOf "blocks_of" "blocks_of" (defArgs (topS 8)) (defBody (topS 8)) (defScope (topS 8)) .none kV8 dc8 pm8 an8 cd8 ct8), sl8⟩) (c8 : PySem.W.codeIn K cd8 "blocks_of" = true) (k8 : PySem.W.keepIn K (.ref f8) = true)
    (a10 : PySem.W.nsIn K mainGlobals "goals" = some (some (.ref f10))) (l10 : K.lookup f10 = some ⟨oc10, od10, .func (PySem.W.fnOf "goals" "goals" (defArgs (topS 10)) (defBody (topS 10)) (defScope (topS 10)) .none kV10 dc10 pm10 an10 cd10 ct10), sl10⟩) (c10 : PySem.W.codeIn K cd10 "goals" = true) (k10 : PySem.W.keepIn K (.ref f10) = true)
    (a11 : PySem.W.nsIn K mainGlobals "nexts" = some (some (.ref f11))) (l11 : K.lookup f11 = some ⟨oc11, od11, .func (PySem.W.fnOf "nexts" "nexts" (defArgs (topS 11)) (defBody (topS 11)) (defScope (topS 11)) .none kV11 dc11 pm11 an11 cd11 ct11), sl11⟩) (c11 : PySem.W.codeIn K cd11 "nexts" = true) (k11 : PySem.W.keepIn K (.ref f11) = true)
    (a12 : PySem.W.nsIn K mainGlobals "led_around" = some (some (.ref f12))) (l12 : K.lookup f12 = some ⟨oc12, od12, .func (PySem.W.fnOf "led_around" "led_around" (defArgs (topS 12)) (defBody (topS 12)) (defScope (topS 12)) .none kV12 dc12 pm12 an12 cd12 ct12), sl12⟩) (c12 : PySem.W.codeIn K cd12 "led_around" = true) (k12 : PySem.W.keepIn K (.ref f12) = true)
    (a14 : PySem.W.nsIn K mainGlobals "around" = some (some (.ref f14))) (l14 : K.lookup f14 = some ⟨oc14, od14, .func (PySem.W.fnOf "around" "around" (defArgs (topS 14)) (defBody (topS 14)) (defScope (topS 14)) .none kV14 dc14 pm14 an14 cd14 ct14), sl14⟩) (c14 : PySem.W.codeIn K cd14 "around" = true) (k14 : PySem.W.keepIn K (.ref f14) = true)
    (a15 : PySem.W.nsIn K mainGlobals "fence" = some (some (.ref f15))) (l15 : K.lookup f15 = some ⟨oc15, od15, .func (PySem.W.fnOf "fence" "fence" (defArgs (topS 15)) (defBody (topS 15)) (defScope (topS 15)) .none kV15 dc15 pm15 an15 cd15 ct15), sl15⟩) (c15 : PySem.W.codeIn K cd15 "fence" = true) (k15 : PySem.W.keepIn K (.ref f15) = true)
    (a17 : PySem.W.nsIn K mainGlobals "is_numbers" = some (some (.ref f17))) (l17 : K.lookup f17 = some ⟨oc17, od17, .func (PySem.W.fnOf "is_numbers" "is_numbers" (defArgs (topS 17)) (defBody (topS 17)) (defScope (topS 17)) .none kV17 dc17 pm17 an17 cd17 ct17), sl17⟩) (c17 : PySem.W.codeIn K cd17 "is_numbers" = true) (k17 : PySem.W.keepIn K (.ref f17) = true)
    (a18 : PySem.W.nsIn K mainGlobals "lets_around" = some (some (.ref f18))) (l18 : K.lookup f18 = some ⟨oc18, od18, .func (PySem.W.fnOf "lets_around" "lets_around" (defArgs (topS 18)) (defBody (topS 18)) (defScope (topS 18)) .none kV18 dc18 pm18 an18 cd18 ct18), sl18⟩) (c18 : PySem.W.codeIn K cd18 "lets_around" = true) (k18 : PySem.W.keepIn K (.ref f18) = true)
    (a19 : PySem.W.nsIn K mainGlobals "is_rising_blocks" = some (some (.ref f19))) (l19 : K.lookup f19 = some ⟨oc19, od19, .func (PySem.W.fnOf "is_rising_blocks" "is_rising_blocks" (defArgs (topS 19)) (defBody (topS 19)) (defScope (topS 19)) .none kV19 dc19 pm19 an19 cd19 ct19), sl19⟩) (c19 : PySem.W.codeIn K cd19 "is_rising_blocks" = true) (k19 : PySem.W.keepIn K (.ref f19) = true)
    (a20 : PySem.W.nsIn K mainGlobals "lets_fence" = some (some (.ref f20))) (l20 : K.lookup f20 = some ⟨oc20, od20, .func (PySem.W.fnOf "lets_fence" "lets_fence" (defArgs (topS 20)) (defBody (topS 20)) (defScope (topS 20)) .none kV20 dc20 pm20 an20 cd20 ct20), sl20⟩) (c20 : PySem.W.codeIn K cd20 "lets_fence" = true) (k20 : PySem.W.keepIn K (.ref f20) = true)
    (a22 : PySem.W.nsIn K mainGlobals "dominates" = some (some (.ref f22))) (l22 : K.lookup f22 = some ⟨oc22, od22, .func (PySem.W.fnOf "dominates" "dominates" (defArgs (topS 22)) (defBody (topS 22)) (defScope (topS 22)) .none kV22 dc22 pm22 an22 cd22 ct22), sl22⟩) (c22 : PySem.W.codeIn K cd22 "dominates" = true) (k22 : PySem.W.keepIn K (.ref f22) = true)
    (a24 : PySem.W.nsIn K mainGlobals "_law_feed" = some (some (.ref f24))) (l24 : K.lookup f24 = some ⟨oc24, od24, .func (PySem.W.fnOf "_law_feed" "_law_feed" (defArgs (topS 24)) (defBody (topS 24)) (defScope (topS 24)) .none kV24 dc24 pm24 an24 cd24 ct24), sl24⟩) (c24 : PySem.W.codeIn K cd24 "_law_feed" = true) (k24 : PySem.W.keepIn K (.ref f24) = true)
    (a25 : PySem.W.nsIn K mainGlobals "_law_draw" = some (some (.ref f25))) (l25 : K.lookup f25 = some ⟨oc25, od25, .func (PySem.W.fnOf "_law_draw" "_law_draw" (defArgs (topS 25)) (defBody (topS 25)) (defScope (topS 25)) .none kV25 dc25 pm25 an25 cd25 ct25), sl25⟩) (c25 : PySem.W.codeIn K cd25 "_law_draw" = true) (k25 : PySem.W.keepIn K (.ref f25) = true)
    (a26 : PySem.W.nsIn K mainGlobals "_law_graph" = some (some (.ref f26))) (l26 : K.lookup f26 = some ⟨oc26, od26, .func (PySem.W.fnOf "_law_graph" "_law_graph" (defArgs (topS 26)) (defBody (topS 26)) (defScope (topS 26)) .none kV26 dc26 pm26 an26 cd26 ct26), sl26⟩) (c26 : PySem.W.codeIn K cd26 "_law_graph" = true) (k26 : PySem.W.keepIn K (.ref f26) = true)
    (a27 : PySem.W.nsIn K mainGlobals "_law_let" = some (some (.ref f27))) (l27 : K.lookup f27 = some ⟨oc27, od27, .func (PySem.W.fnOf "_law_let" "_law_let" (defArgs (topS 27)) (defBody (topS 27)) (defScope (topS 27)) .none kV27 dc27 pm27 an27 cd27 ct27), sl27⟩) (c27 : PySem.W.codeIn K cd27 "_law_let" = true) (k27 : PySem.W.keepIn K (.ref f27) = true)
    (a28 : PySem.W.nsIn K mainGlobals "_law_fences" = some (some (.ref f28))) (l28 : K.lookup f28 = some ⟨oc28, od28, .func (PySem.W.fnOf "_law_fences" "_law_fences" (defArgs (topS 28)) (defBody (topS 28)) (defScope (topS 28)) .none kV28 dc28 pm28 an28 cd28 ct28), sl28⟩) (c28 : PySem.W.codeIn K cd28 "_law_fences" = true) (k28 : PySem.W.keepIn K (.ref f28) = true)
    (a29 : PySem.W.nsIn K mainGlobals "_law_ways" = some (some (.ref f29))) (l29 : K.lookup f29 = some ⟨oc29, od29, .func (PySem.W.fnOf "_law_ways" "_law_ways" (defArgs (topS 29)) (defBody (topS 29)) (defScope (topS 29)) .none kV29 dc29 pm29 an29 cd29 ct29), sl29⟩) (c29 : PySem.W.codeIn K cd29 "_law_ways" = true) (k29 : PySem.W.keepIn K (.ref f29) = true)
    (a30 : PySem.W.nsIn K mainGlobals "_law_right" = some (some (.ref f30))) (l30 : K.lookup f30 = some ⟨oc30, od30, .func (PySem.W.fnOf "_law_right" "_law_right" (defArgs (topS 30)) (defBody (topS 30)) (defScope (topS 30)) .none kV30 dc30 pm30 an30 cd30 ct30), sl30⟩) (c30 : PySem.W.codeIn K cd30 "_law_right" = true) (k30 : PySem.W.keepIn K (.ref f30) = true)
    (a31 : PySem.W.nsIn K mainGlobals "_law_more_right" = some (some (.ref f31))) (l31 : K.lookup f31 = some ⟨oc31, od31, .func (PySem.W.fnOf "_law_more_right" "_law_more_right" (defArgs (topS 31)) (defBody (topS 31)) (defScope (topS 31)) .none kV31 dc31 pm31 an31 cd31 ct31), sl31⟩) (c31 : PySem.W.codeIn K cd31 "_law_more_right" = true) (k31 : PySem.W.keepIn K (.ref f31) = true)
    (a32 : PySem.W.nsIn K mainGlobals "law" = some (some (.ref f32))) (l32 : K.lookup f32 = some ⟨oc32, od32, .func (PySem.W.fnOf "law" "law" (defArgs (topS 32)) (defBody (topS 32)) (defScope (topS 32)) .none kV32 dc32 pm32 an32 cd32 ct32), sl32⟩) (c32 : PySem.W.codeIn K cd32 "law" = true) (k32 : PySem.W.keepIn K (.ref f32) = true)
    (e8_30 : cd30 = .ref c8_30)
    (aC_NoPaper : PySem.W.nsIn K mainGlobals "NoPaper" = some (some (.ref C_NoPaper)))
    (xC_NoPaper : K.lookup C_NoPaper = some (excClassObj nm_NoPaper q_NoPaper C_NoPaper N_NoPaper bs_NoPaper [.ref C_WayError, .type "ValueError", .type "Exception", .type "BaseException", .type "object"] true sn_NoPaper sub_NoPaper ab_NoPaper col_NoPaper dd_NoPaper m0_NoPaper m1_NoPaper m2_NoPaper m3_NoPaper m5_NoPaper "ValueError.__new__"))
    (sa_NoPaper : PySem.W.findIn K (.ref C_NoPaper) "__setattr__" = some (some (.builtin "object.__setattr__")))
    (eC_NoPaper : PySem.W.subIn K (.ref C_NoPaper) (.type "BaseException") = some true)
    (tC_NoPaper : PySem.W.typeIn K (.ref C_NoPaper) = some (.type "type"))
    (kC_NoPaper : PySem.W.keepIn K (.ref C_NoPaper) = true)
    (iC_NoPaper : PySem.W.findIn K (.ref C_NoPaper) "__init__" = some (some (.ref fI_NoPaper)))
    (tI_NoPaper : PySem.W.typeIn K (.ref fI_NoPaper) = some (.type "function"))
    (no_NoPaper_word : PySem.W.findIn K (.ref C_NoPaper) "word" = some none)
    (no_NoPaper_at : PySem.W.findIn K (.ref C_NoPaper) "at" = some none)
    (lI_NoPaper : K.lookup fI_NoPaper = some ⟨ocI_NoPaper, odI_NoPaper, .func (PySem.W.fnOf "__init__" "NoPaper.__init__" (defArgs (mthS 3 0)) (defBody (mthS 3 0)) (defScope (mthS 3 0)) .none kVI_NoPaper dcI_NoPaper pmI_NoPaper anI_NoPaper cdI_NoPaper ctI_NoPaper), slI_NoPaper⟩)
    (cI_NoPaper : PySem.W.codeIn K cdI_NoPaper "NoPaper.__init__" = true)
    (kI_NoPaper : PySem.W.keepIn K (.ref fI_NoPaper) = true)
    (hC : PySem.W.hasDictIn K C_NoPaper = true)
    (sCC : PySem.W.subIn K (.ref C_NoPaper) (.ref C_NoPaper) = some true)
    (z0 : PySem.W.nsIn K mainGlobals "all" = some none) (z1 : PySem.W.nsIn K mainGlobals "bool" = some none) (z2 : PySem.W.nsIn K mainGlobals "enumerate" = some none) (z3 : PySem.W.nsIn K mainGlobals "int" = some none) (z4 : PySem.W.nsIn K mainGlobals "isinstance" = some none) (z5 : PySem.W.nsIn K mainGlobals "len" = some none) (z6 : PySem.W.nsIn K mainGlobals "range" = some none) (z7 : PySem.W.nsIn K mainGlobals "set" = some none) (z8 : PySem.W.nsIn K mainGlobals "sorted" = some none) (z9 : PySem.W.nsIn K mainGlobals "tuple" = some none) (z10 : PySem.W.nsIn K mainGlobals "zip" = some none) :
    ∃ fd : FuncData, (∀ (s : Shared) (v : Value), BindsTo s fd ⟨[v], []⟩ [("_law_script", v)]) ∧ ∀ base : Heap, K.In base → base.Ns mainGlobals mg → (∀ p ∈ ([(c8_30, 196)] : List (Addr × Addr)), LamX.TabB base mg p.1 p.2) → FnD l.prog w K mg base 8 fa fd ["_law_script"] (G_law_k15 G_law_draw_k01) := by
  have e := hfa.symm.trans (PySem.W.mg_of X G a32)
  cases e
  have B : Bn mg := ⟨PySem.W.mg_none_of X G z0, PySem.W.mg_none_of X G z1, PySem.W.mg_none_of X G z2, PySem.W.mg_none_of X G z3, PySem.W.mg_none_of X G z4, PySem.W.mg_none_of X G z5, PySem.W.mg_none_of X G z6, PySem.W.mg_none_of X G z7, PySem.W.mg_none_of X G z8, PySem.W.mg_none_of X G z9, PySem.W.mg_none_of X G z10⟩
  have F6 := fun_mk (st := (topS 6)) l6 c6 k6
  have D6 : Df K mg "is_number" (topS 6) ["thing"] f6 _ := ⟨F6, F6.binds (ps := ["thing"]) fun _ _ _ _ _ _ us hl => match us, hl with | [_], _ => rfl, PySem.W.mg_of X G a6⟩
  have F8 := fun_mk (st := (topS 8)) l8 c8 k8
  have D8 : Df K mg "blocks_of" (topS 8) ["code", "name"] f8 _ := ⟨F8, F8.binds (ps := ["code", "name"]) fun _ _ _ _ _ _ us hl => match us, hl with | [_, _], _ => rfl, PySem.W.mg_of X G a8⟩
  have F10 := fun_mk (st := (topS 10)) l10 c10 k10
  have D10 : Df K mg "goals" (topS 10) ["end"] f10 _ := ⟨F10, F10.binds (ps := ["end"]) fun _ _ _ _ _ _ us hl => match us, hl with | [_], _ => rfl, PySem.W.mg_of X G a10⟩
  have F11 := fun_mk (st := (topS 11)) l11 c11 k11
  have D11 : Df K mg "nexts" (topS 11) ["code", "name", "block"] f11 _ := ⟨F11, F11.binds (ps := ["code", "name", "block"]) fun _ _ _ _ _ _ us hl => match us, hl with | [_, _, _], _ => rfl, PySem.W.mg_of X G a11⟩
  have F12 := fun_mk (st := (topS 12)) l12 c12 k12
  have D12 : Df K mg "led_around" (topS 12) ["code", "name", "over"] f12 _ := ⟨F12, F12.binds (ps := ["code", "name", "over"]) fun _ _ _ _ _ _ us hl => match us, hl with | [_, _, _], _ => rfl, PySem.W.mg_of X G a12⟩
  have F14 := fun_mk (st := (topS 14)) l14 c14 k14
  have D14 : Df K mg "around" (topS 14) ["code", "name", "over", "under"] f14 _ := ⟨F14, F14.binds (ps := ["code", "name", "over", "under"]) fun _ _ _ _ _ _ us hl => match us, hl with | [_, _, _, _], _ => rfl, PySem.W.mg_of X G a14⟩
  have F15 := fun_mk (st := (topS 15)) l15 c15 k15
  have D15 : Df K mg "fence" (topS 15) ["code", "name", "over", "under"] f15 _ := ⟨F15, F15.binds (ps := ["code", "name", "over", "under"]) fun _ _ _ _ _ _ us hl => match us, hl with | [_, _, _, _], _ => rfl, PySem.W.mg_of X G a15⟩
  have F17 := fun_mk (st := (topS 17)) l17 c17 k17
  have D17 : Df K mg "is_numbers" (topS 17) ["thing"] f17 _ := ⟨F17, F17.binds (ps := ["thing"]) fun _ _ _ _ _ _ us hl => match us, hl with | [_], _ => rfl, PySem.W.mg_of X G a17⟩
  have F18 := fun_mk (st := (topS 18)) l18 c18 k18
  have D18 : Df K mg "lets_around" (topS 18) ["code", "name", "over", "under", "thing"] f18 _ := ⟨F18, F18.binds (ps := ["code", "name", "over", "under", "thing"]) fun _ _ _ _ _ _ us hl => match us, hl with | [_, _, _, _, _], _ => rfl, PySem.W.mg_of X G a18⟩
  have F19 := fun_mk (st := (topS 19)) l19 c19 k19
  have D19 : Df K mg "is_rising_blocks" (topS 19) ["code", "name", "thing"] f19 _ := ⟨F19, F19.binds (ps := ["code", "name", "thing"]) fun _ _ _ _ _ _ us hl => match us, hl with | [_, _, _], _ => rfl, PySem.W.mg_of X G a19⟩
  have F20 := fun_mk (st := (topS 20)) l20 c20 k20
  have D20 : Df K mg "lets_fence" (topS 20) ["code", "name", "over", "under", "thing"] f20 _ := ⟨F20, F20.binds (ps := ["code", "name", "over", "under", "thing"]) fun _ _ _ _ _ _ us hl => match us, hl with | [_, _, _, _, _], _ => rfl, PySem.W.mg_of X G a20⟩
  have F22 := fun_mk (st := (topS 22)) l22 c22 k22
  have D22 : Df K mg "dominates" (topS 22) ["code", "name", "over", "under"] f22 _ := ⟨F22, F22.binds (ps := ["code", "name", "over", "under"]) fun _ _ _ _ _ _ us hl => match us, hl with | [_, _, _, _], _ => rfl, PySem.W.mg_of X G a22⟩
  have F24 := fun_mk (st := (topS 24)) l24 c24 k24
  have D24 : Df K mg "_law_feed" (topS 24) ["_law_script"] f24 _ := ⟨F24, F24.binds (ps := ["_law_script"]) fun _ _ _ _ _ _ us hl => match us, hl with | [_], _ => rfl, PySem.W.mg_of X G a24⟩
  have F25 := fun_mk (st := (topS 25)) l25 c25 k25
  have D25 : Df K mg "_law_draw" (topS 25) ["_law_feed_here", "_law_many"] f25 _ := ⟨F25, F25.binds (ps := ["_law_feed_here", "_law_many"]) fun _ _ _ _ _ _ us hl => match us, hl with | [_, _], _ => rfl, PySem.W.mg_of X G a25⟩
  have F26 := fun_mk (st := (topS 26)) l26 c26 k26
  have D26 : Df K mg "_law_graph" (topS 26) ["_law_feed_here", "_law_most"] f26 _ := ⟨F26, F26.binds (ps := ["_law_feed_here", "_law_most"]) fun _ _ _ _ _ _ us hl => match us, hl with | [_, _], _ => rfl, PySem.W.mg_of X G a26⟩
  have F27 := fun_mk (st := (topS 27)) l27 c27 k27
  have D27 : Df K mg "_law_let" (topS 27) ["_law_ask"] f27 _ := ⟨F27, F27.binds (ps := ["_law_ask"]) fun _ _ _ _ _ _ us hl => match us, hl with | [_], _ => rfl, PySem.W.mg_of X G a27⟩
  have F28 := fun_mk (st := (topS 28)) l28 c28 k28
  have D28 : Df K mg "_law_fences" (topS 28) ["_law_many"] f28 _ := ⟨F28, F28.binds (ps := ["_law_many"]) fun _ _ _ _ _ _ us hl => match us, hl with | [_], _ => rfl, PySem.W.mg_of X G a28⟩
  have F29 := fun_mk (st := (topS 29)) l29 c29 k29
  have D29 : Df K mg "_law_ways" (topS 29) ["_law_code"] f29 _ := ⟨F29, F29.binds (ps := ["_law_code"]) fun _ _ _ _ _ _ us hl => match us, hl with | [_], _ => rfl, PySem.W.mg_of X G a29⟩
  have F30 := fun_mk (st := (topS 30)) l30 c30 k30
  have D30 : Df K mg "_law_right" (topS 30) ["_law_code", "_law_over", "_law_under", "_law_shuts", "_law_ways_here"] f30 _ := ⟨F30, F30.binds (ps := ["_law_code", "_law_over", "_law_under", "_law_shuts", "_law_ways_here"]) fun _ _ _ _ _ _ us hl => match us, hl with | [_, _, _, _, _], _ => rfl, PySem.W.mg_of X G a30⟩
  have F31 := fun_mk (st := (topS 31)) l31 c31 k31
  have D31 : Df K mg "_law_more_right" (topS 31) ["_law_code", "_law_over", "_law_under", "_law_many"] f31 _ := ⟨F31, F31.binds (ps := ["_law_code", "_law_over", "_law_under", "_law_many"]) fun _ _ _ _ _ _ us hl => match us, hl with | [_, _, _, _], _ => rfl, PySem.W.mg_of X G a31⟩
  have F32 := fun_mk (st := (topS 32)) l32 c32 k32
  have D32 : Df K mg "law" (topS 32) ["_law_script"] fa _ := ⟨F32, F32.binds (ps := ["_law_script"]) fun _ _ _ _ _ _ us hl => match us, hl with | [_], _ => rfl, PySem.W.mg_of X G a32⟩
  refine ⟨PySem.W.fnOf "law" "law" (defArgs (topS 32)) (defBody (topS 32)) (defScope (topS 32)) .none kV32 dc32 pm32 an32 cd32 ct32, fun s v => .of_eq rfl, fun base _ _ hTB => ?_⟩
  have FI_NoPaper := fun_mk (st := mthS 3 0) lI_NoPaper cI_NoPaper kI_NoPaper
  have bI_NoPaper := FI_NoPaper.binds (ps := ["self", "word", "at"]) fun _ _ _ _ _ _ us hl => match us, hl with | [_, _, _], _ => rfl
  have M_NoPaper : Mk2 K mg "NoPaper" "word" "at" C_NoPaper fI_NoPaper := ⟨⟨⟨nm_NoPaper, q_NoPaper, N_NoPaper, bs_NoPaper, _, sn_NoPaper, sub_NoPaper, ab_NoPaper, col_NoPaper, dd_NoPaper, m0_NoPaper, m1_NoPaper, m2_NoPaper, m3_NoPaper, m5_NoPaper, xC_NoPaper, by rfl⟩, sa_NoPaper, eC_NoPaper, tC_NoPaper, kC_NoPaper⟩, PySem.W.mg_of X G aC_NoPaper, iC_NoPaper, tI_NoPaper, no_NoPaper_word, no_NoPaper_at⟩
  have I_NoPaper := okI_NoPaper (P := l.prog) (w := w) (base := base) M_NoPaper FI_NoPaper
  have T : PapZ K mg C_NoPaper := ⟨PySem.W.mg_of X G aC_NoPaper, T_take (PySem.W.mg_of X G aC_NoPaper) (PySem.W.exm_ref eC_NoPaper hC tC_NoPaper sCC)⟩
  have G6 : FnD l.prog w K mg base 1 f6 _ ["thing"] (G_is_number) := ok_is_number (k := 0) (P := l.prog) (w := w) (base := base) D6 B
  have G8 : FnD l.prog w K mg base 1 f8 _ ["code", "name"] (G_blocks_of) := ok_blocks_of (k := 0) (P := l.prog) (w := w) (base := base) D8 B
  have G10 : FnD l.prog w K mg base 1 f10 _ ["end"] (G_goals) := ok_goals (k := 0) (P := l.prog) (w := w) (base := base) D10 B
  have G11 : FnD l.prog w K mg base 2 f11 _ ["code", "name", "block"] (G_nexts) := ok_nexts (k := 1) (P := l.prog) (w := w) (base := base) D11 D8 G8 (by decide) D10 G10 (by decide) B
  have G12 : FnD l.prog w K mg base 3 f12 _ ["code", "name", "over"] (G_led_around) := ok_led_around (k := 2) (P := l.prog) (w := w) (base := base) D12 D11 G11 (by decide) B
  have G14 : FnD l.prog w K mg base 4 f14 _ ["code", "name", "over", "under"] (G_around) := ok_around (k := 3) (P := l.prog) (w := w) (base := base) D14 D12 G12 (by decide) B
  have G15 : FnD l.prog w K mg base 4 f15 _ ["code", "name", "over", "under"] (G_fence) := ok_fence (k := 3) (P := l.prog) (w := w) (base := base) D15 D12 G12 (by decide) B
  have G17 : FnD l.prog w K mg base 2 f17 _ ["thing"] (G_is_numbers) := ok_is_numbers (k := 1) (P := l.prog) (w := w) (base := base) D17 D6 G6 (by decide) B
  have G18 : FnD l.prog w K mg base 3 f18 _ ["code", "name", "over", "under", "thing"] (G_lets_around) := ok_lets_around (k := 2) (P := l.prog) (w := w) (base := base) D18 D17 G17 (by decide) D11 G11 (by decide) B M_NoPaper I_NoPaper bI_NoPaper (by decide)
  have G19 : FnD l.prog w K mg base 3 f19 _ ["code", "name", "thing"] (G_is_rising_blocks) := ok_is_rising_blocks (k := 2) (P := l.prog) (w := w) (base := base) D19 D17 G17 (by decide) D8 G8 (by decide) B
  have G20 : FnD l.prog w K mg base 4 f20 _ ["code", "name", "over", "under", "thing"] (G_lets_fence) := ok_lets_fence (k := 3) (P := l.prog) (w := w) (base := base) D20 D19 G19 (by decide) D11 G11 (by decide) B M_NoPaper I_NoPaper bI_NoPaper (by decide)
  have G22 : FnD l.prog w K mg base 4 f22 _ ["code", "name", "over", "under"] (G_dominates) := ok_dominates (k := 3) (P := l.prog) (w := w) (base := base) D22 D12 G12 (by decide) B
  have G24 : FnD l.prog w K mg base 1 f24 _ ["_law_script"] (G_law_feed_k01) := ok_law_feed_k01 (k := 0) (P := l.prog) (w := w) (base := base) D24 B
  have G25 : FnD l.prog w K mg base 1 f25 _ ["_law_feed_here", "_law_many"] (G_law_draw_k01) := ok_law_draw_k01 (k := 0) (P := l.prog) (w := w) (base := base) D25 B
  have G26 : FnD l.prog w K mg base 2 f26 _ ["_law_feed_here", "_law_most"] (G_law_graph G_law_draw_k01) := ok_law_graph (k := 1) (P := l.prog) (w := w) (base := base) D26 D25 G25 (by decide) B
  have G27 : LamD l.prog w K mg base 1 "_law_let" (topS 27) N_law_let_k15 "_law_ask" f27 _ n_law_let_k15 := ok_law_let_k15 (k := 1) (P := l.prog) (w := w) (base := base) D27 B T
  have G28 : FnD l.prog w K mg base 1 f28 _ ["_law_many"] (G_law_fences) := ok_law_fences (k := 0) (P := l.prog) (w := w) (base := base) D28 B
  have G29 : FnD l.prog w K mg base 3 f29 _ ["_law_code"] (G_law_ways_k15) := ok_law_ways_k15 (k := 2) (P := l.prog) (w := w) (base := base) D29 D11 G11 (by decide) B
  have G30 : FnD l.prog w K mg base 7 f30 _ ["_law_code", "_law_over", "_law_under", "_law_shuts", "_law_ways_here"] (G_law_right_k15) := ok_law_right_k15 (k := 6) (P := l.prog) (w := w) (base := base) D30 D22 G22 (by decide) D27 G27 (by decide) D20 G20 (by decide) D18 G18 (by decide) D14 G14 (by decide) D15 G15 (by decide) B ⟨_, _, _, _, l30, e8_30⟩ (hTB (_, 196) (by simp)) (by decide)
  have G31 : FnD l.prog w K mg base 5 f31 _ ["_law_code", "_law_over", "_law_under", "_law_many"] (G_law_more_right) := ok_law_more_right (k := 4) (P := l.prog) (w := w) (base := base) D31 D14 G14 (by decide) D15 G15 (by decide) D20 G20 (by decide) D18 G18 (by decide) B
  have G32 : FnD l.prog w K mg base 8 fa _ ["_law_script"] (G_law_k15 G_law_draw_k01) := ok_law_k15 (k := 7) (P := l.prog) (w := w) (base := base) D32 D24 G24 (by decide) D26 G26 (by decide) D28 G28 (by decide) D29 G29 (by decide) D30 G30 (by decide) D31 G31 (by decide) B
  exact G32
end Pm
open PySem PySem.W PyProof.Rows
set_option maxRecDepth 100000 in
set_option maxHeartbeats 0 in
theorem PySem.Challenge.cw_storeways_k15_whole_around_or_fence_holds : PySem.Challenge.rw_storeways_k15_whole_around_or_fence.Holds := by
  w_on; o_law; k_head; (case hw => w_witness2)
  k_fill
  refine' Pm.walkT (cs := [(_, 196)]) (l := PySem.Challenge.rw_storeways_k15_whole_around_or_fence) (n := 63) (k := 8) (x := "_law_script") (g := Pm.G_law_k15 Pm.G_law_draw_k01) rfl (by decide) rfl ⟨rfl, by decide, by decide⟩ (fun w h Y => km_in_of Y) rfl (fun w h Y => ?T) ?O ?C ?F Pm.law_k15_true
  case F =>
    intro w mg fa h KX G hmg
    refine' Pm.all_mk KX G hmg ?a6 ?l6 ?c6 ?k6 ?a8 ?l8 ?c8 ?k8 ?a10 ?l10 ?c10 ?k10 ?a11 ?l11 ?c11 ?k11 ?a12 ?l12 ?c12 ?k12 ?a14 ?l14 ?c14 ?k14 ?a15 ?l15 ?c15 ?k15 ?a17 ?l17 ?c17 ?k17 ?a18 ?l18 ?c18 ?k18 ?a19 ?l19 ?c19 ?k19 ?a20 ?l20 ?c20 ?k20 ?a22 ?l22 ?c22 ?k22 ?a24 ?l24 ?c24 ?k24 ?a25 ?l25 ?c25 ?k25 ?a26 ?l26 ?c26 ?k26 ?a27 ?l27 ?c27 ?k27 ?a28 ?l28 ?c28 ?k28 ?a29 ?l29 ?c29 ?k29 ?a30 ?l30 ?c30 ?k30 ?a31 ?l31 ?c31 ?k31 ?a32 ?l32 ?c32 ?k32 ?e8_30 ?aC_NoPaper ?xC_NoPaper ?sa_NoPaper ?eC_NoPaper ?tC_NoPaper ?kC_NoPaper ?iC_NoPaper ?tI_NoPaper ?no_NoPaper_word ?no_NoPaper_at ?lI_NoPaper ?cI_NoPaper ?kI_NoPaper ?hC ?sCC ?z0 ?z1 ?z2 ?z3 ?z4 ?z5 ?z6 ?z7 ?z8 ?z9 ?z10
    (case a6 => first | k_is | rfl | decide +kernel); (case l6 => first | k_is | rfl | decide +kernel); (case c6 => first | k_is | rfl | decide +kernel); (case k6 => first | k_is | rfl | decide +kernel); (case a8 => first | k_is | rfl | decide +kernel); (case l8 => first | k_is | rfl | decide +kernel); (case c8 => first | k_is | rfl | decide +kernel); (case k8 => first | k_is | rfl | decide +kernel)
    (case a10 => first | k_is | rfl | decide +kernel); (case l10 => first | k_is | rfl | decide +kernel); (case c10 => first | k_is | rfl | decide +kernel); (case k10 => first | k_is | rfl | decide +kernel); (case a11 => first | k_is | rfl | decide +kernel); (case l11 => first | k_is | rfl | decide +kernel); (case c11 => first | k_is | rfl | decide +kernel); (case k11 => first | k_is | rfl | decide +kernel)
    (case a12 => first | k_is | rfl | decide +kernel); (case l12 => first | k_is | rfl | decide +kernel); (case c12 => first | k_is | rfl | decide +kernel); (case k12 => first | k_is | rfl | decide +kernel); (case a14 => first | k_is | rfl | decide +kernel); (case l14 => first | k_is | rfl | decide +kernel); (case c14 => first | k_is | rfl | decide +kernel); (case k14 => first | k_is | rfl | decide +kernel)
    (case a15 => first | k_is | rfl | decide +kernel); (case l15 => first | k_is | rfl | decide +kernel); (case c15 => first | k_is | rfl | decide +kernel); (case k15 => first | k_is | rfl | decide +kernel); (case a17 => first | k_is | rfl | decide +kernel); (case l17 => first | k_is | rfl | decide +kernel); (case c17 => first | k_is | rfl | decide +kernel); (case k17 => first | k_is | rfl | decide +kernel)
    (case a18 => first | k_is | rfl | decide +kernel); (case l18 => first | k_is | rfl | decide +kernel); (case c18 => first | k_is | rfl | decide +kernel); (case k18 => first | k_is | rfl | decide +kernel); (case a19 => first | k_is | rfl | decide +kernel); (case l19 => first | k_is | rfl | decide +kernel); (case c19 => first | k_is | rfl | decide +kernel); (case k19 => first | k_is | rfl | decide +kernel)
    (case a20 => first | k_is | rfl | decide +kernel); (case l20 => first | k_is | rfl | decide +kernel); (case c20 => first | k_is | rfl | decide +kernel); (case k20 => first | k_is | rfl | decide +kernel); (case a22 => first | k_is | rfl | decide +kernel); (case l22 => first | k_is | rfl | decide +kernel); (case c22 => first | k_is | rfl | decide +kernel); (case k22 => first | k_is | rfl | decide +kernel)
    (case a24 => first | k_is | rfl | decide +kernel); (case l24 => first | k_is | rfl | decide +kernel); (case c24 => first | k_is | rfl | decide +kernel); (case k24 => first | k_is | rfl | decide +kernel); (case a25 => first | k_is | rfl | decide +kernel); (case l25 => first | k_is | rfl | decide +kernel); (case c25 => first | k_is | rfl | decide +kernel); (case k25 => first | k_is | rfl | decide +kernel)
    (case a26 => first | k_is | rfl | decide +kernel); (case l26 => first | k_is | rfl | decide +kernel); (case c26 => first | k_is | rfl | decide +kernel); (case k26 => first | k_is | rfl | decide +kernel); (case a27 => first | k_is | rfl | decide +kernel); (case l27 => first | k_is | rfl | decide +kernel); (case c27 => first | k_is | rfl | decide +kernel); (case k27 => first | k_is | rfl | decide +kernel)
    (case a28 => first | k_is | rfl | decide +kernel); (case l28 => first | k_is | rfl | decide +kernel); (case c28 => first | k_is | rfl | decide +kernel); (case k28 => first | k_is | rfl | decide +kernel); (case a29 => first | k_is | rfl | decide +kernel); (case l29 => first | k_is | rfl | decide +kernel); (case c29 => first | k_is | rfl | decide +kernel); (case k29 => first | k_is | rfl | decide +kernel)
    (case a30 => first | k_is | rfl | decide +kernel); (case l30 => first | k_is | rfl | decide +kernel); (case c30 => first | k_is | rfl | decide +kernel); (case k30 => first | k_is | rfl | decide +kernel); (case a31 => first | k_is | rfl | decide +kernel); (case l31 => first | k_is | rfl | decide +kernel); (case c31 => first | k_is | rfl | decide +kernel); (case k31 => first | k_is | rfl | decide +kernel)
    (case a32 => first | k_is | rfl | decide +kernel); (case l32 => first | k_is | rfl | decide +kernel); (case c32 => first | k_is | rfl | decide +kernel); (case k32 => first | k_is | rfl | decide +kernel); (case e8_30 => first | k_is | rfl | decide +kernel); (case aC_NoPaper => first | k_is | rfl | decide +kernel); (case xC_NoPaper => first | k_is | rfl | decide +kernel); (case sa_NoPaper => first | k_is | rfl | decide +kernel)
    (case eC_NoPaper => first | k_is | rfl | decide +kernel); (case tC_NoPaper => first | k_is | rfl | decide +kernel); (case kC_NoPaper => first | k_is | rfl | decide +kernel); (case iC_NoPaper => first | k_is | rfl | decide +kernel); (case tI_NoPaper => first | k_is | rfl | decide +kernel); (case no_NoPaper_word => first | k_is | rfl | decide +kernel); (case no_NoPaper_at => first | k_is | rfl | decide +kernel); (case lI_NoPaper => first | k_is | rfl | decide +kernel)
    (case cI_NoPaper => first | k_is | rfl | decide +kernel); (case kI_NoPaper => first | k_is | rfl | decide +kernel); (case hC => first | k_is | rfl | decide +kernel); (case sCC => first | k_is | rfl | decide +kernel); (case z0 => first | k_is | rfl | decide +kernel); (case z1 => first | k_is | rfl | decide +kernel); (case z2 => first | k_is | rfl | decide +kernel); (case z3 => first | k_is | rfl | decide +kernel)
    (case z4 => first | k_is | rfl | decide +kernel); (case z5 => first | k_is | rfl | decide +kernel); (case z6 => first | k_is | rfl | decide +kernel); (case z7 => first | k_is | rfl | decide +kernel); (case z8 => first | k_is | rfl | decide +kernel); (case z9 => first | k_is | rfl | decide +kernel); (case z10 => first | k_is | rfl | decide +kernel)
  case T =>
    intro p hp
    have z := km_tabs_of Y
    simp only [List.mem_cons, List.not_mem_nil, or_false] at hp
    rcases hp with rfl <;> exact z _ (by decide)
  case O =>
    intro w p hp
    simp only [List.mem_cons, List.not_mem_nil, or_false] at hp
    rcases hp with rfl <;> rfl
  case C =>
    intro w p hp
    simp only [List.mem_cons, List.not_mem_nil, or_false] at hp
    rcases hp with rfl <;> rfl
